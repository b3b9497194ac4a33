import PyProof.Rows.All
import Wide.All
import OpenK.AllK
import Wide.FinOn
import HandS.ForMost
import HandS.Steps
import HandS.Wide
import HandS.Gcd
import HandS.Defaults
import HandS.ForExc
import HandS.IsInst
import HandS.Style
import HandS.ClsMeth
import HandS.NoneIn
import HandS.TryOnly
import HandS.More
import HandS.Zip
import HandS.TupAny
import HandS.EndTab
import PySem.Challenge.RW_lostland_k10_whole_kinds_that_stay
set_option Elab.async false
set_option linter.all false
set_option maxRecDepth 100000
set_option exponentiation.threshold 20000
namespace Px
open PySem PySem.Spec PyProof.Rows L2

/-! ### values as data -/
inductive D where
  | non
  | bl (b : Bool)
  | int (i : Int)
  | str (s : Str)
  | tup (xs : List D)
  | lst (xs : List D)
  | ins (C : Addr) (ns : List Str) (ds : List D)

section
variable (K : PySem.W.Frag) (M : Addr → Prop) (H : Hp)
mutual
/-- the value v stands for the datum -/
def Rep : D → V → Prop
  | .non, v => v = .non
  | .bl b, v => v = .bl b
  | .int i, v => v = .int i
  | .str s, v => v = .str s
  | .tup ds, v => ∃ a xs, v = .ref a ∧ SqT K H a xs ∧ Reps ds xs
  | .lst ds, v => ∃ a xs, v = .ref a ∧ ¬ M a ∧ Rd H a (.lst xs) ∧ Reps ds xs
  | .ins C ns ds, v => ∃ a dx fs, v = .ref a ∧ ¬ M a ∧ H a = some (.ins C dx fs) ∧ fs.map (·.1) = ns ∧ Reps ds (fs.map (·.2))
def Reps : List D → List V → Prop
  | [], xs => xs = []
  | d :: ds, xs => ∃ v r, xs = v :: r ∧ Rep d v ∧ Reps ds r
end
end

/-- all but the changing ones stays -/
def Ex (M : Addr → Prop) (H H' : Hp) : Prop := ∀ a o, H a = some o → ¬ M a → H' a = some o
theorem Ex.of {M : Addr → Prop} {H H' : Hp} (e : Same H H') : Ex M H H' := fun a o h _ => e a o h
theorem Ex.refl (M : Addr → Prop) (H : Hp) : Ex M H H := fun _ _ h _ => h
theorem Ex.trans {M : Addr → Prop} {H H1 H2 : Hp} (a : Ex M H H1) (b : Ex M H1 H2) : Ex M H H2 := fun c o h n => b c o (a c o h n) n

/-- what changes (lists alone), and what is known of it -/
structure Bg where
  M : Addr → Prop
  B : Hp → Prop
  isl : ∀ H a, B H → M a → (∃ xs, H a = some (.lst xs)) ∨ (∃ C dx fs, H a = some (.ins C dx fs)) ∨ ∃ ps, H a = some (.tbl ps)
  st : ∀ H H', B H → Same H H' → B H'
  fr : ∀ H d, B H → H d = none → ∀ H1 H2, B H1 → (∃ xs, H1 d = some (.lst xs)) → Ex (fun a => a = d) H1 H2 → B H2

section
variable {K : PySem.W.Frag} {G : Bg} {H H' : Hp}
/-- no tuple changes -/
def NoTup (M : Addr → Prop) (H : Hp) : Prop := ∀ a xs, M a → ¬ Rd H a (.tup xs)
theorem Bg.nt (b : G.B H) : NoTup G.M H := fun a xs m h => by
  rcases G.isl H a b m with ⟨ys, hy⟩ | ⟨C, dx, fs, hy⟩ | ⟨tb, hy⟩ <;> rcases h with h | ⟨o, h⟩ <;> (rw [hy] at h; cases h)
theorem rd_up {M : Addr → Prop} {a : Addr} {u : HO} (nm : ¬ M a) (e : Ex M H H') (h : Rd H a u) : Rd H' a u := by
  rcases h with h | ⟨o, h⟩
  · exact .inl (e _ _ h nm)
  · exact .inr ⟨o, e _ _ h nm⟩
theorem sqT_upC {M : Addr → Prop} {a : Addr} {xs : List V} (c : NoTup M H) (e : Ex M H H') (h : SqT K H a xs) : SqT K H' a xs := by
  rcases h with h | h
  · exact .inl (rd_up (fun m => c a xs m h) e h)
  · exact .inr h
section
variable {M : Addr → Prop}
mutual
theorem Rep.upC (b : NoTup M H) (e : Ex M H H') : ∀ {d : D} {v : V}, Rep K M H d v → Rep K M H' d v
  | .non, _, h => by unfold Rep at *; exact h
  | .bl _, _, h => by unfold Rep at *; exact h
  | .int _, _, h => by unfold Rep at *; exact h
  | .str _, _, h => by unfold Rep at *; exact h
  | .tup ds, v, h => by
    unfold Rep at *
    obtain ⟨a, xs, e1, e2, e3⟩ := h
    exact ⟨a, xs, e1, sqT_upC b e e2, Reps.upC b e e3⟩
  | .lst ds, v, h => by
    unfold Rep at *
    obtain ⟨a, xs, e1, n, e2, e3⟩ := h
    exact ⟨a, xs, e1, n, rd_up n e e2, Reps.upC b e e3⟩
  | .ins C ns ds, v, h => by
    unfold Rep at *
    obtain ⟨a, dx, fs, e1, n, e2, e3, e4⟩ := h
    exact ⟨a, dx, fs, e1, n, e _ _ e2 n, e3, Reps.upC b e e4⟩
theorem Reps.upC (b : NoTup M H) (e : Ex M H H') : ∀ {ds : List D} {xs : List V}, Reps K M H ds xs → Reps K M H' ds xs
  | [], _, h => by unfold Reps at *; exact h
  | d :: ds, xs, h => by
    unfold Reps at *
    obtain ⟨v, r, e1, e2, e3⟩ := h
    exact ⟨v, r, e1, Rep.upC b e e2, Reps.upC b e e3⟩
end
end
theorem Rep.up (b : G.B H) (e : Ex G.M H H') {d : D} {v : V} (r : Rep K G.M H d v) : Rep K G.M H' d v := r.upC (Bg.nt b) e
theorem Reps.up (b : G.B H) (e : Ex G.M H H') {ds : List D} {xs : List V} (r : Reps K G.M H ds xs) : Reps K G.M H' ds xs := r.upC (Bg.nt b) e
variable {M : Addr → Prop}
theorem rint (i : Int) : Rep K M H (.int i) (.int i) := by unfold Rep; rfl
theorem rbl (b : Bool) : Rep K M H (.bl b) (.bl b) := by unfold Rep; rfl
theorem rstr (s : Str) : Rep K M H (.str s) (.str s) := by unfold Rep; rfl
theorem rnon : Rep K M H .non .non := by unfold Rep; rfl
theorem rtup {ds : List D} {a : Addr} {xs : List V} (h : SqT K H a xs) (r : Reps K M H ds xs) : Rep K M H (.tup ds) (.ref a) := by unfold Rep; exact ⟨a, xs, rfl, h, r⟩
theorem rlst {ds : List D} {a : Addr} {xs : List V} (n : ¬ M a) (h : Rd H a (.lst xs)) (r : Reps K M H ds xs) : Rep K M H (.lst ds) (.ref a) := by unfold Rep; exact ⟨a, xs, rfl, n, h, r⟩
theorem rnil : Reps K M H [] [] := by unfold Reps; rfl
theorem rcons {d : D} {ds : List D} {v : V} {r : List V} (h : Rep K M H d v) (t : Reps K M H ds r) : Reps K M H (d :: ds) (v :: r) := by unfold Reps; exact ⟨v, r, rfl, h, t⟩
theorem int_of {i : Int} {v : V} (h : Rep K M H (.int i) v) : v = .int i := by unfold Rep at h; exact h
theorem bl_of {b : Bool} {v : V} (h : Rep K M H (.bl b) v) : v = .bl b := by unfold Rep at h; exact h
theorem str_of {s : Str} {v : V} (h : Rep K M H (.str s) v) : v = .str s := by unfold Rep at h; exact h
theorem non_of {v : V} (h : Rep K M H .non v) : v = .non := by unfold Rep at h; exact h
theorem tup_of {ds : List D} {v : V} (h : Rep K M H (.tup ds) v) : ∃ a xs, v = .ref a ∧ SqT K H a xs ∧ Reps K M H ds xs := by unfold Rep at h; exact h
theorem lst_of {ds : List D} {v : V} (h : Rep K M H (.lst ds) v) : ∃ a xs, v = .ref a ∧ ¬ M a ∧ Rd H a (.lst xs) ∧ Reps K M H ds xs := by unfold Rep at h; exact h
theorem ins_of {C : Addr} {ns : List Str} {ds : List D} {v : V} (h : Rep K M H (.ins C ns ds) v) : ∃ a dx fs, v = .ref a ∧ ¬ M a ∧ H a = some (.ins C dx fs) ∧ fs.map (·.1) = ns ∧ Reps K M H ds (fs.map (·.2)) := by unfold Rep at h; exact h
theorem rins {C a dx : Addr} {ns : List Str} {ds : List D} {fs : List (Str × V)} (n : ¬ M a) (h : H a = some (.ins C dx fs)) (e : fs.map (·.1) = ns) (r : Reps K M H ds (fs.map (·.2))) : Rep K M H (.ins C ns ds) (.ref a) := by unfold Rep; exact ⟨a, dx, fs, rfl, n, h, e, r⟩
theorem nil_of {xs : List V} (h : Reps K M H [] xs) : xs = [] := by unfold Reps at h; exact h
theorem cons_of {d : D} {ds : List D} {xs : List V} (h : Reps K M H (d :: ds) xs) : ∃ v r, xs = v :: r ∧ Rep K M H d v ∧ Reps K M H ds r := by unfold Reps at h; exact h
theorem Reps.len : ∀ {ds : List D} {xs : List V}, Reps K M H ds xs → xs.length = ds.length
  | [], _, h => by rw [nil_of h]; rfl
  | d :: ds, _, h => by
    obtain ⟨v, r, rfl, _, h⟩ := cons_of h
    simp [Reps.len h]
theorem Reps.at : ∀ {ds : List D} {xs : List V} {k : Nat} {d : D}, Reps K M H ds xs → ds[k]? = some d → ∃ v, xs[k]? = some v ∧ Rep K M H d v
  | [], _, _, _, _, e => by simp at e
  | d :: ds, _, 0, _, h, e => by
    obtain ⟨v, r, rfl, h1, _⟩ := cons_of h
    simp at e; subst e
    exact ⟨v, rfl, h1⟩
  | d :: ds, _, k + 1, _, h, e => by
    obtain ⟨v, r, rfl, _, h2⟩ := cons_of h
    obtain ⟨w, e1, e2⟩ := Reps.at (k := k) h2 (by simpa using e)
    exact ⟨w, by simpa using e1, e2⟩
theorem Reps.snoc {d : D} {v : V} : ∀ {ds : List D} {xs : List V}, Reps K M H ds xs → Rep K M H d v → Reps K M H (ds ++ [d]) (xs ++ [v])
  | [], _, h, r => by rw [nil_of h]; exact rcons r rnil
  | d0 :: ds, _, h, r => by
    obtain ⟨w, t, rfl, h1, h2⟩ := cons_of h
    exact rcons h1 (Reps.snoc h2 r)
theorem Reps.look : ∀ {fs : List (Str × V)} {ns : List Str} {ds : List D} {f : Str} {d : D}, fs.map (·.1) = ns → Reps K M H ds (fs.map (·.2)) → (ns.zip ds).lookup f = some d → ∃ v, fs.lookup f = some v ∧ Rep K M H d v
  | [], ns, ds, f, d, e, r, l => by
    subst e
    simp at l
  | (g, v) :: fs, ns, ds, f, d, e, r, l => by
    cases ds with
    | nil => simp at l
    | cons d0 ds =>
      obtain ⟨v', r', e', r1, r2⟩ := cons_of r
      cases e'
      subst e
      simp only [List.map_cons, List.zip_cons_cons, List.lookup_cons] at l ⊢
      by_cases hfg : (f == g) = true
      · rw [hfg] at l ⊢
        cases l
        exact ⟨v, rfl, r1⟩
      · have hfg' : (f == g) = false := by simpa using hfg
        rw [hfg'] at l ⊢
        exact Reps.look rfl r2 l
end

/-! ### fractions -/
abbrev fr (x : Rat) : D := .tup [.int x.num, .int (x.den : Int)]
def Sz (n : Nat) (i : Int) : Prop := i.natAbs < 2 ^ n
theorem Sz.mono {a b : Nat} {i : Int} (h : Sz a i) (l : a ≤ b) : Sz b i := Nat.lt_of_lt_of_le h (Nat.pow_le_pow_right (by decide) l)
theorem Sz.mul {a b : Nat} {i j : Int} (h : Sz a i) (k : Sz b j) : Sz (a + b) (i * j) := L2.wide_lt h k
theorem Sz.add {a b : Nat} {i j : Int} (h : Sz a i) (k : Sz b j) : Sz (max a b + 1) (i + j) := by
  have h1 := h.mono (Nat.le_max_left a b)
  have h2 := k.mono (Nat.le_max_right a b)
  unfold Sz at *
  rw [Nat.pow_succ]
  have := Int.natAbs_add_le i j
  omega
theorem Sz.neg {a : Nat} {i : Int} (h : Sz a i) : Sz a (-i) := by unfold Sz at *; rwa [Int.natAbs_neg]
theorem Sz.sub {a b : Nat} {i j : Int} (h : Sz a i) (k : Sz b j) : Sz (max a b + 1) (i - j) := by
  rw [Int.sub_eq_add_neg]; exact h.add k.neg
def SzR (n : Nat) (x : Rat) : Prop := Sz n x.num ∧ Sz n (x.den : Int)
/-! ### promises -/
/-- a display is laid -/
def TupEnd (Q : VK) (xs : List V) (H : Hp) : Prop := xs.length ≤ sizeLine ∧ ∀ p, H p = none → Q (.ref p) (upd H p (.tup xs))
def LstEnd (Q : VK) (xs : List V) (H : Hp) : Prop := xs.length ≤ sizeLine ∧ ∀ p, H p = none → Q (.ref p) (upd H p (.lst xs))
/-- called with data, hands back a datum; all stays as it was -/
def spT (K : PySem.W.Frag) {α : Type} (enc : α → List D) (pre : α → Prop) (post : α → D → Prop) : Sp := fun vs H Q _ =>
  ∃ (G : Bg) (x : α), G.B H ∧ Reps K G.M H (enc x) vs ∧ pre x ∧ ∀ d v H', post x d → Rep K G.M H' d v → Same H H' → G.B H' → Q v H'
section
variable {K : PySem.W.Frag} {G : Bg} {H : Hp} {σ : L2.St} {te ta tb : TE} {Q : VK} {D' : Ends} {t u : TS}
theorem k_val {v : V} (h : Val te σ H v) (q : Q v H) : te σ H Q := h Q q
theorem k_arg {v : V} {tr : TA} {Q : List V → Hp → Prop} (h : Val te σ H v) (q : tr σ H fun xs H2 => Q (v :: xs) H2) : tCons te tr σ H Q := h _ q
theorem k_argX {tr : TA} {Q : List V → Hp → Prop} (q : te σ H fun x H1 => tr σ H1 fun xs H2 => Q (x :: xs) H2) : tCons te tr σ H Q := q
theorem k_nil {Q : List V → Hp → Prop} (q : Q [] H) : tNil σ H Q := q
theorem k_call {sp : Sp} {dvs : List V} {E : XK} {t : TA} (q : t σ H fun vs H1 => sp (vs ++ dvs) H1 Q E) : tCall sp dvs E t σ H Q := q
theorem k_cb {r : List V → Hp → VK → Prop} {t : TA} (q : t σ H fun vs H1 => r vs H1 Q) : tCB r t σ H Q := q
theorem k_tup {t : TA} (q : t σ H fun xs H1 => TupEnd Q xs H1) : tTup t σ H Q := q
theorem k_lst {t : TA} (q : t σ H fun xs H1 => LstEnd Q xs H1) : tLst t σ H Q := q
theorem same_upd {H : Hp} {p : Addr} {o : HO} (h : H p = none) : Same H (upd H p o) := fun b x e => by
  rw [upd_ne (ne_of_none e h)]; exact e
/-- a new tuple -/
theorem k_tup_end {xs : List V} {ds : List D} (hB : G.B H) (r : Reps K G.M H ds xs) (q : ∀ v H', Rep K G.M H' (.tup ds) v → Same H H' → G.B H' → Q v H') (hl : Nat.ble ds.length 1000 = true := by rfl) :
    TupEnd Q xs H := by
  refine ⟨by rw [r.len]; exact Nat.le_trans (Nat.le_of_ble_eq_true hl) (by decide), fun p hp => ?_⟩
  have s := same_upd (o := .tup xs) hp
  have hB' := G.st _ _ hB s
  exact q _ _ (rtup (.inl (.inl upd_same)) (r.up hB (Ex.of s))) s hB'
/-- a new list, that is not going to change -/
theorem k_lst_end {xs : List V} {ds : List D} (hB : G.B H) (r : Reps K G.M H ds xs) (q : ∀ v H', Rep K G.M H' (.lst ds) v → Same H H' → G.B H' → Q v H') (hl : Nat.ble ds.length 1000 = true := by rfl) :
    LstEnd Q xs H := by
  refine ⟨by rw [r.len]; exact Nat.le_trans (Nat.le_of_ble_eq_true hl) (by decide), fun p hp => ?_⟩
  have s := same_upd (o := .lst xs) hp
  have hB' := G.st _ _ hB s
  have nm : ¬ G.M p := fun m => by
    rcases G.isl H p hB m with ⟨ys, hy⟩ | ⟨C, dx, fs, hy⟩ | ⟨tb, hy⟩ <;> (rw [hp] at hy; cases hy)
  exact q _ _ (rlst nm (.inl upd_same) (r.up hB (Ex.of s))) s hB'
/-- a promise used -/
theorem k_spT {α : Type} {enc : α → List D} {pre : α → Prop} {post : α → D → Prop} {vs : List V} {E : XK} (x : α) (hB : G.B H) (r : Reps K G.M H (enc x) vs) (hp : pre x)
    (q : ∀ d v H', post x d → Rep K G.M H' d v → Same H H' → G.B H' → Q v H') : spT K enc pre post vs H Q E := ⟨G, x, hB, r, hp, q⟩
/-! ### heap-neutral values -/
theorem v_op0 {g : Int → Int → V} {i j : Int} (ha : Val ta σ H (.int i)) (hb : Val tb σ H (.int j)) : Val (tOp (rI0 g) ta tb) σ H (g i j) := fun _ q => ha _ (hb _ ⟨i, j, rfl, rfl, q⟩)
theorem v_op {C : Int → Int → Prop} {g : Int → Int → V} {i j : Int} (ha : Val ta σ H (.int i)) (hb : Val tb σ H (.int j)) (c : C i j) : Val (tOp (rI C g) ta tb) σ H (g i j) := fun _ q => ha _ (hb _ ⟨i, j, rfl, rfl, c, q⟩)
theorem v_opB {g : Int → Int → Bool} {i j : Int} (ha : Val ta σ H (.int i)) (hb : Val tb σ H (.int j)) : Val (tOp (rI0 fun i j => .bl (g i j)) ta tb) σ H (.bl (g i j)) := fun _ q => ha _ (hb _ ⟨i, j, rfl, rfl, q⟩)
theorem v_un {g : Int → V} {i : Int} (ha : Val ta σ H (.int i)) : Val (tUn (rU g) ta) σ H (g i) := fun _ q => ha _ ⟨i, rfl, q⟩
theorem v_ixT {a : Addr} {xs : List V} {k : Nat} {w : V} (ha : Val ta σ H (.ref a)) (hb : Val tb σ H (.int (k : Int))) (h : SqT K H a xs) (e : xs[k]? = some w) : Val (tOp (rIxT K) ta tb) σ H w := fun _ q => ha _ (hb _ ⟨a, xs, _, w, rfl, rfl, h, atI_nat e, q⟩)
theorem v_eq {x y : V} (ha : Val ta σ H x) (hb : Val tb σ H y) (hs : scal x y = true) : Val (tOp rEq ta tb) σ H (.bl (decide (x = y))) := fun _ q => ha _ (hb _ ⟨hs, q⟩)
theorem a_test {b : Bool} (h : Val te σ H (.bl b)) : Ans (tTest te) σ H b := fun _ q => h _ ⟨b, rfl, q⟩
theorem a_B {b : Bool} (h : Val te σ H (.bl b)) : Ans (tB te) σ H b := fun _ q => h _ ⟨b, rfl, q⟩
theorem v_gcd {i j : Int} {t1 t2 : TE} (h1 : Val t1 σ H (.int i)) (h2 : Val t2 σ H (.int j)) : Val (tCB rGcd (tCons t1 (tCons t2 tNil))) σ H (.int ((Nat.gcd i.natAbs j.natAbs : Nat) : Int)) := fun _ q => h1 _ (h2 _ ⟨i, j, rfl, q⟩)
/-! ### statements -/
theorem k_if {c : TT} {b : Bool} (h : Ans c σ H b) (h1 : b = true → t D' σ H) (h2 : b = false → u D' σ H) : tIfS c t u D' σ H := by
  refine h _ ?_
  cases b with
  | true => rw [if_pos rfl]; exact h1 rfl
  | false => rw [if_neg Bool.false_ne_true]; exact h2 rfl
theorem k_seq (h : t { D' with nx := u D' } σ H) : tSeq t u D' σ H := h
theorem k_set {i : Nat} (h : te σ H fun v H1 => D'.nx (σ.set i (some v)) H1) : tAsg te (gName i) D' σ H := h
theorem k_ret (h : te σ H D'.rt) : tRet te D' σ H := h
theorem k_next (h : D'.nx σ H) : tNext D' σ H := h
end
section
variable {X : Cx}
def CDivU (_ j : Int) : Prop := j ≠ 0 ∧ j.natAbs.log2 < 9000
theorem op_fdivU : OpR X (binaryOp .FloorDiv) (rI CDivU fun i j => .int (i.fdiv j)) := opI fun _ _ _ _ _ _ _ hc q => floordiv_int hc.1 q (.inl (PyProof.noPylong_of_log2 hc.2))
end
theorem divU_of {i j : Int} {n : Nat} (h0 : j ≠ 0) (h : Sz n j) (hn : n ≤ 9000) : CDivU i j := by
  refine ⟨h0, ?_⟩
  have h1 : j.natAbs ≠ 0 := by omega
  rw [Nat.log2_lt h1]
  exact Nat.lt_of_lt_of_le h (Nat.pow_le_pow_right (by decide) hn)

/-- the mathematics: dividing by the signed common divisor -/
theorem frac_pos {p q : Int} (hq : 0 < q) : p.fdiv (Nat.gcd p.natAbs q.natAbs : Nat) = (Rat.divInt p q).num ∧ q.fdiv (Nat.gcd p.natAbs q.natAbs : Nat) = ((Rat.divInt p q).den : Int) := by
  have g0 : 0 < Nat.gcd p.natAbs q.natAbs := Nat.gcd_pos_of_pos_right _ (by omega)
  have eg : Int.gcd q p = Nat.gcd p.natAbs q.natAbs := by rw [Int.gcd_comm]; rfl
  constructor
  · rw [Rat.num_divInt, eg, Int.sign_eq_one_of_pos hq, Int.one_mul, Int.fdiv_eq_ediv_of_nonneg _ (by omega)]
  · rw [Rat.den_divInt, eg, if_neg (by omega), Int.fdiv_eq_ediv_of_nonneg _ (by omega)]
    rw [Int.natCast_ediv]
    congr 1
    omega
theorem frac_neg {p q : Int} (hq : q < 0) : p.fdiv (-(Nat.gcd p.natAbs q.natAbs : Nat)) = (Rat.divInt p q).num ∧ q.fdiv (-(Nat.gcd p.natAbs q.natAbs : Nat)) = ((Rat.divInt p q).den : Int) := by
  have h := @frac_pos (-p) (-q) (by omega)
  rw [Int.natAbs_neg, Int.natAbs_neg, Rat.neg_divInt_neg] at h
  have e1 : p.fdiv (-(Nat.gcd p.natAbs q.natAbs : Nat)) = (-p).fdiv (Nat.gcd p.natAbs q.natAbs : Nat) := by
    rw [← Int.neg_fdiv_neg, Int.neg_neg]
  have e2 : q.fdiv (-(Nat.gcd p.natAbs q.natAbs : Nat)) = (-q).fdiv (Nat.gcd p.natAbs q.natAbs : Nat) := by
    rw [← Int.neg_fdiv_neg, Int.neg_neg]
  rw [e1, e2]
  exact h
theorem gcd_sz {n : Nat} {p q : Int} (h : Sz n q) (hq : q ≠ 0) : Sz n (Nat.gcd p.natAbs q.natAbs : Nat) := by
  have : Nat.gcd p.natAbs q.natAbs ≤ q.natAbs := Nat.le_of_dvd (by omega) (Nat.gcd_dvd_right _ _)
  unfold Sz at *
  rw [Int.natAbs_natCast]
  omega
end Px

namespace Px
open PySem PySem.Spec PyProof.Rows L2

/-! ### what is never reached -/
section
variable {X : Cx} {e : Expr}
theorem pe_false : PE X e (fun _ _ _ => False) := ⟨fun _ _ _ _ _ _ no => no.elim⟩
theorem pt_false : PT X e (fun _ _ _ => False) := ⟨fun _ _ _ _ _ _ no => no.elim⟩
end
/-! ### a call with keywords alone -/
section
variable {X : Cx} {CX : CXT} {k : Nat} {f : Addr} {fd : FuncData} {ps ks : List Str} {sp : Sp} {E : XK} {x : Str} {p pos : Pos} {kws : List Keyword} {tk : TA} {g : List Value → List Value → List Value} {gV : List V → List V → List V}
theorem pe_callN0 (Fo : FnOk X.prog X.w X.K X.mg X.base CX k f fd ps sp) (room : Room k X.A) (glob : Gl X x) (at_ : X.mg x = some (.ref f)) (keep : PySem.W.keepIn X.K (.ref f) = true) (kb : KBn X.K fd ps 0 ks g gV)
    (px : Passes CX X E) (hw : PK X kws tk) (a1 : (backToKw pos (keywordEach kws X.env)).all (·.1.isSome) = true := by rfl) (a2 : (backToKw pos (keywordEach kws X.env)).filterMap (·.1) = ks := by rfl) (a3 : (x == ("__debug__" : Str)) = false := by decide)
    (a4 : ((backTo pos (starEach [] X.env)).any (·.1) || (backToKw pos (keywordEach kws X.env)).any (·.1.isNone)) = false := by rfl) : PE X (.Call (.Name x p) [] kws pos) (tCallN 0 ks.length sp gV E tNil tk) := by
  constructor; intro pins s σ H Q I h
  refine wpAny_Call_Name_kw (ld_glob I glob at_ (PySem.W.callWith_KW0 (h₀ := X.base) I.ok.mod.kin keep a1 (thn (hw.run pos pins s σ H _ I h) ?_) a4) a3)
  rintro ws s2 ⟨zs, H2, I2, rz, l1, l2, q2⟩
  rw [a2]
  exact ⟨I2.kIn, run_fnN (us := []) (vs := []) Fo room kb px I2 .nil rz rfl l2 q2⟩
end
theorem vals_getD {i : Nat} : ∀ {vs : List V} {us : List Value}, Vals vs us → ∀ i, L2.RelV (vs.getD i .non) (us.getD i .none)
  | _, _, .nil, i => by simp [L2.RelV]
  | _, _, .cons r t, 0 => by simpa using r
  | _, _, .cons r t, i + 1 => by simpa using vals_getD (i := i) t i
theorem vals_perm {vs : List V} {us : List Value} (r : Vals vs us) : ∀ perm : List Nat, Vals (perm.map fun i => vs.getD i .non) (perm.map fun i => us.getD i .none)
  | [] => .nil
  | i :: l => .cons (vals_getD (i := i) r i) (vals_perm r l)
def permV (perm : List Nat) : List V → List V → List V := fun vs zs => perm.map fun i => (vs ++ zs).getD i .non
def permU (perm : List Nat) : List Value → List Value → List Value := fun vs zs => perm.map fun i => (vs ++ zs).getD i .none
theorem kbn_of {K : PySem.W.Frag} {fd : FuncData} {ps ks : List Str} {n : Nat} (perm : List Nat) (h : ∀ us ws : List Value, us.length = n → ws.length = ks.length → bindArgs fd ⟨us, ks.zip ws⟩ = pure (ps.zip (permU perm us ws))) :
    KBn K fd ps n ks (permU perm) (permV perm) := ⟨fun _ us ws _ l1 l2 => .of_eq (h us ws l1 l2), fun r1 r2 => vals_perm (r1.append r2) perm⟩

/-! ### promises -/
def spF (K : PySem.W.Frag) {α : Type} (enc : α → List D) (pre : α → Prop) (f : α → D) : Sp := spT K enc pre fun x d => d = f x
section
variable {K : PySem.W.Frag} {G : Bg} {H : Hp} {σ : L2.St} {te ta tb : TE} {Q : VK} {D' : Ends} {t u : TS} {M : Addr → Prop}
theorem k_spF {α : Type} {enc : α → List D} {pre : α → Prop} {f : α → D} {vs : List V} {E : XK} (x : α) (hB : G.B H) (r : Reps K G.M H (enc x) vs) (hp : pre x)
    (q : ∀ v H', Rep K G.M H' (f x) v → Same H H' → G.B H' → Q v H') : spF K enc pre f vs H Q E := ⟨G, x, hB, r, hp, fun d v H' e r' s b => q v H' (e ▸ r') s b⟩
theorem k_opX {r : R2} (q : ta σ H fun x H1 => tb σ H1 fun y H2 => r x y H2 Q) : tOp r ta tb σ H Q := q
theorem k_callN {n m : Nat} {sp : Sp} {gV : List V → List V → List V} {E : XK} {t tk : TA} (q : t σ H fun vs H1 => tk σ H1 fun zs H2 => vs.length = n ∧ zs.length = m ∧ sp (gV vs zs) H2 Q E) : tCallN n m sp gV E t tk σ H Q := q
theorem f_op0 {g : Int → Int → V} {i j : Int} (q : Q (g i j) H) : rI0 g (.int i) (.int j) H Q := ⟨i, j, rfl, rfl, q⟩
theorem f_op {C : Int → Int → Prop} {g : Int → Int → V} {i j : Int} (c : C i j) (q : Q (g i j) H) : rI C g (.int i) (.int j) H Q := ⟨i, j, rfl, rfl, c, q⟩
theorem f_opB {g : Int → Int → Bool} {i j : Int} (q : Q (.bl (g i j)) H) : rI0 (fun i j => .bl (g i j)) (.int i) (.int j) H Q := ⟨i, j, rfl, rfl, q⟩
theorem dec_int (i j : Int) : decide (V.int i = V.int j) = decide (i = j) := by
  by_cases e : i = j
  · subst e; simp
  · rw [decide_eq_false e, decide_eq_false fun z => e (V.int.inj z)]
theorem dec_str (i j : Str) : decide (V.str i = V.str j) = decide (i = j) := by
  by_cases e : i = j
  · subst e; simp
  · rw [decide_eq_false e, decide_eq_false fun z => e (V.str.inj z)]
theorem f_eqI {i j : Int} (q : Q (.bl (decide (i = j))) H) : rEq (.int i) (.int j) H Q := ⟨rfl, by rw [dec_int]; exact q⟩
theorem f_neI {i j : Int} (q : Q (.bl (!decide (i = j))) H) : rNe (.int i) (.int j) H Q := ⟨rfl, by rw [dec_int]; exact q⟩
theorem f_eqS {i j : Str} (q : Q (.bl (decide (i = j))) H) : rEq (.str i) (.str j) H Q := ⟨rfl, by rw [dec_str]; exact q⟩
theorem f_neS {i j : Str} (q : Q (.bl (!decide (i = j))) H) : rNe (.str i) (.str j) H Q := ⟨rfl, by rw [dec_str]; exact q⟩
theorem v_eqI {i j : Int} (ha : Val ta σ H (.int i)) (hb : Val tb σ H (.int j)) : Val (tOp rEq ta tb) σ H (.bl (decide (i = j))) := fun _ q => ha _ (hb _ (f_eqI q))
theorem v_neI {i j : Int} (ha : Val ta σ H (.int i)) (hb : Val tb σ H (.int j)) : Val (tOp rNe ta tb) σ H (.bl (!decide (i = j))) := fun _ q => ha _ (hb _ (f_neI q))
theorem v_eqS {i j : Str} (ha : Val ta σ H (.str i)) (hb : Val tb σ H (.str j)) : Val (tOp rEq ta tb) σ H (.bl (decide (i = j))) := fun _ q => ha _ (hb _ (f_eqS q))
theorem v_neS {i j : Str} (ha : Val ta σ H (.str i)) (hb : Val tb σ H (.str j)) : Val (tOp rNe ta tb) σ H (.bl (!decide (i = j))) := fun _ q => ha _ (hb _ (f_neS q))
theorem v_eqSt {i j : Str} (ha : Val ta σ H (.str i)) (hb : Val tb σ H (.str j)) (e : i = j := by decide +kernel) : Val (tOp rEq ta tb) σ H (.bl true) := by
  have h := v_eqS ha hb
  rwa [decide_eq_true e] at h
theorem v_eqSf {i j : Str} (ha : Val ta σ H (.str i)) (hb : Val tb σ H (.str j)) (e : i ≠ j := by decide +kernel) : Val (tOp rEq ta tb) σ H (.bl false) := by
  have h := v_eqS ha hb
  rwa [decide_eq_false e] at h
theorem v_neSt {i j : Str} (ha : Val ta σ H (.str i)) (hb : Val tb σ H (.str j)) (e : i ≠ j := by decide +kernel) : Val (tOp rNe ta tb) σ H (.bl true) := by
  have h := v_neS ha hb
  rwa [decide_eq_false e] at h
theorem v_neSf {i j : Str} (ha : Val ta σ H (.str i)) (hb : Val tb σ H (.str j)) (e : i = j := by decide +kernel) : Val (tOp rNe ta tb) σ H (.bl false) := by
  have h := v_neS ha hb
  rwa [decide_eq_true e] at h
theorem v_eqIt {i j : Int} (ha : Val ta σ H (.int i)) (hb : Val tb σ H (.int j)) (e : i = j := by decide) : Val (tOp rEq ta tb) σ H (.bl true) := by
  have h := v_eqI ha hb
  rwa [decide_eq_true e] at h
theorem v_eqIf {i j : Int} (ha : Val ta σ H (.int i)) (hb : Val tb σ H (.int j)) (e : i ≠ j := by decide) : Val (tOp rEq ta tb) σ H (.bl false) := by
  have h := v_eqI ha hb
  rwa [decide_eq_false e] at h
theorem v_opBt {g : Int → Int → Bool} {i j : Int} (ha : Val ta σ H (.int i)) (hb : Val tb σ H (.int j)) (e : g i j = true := by decide) : Val (tOp (rI0 fun i j => .bl (g i j)) ta tb) σ H (.bl true) := fun Z q => ha _ (hb _ ⟨i, j, rfl, rfl, (show Z (V.bl (g i j)) H by rw [e]; exact q)⟩)
theorem v_opBf {g : Int → Int → Bool} {i j : Int} (ha : Val ta σ H (.int i)) (hb : Val tb σ H (.int j)) (e : g i j = false := by decide) : Val (tOp (rI0 fun i j => .bl (g i j)) ta tb) σ H (.bl false) := fun Z q => ha _ (hb _ ⟨i, j, rfl, rfl, (show Z (V.bl (g i j)) H by rw [e]; exact q)⟩)
theorem f_eqSt {i j : Str} (q : Q (.bl true) H) (e : i = j := by decide +kernel) : rEq (.str i) (.str j) H Q := f_eqS (by rw [decide_eq_true e]; exact q)
theorem f_eqSf {i j : Str} (q : Q (.bl false) H) (e : i ≠ j := by decide +kernel) : rEq (.str i) (.str j) H Q := f_eqS (by rw [decide_eq_false e]; exact q)
theorem f_eqIt {i j : Int} (q : Q (.bl true) H) (e : i = j := by decide) : rEq (.int i) (.int j) H Q := f_eqI (by rw [decide_eq_true e]; exact q)
theorem f_eqIf {i j : Int} (q : Q (.bl false) H) (e : i ≠ j := by decide) : rEq (.int i) (.int j) H Q := f_eqI (by rw [decide_eq_false e]; exact q)
theorem k_ifE {c : TT} (q : c σ H fun b H1 => if b = true then ta σ H1 Q else tb σ H1 Q) : tIf c ta tb σ H Q := q
theorem f_ixT {ds : List D} {v : V} {k : Nat} {d : D} (r : Rep K M H (.tup ds) v) (e : ds[k]? = some d) (q : ∀ w, Rep K M H d w → Q w H) : rIxT K v (.int (k : Int)) H Q := by
  obtain ⟨a, xs, rfl, h, rs⟩ := tup_of r
  obtain ⟨w, e1, e2⟩ := rs.at e
  exact ⟨a, xs, _, w, rfl, rfl, h, atI_nat e1, q w e2⟩
theorem f_ixL {ds : List D} {v : V} {k : Nat} {d : D} (r : Rep K M H (.lst ds) v) (e : ds[k]? = some d) (q : ∀ w, Rep K M H d w → Q w H) : rIxL K v (.int (k : Int)) H Q := by
  obtain ⟨a, xs, rfl, _, h, rs⟩ := lst_of r
  obtain ⟨w, e1, e2⟩ := rs.at e
  exact ⟨a, xs, _, w, rfl, rfl, .inl h, atI_nat e1, q w e2⟩
theorem v_ixI {ds : List D} {v : V} {k : Nat} {i : Int} (ha : Val ta σ H v) (r : Rep K M H (.tup ds) v) (hb : Val tb σ H (.int (k : Int))) (e : ds[k]? = some (.int i)) : Val (tOp (rIxT K) ta tb) σ H (.int i) :=
  fun _ q => ha _ (hb _ (f_ixT r e fun w hw => by rw [int_of hw]; exact q))
theorem v_ixB {ds : List D} {v : V} {k : Nat} {i : Bool} (ha : Val ta σ H v) (r : Rep K M H (.tup ds) v) (hb : Val tb σ H (.int (k : Int))) (e : ds[k]? = some (.bl i)) : Val (tOp (rIxT K) ta tb) σ H (.bl i) :=
  fun _ q => ha _ (hb _ (f_ixT r e fun w hw => by rw [bl_of hw]; exact q))
theorem v_ixS {ds : List D} {v : V} {k : Nat} {i : Str} (ha : Val ta σ H v) (r : Rep K M H (.tup ds) v) (hb : Val tb σ H (.int (k : Int))) (e : ds[k]? = some (.str i)) : Val (tOp (rIxT K) ta tb) σ H (.str i) :=
  fun _ q => ha _ (hb _ (f_ixT r e fun w hw => by rw [str_of hw]; exact q))
def rAbs : List V → Hp → VK → Prop := fun xs H Q => ∃ i, xs = [.int i] ∧ Q (.int (if i < 0 then -i else i)) H
def rInt : List V → Hp → VK → Prop := fun xs H Q => (∃ i, xs = [.int i] ∧ Q (.int i) H) ∨ ∃ k, xs = [.bl k] ∧ Q (.int (if k then 1 else 0)) H
theorem abs_eq (i : Int) : (if i < 0 then -i else i) = ((i.natAbs : Nat) : Int) := by
  split <;> omega
theorem v_abs {i : Int} (h : Val ta σ H (.int i)) : Val (tCB rAbs (tCons ta tNil)) σ H (.int ((i.natAbs : Nat) : Int)) := fun _ q => h _ ⟨i, rfl, by rw [abs_eq]; exact q⟩
theorem v_int {i : Int} (h : Val ta σ H (.int i)) : Val (tCB rInt (tCons ta tNil)) σ H (.int i) := fun _ q => h _ (.inl ⟨i, rfl, q⟩)
theorem v_intB {i : Bool} (h : Val ta σ H (.bl i)) : Val (tCB rInt (tCons ta tNil)) σ H (.int (b2i i)) := fun _ q => h _ (.inr ⟨i, rfl, by cases i <;> exact q⟩)
theorem f_abs {i : Int} (q : Q (.int ((i.natAbs : Nat) : Int)) H) : rAbs [.int i] H Q := ⟨i, rfl, by rw [abs_eq]; exact q⟩
theorem f_int {i : Int} (q : Q (.int i) H) : rInt [.int i] H Q := .inl ⟨i, rfl, q⟩
/-! tests, statements -/
theorem k_B {Q : Bool → Hp → Prop} (q : te σ H fun x H1 => ∃ c, x = .bl c ∧ Q c H1) : tB te σ H Q := q
theorem k_T {Q : Bool → Hp → Prop} (q : te σ H fun x H1 => ∃ c, x = .bl c ∧ Q c H1) : tTest te σ H Q := q
theorem k_not {t : TT} {Q : Bool → Hp → Prop} (q : t σ H fun c H1 => Q (!c) H1) : tNot t σ H Q := q
theorem k_and {t u : TT} {Q : Bool → Hp → Prop} (q : t σ H fun c H1 => if c = true then u σ H1 Q else Q false H1) : tAnd t u σ H Q := q
theorem k_or {t u : TT} {Q : Bool → Hp → Prop} (q : t σ H fun c H1 => if c = true then Q true H1 else u σ H1 Q) : tOr t u σ H Q := q
theorem k_ifX {c : TT} (q : c σ H fun b H1 => if b = true then t D' σ H1 else u D' σ H1) : tIfS c t u D' σ H := q
theorem k_ite {b : Bool} {A B : Prop} (h1 : b = true → A) (h2 : b = false → B) : if b = true then A else B := by
  cases b with
  | true => rw [if_pos rfl]; exact h1 rfl
  | false => rw [if_neg Bool.false_ne_true]; exact h2 rfl
theorem k_retN (h : D'.rt .non H) : tRetN D' σ H := h
end
/-! ### sizes -/
theorem cmul {a b : Nat} {i j : Int} (h : Sz a i) (k : Sz b j) (l : a + b ≤ 900000) : CMulW i j := wide_mul (h.mono (Nat.le_succ a)) (k.mono (Nat.le_succ b)) (by omega) (by omega) (by omega)
theorem sz_lit (n : Nat) (i : Int) (h : i.natAbs < 2 ^ n := by decide) : Sz n i := h
theorem sz_abs {n : Nat} {i : Int} (h : Sz n i) : Sz n ((i.natAbs : Nat) : Int) := by unfold Sz at *; rwa [Int.natAbs_natCast]
theorem sz_b2i (b : Bool) : Sz 1 (b2i b) := by cases b <;> (unfold Sz; decide)
theorem divInt_sz {n : Nat} {p q : Int} (hp : Sz n p) (hq : Sz n q) (h0 : q ≠ 0) : SzR n (Rat.divInt p q) := by
  have g0 : 0 < Int.gcd q p := Int.gcd_pos_of_ne_zero_left p h0
  constructor
  · rw [Rat.num_divInt]
    unfold Sz at *
    have h1 : (q.sign * p / (Int.gcd q p : Int)).natAbs ≤ (q.sign * p).natAbs := by
      rw [Int.natAbs_ediv_of_dvd]
      · exact Nat.div_le_self _ _
      · exact Int.dvd_mul_of_dvd_right (Int.gcd_dvd_right ..)
    rw [Int.natAbs_mul, Int.natAbs_sign_of_ne_zero h0, Nat.one_mul] at h1
    omega
  · rw [Rat.den_divInt, if_neg h0]
    unfold Sz at *
    rw [Int.natAbs_natCast]
    exact Nat.lt_of_le_of_lt (Nat.div_le_self _ _) hq
theorem den_ne (x : Rat) : ((x.den : Nat) : Int) ≠ 0 := by have := x.den_nz; omega
theorem rat_eq (x : Rat) : x = Rat.divInt x.num x.den := (Rat.num_divInt_den x).symm
theorem add_eq (x y : Rat) : x + y = Rat.divInt (x.num * y.den + y.num * x.den) (x.den * y.den) := by
  conv => lhs; rw [rat_eq x, rat_eq y, Rat.divInt_add_divInt _ _ (den_ne x) (den_ne y)]
theorem mul_eq (x y : Rat) : x * y = Rat.divInt (x.num * y.num) (x.den * y.den) := by
  conv => lhs; rw [rat_eq x, rat_eq y, Rat.divInt_mul_divInt]
theorem div_eq (x y : Rat) : x / y = Rat.divInt (x.num * y.den) (x.den * y.num) := by
  rw [Rat.div_def]
  conv => lhs; rw [rat_eq x, rat_eq y, Rat.inv_divInt, Rat.divInt_mul_divInt]
theorem den_mul_ne (x y : Rat) : ((x.den : Nat) : Int) * (y.den : Int) ≠ 0 := Int.mul_ne_zero (den_ne x) (den_ne y)
theorem SzR.mono {a b : Nat} {x : Rat} (h : SzR a x) (l : a ≤ b) : SzR b x := ⟨h.1.mono l, h.2.mono l⟩
theorem szr_add {a b n : Nat} {x y : Rat} (h : SzR a x) (k : SzR b y) (l : a + b + 1 ≤ n) : SzR n (x + y) := by
  rw [add_eq]
  exact divInt_sz (((h.1.mul k.2).add (k.1.mul h.2)).mono (by omega)) ((h.2.mul k.2).mono (by omega)) (den_mul_ne x y)
theorem szr_lit (n : Nat) (x : Rat) (h : (decide (x.num.natAbs < 2 ^ n) && decide (x.den < 2 ^ n)) = true := by decide +kernel) : SzR n x := by
  simp only [Bool.and_eq_true, decide_eq_true_eq] at h
  exact ⟨h.1, by unfold Sz; rw [Int.natAbs_natCast]; exact h.2⟩
theorem szr_neg {a : Nat} {x : Rat} (h : SzR a x) : SzR a (-x) := ⟨by rw [Rat.neg_num]; exact h.1.neg, by rw [Rat.neg_den]; exact h.2⟩
theorem szr_sub {a b n : Nat} {x y : Rat} (h : SzR a x) (k : SzR b y) (l : a + b + 1 ≤ n) : SzR n (x - y) := by
  rw [Rat.sub_eq_add_neg]; exact szr_add h (szr_neg k) l
theorem szr_mul {a b n : Nat} {x y : Rat} (h : SzR a x) (k : SzR b y) (l : a + b ≤ n) : SzR n (x * y) := by
  rw [mul_eq]
  exact divInt_sz ((h.1.mul k.1).mono l) ((h.2.mul k.2).mono l) (den_mul_ne x y)
theorem num_ne {y : Rat} (h : y ≠ 0) : y.num ≠ 0 := fun e => h (Rat.num_eq_zero.mp e)
theorem szr_div {a b n : Nat} {x y : Rat} (h : SzR a x) (k : SzR b y) (h0 : y ≠ 0) (l : a + b ≤ n) : SzR n (x / y) := by
  rw [div_eq]
  exact divInt_sz ((h.1.mul k.2).mono l) ((h.2.mul k.1).mono l) (Int.mul_ne_zero (den_ne x) (num_ne h0))
theorem is_fr (x : Rat) : (decide ((0 : Int) < (x.den : Int)) && decide (((Nat.gcd x.num.natAbs (x.den : Int).natAbs : Nat) : Int) = (1 : Int))) = true := by
  have h1 : (0 : Int) < (x.den : Int) := by have := x.den_nz; omega
  have h2 : Nat.gcd x.num.natAbs (x.den : Int).natAbs = 1 := by rw [Int.natAbs_natCast]; exact x.reduced
  rw [decide_eq_true h1, h2]; rfl
end Px

namespace Px
open PySem PySem.Spec PyProof.Rows L2

/-! ### a list that is being made -/
/-- nothing changes -/
def noM : Addr → Prop := fun _ => False
theorem same_of {H H' : Hp} (e : Ex noM H H') : Same H H' := fun a o h => e a o h fun z => z
theorem ex_of {M : Addr → Prop} {H H' : Hp} (e : Same H H') : Ex M H H' := Ex.of e
theorem Ex.imp {M M' : Addr → Prop} {H H' : Hp} (e : Ex M H H') (h : ∀ a, M a → M' a) : Ex M' H H' := fun a o q n => e a o q fun z => n (h a z)
def Bg.plus (G : Bg) (d : Addr) : Bg where
  M := fun a => G.M a ∨ a = d
  B := fun H => G.B H ∧ ∃ xs, H d = some (.lst xs)
  isl := fun H a b m => by
    rcases m with m | rfl
    · exact G.isl H a b.1 m
    · obtain ⟨_, xs, h⟩ := b
      exact .inl ⟨xs, h⟩
  st := fun H H' b s => ⟨G.st H H' b.1 s, let ⟨xs, h⟩ := b.2; ⟨xs, s _ _ h⟩⟩
  fr := fun H e b n H1 H2 b1 el x => ⟨G.fr H e b.1 n H1 H2 b1.1 el x, by
    obtain ⟨xs, h⟩ := b.2
    obtain ⟨ys, h1⟩ := b1.2
    exact ⟨ys, x _ _ h1 fun z => by subst z; rw [n] at h; cases h⟩⟩
section
variable {K : PySem.W.Frag} {G : Bg} {H H' : Hp} {M M' : Addr → Prop}
mutual
theorem Rep.widen (h : ∀ a o, H a = some o → M' a → M a) : ∀ {d : D} {v : V}, Rep K M H d v → Rep K M' H d v
  | .non, _, r => by unfold Rep at *; exact r
  | .bl _, _, r => by unfold Rep at *; exact r
  | .int _, _, r => by unfold Rep at *; exact r
  | .str _, _, r => by unfold Rep at *; exact r
  | .tup ds, v, r => by
    unfold Rep at *
    obtain ⟨a, xs, e1, e2, e3⟩ := r
    exact ⟨a, xs, e1, e2, Reps.widen h e3⟩
  | .lst ds, v, r => by
    unfold Rep at *
    obtain ⟨a, xs, e1, n, e2, e3⟩ := r
    have t : ∃ o, H a = some o := by
      rcases e2 with e | ⟨o, e⟩
      · exact ⟨_, e⟩
      · exact ⟨_, e⟩
    exact ⟨a, xs, e1, fun z => n (h _ _ t.choose_spec z), e2, Reps.widen h e3⟩
  | .ins C ns ds, v, r => by
    unfold Rep at *
    obtain ⟨a, dx, fs, e1, n, e2, e3, e4⟩ := r
    exact ⟨a, dx, fs, e1, fun z => n (h _ _ e2 z), e2, e3, Reps.widen h e4⟩
theorem Reps.widen (h : ∀ a o, H a = some o → M' a → M a) : ∀ {ds : List D} {xs : List V}, Reps K M H ds xs → Reps K M' H ds xs
  | [], _, r => by unfold Reps at *; exact r
  | d :: ds, xs, r => by
    unfold Reps at *
    obtain ⟨v, t, e1, e2, e3⟩ := r
    exact ⟨v, t, e1, Rep.widen h e2, Reps.widen h e3⟩
end
/-- a fact of before, within the making of the list at d -/
theorem Rep.enter {d : Addr} {x : D} {v : V} (hB : G.B H) (nd : H d = none) (r : Rep K G.M H x v) : Rep K (G.plus d).M (upd H d (.lst [])) x v := by
  have r1 : Rep K (G.plus d).M H x v := r.widen fun a o e m => by
    rcases m with m | rfl
    · exact m
    · rw [nd] at e; cases e
  refine r1.upC (fun a xs m h => ?_) (Ex.of (same_upd nd))
  rcases m with m | rfl
  · exact Bg.nt hB a xs m h
  · rcases h with h | ⟨o, h⟩ <;> (rw [nd] at h; cases h)
end
/-! ### comprehensions -/
section
variable {K : PySem.W.Frag} {G : Bg} {H : Hp} {σ : L2.St} {te : TE} {Q : VK} {W : Addr → Prop}
/-- what holds while the list at d is being made -/
structure Mk1 (K : PySem.W.Frag) (G : Bg) (W : Addr → Prop) (H : Hp) (P : Nat → D → Prop) (d : Addr) (i : Nat) (H' : Hp) : Prop where
  a : ∃ acc ds, H' d = some (.lst acc) ∧ Reps K (G.plus d).M H' ds acc ∧ ds.length = i ∧ ∀ k x, ds[k]? = some x → P k x
  e : Ex W H H'
  b : G.B H'
theorem Mk1.start {P : Nat → D → Prop} {d : Addr} (hB : G.B H) (nd : H d = none) : Mk1 K G W H P d 0 (upd H d (.lst [])) :=
  ⟨⟨[], [], upd_same, rnil, rfl, fun k x h => by simp at h⟩, Ex.of (same_upd nd), G.st _ _ hB (same_upd nd)⟩
theorem Mk1.bp {P : Nat → D → Prop} {d : Addr} {i : Nat} {H' : Hp} (m : Mk1 K G W H P d i H') : (G.plus d).B H' := ⟨m.b, let ⟨acc, _, h, _⟩ := m.a; ⟨acc, h⟩⟩
theorem Mk1.ep {P : Nat → D → Prop} {d : Addr} {i : Nat} {H' : Hp} (hW : ∀ a, W a → G.M a) (nd : H d = none) (m : Mk1 K G W H P d i H') : Ex (G.plus d).M (upd H d (.lst [])) H' := fun a o h n => by
  have n1 : a ≠ d := fun z => n (.inr z)
  rw [upd_ne n1] at h
  exact m.e a o h fun z => n (.inl (hW a z))
theorem Mk1.step {P : Nat → D → Prop} {d : Addr} {i : Nat} {H' H4 : Hp} {x : D} {v : V} (hW : ∀ a, W a → G.M a) (hB : G.B H) (nd : H d = none) (hi : i < 1000) (m : Mk1 K G W H P d i H') (hp : P i x) (r : Rep K (G.plus d).M H4 x v) (e : Ex W H' H4) (b : (G.plus d).B H4) :
    ∃ acc, H4 d = some (.lst acc) ∧ acc.length < sizeLine ∧ Mk1 K G W H P d (i + 1) (upd H4 d (.lst (acc ++ [v]))) := by
  obtain ⟨acc, ds, h1, h2, h3, h4⟩ := m.a
  have nW : ¬ W d := fun z => by
    rcases G.isl H d hB (hW d z) with ⟨ys, hy⟩ | ⟨C, dx, fs, hy⟩ | ⟨tb, hy⟩ <;> (rw [nd] at hy; cases hy)
  have g1 : H4 d = some (.lst acc) := e _ _ h1 nW
  have hl : acc.length = i := by rw [h2.len, h3]
  have ch : Ex (fun a => a = d) H4 (upd H4 d (.lst (acc ++ [v]))) := fun a o h n => by rw [upd_ne n]; exact h
  have chp : Ex (G.plus d).M H4 (upd H4 d (.lst (acc ++ [v]))) := ch.imp fun a z => .inr z
  have eW : Ex (G.plus d).M H' H4 := e.imp fun a z => .inl (hW a z)
  refine ⟨acc, g1, by rw [hl]; exact Nat.lt_of_lt_of_le hi (by decide), ⟨⟨acc ++ [v], ds ++ [x], upd_same, ?_, by simp [h3], fun k y hk => ?_⟩, fun a o h n => ?_, G.fr H d hB nd _ _ b.1 ⟨_, g1⟩ ch⟩⟩
  · have r1 := (h2.up m.bp eW).up b chp
    have r2 := r.up b chp
    exact r1.snoc r2
  · by_cases hk1 : k < ds.length
    · rw [List.getElem?_append_left hk1] at hk
      exact h4 k y hk
    · rw [List.getElem?_append_right (by omega)] at hk
      cases q : k - ds.length with
      | zero =>
        rw [q] at hk
        have : k = i := by omega
        cases hk
        rw [this]
        exact hp
      | succ j => rw [q] at hk; simp at hk
  · have n1 : a ≠ d := ne_of_none h nd
    rw [upd_ne n1]
    exact e _ _ (m.e a o h n) n
theorem Mk1.done {P : Nat → D → Prop} {d : Addr} {n : Nat} {H' : Hp} (hB : G.B H) (nd : H d = none) (m : Mk1 K G W H P d n H') :
    ∃ ds, ds.length = n ∧ (∀ k x, ds[k]? = some x → P k x) ∧ Rep K G.M H' (.lst ds) (.ref d) ∧ Ex W H H' ∧ G.B H' := by
  obtain ⟨acc, ds, h1, h2, h3, h4⟩ := m.a
  have nm : ¬ G.M d := fun z => by
    rcases G.isl H d hB z with ⟨ys, hy⟩ | ⟨C, dx, fs, hy⟩ | ⟨tb, hy⟩ <;> (rw [nd] at hy; cases hy)
  exact ⟨ds, h3, h4, rlst nm (.inl h1) (h2.widen fun a o e z => .inl z), m.e, m.b⟩
/-- [e for j in range(n)] -/
theorem k_lcR {n j : Nat} {vs : List Nat} (W : Addr → Prop) (hW : ∀ a, W a → G.M a) (hn : n ≤ 1000) (hB : G.B H) (P : Nat → D → Prop) (hw : ∀ x, wipe ((wipe σ vs).set j (some x)) vs = wipe σ vs)
    (body : ∀ d i H', i < n → H d = none → (G.plus d).B H' → Ex (G.plus d).M (upd H d (.lst [])) H' → ∀ Q' : VK, (∀ x v H4, P i x → Rep K (G.plus d).M H4 x v → Ex W H' H4 → (G.plus d).B H4 → Q' v H4) → te ((wipe σ vs).set j (some (.int (i : Int)))) H' Q')
    (fin : ∀ ds v H', ds.length = n → (∀ k x, ds[k]? = some x → P k x) → Rep K G.M H' (.lst ds) v → Ex W H H' → G.B H' → Q v H') {z : Int} (hz : z = (n : Int)) :
    ∃ i : Int, [V.int z] = [V.int i] ∧ -(2 ^ 62) ≤ i ∧ i < 2 ^ 62 ∧ (∀ D, H D = none → ∃ Wi : Nat → Nat → Hp → Prop, (∃ m, Wi 0 m (upd H D (.lst []))) ∧ ∀ i' m H, Wi i' m H →
      ((Itr 0 i.toNat).stop i' H ∧ Q (.ref D) H) ∨ ((Itr 0 i.toNat).go i' H ∧ ∃ Nx : Hp → Prop, (∀ H', Nx H' → ∃ m', m' < m ∧ Wi (i' + 1) m' H') ∧ ∀ x H', (Itr 0 i.toNat).yld i' H x H' → gName j x (wipe σ vs) H' fun σ2 H2 => wipe σ2 vs = wipe σ vs ∧ tYes σ2 H2 fun b H3 =>
        if b = true then te σ2 H3 fun y H4 => ∃ acc, H4 D = some (.lst acc) ∧ acc.length < sizeLine ∧ Nx (upd H4 D (.lst (acc ++ [y]))) else Nx H3)) := by
  subst hz
  refine ⟨(n : Int), rfl, by omega, by omega, fun d nd => ?_⟩
  have e : ((n : Int)).toNat = n := by omega
  rw [e]
  refine lc_range (lo := 0) (n := n) (fun i H' => Mk1 K G W H P d i H') (Mk1.start hB nd) (fun i H' hi m => ?_) (fun H' m => ?_)
  · refine ⟨hw _, ?_⟩
    show (if true = true then _ else Mk1 K G W H P d (i + 1) H')
    rw [if_pos rfl]
    rw [show (0 : Int) + (i : Int) = (i : Int) by omega]
    exact body d i H' hi nd m.bp (m.ep hW nd) _ fun x v H4 hp r ex b => m.step hW hB nd (by omega) hp r ex b
  · obtain ⟨ds, a1, a2, a3, a4, a5⟩ := m.done hB nd
    exact fin ds _ H' a1 a2 a3 a4 a5
/-- [e for j in xs], xs a list -/
theorem k_lcL {j : Nat} {vs : List Nat} {ds0 : List D} {v0 : V} (W : Addr → Prop) (hW : ∀ a, W a → G.M a) (hn : ds0.length ≤ 1000) (hB : G.B H) (r0 : Rep K G.M H (.lst ds0) v0) (P : Nat → D → Prop) (hw : ∀ x, wipe ((wipe σ vs).set j (some x)) vs = wipe σ vs)
    (body : ∀ d i x0 w0 H', ds0[i]? = some x0 → H d = none → (G.plus d).B H' → Ex (G.plus d).M (upd H d (.lst [])) H' → Rep K (G.plus d).M H' x0 w0 → ∀ Q' : VK, (∀ x v H4, P i x → Rep K (G.plus d).M H4 x v → Ex W H' H4 → (G.plus d).B H4 → Q' v H4) → te ((wipe σ vs).set j (some w0)) H' Q')
    (fin : ∀ ds v H', ds.length = ds0.length → (∀ k x, ds[k]? = some x → P k x) → Rep K G.M H' (.lst ds) v → Ex W H H' → G.B H' → Q v H') :
    ∃ a, v0 = .ref a ∧ (∃ xs, SqL K H a xs) ∧ (∀ D, H D = none → ∃ Wi : Nat → Nat → Hp → Prop, (∃ m, Wi 0 m (upd H D (.lst []))) ∧ ∀ i' m H, Wi i' m H →
      ((Itl K a).stop i' H ∧ Q (.ref D) H) ∨ ((Itl K a).go i' H ∧ ∃ Nx : Hp → Prop, (∀ H', Nx H' → ∃ m', m' < m ∧ Wi (i' + 1) m' H') ∧ ∀ x H', (Itl K a).yld i' H x H' → gName j x (wipe σ vs) H' fun σ2 H2 => wipe σ2 vs = wipe σ vs ∧ tYes σ2 H2 fun b H3 =>
        if b = true then te σ2 H3 fun y H4 => ∃ acc, H4 D = some (.lst acc) ∧ acc.length < sizeLine ∧ Nx (upd H4 D (.lst (acc ++ [y]))) else Nx H3)) := by
  obtain ⟨a, xs, rfl, nM, hr, rs⟩ := lst_of r0
  have sq : SqL K H a xs := .inl hr
  refine ⟨a, rfl, ⟨xs, sq⟩, fun d nd => ?_⟩
  refine lc_list (K := K) (a := a) (xs := xs) (fun i H' => Mk1 K G W H P d i H') (Mk1.start hB nd) (fun i H' _ m => ?_) (fun i w H' hi m => ?_) (fun H' m => ?_)
  · exact .inl (rd_up (fun z => nM (hW a z)) m.e hr)
  · have hil : i < ds0.length := by
      rw [← rs.len]
      exact (List.getElem?_eq_some_iff.mp hi).1
    obtain ⟨w', e1, e2⟩ := rs.at (List.getElem?_eq_getElem hil)
    rw [hi] at e1
    cases e1
    have e3 := (e2.enter hB nd).upC (Bg.nt (Mk1.bp (K := K) (W := W) (P := P) (Mk1.start hB nd))) (m.ep hW nd)
    refine ⟨hw _, ?_⟩
    show (if true = true then _ else Mk1 K G W H P d (i + 1) H')
    rw [if_pos rfl]
    exact body d i _ w H' (List.getElem?_eq_getElem hil) nd m.bp (m.ep hW nd) e3 _ fun x v H4 hp r ex b => m.step hW hB nd (by omega) hp r ex b
  · have hl := rs.len
    rw [hl] at m
    obtain ⟨ds, a1, a2, a3, a4, a5⟩ := m.done hB nd
    exact fin ds _ H' a1 a2 a3 a4 a5
/-- [e for j in xs], xs a tuple -/
theorem k_lcT {j : Nat} {vs : List Nat} {ds0 : List D} {v0 : V} (W : Addr → Prop) (hW : ∀ a, W a → G.M a) (hn : ds0.length ≤ 1000) (hB : G.B H) (r0 : Rep K G.M H (.tup ds0) v0) (P : Nat → D → Prop) (hw : ∀ x, wipe ((wipe σ vs).set j (some x)) vs = wipe σ vs)
    (body : ∀ d i x0 w0 H', ds0[i]? = some x0 → H d = none → (G.plus d).B H' → Ex (G.plus d).M (upd H d (.lst [])) H' → Rep K (G.plus d).M H' x0 w0 → ∀ Q' : VK, (∀ x v H4, P i x → Rep K (G.plus d).M H4 x v → Ex W H' H4 → (G.plus d).B H4 → Q' v H4) → te ((wipe σ vs).set j (some w0)) H' Q')
    (fin : ∀ ds v H', ds.length = ds0.length → (∀ k x, ds[k]? = some x → P k x) → Rep K G.M H' (.lst ds) v → Ex W H H' → G.B H' → Q v H') :
    ∃ a, v0 = .ref a ∧ (∃ xs, SqT K H a xs) ∧ (∀ D, H D = none → ∃ Wi : Nat → Nat → Hp → Prop, (∃ m, Wi 0 m (upd H D (.lst []))) ∧ ∀ i' m H, Wi i' m H →
      ((Itt K a).stop i' H ∧ Q (.ref D) H) ∨ ((Itt K a).go i' H ∧ ∃ Nx : Hp → Prop, (∀ H', Nx H' → ∃ m', m' < m ∧ Wi (i' + 1) m' H') ∧ ∀ x H', (Itt K a).yld i' H x H' → gName j x (wipe σ vs) H' fun σ2 H2 => wipe σ2 vs = wipe σ vs ∧ tYes σ2 H2 fun b H3 =>
        if b = true then te σ2 H3 fun y H4 => ∃ acc, H4 D = some (.lst acc) ∧ acc.length < sizeLine ∧ Nx (upd H4 D (.lst (acc ++ [y]))) else Nx H3)) := by
  obtain ⟨a, xs, rfl, sq, rs⟩ := tup_of r0
  refine ⟨a, rfl, ⟨xs, sq⟩, fun d nd => ?_⟩
  refine lc_tup (K := K) (a := a) (xs := xs) (fun i H' => Mk1 K G W H P d i H') (Mk1.start hB nd) (fun i H' _ m => ?_) (fun i w H' hi m => ?_) (fun H' m => ?_)
  · exact sqT_upC (fun b ys z => Bg.nt hB b ys (hW b z)) m.e sq
  · have hil : i < ds0.length := by
      rw [← rs.len]
      exact (List.getElem?_eq_some_iff.mp hi).1
    obtain ⟨w', e1, e2⟩ := rs.at (List.getElem?_eq_getElem hil)
    rw [hi] at e1
    cases e1
    have e3 := (e2.enter hB nd).upC (Bg.nt (Mk1.bp (K := K) (W := W) (P := P) (Mk1.start hB nd))) (m.ep hW nd)
    refine ⟨hw _, ?_⟩
    show (if true = true then _ else Mk1 K G W H P d (i + 1) H')
    rw [if_pos rfl]
    exact body d i _ w H' (List.getElem?_eq_getElem hil) nd m.bp (m.ep hW nd) e3 _ fun x v H4 hp r ex b => m.step hW hB nd (by omega) hp r ex b
  · have hl := rs.len
    rw [hl] at m
    obtain ⟨ds, a1, a2, a3, a4, a5⟩ := m.done hB nd
    exact fin ds _ H' a1 a2 a3 a4 a5
end
end Px

namespace Px
open PySem PySem.Spec PyProof.Rows L2

/-! ### operators that a class of the text's own defines -/
section
variable {X : Cx} {CX : CXT} {k : Nat} {f C : Addr} {fd : FuncData} {ps : List Str} {sp : Sp} {E : XK}
def rOwn (C : Addr) (sp : Sp) (E : XK) : R2 := fun x y H Q => ∃ a dx fs b dy gs, x = .ref a ∧ y = .ref b ∧ H a = some (.ins C dx fs) ∧ H b = some (.ins C dy gs) ∧ sp [x, y] H Q E
theorem not_ni {v : V} {u : Value} (r : L2.RelV v u) : u ≠ .notImplemented := fun z => by
  subst z
  cases v <;> first | exact nomatch (show Value.notImplemented = _ from r) | (obtain ⟨t, e⟩ := (show ∃ t, Value.notImplemented = _ from r); exact nomatch e)
theorem back_of {Q : Value → Shared → Prop} {u : Value} {s : Shared} (n : u ≠ .notImplemented) (q : Q u s) : PySem.W.CmpBack Q u s := by
  unfold PySem.W.CmpBack
  split
  · exact n rfl
  · exact q
theorem op_own {op : Operator} (Fo : FnOk X.prog X.w X.K X.mg X.base CX k f fd ps sp) (room : Room k X.A) (hb : Binds X.K fd ps []) (px : Passes CX X E) (first : PySem.W.selfFirst X.K C = true)
    (at_ : PySem.W.findIn X.K (.ref C) (PySem.dunder op.info.2) = some (some (.ref f))) (isf : PySem.W.isFn X.K (.ref f) = true) : OpR X (binaryOp op) (rOwn C sp E) := by
  rintro pins s σ H x y u v Q I rx ry ⟨a, dx, fs, b, dy, gs, rfl, rfl, ha, hy, q⟩
  obtain rfl : u = Value.ref a := rx
  obtain rfl : v = Value.ref b := ry
  obtain ⟨m, F⟩ := I.fr
  obtain ⟨mA, O, _⟩ := ins_get I.hok ha
  obtain ⟨od, J, _⟩ := O.look
  obtain ⟨mB, O2, _⟩ := ins_get I.hok hy
  obtain ⟨od2, J2, _⟩ := O2.look
  refine PySem.W.binop_K F I.ok.mod.kin J J2.type first at_ isf ?_
  refine wpAny_mono (run_fn (us := [.ref a, .ref b]) (vs := [.ref a, .ref b]) (dvs := []) Fo room hb .nil px I (.cons rfl (.cons rfl .nil)) q) (fun r s' h => ?_) fun _ _ z => z
  obtain ⟨w', H', I', r', q'⟩ := h
  exact back_of (not_ni r') ⟨w', H', I', r', q'⟩
/-- C.m() of a static method -/
structure Stat (K : PySem.W.Frag) (C : Addr) (m : Str) (f : Addr) : Prop where
  rd : PySem.W.readsIn K C (.type "type") = true
  ga : PySem.W.specialIn K (.ref C) "__getattribute__" = some (some (.builtin "type.__getattribute__"))
  ty : PySem.W.typeIn K (.ref C) = some (.type "type")
  at_ : ∃ p rest, PySem.W.findCls K (.ref C) (.type "type") m = some (.get (.builtin "staticmethod.__get__") (.ref p) .none (.ref C)) ∧ PySem.W.recIn K p "staticmethod" = some (.ref f :: rest)
  kp : PySem.W.keepIn K (.ref f) = true
end
section
variable {X : Cx} {CX : CXT} {k : Nat} {f C : Addr} {fd : FuncData} {ps : List Str} {sp : Sp} {E : XK} {o : Expr} {m : Str} {apos pos : Pos} {ta : TE} {pl : Sem Bool}
def tStat0 (C : Addr) (sp : Sp) (E : XK) (ta : TE) : TE := fun σ H Q => ta σ H fun x H1 => x = .ref C ∧ sp [] H1 Q E
theorem pe_static0 (ho : PE X o ta) (st : Stat X.K C m f) (Fo : FnOk X.prog X.w X.K X.mg X.base CX k f fd ps sp) (room : Room k X.A) (hb : Binds X.K fd ps []) (px : Passes CX X E)
    (ht : eval (.Call (.Attribute o m apos) [] [] pos) X.env = (do
      let ov ← eval o X.env; standAt apos.atName; let (f, first) ← holding [ov] (getMethod ov m pl)
      callWith pos f first (backTo pos (starEach [] X.env)) (backToKw pos (keywordEach [] X.env))) := by rfl) :
    PE X (.Call (.Attribute o m apos) [] [] pos) (tStat0 C sp E ta) := by
  constructor; intro pins s σ H Q I h
  refine PySem.W.methodCall_KW (pl := pl) (thn (ho.run pins s σ H _ I h) ?_) ht
  rintro u s1 ⟨x, H1, I1, rx, rfl, q⟩
  obtain rfl : u = Value.ref C := rx
  obtain ⟨mm, F⟩ := I1.fr
  obtain ⟨p, rest, e1, e2⟩ := st.at_
  refine PySem.W.method_of_cls F I1.ok.mod.kin st.ga (PySem.W.cls_sm F I1.ok.mod.kin st.ty st.rd e1 e2 rfl ?_)
  exact PySem.W.callWith_K0 (first := []) I1.kIn st.kp (run_fn (us := []) (vs := []) (dvs := []) Fo room hb .nil px (I1.tok _) .nil q)
end
/-! ### kinds of values -/
def tyN : D → String
  | .non => "NoneType"
  | .bl _ => "bool"
  | .int _ => "int"
  | .str _ => "str"
  | .tup _ => "tuple"
  | .lst _ => "list"
  | .ins _ _ _ => ""
section
variable {K : PySem.W.Frag} {M : Addr → Prop} {H : Hp} {σ : L2.St} {te ta tb : TE} {Q : VK} {v : V} {d : D}
theorem tyx_of (r : Rep K M H d v) (n : ∀ C ns ds, d ≠ .ins C ns ds) : TyX K H v (.type (tyN d)) := by
  cases d with
  | non => rw [non_of r]; exact .base .non
  | bl b => rw [bl_of r]; exact .base (.bl b)
  | int i => rw [int_of r]; exact .base (.int i)
  | str s => rw [str_of r]; exact .base (.str s)
  | tup ds =>
    obtain ⟨a, xs, rfl, h, _⟩ := tup_of r
    rcases h with (h | ⟨o, h⟩) | ⟨o, its, n, h1, h2, _⟩
    · exact .base (.tup h)
    · exact .fTuple h
    · exact .kTuple h1 h2
  | lst ds =>
    obtain ⟨a, xs, rfl, _, h, _⟩ := lst_of r
    rcases h with h | ⟨o, h⟩
    · exact .base (.lst h)
    · exact .base (.frz h)
  | ins C ns ds => exact absurd rfl (n C ns ds)
theorem f_isi {T ty : String} {b : Bool} (r : Rep K M H d v) (hk : kitB ty T = some b) (q : Q (.bl b) H) (ht : tyN d = ty := by rfl) (n : ∀ C ns ds, d ≠ .ins C ns ds := by intro _ _ _ z; cases z) : rIsi K [v, .ty T] H Q :=
  ⟨v, .ty T, _, _, b, rfl, .ty T, tyx_of r n, kit_ty (by rw [ht]; exact hk), q⟩
theorem v_isi {T ty : String} {b : Bool} (ha : Val ta σ H v) (r : Rep K M H d v) (hk : kitB ty T = some b) (ht : tyN d = ty := by rfl) (n : ∀ C ns ds, d ≠ .ins C ns ds := by intro _ _ _ z; cases z) :
    Val (tCB (rIsi K) (tCons ta (tCons (tC (.ty T)) tNil))) σ H (.bl b) := fun _ q => ha _ (f_isi r hk q ht n)
theorem v_andB {a b : Bool} (ha : Val ta σ H (.bl a)) (hb : Val tb σ H (.bl b)) : Val (tAndV ta tb) σ H (.bl (a && b)) := fun _ q => ha _ ⟨a, rfl, by
  cases a with
  | true => rw [if_pos rfl]; exact hb _ q
  | false => rw [if_neg Bool.false_ne_true]; exact q⟩
theorem v_andB0 (ha : Val ta σ H (.bl false)) : Val (tAndV ta tb) σ H (.bl false) := fun _ q => ha _ ⟨false, rfl, by rw [if_neg Bool.false_ne_true]; exact q⟩
theorem v_notB {a : Bool} (ha : Val ta σ H (.bl a)) : Val (tNotV ta) σ H (.bl (!a)) := fun _ q => ha _ ⟨a, rfl, q⟩
theorem v_lenR {ds : List D} (z : Int) (ha : Val ta σ H v) (r : Rep K M H (.tup ds) v) (e : ((ds.length : Nat) : Int) = z := by rfl) : Val (tCB (fun xs H Q => ∃ x n, xs = [x] ∧ LenV K x H n ∧ Q (.int n) H) (tCons ta tNil)) σ H (.int z) := fun _ q => by
  subst e
  obtain ⟨a, xs, rfl, h, rs⟩ := tup_of r
  exact ha _ ⟨_, _, rfl, .inr ⟨xs, h, rs.len.symm⟩, q⟩
theorem v_lenRL {ds : List D} (z : Int) (ha : Val ta σ H v) (r : Rep K M H (.lst ds) v) (e : ((ds.length : Nat) : Int) = z := by rfl) : Val (tCB (fun xs H Q => ∃ x n, xs = [x] ∧ LenV K x H n ∧ Q (.int n) H) (tCons ta tNil)) σ H (.int z) := fun _ q => by
  subst e
  obtain ⟨a, xs, rfl, _, h, rs⟩ := lst_of r
  exact ha _ ⟨_, _, rfl, .inl ⟨xs, .inl h, rs.len.symm⟩, q⟩
/-! ### attributes -/
/-- an attribute is read -/
def FldEnd (K : PySem.W.Frag) (f : Str) (Q : VK) (x : V) (H : Hp) : Prop := ∃ a C dx fs v', x = .ref a ∧ H a = some (.ins C dx fs) ∧ Cls K C ∧ NoAttr K C f ∧ fs.lookup f = some v' ∧ Q v' H
theorem f_fld {C : Addr} {ns : List Str} {ds : List D} {f : Str} {x : D} (r : Rep K M H (.ins C ns ds) v) (cl : Cls K C) (na : NoAttr K C f) (l : (ns.zip ds).lookup f = some x) (q : ∀ w, Rep K M H x w → Q w H) :
    FldEnd K f Q v H := by
  obtain ⟨a, dx, fs, rfl, _, h, e, rs⟩ := ins_of r
  obtain ⟨w, e1, e2⟩ := rs.look e l
  exact ⟨a, C, dx, fs, w, rfl, h, cl, na, e1, q w e2⟩
theorem k_fld {f : Str} (q : ta σ H fun x H1 => FldEnd K f Q x H1) : tFld K ta f σ H Q := q
end
end Px
namespace Px
open PySem PySem.Spec PyProof.Rows L2
/-! ### names from the items of a tuple or a list -/
def gNames : List Nat → TGs
  | [] => gNil
  | i :: is => gCons (gName i) (gNames is)
def setAll : L2.St → List Nat → List V → L2.St
  | σ, i :: is, w :: ws => setAll (σ.set i (some w)) is ws
  | σ, _, _ => σ
theorem f_names : ∀ {is : List Nat} {ws : List V} {σ : L2.St} {H : Hp} {Q : L2.St → Hp → Prop}, ws.length = is.length → Q (setAll σ is ws) H → gNames is ws σ H Q
  | [], [], _, _, _, _, q => ⟨rfl, q⟩
  | i :: is, w :: ws, σ, H, Q, e, q => ⟨w, ws, rfl, f_names (is := is) (ws := ws) (by simpa using e) q⟩
  | [], _ :: _, _, _, _, e, _ => by simp at e
  | _ :: _, [], _, _, _, e, _ => by simp at e
section
variable {K : PySem.W.Frag} {M : Addr → Prop} {H : Hp} {σ : L2.St} {v : V} {ds : List D} {Q : L2.St → Hp → Prop}
theorem f_unpT (is : List Nat) {n : Nat} (r : Rep K M H (.tup ds) v) (e1 : ds.length = n) (e2 : n = is.length) (q : ∀ ws, Reps K M H ds ws → Q (setAll σ is ws) H) : gTup K n (gNames is) v σ H Q := by
  obtain ⟨a, xs, rfl, h, rs⟩ := tup_of r
  exact ⟨a, xs, rfl, h, by rw [rs.len, e1], f_names (by rw [rs.len, e1, e2]) (q xs rs)⟩
theorem f_unpL (is : List Nat) {n : Nat} (r : Rep K M H (.lst ds) v) (e1 : ds.length = n) (e2 : n = is.length) (q : ∀ ws, Reps K M H ds ws → Q (setAll σ is ws) H) : gLst K n (gNames is) v σ H Q := by
  obtain ⟨a, xs, rfl, _, h, rs⟩ := lst_of r
  exact ⟨a, xs, rfl, .inl h, by rw [rs.len, e1], f_names (by rw [rs.len, e1, e2]) (q xs rs)⟩
theorem k_asg {te : TE} {g : TG} {D' : Ends} (q : te σ H fun x H1 => g x σ H1 D'.nx) : tAsg te g D' σ H := q
/-! ### methods -/
theorem look_none {fs : List (Str × V)} {m : Str} (h : m ∉ fs.map (·.1)) : fs.lookup m = none := by
  induction fs with
  | nil => rfl
  | cons p fs ih =>
    obtain ⟨f, x⟩ := p
    simp only [List.map_cons, List.mem_cons, not_or] at h
    rw [List.lookup_cons, show (m == f) = false by simpa using h.1]
    exact ih h.2
theorem f_meth {C : Addr} {ns : List Str} {m : Str} {R : Prop} (r : Rep K M H (.ins C ns ds) v) (hm : m ∉ ns) (q : R) : ∃ a dx fs, v = .ref a ∧ H a = some (.ins C dx fs) ∧ fs.lookup m = none ∧ R := by
  obtain ⟨a, dx, fs, rfl, _, h, e, rs⟩ := ins_of r
  exact ⟨a, dx, fs, rfl, h, look_none (by rw [e]; exact hm), q⟩
theorem k_meth {C : Addr} {m : Str} {sp : Sp} {dvs : List V} {E : XK} {ta : TE} {t : TA} {Q : VK} (q : ta σ H fun x H1 => ∃ a dx fs, x = .ref a ∧ H1 a = some (.ins C dx fs) ∧ fs.lookup m = none ∧ t σ H1 fun vs H2 => sp (x :: (vs ++ dvs)) H2 Q E) : tMeth C m sp dvs E ta t σ H Q := q
theorem f_own {C : Addr} {ns ns' : List Str} {es : List D} {w : V} {sp : Sp} {E : XK} {Q : VK} (r : Rep K M H (.ins C ns ds) v) (r' : Rep K M H (.ins C ns' es) w) (q : sp [v, w] H Q E) : rOwn C sp E v w H Q := by
  obtain ⟨a, dx, fs, rfl, _, h, e, rs⟩ := ins_of r
  obtain ⟨b, dy, gs, rfl, _, h', e', rs'⟩ := ins_of r'
  exact ⟨a, dx, fs, b, dy, gs, rfl, rfl, h, h', q⟩
theorem k_stat {C : Addr} {sp : Sp} {E : XK} {ta : TE} {Q : VK} (q : ta σ H fun x H1 => x = .ref C ∧ sp [] H1 Q E) : tStat0 C sp E ta σ H Q := q
end
end Px

namespace Px
open PySem PySem.Spec PyProof.Rows L2

/-! ### data compared -/
mutual
def toPd : D → PyData
  | .non => .none
  | .bl b => .bool b
  | .int i => .int i
  | .str s => .str s
  | .tup ds => .tuple (toPds ds)
  | .lst ds => .list (toPds ds)
  | .ins _ _ _ => .none
def toPds : List D → List PyData
  | [] => []
  | d :: ds => toPd d :: toPds ds
end
mutual
/-- no instances within -/
def plain : D → Bool
  | .ins _ _ _ => false
  | .tup ds => plains ds
  | .lst ds => plains ds
  | _ => true
def plains : List D → Bool
  | [] => true
  | d :: ds => plain d && plains ds
end
section
variable {K : PySem.W.Frag} {M : Addr → Prop} {H : Hp}
mutual
theorem dp_of : ∀ {d : D} {v : V}, plain d = true → Rep K M H d v → Dp K H v (toPd d)
  | .non, _, _, r => by rw [non_of r]; unfold toPd; exact .non
  | .bl b, _, _, r => by rw [bl_of r]; unfold toPd; exact .bl b
  | .int i, _, _, r => by rw [int_of r]; unfold toPd; exact .int i
  | .str s, _, _, r => by rw [str_of r]; unfold toPd; exact .str s
  | .tup ds, _, p, r => by
    obtain ⟨a, xs, rfl, h, rs⟩ := tup_of r
    unfold toPd
    unfold plain at p
    exact .tup h (dps_of p rs)
  | .lst ds, _, p, r => by
    obtain ⟨a, xs, rfl, _, h, rs⟩ := lst_of r
    unfold toPd
    unfold plain at p
    exact .lst (.inl h) (dps_of p rs)
  | .ins C ns ds, _, p, r => by unfold plain at p; cases p
theorem dps_of : ∀ {ds : List D} {vs : List V}, plains ds = true → Reps K M H ds vs → DpAll K H vs (toPds ds)
  | [], _, _, r => by rw [nil_of r]; unfold toPds; exact .nil
  | d :: ds, _, p, r => by
    obtain ⟨v, vs, rfl, r1, r2⟩ := cons_of r
    unfold toPds
    unfold plains at p
    rw [Bool.and_eq_true] at p
    exact .cons (dp_of p.1 r1) (dps_of p.2 r2)
end
theorem eqv_fr (x y : Rat) : PyData.eqv (toPd (fr x)) (toPd (fr y)) = decide (x = y) := by
  have h : PyData.eqv (toPd (fr x)) (toPd (fr y)) = ((x.num == y.num) && (((x.den : Int) == (y.den : Int)) && true)) := by
    simp only [fr, toPd, toPds, PyData.eqv, PyData.eqvAll]
  rw [h, Bool.and_true]
  by_cases e : x = y
  · subst e; simp
  · rw [decide_eq_false e, Bool.and_eq_false_iff]
    by_cases n : x.num = y.num
    · right
      rw [beq_eq_false_iff_ne]
      intro d
      exact e (Rat.ext n (by omega))
    · left
      rw [beq_eq_false_iff_ne]
      exact n
theorem f_eqD {d e : D} {v w : V} {Q : VK} {b : Bool} (r : Rep K M H d v) (r' : Rep K M H e w) (h : PyData.eqv (toPd d) (toPd e) = b) (q : Q (.bl b) H) (p : plain d = true := by rfl) (p' : plain e = true := by rfl)
    (s : SeqAt.shaped (toPd d) = true := by rfl) (s' : SeqAt.shaped (toPd e) = true := by rfl) : rEqD K v w H Q :=
  ⟨toPd d, toPd e, dp_of p r, dp_of p' r', s, s', by rw [h]; exact q⟩
end
/-! ### own comparisons -/
section
variable {X : Cx} {CX : CXT} {k : Nat} {f C : Addr} {fd : FuncData} {ps : List Str} {sp : Sp} {E : XK}
theorem op_ownEq (Fo : FnOk X.prog X.w X.K X.mg X.base CX k f fd ps sp) (room : Room k X.A) (hb : Binds X.K fd ps []) (px : Passes CX X E) (hn : PySem.W.notFirst X.K C (.ref C) = true)
    (at_ : PySem.W.findIn X.K (.ref C) (PySem.cmpInfo .Eq).2.1 = some (some (.ref f))) (isf : PySem.W.isFn X.K (.ref f) = true) : OpR X (compareOp .Eq) (rOwn C sp E) := by
  rintro pins s σ H x y u v Q I rx ry ⟨a, dx, fs, b, dy, gs, rfl, rfl, ha, hy, q⟩
  obtain rfl : u = Value.ref a := rx
  obtain rfl : v = Value.ref b := ry
  obtain ⟨m, F⟩ := I.fr
  obtain ⟨mA, O, _⟩ := ins_get I.hok ha
  obtain ⟨od, J, _⟩ := O.look
  obtain ⟨mB, O2, _⟩ := ins_get I.hok hy
  obtain ⟨od2, J2, _⟩ := O2.look
  show wpAny _ _ (richCompare .Eq (.ref a) (.ref b)) _ _ _
  refine PySem.W.cmp_K room.units0 F I.ok.mod.kin J J2.type hn at_ isf ?_
  refine wpAny_mono (run_fn (us := [.ref a, .ref b]) (vs := [.ref a, .ref b]) (dvs := []) Fo room hb .nil px I (.cons rfl (.cons rfl .nil)) q) (fun r s' h => ?_) fun _ _ z => z
  obtain ⟨w', H', I', r', q'⟩ := h
  exact back_of (not_ni r') ⟨w', H', I', r', q'⟩
end
/-- what isinstance asks of a class -/
structure IsiC (K : PySem.W.Frag) (C : Addr) : Prop where
  cl : Cls K C
  ha : PySem.W.findIn K (.ref C) "__class__" = some (some (.builtin "object.__class__"))
  hn : PySem.W.specialIn K (.builtin "object.__class__") "__get__" = some (some (.builtin "getset_descriptor.__get__"))
  htk : PySem.W.takesIn K (.builtin "object.__class__") = some true
  hm : PySem.W.mroIn K C (.type "object") = some true
  kit : PySem.W.kitOne K (.ref C) (.ref C) = some true
section
variable {K : PySem.W.Frag} {M : Addr → Prop} {H : Hp} {σ : L2.St} {te ta tb : TE} {Q : VK} {v : V} {d : D}
theorem f_isiC {C : Addr} {ns : List Str} {ds : List D} (i : IsiC K C) (r : Rep K M H (.ins C ns ds) v) (q : Q (.bl true) H) : rIsi K [v, .ref C] H Q := by
  obtain ⟨a, dx, fs, rfl, _, h, e, rs⟩ := ins_of r
  exact ⟨_, _, _, _, true, rfl, .own C, .base (.ins h i.cl i.ha i.hn i.htk i.hm), i.kit, q⟩
theorem v_isiC {C : Addr} {ns : List Str} {ds : List D} (i : IsiC K C) (ha : Val ta σ H v) (hb : Val tb σ H (.ref C)) (r : Rep K M H (.ins C ns ds) v) : Val (tCB (rIsi K) (tCons ta (tCons tb tNil))) σ H (.bl true) := fun _ q => ha _ (hb _ (f_isiC i r q))
theorem k_andV (q : ta σ H fun x H1 => ∃ c, x = .bl c ∧ if c = true then tb σ H1 Q else Q (.bl false) H1) : tAndV ta tb σ H Q := q
theorem k_orV (q : ta σ H fun x H1 => ∃ c, x = .bl c ∧ if c = true then Q (.bl true) H1 else tb σ H1 Q) : tOrV ta tb σ H Q := q
theorem k_notV (q : ta σ H fun x H1 => ∃ c, x = .bl c ∧ Q (.bl (!c)) H1) : tNotV ta σ H Q := q
/-! ### dicts of the module -/
theorem f_ixK {w : World} {p : Addr} {z : Str} {u : V} (h : KDct K w p z u) (q : Q u H) : rIxD K w (.ref p) (.str z) H Q := ⟨p, z, u, rfl, rfl, h, q⟩
/-! ### a text among texts -/
theorem reps_str : ∀ {ss : List Str} {xs : List V}, Reps K M H (ss.map .str) xs → xs = ss.map .str
  | [], _, r => nil_of r
  | s :: ss, _, r => by
    obtain ⟨w, ws, rfl, r1, r2⟩ := cons_of r
    rw [str_of r1, reps_str r2]
    rfl
theorem f_inT {ss : List Str} {s : Str} {b : Bool} (r : Rep K M H (.tup (ss.map .str)) v) (h : inV (.str s) (ss.map V.str) = b) (q : Q (.bl b) H) (hf : (ss.map V.str).all flatV = true := by rfl) : rIn K false (.str s) v H Q := by
  obtain ⟨a, xs, rfl, hs, rs⟩ := tup_of r
  have e : xs = ss.map V.str := by
    exact reps_str rs
  subst e
  exact ⟨a, _, rfl, .inr hs, rfl, hf, by rw [if_neg Bool.false_ne_true, h]; exact q⟩
/-! ### lists -/
theorem eq_mapRange {n : Nat} {e : Nat → D} {ds : List D} (h : ds.length = n) (p : ∀ k x, ds[k]? = some x → x = e k) : ds = (List.range n).map e := by
  apply List.ext_getElem?
  intro k
  by_cases hk : k < n
  · have h1 : ds[k]? = some ds[k] := List.getElem?_eq_getElem (by omega)
    rw [h1, p k _ h1, List.getElem?_map, List.getElem?_range hk]
    rfl
  · rw [List.getElem?_eq_none (by omega), List.getElem?_eq_none (by simp; omega)]
theorem eq_map {α : Type} {xs : List α} {e : α → D} {ds : List D} (h : ds.length = xs.length) (p : ∀ (k : Nat) (x : D), ds[k]? = some x → ∀ a, xs[k]? = some a → x = e a) : ds = xs.map e := by
  apply List.ext_getElem?
  intro k
  by_cases hk : k < xs.length
  · have h1 : ds[k]? = some (ds[k]'(by omega)) := List.getElem?_eq_getElem (by omega)
    have h2 : xs[k]? = some xs[k] := List.getElem?_eq_getElem hk
    rw [h1, p k _ h1 _ h2, List.getElem?_map, h2]
    rfl
  · rw [List.getElem?_eq_none (by omega), List.getElem?_eq_none (by simp; omega)]
theorem eq_list {es ds : List D} (h : ds.length = es.length) (p : ∀ (k : Nat) (x : D), ds[k]? = some x → es[k]? = some x) : ds = es := by
  apply List.ext_getElem?
  intro k
  by_cases hk : k < ds.length
  · have h1 : ds[k]? = some ds[k] := List.getElem?_eq_getElem hk
    rw [h1, p k _ h1]
  · rw [List.getElem?_eq_none (by omega), List.getElem?_eq_none (by omega)]
theorem reps_bl {bs : List Bool} : ∀ {xs : List V}, Reps K M H (bs.map .bl) xs → xs = bs.map .bl := by
  induction bs with
  | nil => exact fun r => nil_of r
  | cons b bs ih =>
    intro xs r
    obtain ⟨w, ws, rfl, r1, r2⟩ := cons_of r
    rw [bl_of r1, ih r2]
    rfl
theorem f_all {bs : List Bool} {b : Bool} (r : Rep K M H (.lst (bs.map .bl)) v) (h : bs.all id = b) (q : Q (.bl b) H) : rAll K [v] H Q := by
  obtain ⟨a, xs, rfl, _, hs, rs⟩ := lst_of r
  rw [reps_bl rs] at hs
  exact ⟨a, bs, rfl, .inl hs, by rw [h]; exact q⟩
theorem f_len {ds : List D} (r : Rep K M H (.tup ds) v) (z : Int) (e : ((ds.length : Nat) : Int) = z) (q : Q (.int z) H) : ∃ x n, [v] = [x] ∧ LenV K x H n ∧ Q (.int n) H := by
  subst e
  obtain ⟨a, xs, rfl, h, rs⟩ := tup_of r
  exact ⟨_, _, rfl, .inr ⟨xs, h, rs.len.symm⟩, q⟩
theorem f_lenL {ds : List D} (r : Rep K M H (.lst ds) v) (z : Int) (e : ((ds.length : Nat) : Int) = z) (q : Q (.int z) H) : ∃ x n, [v] = [x] ∧ LenV K x H n ∧ Q (.int n) H := by
  subst e
  obtain ⟨a, xs, rfl, _, h, rs⟩ := lst_of r
  exact ⟨_, _, rfl, .inl ⟨xs, .inl h, rs.len.symm⟩, q⟩
def noneD : D → Bool
  | .non => true
  | _ => false
/-- is None, is not None: of what stands for a datum -/
theorem is_non (r : Rep K M H d v) : decide (v = .non) = noneD d := by
  cases d with
  | non => have e := non_of r; subst e; rfl
  | bl b => have e := bl_of r; subst e; rfl
  | int i => have e := int_of r; subst e; rfl
  | str s => have e := str_of r; subst e; rfl
  | tup ds => obtain ⟨a, xs, rfl, _⟩ := tup_of r; rfl
  | lst ds => obtain ⟨a, xs, rfl, _⟩ := lst_of r; rfl
  | ins C ns ds => obtain ⟨a, dx, fs, rfl, _⟩ := ins_of r; rfl
theorem f_notN {b : Bool} (r : Rep K M H d v) (h : (!noneD d) = b) (q : Q (.bl b) H) : rNotN v .non H Q := ⟨rfl, by rw [is_non r, h]; exact q⟩
theorem f_isN {b : Bool} (r : Rep K M H d v) (h : noneD d = b) (q : Q (.bl b) H) : rIsN v .non H Q := ⟨rfl, by rw [is_non r, h]; exact q⟩
/-! ### the walk of a comprehension, a slice -/
/-- what is left once the iterable is known -/
def LcEnd (g : TG) (tt : TT) (te : TE) (vs : List Nat) (σ : L2.St) (Q : VK) (J : It) (H1 : Hp) : Prop := ∀ D, H1 D = none → ∃ W : Nat → Nat → Hp → Prop, (∃ m, W 0 m (upd H1 D (.lst []))) ∧ ∀ i m H, W i m H →
  (J.stop i H ∧ Q (.ref D) H) ∨ (J.go i H ∧ ∃ Nx : Hp → Prop, (∀ H', Nx H' → ∃ m', m' < m ∧ W (i + 1) m' H') ∧ ∀ x H', J.yld i H x H' → g x (wipe σ vs) H' fun σ2 H2 => wipe σ2 vs = wipe σ vs ∧ tt σ2 H2 fun b H3 =>
    if b = true then te σ2 H3 fun y H4 => ∃ acc, H4 D = some (.lst acc) ∧ acc.length < sizeLine ∧ Nx (upd H4 D (.lst (acc ++ [y]))) else Nx H3)
section
variable {g : TG} {tt : TT} {vs : List Nat} {tr : TA}
theorem k_lcr (q : tr σ H fun xs H1 => ∃ j : Int, xs = [V.int j] ∧ -(2 ^ 62) ≤ j ∧ j < 2 ^ 62 ∧ LcEnd g tt te vs σ Q (Itr 0 j.toNat) H1) : tLc (iRng1 tr) g tt te vs σ H Q := q
theorem k_lcl (q : ta σ H fun x H1 => ∃ a, x = V.ref a ∧ (∃ xs, SqL K H1 a xs) ∧ LcEnd g tt te vs σ Q (Itl K a) H1) : tLc (iList K ta) g tt te vs σ H Q := q
theorem k_lct (q : ta σ H fun x H1 => ∃ a, x = V.ref a ∧ (∃ xs, SqT K H1 a xs) ∧ LcEnd g tt te vs σ Q (Itt K a) H1) : tLc (iTup K ta) g tt te vs σ H Q := q
end
variable {G : Bg}
theorem Bg.enterB {d : Addr} (hB : G.B H) (nd : H d = none) : (G.plus d).B (upd H d (.lst [])) := ⟨G.st _ _ hB (same_upd nd), [], upd_same⟩
theorem k_sl {r : V → Option Int → Option Int → Hp → VK → Prop} {tl th : TO} (q : te σ H fun x H1 => tl σ H1 fun l H2 => th σ H2 fun u H3 => r x l u H3 Q) : tSl r te tl th σ H Q := q
theorem k_noPart {R : Option Int → Hp → Prop} (q : R none H) : tNoPart σ H R := q
theorem k_part {R : Option Int → Hp → Prop} (q : te σ H fun x H1 => ∃ i, x = .int i ∧ R (some i) H1) : tPart te σ H R := q
theorem Reps.take : ∀ {ds : List D} {xs : List V} (n : Nat), Reps K M H ds xs → Reps K M H (ds.take n) (xs.take n)
  | _, _, 0, _ => by rw [List.take_zero, List.take_zero]; exact rnil
  | [], _, n + 1, r => by rw [nil_of r]; exact rnil
  | d :: ds, _, n + 1, r => by
    obtain ⟨w, ws, rfl, r1, r2⟩ := cons_of r
    exact rcons r1 (Reps.take n r2)
theorem cutV_take (xs : List V) (n : Nat) : cutV xs none (some (n : Int)) = xs.take n := by
  unfold cutV
  rw [HT.sIx_none, HT.sIx_nat, List.drop_zero, Nat.sub_zero, List.take_eq_take_iff]
  omega
theorem nm_new {p : Addr} (hB : G.B H) (hp : H p = none) : ¬ G.M p := fun m => by
  rcases G.isl H p hB m with ⟨ys, hy⟩ | ⟨C, dx, fs, hy⟩ | ⟨tb, hy⟩ <;> (rw [hp] at hy; cases hy)
theorem f_slL {n : Nat} {ds : List D} (hB : G.B H) (r : Rep K G.M H (.lst ds) v) (q : ∀ w H', Rep K G.M H' (.lst (ds.take n)) w → Same H H' → G.B H' → Q w H') : rSlL K v none (some (n : Int)) H Q := by
  obtain ⟨a, xs, rfl, _, h, rs⟩ := lst_of r
  refine ⟨a, xs, rfl, .inl h, fun p hp => ?_⟩
  rw [cutV_take]
  have s := same_upd (o := .lst (xs.take n)) hp
  exact q _ _ (rlst (nm_new hB hp) (.inl upd_same) ((rs.take n).up hB (Ex.of s))) s (G.st _ _ hB s)
def LstOf (K : PySem.W.Frag) (Q : VK) (xs : List V) (H : Hp) : Prop := ∃ p ys, xs = [V.ref p] ∧ (SqL K H p ys ∨ SqT K H p ys) ∧ ∀ l, H l = none → Q (.ref l) (upd H l (.lst ys))
theorem call_listK {X : Cx} {K : PySem.W.Frag} (h : X.K = K := by rfl) : CallR X (.type "list") (fun xs H Q => LstOf K Q xs H) := h ▸ call_list_of
theorem f_listT {ds : List D} (hB : G.B H) (r : Rep K G.M H (.tup ds) v) (q : ∀ w H', Rep K G.M H' (.lst ds) w → Same H H' → G.B H' → Q w H') : LstOf K Q [v] H := by
  obtain ⟨a, xs, rfl, h, rs⟩ := tup_of r
  refine ⟨a, xs, rfl, .inr h, fun p hp => ?_⟩
  have s := same_upd (o := .lst xs) hp
  exact q _ _ (rlst (nm_new hB hp) (.inl upd_same) (rs.up hB (Ex.of s))) s (G.st _ _ hB s)
theorem atI_neg {xs : List V} {k : Nat} {w : V} {i : Int} (h : xs[k]? = some w) (e : i + xs.length = (k : Int)) (n : i < 0) : atI xs i = some w := by
  have hk : k < xs.length := (List.getElem?_eq_some_iff.mp h).1
  unfold atI ixN
  rw [if_neg (by omega), if_pos (by omega), e]
  exact h
theorem f_ixNegL {ds : List D} {k : Nat} {d : D} {i : Int} (r : Rep K M H (.lst ds) v) (e : ds[k]? = some d) (e2 : i + (ds.length : Int) = (k : Int)) (q : ∀ w, Rep K M H d w → Q w H) (n : i < 0 := by decide) : rIxL K v (.int i) H Q := by
  obtain ⟨a, xs, rfl, _, h, rs⟩ := lst_of r
  obtain ⟨w, e1, e3⟩ := rs.at e
  exact ⟨a, xs, _, w, rfl, rfl, .inl h, atI_neg e1 (by rw [rs.len]; exact e2) n, q w e3⟩
/-! ### within a comprehension: the written part by its own name -/
theorem ix_tupK {X : Cx} {K : PySem.W.Frag} (h : X.K = K := by rfl) : IxR X (rIxT K) := h ▸ ix_tup
theorem ix_listK {X : Cx} {K : PySem.W.Frag} (h : X.K = K := by rfl) : IxR X (rIxL K) := h ▸ ix_list
theorem pi_listK {X : Cx} {tg l : Expr} {tl : TE} {K : PySem.W.Frag} (hl : PE X l tl) (h : X.K = K := by rfl) : PI X tg l (iList K tl) := h ▸ pi_list hl
theorem pi_tupK {X : Cx} {tg l : Expr} {tl : TE} {K : PySem.W.Frag} (hl : PE X l tl) (h : X.K = K := by rfl) : PI X tg l (iTup K tl) := h ▸ pi_tup hl
section
variable {W : Addr → Prop}
theorem k_lcRE {n j : Nat} {vs : List Nat} (W : Addr → Prop) (hW : ∀ a, W a → G.M a) (hn : n ≤ 1000) (hB : G.B H) (P : Nat → D → Prop) (hw : ∀ x, wipe ((wipe σ vs).set j (some x)) vs = wipe σ vs)
    (body : ∀ d i H', i < n → H d = none → (G.plus d).B H' → Ex (G.plus d).M (upd H d (.lst [])) H' → ∀ Q' : VK, (∀ x v H4, P i x → Rep K (G.plus d).M H4 x v → Ex W H' H4 → (G.plus d).B H4 → Q' v H4) → te ((wipe σ vs).set j (some (.int (i : Int)))) H' Q')
    (fin : ∀ ds v H', ds.length = n → (∀ k x, ds[k]? = some x → P k x) → Rep K G.M H' (.lst ds) v → Ex W H H' → G.B H' → Q v H') {z : Int} (hz : z = (n : Int)) :
    ∃ i : Int, [V.int z] = [V.int i] ∧ -(2 ^ 62) ≤ i ∧ i < 2 ^ 62 ∧ LcEnd (gName j) tYes te vs σ Q (Itr 0 i.toNat) H := k_lcR W hW hn hB P hw body fin hz
theorem k_lcLE {j : Nat} {vs : List Nat} {ds0 : List D} {v0 : V} (W : Addr → Prop) (hW : ∀ a, W a → G.M a) (hn : ds0.length ≤ 1000) (hB : G.B H) (r0 : Rep K G.M H (.lst ds0) v0) (P : Nat → D → Prop) (hw : ∀ x, wipe ((wipe σ vs).set j (some x)) vs = wipe σ vs)
    (body : ∀ d i x0 w0 H', ds0[i]? = some x0 → H d = none → (G.plus d).B H' → Ex (G.plus d).M (upd H d (.lst [])) H' → Rep K (G.plus d).M H' x0 w0 → ∀ Q' : VK, (∀ x v H4, P i x → Rep K (G.plus d).M H4 x v → Ex W H' H4 → (G.plus d).B H4 → Q' v H4) → te ((wipe σ vs).set j (some w0)) H' Q')
    (fin : ∀ ds v H', ds.length = ds0.length → (∀ k x, ds[k]? = some x → P k x) → Rep K G.M H' (.lst ds) v → Ex W H H' → G.B H' → Q v H') :
    ∃ a, v0 = .ref a ∧ (∃ xs, SqL K H a xs) ∧ LcEnd (gName j) tYes te vs σ Q (Itl K a) H := k_lcL W hW hn hB r0 P hw body fin
theorem k_lcTE {j : Nat} {vs : List Nat} {ds0 : List D} {v0 : V} (W : Addr → Prop) (hW : ∀ a, W a → G.M a) (hn : ds0.length ≤ 1000) (hB : G.B H) (r0 : Rep K G.M H (.tup ds0) v0) (P : Nat → D → Prop) (hw : ∀ x, wipe ((wipe σ vs).set j (some x)) vs = wipe σ vs)
    (body : ∀ d i x0 w0 H', ds0[i]? = some x0 → H d = none → (G.plus d).B H' → Ex (G.plus d).M (upd H d (.lst [])) H' → Rep K (G.plus d).M H' x0 w0 → ∀ Q' : VK, (∀ x v H4, P i x → Rep K (G.plus d).M H4 x v → Ex W H' H4 → (G.plus d).B H4 → Q' v H4) → te ((wipe σ vs).set j (some w0)) H' Q')
    (fin : ∀ ds v H', ds.length = ds0.length → (∀ k x, ds[k]? = some x → P k x) → Rep K G.M H' (.lst ds) v → Ex W H H' → G.B H' → Q v H') :
    ∃ a, v0 = .ref a ∧ (∃ xs, SqT K H a xs) ∧ LcEnd (gName j) tYes te vs σ Q (Itt K a) H := k_lcT W hW hn hB r0 P hw body fin
end
theorem k_par3 {i j l : Nat} {tr : TA} {D' : Ends} (q : tr σ H fun vs H1 => ∃ u v w, vs = [u, v, w] ∧ D'.nx (((σ.set i (some u)).set j (some v)).set l (some w)) H1) : tPar3 i j l tr D' σ H := q
end
end Px

namespace Px
open PySem PySem.Spec PyProof.Rows L2 RZ
/-! ### two at once -/
section
variable {K : PySem.W.Frag} {G : Bg} {H : Hp} {σ : L2.St} {te ta tb : TE} {Q : VK} {W : Addr → Prop}
abbrev gPair (K : PySem.W.Frag) (i j : Nat) : TG := gTup K 2 (gCons (gName i) (gCons (gName j) gNil))
theorem k_lcz {g : TG} {tt : TT} {vs : List Nat} {tr : TA} (q : tr σ H fun ws H1 => ∃ a b xs ys, ws = [V.ref a, V.ref b] ∧ ((SqL K H1 a xs ∧ SqL K H1 b ys ∧ LcEnd g tt te vs σ Q (Itz K a b) H1) ∨ (SqT K H1 a xs ∧ SqT K H1 b ys ∧ LcEnd g tt te vs σ Q (ItzT K a b) H1))) : tLc (iZipA K tr) g tt te vs σ H Q := q
theorem k_lcZT {i j : Nat} {vs : List Nat} {ds0 : List D} {v0 w0 : V} (W : Addr → Prop) (hW : ∀ a, W a → G.M a) (hn : ds0.length ≤ 1000) (hB : G.B H) (r0 : Rep K G.M H (.tup ds0) v0) (r1 : Rep K G.M H (.tup ds0) w0) (P : Nat → D → Prop)
    (hw : ∀ x y, wipe (((wipe σ vs).set i (some x)).set j (some y)) vs = wipe σ vs)
    (body : ∀ d k x0 a b H', ds0[k]? = some x0 → H d = none → (G.plus d).B H' → Ex (G.plus d).M (upd H d (.lst [])) H' → Rep K (G.plus d).M H' x0 a → Rep K (G.plus d).M H' x0 b → ∀ Q' : VK, (∀ x v H4, P k x → Rep K (G.plus d).M H4 x v → Ex W H' H4 → (G.plus d).B H4 → Q' v H4) → te (((wipe σ vs).set i (some a)).set j (some b)) H' Q')
    (fin : ∀ ds v H', ds.length = ds0.length → (∀ k x, ds[k]? = some x → P k x) → Rep K G.M H' (.lst ds) v → Ex W H H' → G.B H' → Q v H') :
    ∃ a b xs ys, [v0, w0] = [V.ref a, V.ref b] ∧ ((SqL K H a xs ∧ SqL K H b ys ∧ LcEnd (gPair K i j) tYes te vs σ Q (Itz K a b) H) ∨ (SqT K H a xs ∧ SqT K H b ys ∧ LcEnd (gPair K i j) tYes te vs σ Q (ItzT K a b) H)) := by
  obtain ⟨a, xs, rfl, sq, rs⟩ := tup_of r0
  obtain ⟨b, ys, rfl, sq', rs'⟩ := tup_of r1
  refine ⟨a, b, xs, ys, rfl, .inr ⟨sq, sq', fun d nd => ?_⟩⟩
  refine ⟨fun k m H' => m = ds0.length - k ∧ k ≤ ds0.length ∧ Mk1 K G W H P d k H', ⟨ds0.length, by simp, Nat.zero_le _, Mk1.start hB nd⟩, ?_⟩
  rintro k m H' ⟨rfl, hi, mk⟩
  have nt : NoTup W H := fun c zs z => Bg.nt hB c zs (hW c z)
  have q : SqT K H' a xs := sqT_upC nt mk.e sq
  have q' : SqT K H' b ys := sqT_upC nt mk.e sq'
  by_cases hlt : k < ds0.length
  · obtain ⟨x, e1, e2⟩ := rs.at (List.getElem?_eq_getElem hlt)
    obtain ⟨y, e1', e2'⟩ := rs'.at (List.getElem?_eq_getElem hlt)
    refine .inr ⟨⟨xs, ys, x, y, q, q', e1, e1'⟩, fun H2 => Mk1 K G W H P d (k + 1) H2, fun H2 p' => ⟨ds0.length - (k + 1), by omega, rfl, hlt, p'⟩, ?_⟩
    rintro v H2 ⟨T, x', y', rfl, nT, rfl, hx, hy⟩
    obtain rfl : x' = x := Option.some.inj ((hx xs q).symm.trans e1)
    obtain rfl : y' = y := Option.some.inj ((hy ys q').symm.trans e1')
    refine ⟨T, [x', y'], rfl, .inl (.inl upd_same), rfl, x', [y'], rfl, y', [], rfl, rfl, hw _ _, ?_⟩
    show (if true = true then _ else Mk1 K G W H P d (k + 1) (upd H' T (.tup [x', y'])))
    rw [if_pos rfl]
    have s := same_upd (o := .tup [x', y']) nT
    have b2 := (G.plus d).st _ _ mk.bp s
    have ep := (mk.ep hW nd).trans (Ex.of s)
    have nts := Bg.nt (Mk1.bp (K := K) (W := W) (P := P) (Mk1.start hB nd))
    have e3 := (e2.enter hB nd).upC nts ep
    have e3' := (e2'.enter hB nd).upC nts ep
    exact body d k _ x' y' _ (List.getElem?_eq_getElem hlt) nd b2 ep e3 e3' _ fun z v H4 hp r ex b => mk.step hW hB nd (by omega) hp r ((Ex.of s).trans ex) b
  · have hk : k = ds0.length := by omega
    subst hk
    obtain ⟨ds, a1, a2, a3, a4, a5⟩ := mk.done hB nd
    exact .inl ⟨⟨xs, ys, q, q', .inl (by rw [rs.len]; exact Nat.le_refl _)⟩, fin ds _ H' a1 a2 a3 a4 a5⟩
theorem k_lcZL {i j : Nat} {vs : List Nat} {ds0 : List D} {v0 w0 : V} (W : Addr → Prop) (hW : ∀ a, W a → G.M a) (hn : ds0.length ≤ 1000) (hB : G.B H) (r0 : Rep K G.M H (.lst ds0) v0) (r1 : Rep K G.M H (.lst ds0) w0) (P : Nat → D → Prop)
    (hw : ∀ x y, wipe (((wipe σ vs).set i (some x)).set j (some y)) vs = wipe σ vs)
    (body : ∀ d k x0 a b H', ds0[k]? = some x0 → H d = none → (G.plus d).B H' → Ex (G.plus d).M (upd H d (.lst [])) H' → Rep K (G.plus d).M H' x0 a → Rep K (G.plus d).M H' x0 b → ∀ Q' : VK, (∀ x v H4, P k x → Rep K (G.plus d).M H4 x v → Ex W H' H4 → (G.plus d).B H4 → Q' v H4) → te (((wipe σ vs).set i (some a)).set j (some b)) H' Q')
    (fin : ∀ ds v H', ds.length = ds0.length → (∀ k x, ds[k]? = some x → P k x) → Rep K G.M H' (.lst ds) v → Ex W H H' → G.B H' → Q v H') :
    ∃ a b xs ys, [v0, w0] = [V.ref a, V.ref b] ∧ ((SqL K H a xs ∧ SqL K H b ys ∧ LcEnd (gPair K i j) tYes te vs σ Q (Itz K a b) H) ∨ (SqT K H a xs ∧ SqT K H b ys ∧ LcEnd (gPair K i j) tYes te vs σ Q (ItzT K a b) H)) := by
  obtain ⟨a, xs, rfl, nm, hr, rs⟩ := lst_of r0
  obtain ⟨b, ys, rfl, nm', hr', rs'⟩ := lst_of r1
  refine ⟨a, b, xs, ys, rfl, .inl ⟨.inl hr, .inl hr', fun d nd => ?_⟩⟩
  refine ⟨fun k m H' => m = ds0.length - k ∧ k ≤ ds0.length ∧ Mk1 K G W H P d k H', ⟨ds0.length, by simp, Nat.zero_le _, Mk1.start hB nd⟩, ?_⟩
  rintro k m H' ⟨rfl, hi, mk⟩
  have q : SqL K H' a xs := .inl (rd_up (fun z => nm (hW a z)) mk.e hr)
  have q' : SqL K H' b ys := .inl (rd_up (fun z => nm' (hW b z)) mk.e hr')
  by_cases hlt : k < ds0.length
  · obtain ⟨x, e1, e2⟩ := rs.at (List.getElem?_eq_getElem hlt)
    obtain ⟨y, e1', e2'⟩ := rs'.at (List.getElem?_eq_getElem hlt)
    refine .inr ⟨⟨xs, ys, x, y, q, q', e1, e1'⟩, fun H2 => Mk1 K G W H P d (k + 1) H2, fun H2 p' => ⟨ds0.length - (k + 1), by omega, rfl, hlt, p'⟩, ?_⟩
    rintro v H2 ⟨T, x', y', rfl, nT, rfl, hx, hy⟩
    obtain rfl : x' = x := Option.some.inj ((hx xs q).symm.trans e1)
    obtain rfl : y' = y := Option.some.inj ((hy ys q').symm.trans e1')
    refine ⟨T, [x', y'], rfl, .inl (.inl upd_same), rfl, x', [y'], rfl, y', [], rfl, rfl, hw _ _, ?_⟩
    show (if true = true then _ else Mk1 K G W H P d (k + 1) (upd H' T (.tup [x', y'])))
    rw [if_pos rfl]
    have s := same_upd (o := .tup [x', y']) nT
    have b2 := (G.plus d).st _ _ mk.bp s
    have ep := (mk.ep hW nd).trans (Ex.of s)
    have nts := Bg.nt (Mk1.bp (K := K) (W := W) (P := P) (Mk1.start hB nd))
    have e3 := (e2.enter hB nd).upC nts ep
    have e3' := (e2'.enter hB nd).upC nts ep
    exact body d k _ x' y' _ (List.getElem?_eq_getElem hlt) nd b2 ep e3 e3' _ fun z v H4 hp r ex b => mk.step hW hB nd (by omega) hp r ((Ex.of s).trans ex) b
  · have hk : k = ds0.length := by omega
    subst hk
    obtain ⟨ds, a1, a2, a3, a4, a5⟩ := mk.done hB nd
    exact .inl ⟨⟨xs, ys, q, q', .inl (by rw [rs.len]; exact Nat.le_refl _)⟩, fin ds _ H' a1 a2 a3 a4 a5⟩
end
/-! ### data that _law_same may be asked of: so deep at most, no instances within -/
def okD : Nat → D → Bool
  | 0, _ => false
  | n + 1, .tup ds => decide (ds.length ≤ 1000) && ds.all (okD n)
  | n + 1, .lst ds => decide (ds.length ≤ 1000) && ds.all (okD n)
  | _ + 1, .ins _ _ _ => false
  | _ + 1, _ => true
theorem okD_at {n : Nat} {ds : List D} {i : Nat} {x : D} (h : ds.all (okD n) = true) (e : ds[i]? = some x) : okD n x = true := List.all_eq_true.mp h x (List.mem_of_getElem? e)
theorem all_true {ds : List D} (p : ∀ (k : Nat) (x : D), ds[k]? = some x → x = .bl true) : ds = (List.replicate ds.length true).map .bl := by
  apply List.ext_getElem?
  intro k
  by_cases hk : k < ds.length
  · have h1 : ds[k]? = some ds[k] := List.getElem?_eq_getElem hk
    rw [h1, p k _ h1, List.getElem?_map, List.getElem?_replicate, if_pos hk]
    rfl
  · rw [List.getElem?_eq_none (by omega), List.getElem?_eq_none (by simp; omega)]
theorem rep_all (n : Nat) : (List.replicate n true).all id = true := by
  rw [List.all_eq_true]
  intro x h
  rw [(List.mem_replicate.mp h).2]
  rfl
section
variable {K : PySem.W.Frag} {M : Addr → Prop} {H : Hp} {σ : L2.St} {ta tb : TE} {Q : VK} {v : V} {d : D}
theorem v_eqV (ha : Val ta σ H v) (hb : Val tb σ H v) (hs : scal v v = true := by rfl) : Val (tOp rEq ta tb) σ H (.bl true) := fun _ q => ha _ (hb _ ⟨hs, by rw [decide_eq_true rfl]; exact q⟩)
theorem v_neV (ha : Val ta σ H v) (hb : Val tb σ H v) (hs : scal v v = true := by rfl) : Val (tOp rNe ta tb) σ H (.bl false) := fun _ q => ha _ (hb _ ⟨hs, by rw [decide_eq_true rfl]; exact q⟩)
def kitB2 (t a b : String) : Option Bool := match kitB t a with
  | some true => some true
  | some false => kitB t b
  | none => none
theorem kitB2_any {K : PySem.W.Frag} {t a b : String} {r : Bool} (h : kitB2 t a b = some r) : PySem.W.kitAny K (.type t) [.type a, .type b] = some r := by
  unfold kitB2 at h
  unfold PySem.W.kitAny
  cases e : kitB t a with
  | none => rw [e] at h; cases h
  | some x =>
    rw [e] at h
    rw [kit_ty e]
    cases x with
    | true => exact h
    | false =>
      unfold PySem.W.kitAny
      cases e2 : kitB t b with
      | none =>
        have h' : kitB t b = some r := h
        rw [e2] at h'; cases h'
      | some y =>
        have h' : kitB t b = some r := h
        rw [e2] at h'
        cases h'
        rw [kit_ty e2]
        cases r <;> rfl
/-- isinstance(x, (a, b)): two built-in types -/
theorem f_isi2 {A B ty : String} {b : Bool} (r : Rep K M H d v) (hk : kitB2 ty A B = some b) (q : ∀ p, H p = none → Q (.bl b) (upd H p (.tup [.ty A, .ty B]))) (ht : tyN d = ty := by rfl) (n : ∀ C ns ds, d ≠ .ins C ns ds := by intro _ _ _ z; cases z) :
    (∀ p, H p = none → rIsiT K [v, .ref p] (upd H p (.tup [.ty A, .ty B])) Q) := fun p hp => by
  have s := same_upd (o := .tup [.ty A, .ty B]) hp
  subst ht
  refine ⟨v, p, [.ty A, .ty B], _, [.type A, .type B], b, rfl, upd_same, .cons (.ty A) (.cons (.ty B) .nil), ?_, kitB2_any hk, q p hp⟩
  have r' : Rep K noM H d v := r.widen fun _ _ _ m => m.elim
  exact tyx_of (r'.upC (fun _ _ m => m.elim) (Ex.of s)) n
theorem k_isi2 {A B ty : String} {b : Bool} (ha : Val ta σ H v) (r : Rep K M H d v) (hk : kitB2 ty A B = some b) (q : ∀ p, H p = none → Q (.bl b) (upd H p (.tup [.ty A, .ty B]))) (ht : tyN d = ty := by rfl) (n : ∀ C ns ds, d ≠ .ins C ns ds := by intro _ _ _ z; cases z) :
    tCB (rIsiT K) (tCons ta (tCons (tTup (tCons (tC (.ty A)) (tCons (tC (.ty B)) tNil))) tNil)) σ H Q := ha _ ⟨by show 2 ≤ sizeLine; decide, fun p hp => f_isi2 r hk q ht n p hp⟩
theorem pg_tupK {X : Cx} {es : List Expr} {k : Nat} {t : TGs} {n : Nat} {pos : Pos} {K : PySem.W.Frag} (hc : X.calm = true) (h : PGs X es t) (hK : X.K = K := by rfl) (hn : (assignEach es X.env).length = n := by rfl) (hst : (assignEach es X.env).findIdx? (·.1) = none := by rfl) : PG X (.Tuple es k pos) (gTup K n t) := hK ▸ pg_tup hc h hn hst
end
/-! ### loops -/
section
variable {K : PySem.W.Frag} {G : Bg} {H : Hp} {σ : L2.St} {tb : TS} {D' : Ends}
def ForEnd (g : TG) (tb : TS) (D' : Ends) (σ : L2.St) (J : It) (H1 : Hp) : Prop := ∃ W : Nat → Nat → L2.St → Hp → Prop, (∃ m, W 0 m σ H1) ∧ ∀ i m σ H, W i m σ H →
  (J.stop i H ∧ D'.nx σ H) ∨ (J.go i H ∧ ∃ N : L2.St → Hp → Prop, (∀ σ' H', N σ' H' → ∃ m', m' < m ∧ W (i + 1) m' σ' H') ∧ ∀ x H', J.yld i H x H' → g x σ H' fun σ2 H2 => tb { D' with nx := N, ct := N, bk := D'.nx } σ2 H2)
theorem k_for_l {g : TG} {ta : TE} (q : ta σ H fun x H1 => ∃ a, x = V.ref a ∧ (∃ xs, SqL K H1 a xs) ∧ ForEnd g tb D' σ (Itl K a) H1) : tFor (iList K ta) g tb D' σ H := q
theorem k_for_r {g : TG} {tr : TA} (q : tr σ H fun xs H1 => ∃ j : Int, xs = [V.int j] ∧ -(2 ^ 62) ≤ j ∧ j < 2 ^ 62 ∧ ForEnd g tb D' σ (Itr 0 j.toNat) H1) : tFor (iRng1 tr) g tb D' σ H := q
theorem k_forL {j : Nat} {ds0 : List D} {v0 : V} (W : Addr → Prop) (hW : ∀ a, W a → G.M a) (hB : G.B H) (r0 : Rep K G.M H (.lst ds0) v0) (I : Nat → L2.St → Prop) (h0 : I 0 σ)
    (body : ∀ (i : Nat) (x0 : D) (w0 : V) (σ1 : L2.St) (H1 : Hp), ds0[i]? = some x0 → I i σ1 → G.B H1 → Ex W H H1 → Rep K G.M H1 x0 w0 → ∀ D2 : Ends, (∀ σ2 H2, I (i + 1) σ2 → Ex W H1 H2 → G.B H2 → D2.nx σ2 H2) → tb D2 (σ1.set j (some w0)) H1)
    (fin : ∀ σ1 H1, I ds0.length σ1 → Ex W H H1 → G.B H1 → D'.nx σ1 H1) : ∃ a, v0 = .ref a ∧ (∃ xs, SqL K H a xs) ∧ ForEnd (gName j) tb D' σ (Itl K a) H := by
  obtain ⟨a, xs, rfl, nm, hr, rs⟩ := lst_of r0
  refine ⟨a, rfl, ⟨xs, .inl hr⟩, ?_⟩
  refine for_list (K := K) (a := a) (xs := xs) (fun i σ1 H1 => I i σ1 ∧ Ex W H H1 ∧ G.B H1) ⟨h0, Ex.refl _ _, hB⟩ (fun i σ1 H1 _ ⟨_, e, _⟩ => .inl (rd_up (fun z => nm (hW a z)) e hr)) (fun i w σ1 H1 hi ⟨hI, e, b⟩ => ?_) (fun σ1 H1 ⟨hI, e, b⟩ => fin σ1 H1 (by rw [rs.len] at hI; exact hI) e b)
  have hl : i < ds0.length := by
    rw [← rs.len]
    exact (List.getElem?_eq_some_iff.mp hi).1
  obtain ⟨w', e1, e2⟩ := (rs.up hB (e.imp hW)).at (List.getElem?_eq_getElem hl)
  rw [hi] at e1
  cases e1
  exact body i _ w σ1 H1 (List.getElem?_eq_getElem hl) hI b e e2 _ fun σ2 H2 hI2 e3 b2 => ⟨hI2, e.trans e3, b2⟩
theorem k_forR {j n : Nat} (W : Addr → Prop) (hW : ∀ a, W a → G.M a) (hB : G.B H) (I : Nat → L2.St → Prop) (h0 : I 0 σ) (hn : n ≤ 1000)
    (body : ∀ (i : Nat) (σ1 : L2.St) (H1 : Hp), i < n → I i σ1 → G.B H1 → Ex W H H1 → ∀ D2 : Ends, (∀ σ2 H2, I (i + 1) σ2 → Ex W H1 H2 → G.B H2 → D2.nx σ2 H2) → tb D2 (σ1.set j (some (.int (i : Int)))) H1)
    (fin : ∀ σ1 H1, I n σ1 → Ex W H H1 → G.B H1 → D'.nx σ1 H1) {z : Int} (hz : z = (n : Int)) : ∃ i : Int, [V.int z] = [V.int i] ∧ -(2 ^ 62) ≤ i ∧ i < 2 ^ 62 ∧ ForEnd (gName j) tb D' σ (Itr 0 i.toNat) H := by
  subst hz
  refine ⟨(n : Int), rfl, by omega, by omega, ?_⟩
  have e : ((n : Int)).toNat = n := by omega
  rw [e]
  refine for_range (lo := 0) (n := n) (fun i σ1 H1 => I i σ1 ∧ Ex W H H1 ∧ G.B H1) ⟨h0, Ex.refl _ _, hB⟩ (fun i σ1 H1 hi ⟨hI, e, b⟩ => ?_) (fun σ1 H1 ⟨hI, e, b⟩ => fin σ1 H1 hI e b)
  rw [show (0 : Int) + (i : Int) = (i : Int) by omega]
  exact body i σ1 H1 hi hI b e _ fun σ2 H2 hI2 e3 b2 => ⟨hI2, e.trans e3, b2⟩
end
end Px

namespace Px
open PySem PySem.Spec PyProof.Rows L2
/-! ### -x of an own class -/
section
variable {X : Cx} {CX : CXT} {k : Nat} {f C : Addr} {fd : FuncData} {ps : List Str} {sp : Sp} {E : XK}
def rOwn1 (C : Addr) (sp : Sp) (E : XK) : V → Hp → VK → Prop := fun x H Q => ∃ a dx fs, x = .ref a ∧ H a = some (.ins C dx fs) ∧ sp [x] H Q E
theorem special_K {prog : Program} {w : World} {A : Around} {E : Value → Shared → Prop} {s : Shared} {K : PySem.W.Frag} {x C f : Addr} {ox : Obj} {od : Option Obj} {name : Str} {Q : Option Value → Shared → Prop} (X : K.In s.heap) (I : PySem.W.InstAt s.heap x ox C od) (hs : PySem.W.findIn K (.ref C) name = some (some (.ref f))) (hf : PySem.W.isFn K (.ref f) = true)
    (h : wpAny (model prog w) A (call (.ref f) [.ref x]) (fun v => Q (some v)) E s) : wpAny (model prog w) A (callSpecial? (.ref x) name) Q E s := by
  unfold callSpecial?
  refine wpAny_bind (wpAny_bind (I.type.here ((PySem.W.looks_findIn X hs).here ?_)))
  refine wpAny_holding (wpAny_bind ((PySem.W.bind_fn X _ (beq_iff_eq.mp hf)).here ?_))
  refine wpAny_bind (wpAny_mono h (fun v s' h' => ?_) fun _ _ h' => h')
  exact wpAny_pure h'
theorem un_own (Fo : FnOk X.prog X.w X.K X.mg X.base CX k f fd ps sp) (room : Room k X.A) (hb : Binds X.K fd ps []) (px : Passes CX X E)
    (at_ : PySem.W.findIn X.K (.ref C) "__neg__" = some (some (.ref f))) (isf : PySem.W.isFn X.K (.ref f) = true) : UnR X (unaryOp .USub) (rOwn1 C sp E) := by
  rintro pins s σ H x v Q I rx ⟨a, dx, fs, rfl, ha, q⟩
  obtain rfl : v = Value.ref a := rx
  obtain ⟨m, F⟩ := I.fr
  obtain ⟨mA, O, _⟩ := ins_get I.hok ha
  obtain ⟨od, J, _⟩ := O.look
  unfold unaryOp
  refine wpAny_holding ?_
  show wpAny _ _ (do
    match ← callSpecial? (.ref a) "__neg__" with
    | some r => pure r
    | none => raiseError "TypeError" s!"bad operand type for unary {"-"}: '{← typeNameOf (.ref a)}'") _ _ _
  refine wpAny_bind (special_K I.kIn J at_ isf ?_)
  refine wpAny_mono (run_fn (us := [.ref a]) (vs := [.ref a]) (dvs := []) Fo room hb .nil px I (.cons rfl .nil) q) (fun r s' h => ?_) fun _ _ z => z
  exact wpAny_pure h
end
section
variable {K : PySem.W.Frag} {M : Addr → Prop} {H : Hp} {σ : L2.St} {te ta tb : TE} {Q : VK} {v : V} {d : D}
theorem k_un {r : V → Hp → VK → Prop} (q : ta σ H fun x H1 => r x H1 Q) : tUn r ta σ H Q := q
theorem f_own1 {C : Addr} {ns : List Str} {ds : List D} {sp : Sp} {E : XK} (r : Rep K M H (.ins C ns ds) v) (q : sp [v] H Q E) : rOwn1 C sp E v H Q := by
  obtain ⟨a, dx, fs, rfl, _, h, e, rs⟩ := ins_of r
  exact ⟨a, dx, fs, rfl, h, q⟩
variable {G : Bg}
/-! ### tuples put together and cut -/
theorem Reps.app {M : Addr → Prop} {H : Hp} : ∀ {ds es : List D} {xs ys : List V}, Reps K M H ds xs → Reps K M H es ys → Reps K M H (ds ++ es) (xs ++ ys)
  | [], _, _, _, h, r => by rw [nil_of h]; exact r
  | d :: ds, _, _, _, h, r => by
    obtain ⟨w, t, rfl, h1, h2⟩ := cons_of h
    exact rcons h1 (Reps.app h2 r)
theorem Reps.drop {M : Addr → Prop} {H : Hp} : ∀ {ds : List D} {xs : List V} (n : Nat), Reps K M H ds xs → Reps K M H (ds.drop n) (xs.drop n)
  | _, _, 0, r => by rw [List.drop_zero, List.drop_zero]; exact r
  | [], _, n + 1, r => by rw [nil_of r]; exact rnil
  | d :: ds, _, n + 1, r => by
    obtain ⟨w, ws, rfl, r1, r2⟩ := cons_of r
    exact Reps.drop n r2
theorem f_catT {ds es : List D} {v w : V} (hB : G.B H) (r : Rep K G.M H (.tup ds) v) (r' : Rep K G.M H (.tup es) w) (q : ∀ u H', Rep K G.M H' (.tup (ds ++ es)) u → Same H H' → G.B H' → Q u H') (hl : Nat.ble (ds.length + es.length) 1000 = true := by rfl) : rCatA K v w H Q := by
  obtain ⟨a, xs, rfl, h, rs⟩ := tup_of r
  obtain ⟨b, ys, rfl, h', rs'⟩ := tup_of r'
  have l1 := rs.len
  have l2 := rs'.len
  have ll := Nat.le_of_ble_eq_true hl
  refine ⟨a, b, xs, ys, rfl, rfl, h, h', Nat.le_trans (by omega : xs.length + ys.length ≤ 1000) (by decide), fun e => ?_, fun _ e => ?_, fun _ _ p hp => ?_⟩
  · subst e
    have : ds = [] := by
      cases ds with
      | nil => rfl
      | cons _ _ => simp at l1
    subst this
    exact q _ _ r' (Same.refl _) hB
  · subst e
    have : es = [] := by
      cases es with
      | nil => rfl
      | cons _ _ => simp at l2
    subst this
    rw [List.append_nil] at q
    exact q _ _ r (Same.refl _) hB
  · have s := same_upd (o := .tup (xs ++ ys)) hp
    exact q _ _ (rtup (.inl (.inl upd_same)) ((rs.app rs').up hB (Ex.of s))) s (G.st _ _ hB s)
theorem f_slTt {n : Nat} {ds : List D} {v : V} (hB : G.B H) (r : Rep K G.M H (.tup ds) v) (q : ∀ u H', Rep K G.M H' (.tup (ds.take n)) u → Same H H' → G.B H' → Q u H') : rSlA K v none (some (n : Int)) H Q := by
  obtain ⟨a, xs, rfl, h, rs⟩ := tup_of r
  have l1 := rs.len
  refine ⟨a, xs, rfl, h, fun e => ?_, fun _ p hp => ?_⟩
  · rw [HT.sIx_nat] at e
    have e2 := e.2
    have : ds.take n = ds := List.take_of_length_le (by omega)
    rw [this] at q
    exact q _ _ r (Same.refl _) hB
  · rw [cutV_take]
    have s := same_upd (o := .tup (xs.take n)) hp
    exact q _ _ (rtup (.inl (.inl upd_same)) ((rs.take n).up hB (Ex.of s))) s (G.st _ _ hB s)
theorem f_slTd {n : Nat} {ds : List D} {v : V} (hB : G.B H) (r : Rep K G.M H (.tup ds) v) (q : ∀ u H', Rep K G.M H' (.tup (ds.drop n)) u → Same H H' → G.B H' → Q u H') (hnb : Nat.ble n ds.length = true := by rfl) : rSlA K v (some (n : Int)) none H Q := by
  have hn := Nat.le_of_ble_eq_true hnb
  obtain ⟨a, xs, rfl, h, rs⟩ := tup_of r
  have l1 := rs.len
  refine ⟨a, xs, rfl, h, fun e => ?_, fun _ p hp => ?_⟩
  · rw [HT.sIx_nat] at e
    have e1 := e.1
    have : ds.drop n = ds := by
      by_cases z : n = 0
      · subst z; exact List.drop_zero
      · have : ds.length = 0 := by omega
        cases ds with
        | nil => exact List.drop_nil
        | cons _ _ => simp at this
    rw [this] at q
    exact q _ _ r (Same.refl _) hB
  · have e : cutV xs (some (n : Int)) none = xs.drop n := by
      unfold cutV
      rw [HT.sIx_none, HT.sIx_nat, Nat.min_eq_left (by omega)]
      exact List.take_of_length_le (by rw [List.length_drop]; omega)
    rw [e]
    have s := same_upd (o := .tup (xs.drop n)) hp
    exact q _ _ (rtup (.inl (.inl upd_same)) ((rs.drop n).up hB (Ex.of s))) s (G.st _ _ hB s)
end
end Px

namespace Px
open PySem PySem.Spec PyProof.Rows L2
/-! ### lists that change -/
/-- the value is a list made between the two heaps (or no address) -/
def Own (H H' : Hp) (v : V) : Prop := ∀ p, v = .ref p → H p = none ∧ ∃ xs, H' p = some (.lst xs)
theorem own_ref {H H' : Hp} {p : Addr} {xs : List V} (h : H p = none) (h' : H' p = some (.lst xs)) : Own H H' (.ref p) := fun q e => by cases e; exact ⟨h, xs, h'⟩
theorem own_non {H H' : Hp} : Own H H' .non := fun q e => by cases e
theorem none_back {H0 H : Hp} {p : Addr} (s : Same H0 H) (n : H p = none) : H0 p = none := by
  cases h : H0 p with
  | none => rfl
  | some o =>
    have h1 := s _ _ h
    rw [n] at h1
    cases h1
theorem Own.at {H0 H H' H2 : Hp} {v : V} (f : Own H H' v) (s : Same H0 H) (s' : Same H' H2) : Own H0 H2 v := fun p e => by
  obtain ⟨n, xs, h⟩ := f p e
  exact ⟨none_back s n, xs, s' _ _ h⟩
theorem same_changed {H0 H : Hp} {p : Addr} {o : HO} (s : Same H0 H) (n : H0 p = none) : Same H0 (upd H p o) := fun a u e => by
  rw [upd_ne (ne_of_none e n)]
  exact s _ _ e
mutual
/-- no list within -/
def noList : D → Bool
  | .lst _ => false
  | .tup ds => noLists ds
  | .ins _ _ ds => noLists ds
  | _ => true
def noLists : List D → Bool
  | [] => true
  | d :: ds => noList d && noLists ds
end
section
variable {K : PySem.W.Frag} {G : Bg} {H : Hp} {p : Addr}
mutual
theorem Rep.lf {ys : List V} (hp : H p = some (.lst ys)) : ∀ {d : D} {v : V}, noList d = true → Rep K G.M H d v → Rep K (G.plus p).M H d v
  | .non, _, _, r => by unfold Rep at *; exact r
  | .bl _, _, _, r => by unfold Rep at *; exact r
  | .int _, _, _, r => by unfold Rep at *; exact r
  | .str _, _, _, r => by unfold Rep at *; exact r
  | .tup ds, v, n, r => by
    unfold noList at n
    obtain ⟨a, xs, rfl, h, rs⟩ := tup_of r
    exact rtup h (Reps.lf hp n rs)
  | .lst ds, v, n, r => by unfold noList at n; cases n
  | .ins C ns ds, v, n, r => by
    unfold noList at n
    obtain ⟨a, dx, fs, rfl, nm, h, e, rs⟩ := ins_of r
    refine rins (fun m => ?_) h e (Reps.lf hp n rs)
    rcases m with m | m
    · exact nm m
    · subst m; rw [hp] at h; cases h
theorem Reps.lf {ys : List V} (hp : H p = some (.lst ys)) : ∀ {ds : List D} {xs : List V}, noLists ds = true → Reps K G.M H ds xs → Reps K (G.plus p).M H ds xs
  | [], _, _, r => by rw [nil_of r]; exact rnil
  | d :: ds, _, n, r => by
    unfold noLists at n
    rw [Bool.and_eq_true] at n
    obtain ⟨w, ws, rfl, r1, r2⟩ := cons_of r
    exact rcons (Rep.lf hp n.1 r1) (Reps.lf hp n.2 r2)
end
/-- what stood ahead of the list at p -/
theorem Rep.past {d : D} {v : V} (n : H p = none) (r : Rep K G.M H d v) : Rep K (G.plus p).M H d v := r.widen fun a o e m => by
  rcases m with m | m
  · exact m
  · subst m; rw [n] at e; cases e
theorem Rep.pastUp {H0 : Hp} {d : D} {v : V} (b : G.B H0) (n : H0 p = none) (r : Rep K G.M H0 d v) (s : Same H0 H) : Rep K (G.plus p).M H d v := by
  refine (r.past n).upC (fun a xs m h => ?_) (Ex.of s)
  rcases m with m | m
  · exact Bg.nt b a xs m h
  · subst m
    rcases h with h | ⟨o, h⟩ <;> (rw [n] at h; cases h)
theorem own_at {H0 H : Hp} {v : V} {ds : List D} (f : Own H0 H v) (r : Rep K G.M H (.lst ds) v) : ∃ q xs, v = .ref q ∧ H0 q = none ∧ H q = some (.lst xs) ∧ xs.length = ds.length := by
  obtain ⟨q, xs, rfl, _, h, rs⟩ := lst_of r
  obtain ⟨n, ys, hy⟩ := f q rfl
  refine ⟨q, ys, rfl, n, hy, ?_⟩
  rcases h with h | ⟨o, h⟩ <;> rw [hy] at h <;> cases h
  exact rs.len
theorem Bg.plusB {ys : List V} (b : G.B H) (hp : H p = some (.lst ys)) : (G.plus p).B H := ⟨b, ys, hp⟩
theorem Bg.changed {H0 : Hp} {ys : List V} (b0 : G.B H0) (n0 : H0 p = none) (b : (G.plus p).B H) : (G.plus p).B (upd H p (.lst ys)) :=
  ⟨G.fr H0 p b0 n0 H _ b.1 b.2 fun a o h z => by rw [upd_ne z]; exact h, ys, upd_same⟩
theorem ex_changed {ys : List V} : Ex (G.plus p).M H (upd H p (.lst ys)) := fun a o h z => by rw [upd_ne fun e => z (.inr e)]; exact h
end
section
variable {K : PySem.W.Frag} {G : Bg} {H : Hp} {σ : L2.St} {te ta tb : TE} {Q : VK} {W : Addr → Prop} {v : V}
theorem k_lcTF {j : Nat} {vs : List Nat} {ds0 : List D} {v0 : V} (W : Addr → Prop) (hW : ∀ a, W a → G.M a) (hn : ds0.length ≤ 1000) (hB : G.B H) (r0 : Rep K G.M H (.tup ds0) v0) (P : Nat → D → Prop) (hw : ∀ x, wipe ((wipe σ vs).set j (some x)) vs = wipe σ vs)
    (body : ∀ d i x0 w0 H', ds0[i]? = some x0 → H d = none → (G.plus d).B H' → Ex (G.plus d).M (upd H d (.lst [])) H' → Rep K (G.plus d).M H' x0 w0 → ∀ Q' : VK, (∀ x v H4, P i x → Rep K (G.plus d).M H4 x v → Ex W H' H4 → (G.plus d).B H4 → Q' v H4) → te ((wipe σ vs).set j (some w0)) H' Q')
    (fin : ∀ ds v H', ds.length = ds0.length → (∀ k x, ds[k]? = some x → P k x) → Rep K G.M H' (.lst ds) v → Ex W H H' → G.B H' → Own H H' v → Q v H') :
    ∃ a, v0 = .ref a ∧ (∃ xs, SqT K H a xs) ∧ (∀ D, H D = none → ∃ Wi : Nat → Nat → Hp → Prop, (∃ m, Wi 0 m (upd H D (.lst []))) ∧ ∀ i' m H, Wi i' m H →
      ((Itt K a).stop i' H ∧ Q (.ref D) H) ∨ ((Itt K a).go i' H ∧ ∃ Nx : Hp → Prop, (∀ H', Nx H' → ∃ m', m' < m ∧ Wi (i' + 1) m' H') ∧ ∀ x H', (Itt K a).yld i' H x H' → gName j x (wipe σ vs) H' fun σ2 H2 => wipe σ2 vs = wipe σ vs ∧ tYes σ2 H2 fun b H3 =>
        if b = true then te σ2 H3 fun y H4 => ∃ acc, H4 D = some (.lst acc) ∧ acc.length < sizeLine ∧ Nx (upd H4 D (.lst (acc ++ [y]))) else Nx H3)) := by
  obtain ⟨a, xs, rfl, sq, rs⟩ := tup_of r0
  refine ⟨a, rfl, ⟨xs, sq⟩, fun d nd => ?_⟩
  refine lc_tup (K := K) (a := a) (xs := xs) (fun i H' => Mk1 K G W H P d i H') (Mk1.start hB nd) (fun i H' _ m => ?_) (fun i w H' hi m => ?_) (fun H' m => ?_)
  · exact sqT_upC (fun b ys z => Bg.nt hB b ys (hW b z)) m.e sq
  · have hil : i < ds0.length := by
      rw [← rs.len]
      exact (List.getElem?_eq_some_iff.mp hi).1
    obtain ⟨w', e1, e2⟩ := rs.at (List.getElem?_eq_getElem hil)
    rw [hi] at e1
    cases e1
    have e3 := (e2.enter hB nd).upC (Bg.nt (Mk1.bp (K := K) (W := W) (P := P) (Mk1.start hB nd))) (m.ep hW nd)
    refine ⟨hw _, ?_⟩
    show (if true = true then _ else Mk1 K G W H P d (i + 1) H')
    rw [if_pos rfl]
    exact body d i _ w H' (List.getElem?_eq_getElem hil) nd m.bp (m.ep hW nd) e3 _ fun x v H4 hp r ex b => m.step hW hB nd (by omega) hp r ex b
  · have hl := rs.len
    rw [hl] at m
    obtain ⟨ds, a1, a2, a3, a4, a5⟩ := m.done hB nd
    exact fin ds _ H' a1 a2 a3 a4 a5 (own_ref nd m.a.choose_spec.choose_spec.1)
theorem k_lcTFE {j : Nat} {vs : List Nat} {ds0 : List D} {v0 : V} (W : Addr → Prop) (hW : ∀ a, W a → G.M a) (hn : ds0.length ≤ 1000) (hB : G.B H) (r0 : Rep K G.M H (.tup ds0) v0) (P : Nat → D → Prop) (hw : ∀ x, wipe ((wipe σ vs).set j (some x)) vs = wipe σ vs)
    (body : ∀ d i x0 w0 H', ds0[i]? = some x0 → H d = none → (G.plus d).B H' → Ex (G.plus d).M (upd H d (.lst [])) H' → Rep K (G.plus d).M H' x0 w0 → ∀ Q' : VK, (∀ x v H4, P i x → Rep K (G.plus d).M H4 x v → Ex W H' H4 → (G.plus d).B H4 → Q' v H4) → te ((wipe σ vs).set j (some w0)) H' Q')
    (fin : ∀ ds v H', ds.length = ds0.length → (∀ k x, ds[k]? = some x → P k x) → Rep K G.M H' (.lst ds) v → Ex W H H' → G.B H' → Own H H' v → Q v H') :
    ∃ a, v0 = .ref a ∧ (∃ xs, SqT K H a xs) ∧ LcEnd (gName j) tYes te vs σ Q (Itt K a) H := k_lcTF W hW hn hB r0 P hw body fin
theorem f_listTF {ds : List D} (hB : G.B H) (r : Rep K G.M H (.tup ds) v) (q : ∀ w H', Rep K G.M H' (.lst ds) w → Same H H' → G.B H' → Own H H' w → Q w H') : LstOf K Q [v] H := by
  obtain ⟨a, xs, rfl, h, rs⟩ := tup_of r
  refine ⟨a, xs, rfl, .inr h, fun p hp => ?_⟩
  have s := same_upd (o := .lst xs) hp
  exact q _ _ (rlst (nm_new hB hp) (.inl upd_same) (rs.up hB (Ex.of s))) s (G.st _ _ hB s) (own_ref hp upd_same)
theorem f_listLF {ds : List D} (hB : G.B H) (r : Rep K G.M H (.lst ds) v) (q : ∀ w H', Rep K G.M H' (.lst ds) w → Same H H' → G.B H' → Own H H' w → Q w H') : LstOf K Q [v] H := by
  obtain ⟨a, xs, rfl, _, h, rs⟩ := lst_of r
  refine ⟨a, xs, rfl, .inl (.inl h), fun p hp => ?_⟩
  have s := same_upd (o := .lst xs) hp
  exact q _ _ (rlst (nm_new hB hp) (.inl upd_same) (rs.up hB (Ex.of s))) s (G.st _ _ hB s) (own_ref hp upd_same)
end
end Px

namespace Px
open PySem PySem.Spec PyProof.Rows L2
/-! ### over a tuple of pairs; lists that a loop makes; max, index -/
theorem k_drop {te : TE} {D' : Ends} {σ : L2.St} {H : Hp} (q : te σ H fun _ H1 => D'.nx σ H1) : tDrop te D' σ H := q
section
variable {K : PySem.W.Frag} {G : Bg} {H : Hp} {σ : L2.St} {te ta tb : TE} {Q : VK} {W : Addr → Prop} {v : V}
theorem k_bm {T : String} {r : V → List V → Hp → VK → Prop} {to : TE} {t : TA} (q : to σ H fun x H1 => tyV K T x H1 ∧ t σ H1 fun xs H2 => r x xs H2 Q) : tBM K T r to t σ H Q := q
theorem ints_of {M : Addr → Prop} : ∀ {ns : List Int} {xs : List V}, Reps K M H (ns.map D.int) xs → xs = ns.map V.int
  | [], _, r => nil_of r
  | n :: ns, _, r => by
    obtain ⟨w, ws, rfl, r1, r2⟩ := cons_of r
    rw [int_of r1, ints_of r2]
    rfl
theorem f_max {M : Addr → Prop} {ns : List Int} (m : Int) (r : Rep K M H (.lst (ns.map D.int)) v) (hm : m ∈ ns) (h : ∀ y, y ∈ ns → y ≤ m) (q : Q (.int m) H) : rMax K [v] H Q := by
  obtain ⟨a, xs, rfl, _, hs, rs⟩ := lst_of r
  rw [ints_of rs] at hs
  refine ⟨a, ns, rfl, .inl hs, List.length_pos_of_mem hm, fun m' h1 h2 => ?_⟩
  have e : m' = m := Int.le_antisymm (h m' h1) (h2 m hm)
  subst e
  exact q
theorem cr_maxK {X : Cx} {K : PySem.W.Frag} (hc : X.calm = true) (h : X.K = K := by rfl) : CallR X (.builtin "max") (rMax K) := h ▸ cr_max hc
theorem mt_indexK {X : Cx} {K : PySem.W.Frag} (h : X.K = K := by rfl) : MtR X "list.index" (rIndex K) := h ▸ mt_index
theorem flat_ints (ns : List Int) : (ns.map V.int).all flatV = true := by
  rw [List.all_eq_true]
  intro x h
  obtain ⟨i, _, rfl⟩ := List.mem_map.mp h
  rfl
theorem f_index {M : Addr → Prop} {ns : List Int} {i : Int} (j : Nat) (r : Rep K M H (.lst (ns.map D.int)) v) (hj : ns[j]? = some i) (hno : ∀ m : Nat, m < j → ns[m]? ≠ some i) (q : Q (.int (j : Nat)) H) : rIndex K v [.int i] H Q := by
  obtain ⟨a, xs, rfl, _, hs, rs⟩ := lst_of r
  rw [ints_of rs] at hs
  refine ⟨a, ns.map V.int, .int i, j, .int i, rfl, rfl, .inl hs, rfl, flat_ints ns, by rw [List.getElem?_map, hj]; rfl, by show (i == i) = true; exact beq_self_eq_true i, fun m z' hm hz => ?_, q⟩
  rw [List.getElem?_map, Option.map_eq_some_iff] at hz
  obtain ⟨k, h1, rfl⟩ := hz
  show (k == i) = false
  rw [beq_eq_false_iff_ne]
  intro e
  subst e
  exact hno m hm h1
theorem ty_list {M : Addr → Prop} {ds : List D} (r : Rep K M H (.lst ds) v) : tyV K "list" v H := by
  obtain ⟨a, xs, rfl, _, hs, rs⟩ := lst_of r
  exact .inl ⟨rfl, xs, .inl hs⟩
theorem ty_at {p : Addr} {xs : List V} (h : H p = some (.lst xs)) : tyV K "list" (.ref p) H := .inl ⟨rfl, xs, .inl (.inl h)⟩
/-- [e for i, j in xs], xs a tuple of pairs of ints -/
theorem k_lcTP {i j : Nat} {vs : List Nat} {ps : List (Int × Int)} {v0 : V} (hn : ps.length ≤ 1000) (hB : G.B H) (r0 : Rep K G.M H (.tup (ps.map fun p => .tup [.int p.1, .int p.2])) v0) (P : Nat → D → Prop)
    (hw : ∀ x y, wipe (((wipe σ vs).set i (some x)).set j (some y)) vs = wipe σ vs)
    (body : ∀ d k p q H', ps[k]? = some (p, q) → H d = none → (G.plus d).B H' → Ex (G.plus d).M (upd H d (.lst [])) H' → ∀ Q' : VK, (∀ x v H4, P k x → Rep K (G.plus d).M H4 x v → Ex noM H' H4 → (G.plus d).B H4 → Q' v H4) → te (((wipe σ vs).set i (some (.int p))).set j (some (.int q))) H' Q')
    (fin : ∀ ds v H', ds.length = ps.length → (∀ k x, ds[k]? = some x → P k x) → Rep K G.M H' (.lst ds) v → Ex noM H H' → G.B H' → Q v H') :
    ∃ a, v0 = .ref a ∧ (∃ xs, SqT K H a xs) ∧ LcEnd (gTup K 2 (gCons (gName i) (gCons (gName j) gNil))) tYes te vs σ Q (Itt K a) H := by
  obtain ⟨a, xs, rfl, sq, rs⟩ := tup_of r0
  have hW : ∀ a, noM a → G.M a := fun _ m => m.elim
  refine ⟨a, rfl, ⟨xs, sq⟩, fun d nd => ?_⟩
  refine lc_tup (K := K) (a := a) (xs := xs) (fun i H' => Mk1 K G noM H P d i H') (Mk1.start hB nd) (fun i H' _ m => ?_) (fun k w H' hi m => ?_) (fun H' m => ?_)
  · exact sqT_upC (fun b ys z => z.elim) m.e sq
  · have hil : k < ps.length := by
      have h1 := (List.getElem?_eq_some_iff.mp hi).1
      rw [rs.len, List.length_map] at h1
      exact h1
    have e0 : (ps.map fun p => D.tup [.int p.1, .int p.2])[k]? = some (.tup [.int ps[k].1, .int ps[k].2]) := by rw [List.getElem?_map, List.getElem?_eq_getElem hil]; rfl
    obtain ⟨w', e1, e2⟩ := rs.at e0
    rw [hi] at e1
    cases e1
    have e3 := (e2.enter hB nd).upC (Bg.nt (Mk1.bp (K := K) (W := noM) (P := P) (Mk1.start hB nd))) (m.ep hW nd)
    obtain ⟨b, ys, rfl, sq2, rs2⟩ := tup_of e3
    obtain ⟨x1, t1, rfl, rx1, rt1⟩ := cons_of rs2
    obtain ⟨y1, t2, rfl, ry1, rt2⟩ := cons_of rt1
    cases nil_of rt2
    cases int_of rx1
    cases int_of ry1
    refine ⟨b, _, rfl, sq2, rfl, _, _, rfl, _, _, rfl, rfl, hw _ _, ?_⟩
    show (if true = true then _ else Mk1 K G noM H P d (k + 1) H')
    rw [if_pos rfl]
    exact body d k _ _ H' (List.getElem?_eq_getElem hil) nd m.bp (m.ep hW nd) _ fun x v H4 hp r ex b => m.step hW hB nd (by omega) hp r ex b
  · have hl := rs.len
    rw [hl, List.length_map] at m
    obtain ⟨ds, a1, a2, a3, a4, a5⟩ := m.done hB nd
    exact fin ds _ H' a1 a2 a3 a4 a5
variable {D' : Ends} {tbs : TS}
/-- a list that a loop over a range appends to, once a turn -/
theorem k_forMk {j n : Nat} {H0 : Hp} {d : Addr} (hB : G.B H0) (nd : H0 d = none) (P : Nat → D → Prop) (m0 : Mk1 K G noM H0 P d 0 H) (I : Nat → L2.St → Prop) (h0 : I 0 σ) (hn : n ≤ 1000)
    (body : ∀ (i : Nat) (zi : Int) (σ1 : L2.St) (H1 : Hp), i < n → zi = (i : Int) → I i σ1 → (G.plus d).B H1 → Ex (G.plus d).M (upd H0 d (.lst [])) H1 → ∀ D2 : Ends,
      (∀ σ2 x v H4, I (i + 1) σ2 → P i x → Rep K (G.plus d).M H4 x v → Ex noM H1 H4 → (G.plus d).B H4 → ∃ acc, H4 d = some (.lst acc) ∧ acc.length < sizeLine ∧ D2.nx σ2 (upd H4 d (.lst (acc ++ [v])))) → tbs D2 (σ1.set j (some (.int zi))) H1)
    (fin : ∀ σ1 ds H1, I n σ1 → ds.length = n → (∀ k x, ds[k]? = some x → P k x) → Rep K G.M H1 (.lst ds) (.ref d) → Ex noM H0 H1 → G.B H1 → Own H0 H1 (.ref d) → D'.nx σ1 H1) {z : Int} (hz : z = (n : Int)) :
    ∃ i : Int, [V.int z] = [V.int i] ∧ -(2 ^ 62) ≤ i ∧ i < 2 ^ 62 ∧ ForEnd (gName j) tbs D' σ (Itr 0 i.toNat) H := by
  subst hz
  refine ⟨(n : Int), rfl, by omega, by omega, ?_⟩
  have e : ((n : Int)).toNat = n := by omega
  rw [e]
  have hW : ∀ a, noM a → G.M a := fun _ m => m.elim
  refine for_range (lo := 0) (n := n) (fun i σ1 H1 => I i σ1 ∧ Mk1 K G noM H0 P d i H1) ⟨h0, m0⟩ (fun i σ1 H1 hi ⟨hI, m⟩ => ?_) (fun σ1 H1 ⟨hI, m⟩ => ?_)
  · rw [show (0 : Int) + (i : Int) = (i : Int) by omega]
    refine body i _ σ1 H1 hi rfl hI m.bp (m.ep hW nd) _ fun σ2 x v H4 hI2 hp r ex b => ?_
    obtain ⟨acc, h1, h2, h3⟩ := m.step hW hB nd (by omega) hp r ex b
    exact ⟨acc, h1, h2, hI2, h3⟩
  · obtain ⟨ds, a1, a2, a3, a4, a5⟩ := m.done hB nd
    exact fin σ1 ds H1 hI a1 a2 a3 a4 a5 (own_ref nd m.a.choose_spec.choose_spec.1)
/-- the list at d is new and still empty -/
theorem Mk1.still {P : Nat → D → Prop} {d : Addr} {H0 H1 : Hp} (hB : G.B H0) (nd : H0 d = none) (s : Same (upd H0 d (.lst [])) H1) (b : G.B H1) : Mk1 K G noM H0 P d 0 H1 :=
  ⟨⟨[], [], s _ _ upd_same, rnil, rfl, fun k x h => by simp at h⟩, (Ex.of (same_upd nd)).trans (Ex.of s), b⟩
end
theorem pair_of {a b c d : Int} (h : some (a, b) = some (c, d)) : c = a ∧ d = b := by
  cases h
  exact ⟨rfl, rfl⟩
theorem app_at {D2 : Ends} {σ2 : L2.St} {H4 : Hp} {d : Addr} {v : V} (h : ∃ acc, H4 d = some (.lst acc) ∧ acc.length < sizeLine ∧ D2.nx σ2 (upd H4 d (.lst (acc ++ [v])))) :
    ∃ l xs w, V.ref d = .ref l ∧ [v] = [w] ∧ H4 l = some (.lst xs) ∧ xs.length < sizeLine ∧ D2.nx σ2 (upd H4 l (.lst (xs ++ [w]))) := by
  obtain ⟨acc, h1, h2, h3⟩ := h
  exact ⟨d, acc, v, rfl, rfl, h1, h2, h3⟩
end Px

namespace Px
open PySem PySem.Spec PyProof.Rows L2
/-! ### tables made of four -/
abbrev tbD (C : Addr) (a b c d : Rat) : D := .ins C ["a", "b", "c", "d"] [fr a, fr b, fr c, fr d]
/-! ### kinds -/
inductive Kd where
  | slanted | turned | mirrored | stretched | sized | even
  deriving DecidableEq
def kdS : Kd → Str
  | .slanted => "slanted"
  | .turned => "turned"
  | .mirrored => "mirrored"
  | .stretched => "stretched"
  | .sized => "sized"
  | .even => "even"
def ownN : Kd → Nat
  | .slanted => 4
  | .turned => 2
  | .mirrored => 2
  | .stretched => 2
  | .sized => 1
  | .even => 1
/-- for each entry of a kind's tables: which own number, times what -/
def entsK : Kd → List (Int × Int)
  | .slanted => [(0, 1), (1, 1), (2, 1), (3, 1)]
  | .turned => [(0, 1), (1, -1), (1, 1), (0, 1)]
  | .mirrored => [(0, 1), (1, 1), (1, 1), (0, -1)]
  | .stretched => [(0, 1), (0, 0), (0, 0), (1, 1)]
  | .sized => [(0, 1), (0, 0), (0, 0), (0, 1)]
  | .even => [(0, 1), (0, 0), (0, 0), (0, 1)]
def plcD (k : Kd) : D := .tup ((entsK k).map fun p => .tup [.int p.1, .int p.2])
/-- a table's four entries -/
structure Tb where
  a : Rat
  b : Rat
  c : Rat
  d : Rat
  deriving DecidableEq
abbrev tbT (t : Tb) : D := .tup [fr t.a, fr t.b, fr t.c, fr t.d]
abbrev tbI (C : Addr) (t : Tb) : D := tbD C t.a t.b t.c t.d
/-- the own numbers, as a list of so many of four -/
def nums : Kd → Rat → Rat → Rat → Rat → List Rat
  | .slanted, a, b, c, d => [a, b, c, d]
  | .turned, a, b, _, _ => [a, b]
  | .mirrored, a, b, _, _ => [a, b]
  | .stretched, a, b, _, _ => [a, b]
  | .sized, a, _, _, _ => [a]
  | .even, a, _, _, _ => [a]
def filled : Kd → Rat → Rat → Rat → Rat → Tb
  | .slanted, a, b, c, d => ⟨a, b, c, d⟩
  | .turned, a, b, _, _ => ⟨a, -b, b, a⟩
  | .mirrored, a, b, _, _ => ⟨a, b, b, -a⟩
  | .stretched, a, b, _, _ => ⟨a, 0, 0, b⟩
  | .sized, a, _, _, _ => ⟨a, 0, 0, a⟩
  | .even, a, _, _, _ => ⟨a, 0, 0, a⟩
/-- the own numbers, read off -/
def offA : Kd → Tb → Rat := fun _ t => t.a
def offB : Kd → Tb → Rat
  | .slanted, t => t.b
  | .turned, t => t.c
  | .mirrored, t => t.c
  | .stretched, t => t.d
  | _, t => t.d
def read (k : Kd) (t : Tb) : Tb := filled k (offA k t) (offB k t) t.c t.d
def fitsB (k : Kd) (t : Tb) : Bool := decide (read k t = t)
abbrev numsD (k : Kd) (a b c d : Rat) : D := .lst ((nums k a b c d).map fr)
def mulT (s t : Tb) : Tb := ⟨s.a * t.a + s.b * t.c, s.a * t.b + s.b * t.d, s.c * t.a + s.d * t.c, s.c * t.b + s.d * t.d⟩
def dlt (i j : Nat) : Rat := if i = j then 1 else 0
def unitT (k : Kd) (i : Nat) : Tb := filled k (dlt 0 i) (dlt 1 i) (dlt 2 i) (dlt 3 i)
def units (k : Kd) : List Tb := (List.range (ownN k)).map (unitT k)
def staysB (k : Kd) (t : Tb) (f : Kd) : Bool := (units k).all fun u => fitsB f (mulT u t)
/-- every table of a kind is the sum of its units' multiples -/
theorem stays_all {k f : Kd} {t : Tb} (h : staysB k t f = true) (a b c d : Rat) : fitsB f (mulT (filled k a b c d) t) = true := by
  cases k <;> cases f <;> simp only [staysB, units, ownN, List.range, List.range.loop, List.map, List.all_cons, List.all_nil, Bool.and_true, Bool.and_eq_true, fitsB, decide_eq_true_eq, unitT, filled, dlt, mulT, read, offA, offB, Tb.mk.injEq] at h ⊢ <;> grind
theorem mul_assocT (u t s : Tb) : mulT (mulT u t) s = mulT u (mulT t s) := by
  simp only [mulT, Tb.mk.injEq]
  grind
theorem chain_ok {k f l : Kd} {t s : Tb} (h1 : staysB k t f = true) (h2 : staysB f s l = true) : staysB k (mulT t s) l = true := by
  unfold staysB at h1 ⊢
  rw [List.all_eq_true] at h1 ⊢
  intro u hu
  have e : read f (mulT u t) = mulT u t := of_decide_eq_true (h1 u hu)
  have h4 := stays_all h2 (offA f (mulT u t)) (offB f (mulT u t)) (mulT u t).c (mulT u t).d
  have e' : filled f (offA f (mulT u t)) (offB f (mulT u t)) (mulT u t).c (mulT u t).d = mulT u t := e
  rw [e', mul_assocT] at h4
  exact h4
def oneT : Tb := ⟨1, 0, 0, 1⟩
def zeroT : Tb := ⟨0, 0, 0, 0⟩
def narrowP (k o : Kd) : Bool := if k = .sized ∧ o = .even then false else staysB k oneT o
def narrowL (k o : Kd) : Bool := if o = .even then decide (k = .even) else staysB k oneT o
theorem narrow_eq (k o : Kd) : narrowP k o = narrowL k o := by
  cases k <;> cases o <;> decide +kernel
theorem stays_zero (k o : Kd) : staysB k zeroT o = true := by
  cases k <;> cases o <;> decide +kernel
theorem stays_one_even (k : Kd) : staysB k oneT .even = decide (k = .sized ∨ k = .even) := by
  cases k <;> decide +kernel
/-- a sized table, times the table -/
theorem stays_sized (t : Tb) (k : Kd) : staysB .sized t k = fitsB k t := by
  have e : mulT (unitT .sized 0) t = t := by
    simp only [mulT, unitT, filled, dlt]
    cases t
    simp only [Tb.mk.injEq]
    grind
  show ((List.range 1).map (unitT .sized)).all (fun u => fitsB k (mulT u t)) = _
  show (fitsB k (mulT (unitT .sized 0) t) && true) = _
  rw [e, Bool.and_true]
/-- what own_numbers answers -/
def ownD (k : Kd) (t : Tb) : D := if fitsB k t = true then numsD k (offA k t) (offB k t) t.c t.d else .non
theorem own_none (k : Kd) (t : Tb) : (!noneD (ownD k t)) = fitsB k t := by
  unfold ownD
  cases h : fitsB k t with
  | true => rw [if_pos rfl]; rfl
  | false => rw [if_neg Bool.false_ne_true]; rfl
def SzT (n : Nat) (t : Tb) : Prop := SzR n t.a ∧ SzR n t.b ∧ SzR n t.c ∧ SzR n t.d
theorem SzT.mono {a b : Nat} {t : Tb} (h : SzT a t) (l : a ≤ b) : SzT b t := ⟨h.1.mono l, h.2.1.mono l, h.2.2.1.mono l, h.2.2.2.mono l⟩
theorem szr_dlt (i j : Nat) : SzR 1 (dlt i j) := by
  unfold dlt
  split
  · exact szr_lit 1 1
  · exact szr_lit 1 0
theorem szr_zero {n : Nat} (h : 1 ≤ n) : SzR n 0 := (szr_lit 1 0).mono h
theorem szT_filled {n : Nat} {a b c d : Rat} (k : Kd) (h : 1 ≤ n) (ha : SzR n a) (hb : SzR n b) (hc : SzR n c) (hd : SzR n d) : SzT n (filled k a b c d) := by
  cases k <;> refine ⟨?_, ?_, ?_, ?_⟩ <;> first | assumption | exact szr_neg (by assumption) | exact szr_zero h
theorem szT_mul {n m r : Nat} {s t : Tb} (h : SzT n s) (k : SzT m t) (l : 2 * n + 2 * m + 1 ≤ r) : SzT r (mulT s t) :=
  ⟨szr_add (szr_mul h.1 k.1 (Nat.le_refl _)) (szr_mul h.2.1 k.2.2.1 (Nat.le_refl _)) (by omega), szr_add (szr_mul h.1 k.2.1 (Nat.le_refl _)) (szr_mul h.2.1 k.2.2.2 (Nat.le_refl _)) (by omega),
    szr_add (szr_mul h.2.2.1 k.1 (Nat.le_refl _)) (szr_mul h.2.2.2 k.2.2.1 (Nat.le_refl _)) (by omega), szr_add (szr_mul h.2.2.1 k.2.1 (Nat.le_refl _)) (szr_mul h.2.2.2 k.2.2.2 (Nat.le_refl _)) (by omega)⟩
theorem szT_unit {k : Kd} {u : Tb} (h : u ∈ units k) : SzT 1 u := by
  unfold units at h
  rw [List.mem_map] at h
  obtain ⟨i, _, rfl⟩ := h
  exact szT_filled k (Nat.le_refl 1) (szr_dlt 0 i) (szr_dlt 1 i) (szr_dlt 2 i) (szr_dlt 3 i)
theorem eqv_tb (t u : Tb) : PyData.eqv (toPd (tbT t)) (toPd (tbT u)) = decide (t = u) := by
  have h : PyData.eqv (toPd (tbT t)) (toPd (tbT u)) = (PyData.eqv (toPd (fr t.a)) (toPd (fr u.a)) && (PyData.eqv (toPd (fr t.b)) (toPd (fr u.b)) && (PyData.eqv (toPd (fr t.c)) (toPd (fr u.c)) && (PyData.eqv (toPd (fr t.d)) (toPd (fr u.d)) && true)))) := by
    rw [tbT, tbT]
    conv => lhs; rw [toPd, toPd, toPds, toPds, toPds, toPds, toPds, toPds, toPds, toPds, toPds, toPds]
    rw [PyData.eqv, PyData.eqvAll, PyData.eqvAll, PyData.eqvAll, PyData.eqvAll, PyData.eqvAll]
  rw [h, eqv_fr, eqv_fr, eqv_fr, eqv_fr]
  cases t; cases u
  simp only [Tb.mk.injEq, Bool.and_true, Bool.decide_and]
theorem mul_m1 (y : Rat) : y * (-1) = -y := by grind
theorem units_len (k : Kd) : (units k).length ≤ 1000 := by
  unfold units
  rw [List.length_map, List.length_range]
  cases k <;> decide
theorem units_get {α : Type} {k : Kd} {e : Tb → α} {i : Nat} {x : α} (h : ((units k).map e)[i]? = some x) : ∃ u, (units k)[i]? = some u ∧ x = e u ∧ SzT 1 u := by
  rw [List.getElem?_map, Option.map_eq_some_iff] at h
  obtain ⟨u, h1, rfl⟩ := h
  exact ⟨u, h1, rfl, szT_unit (List.mem_of_getElem? h1)⟩
theorem all_units {k : Kd} {p : Tb → Bool} : ((units k).map p).all id = (units k).all p := by
  rw [List.all_map]
  rfl
theorem even_of {o : Kd} (h : decide (kdS o = ("even" : Str)) = true) : o = .even := by
  have e := of_decide_eq_true h
  cases o <;> first | rfl | exact absurd e (by decide +kernel)
theorem not_even {o : Kd} (h : decide (kdS o = ("even" : Str)) = false) (e : o = .even) : False := by
  subst e
  exact of_decide_eq_false h rfl
theorem fr_b2i (i j : Nat) : (.tup [.int (b2i (decide ((i : Int) = (j : Int)))), .int 1] : D) = fr (dlt i j) := by
  unfold dlt
  by_cases e : i = j
  · subst e
    rw [if_pos rfl, decide_eq_true rfl]
    rfl
  · rw [if_neg e, decide_eq_false (by omega)]
    rfl
theorem narrowL_even {k o : Kd} (h : decide (kdS o = ("even" : Str)) = true) : decide (kdS k = ("even" : Str)) = narrowL k o := by
  unfold narrowL
  rw [if_pos (even_of h)]
  cases k <;> decide +kernel
theorem narrowL_not {k o : Kd} (h : decide (kdS o = ("even" : Str)) = false) : staysB k oneT o = narrowL k o := by
  unfold narrowL
  rw [if_neg (not_even h)]
def kinds : List Kd := [.slanted, .turned, .mirrored, .stretched, .sized, .even]
theorem ownN_le (k : Kd) : ownN k ≤ 1000 := by cases k <;> decide
theorem nums_of {k : Kd} {n : Nat} {ds : List D} (h1 : 1 ≤ n) (h : ds.length = ownN k) (p : ∀ (i : Nat) (x : D), ds[i]? = some x → ∃ q, x = fr q ∧ SzR n q) :
    ∃ ra rb rc rd : Rat, D.lst ds = numsD k ra rb rc rd ∧ SzR n ra ∧ SzR n rb ∧ SzR n rc ∧ SzR n rd := by
  have z : SzR n 0 := szr_zero h1
  match ds, h, p with
  | [], h, p => cases k <;> cases h
  | [x], h, p =>
    obtain ⟨a, rfl, ha⟩ := p 0 x rfl
    cases k <;> first | exact ⟨a, 0, 0, 0, rfl, ha, z, z, z⟩ | cases h
  | [x, y], h, p =>
    obtain ⟨a, rfl, ha⟩ := p 0 x rfl
    obtain ⟨b, rfl, hb⟩ := p 1 y rfl
    cases k <;> first | exact ⟨a, b, 0, 0, rfl, ha, hb, z, z⟩ | cases h
  | [x, y, u], h, p => cases k <;> cases h
  | [x, y, u, v], h, p =>
    obtain ⟨a, rfl, ha⟩ := p 0 x rfl
    obtain ⟨b, rfl, hb⟩ := p 1 y rfl
    obtain ⟨c, rfl, hc⟩ := p 2 u rfl
    obtain ⟨d, rfl, hd⟩ := p 3 v rfl
    cases k <;> first | exact ⟨a, b, c, d, rfl, ha, hb, hc, hd⟩ | cases h
  | _ :: _ :: _ :: _ :: _ :: _, h, p => cases k <;> simp [ownN] at h
/-! ### a kind's table by its entries -/
theorem own_yes {k : Kd} {t : Tb} {x y z u : Rat} (e : decide (filled k x y z u = t) = true) : D.lst ((nums k x y z u).map fr) = ownD k t := by
  have e' := of_decide_eq_true e
  subst e'
  have h : fitsB k (filled k x y z u) = true := by cases k <;> exact decide_eq_true rfl
  unfold ownD
  rw [if_pos h]
  cases k <;> rfl
theorem own_no {k : Kd} {t : Tb} {x y z u : Rat} (g : fitsB k t = true → filled k x y z u = t) (e : decide (filled k x y z u = t) = false) : D.non = ownD k t := by
  unfold ownD
  rw [if_neg]
  intro h
  exact of_decide_eq_false e (g h)
theorem fits_eq {k : Kd} {t : Tb} (h : fitsB k t = true) : read k t = t := of_decide_eq_true h
theorem back_slanted {t : Tb} : fitsB .slanted t = true → filled .slanted t.a t.b t.c t.d = t := fun _ => rfl
theorem back_turned {t : Tb} {z u : Rat} : fitsB .turned t = true → filled .turned t.a (-t.b) z u = t := fun h => by
  have e := fits_eq h
  cases t
  simp only [read, filled, offA, offB, Tb.mk.injEq] at e ⊢
  grind
theorem back_mirrored {t : Tb} {z u : Rat} : fitsB .mirrored t = true → filled .mirrored t.a t.b z u = t := fun h => by
  have e := fits_eq h
  cases t
  simp only [read, filled, offA, offB, Tb.mk.injEq] at e ⊢
  grind
theorem back_stretched {t : Tb} {z u : Rat} : fitsB .stretched t = true → filled .stretched t.a t.d z u = t := fun h => by
  have e := fits_eq h
  cases t
  simp only [read, filled, offA, offB, Tb.mk.injEq] at e ⊢
  grind
theorem back_sized {t : Tb} {y z u : Rat} : fitsB .sized t = true → filled .sized t.a y z u = t := fun h => by
  have e := fits_eq h
  cases t
  simp only [read, filled, offA, offB, Tb.mk.injEq] at e ⊢
  grind
theorem back_even {t : Tb} {y z u : Rat} : fitsB .even t = true → filled .even t.a y z u = t := fun h => by
  have e := fits_eq h
  cases t
  simp only [read, filled, offA, offB, Tb.mk.injEq] at e ⊢
  grind
theorem mul_1 (y : Rat) : y * (1 : Rat) = y := Rat.mul_one y
theorem mul_0 (y : Rat) : y * (0 : Rat) = 0 := Rat.mul_zero y
end Px

namespace Px
open PySem PySem.Spec PyProof.Rows L2
def topS (i : Nat) : Stmt := PySem.Challenge.pw_lostland_k10_whole_kinds_that_stay.main.body.getD i (.Pass ⟨0, 0, 0, 0⟩)
abbrev s__wall : Stmt := topS 1
theorem sc__wall : FnScope ["k"] ["k"] (defScope s__wall) := ⟨rfl, rfl, rfl, by decide +kernel, rfl, by decide +kernel, by decide +kernel⟩
abbrev s_is_number : Stmt := topS 12
theorem sc_is_number : FnScope ["value"] ["value"] (defScope s_is_number) := ⟨rfl, rfl, rfl, by decide +kernel, rfl, by decide +kernel, by decide +kernel⟩
abbrev s_is_pair : Stmt := topS 13
theorem sc_is_pair : FnScope ["value"] ["value"] (defScope s_is_pair) := ⟨rfl, rfl, rfl, by decide +kernel, rfl, by decide +kernel, by decide +kernel⟩
abbrev s_is_fraction : Stmt := topS 14
theorem sc_is_fraction : FnScope ["value"] ["value"] (defScope s_is_fraction) := ⟨rfl, rfl, rfl, by decide +kernel, rfl, by decide +kernel, by decide +kernel⟩
abbrev s_is_spot : Stmt := topS 15
theorem sc_is_spot : FnScope ["value"] ["value"] (defScope s_is_spot) := ⟨rfl, rfl, rfl, by decide +kernel, rfl, by decide +kernel, by decide +kernel⟩
abbrev s_fraction : Stmt := topS 16
theorem sc_fraction : FnScope ["over", "under", "shared"] ["over", "under"] (defScope s_fraction) := ⟨rfl, rfl, rfl, by decide +kernel, rfl, by decide +kernel, by decide +kernel⟩
abbrev s_plus : Stmt := topS 17
theorem sc_plus : FnScope ["one", "other"] ["one", "other"] (defScope s_plus) := ⟨rfl, rfl, rfl, by decide +kernel, rfl, by decide +kernel, by decide +kernel⟩
abbrev s_minus : Stmt := topS 18
theorem sc_minus : FnScope ["one", "other"] ["one", "other"] (defScope s_minus) := ⟨rfl, rfl, rfl, by decide +kernel, rfl, by decide +kernel, by decide +kernel⟩
abbrev s_times : Stmt := topS 19
theorem sc_times : FnScope ["one", "other"] ["one", "other"] (defScope s_times) := ⟨rfl, rfl, rfl, by decide +kernel, rfl, by decide +kernel, by decide +kernel⟩
abbrev s_negative : Stmt := topS 20
theorem sc_negative : FnScope ["one"] ["one"] (defScope s_negative) := ⟨rfl, rfl, rfl, by decide +kernel, rfl, by decide +kernel, by decide +kernel⟩
abbrev s_fraction_text : Stmt := topS 21
theorem sc_fraction_text : FnScope ["one"] ["one"] (defScope s_fraction_text) := ⟨rfl, rfl, rfl, by decide +kernel, rfl, by decide +kernel, by decide +kernel⟩
abbrev s__number_text : Stmt := topS 22
theorem sc__number_text : FnScope ["number", "blocks", "rest", "low", "digits"] ["number"] (defScope s__number_text) := ⟨rfl, rfl, rfl, by decide +kernel, rfl, by decide +kernel, by decide +kernel⟩
abbrev s_taken : Stmt := topS 25
theorem sc_taken : FnScope ["table", "vector", "x", "y"] ["table", "vector"] (defScope s_taken) := ⟨rfl, rfl, rfl, by decide +kernel, rfl, by decide +kernel, by decide +kernel⟩
abbrev s_columns : Stmt := topS 26
theorem sc_columns : FnScope ["left", "right"] ["left", "right"] (defScope s_columns) := ⟨rfl, rfl, rfl, by decide +kernel, rfl, by decide +kernel, by decide +kernel⟩
abbrev s_own_count : Stmt := topS 29
theorem sc_own_count : FnScope ["kind", "own", "_"] ["kind"] (defScope s_own_count) := ⟨rfl, rfl, rfl, by decide +kernel, rfl, by decide +kernel, by decide +kernel⟩
abbrev s_table_of : Stmt := topS 30
theorem sc_table_of : FnScope ["kind", "numbers", "a", "b", "c", "d", "own", "weight"] ["kind", "numbers"] (defScope s_table_of) := ⟨rfl, rfl, rfl, by decide +kernel, rfl, by decide +kernel, by decide +kernel⟩
abbrev s_own_numbers : Stmt := topS 31
theorem sc_own_numbers : FnScope ["kind", "table", "entries", "own", "owns", "numbers", "at", "_"] ["kind", "table"] (defScope s_own_numbers) := ⟨rfl, rfl, rfl, by decide +kernel, rfl, by decide +kernel, by decide +kernel⟩
abbrev s_fits : Stmt := topS 32
theorem sc_fits : FnScope ["kind", "table"] ["kind", "table"] (defScope s_fits) := ⟨rfl, rfl, rfl, by decide +kernel, rfl, by decide +kernel, by decide +kernel⟩
abbrev s_stays : Stmt := topS 33
theorem sc_stays : FnScope ["kind", "table", "other", "unit"] ["kind", "table", "other"] (defScope s_stays) := ⟨rfl, rfl, rfl, by decide +kernel, rfl, by decide +kernel, by decide +kernel⟩
abbrev s_is_narrower : Stmt := topS 34
theorem sc_is_narrower : FnScope ["kind", "other"] ["kind", "other"] (defScope s_is_narrower) := ⟨rfl, rfl, rfl, by decide +kernel, rfl, by decide +kernel, by decide +kernel⟩
abbrev s__units : Stmt := topS 35
theorem sc__units : FnScope ["kind", "count", "own", "at"] ["kind"] (defScope s__units) := ⟨rfl, rfl, rfl, by decide +kernel, rfl, by decide +kernel, by decide +kernel⟩
abbrev s__law_bag : Stmt := topS 37
theorem sc__law_bag : FnScope ["_law_script", "_law_cells"] ["_law_script"] (defScope s__law_bag) := ⟨rfl, rfl, rfl, by decide +kernel, rfl, by decide +kernel, by decide +kernel⟩
abbrev s__law_draw : Stmt := topS 38
theorem sc__law_draw : FnScope ["_law_bag_here", "_law_many_here", "_law_cell", "_law_digit", "_law_seed"] ["_law_bag_here", "_law_many_here"] (defScope s__law_draw) := ⟨rfl, rfl, rfl, by decide +kernel, rfl, by decide +kernel, by decide +kernel⟩
abbrev s__law_pick : Stmt := topS 39
theorem sc__law_pick : FnScope ["_law_bag_here", "_law_some"] ["_law_bag_here", "_law_some"] (defScope s__law_pick) := ⟨rfl, rfl, rfl, by decide +kernel, rfl, by decide +kernel, by decide +kernel⟩
abbrev s__law_mixed : Stmt := topS 40
theorem sc__law_mixed : FnScope ["_law_bag_here", "_law_some", "_law_found", "_law_item"] ["_law_bag_here", "_law_some"] (defScope s__law_mixed) := ⟨rfl, rfl, rfl, by decide +kernel, rfl, by decide +kernel, by decide +kernel⟩
abbrev s__law_same : Stmt := topS 41
theorem sc__law_same : FnScope ["_law_found", "_law_due", "_law_x", "_law_y"] ["_law_found", "_law_due"] (defScope s__law_same) := ⟨rfl, rfl, rfl, by decide +kernel, rfl, by decide +kernel, by decide +kernel⟩
abbrev s__law_common : Stmt := topS 42
theorem sc__law_common : FnScope ["_law_p", "_law_q", "_law_x", "_law_y"] ["_law_p", "_law_q"] (defScope s__law_common) := ⟨rfl, rfl, rfl, by decide +kernel, rfl, by decide +kernel, by decide +kernel⟩
abbrev s__law_low : Stmt := topS 43
theorem sc__law_low : FnScope ["_law_p", "_law_q", "_law_part"] ["_law_p", "_law_q"] (defScope s__law_low) := ⟨rfl, rfl, rfl, by decide +kernel, rfl, by decide +kernel, by decide +kernel⟩
abbrev s__law_sum : Stmt := topS 44
theorem sc__law_sum : FnScope ["_law_x", "_law_y"] ["_law_x", "_law_y"] (defScope s__law_sum) := ⟨rfl, rfl, rfl, by decide +kernel, rfl, by decide +kernel, by decide +kernel⟩
abbrev s__law_product : Stmt := topS 45
theorem sc__law_product : FnScope ["_law_x", "_law_y"] ["_law_x", "_law_y"] (defScope s__law_product) := ⟨rfl, rfl, rfl, by decide +kernel, rfl, by decide +kernel, by decide +kernel⟩
abbrev s__law_long : Stmt := topS 46
theorem sc__law_long : FnScope ["_law_v", "_law_w"] ["_law_v", "_law_w"] (defScope s__law_long) := ⟨rfl, rfl, rfl, by decide +kernel, rfl, by decide +kernel, by decide +kernel⟩
abbrev s__law_fraction : Stmt := topS 47
theorem sc__law_fraction : FnScope ["_law_bag_here", "_law_size", "_law_top"] ["_law_bag_here"] (defScope s__law_fraction) := ⟨rfl, rfl, rfl, by decide +kernel, rfl, by decide +kernel, by decide +kernel⟩
abbrev s__law_small : Stmt := topS 48
theorem sc__law_small : FnScope ["_law_bag_here"] ["_law_bag_here"] (defScope s__law_small) := ⟨rfl, rfl, rfl, by decide +kernel, rfl, by decide +kernel, by decide +kernel⟩
abbrev s__law_near : Stmt := topS 49
theorem sc__law_near : FnScope ["_law_bag_here"] ["_law_bag_here"] (defScope s__law_near) := ⟨rfl, rfl, rfl, by decide +kernel, rfl, by decide +kernel, by decide +kernel⟩
abbrev s__law_table : Stmt := topS 50
theorem sc__law_table : FnScope ["_law_bag_here", "_law_way", "_law_u", "_law_w", "_law_v"] ["_law_bag_here"] (defScope s__law_table) := ⟨rfl, rfl, rfl, by decide +kernel, rfl, by decide +kernel, by decide +kernel⟩
abbrev s__law_led : Stmt := topS 51
theorem sc__law_led : FnScope ["_law_t", "_law_v", "_law_x"] ["_law_t", "_law_v"] (defScope s__law_led) := ⟨rfl, rfl, rfl, by decide +kernel, rfl, by decide +kernel, by decide +kernel⟩
abbrev s__law_after : Stmt := topS 52
theorem sc__law_after : FnScope ["_law_t", "_law_s", "_law_u", "_law_v"] ["_law_t", "_law_s"] (defScope s__law_after) := ⟨rfl, rfl, rfl, by decide +kernel, rfl, by decide +kernel, by decide +kernel⟩
abbrev s__law_unit : Stmt := topS 53
theorem sc__law_unit : FnScope [] [] (defScope s__law_unit) := ⟨rfl, rfl, rfl, by decide +kernel, rfl, by decide +kernel, by decide +kernel⟩
abbrev s__law_words : Stmt := topS 54
theorem sc__law_words : FnScope [] [] (defScope s__law_words) := ⟨rfl, rfl, rfl, by decide +kernel, rfl, by decide +kernel, by decide +kernel⟩
abbrev s__law_many : Stmt := topS 55
theorem sc__law_many : FnScope ["_law_word"] ["_law_word"] (defScope s__law_many) := ⟨rfl, rfl, rfl, by decide +kernel, rfl, by decide +kernel, by decide +kernel⟩
abbrev s__law_filled : Stmt := topS 56
theorem sc__law_filled : FnScope ["_law_word", "_law_nums", "_law_x", "_law_y", "_law_zero"] ["_law_word", "_law_nums"] (defScope s__law_filled) := ⟨rfl, rfl, rfl, by decide +kernel, rfl, by decide +kernel, by decide +kernel⟩
abbrev s__law_read_off : Stmt := topS 57
theorem sc__law_read_off : FnScope ["_law_word", "_law_t", "_law_nums"] ["_law_word", "_law_t"] (defScope s__law_read_off) := ⟨rfl, rfl, rfl, by decide +kernel, rfl, by decide +kernel, by decide +kernel⟩
abbrev s__law_made : Stmt := topS 58
theorem sc__law_made : FnScope ["_law_t"] ["_law_t"] (defScope s__law_made) := ⟨rfl, rfl, rfl, by decide +kernel, rfl, by decide +kernel, by decide +kernel⟩
abbrev s__law_units : Stmt := topS 59
theorem sc__law_units : FnScope ["_law_word", "_law_many_here", "_law_i", "_law_k"] ["_law_word"] (defScope s__law_units) := ⟨rfl, rfl, rfl, by decide +kernel, rfl, by decide +kernel, by decide +kernel⟩
abbrev s__law_stays : Stmt := topS 60
theorem sc__law_stays : FnScope ["_law_word", "_law_t", "_law_far", "_law_s"] ["_law_word", "_law_t", "_law_far"] (defScope s__law_stays) := ⟨rfl, rfl, rfl, by decide +kernel, rfl, by decide +kernel, by decide +kernel⟩
abbrev s__law_narrow : Stmt := topS 61
theorem sc__law_narrow : FnScope ["_law_word", "_law_far"] ["_law_word", "_law_far"] (defScope s__law_narrow) := ⟨rfl, rfl, rfl, by decide +kernel, rfl, by decide +kernel, by decide +kernel⟩
abbrev s__law_any : Stmt := topS 62
theorem sc__law_any : FnScope ["_law_bag_here", "_law_word", "_law_t", "_law_zero", "_law_k"] ["_law_bag_here"] (defScope s__law_any) := ⟨rfl, rfl, rfl, by decide +kernel, rfl, by decide +kernel, by decide +kernel⟩
abbrev s__law_tables_so : Stmt := topS 63
theorem sc__law_tables_so : FnScope ["_law_bag_here", "_law_word", "_law_far", "_law_t", "_law_due", "_law_nums", "_law_made_here", "_law_k", "_law_s"] ["_law_bag_here", "_law_word", "_law_far", "_law_t", "_law_due"] (defScope s__law_tables_so) := ⟨rfl, rfl, rfl, by decide +kernel, rfl, by decide +kernel, by decide +kernel⟩
abbrev s__law_narrower_so : Stmt := topS 64
theorem sc__law_narrower_so : FnScope ["_law_some", "_law_word", "_law_due", "_law_told", "_law_far"] ["_law_some"] (defScope s__law_narrower_so) := ⟨rfl, rfl, rfl, by decide +kernel, rfl, by decide +kernel, by decide +kernel⟩
abbrev s_law : Stmt := topS 65
theorem sc_law : FnScope ["_law_script", "_law_bag_here", "_law_t", "_law_s", "_law_both", "_law_words_here", "_law_some", "_law_word", "_law_far", "_law_due", "_law_turn", "_law_last", "_law_chain"] ["_law_script"] (defScope s_law) := ⟨rfl, rfl, rfl, by decide +kernel, rfl, by decide +kernel, by decide +kernel⟩
/-- what the top has written -/
abbrev s_Table___init__ : Stmt := inClass (topS 24) 0
abbrev s_Table_entries : Stmt := inClass (topS 24) 4
abbrev s_Table___mul__ : Stmt := inClass (topS 24) 9
abbrev s_Table_identity : Stmt := inClass (topS 24) 1
abbrev s_Table_zero : Stmt := inClass (topS 24) 2
abbrev s_Table___eq__ : Stmt := inClass (topS 24) 12
theorem sc_Table___init__ : FnScope ["self", "a", "b", "c", "d", "value"] ["self", "a", "b", "c", "d"] (defScope s_Table___init__) := ⟨rfl, rfl, rfl, by decide +kernel, rfl, by decide +kernel, by decide +kernel⟩
theorem sc_Table_entries : FnScope ["self"] ["self"] (defScope s_Table_entries) := ⟨rfl, rfl, rfl, by decide +kernel, rfl, by decide +kernel, by decide +kernel⟩
theorem sc_Table___mul__ : FnScope ["self", "other", "left", "right"] ["self", "other"] (defScope s_Table___mul__) := ⟨rfl, rfl, rfl, by decide +kernel, rfl, by decide +kernel, by decide +kernel⟩
theorem sc_Table_identity : FnScope [] [] (defScope s_Table_identity) := ⟨rfl, rfl, rfl, by decide +kernel, rfl, by decide +kernel, by decide +kernel⟩
theorem sc_Table_zero : FnScope [] [] (defScope s_Table_zero) := ⟨rfl, rfl, rfl, by decide +kernel, rfl, by decide +kernel, by decide +kernel⟩
theorem sc_Table___eq__ : FnScope ["self", "other"] ["self", "other"] (defScope s_Table___eq__) := ⟨rfl, rfl, rfl, by decide +kernel, rfl, by decide +kernel, by decide +kernel⟩
structure Tx (K : PySem.W.Frag) (mg : Str → Option Value) : Prop where
  len : mg "len" = none
  abs : mg "abs" = none
  int : mg "int" = none
  isinstance : mg "isinstance" = none
  list : mg "list" = none
  tuple : mg "tuple" = none
  str : mg "str" = none
  all : mg "all" = none
  zip : mg "zip" = none
  range : mg "range" = none
  bool : mg "bool" = none
  max : mg "max" = none
  is_number : ∃ f fd, Fun K "is_number" "is_number" s_is_number f fd ∧ mg "is_number" = some (.ref f)
  is_pair : ∃ f fd, Fun K "is_pair" "is_pair" s_is_pair f fd ∧ mg "is_pair" = some (.ref f)
  is_fraction : ∃ f fd, Fun K "is_fraction" "is_fraction" s_is_fraction f fd ∧ mg "is_fraction" = some (.ref f)
  fraction : ∃ f fd, FunD K "fraction" "fraction" (defArgs s_fraction) (defBody s_fraction) (defScope s_fraction) [.int 1] [] f fd ∧ mg "fraction" = some (.ref f)
  plus : ∃ f fd, Fun K "plus" "plus" s_plus f fd ∧ mg "plus" = some (.ref f)
  times : ∃ f fd, Fun K "times" "times" s_times f fd ∧ mg "times" = some (.ref f)
  negative : ∃ f fd, Fun K "negative" "negative" s_negative f fd ∧ mg "negative" = some (.ref f)
  taken : ∃ f fd, Fun K "taken" "taken" s_taken f fd ∧ mg "taken" = some (.ref f)
  columns : ∃ f fd, Fun K "columns" "columns" s_columns f fd ∧ mg "columns" = some (.ref f)
  own_count : ∃ f fd, Fun K "own_count" "own_count" s_own_count f fd ∧ mg "own_count" = some (.ref f)
  table_of : ∃ f fd, Fun K "table_of" "table_of" s_table_of f fd ∧ mg "table_of" = some (.ref f)
  own_numbers : ∃ f fd, Fun K "own_numbers" "own_numbers" s_own_numbers f fd ∧ mg "own_numbers" = some (.ref f)
  fits : ∃ f fd, Fun K "fits" "fits" s_fits f fd ∧ mg "fits" = some (.ref f)
  stays : ∃ f fd, Fun K "stays" "stays" s_stays f fd ∧ mg "stays" = some (.ref f)
  is_narrower : ∃ f fd, Fun K "is_narrower" "is_narrower" s_is_narrower f fd ∧ mg "is_narrower" = some (.ref f)
  _units : ∃ f fd, Fun K "_units" "_units" s__units f fd ∧ mg "_units" = some (.ref f)
  _law_bag : ∃ f fd, Fun K "_law_bag" "_law_bag" s__law_bag f fd ∧ mg "_law_bag" = some (.ref f)
  _law_draw : ∃ f fd, Fun K "_law_draw" "_law_draw" s__law_draw f fd ∧ mg "_law_draw" = some (.ref f)
  _law_pick : ∃ f fd, Fun K "_law_pick" "_law_pick" s__law_pick f fd ∧ mg "_law_pick" = some (.ref f)
  _law_mixed : ∃ f fd, Fun K "_law_mixed" "_law_mixed" s__law_mixed f fd ∧ mg "_law_mixed" = some (.ref f)
  _law_same : ∃ f fd, Fun K "_law_same" "_law_same" s__law_same f fd ∧ mg "_law_same" = some (.ref f)
  _law_common : ∃ f fd, Fun K "_law_common" "_law_common" s__law_common f fd ∧ mg "_law_common" = some (.ref f)
  _law_low : ∃ f fd, Fun K "_law_low" "_law_low" s__law_low f fd ∧ mg "_law_low" = some (.ref f)
  _law_sum : ∃ f fd, Fun K "_law_sum" "_law_sum" s__law_sum f fd ∧ mg "_law_sum" = some (.ref f)
  _law_product : ∃ f fd, Fun K "_law_product" "_law_product" s__law_product f fd ∧ mg "_law_product" = some (.ref f)
  _law_long : ∃ f fd, Fun K "_law_long" "_law_long" s__law_long f fd ∧ mg "_law_long" = some (.ref f)
  _law_fraction : ∃ f fd, Fun K "_law_fraction" "_law_fraction" s__law_fraction f fd ∧ mg "_law_fraction" = some (.ref f)
  _law_small : ∃ f fd, Fun K "_law_small" "_law_small" s__law_small f fd ∧ mg "_law_small" = some (.ref f)
  _law_near : ∃ f fd, Fun K "_law_near" "_law_near" s__law_near f fd ∧ mg "_law_near" = some (.ref f)
  _law_table : ∃ f fd, Fun K "_law_table" "_law_table" s__law_table f fd ∧ mg "_law_table" = some (.ref f)
  _law_led : ∃ f fd, Fun K "_law_led" "_law_led" s__law_led f fd ∧ mg "_law_led" = some (.ref f)
  _law_after : ∃ f fd, Fun K "_law_after" "_law_after" s__law_after f fd ∧ mg "_law_after" = some (.ref f)
  _law_unit : ∃ f fd, Fun K "_law_unit" "_law_unit" s__law_unit f fd ∧ mg "_law_unit" = some (.ref f)
  _law_words : ∃ f fd, Fun K "_law_words" "_law_words" s__law_words f fd ∧ mg "_law_words" = some (.ref f)
  _law_many : ∃ f fd, Fun K "_law_many" "_law_many" s__law_many f fd ∧ mg "_law_many" = some (.ref f)
  _law_filled : ∃ f fd, Fun K "_law_filled" "_law_filled" s__law_filled f fd ∧ mg "_law_filled" = some (.ref f)
  _law_read_off : ∃ f fd, Fun K "_law_read_off" "_law_read_off" s__law_read_off f fd ∧ mg "_law_read_off" = some (.ref f)
  _law_made : ∃ f fd, Fun K "_law_made" "_law_made" s__law_made f fd ∧ mg "_law_made" = some (.ref f)
  _law_units : ∃ f fd, Fun K "_law_units" "_law_units" s__law_units f fd ∧ mg "_law_units" = some (.ref f)
  _law_stays : ∃ f fd, Fun K "_law_stays" "_law_stays" s__law_stays f fd ∧ mg "_law_stays" = some (.ref f)
  _law_narrow : ∃ f fd, Fun K "_law_narrow" "_law_narrow" s__law_narrow f fd ∧ mg "_law_narrow" = some (.ref f)
  _law_any : ∃ f fd, Fun K "_law_any" "_law_any" s__law_any f fd ∧ mg "_law_any" = some (.ref f)
  _law_tables_so : ∃ f fd, Fun K "_law_tables_so" "_law_tables_so" s__law_tables_so f fd ∧ mg "_law_tables_so" = some (.ref f)
  _law_narrower_so : ∃ f fd, Fun K "_law_narrower_so" "_law_narrower_so" s__law_narrower_so f fd ∧ mg "_law_narrower_so" = some (.ref f)
  law : ∃ f fd, Fun K "law" "law" s_law f fd ∧ mg "law" = some (.ref f)
  gcd : mg "gcd" = some (.builtin "math.gcd")
structure TabTx (K : PySem.W.Frag) (mg : Str → Option Value) (w : World) (C : Addr) : Prop where
  g : mg "Table" = some (.ref C)
  cl : Cls K C
  nA : NoAttr K C "a"
  nB : NoAttr K C "b"
  nC : NoAttr K C "c"
  nD : NoAttr K C "d"
  first : PySem.W.selfFirst K C = true
  init : ∃ f fd, Fun K "__init__" "Table.__init__" s_Table___init__ f fd ∧ Mk K C f
  entries : ∃ f fd, Fun K "entries" "Table.entries" s_Table_entries f fd ∧ Meth K C "entries" f
  mul : ∃ f fd, Fun K "__mul__" "Table.__mul__" s_Table___mul__ f fd ∧ PySem.W.findIn K (.ref C) "__mul__" = some (some (.ref f)) ∧ PySem.W.isFn K (.ref f) = true
  identity : ∃ f fd, Fun K "identity" "Table.identity" s_Table_identity f fd ∧ Stat K C "identity" f
  zero : ∃ f fd, Fun K "zero" "Table.zero" s_Table_zero f fd ∧ Stat K C "zero" f
  isi : IsiC K C
  eqf : PySem.W.notFirst K C (.ref C) = true
  eq : ∃ f fd, Fun K "__eq__" "Table.__eq__" s_Table___eq__ f fd ∧ PySem.W.findIn K (.ref C) (PySem.cmpInfo .Eq).2.1 = some (some (.ref f)) ∧ PySem.W.isFn K (.ref f) = true
  cONE : ∃ a, mg "ONE" = some (.ref a) ∧ ∀ M H, Rep K M H (fr 1) (.ref a)
  cZERO : ∃ a, mg "ZERO" = some (.ref a) ∧ ∀ M H, Rep K M H (fr 0) (.ref a)
  places : ∃ p, mg "_ENTRIES" = some (.ref p) ∧ ∀ k : Kd, ∃ v, KDct K w p (kdS k) v ∧ ∀ M H, Rep K M H (plcD k) v
section
variable {P : Program} {w : World} {K : PySem.W.Frag} {mg : Str → Option Value} {base : Heap}
def Has (P : Program) (w : World) (K : PySem.W.Frag) (mg : Str → Option Value) (base : Heap) (CX : CXT) (x : Str) (st : Stmt) (ps : List Str) (lv : Nat) (sp : Sp) : Prop :=
  ∃ f fd, Fun K x x st f fd ∧ mg x = some (.ref f) ∧ Binds K fd ps [] ∧ FnOk P w K mg base CX lv f fd ps sp
/-! ### the bag -/
def bagL (c : Addr) (i x y z : Int) : List V := [.ref c, .int i, .int x, .int y, .int z]
structure BagAt (K : PySem.W.Frag) (b c : Addr) (ns : List Int) (i x y z : Int) (H : Hp) : Prop where
  ne : c ≠ b
  cells : SqL K H c (ns.map V.int)
  i0 : 0 ≤ i
  x0 : 0 ≤ x
  y0 : 0 ≤ y
  y1 : y < 2147483423
def BagOk (K : PySem.W.Frag) (b c : Addr) (ns : List Int) (H : Hp) : Prop := ∃ i x y z, H b = some (.lst (bagL c i x y z)) ∧ BagAt K b c ns i x y z H
theorem upd_self {H : Hp} {b : Addr} {o : HO} (h : H b = some o) : upd H b o = H := by
  funext a
  unfold upd
  split
  · subst_vars; exact h.symm
  · rfl
theorem sqL_upd {H : Hp} {b c : Addr} {o : HO} {xs : List V} (n : c ≠ b) (h : SqL K H c xs) : SqL K (upd H b o) c xs := by
  rcases h with (h | ⟨u, h⟩) | h
  · exact .inl (.inl (by rw [upd_ne n]; exact h))
  · exact .inl (.inr ⟨u, by rw [upd_ne n]; exact h⟩)
  · exact .inr h
def onB (b : Addr) : Addr → Prop := fun a => a = b
theorem ex_upd {H : Hp} {b : Addr} {o : HO} : Ex (onB b) H (upd H b o) := fun a u h n => by
  rw [upd_ne (show a ≠ b from n)]; exact h
theorem bag_end {H : Hp} {b c : Addr} {ns : List Int} {i x y z : Int} (A : BagAt K b c ns i x y z H) {i' x' y' z' : Int} (hi : 0 ≤ i') (hx : 0 ≤ x') (hy : 0 ≤ y') (hy1 : y' < 2147483423) : BagOk K b c ns (upd H b (.lst (bagL c i' x' y' z'))) :=
  ⟨i', x', y', z', upd_same, A.ne, sqL_upd A.ne A.cells, hi, hx, hy, hy1⟩
theorem v_ixL {σ : L2.St} {H : Hp} {ta tb : TE} {a : Addr} {xs : List V} {k : Nat} {w : V} (ha : Val ta σ H (.ref a)) (hb : Val tb σ H (.int (k : Int))) (h : SqL K H a xs) (e : xs[k]? = some w) : Val (tOp (rIxL K) ta tb) σ H w := fun _ q => ha _ (hb _ ⟨a, xs, _, w, rfl, rfl, h, atI_nat e, q⟩)
theorem v_bag {σ : L2.St} {H : Hp} {ta tb : TE} {b : Addr} {xs : List V} {k : Nat} {w : V} (ha : Val ta σ (upd H b (.lst xs)) (.ref b)) (hb : Val tb σ (upd H b (.lst xs)) (.int (k : Int))) (e : xs[k]? = some w) : Val (tOp (rIxL K) ta tb) σ (upd H b (.lst xs)) w :=
  v_ixL ha hb (.inl (.inl upd_same)) e
theorem a_use {c : TT} {σ : L2.St} {H : Hp} {b : Bool} {Q : Bool → Hp → Prop} (h : Ans c σ H b) (q : Q b H) : c σ H Q := h Q q
theorem v_cell {σ : L2.St} {H : Hp} {ta tb : TE} {a : Addr} {ns : List Int} {i : Int} (ha : Val ta σ H (.ref a)) (hb : Val tb σ H (.int i)) (h : SqL K H a (ns.map V.int)) (i0 : 0 ≤ i) (i1 : i < ((ns.map V.int).length : Int)) : Val (tOp (rIxL K) ta tb) σ H (.int (ns.getD i.toNat 0)) := by
  rw [List.length_map] at i1
  have e : i = ((i.toNat : Nat) : Int) := by omega
  have l : i.toNat < ns.length := by omega
  rw [e] at hb
  have q := v_ixL (k := i.toNat) ha hb h (w := .int (ns.getD i.toNat 0)) (by rw [List.getElem?_map, List.getElem?_eq_getElem l, List.getD_eq_getElem?_getD, List.getElem?_eq_getElem l]; rfl)
  exact q
theorem ixN_lt {n k : Nat} (h : k < n) : ixN n (k : Int) = some k := by
  unfold ixN
  rw [if_pos (by omega), if_pos (by omega)]
  rfl
theorem k_seti {σ : L2.St} {H : Hp} {te to ti : TE} {D' : Ends} {b : Addr} {xs ys : List V} {v : V} {k : Nat} (h : Val te σ (upd H b (.lst xs)) v) (ho : Val to σ (upd H b (.lst xs)) (.ref b)) (hi : Val ti σ (upd H b (.lst xs)) (.int (k : Int))) (hk : k < xs.length) (e : xs.set k v = ys)
    (q : D'.nx σ (upd H b (.lst ys))) : tAsg te (gSub to ti rSetL) D' σ (upd H b (.lst xs)) := by
  refine h _ (ho _ (hi _ ⟨b, xs, _, k, rfl, rfl, upd_same, ixN_lt hk, ?_⟩))
  rw [upd_upd, e]
  exact q
def rLen (K : PySem.W.Frag) : List V → Hp → VK → Prop := fun xs H Q => ∃ x n, xs = [x] ∧ LenV K x H n ∧ Q (.int n) H
theorem v_lenL {σ : L2.St} {H : Hp} {ta : TE} {a : Addr} {xs : List V} (ha : Val ta σ H (.ref a)) (h : SqL K H a xs) : Val (tCB (rLen K) (tCons ta tNil)) σ H (.int (xs.length : Nat)) := fun _ q => ha _ ⟨_, _, rfl, .inl ⟨xs, h, rfl⟩, q⟩
theorem v_lenT {σ : L2.St} {H : Hp} {ta : TE} {a : Addr} {xs : List V} (ha : Val ta σ H (.ref a)) (h : SqT K H a xs) : Val (tCB (rLen K) (tCons ta tNil)) σ H (.int (xs.length : Nat)) := fun _ q => ha _ ⟨_, _, rfl, .inr ⟨xs, h, rfl⟩, q⟩
def sp__law_draw (K : PySem.W.Frag) : Sp := fun vs H Q _ => ∃ (b c : Addr) (ns : List Int) (n : Int), vs = [.ref b, .int n] ∧ BagOk K b c ns H ∧ 0 < n ∧ n < 1073741824 ∧ ∀ r H', 0 ≤ r → r < n → BagOk K b c ns H' → Ex (onB b) H H' → Q (.int r) H'
theorem has__law_draw (T : Tx K mg) : Has P w K mg base CX0 "_law_draw" s__law_draw ["_law_bag_here", "_law_many_here"] 1 (sp__law_draw K) := by
  obtain ⟨f, fd, F, M⟩ := T._law_draw
  refine ⟨f, fd, F, M, F.binds (ps := ["_law_bag_here", "_law_many_here"]) (fun _ _ _ _ _ _ us hl => match us, hl with | [_, _], _ => rfl), F.ok sc__law_draw (fun vs H Q E h => ?_) (fun cdv A outer s H vs Q E hr h => ?_)⟩
  · obtain ⟨b, c, ns, n, rfl, _⟩ := h
    rfl
  obtain ⟨b, c, ns, n, rfl, ⟨i, x, y, z, hb, A⟩, h0, h1, k⟩ := h
  have i0 := A.i0
  have x0 := A.x0
  have y0 := A.y0
  have y1 := A.y1
  have fin : ∀ (r i' x' y' z' : Int), 0 ≤ r → r < n → 0 ≤ i' → 0 ≤ x' → 0 ≤ y' → y' < 2147483423 → Q (.int r) (upd H b (.lst (bagL c i' x' y' z'))) := fun r i' x' y' z' a1 a2 a3 a4 a5 a6 => k r _ a1 a2 (bag_end A a3 a4 a5 a6) ex_upd
  rw [← upd_self hb]
  refine ⟨_, (pss_cons (ps_asg (pe_op op_add (pe_ix ix_list (pv 0) pe_int (fun _ _ => rfl)) pe_int) (pg_sub (pv 0) pe_int set_list)) (pss_cons (ps_if (PW.pt (pw_and (pt_cmpR op_eq (pe_ix ix_list (pv 0) pe_int (fun _ _ => rfl)) pe_int (nomark _)) (pw_and1 (pt_cmpR op_lt (pe_ix ix_list (pv 0) pe_int (fun _ _ => rfl)) (pe_callB call_len (by rfl) T.len (by decide +kernel) (pa_cons (pe_ix ix_list (pv 0) pe_int (fun _ _ => rfl)) pa_nil)) (nomark _))))) (pss_cons (ps_set (i := 2) sc__law_draw.nd rfl (.inl rfl) (pe_callB call_abs (by rfl) T.abs (by decide +kernel) (pa_cons (pe_ix ix_list (pe_ix ix_list (pv 0) pe_int (fun _ _ => rfl)) (pe_ix ix_list (pv 0) pe_int (fun _ _ => rfl)) (fun _ _ => rfl)) pa_nil))) (pss_cons (ps_asg (pe_op op_add (pe_ix ix_list (pv 0) pe_int (fun _ _ => rfl)) pe_int) (pg_sub (pv 0) pe_int set_list)) (pss_one (ps_if (pt_cmpR op_ge (pv 2) (pe_op op_pow pe_int pe_int) (nomark _)) (pss_one (ps_asg (pv 2) (pg_sub (pv 0) pe_int set_list))) (pss_one (ps_asg (pe_op op_mod (pe_callTy call_int1 (by rfl) T.int (by decide +kernel) (pa_cons (pe_op op_add (pe_op op_add (pe_op op_mul (pe_ix ix_list (pv 0) pe_int (fun _ _ => rfl)) pe_int) (pe_op op_mul (pe_op op_mod (pe_callTy call_int1 (by rfl) T.int (by decide +kernel) (pa_cons (pv 2) pa_nil)) pe_int) pe_int)) pe_int) pa_nil)) pe_int) (pg_sub (pv 0) pe_int set_list))))))) pss_nil) (pss_cons (ps_if (pt_cmpR op_gt (pe_ix ix_list (pv 0) pe_int (fun _ _ => rfl)) pe_int (nomark _)) (pss_cons (ps_set (i := 3) sc__law_draw.nd rfl (.inl rfl) (pe_op op_mod (pe_callTy call_int1 (by rfl) T.int (by decide +kernel) (pa_cons (pe_ix ix_list (pv 0) pe_int (fun _ _ => rfl)) pa_nil)) (pv 1))) (pss_cons (ps_asg (pe_op op_fdiv (pe_ix ix_list (pv 0) pe_int (fun _ _ => rfl)) (pv 1)) (pg_sub (pv 0) pe_int set_list)) (pss_one (ps_ret (pv 3))))) pss_nil) (pss_cons (ps_set (i := 4) sc__law_draw.nd rfl (.inl rfl) (pe_ix ix_list (pv 0) pe_int (fun _ _ => rfl))) (pss_cons (ps_asg (pe_op op_mod (pe_callTy call_int1 (by rfl) T.int (by decide +kernel) (pa_cons (pe_op op_add (pe_op op_add (pe_op op_add (pe_op op_pow (pv 4) pe_int) (pe_op op_mul (pv 4) pe_int)) (pe_op op_mul (pe_ix ix_list (pv 0) pe_int (fun _ _ => rfl)) pe_int)) pe_int) pa_nil)) pe_int) (pg_sub (pv 0) pe_int set_list)) (pss_one (ps_ret (pe_op op_mod (pe_callTy call_int1 (by rfl) T.int (by decide +kernel) (pa_cons (pe_op op_add (pe_op op_fdiv (pe_ix ix_list (pv 0) pe_int (fun _ _ => rfl)) pe_int) (pe_op op_mul (pe_op op_mod (pe_callTy call_int1 (by rfl) T.int (by decide +kernel) (pa_cons (pe_ix ix_list (pv 0) pe_int (fun _ _ => rfl)) pa_nil)) pe_int) pe_int)) pa_nil)) (pv 1))))))))), ?_⟩
  with_reducible refine k_seq ?_
  refine k_seti (k := 4) (v_op0 (v_bag (k := 4) (val_var rfl) val_c rfl) val_c) (val_var rfl) val_c (by show 4 < 5; decide) (ys := bagL c (i) (x) (y) ((z + (1 : Int)))) rfl ?_
  with_reducible refine k_seq ?_
  with_reducible refine k_ifX ?_
  refine a_use (ans_and2 (a_test (v_eqI (v_bag (k := 2) (val_var rfl) val_c rfl) val_c)) (a_test (v_opB (v_bag (k := 1) (val_var rfl) val_c rfl) (v_lenL (v_bag (k := 0) (val_var rfl) val_c rfl) (sqL_upd A.ne A.cells))))) ?_
  refine k_ite (fun c1 => ?_) (fun c1 => ?_)
  · have hlt : i < ((ns.map V.int).length : Int) := by simp only [Bool.and_eq_true, decide_eq_true_eq] at c1; exact c1.2
    with_reducible refine k_seq ?_
    with_reducible refine k_set ?_
    refine k_val (v_abs (v_cell (v_bag (k := 0) (val_var rfl) val_c rfl) (v_bag (k := 1) (val_var rfl) val_c rfl) (sqL_upd A.ne A.cells) i0 hlt)) ?_
    with_reducible refine k_seq ?_
    refine k_seti (k := 1) (v_op0 (v_bag (k := 1) (val_var rfl) val_c rfl) val_c) (val_var rfl) val_c (by show 1 < 5; decide) (ys := bagL c ((i + (1 : Int))) (x) (y) ((z + (1 : Int)))) rfl ?_
    with_reducible refine k_ifX ?_
    with_reducible refine k_T ?_
    refine k_val (v_opB (val_var rfl) (v_op val_c val_c ⟨(by decide : (0 : Int) ≤ (18 : Int)), (by decide : (18 : Int) ≤ 1000000), (by decide : ((10 : Int)).natAbs < 2 ^ 64)⟩)) ?_
    refine ⟨_, rfl, ?_⟩
    refine k_ite (fun c2 => ?_) (fun c2 => ?_)
    · try simp only [decide_eq_true_eq, decide_eq_false_iff_not] at c2
      refine k_seti (k := 2) (val_var rfl) (val_var rfl) val_c (by show 2 < 5; decide) (ys := bagL c ((i + (1 : Int))) (((((ns.getD i.toNat 0)).natAbs : Nat) : Int)) (y) ((z + (1 : Int)))) rfl ?_
      with_reducible refine k_seq ?_
      with_reducible refine k_ifX ?_
      with_reducible refine k_T ?_
      refine k_val (v_opB (v_bag (k := 2) (val_var rfl) val_c rfl) val_c) ?_
      refine ⟨_, rfl, ?_⟩
      refine k_ite (fun c3 => ?_) (fun c3 => ?_)
      · try simp only [decide_eq_true_eq, decide_eq_false_iff_not] at c3
        with_reducible refine k_seq ?_
        with_reducible refine k_set ?_
        refine k_val (v_op (v_int (v_bag (k := 2) (val_var rfl) val_c rfl)) (val_var rfl) h0) ?_
        with_reducible refine k_seq ?_
        refine k_seti (k := 2) (v_op (v_bag (k := 2) (val_var rfl) val_c rfl) (val_var rfl) ⟨h0, h1⟩) (val_var rfl) val_c (by show 2 < 5; decide) (ys := bagL c ((i + (1 : Int))) ((((((ns.getD i.toNat 0)).natAbs : Nat) : Int) / n)) (y) ((z + (1 : Int)))) rfl ?_
        with_reducible refine k_ret ?_
        refine k_val (val_var rfl) ?_
        exact fin _ _ _ _ _ (by first | omega | exact Int.emod_nonneg _ (by omega)) (by first | omega | exact Int.emod_lt_of_pos _ h0) (by omega) (by first | omega | exact Int.ediv_nonneg (by omega) (by omega)) (by omega) (by omega)
      · try simp only [decide_eq_true_eq, decide_eq_false_iff_not] at c3
        with_reducible refine k_next ?_
        with_reducible refine k_seq ?_
        with_reducible refine k_set ?_
        refine k_val (v_bag (k := 3) (val_var rfl) val_c rfl) ?_
        with_reducible refine k_seq ?_
        refine k_seti (k := 3) (v_op (v_int (v_op0 (v_op0 (v_op0 (v_op (val_var rfl) val_c ⟨(by decide : (0 : Int) ≤ (3 : Int)), (by decide : (3 : Int) ≤ 1000000), (show (y).natAbs < 2 ^ 64 by omega)⟩) (v_op (val_var rfl) val_c (Or.inr (by decide : -(2 ^ 64) < (27617 : Int) ∧ (27617 : Int) < 2 ^ 64)))) (v_op (v_bag (k := 4) (val_var rfl) val_c rfl) val_c (Or.inr (by decide : -(2 ^ 64) < (1299721 : Int) ∧ (1299721 : Int) < 2 ^ 64)))) val_c)) val_c (by decide : (0 : Int) < (2147483423 : Int))) (val_var rfl) val_c (by show 3 < 5; decide) (ys := bagL c ((i + (1 : Int))) (((((ns.getD i.toNat 0)).natAbs : Nat) : Int)) ((((((y ^ ((3 : Int)).toNat) + (y * (27617 : Int))) + ((z + (1 : Int)) * (1299721 : Int))) + (52363 : Int)) % (2147483423 : Int))) ((z + (1 : Int)))) rfl ?_
        with_reducible refine k_ret ?_
        refine k_val (v_op (v_int (v_op0 (v_op (v_bag (k := 3) (val_var rfl) val_c rfl) val_c (by decide : (0 : Int) < (67 : Int) ∧ (67 : Int) < 1073741824)) (v_op (v_op (v_int (v_bag (k := 3) (val_var rfl) val_c rfl)) val_c (by decide : (0 : Int) < (7919 : Int))) val_c (Or.inr (by decide : -(2 ^ 64) < (53 : Int) ∧ (53 : Int) < 2 ^ 64))))) (val_var rfl) h0) ?_
        exact fin _ _ _ _ _ (by first | omega | exact Int.emod_nonneg _ (by omega)) (by first | omega | exact Int.emod_lt_of_pos _ h0) (by omega) (by first | omega | exact Int.ediv_nonneg (by omega) (by omega)) (by omega) (by omega)
    · try simp only [decide_eq_true_eq, decide_eq_false_iff_not] at c2
      refine k_seti (k := 3) (v_op (v_int (v_op0 (v_op0 (v_op (v_bag (k := 3) (val_var rfl) val_c rfl) val_c (Or.inr (by decide : -(2 ^ 64) < (40961 : Int) ∧ (40961 : Int) < 2 ^ 64))) (v_op (v_op (v_int (val_var rfl)) val_c (by decide : (0 : Int) < (2147483029 : Int))) val_c (Or.inr (by decide : -(2 ^ 64) < (773 : Int) ∧ (773 : Int) < 2 ^ 64)))) val_c)) val_c (by decide : (0 : Int) < (2147483423 : Int))) (val_var rfl) val_c (by show 3 < 5; decide) (ys := bagL c ((i + (1 : Int))) (x) (((((y * (40961 : Int)) + ((((((ns.getD i.toNat 0)).natAbs : Nat) : Int) % (2147483029 : Int)) * (773 : Int))) + (43 : Int)) % (2147483423 : Int))) ((z + (1 : Int)))) rfl ?_
      with_reducible refine k_seq ?_
      with_reducible refine k_ifX ?_
      with_reducible refine k_T ?_
      refine k_val (v_opB (v_bag (k := 2) (val_var rfl) val_c rfl) val_c) ?_
      refine ⟨_, rfl, ?_⟩
      refine k_ite (fun c4 => ?_) (fun c4 => ?_)
      · try simp only [decide_eq_true_eq, decide_eq_false_iff_not] at c4
        with_reducible refine k_seq ?_
        with_reducible refine k_set ?_
        refine k_val (v_op (v_int (v_bag (k := 2) (val_var rfl) val_c rfl)) (val_var rfl) h0) ?_
        with_reducible refine k_seq ?_
        refine k_seti (k := 2) (v_op (v_bag (k := 2) (val_var rfl) val_c rfl) (val_var rfl) ⟨h0, h1⟩) (val_var rfl) val_c (by show 2 < 5; decide) (ys := bagL c ((i + (1 : Int))) ((x / n)) (((((y * (40961 : Int)) + ((((((ns.getD i.toNat 0)).natAbs : Nat) : Int) % (2147483029 : Int)) * (773 : Int))) + (43 : Int)) % (2147483423 : Int))) ((z + (1 : Int)))) rfl ?_
        with_reducible refine k_ret ?_
        refine k_val (val_var rfl) ?_
        exact fin _ _ _ _ _ (by first | omega | exact Int.emod_nonneg _ (by omega)) (by first | omega | exact Int.emod_lt_of_pos _ h0) (by omega) (by first | omega | exact Int.ediv_nonneg (by omega) (by omega)) (by omega) (by omega)
      · try simp only [decide_eq_true_eq, decide_eq_false_iff_not] at c4
        with_reducible refine k_next ?_
        with_reducible refine k_seq ?_
        with_reducible refine k_set ?_
        refine k_val (v_bag (k := 3) (val_var rfl) val_c rfl) ?_
        with_reducible refine k_seq ?_
        refine k_seti (k := 3) (v_op (v_int (v_op0 (v_op0 (v_op0 (v_op (val_var rfl) val_c ⟨(by decide : (0 : Int) ≤ (3 : Int)), (by decide : (3 : Int) ≤ 1000000), (show (((((y * (40961 : Int)) + ((((((ns.getD i.toNat 0)).natAbs : Nat) : Int) % (2147483029 : Int)) * (773 : Int))) + (43 : Int)) % (2147483423 : Int))).natAbs < 2 ^ 64 by omega)⟩) (v_op (val_var rfl) val_c (Or.inr (by decide : -(2 ^ 64) < (27617 : Int) ∧ (27617 : Int) < 2 ^ 64)))) (v_op (v_bag (k := 4) (val_var rfl) val_c rfl) val_c (Or.inr (by decide : -(2 ^ 64) < (1299721 : Int) ∧ (1299721 : Int) < 2 ^ 64)))) val_c)) val_c (by decide : (0 : Int) < (2147483423 : Int))) (val_var rfl) val_c (by show 3 < 5; decide) (ys := bagL c ((i + (1 : Int))) (x) ((((((((((y * (40961 : Int)) + ((((((ns.getD i.toNat 0)).natAbs : Nat) : Int) % (2147483029 : Int)) * (773 : Int))) + (43 : Int)) % (2147483423 : Int)) ^ ((3 : Int)).toNat) + (((((y * (40961 : Int)) + ((((((ns.getD i.toNat 0)).natAbs : Nat) : Int) % (2147483029 : Int)) * (773 : Int))) + (43 : Int)) % (2147483423 : Int)) * (27617 : Int))) + ((z + (1 : Int)) * (1299721 : Int))) + (52363 : Int)) % (2147483423 : Int))) ((z + (1 : Int)))) rfl ?_
        with_reducible refine k_ret ?_
        refine k_val (v_op (v_int (v_op0 (v_op (v_bag (k := 3) (val_var rfl) val_c rfl) val_c (by decide : (0 : Int) < (67 : Int) ∧ (67 : Int) < 1073741824)) (v_op (v_op (v_int (v_bag (k := 3) (val_var rfl) val_c rfl)) val_c (by decide : (0 : Int) < (7919 : Int))) val_c (Or.inr (by decide : -(2 ^ 64) < (53 : Int) ∧ (53 : Int) < 2 ^ 64))))) (val_var rfl) h0) ?_
        exact fin _ _ _ _ _ (by first | omega | exact Int.emod_nonneg _ (by omega)) (by first | omega | exact Int.emod_lt_of_pos _ h0) (by omega) (by first | omega | exact Int.ediv_nonneg (by omega) (by omega)) (by omega) (by omega)
  · try simp only [decide_eq_true_eq, decide_eq_false_iff_not] at c1
    with_reducible refine k_next ?_
    with_reducible refine k_seq ?_
    with_reducible refine k_ifX ?_
    with_reducible refine k_T ?_
    refine k_val (v_opB (v_bag (k := 2) (val_var rfl) val_c rfl) val_c) ?_
    refine ⟨_, rfl, ?_⟩
    refine k_ite (fun c5 => ?_) (fun c5 => ?_)
    · try simp only [decide_eq_true_eq, decide_eq_false_iff_not] at c5
      with_reducible refine k_seq ?_
      with_reducible refine k_set ?_
      refine k_val (v_op (v_int (v_bag (k := 2) (val_var rfl) val_c rfl)) (val_var rfl) h0) ?_
      with_reducible refine k_seq ?_
      refine k_seti (k := 2) (v_op (v_bag (k := 2) (val_var rfl) val_c rfl) (val_var rfl) ⟨h0, h1⟩) (val_var rfl) val_c (by show 2 < 5; decide) (ys := bagL c (i) ((x / n)) (y) ((z + (1 : Int)))) rfl ?_
      with_reducible refine k_ret ?_
      refine k_val (val_var rfl) ?_
      exact fin _ _ _ _ _ (by first | omega | exact Int.emod_nonneg _ (by omega)) (by first | omega | exact Int.emod_lt_of_pos _ h0) (by omega) (by first | omega | exact Int.ediv_nonneg (by omega) (by omega)) (by omega) (by omega)
    · try simp only [decide_eq_true_eq, decide_eq_false_iff_not] at c5
      with_reducible refine k_next ?_
      with_reducible refine k_seq ?_
      with_reducible refine k_set ?_
      refine k_val (v_bag (k := 3) (val_var rfl) val_c rfl) ?_
      with_reducible refine k_seq ?_
      refine k_seti (k := 3) (v_op (v_int (v_op0 (v_op0 (v_op0 (v_op (val_var rfl) val_c ⟨(by decide : (0 : Int) ≤ (3 : Int)), (by decide : (3 : Int) ≤ 1000000), (show (y).natAbs < 2 ^ 64 by omega)⟩) (v_op (val_var rfl) val_c (Or.inr (by decide : -(2 ^ 64) < (27617 : Int) ∧ (27617 : Int) < 2 ^ 64)))) (v_op (v_bag (k := 4) (val_var rfl) val_c rfl) val_c (Or.inr (by decide : -(2 ^ 64) < (1299721 : Int) ∧ (1299721 : Int) < 2 ^ 64)))) val_c)) val_c (by decide : (0 : Int) < (2147483423 : Int))) (val_var rfl) val_c (by show 3 < 5; decide) (ys := bagL c (i) (x) ((((((y ^ ((3 : Int)).toNat) + (y * (27617 : Int))) + ((z + (1 : Int)) * (1299721 : Int))) + (52363 : Int)) % (2147483423 : Int))) ((z + (1 : Int)))) rfl ?_
      with_reducible refine k_ret ?_
      refine k_val (v_op (v_int (v_op0 (v_op (v_bag (k := 3) (val_var rfl) val_c rfl) val_c (by decide : (0 : Int) < (67 : Int) ∧ (67 : Int) < 1073741824)) (v_op (v_op (v_int (v_bag (k := 3) (val_var rfl) val_c rfl)) val_c (by decide : (0 : Int) < (7919 : Int))) val_c (Or.inr (by decide : -(2 ^ 64) < (53 : Int) ∧ (53 : Int) < 2 ^ 64))))) (val_var rfl) h0) ?_
      exact fin _ _ _ _ _ (by first | omega | exact Int.emod_nonneg _ (by omega)) (by first | omega | exact Int.emod_lt_of_pos _ h0) (by omega) (by first | omega | exact Int.ediv_nonneg (by omega) (by omega)) (by omega) (by omega)
/-- the bag is among what changes -/
structure BagG (K : PySem.W.Frag) (b c : Addr) (ns : List Int) (G : Bg) : Prop where
  m : G.M b
  ok : ∀ H, G.B H → BagOk K b c ns H
  stb : ∀ H H', G.B H → Ex (onB b) H H' → BagOk K b c ns H' → G.B H'
theorem BagG.up {b c : Addr} {ns : List Int} {G : Bg} {H H' : Hp} (g : BagG K b c ns G) (e : Ex (onB b) H H') : Ex G.M H H' := e.imp fun a z => by
  rw [show a = b from z]; exact g.m
theorem BagG.on {b c : Addr} {ns : List Int} {G : Bg} (g : BagG K b c ns G) : ∀ a, onB b a → G.M a := fun a z => by
  rw [show a = b from z]; exact g.m
theorem BagG.plus {b c d : Addr} {ns : List Int} {G : Bg} {H : Hp} (g : BagG K b c ns G) (hB : G.B H) (nd : H d = none) : BagG K b c ns (G.plus d) where
  m := .inl g.m
  ok := fun H' q => g.ok H' q.1
  stb := fun H1 H2 q e k => ⟨g.stb H1 H2 q.1 e k, by
    obtain ⟨xs, h⟩ := q.2
    obtain ⟨i, x, y, z, hb, _⟩ := g.ok H hB
    exact ⟨xs, e _ _ h fun z => by rw [show d = b from z, hb] at nd; cases nd⟩⟩
def bagG (K : PySem.W.Frag) (b c : Addr) (ns : List Int) : Bg where
  M := onB b
  B := BagOk K b c ns
  isl := fun H a q m => by
    obtain ⟨i, x, y, z, hb, _⟩ := q
    rw [show a = b from m]
    exact .inl ⟨_, hb⟩
  st := fun H H' q s => by
    obtain ⟨i, x, y, z, hb, A⟩ := q
    exact ⟨i, x, y, z, s _ _ hb, A.ne, s.seq A.cells, A.i0, A.x0, A.y0, A.y1⟩
  fr := fun H d q nd H1 H2 q1 _ e => by
    obtain ⟨i, x, y, z, hb, A⟩ := q
    obtain ⟨i1, x1, y1, z1, hb1, A1⟩ := q1
    have n1 : b ≠ d := fun z => by subst z; rw [nd] at hb; cases hb
    refine ⟨i1, x1, y1, z1, e _ _ hb1 n1, A1.ne, ?_, A1.i0, A1.x0, A1.y0, A1.y1⟩
    rcases A.cells with h | h
    · have n2 : c ≠ d := fun z => by
        subst z
        rcases h with h | ⟨o, h⟩ <;> (rw [nd] at h; cases h)
      rcases A1.cells with k | k
      · exact .inl (rd_up (M := fun a => a = d) n2 e k)
      · exact .inr k
    · exact .inr h
theorem bagG_ok {b c : Addr} {ns : List Int} : BagG K b c ns (bagG K b c ns) := ⟨rfl, fun _ q => q, fun _ _ _ _ q => q⟩
def spB (K : PySem.W.Frag) {α : Type} (enc : α → List D) (pre : α → Prop) (post : α → D → Prop) : Sp := fun vs H Q _ =>
  ∃ (b c : Addr) (ns : List Int) (G : Bg) (x : α) (vs' : List V), vs = .ref b :: vs' ∧ BagG K b c ns G ∧ G.B H ∧ Reps K G.M H (enc x) vs' ∧ pre x ∧ ∀ d v H', post x d → Rep K G.M H' d v → Ex (onB b) H H' → G.B H' → Q v H'
theorem k_spB {b c : Addr} {ns : List Int} {G : Bg} {H : Hp} {Q : VK} {α : Type} {enc : α → List D} {pre : α → Prop} {post : α → D → Prop} {vs : List V} {E : XK} (x : α) (hg : BagG K b c ns G) (hB : G.B H) (r : Reps K G.M H (enc x) vs) (hp : pre x)
    (q : ∀ d v H', post x d → Rep K G.M H' d v → Ex (onB b) H H' → G.B H' → Q v H') : spB K enc pre post (.ref b :: vs) H Q E := ⟨b, c, ns, G, x, vs, rfl, hg, hB, r, hp, q⟩
theorem k_draw {b c : Addr} {ns : List Int} {G : Bg} {H : Hp} {Q : VK} {E : XK} {n : Int} (hg : BagG K b c ns G) (hB : G.B H) (h0 : 0 < n) (h1 : n < 1073741824)
    (q : ∀ r H', 0 ≤ r → r < n → Ex (onB b) H H' → G.B H' → Q (.int r) H') : sp__law_draw K [.ref b, .int n] H Q E := ⟨b, c, ns, n, rfl, hg.ok _ hB, h0, h1, fun r H' l u k e => q r H' l u e (hg.stb _ _ hB e k)⟩
theorem sz_lt (n : Nat) (N : Nat) {r m : Int} (h0 : 0 ≤ r) (h1 : r < m) (h2 : m ≤ (N : Int)) (h3 : N ≤ 2 ^ n := by decide) : Sz n r := by unfold Sz; omega

end
end Px

namespace Px
open PySem PySem.Spec PyProof.Rows L2
section
variable {P : Program} {w : World} {K : PySem.W.Frag} {mg : Str → Option Value} {base : Heap}
def sp__law_pick (K : PySem.W.Frag) : Sp := spB K (α := List D) (fun ds => [.lst ds]) (fun ds => 0 < ds.length ∧ ds.length ≤ 1000) (fun ds d => d ∈ ds)
theorem has__law_pick (T : Tx K mg) : Has P w K mg base CX0 "_law_pick" s__law_pick ["_law_bag_here", "_law_some"] 2 (sp__law_pick K) := by
  obtain ⟨f, fd, F, M⟩ := T._law_pick
  obtain ⟨f_d, fd_d, F_d, M_d, B_d, G_d⟩ := has__law_draw (P := P) (w := w) (base := base) T
  refine ⟨f, fd, F, M, F.binds (ps := ["_law_bag_here", "_law_some"]) (fun _ _ _ _ _ _ us hl => match us, hl with | [_, _], _ => rfl), F.ok sc__law_pick (fun vs H Q E h => ?_) (fun cdv A outer s H vs Q E hr h => ?_)⟩
  · obtain ⟨b, c, ns, G, x, vs', rfl, hg, hB, r, hp, q⟩ := h
    rw [List.length_cons, r.len]; rfl
  · obtain ⟨b, c, ns, G, ds, vs', rfl, hg, hB, r, ⟨hp, hp2⟩, k⟩ := h
    obtain ⟨v0, _, rfl, r0, r⟩ := cons_of r
    obtain rfl := nil_of r
    obtain ⟨a, xs, rfl, nM, hr0, rs⟩ := lst_of r0
    have hl := rs.len
    refine ⟨_, pss_one (ps_ret (pe_ix ix_list (pv 1) (pe_call G_d (hr.mono (by decide)) (by rfl) M_d F_d.kp B_d .nil pass0 (pa_cons (pv 0) (pa_cons (pe_callB call_len (by rfl) T.len (by decide +kernel) (pa_cons (pv 1) pa_nil)) pa_nil))) (fun _ _ => rfl))), ?_⟩
    refine k_ret (k_opX (k_val (val_var rfl) (k_call (k_arg (val_var rfl) (k_arg (v_lenL (val_var rfl) (.inl hr0)) (k_nil ?_))))))
    refine k_draw hg hB (by omega) (by omega) (fun j H1 l u e hB1 => ?_)
    have r1 := rs.up hB (hg.up e)
    have hj : j.toNat < ds.length := by omega
    obtain ⟨v, e1, e2⟩ := r1.at (List.getElem?_eq_getElem hj)
    refine ⟨a, xs, j, v, rfl, rfl, .inl (rd_up nM (hg.up e) hr0), at_of (by omega) e1, ?_⟩
    exact k _ _ _ (List.getElem_mem hj) e2 e hB1
/-! ### common divisors -/
theorem k_while {α : Type} {c : TT} {tb : TS} {D' : Ends} {H : Hp} (st : α → L2.St) (μ : α → Nat) (inv : α → Prop) (a0 : α) (h0 : inv a0)
    (hs : ∀ a, inv a → ∃ b, Ans c (st a) H b ∧ (b = true → tb { D' with nx := fun σ' H' => H' = H ∧ ∃ a', inv a' ∧ μ a' < μ a ∧ σ' = st a', ct := fun σ' H' => H' = H ∧ ∃ a', inv a' ∧ μ a' < μ a ∧ σ' = st a', bk := D'.nx } (st a) H) ∧ (b = false → D'.nx (st a) H)) :
    tWhile c tb D' (st a0) H := by
  refine ⟨fun m σ' H' => H' = H ∧ ∃ a, inv a ∧ μ a = m ∧ σ' = st a, ⟨μ a0, rfl, a0, h0, rfl, rfl⟩, ?_⟩
  rintro m σ' H' ⟨rfl, a, ha, rfl, rfl⟩
  obtain ⟨b, h1, h2, h3⟩ := hs a ha
  refine h1 _ ?_
  cases b with
  | true =>
    rw [if_pos rfl]
    exact ⟨_, fun σ2 H2 ⟨e, a', i', l, s'⟩ => ⟨_, l, e, a', i', rfl, s'⟩, h2 rfl⟩
  | false => rw [if_neg Bool.false_ne_true]; exact h3 rfl
theorem k_par {σ : L2.St} {H : Hp} {i j : Nat} {ta : TA} {D' : Ends} (q : ta σ H fun vs H1 => ∃ v w, vs = [v, w] ∧ D'.nx ((σ.set i (some v)).set j (some w)) H1) : tPar i j ta D' σ H := q
def sp__law_common (K : PySem.W.Frag) : Sp := spF K (α := Int × Int) (fun x => [.int x.1, .int x.2]) (fun x => True) (fun x => .int (Nat.gcd x.1.natAbs x.2.natAbs : Nat))
theorem has__law_common (T : Tx K mg) : Has P w K mg base CX0 "_law_common" s__law_common ["_law_p", "_law_q"] 1 (sp__law_common K) := by
  obtain ⟨f, fd, F, M⟩ := T._law_common
  refine ⟨f, fd, F, M, F.binds (ps := ["_law_p", "_law_q"]) (fun _ _ _ _ _ _ us hl => match us, hl with | [_, _], _ => rfl), F.ok sc__law_common (fun vs H Q E h => ?_) (fun cdv A outer s H vs Q E hr h => ?_)⟩
  · obtain ⟨G, x, hB, r, hp, q⟩ := h; rw [r.len]; rfl
  · obtain ⟨G, ⟨p, q⟩, hB, r, _, k⟩ := h
    obtain ⟨v0, _, rfl, r0, r⟩ := cons_of r
    obtain ⟨v1, _, rfl, r1, r⟩ := cons_of r
    obtain rfl := nil_of r
    obtain rfl := int_of (i := p) r0
    obtain rfl := int_of (i := q) r1
    refine ⟨_, pss_cons (ps_par (i := 2) (j := 3) (by rfl) sc__law_common.nd rfl rfl (by decide) rfl rfl (pa_cons (pe_callB call_abs (by rfl) T.abs (by decide +kernel) (pa_cons (pv 0) pa_nil)) (pa_cons (pe_callB call_abs (by rfl) T.abs (by decide +kernel) (pa_cons (pv 1) pa_nil)) pa_nil)) (by rfl))
      (pss_cons (ps_while PassesOwn.never (pt_cmpR op_gt (pv 3) pe_int (nomark _)) (pss_one (ps_par (i := 2) (j := 3) (by rfl) sc__law_common.nd rfl rfl (by decide) rfl rfl (pa_cons (pv 3) (pa_cons (pe_op op_mod (pe_callTy call_int1 (by rfl) T.int (by decide +kernel) (pa_cons (pv 2) pa_nil)) (pv 3)) pa_nil)) (by rfl))))
      (pss_one (ps_ret (pv 2)))), ?_⟩
    with_reducible refine k_seq ?_
    refine k_par (k_arg (v_abs (val_var rfl)) (k_arg (v_abs (val_var rfl)) (k_nil ⟨_, _, rfl, ?_⟩)))
    with_reducible refine k_seq ?_
    refine k_while (α := Nat × Nat) (fun a => [some (.int p), some (.int q), some (.int (a.1 : Int)), some (.int (a.2 : Int))]) (fun a => a.2) (fun a => Nat.gcd a.1 a.2 = Nat.gcd p.natAbs q.natAbs) (p.natAbs, q.natAbs) rfl fun a ha => ?_
    obtain ⟨m, n⟩ := a
    replace ha : Nat.gcd m n = Nat.gcd p.natAbs q.natAbs := ha
    refine ⟨_, a_test (v_opB (val_var rfl) val_c), fun e => ?_, fun e => ?_⟩
    · have hn : 0 < (n : Int) := of_decide_eq_true e
      refine k_par (k_arg (val_var rfl) (k_arg (v_op (v_int (val_var rfl)) (val_var rfl) hn) (k_nil ⟨_, _, rfl, ?_⟩)))
      refine ⟨rfl, (n, m % n), ?_, Nat.mod_lt _ (by omega), rfl⟩
      show Nat.gcd n (m % n) = _
      rw [← ha, Nat.gcd_comm m n, Nat.gcd_rec n m, Nat.gcd_comm]
    · have hn : n = 0 := by
        have := of_decide_eq_false e
        omega
      subst hn
      refine k_ret (k_val (val_var rfl) ?_)
      rw [Nat.gcd_zero_right] at ha
      show Q (.int (m : Int)) H
      rw [ha]
      exact k _ _ _ rfl (rint _) (Same.refl _) hB
def sp__law_low (K : PySem.W.Frag) : Sp := spF K (α := Int × Int × Nat) (fun x => [.int x.1, .int x.2.1]) (fun x => x.2.1 ≠ 0 ∧ Sz x.2.2 x.2.1 ∧ x.2.2 ≤ 9000) (fun x => fr (Rat.divInt x.1 x.2.1))
theorem has__law_low (T : Tx K mg) : Has P w K mg base CX0 "_law_low" s__law_low ["_law_p", "_law_q"] 2 (sp__law_low K) := by
  obtain ⟨f, fd, F, M⟩ := T._law_low
  obtain ⟨f_c, fd_c, F_c, M_c, B_c, G_c⟩ := has__law_common (P := P) (w := w) (base := base) T
  refine ⟨f, fd, F, M, F.binds (ps := ["_law_p", "_law_q"]) (fun _ _ _ _ _ _ us hl => match us, hl with | [_, _], _ => rfl), F.ok sc__law_low (fun vs H Q E h => ?_) (fun cdv A outer s H vs Q E hr h => ?_)⟩
  · obtain ⟨G, x, hB, r, hp, q⟩ := h; rw [r.len]; rfl
  · obtain ⟨G, ⟨p, q, n⟩, hB, r, ⟨hq, hz, hn⟩, k⟩ := h
    obtain ⟨v0, _, rfl, r0, r⟩ := cons_of r
    obtain ⟨v1, _, rfl, r1, r⟩ := cons_of r
    obtain rfl := nil_of r
    obtain rfl := int_of (i := p) r0
    obtain rfl := int_of (i := q) r1
    replace hq : q ≠ 0 := hq
    replace hz : Sz n q := hz
    replace hn : n ≤ 9000 := hn
    have hgz := gcd_sz (p := p) hz hq
    refine ⟨_, pss_cons (ps_set (i := 2) sc__law_low.nd rfl (.inl rfl) (pe_call G_c (hr.mono (by decide)) (by rfl) M_c F_c.kp B_c .nil pass0 (pa_cons (pv 0) (pa_cons (pv 1) pa_nil))))
      (pss_cons (ps_if (pt_cmpR op_lt (pv 1) pe_int (nomark _)) (pss_one (ps_set (i := 2) sc__law_low.nd rfl (.inl rfl) (pe_op op_sub pe_int (pv 2)))) pss_nil)
      (pss_one (ps_ret (pe_tup (pa_cons (pe_op op_fdivU (pv 0) (pv 2)) (pa_cons (pe_op op_fdivU (pv 1) (pv 2)) pa_nil)))))), ?_⟩
    with_reducible refine k_seq ?_
    refine k_set (k_call (k_arg (val_var rfl) (k_arg (val_var rfl) (k_nil ?_))))
    refine k_spF (p, q) hB (rcons (rint _) (rcons (rint _) (rnil (K := K)))) trivial (fun v H1 rv s1 hB1 => ?_)
    obtain rfl := int_of (i := ((Nat.gcd p.natAbs q.natAbs : Nat) : Int)) rv
    with_reducible refine k_seq ?_
    refine k_if (a_test (v_opB (val_var rfl) val_c)) (fun e => ?_) (fun e => ?_)
    · have hlt : q < 0 := of_decide_eq_true e
      refine k_set (k_val (v_op0 val_c (val_var rfl)) ?_)
      have g0 : -(Nat.gcd p.natAbs q.natAbs : Nat) ≠ (0 : Int) := by
        have : 0 < Nat.gcd p.natAbs q.natAbs := Nat.gcd_pos_of_pos_right _ (by omega)
        omega
      have e0 : (0 : Int) - ((Nat.gcd p.natAbs q.natAbs : Nat) : Int) = -(Nat.gcd p.natAbs q.natAbs : Nat) := by omega
      refine k_ret (k_tup (k_arg (v_op (val_var rfl) (val_var rfl) (by rw [e0]; exact divU_of g0 hgz.neg hn)) (k_arg (v_op (val_var rfl) (val_var rfl) (by rw [e0]; exact divU_of g0 hgz.neg hn)) (k_nil ?_))))
      rw [e0, (frac_neg hlt).1, (frac_neg hlt).2]
      exact k_tup_end hB1 (rcons (rint _) (rcons (rint _) (rnil (K := K)))) fun v H' r s b => k _ v H' rfl r (s1.trans s) b
    · have hgt : 0 < q := by
        have := of_decide_eq_false e
        omega
      have g0 : ((Nat.gcd p.natAbs q.natAbs : Nat) : Int) ≠ 0 := by
        have : 0 < Nat.gcd p.natAbs q.natAbs := Nat.gcd_pos_of_pos_right _ (by omega)
        omega
      refine k_ret (k_tup (k_arg (v_op (val_var rfl) (val_var rfl) (divU_of g0 hgz hn)) (k_arg (v_op (val_var rfl) (val_var rfl) (divU_of g0 hgz hn)) (k_nil ?_))))
      rw [(frac_pos hgt).1, (frac_pos hgt).2]
      exact k_tup_end hB1 (rcons (rint _) (rcons (rint _) (rnil (K := K)))) fun v H' r s b => k _ v H' rfl r (s1.trans s) b
def sp_fraction (K : PySem.W.Frag) : Sp := spF K (α := Int × Int × Nat) (fun x => [.int x.1, .int x.2.1]) (fun x => x.2.1 ≠ 0 ∧ Sz x.2.2 x.2.1 ∧ x.2.2 ≤ 9000) (fun x => fr (Rat.divInt x.1 x.2.1))
theorem has_fraction (T : Tx K mg) : ∃ f fd, FunD K "fraction" "fraction" (defArgs s_fraction) (defBody s_fraction) (defScope s_fraction) [.int 1] [] f fd ∧ mg "fraction" = some (.ref f) ∧
    (Binds K fd ["over", "under"] [] ∧ ∃ ds, Vals [.int 1] ds ∧ Binds K fd ["over", "under"] ds) ∧ FnOk P w K mg base CX0 1 f fd ["over", "under"] (sp_fraction K) := by
  obtain ⟨f, fd, F, M⟩ := T.fraction
  refine ⟨f, fd, F, M, ⟨?_, ?_⟩, F.ok sc_fraction (fun vs H Q E h => ?_) (fun cdv A outer s H vs Q E hr h => ?_)⟩
  · obtain ⟨ds, r, hb⟩ := F.binds1 (ps := ["over", "under"]) 2 1 (by simp) rfl fun T kV doc pm an cdv ct us its l1 l2 => match us, l1, its, l2 with | [_, _], _, [_], _ => ⟨_, rfl, by first | rfl | with_unfolding_all rfl | kernel_rfl⟩
    cases r
    exact hb
  · exact F.binds1 1 0 (by simp) rfl fun T kV doc pm an cdv ct us its l1 l2 => match us, l1, its, l2 with | [_], _, [_], _ => ⟨_, rfl, rfl⟩
  · obtain ⟨G, x, hB, r, hp, q⟩ := h
    rw [r.len]; rfl
  · obtain ⟨G, ⟨p, q, n⟩, hB, r, ⟨hq, hz, hn⟩, k⟩ := h
    obtain ⟨v0, _, rfl, r0, r⟩ := cons_of r
    obtain ⟨v1, _, rfl, r1, r⟩ := cons_of r
    obtain rfl := nil_of r
    obtain rfl := int_of (i := p) r0
    obtain rfl := int_of (i := q) r1
    replace hq : q ≠ 0 := hq
    replace hz : Sz n q := hz
    replace hn : n ≤ 9000 := hn
    have hg := gcd_sz (p := p) hz hq
    refine ⟨_, pss_cons (ps_if (pt_cmpR op_eq (pv 1) pe_int (nomark _)) (pss_one ps_never) pss_nil)
      (pss_cons (ps_set (i := 2) sc_fraction.nd rfl (.inl rfl) (pe_callBfun cr_gcd rfl T.gcd (pa_cons (pv 0) (pa_cons (pv 1) pa_nil))))
      (pss_cons (ps_if (pt_cmpR op_lt (pv 1) pe_int (nomark _)) (pss_one (ps_set (i := 2) sc_fraction.nd rfl (.inl rfl) (pe_un un_neg (pv 2)))) pss_nil)
      (pss_one (ps_ret (pe_tup (pa_cons (pe_op op_fdivU (pv 0) (pv 2)) (pa_cons (pe_op op_fdivU (pv 1) (pv 2)) pa_nil))))))), ?_⟩
    refine k_if (a_test (v_eq (val_var rfl) val_c rfl)) (fun e => ?_) (fun _ => ?_)
    · exact absurd (V.int.inj (of_decide_eq_true e)) hq
    refine k_set (k_val (v_gcd (val_var rfl) (val_var rfl)) ?_)
    refine k_if (a_test (v_opB (val_var rfl) val_c)) (fun e => ?_) (fun e => ?_)
    · have hlt : q < 0 := of_decide_eq_true e
      refine k_set (k_val (v_un (val_var rfl)) ?_)
      have g0 : -(Nat.gcd p.natAbs q.natAbs : Nat) ≠ (0 : Int) := by
        have : 0 < Nat.gcd p.natAbs q.natAbs := Nat.gcd_pos_of_pos_right _ (by omega)
        omega
      refine k_ret (k_tup (k_arg (v_op (val_var rfl) (val_var rfl) (divU_of g0 hg.neg hn)) (k_arg (v_op (val_var rfl) (val_var rfl) (divU_of g0 hg.neg hn)) (k_nil ?_))))
      rw [(frac_neg hlt).1, (frac_neg hlt).2]
      exact k_tup_end hB (rcons (rint _) (rcons (rint _) rnil)) fun v H' r s b => k _ v H' rfl r s b
    · have hgt : 0 < q := by
        have := of_decide_eq_false e
        omega
      have g0 : ((Nat.gcd p.natAbs q.natAbs : Nat) : Int) ≠ 0 := by
        have : 0 < Nat.gcd p.natAbs q.natAbs := Nat.gcd_pos_of_pos_right _ (by omega)
        omega
      refine k_ret (k_tup (k_arg (v_op (val_var rfl) (val_var rfl) (divU_of g0 hg hn)) (k_arg (v_op (val_var rfl) (val_var rfl) (divU_of g0 hg hn)) (k_nil ?_))))
      rw [(frac_pos hgt).1, (frac_pos hgt).2]
      exact k_tup_end hB (rcons (rint _) (rcons (rint _) rnil)) fun v H' r s b => k _ v H' rfl r s b
def sp_plus (K : PySem.W.Frag) : Sp := spF K (α := Rat × Rat × Nat × Nat) (fun x => [(fr (x.1)), (fr (x.2.1))]) (fun x => SzR x.2.2.1 x.1 ∧ SzR x.2.2.2 x.2.1 ∧ x.2.2.1 + x.2.2.2 ≤ 8000) (fun x => (fr ((x.1 + x.2.1))))
theorem has_plus (T : Tx K mg) : Has P w K mg base CX0 "plus" s_plus ["one", "other"] 2 (sp_plus K) := by
  obtain ⟨f, fd, F, M⟩ := T.plus
  obtain ⟨f_fraction, fd_fraction, F_fraction, M_fraction, B_fraction, G_fraction⟩ := has_fraction (P := P) (w := w) (base := base) T
  refine ⟨f, fd, F, M, F.binds (ps := ["one", "other"]) (fun _ _ _ _ _ _ us hl => match us, hl with | [_, _], _ => rfl), F.ok sc_plus (fun vs H Q E h => ?_) (fun cdv A outer s H vs Q E hr h => ?_)⟩
  · obtain ⟨G, x, hB, r, hp, q⟩ := h; rw [r.len]; rfl
  · obtain ⟨G, ⟨x, y, a, b⟩, hB, r, ⟨hx, hy, hn⟩, k⟩ := h
    replace hx : SzR a x := hx
    replace hy : SzR b y := hy
    replace hn : a + b ≤ 8000 := hn
    replace k : ∀ d v H', d = ((fr ((x + y))) : D) → Rep K G.M H' d v → Same H H' → G.B H' → Q v H' := k
    obtain ⟨v0_0, _, rfl, r0_0, rt0⟩ := cons_of r
    replace r0_0 : Rep K G.M H ((fr (x))) v0_0 := r0_0
    obtain ⟨v0_1, _, rfl, r0_1, rt1⟩ := cons_of rt0
    replace r0_1 : Rep K G.M H ((fr (y))) v0_1 := r0_1
    obtain rfl := nil_of rt1
    refine ⟨_, (pss_one (ps_ret (pe_call G_fraction (hr.mono (by decide)) (by rfl) M_fraction F_fraction.kp B_fraction.1 .nil pass0 (pa_cons (pe_op op_add (pe_op op_mulW (pe_ix (ix_tupK (K := K)) (pv 0) pe_int (fun _ _ => rfl)) (pe_ix (ix_tupK (K := K)) (pv 1) pe_int (fun _ _ => rfl))) (pe_op op_mulW (pe_ix (ix_tupK (K := K)) (pv 1) pe_int (fun _ _ => rfl)) (pe_ix (ix_tupK (K := K)) (pv 0) pe_int (fun _ _ => rfl)))) (pa_cons (pe_op op_mulW (pe_ix (ix_tupK (K := K)) (pv 0) pe_int (fun _ _ => rfl)) (pe_ix (ix_tupK (K := K)) (pv 1) pe_int (fun _ _ => rfl))) pa_nil))))), ?_⟩
    with_reducible refine k_ret ?_
    with_reducible refine k_call ?_
    refine k_arg (v_op0 (v_op (v_ixI (k := 0) (val_var rfl) (r0_0) val_c rfl) (v_ixI (k := 1) (val_var rfl) (r0_1) val_c rfl) (cmul (hx).1 (hy).2 (by omega))) (v_op (v_ixI (k := 0) (val_var rfl) (r0_1) val_c rfl) (v_ixI (k := 1) (val_var rfl) (r0_0) val_c rfl) (cmul (hy).1 (hx).2 (by omega)))) ?_
    refine k_arg (v_op (v_ixI (k := 1) (val_var rfl) (r0_0) val_c rfl) (v_ixI (k := 1) (val_var rfl) (r0_1) val_c rfl) (cmul (hx).2 (hy).2 (by omega))) ?_
    with_reducible refine k_nil ?_
    have zp1 : Sz (max (a + b) (b + a) + 1) ((((x).num * ((y).den : Int)) + ((y).num * ((x).den : Int)))) := (Sz.add (Sz.mul (hx).1 (hy).2) (Sz.mul (hy).1 (hx).2))
    have zq1 : Sz (a + b) ((((x).den : Int) * ((y).den : Int))) := (Sz.mul (hx).2 (hy).2)
    have nq1 : ((((x).den : Int) * ((y).den : Int))) ≠ 0 := (Int.mul_ne_zero (den_ne (x)) (den_ne (y)))
    refine k_spF ((((x).num * ((y).den : Int)) + ((y).num * ((x).den : Int))), (((x).den : Int) * ((y).den : Int)), (a + b)) hB (rcons (rint _) (rcons (rint _) (rnil (K := K)))) ⟨nq1, zq1, by first | omega | (dsimp only; omega)⟩ (fun v1 H1 r1 s1 hB1 => ?_)
    replace r1 : Rep K G.M H1 ((fr (Rat.divInt ((((x).num * ((y).den : Int)) + ((y).num * ((x).den : Int)))) ((((x).den : Int) * ((y).den : Int)))))) v1 := r1
    have z1 : SzR (max (max (a + b) (b + a) + 1) (a + b) + 1) (Rat.divInt ((((x).num * ((y).den : Int)) + ((y).num * ((x).den : Int)))) ((((x).den : Int) * ((y).den : Int)))) := (divInt_sz (zp1.mono (by omega)) (zq1.mono (by omega)) nq1)
    exact k _ _ _ (by rw [add_eq]) (r1) s1 hB1
def sp_times (K : PySem.W.Frag) : Sp := spF K (α := Rat × Rat × Nat × Nat) (fun x => [(fr (x.1)), (fr (x.2.1))]) (fun x => SzR x.2.2.1 x.1 ∧ SzR x.2.2.2 x.2.1 ∧ x.2.2.1 + x.2.2.2 ≤ 8000) (fun x => (fr ((x.1 * x.2.1))))
theorem has_times (T : Tx K mg) : Has P w K mg base CX0 "times" s_times ["one", "other"] 2 (sp_times K) := by
  obtain ⟨f, fd, F, M⟩ := T.times
  obtain ⟨f_fraction, fd_fraction, F_fraction, M_fraction, B_fraction, G_fraction⟩ := has_fraction (P := P) (w := w) (base := base) T
  refine ⟨f, fd, F, M, F.binds (ps := ["one", "other"]) (fun _ _ _ _ _ _ us hl => match us, hl with | [_, _], _ => rfl), F.ok sc_times (fun vs H Q E h => ?_) (fun cdv A outer s H vs Q E hr h => ?_)⟩
  · obtain ⟨G, x, hB, r, hp, q⟩ := h; rw [r.len]; rfl
  · obtain ⟨G, ⟨x, y, a, b⟩, hB, r, ⟨hx, hy, hn⟩, k⟩ := h
    replace hx : SzR a x := hx
    replace hy : SzR b y := hy
    replace hn : a + b ≤ 8000 := hn
    replace k : ∀ d v H', d = ((fr ((x * y))) : D) → Rep K G.M H' d v → Same H H' → G.B H' → Q v H' := k
    obtain ⟨v0_0, _, rfl, r0_0, rt0⟩ := cons_of r
    replace r0_0 : Rep K G.M H ((fr (x))) v0_0 := r0_0
    obtain ⟨v0_1, _, rfl, r0_1, rt1⟩ := cons_of rt0
    replace r0_1 : Rep K G.M H ((fr (y))) v0_1 := r0_1
    obtain rfl := nil_of rt1
    refine ⟨_, (pss_one (ps_ret (pe_call G_fraction (hr.mono (by decide)) (by rfl) M_fraction F_fraction.kp B_fraction.1 .nil pass0 (pa_cons (pe_op op_mulW (pe_ix (ix_tupK (K := K)) (pv 0) pe_int (fun _ _ => rfl)) (pe_ix (ix_tupK (K := K)) (pv 1) pe_int (fun _ _ => rfl))) (pa_cons (pe_op op_mulW (pe_ix (ix_tupK (K := K)) (pv 0) pe_int (fun _ _ => rfl)) (pe_ix (ix_tupK (K := K)) (pv 1) pe_int (fun _ _ => rfl))) pa_nil))))), ?_⟩
    with_reducible refine k_ret ?_
    with_reducible refine k_call ?_
    refine k_arg (v_op (v_ixI (k := 0) (val_var rfl) (r0_0) val_c rfl) (v_ixI (k := 0) (val_var rfl) (r0_1) val_c rfl) (cmul (hx).1 (hy).1 (by omega))) ?_
    refine k_arg (v_op (v_ixI (k := 1) (val_var rfl) (r0_0) val_c rfl) (v_ixI (k := 1) (val_var rfl) (r0_1) val_c rfl) (cmul (hx).2 (hy).2 (by omega))) ?_
    with_reducible refine k_nil ?_
    have zp1 : Sz (a + b) (((x).num * (y).num)) := (Sz.mul (hx).1 (hy).1)
    have zq1 : Sz (a + b) ((((x).den : Int) * ((y).den : Int))) := (Sz.mul (hx).2 (hy).2)
    have nq1 : ((((x).den : Int) * ((y).den : Int))) ≠ 0 := (Int.mul_ne_zero (den_ne (x)) (den_ne (y)))
    refine k_spF (((x).num * (y).num), (((x).den : Int) * ((y).den : Int)), (a + b)) hB (rcons (rint _) (rcons (rint _) (rnil (K := K)))) ⟨nq1, zq1, by first | omega | (dsimp only; omega)⟩ (fun v1 H1 r1 s1 hB1 => ?_)
    replace r1 : Rep K G.M H1 ((fr (Rat.divInt (((x).num * (y).num)) ((((x).den : Int) * ((y).den : Int)))))) v1 := r1
    have z1 : SzR (a + b) (Rat.divInt (((x).num * (y).num)) ((((x).den : Int) * ((y).den : Int)))) := (divInt_sz (zp1.mono (by omega)) (zq1.mono (by omega)) nq1)
    exact k _ _ _ (by rw [mul_eq]) (r1) s1 hB1
def sp_negative (K : PySem.W.Frag) : Sp := spF K (α := Rat × Nat) (fun x => [(fr (x.1))]) (fun x => SzR x.2 x.1) (fun x => (fr ((-x.1))))
theorem has_negative (T : Tx K mg) : Has P w K mg base CX0 "negative" s_negative ["one"] 1 (sp_negative K) := by
  obtain ⟨f, fd, F, M⟩ := T.negative
  refine ⟨f, fd, F, M, F.binds (ps := ["one"]) (fun _ _ _ _ _ _ us hl => match us, hl with | [_], _ => rfl), F.ok sc_negative (fun vs H Q E h => ?_) (fun cdv A outer s H vs Q E hr h => ?_)⟩
  · obtain ⟨G, x, hB, r, hp, q⟩ := h; rw [r.len]; rfl
  · obtain ⟨G, ⟨x, a⟩, hB, r, hx, k⟩ := h
    replace hx : SzR a x := hx
    replace k : ∀ d v H', d = ((fr ((-x))) : D) → Rep K G.M H' d v → Same H H' → G.B H' → Q v H' := k
    obtain ⟨v0_0, _, rfl, r0_0, rt0⟩ := cons_of r
    replace r0_0 : Rep K G.M H ((fr (x))) v0_0 := r0_0
    obtain rfl := nil_of rt0
    refine ⟨_, (pss_one (ps_ret (pe_tup (pa_cons (pe_un un_neg (pe_ix (ix_tupK (K := K)) (pv 0) pe_int (fun _ _ => rfl))) (pa_cons (pe_ix (ix_tupK (K := K)) (pv 0) pe_int (fun _ _ => rfl)) pa_nil))))), ?_⟩
    with_reducible refine k_ret ?_
    with_reducible refine k_tup ?_
    refine k_arg (v_un (v_ixI (k := 0) (val_var rfl) (r0_0) val_c rfl)) ?_
    refine k_arg (v_ixI (k := 1) (val_var rfl) (r0_0) val_c rfl) ?_
    with_reducible refine k_nil ?_
    refine k_tup_end hB (rcons (rint _) (rcons (rint _) (rnil (K := K)))) (fun v1 H1 r1 s1 hB1 => ?_)
    exact k _ _ _ rfl (r1) s1 hB1
end
end Px

namespace Px
open PySem PySem.Spec PyProof.Rows L2
section
variable {P : Program} {w : World} {K : PySem.W.Frag} {mg : Str → Option Value} {base : Heap}
def sp__law_sum (K : PySem.W.Frag) : Sp := spF K (α := Rat × Rat × Nat × Nat) (fun x => [(fr (x.1)), (fr (x.2.1))]) (fun x => SzR x.2.2.1 x.1 ∧ SzR x.2.2.2 x.2.1 ∧ x.2.2.1 + x.2.2.2 ≤ 8000) (fun x => (fr ((x.1 + x.2.1))))
theorem has__law_sum (T : Tx K mg) : Has P w K mg base CX0 "_law_sum" s__law_sum ["_law_x", "_law_y"] 3 (sp__law_sum K) := by
  obtain ⟨f, fd, F, M⟩ := T._law_sum
  obtain ⟨f__law_low, fd__law_low, F__law_low, M__law_low, B__law_low, G__law_low⟩ := has__law_low (P := P) (w := w) (base := base) T
  refine ⟨f, fd, F, M, F.binds (ps := ["_law_x", "_law_y"]) (fun _ _ _ _ _ _ us hl => match us, hl with | [_, _], _ => rfl), F.ok sc__law_sum (fun vs H Q E h => ?_) (fun cdv A outer s H vs Q E hr h => ?_)⟩
  · obtain ⟨G, x, hB, r, hp, q⟩ := h; rw [r.len]; rfl
  · obtain ⟨G, ⟨x, y, a, b⟩, hB, r, ⟨hx, hy, hn⟩, k⟩ := h
    replace hx : SzR a x := hx
    replace hy : SzR b y := hy
    replace hn : a + b ≤ 8000 := hn
    replace k : ∀ d v H', d = ((fr ((x + y))) : D) → Rep K G.M H' d v → Same H H' → G.B H' → Q v H' := k
    obtain ⟨v0_0, _, rfl, r0_0, rt0⟩ := cons_of r
    replace r0_0 : Rep K G.M H ((fr (x))) v0_0 := r0_0
    obtain ⟨v0_1, _, rfl, r0_1, rt1⟩ := cons_of rt0
    replace r0_1 : Rep K G.M H ((fr (y))) v0_1 := r0_1
    obtain rfl := nil_of rt1
    refine ⟨_, (pss_one (ps_ret (pe_call G__law_low (hr.mono (by decide)) (by rfl) M__law_low F__law_low.kp B__law_low .nil pass0 (pa_cons (pe_op op_add (pe_op op_mulW (pe_ix (ix_tupK (K := K)) (pv 0) pe_int (fun _ _ => rfl)) (pe_ix (ix_tupK (K := K)) (pv 1) pe_int (fun _ _ => rfl))) (pe_op op_mulW (pe_ix (ix_tupK (K := K)) (pv 1) pe_int (fun _ _ => rfl)) (pe_ix (ix_tupK (K := K)) (pv 0) pe_int (fun _ _ => rfl)))) (pa_cons (pe_op op_mulW (pe_ix (ix_tupK (K := K)) (pv 0) pe_int (fun _ _ => rfl)) (pe_ix (ix_tupK (K := K)) (pv 1) pe_int (fun _ _ => rfl))) pa_nil))))), ?_⟩
    with_reducible refine k_ret ?_
    with_reducible refine k_call ?_
    refine k_arg (v_op0 (v_op (v_ixI (k := 0) (val_var rfl) (r0_0) val_c rfl) (v_ixI (k := 1) (val_var rfl) (r0_1) val_c rfl) (cmul (hx).1 (hy).2 (by omega))) (v_op (v_ixI (k := 0) (val_var rfl) (r0_1) val_c rfl) (v_ixI (k := 1) (val_var rfl) (r0_0) val_c rfl) (cmul (hy).1 (hx).2 (by omega)))) ?_
    refine k_arg (v_op (v_ixI (k := 1) (val_var rfl) (r0_0) val_c rfl) (v_ixI (k := 1) (val_var rfl) (r0_1) val_c rfl) (cmul (hx).2 (hy).2 (by omega))) ?_
    with_reducible refine k_nil ?_
    have zp1 : Sz (max (a + b) (b + a) + 1) ((((x).num * ((y).den : Int)) + ((y).num * ((x).den : Int)))) := (Sz.add (Sz.mul (hx).1 (hy).2) (Sz.mul (hy).1 (hx).2))
    have zq1 : Sz (a + b) ((((x).den : Int) * ((y).den : Int))) := (Sz.mul (hx).2 (hy).2)
    have nq1 : ((((x).den : Int) * ((y).den : Int))) ≠ 0 := (Int.mul_ne_zero (den_ne (x)) (den_ne (y)))
    refine k_spF ((((x).num * ((y).den : Int)) + ((y).num * ((x).den : Int))), (((x).den : Int) * ((y).den : Int)), (a + b)) hB (rcons (rint _) (rcons (rint _) (rnil (K := K)))) ⟨nq1, zq1, by first | omega | (dsimp only; omega)⟩ (fun v1 H1 r1 s1 hB1 => ?_)
    replace r1 : Rep K G.M H1 ((fr (Rat.divInt ((((x).num * ((y).den : Int)) + ((y).num * ((x).den : Int)))) ((((x).den : Int) * ((y).den : Int)))))) v1 := r1
    have z1 : SzR (max (max (a + b) (b + a) + 1) (a + b) + 1) (Rat.divInt ((((x).num * ((y).den : Int)) + ((y).num * ((x).den : Int)))) ((((x).den : Int) * ((y).den : Int)))) := (divInt_sz (zp1.mono (by omega)) (zq1.mono (by omega)) nq1)
    exact k _ _ _ (by rw [add_eq]) (r1) s1 hB1
def sp__law_product (K : PySem.W.Frag) : Sp := spF K (α := Rat × Rat × Nat × Nat) (fun x => [(fr (x.1)), (fr (x.2.1))]) (fun x => SzR x.2.2.1 x.1 ∧ SzR x.2.2.2 x.2.1 ∧ x.2.2.1 + x.2.2.2 ≤ 8000) (fun x => (fr ((x.1 * x.2.1))))
theorem has__law_product (T : Tx K mg) : Has P w K mg base CX0 "_law_product" s__law_product ["_law_x", "_law_y"] 3 (sp__law_product K) := by
  obtain ⟨f, fd, F, M⟩ := T._law_product
  obtain ⟨f__law_low, fd__law_low, F__law_low, M__law_low, B__law_low, G__law_low⟩ := has__law_low (P := P) (w := w) (base := base) T
  refine ⟨f, fd, F, M, F.binds (ps := ["_law_x", "_law_y"]) (fun _ _ _ _ _ _ us hl => match us, hl with | [_, _], _ => rfl), F.ok sc__law_product (fun vs H Q E h => ?_) (fun cdv A outer s H vs Q E hr h => ?_)⟩
  · obtain ⟨G, x, hB, r, hp, q⟩ := h; rw [r.len]; rfl
  · obtain ⟨G, ⟨x, y, a, b⟩, hB, r, ⟨hx, hy, hn⟩, k⟩ := h
    replace hx : SzR a x := hx
    replace hy : SzR b y := hy
    replace hn : a + b ≤ 8000 := hn
    replace k : ∀ d v H', d = ((fr ((x * y))) : D) → Rep K G.M H' d v → Same H H' → G.B H' → Q v H' := k
    obtain ⟨v0_0, _, rfl, r0_0, rt0⟩ := cons_of r
    replace r0_0 : Rep K G.M H ((fr (x))) v0_0 := r0_0
    obtain ⟨v0_1, _, rfl, r0_1, rt1⟩ := cons_of rt0
    replace r0_1 : Rep K G.M H ((fr (y))) v0_1 := r0_1
    obtain rfl := nil_of rt1
    refine ⟨_, (pss_one (ps_ret (pe_call G__law_low (hr.mono (by decide)) (by rfl) M__law_low F__law_low.kp B__law_low .nil pass0 (pa_cons (pe_op op_mulW (pe_ix (ix_tupK (K := K)) (pv 0) pe_int (fun _ _ => rfl)) (pe_ix (ix_tupK (K := K)) (pv 1) pe_int (fun _ _ => rfl))) (pa_cons (pe_op op_mulW (pe_ix (ix_tupK (K := K)) (pv 0) pe_int (fun _ _ => rfl)) (pe_ix (ix_tupK (K := K)) (pv 1) pe_int (fun _ _ => rfl))) pa_nil))))), ?_⟩
    with_reducible refine k_ret ?_
    with_reducible refine k_call ?_
    refine k_arg (v_op (v_ixI (k := 0) (val_var rfl) (r0_0) val_c rfl) (v_ixI (k := 0) (val_var rfl) (r0_1) val_c rfl) (cmul (hx).1 (hy).1 (by omega))) ?_
    refine k_arg (v_op (v_ixI (k := 1) (val_var rfl) (r0_0) val_c rfl) (v_ixI (k := 1) (val_var rfl) (r0_1) val_c rfl) (cmul (hx).2 (hy).2 (by omega))) ?_
    with_reducible refine k_nil ?_
    have zp1 : Sz (a + b) (((x).num * (y).num)) := (Sz.mul (hx).1 (hy).1)
    have zq1 : Sz (a + b) ((((x).den : Int) * ((y).den : Int))) := (Sz.mul (hx).2 (hy).2)
    have nq1 : ((((x).den : Int) * ((y).den : Int))) ≠ 0 := (Int.mul_ne_zero (den_ne (x)) (den_ne (y)))
    refine k_spF (((x).num * (y).num), (((x).den : Int) * ((y).den : Int)), (a + b)) hB (rcons (rint _) (rcons (rint _) (rnil (K := K)))) ⟨nq1, zq1, by first | omega | (dsimp only; omega)⟩ (fun v1 H1 r1 s1 hB1 => ?_)
    replace r1 : Rep K G.M H1 ((fr (Rat.divInt (((x).num * (y).num)) ((((x).den : Int) * ((y).den : Int)))))) v1 := r1
    have z1 : SzR (a + b) (Rat.divInt (((x).num * (y).num)) ((((x).den : Int) * ((y).den : Int)))) := (divInt_sz (zp1.mono (by omega)) (zq1.mono (by omega)) nq1)
    exact k _ _ _ (by rw [mul_eq]) (r1) s1 hB1
def sp__law_long (K : PySem.W.Frag) : Sp := spF K (α := Rat × Rat × Rat × Nat × Nat) (fun x => [.tup [(fr (x.1)), (fr (x.2.1))], (fr (x.2.2.1))]) (fun x => SzR x.2.2.2.1 x.1 ∧ SzR x.2.2.2.1 x.2.1 ∧ SzR x.2.2.2.2 x.2.2.1 ∧ x.2.2.2.1 + x.2.2.2.2 ≤ 8000) (fun x => .tup [(fr ((x.1 * x.2.2.1))), (fr ((x.2.1 * x.2.2.1)))])
theorem has__law_long (T : Tx K mg) : Has P w K mg base CX0 "_law_long" s__law_long ["_law_v", "_law_w"] 4 (sp__law_long K) := by
  obtain ⟨f, fd, F, M⟩ := T._law_long
  obtain ⟨f__law_product, fd__law_product, F__law_product, M__law_product, B__law_product, G__law_product⟩ := has__law_product (P := P) (w := w) (base := base) T
  refine ⟨f, fd, F, M, F.binds (ps := ["_law_v", "_law_w"]) (fun _ _ _ _ _ _ us hl => match us, hl with | [_, _], _ => rfl), F.ok sc__law_long (fun vs H Q E h => ?_) (fun cdv A outer s H vs Q E hr h => ?_)⟩
  · obtain ⟨G, x, hB, r, hp, q⟩ := h; rw [r.len]; rfl
  · obtain ⟨G, ⟨x, y, z, a, b⟩, hB, r, ⟨hx, hy, hz, hn⟩, k⟩ := h
    replace hx : SzR a x := hx
    replace hy : SzR a y := hy
    replace hz : SzR b z := hz
    replace hn : a + b ≤ 8000 := hn
    replace k : ∀ d v H', d = (.tup [(fr ((x * z))), (fr ((y * z)))] : D) → Rep K G.M H' d v → Same H H' → G.B H' → Q v H' := k
    obtain ⟨v0_0, _, rfl, r0_0, rt0⟩ := cons_of r
    replace r0_0 : Rep K G.M H (.tup [(fr (x)), (fr (y))]) v0_0 := r0_0
    obtain ⟨v0_1, _, rfl, r0_1, rt1⟩ := cons_of rt0
    replace r0_1 : Rep K G.M H ((fr (z))) v0_1 := r0_1
    obtain rfl := nil_of rt1
    refine ⟨_, (pss_one (ps_ret (pe_tup (pa_cons (pe_call G__law_product (hr.mono (by decide)) (by rfl) M__law_product F__law_product.kp B__law_product .nil pass0 (pa_cons (pe_ix (ix_tupK (K := K)) (pv 0) pe_int (fun _ _ => rfl)) (pa_cons (pv 1) pa_nil))) (pa_cons (pe_call G__law_product (hr.mono (by decide)) (by rfl) M__law_product F__law_product.kp B__law_product .nil pass0 (pa_cons (pe_ix (ix_tupK (K := K)) (pv 0) pe_int (fun _ _ => rfl)) (pa_cons (pv 1) pa_nil))) pa_nil))))), ?_⟩
    with_reducible refine k_ret ?_
    with_reducible refine k_tup ?_
    with_reducible refine k_argX ?_
    with_reducible refine k_call ?_
    with_reducible refine k_argX ?_
    with_reducible refine k_opX ?_
    refine k_val (val_var rfl) ?_
    refine k_val val_c ?_
    refine f_ixT (k := 0) (r0_0) rfl (fun w1 rw1 => ?_)
    refine k_arg (val_var rfl) ?_
    with_reducible refine k_nil ?_
    refine k_spF (x, z, a, b) hB (rcons (rw1) (rcons (r0_1) (rnil (K := K)))) ⟨hx, hz, (by first | omega | (dsimp only; omega))⟩ (fun v1 H1 r1 s1 hB1 => ?_)
    replace r1 : Rep K G.M H1 ((fr ((x * z)))) v1 := r1
    have z1 : SzR ((a + b) + 0) ((x * z)) := (szr_mul hx hz (by omega))
    with_reducible refine k_argX ?_
    with_reducible refine k_call ?_
    with_reducible refine k_argX ?_
    with_reducible refine k_opX ?_
    refine k_val (val_var rfl) ?_
    refine k_val val_c ?_
    refine f_ixT (k := 1) ((r0_0.up hB (Ex.of s1))) rfl (fun w2 rw2 => ?_)
    refine k_arg (val_var rfl) ?_
    with_reducible refine k_nil ?_
    refine k_spF (y, z, a, b) hB1 (rcons (rw2) (rcons ((r0_1.up hB (Ex.of s1))) (rnil (K := K)))) ⟨hy, hz, (by first | omega | (dsimp only; omega))⟩ (fun v2 H2 r2 s2 hB2 => ?_)
    replace r2 : Rep K G.M H2 ((fr ((y * z)))) v2 := r2
    have z2 : SzR ((a + b) + 0) ((y * z)) := (szr_mul hy hz (by omega))
    with_reducible refine k_nil ?_
    refine k_tup_end hB2 (rcons ((r1.up hB1 (Ex.of s2))) (rcons (r2) (rnil (K := K)))) (fun v3 H3 r3 s3 hB3 => ?_)
    exact k _ _ _ rfl (r3) ((s1.trans s2).trans s3) hB3
def sp_is_pair (K : PySem.W.Frag) : Sp := spF K (α := Rat) (fun x => [(fr (x))]) (fun x => True) (fun x => .bl (true))
theorem has_is_pair (T : Tx K mg) : Has P w K mg base CX0 "is_pair" s_is_pair ["value"] 1 (sp_is_pair K) := by
  obtain ⟨f, fd, F, M⟩ := T.is_pair
  refine ⟨f, fd, F, M, F.binds (ps := ["value"]) (fun _ _ _ _ _ _ us hl => match us, hl with | [_], _ => rfl), F.ok sc_is_pair (fun vs H Q E h => ?_) (fun cdv A outer s H vs Q E hr h => ?_)⟩
  · obtain ⟨G, x, hB, r, hp, q⟩ := h; rw [r.len]; rfl
  · obtain ⟨G, x, hB, r, _, k⟩ := h
    replace k : ∀ d v H', d = (.bl (true) : D) → Rep K G.M H' d v → Same H H' → G.B H' → Q v H' := k
    obtain ⟨v0_0, _, rfl, r0_0, rt0⟩ := cons_of r
    replace r0_0 : Rep K G.M H ((fr (x))) v0_0 := r0_0
    obtain rfl := nil_of rt0
    refine ⟨_, (pss_one (ps_ret (pe_and (pe_callB call_isi (by rfl) T.isinstance (by decide +kernel) (pa_cons (pv 0) (pa_cons (pe_bltn (v := .ty "tuple") (u := .type "tuple") (by rfl) T.tuple (by decide +kernel) rfl) pa_nil))) (pe_one (pe_cmpR op_eq (pe_callB call_len (by rfl) T.len (by decide +kernel) (pa_cons (pv 0) pa_nil)) pe_int (nomark _)))))), ?_⟩
    with_reducible refine k_ret ?_
    refine k_val (v_andB (v_isi (T := "tuple") (ty := "tuple") (b := true) (val_var rfl) (r0_0) (by decide +kernel)) (v_eqIt (v_lenR 2 (val_var rfl) (r0_0)) val_c)) ?_
    exact k _ _ _ rfl (rbl _) (Same.refl _) hB
def sp_is_number (K : PySem.W.Frag) : Sp := spF K (α := Int) (fun x => [.int (x)]) (fun x => True) (fun x => .bl (true))
theorem has_is_number (T : Tx K mg) : Has P w K mg base CX0 "is_number" s_is_number ["value"] 1 (sp_is_number K) := by
  obtain ⟨f, fd, F, M⟩ := T.is_number
  refine ⟨f, fd, F, M, F.binds (ps := ["value"]) (fun _ _ _ _ _ _ us hl => match us, hl with | [_], _ => rfl), F.ok sc_is_number (fun vs H Q E h => ?_) (fun cdv A outer s H vs Q E hr h => ?_)⟩
  · obtain ⟨G, x, hB, r, hp, q⟩ := h; rw [r.len]; rfl
  · obtain ⟨G, i, hB, r, _, k⟩ := h
    replace k : ∀ d v H', d = (.bl (true) : D) → Rep K G.M H' d v → Same H H' → G.B H' → Q v H' := k
    obtain ⟨v0_0, _, rfl, r0_0, rt0⟩ := cons_of r
    replace r0_0 : Rep K G.M H (.int (i)) v0_0 := r0_0
    obtain rfl := int_of r0_0
    obtain rfl := nil_of rt0
    refine ⟨_, (pss_one (ps_ret (pe_and (pe_callB call_isi (by rfl) T.isinstance (by decide +kernel) (pa_cons (pv 0) (pa_cons (pe_bltn (v := .ty "int") (u := .type "int") (by rfl) T.int (by decide +kernel) rfl) pa_nil))) (pe_one (pe_not (pe_callB call_isi (by rfl) T.isinstance (by decide +kernel) (pa_cons (pv 0) (pa_cons (pe_bltn (v := .ty "bool") (u := .type "bool") (by rfl) T.bool (by decide +kernel) rfl) pa_nil)))))))), ?_⟩
    with_reducible refine k_ret ?_
    refine k_val (v_andB (v_isi (M := noM) (T := "int") (ty := "int") (b := true) (val_var rfl) (rint _) (by decide +kernel)) (v_notB (v_isi (M := noM) (T := "bool") (ty := "int") (b := false) (val_var rfl) (rint _) (by decide +kernel)))) ?_
    exact k _ _ _ rfl (rbl _) (Same.refl _) hB
def sp_is_fraction (K : PySem.W.Frag) : Sp := spF K (α := Rat) (fun x => [(fr (x))]) (fun x => True) (fun x => .bl (true))
theorem has_is_fraction (T : Tx K mg) : Has P w K mg base CX0 "is_fraction" s_is_fraction ["value"] 2 (sp_is_fraction K) := by
  obtain ⟨f, fd, F, M⟩ := T.is_fraction
  obtain ⟨f_is_pair, fd_is_pair, F_is_pair, M_is_pair, B_is_pair, G_is_pair⟩ := has_is_pair (P := P) (w := w) (base := base) T
  obtain ⟨f_is_number, fd_is_number, F_is_number, M_is_number, B_is_number, G_is_number⟩ := has_is_number (P := P) (w := w) (base := base) T
  refine ⟨f, fd, F, M, F.binds (ps := ["value"]) (fun _ _ _ _ _ _ us hl => match us, hl with | [_], _ => rfl), F.ok sc_is_fraction (fun vs H Q E h => ?_) (fun cdv A outer s H vs Q E hr h => ?_)⟩
  · obtain ⟨G, x, hB, r, hp, q⟩ := h; rw [r.len]; rfl
  · obtain ⟨G, x, hB, r, _, k⟩ := h
    replace k : ∀ d v H', d = (.bl (true) : D) → Rep K G.M H' d v → Same H H' → G.B H' → Q v H' := k
    obtain ⟨v0_0, _, rfl, r0_0, rt0⟩ := cons_of r
    replace r0_0 : Rep K G.M H ((fr (x))) v0_0 := r0_0
    obtain rfl := nil_of rt0
    refine ⟨_, (pss_cons (ps_if (PW.pt (pw_or (pt_not (pt_val (pe_call G_is_pair (hr.mono (by decide)) (by rfl) M_is_pair F_is_pair.kp B_is_pair .nil pass0 (pa_cons (pv 0) pa_nil)))) (pw_or (pt_not (pt_val (pe_call G_is_number (hr.mono (by decide)) (by rfl) M_is_number F_is_number.kp B_is_number .nil pass0 (pa_cons (pe_ix (ix_tupK (K := K)) (pv 0) pe_int (fun _ _ => rfl)) pa_nil)))) (pw_or1 (pt_not (pt_val (pe_call G_is_number (hr.mono (by decide)) (by rfl) M_is_number F_is_number.kp B_is_number .nil pass0 (pa_cons (pe_ix (ix_tupK (K := K)) (pv 0) pe_int (fun _ _ => rfl)) pa_nil)))))))) (pss_one ps_never) pss_nil) (pss_one (ps_ret (pe_and (pe_cmpR op_gt (pe_ix (ix_tupK (K := K)) (pv 0) pe_int (fun _ _ => rfl)) pe_int (nomark _)) (pe_one (pe_cmpR op_eq (pe_callBfun cr_gcd (by rfl) T.gcd (pa_cons (pe_ix (ix_tupK (K := K)) (pv 0) pe_int (fun _ _ => rfl)) (pa_cons (pe_ix (ix_tupK (K := K)) (pv 0) pe_int (fun _ _ => rfl)) pa_nil))) pe_int (nomark _))))))), ?_⟩
    with_reducible refine k_seq ?_
    with_reducible refine k_ifX ?_
    with_reducible refine k_or ?_
    with_reducible refine k_not ?_
    with_reducible refine k_B ?_
    with_reducible refine k_call ?_
    refine k_arg (val_var rfl) ?_
    with_reducible refine k_nil ?_
    refine k_spF x hB (rcons (r0_0) (rnil (K := K))) trivial (fun v1 H1 r1 s1 hB1 => ?_)
    obtain rfl := bl_of (b := true) r1
    refine ⟨_, rfl, ?_⟩
    refine iteF ?_
    with_reducible refine k_or ?_
    with_reducible refine k_not ?_
    with_reducible refine k_B ?_
    with_reducible refine k_call ?_
    refine k_arg (v_ixI (k := 0) (val_var rfl) ((r0_0.up hB (Ex.of s1))) val_c rfl) ?_
    with_reducible refine k_nil ?_
    refine k_spF (x).num hB1 (rcons (rint _) (rnil (K := K))) trivial (fun v2 H2 r2 s2 hB2 => ?_)
    obtain rfl := bl_of (b := true) r2
    refine ⟨_, rfl, ?_⟩
    refine iteF ?_
    with_reducible refine k_not ?_
    with_reducible refine k_B ?_
    with_reducible refine k_call ?_
    have q1 := ((r0_0.up hB (Ex.of s1)).up hB1 (Ex.of s2))
    refine k_arg (v_ixI (k := 1) (val_var rfl) (q1) val_c rfl) ?_
    with_reducible refine k_nil ?_
    refine k_spF ((x).den : Int) hB2 (rcons (rint _) (rnil (K := K))) trivial (fun v3 H3 r3 s3 hB3 => ?_)
    obtain rfl := bl_of (b := true) r3
    refine ⟨_, rfl, ?_⟩
    refine iteF ?_
    with_reducible refine k_next ?_
    with_reducible refine k_ret ?_
    refine k_val (v_andB (v_opB (v_ixI (k := 1) (val_var rfl) ((q1.up hB2 (Ex.of s3))) val_c rfl) val_c) (v_eqI (v_gcd (v_ixI (k := 0) (val_var rfl) ((q1.up hB2 (Ex.of s3))) val_c rfl) (v_ixI (k := 1) (val_var rfl) ((q1.up hB2 (Ex.of s3))) val_c rfl)) val_c)) ?_
    exact k _ _ _ (congrArg D.bl (is_fr x)) (rbl _) ((s1.trans s2).trans s3) hB3
def sp__law_fraction (K : PySem.W.Frag) : Sp := spB K (α := Unit) (fun x => []) (fun x => True) (fun x d => ∃ (y0 : Rat), d = ((fr (y0)) : D) ∧ SzR 24 y0)
theorem has__law_fraction (T : Tx K mg) : Has P w K mg base CX0 "_law_fraction" s__law_fraction ["_law_bag_here"] 3 (sp__law_fraction K) := by
  obtain ⟨f, fd, F, M⟩ := T._law_fraction
  obtain ⟨f__law_low, fd__law_low, F__law_low, M__law_low, B__law_low, G__law_low⟩ := has__law_low (P := P) (w := w) (base := base) T
  obtain ⟨f__law_draw, fd__law_draw, F__law_draw, M__law_draw, B__law_draw, G__law_draw⟩ := has__law_draw (P := P) (w := w) (base := base) T
  obtain ⟨f__law_pick, fd__law_pick, F__law_pick, M__law_pick, B__law_pick, G__law_pick⟩ := has__law_pick (P := P) (w := w) (base := base) T
  refine ⟨f, fd, F, M, F.binds (ps := ["_law_bag_here"]) (fun _ _ _ _ _ _ us hl => match us, hl with | [_], _ => rfl), F.ok sc__law_fraction (fun vs H Q E h => ?_) (fun cdv A outer s H vs Q E hr h => ?_)⟩
  · obtain ⟨b, c, ns, G, x, vs', rfl, hg, hB, r, hp, q⟩ := h; rw [List.length_cons, r.len]; rfl
  · obtain ⟨b, c, ns, G, _, vs', rfl, hg, hB, r, _, k⟩ := h
    replace k : ∀ d v H', (∃ (y0 : Rat), d = ((fr (y0)) : D) ∧ SzR 24 y0) → Rep K G.M H' d v → Ex (onB b) H H' → G.B H' → Q v H' := k
    obtain rfl := nil_of r
    refine ⟨_, (pss_cons (ps_set (i := 1) sc__law_fraction.nd rfl (.inl rfl) (pe_call G__law_pick (hr.mono (by decide)) (by rfl) M__law_pick F__law_pick.kp B__law_pick .nil pass0 (pa_cons (pv 0) (pa_cons (pe_lst (pa_cons pe_int (pa_cons pe_int (pa_cons pe_int (pa_cons pe_int (pa_cons pe_int (pa_cons pe_int (pa_cons pe_int pa_nil)))))))) pa_nil)))) (pss_cons (ps_set (i := 2) sc__law_fraction.nd rfl (.inl rfl) (pe_op op_sub (pe_call G__law_draw (hr.mono (by decide)) (by rfl) M__law_draw F__law_draw.kp B__law_draw .nil pass0 (pa_cons (pv 0) (pa_cons (pe_op op_add (pe_op op_mulW pe_int (pv 1)) pe_int) pa_nil))) (pv 1))) (pss_one (ps_ret (pe_call G__law_low (hr.mono (by decide)) (by rfl) M__law_low F__law_low.kp B__law_low .nil pass0 (pa_cons (pv 2) (pa_cons (pe_op op_add pe_int (pe_call G__law_draw (hr.mono (by decide)) (by rfl) M__law_draw F__law_draw.kp B__law_draw .nil pass0 (pa_cons (pv 0) (pa_cons (pe_call G__law_pick (hr.mono (by decide)) (by rfl) M__law_pick F__law_pick.kp B__law_pick .nil pass0 (pa_cons (pv 0) (pa_cons (pe_lst (pa_cons pe_int (pa_cons pe_int (pa_cons pe_int (pa_cons pe_int (pa_cons pe_int (pa_cons (pv 1) pa_nil))))))) pa_nil))) pa_nil)))) pa_nil))))))), ?_⟩
    with_reducible refine k_seq ?_
    with_reducible refine k_set ?_
    with_reducible refine k_call ?_
    refine k_arg (val_var rfl) ?_
    with_reducible refine k_argX ?_
    with_reducible refine k_lst ?_
    refine k_arg val_c ?_
    refine k_arg val_c ?_
    refine k_arg val_c ?_
    refine k_arg val_c ?_
    refine k_arg val_c ?_
    refine k_arg val_c ?_
    refine k_arg val_c ?_
    with_reducible refine k_nil ?_
    refine k_lst_end hB (rcons (rint _) (rcons (rint _) (rcons (rint _) (rcons (rint _) (rcons (rint _) (rcons (rint _) (rcons (rint _) (rnil (K := K))))))))) (fun v1 H1 r1 s1 hB1 => ?_)
    with_reducible refine k_nil ?_
    refine k_spB [.int ((1 : Int)), .int ((2 : Int)), .int ((3 : Int)), .int ((5 : Int)), .int ((9 : Int)), .int ((30 : Int)), .int ((999999 : Int))] hg hB1 (rcons (r1) (rnil (K := K))) ⟨Nat.succ_pos _, Nat.le_of_ble_eq_true rfl⟩ (fun d2 v2 H2 m2 r2 e2 hB2 => ?_)
    obtain ⟨i2, rfl, z2⟩ : ∃ (i2 : Int), d2 = (.int (i2) : D) ∧ (1 ≤ i2 ∧ i2 ≤ 999999) := by
      simp only [List.mem_cons, List.not_mem_nil, or_false] at m2
      rcases m2 with rfl | rfl | rfl | rfl | rfl | rfl | rfl
      · exact ⟨(1 : Int), rfl, (by omega)⟩
      · exact ⟨(2 : Int), rfl, (by omega)⟩
      · exact ⟨(3 : Int), rfl, (by omega)⟩
      · exact ⟨(5 : Int), rfl, (by omega)⟩
      · exact ⟨(9 : Int), rfl, (by omega)⟩
      · exact ⟨(30 : Int), rfl, (by omega)⟩
      · exact ⟨(999999 : Int), rfl, (by omega)⟩
    obtain rfl := int_of r2
    with_reducible refine k_seq ?_
    with_reducible refine k_set ?_
    with_reducible refine k_opX ?_
    with_reducible refine k_call ?_
    refine k_arg (val_var rfl) ?_
    refine k_arg (v_op0 (v_op val_c (val_var rfl) (cmul (sz_lit 2 (2 : Int)) (sz_lt 20 1000000 (m := i2 + 1) (by omega) (by omega) (by omega)) (by omega))) val_c) ?_
    with_reducible refine k_nil ?_
    refine k_draw hg hB2 (by omega) (by omega) (fun r3 H3 l3 u3 e3 hB3 => ?_)
    refine k_val (val_var rfl) ?_
    refine f_op0 ?_
    with_reducible refine k_ret ?_
    with_reducible refine k_call ?_
    refine k_arg (val_var rfl) ?_
    with_reducible refine k_argX ?_
    with_reducible refine k_opX ?_
    refine k_val val_c ?_
    with_reducible refine k_call ?_
    refine k_arg (val_var rfl) ?_
    with_reducible refine k_argX ?_
    with_reducible refine k_call ?_
    refine k_arg (val_var rfl) ?_
    with_reducible refine k_argX ?_
    with_reducible refine k_lst ?_
    refine k_arg val_c ?_
    refine k_arg val_c ?_
    refine k_arg val_c ?_
    refine k_arg val_c ?_
    refine k_arg val_c ?_
    refine k_arg (val_var rfl) ?_
    with_reducible refine k_nil ?_
    refine k_lst_end hB3 (rcons (rint _) (rcons (rint _) (rcons (rint _) (rcons (rint _) (rcons (rint _) (rcons (rint _) (rnil (K := K)))))))) (fun v4 H4 r4 s4 hB4 => ?_)
    with_reducible refine k_nil ?_
    refine k_spB [.int ((1 : Int)), .int ((1 : Int)), .int ((1 : Int)), .int ((2 : Int)), .int ((3 : Int)), .int (i2)] hg hB4 (rcons (r4) (rnil (K := K))) ⟨Nat.succ_pos _, Nat.le_of_ble_eq_true rfl⟩ (fun d5 v5 H5 m5 r5 e5 hB5 => ?_)
    obtain ⟨i5, rfl, z5⟩ : ∃ (i5 : Int), d5 = (.int (i5) : D) ∧ (1 ≤ i5 ∧ i5 ≤ 999999) := by
      simp only [List.mem_cons, List.not_mem_nil, or_false] at m5
      rcases m5 with rfl | rfl | rfl | rfl | rfl | rfl
      · exact ⟨(1 : Int), rfl, (by omega)⟩
      · exact ⟨(1 : Int), rfl, (by omega)⟩
      · exact ⟨(1 : Int), rfl, (by omega)⟩
      · exact ⟨(2 : Int), rfl, (by omega)⟩
      · exact ⟨(3 : Int), rfl, (by omega)⟩
      · exact ⟨i2, rfl, (by omega)⟩
    obtain rfl := int_of r5
    with_reducible refine k_nil ?_
    refine k_draw hg hB5 (by omega) (by omega) (fun r6 H6 l6 u6 e6 hB6 => ?_)
    refine f_op0 ?_
    with_reducible refine k_nil ?_
    have zp1 : Sz 22 ((r3 - i2)) := (Sz.sub (sz_lt 21 1999999 l3 u3 (by omega)) (sz_lt 20 1000000 (m := i2 + 1) (by omega) (by omega) (by omega)))
    have zq1 : Sz 21 (((1 : Int) + r6)) := (Sz.add (sz_lit 1 (1 : Int)) (sz_lt 20 999999 l6 u6 (by omega)))
    have nq1 : (((1 : Int) + r6)) ≠ 0 := (by omega)
    refine k_spF ((r3 - i2), ((1 : Int) + r6), 21) hB6 (rcons (rint _) (rcons (rint _) (rnil (K := K)))) ⟨nq1, zq1, by first | omega | (dsimp only; omega)⟩ (fun v7 H7 r7 s7 hB7 => ?_)
    replace r7 : Rep K G.M H7 ((fr (Rat.divInt ((r3 - i2)) (((1 : Int) + r6))))) v7 := r7
    have z7 : SzR 23 (Rat.divInt ((r3 - i2)) (((1 : Int) + r6))) := (divInt_sz (zp1.mono (by omega)) (zq1.mono (by omega)) nq1)
    exact k _ _ _ ⟨Rat.divInt ((r3 - i2)) (((1 : Int) + r6)), rfl, (z7.mono (by omega))⟩ (r7) ((Ex.of s1).trans (e2.trans (e3.trans ((Ex.of s4).trans (e5.trans (e6.trans (Ex.of s7))))))) hB7
def sp__law_small (K : PySem.W.Frag) : Sp := spB K (α := Unit) (fun x => []) (fun x => True) (fun x d => ∃ (y0 : Rat), d = ((fr (y0)) : D) ∧ SzR 24 y0)
theorem has__law_small (T : Tx K mg) : Has P w K mg base CX0 "_law_small" s__law_small ["_law_bag_here"] 3 (sp__law_small K) := by
  obtain ⟨f, fd, F, M⟩ := T._law_small
  obtain ⟨f__law_low, fd__law_low, F__law_low, M__law_low, B__law_low, G__law_low⟩ := has__law_low (P := P) (w := w) (base := base) T
  obtain ⟨f__law_draw, fd__law_draw, F__law_draw, M__law_draw, B__law_draw, G__law_draw⟩ := has__law_draw (P := P) (w := w) (base := base) T
  obtain ⟨f__law_pick, fd__law_pick, F__law_pick, M__law_pick, B__law_pick, G__law_pick⟩ := has__law_pick (P := P) (w := w) (base := base) T
  refine ⟨f, fd, F, M, F.binds (ps := ["_law_bag_here"]) (fun _ _ _ _ _ _ us hl => match us, hl with | [_], _ => rfl), F.ok sc__law_small (fun vs H Q E h => ?_) (fun cdv A outer s H vs Q E hr h => ?_)⟩
  · obtain ⟨b, c, ns, G, x, vs', rfl, hg, hB, r, hp, q⟩ := h; rw [List.length_cons, r.len]; rfl
  · obtain ⟨b, c, ns, G, _, vs', rfl, hg, hB, r, _, k⟩ := h
    replace k : ∀ d v H', (∃ (y0 : Rat), d = ((fr (y0)) : D) ∧ SzR 24 y0) → Rep K G.M H' d v → Ex (onB b) H H' → G.B H' → Q v H' := k
    obtain rfl := nil_of r
    refine ⟨_, (pss_one (ps_ret (pe_call G__law_low (hr.mono (by decide)) (by rfl) M__law_low F__law_low.kp B__law_low .nil pass0 (pa_cons (pe_op op_sub (pe_call G__law_draw (hr.mono (by decide)) (by rfl) M__law_draw F__law_draw.kp B__law_draw .nil pass0 (pa_cons (pv 0) (pa_cons pe_int pa_nil))) pe_int) (pa_cons (pe_call G__law_pick (hr.mono (by decide)) (by rfl) M__law_pick F__law_pick.kp B__law_pick .nil pass0 (pa_cons (pv 0) (pa_cons (pe_lst (pa_cons pe_int (pa_cons pe_int (pa_cons pe_int (pa_cons pe_int (pa_cons pe_int (pa_cons pe_int pa_nil))))))) pa_nil))) pa_nil))))), ?_⟩
    with_reducible refine k_ret ?_
    with_reducible refine k_call ?_
    with_reducible refine k_argX ?_
    with_reducible refine k_opX ?_
    with_reducible refine k_call ?_
    refine k_arg (val_var rfl) ?_
    refine k_arg val_c ?_
    with_reducible refine k_nil ?_
    refine k_draw hg hB (by omega) (by omega) (fun r1 H1 l1 u1 e1 hB1 => ?_)
    refine k_val val_c ?_
    refine f_op0 ?_
    with_reducible refine k_argX ?_
    with_reducible refine k_call ?_
    refine k_arg (val_var rfl) ?_
    with_reducible refine k_argX ?_
    with_reducible refine k_lst ?_
    refine k_arg val_c ?_
    refine k_arg val_c ?_
    refine k_arg val_c ?_
    refine k_arg val_c ?_
    refine k_arg val_c ?_
    refine k_arg val_c ?_
    with_reducible refine k_nil ?_
    refine k_lst_end hB1 (rcons (rint _) (rcons (rint _) (rcons (rint _) (rcons (rint _) (rcons (rint _) (rcons (rint _) (rnil (K := K)))))))) (fun v2 H2 r2 s2 hB2 => ?_)
    with_reducible refine k_nil ?_
    refine k_spB [.int ((1 : Int)), .int ((1 : Int)), .int ((1 : Int)), .int ((1 : Int)), .int ((2 : Int)), .int ((3 : Int))] hg hB2 (rcons (r2) (rnil (K := K))) ⟨Nat.succ_pos _, Nat.le_of_ble_eq_true rfl⟩ (fun d3 v3 H3 m3 r3 e3 hB3 => ?_)
    obtain ⟨i3, rfl, z3⟩ : ∃ (i3 : Int), d3 = (.int (i3) : D) ∧ (1 ≤ i3 ∧ i3 ≤ 3) := by
      simp only [List.mem_cons, List.not_mem_nil, or_false] at m3
      rcases m3 with rfl | rfl | rfl | rfl | rfl | rfl
      · exact ⟨(1 : Int), rfl, (by omega)⟩
      · exact ⟨(1 : Int), rfl, (by omega)⟩
      · exact ⟨(1 : Int), rfl, (by omega)⟩
      · exact ⟨(1 : Int), rfl, (by omega)⟩
      · exact ⟨(2 : Int), rfl, (by omega)⟩
      · exact ⟨(3 : Int), rfl, (by omega)⟩
    obtain rfl := int_of r3
    with_reducible refine k_nil ?_
    have zp1 : Sz 5 ((r1 - (4 : Int))) := (Sz.sub (sz_lt 4 9 l1 u1 (by omega)) (sz_lit 3 (4 : Int)))
    have zq1 : Sz 3 (i3) := (sz_lt 3 4 (m := i3 + 1) (by omega) (by omega) (by omega))
    have nq1 : (i3) ≠ 0 := (by omega)
    refine k_spF ((r1 - (4 : Int)), i3, 3) hB3 (rcons (rint _) (rcons (rint _) (rnil (K := K)))) ⟨nq1, zq1, by first | omega | (dsimp only; omega)⟩ (fun v4 H4 r4 s4 hB4 => ?_)
    replace r4 : Rep K G.M H4 ((fr (Rat.divInt ((r1 - (4 : Int))) (i3)))) v4 := r4
    have z4 : SzR 6 (Rat.divInt ((r1 - (4 : Int))) (i3)) := (divInt_sz (zp1.mono (by omega)) (zq1.mono (by omega)) nq1)
    exact k _ _ _ ⟨Rat.divInt ((r1 - (4 : Int))) (i3), rfl, (z4.mono (by omega))⟩ (r4) (e1.trans ((Ex.of s2).trans (e3.trans (Ex.of s4)))) hB4
def sp__law_near (K : PySem.W.Frag) : Sp := spB K (α := Unit) (fun x => []) (fun x => True) (fun x d => ∃ (y0 : Rat) (y1 : Rat), d = (.tup [(fr (y0)), (fr (y1))] : D) ∧ SzR 24 y0 ∧ SzR 24 y1)
theorem has__law_near (T : Tx K mg) : Has P w K mg base CX0 "_law_near" s__law_near ["_law_bag_here"] 4 (sp__law_near K) := by
  obtain ⟨f, fd, F, M⟩ := T._law_near
  obtain ⟨f__law_small, fd__law_small, F__law_small, M__law_small, B__law_small, G__law_small⟩ := has__law_small (P := P) (w := w) (base := base) T
  refine ⟨f, fd, F, M, F.binds (ps := ["_law_bag_here"]) (fun _ _ _ _ _ _ us hl => match us, hl with | [_], _ => rfl), F.ok sc__law_near (fun vs H Q E h => ?_) (fun cdv A outer s H vs Q E hr h => ?_)⟩
  · obtain ⟨b, c, ns, G, x, vs', rfl, hg, hB, r, hp, q⟩ := h; rw [List.length_cons, r.len]; rfl
  · obtain ⟨b, c, ns, G, _, vs', rfl, hg, hB, r, _, k⟩ := h
    replace k : ∀ d v H', (∃ (y0 : Rat) (y1 : Rat), d = (.tup [(fr (y0)), (fr (y1))] : D) ∧ SzR 24 y0 ∧ SzR 24 y1) → Rep K G.M H' d v → Ex (onB b) H H' → G.B H' → Q v H' := k
    obtain rfl := nil_of r
    refine ⟨_, (pss_one (ps_ret (pe_tup (pa_cons (pe_call G__law_small (hr.mono (by decide)) (by rfl) M__law_small F__law_small.kp B__law_small .nil pass0 (pa_cons (pv 0) pa_nil)) (pa_cons (pe_call G__law_small (hr.mono (by decide)) (by rfl) M__law_small F__law_small.kp B__law_small .nil pass0 (pa_cons (pv 0) pa_nil)) pa_nil))))), ?_⟩
    with_reducible refine k_ret ?_
    with_reducible refine k_tup ?_
    with_reducible refine k_argX ?_
    with_reducible refine k_call ?_
    refine k_arg (val_var rfl) ?_
    with_reducible refine k_nil ?_
    refine k_spB () hg hB (rnil (K := K)) trivial (fun d1 v1 H1 p1 r1 e1 hB1 => ?_)
    obtain ⟨y0_1, rfl, z0_1⟩ := p1
    with_reducible refine k_argX ?_
    with_reducible refine k_call ?_
    refine k_arg (val_var rfl) ?_
    with_reducible refine k_nil ?_
    refine k_spB () hg hB1 (rnil (K := K)) trivial (fun d2 v2 H2 p2 r2 e2 hB2 => ?_)
    obtain ⟨y0_2, rfl, z0_2⟩ := p2
    with_reducible refine k_nil ?_
    refine k_tup_end hB2 (rcons ((r1.up hB1 (hg.up e2))) (rcons (r2) (rnil (K := K)))) (fun v3 H3 r3 s3 hB3 => ?_)
    exact k _ _ _ ⟨y0_1, y0_2, rfl, (z0_1.mono (by omega)), (z0_2.mono (by omega))⟩ (r3) (e1.trans (e2.trans (Ex.of s3))) hB3
def sp__law_table (K : PySem.W.Frag) : Sp := spB K (α := Unit) (fun x => []) (fun x => True) (fun x d => ∃ (y0 : Rat) (y1 : Rat) (y2 : Rat) (y3 : Rat), d = (.tup [(fr (y0)), (fr (y1)), (fr (y2)), (fr (y3))] : D) ∧ SzR 48 y0 ∧ SzR 48 y1 ∧ SzR 48 y2 ∧ SzR 48 y3)
theorem has__law_table (T : Tx K mg) : Has P w K mg base CX0 "_law_table" s__law_table ["_law_bag_here"] 5 (sp__law_table K) := by
  obtain ⟨f, fd, F, M⟩ := T._law_table
  obtain ⟨f__law_near, fd__law_near, F__law_near, M__law_near, B__law_near, G__law_near⟩ := has__law_near (P := P) (w := w) (base := base) T
  obtain ⟨f__law_small, fd__law_small, F__law_small, M__law_small, B__law_small, G__law_small⟩ := has__law_small (P := P) (w := w) (base := base) T
  obtain ⟨f__law_fraction, fd__law_fraction, F__law_fraction, M__law_fraction, B__law_fraction, G__law_fraction⟩ := has__law_fraction (P := P) (w := w) (base := base) T
  obtain ⟨f__law_long, fd__law_long, F__law_long, M__law_long, B__law_long, G__law_long⟩ := has__law_long (P := P) (w := w) (base := base) T
  obtain ⟨f__law_draw, fd__law_draw, F__law_draw, M__law_draw, B__law_draw, G__law_draw⟩ := has__law_draw (P := P) (w := w) (base := base) T
  refine ⟨f, fd, F, M, F.binds (ps := ["_law_bag_here"]) (fun _ _ _ _ _ _ us hl => match us, hl with | [_], _ => rfl), F.ok sc__law_table (fun vs H Q E h => ?_) (fun cdv A outer s H vs Q E hr h => ?_)⟩
  · obtain ⟨b, c, ns, G, x, vs', rfl, hg, hB, r, hp, q⟩ := h; rw [List.length_cons, r.len]; rfl
  · obtain ⟨b, c, ns, G, _, vs', rfl, hg, hB, r, _, k⟩ := h
    replace k : ∀ d v H', (∃ (y0 : Rat) (y1 : Rat) (y2 : Rat) (y3 : Rat), d = (.tup [(fr (y0)), (fr (y1)), (fr (y2)), (fr (y3))] : D) ∧ SzR 48 y0 ∧ SzR 48 y1 ∧ SzR 48 y2 ∧ SzR 48 y3) → Rep K G.M H' d v → Ex (onB b) H H' → G.B H' → Q v H' := k
    obtain rfl := nil_of r
    refine ⟨_, (pss_cons (ps_set (i := 1) sc__law_table.nd rfl (.inl rfl) (pe_call G__law_draw (hr.mono (by decide)) (by rfl) M__law_draw F__law_draw.kp B__law_draw .nil pass0 (pa_cons (pv 0) (pa_cons pe_int pa_nil)))) (pss_cons (ps_if (pt_cmpR op_eq (pv 1) pe_int (nomark _)) (pss_one (ps_ret (pe_tup (pa_cons (pe_tup (pa_cons pe_int (pa_cons pe_int pa_nil))) (pa_cons (pe_tup (pa_cons pe_int (pa_cons pe_int pa_nil))) (pa_cons (pe_tup (pa_cons pe_int (pa_cons pe_int pa_nil))) (pa_cons (pe_tup (pa_cons pe_int (pa_cons pe_int pa_nil))) pa_nil))))))) pss_nil) (pss_cons (ps_if (pt_cmpR op_lt (pv 1) pe_int (nomark _)) (pss_cons (ps_par (i := 2) (j := 3) (by rfl) sc__law_table.nd rfl rfl (by decide) rfl rfl (pa_cons (pe_call G__law_near (hr.mono (by decide)) (by rfl) M__law_near F__law_near.kp B__law_near .nil pass0 (pa_cons (pv 0) pa_nil)) (pa_cons (pe_call G__law_small (hr.mono (by decide)) (by rfl) M__law_small F__law_small.kp B__law_small .nil pass0 (pa_cons (pv 0) pa_nil)) pa_nil)) (by rfl)) (pss_cons (ps_set (i := 4) sc__law_table.nd rfl (.inl rfl) (pe_call G__law_long (hr.mono (by decide)) (by rfl) M__law_long F__law_long.kp B__law_long .nil pass0 (pa_cons (pv 2) (pa_cons (pv 3) pa_nil)))) (pss_one (ps_ret (pe_ifExp (pt_cmpR op_eq (pv 1) pe_int (nomark _)) (pe_tup (pa_cons (pe_ix (ix_tupK (K := K)) (pv 2) pe_int (fun _ _ => rfl)) (pa_cons (pe_ix (ix_tupK (K := K)) (pv 2) pe_int (fun _ _ => rfl)) (pa_cons (pe_ix (ix_tupK (K := K)) (pv 4) pe_int (fun _ _ => rfl)) (pa_cons (pe_ix (ix_tupK (K := K)) (pv 4) pe_int (fun _ _ => rfl)) pa_nil))))) (pe_tup (pa_cons (pe_ix (ix_tupK (K := K)) (pv 4) pe_int (fun _ _ => rfl)) (pa_cons (pe_ix (ix_tupK (K := K)) (pv 2) pe_int (fun _ _ => rfl)) (pa_cons (pe_ix (ix_tupK (K := K)) (pv 4) pe_int (fun _ _ => rfl)) (pa_cons (pe_ix (ix_tupK (K := K)) (pv 2) pe_int (fun _ _ => rfl)) pa_nil)))))))))) pss_nil) (pss_cons (ps_if (pt_cmpR op_lt (pv 1) pe_int (nomark _)) (pss_one (ps_ret (pe_tup (pa_cons (pe_call G__law_fraction (hr.mono (by decide)) (by rfl) M__law_fraction F__law_fraction.kp B__law_fraction .nil pass0 (pa_cons (pv 0) pa_nil)) (pa_cons (pe_call G__law_fraction (hr.mono (by decide)) (by rfl) M__law_fraction F__law_fraction.kp B__law_fraction .nil pass0 (pa_cons (pv 0) pa_nil)) (pa_cons (pe_call G__law_fraction (hr.mono (by decide)) (by rfl) M__law_fraction F__law_fraction.kp B__law_fraction .nil pass0 (pa_cons (pv 0) pa_nil)) (pa_cons (pe_call G__law_fraction (hr.mono (by decide)) (by rfl) M__law_fraction F__law_fraction.kp B__law_fraction .nil pass0 (pa_cons (pv 0) pa_nil)) pa_nil))))))) pss_nil) (pss_one (ps_ret (pe_tup (pa_cons (pe_call G__law_small (hr.mono (by decide)) (by rfl) M__law_small F__law_small.kp B__law_small .nil pass0 (pa_cons (pv 0) pa_nil)) (pa_cons (pe_call G__law_small (hr.mono (by decide)) (by rfl) M__law_small F__law_small.kp B__law_small .nil pass0 (pa_cons (pv 0) pa_nil)) (pa_cons (pe_call G__law_small (hr.mono (by decide)) (by rfl) M__law_small F__law_small.kp B__law_small .nil pass0 (pa_cons (pv 0) pa_nil)) (pa_cons (pe_call G__law_small (hr.mono (by decide)) (by rfl) M__law_small F__law_small.kp B__law_small .nil pass0 (pa_cons (pv 0) pa_nil)) pa_nil))))))))))), ?_⟩
    with_reducible refine k_seq ?_
    with_reducible refine k_set ?_
    with_reducible refine k_call ?_
    refine k_arg (val_var rfl) ?_
    refine k_arg val_c ?_
    with_reducible refine k_nil ?_
    refine k_draw hg hB (by omega) (by omega) (fun r1 H1 l1 u1 e1 hB1 => ?_)
    with_reducible refine k_seq ?_
    with_reducible refine k_ifX ?_
    with_reducible refine k_T ?_
    refine k_val (v_eqI (val_var rfl) val_c) ?_
    refine ⟨_, rfl, ?_⟩
    refine k_ite (fun c1 => ?_) (fun c1 => ?_)
    · with_reducible refine k_ret ?_
      with_reducible refine k_tup ?_
      with_reducible refine k_argX ?_
      with_reducible refine k_tup ?_
      refine k_arg val_c ?_
      refine k_arg val_c ?_
      with_reducible refine k_nil ?_
      refine k_tup_end hB1 (rcons (rint _) (rcons (rint _) (rnil (K := K)))) (fun v2 H2 r2 s2 hB2 => ?_)
      replace r2 : Rep K G.M H2 (fr (0 : Rat)) v2 := r2
      with_reducible refine k_argX ?_
      with_reducible refine k_tup ?_
      refine k_arg val_c ?_
      refine k_arg val_c ?_
      with_reducible refine k_nil ?_
      refine k_tup_end hB2 (rcons (rint _) (rcons (rint _) (rnil (K := K)))) (fun v3 H3 r3 s3 hB3 => ?_)
      replace r3 : Rep K G.M H3 (fr (0 : Rat)) v3 := r3
      with_reducible refine k_argX ?_
      with_reducible refine k_tup ?_
      refine k_arg val_c ?_
      refine k_arg val_c ?_
      with_reducible refine k_nil ?_
      refine k_tup_end hB3 (rcons (rint _) (rcons (rint _) (rnil (K := K)))) (fun v4 H4 r4 s4 hB4 => ?_)
      replace r4 : Rep K G.M H4 (fr (0 : Rat)) v4 := r4
      with_reducible refine k_argX ?_
      with_reducible refine k_tup ?_
      refine k_arg val_c ?_
      refine k_arg val_c ?_
      with_reducible refine k_nil ?_
      refine k_tup_end hB4 (rcons (rint _) (rcons (rint _) (rnil (K := K)))) (fun v5 H5 r5 s5 hB5 => ?_)
      replace r5 : Rep K G.M H5 (fr (0 : Rat)) v5 := r5
      with_reducible refine k_nil ?_
      have q2 := ((r3.up hB3 (Ex.of s4)).up hB4 (Ex.of s5))
      have q3 := (((r2.up hB2 (Ex.of s3)).up hB3 (Ex.of s4)).up hB4 (Ex.of s5))
      refine k_tup_end hB5 (rcons (q3) (rcons (q2) (rcons ((r4.up hB4 (Ex.of s5))) (rcons (r5) (rnil (K := K)))))) (fun v6 H6 r6 s6 hB6 => ?_)
      exact k _ _ _ ⟨(0 : Rat), (0 : Rat), (0 : Rat), (0 : Rat), rfl, ((szr_lit 1 (0 : Rat)).mono (by omega)), ((szr_lit 1 (0 : Rat)).mono (by omega)), ((szr_lit 1 (0 : Rat)).mono (by omega)), ((szr_lit 1 (0 : Rat)).mono (by omega))⟩ (r6) (e1.trans ((Ex.of s2).trans ((Ex.of s3).trans ((Ex.of s4).trans ((Ex.of s5).trans (Ex.of s6)))))) hB6
    · with_reducible refine k_next ?_
      with_reducible refine k_seq ?_
      with_reducible refine k_ifX ?_
      with_reducible refine k_T ?_
      refine k_val (v_opB (val_var rfl) val_c) ?_
      refine ⟨_, rfl, ?_⟩
      refine k_ite (fun c4 => ?_) (fun c4 => ?_)
      · with_reducible refine k_seq ?_
        with_reducible refine k_par ?_
        with_reducible refine k_argX ?_
        with_reducible refine k_call ?_
        refine k_arg (val_var rfl) ?_
        with_reducible refine k_nil ?_
        refine k_spB () hg hB1 (rnil (K := K)) trivial (fun d7 v7 H7 p7 r7 e7 hB7 => ?_)
        obtain ⟨y0_7, y1_7, rfl, z0_7, z1_7⟩ := p7
        with_reducible refine k_argX ?_
        with_reducible refine k_call ?_
        refine k_arg (val_var rfl) ?_
        with_reducible refine k_nil ?_
        refine k_spB () hg hB7 (rnil (K := K)) trivial (fun d8 v8 H8 p8 r8 e8 hB8 => ?_)
        obtain ⟨y0_8, rfl, z0_8⟩ := p8
        with_reducible refine k_nil ?_
        refine ⟨_, _, rfl, ?_⟩
        with_reducible refine k_seq ?_
        with_reducible refine k_set ?_
        with_reducible refine k_call ?_
        refine k_arg (val_var rfl) ?_
        refine k_arg (val_var rfl) ?_
        with_reducible refine k_nil ?_
        refine k_spF (y0_7, y1_7, y0_8, 24, 24) hB8 (rcons ((r7.up hB7 (hg.up e8))) (rcons (r8) (rnil (K := K)))) ⟨z0_7.mono (by first | omega | (dsimp only; omega)), z1_7.mono (by first | omega | (dsimp only; omega)), z0_8, (by first | omega | (dsimp only; omega))⟩ (fun v9 H9 r9 s9 hB9 => ?_)
        replace r9 : Rep K G.M H9 (.tup [(fr ((y0_7 * y0_8))), (fr ((y1_7 * y0_8)))]) v9 := r9
        have z9_0 : SzR 48 ((y0_7 * y0_8)) := (szr_mul z0_7 z0_8 (by omega))
        have z9_1 : SzR 48 ((y1_7 * y0_8)) := (szr_mul z1_7 z0_8 (by omega))
        with_reducible refine k_ret ?_
        with_reducible refine k_ifE ?_
        with_reducible refine k_T ?_
        refine k_val (v_eqI (val_var rfl) val_c) ?_
        refine ⟨_, rfl, ?_⟩
        refine k_ite (fun c5 => ?_) (fun c5 => ?_)
        · with_reducible refine k_tup ?_
          with_reducible refine k_argX ?_
          with_reducible refine k_opX ?_
          refine k_val (val_var rfl) ?_
          refine k_val val_c ?_
          have q7 := ((r7.up hB7 (hg.up e8)).up hB8 (Ex.of s9))
          refine f_ixT (k := 0) (q7) rfl (fun w6 rw6 => ?_)
          with_reducible refine k_argX ?_
          with_reducible refine k_opX ?_
          refine k_val (val_var rfl) ?_
          refine k_val val_c ?_
          refine f_ixT (k := 1) (q7) rfl (fun w8 rw8 => ?_)
          with_reducible refine k_argX ?_
          with_reducible refine k_opX ?_
          refine k_val (val_var rfl) ?_
          refine k_val val_c ?_
          refine f_ixT (k := 0) (r9) rfl (fun w9 rw9 => ?_)
          with_reducible refine k_argX ?_
          with_reducible refine k_opX ?_
          refine k_val (val_var rfl) ?_
          refine k_val val_c ?_
          refine f_ixT (k := 1) (r9) rfl (fun w10 rw10 => ?_)
          with_reducible refine k_nil ?_
          refine k_tup_end hB9 (rcons (rw6) (rcons (rw8) (rcons (rw9) (rcons (rw10) (rnil (K := K)))))) (fun v10 H10 r10 s10 hB10 => ?_)
          exact k _ _ _ ⟨y0_7, y1_7, (y0_7 * y0_8), (y1_7 * y0_8), rfl, (z0_7.mono (by omega)), (z1_7.mono (by omega)), (z9_0.mono (by omega)), (z9_1.mono (by omega))⟩ (r10) (e1.trans (e7.trans (e8.trans ((Ex.of s9).trans (Ex.of s10))))) hB10
        · with_reducible refine k_tup ?_
          with_reducible refine k_argX ?_
          with_reducible refine k_opX ?_
          refine k_val (val_var rfl) ?_
          refine k_val val_c ?_
          refine f_ixT (k := 0) (r9) rfl (fun w11 rw11 => ?_)
          with_reducible refine k_argX ?_
          with_reducible refine k_opX ?_
          refine k_val (val_var rfl) ?_
          refine k_val val_c ?_
          have q13 := ((r7.up hB7 (hg.up e8)).up hB8 (Ex.of s9))
          refine f_ixT (k := 0) (q13) rfl (fun w12 rw12 => ?_)
          with_reducible refine k_argX ?_
          with_reducible refine k_opX ?_
          refine k_val (val_var rfl) ?_
          refine k_val val_c ?_
          refine f_ixT (k := 1) (r9) rfl (fun w14 rw14 => ?_)
          with_reducible refine k_argX ?_
          with_reducible refine k_opX ?_
          refine k_val (val_var rfl) ?_
          refine k_val val_c ?_
          refine f_ixT (k := 1) (q13) rfl (fun w15 rw15 => ?_)
          with_reducible refine k_nil ?_
          refine k_tup_end hB9 (rcons (rw11) (rcons (rw12) (rcons (rw14) (rcons (rw15) (rnil (K := K)))))) (fun v11 H11 r11 s11 hB11 => ?_)
          exact k _ _ _ ⟨(y0_7 * y0_8), y0_7, (y1_7 * y0_8), y1_7, rfl, (z9_0.mono (by omega)), (z0_7.mono (by omega)), (z9_1.mono (by omega)), (z1_7.mono (by omega))⟩ (r11) (e1.trans (e7.trans (e8.trans ((Ex.of s9).trans (Ex.of s11))))) hB11
      · with_reducible refine k_next ?_
        with_reducible refine k_seq ?_
        with_reducible refine k_ifX ?_
        with_reducible refine k_T ?_
        refine k_val (v_opB (val_var rfl) val_c) ?_
        refine ⟨_, rfl, ?_⟩
        refine k_ite (fun c16 => ?_) (fun c16 => ?_)
        · with_reducible refine k_ret ?_
          with_reducible refine k_tup ?_
          with_reducible refine k_argX ?_
          with_reducible refine k_call ?_
          refine k_arg (val_var rfl) ?_
          with_reducible refine k_nil ?_
          refine k_spB () hg hB1 (rnil (K := K)) trivial (fun d12 v12 H12 p12 r12 e12 hB12 => ?_)
          obtain ⟨y0_12, rfl, z0_12⟩ := p12
          with_reducible refine k_argX ?_
          with_reducible refine k_call ?_
          refine k_arg (val_var rfl) ?_
          with_reducible refine k_nil ?_
          refine k_spB () hg hB12 (rnil (K := K)) trivial (fun d13 v13 H13 p13 r13 e13 hB13 => ?_)
          obtain ⟨y0_13, rfl, z0_13⟩ := p13
          with_reducible refine k_argX ?_
          with_reducible refine k_call ?_
          refine k_arg (val_var rfl) ?_
          with_reducible refine k_nil ?_
          refine k_spB () hg hB13 (rnil (K := K)) trivial (fun d14 v14 H14 p14 r14 e14 hB14 => ?_)
          obtain ⟨y0_14, rfl, z0_14⟩ := p14
          with_reducible refine k_argX ?_
          with_reducible refine k_call ?_
          refine k_arg (val_var rfl) ?_
          with_reducible refine k_nil ?_
          refine k_spB () hg hB14 (rnil (K := K)) trivial (fun d15 v15 H15 p15 r15 e15 hB15 => ?_)
          obtain ⟨y0_15, rfl, z0_15⟩ := p15
          with_reducible refine k_nil ?_
          have q17 := ((r13.up hB13 (hg.up e14)).up hB14 (hg.up e15))
          have q18 := (((r12.up hB12 (hg.up e13)).up hB13 (hg.up e14)).up hB14 (hg.up e15))
          refine k_tup_end hB15 (rcons (q18) (rcons (q17) (rcons ((r14.up hB14 (hg.up e15))) (rcons (r15) (rnil (K := K)))))) (fun v16 H16 r16 s16 hB16 => ?_)
          exact k _ _ _ ⟨y0_12, y0_13, y0_14, y0_15, rfl, (z0_12.mono (by omega)), (z0_13.mono (by omega)), (z0_14.mono (by omega)), (z0_15.mono (by omega))⟩ (r16) (e1.trans (e12.trans (e13.trans (e14.trans (e15.trans (Ex.of s16)))))) hB16
        · with_reducible refine k_next ?_
          with_reducible refine k_ret ?_
          with_reducible refine k_tup ?_
          with_reducible refine k_argX ?_
          with_reducible refine k_call ?_
          refine k_arg (val_var rfl) ?_
          with_reducible refine k_nil ?_
          refine k_spB () hg hB1 (rnil (K := K)) trivial (fun d17 v17 H17 p17 r17 e17 hB17 => ?_)
          obtain ⟨y0_17, rfl, z0_17⟩ := p17
          with_reducible refine k_argX ?_
          with_reducible refine k_call ?_
          refine k_arg (val_var rfl) ?_
          with_reducible refine k_nil ?_
          refine k_spB () hg hB17 (rnil (K := K)) trivial (fun d18 v18 H18 p18 r18 e18 hB18 => ?_)
          obtain ⟨y0_18, rfl, z0_18⟩ := p18
          with_reducible refine k_argX ?_
          with_reducible refine k_call ?_
          refine k_arg (val_var rfl) ?_
          with_reducible refine k_nil ?_
          refine k_spB () hg hB18 (rnil (K := K)) trivial (fun d19 v19 H19 p19 r19 e19 hB19 => ?_)
          obtain ⟨y0_19, rfl, z0_19⟩ := p19
          with_reducible refine k_argX ?_
          with_reducible refine k_call ?_
          refine k_arg (val_var rfl) ?_
          with_reducible refine k_nil ?_
          refine k_spB () hg hB19 (rnil (K := K)) trivial (fun d20 v20 H20 p20 r20 e20 hB20 => ?_)
          obtain ⟨y0_20, rfl, z0_20⟩ := p20
          with_reducible refine k_nil ?_
          have q19 := ((r18.up hB18 (hg.up e19)).up hB19 (hg.up e20))
          have q20 := (((r17.up hB17 (hg.up e18)).up hB18 (hg.up e19)).up hB19 (hg.up e20))
          refine k_tup_end hB20 (rcons (q20) (rcons (q19) (rcons ((r19.up hB19 (hg.up e20))) (rcons (r20) (rnil (K := K)))))) (fun v21 H21 r21 s21 hB21 => ?_)
          exact k _ _ _ ⟨y0_17, y0_18, y0_19, y0_20, rfl, (z0_17.mono (by omega)), (z0_18.mono (by omega)), (z0_19.mono (by omega)), (z0_20.mono (by omega))⟩ (r21) (e1.trans (e17.trans (e18.trans (e19.trans (e20.trans (Ex.of s21)))))) hB21
end
end Px

namespace Px
open PySem PySem.Spec PyProof.Rows L2
section
variable {P : Program} {w : World} {K : PySem.W.Frag} {mg : Str → Option Value} {base : Heap}
/-! ### tables -/
theorem k_g {i : Nat} {v : V} {σ : L2.St} {H : Hp} {Q : L2.St → Hp → Prop} (q : Q (σ.set i (some v)) H) : gName i v σ H Q := q
def G0 : Bg := ⟨noM, fun _ => True, fun _ _ _ m => m.elim, fun _ _ _ _ => trivial, fun _ _ _ _ _ _ _ _ _ => trivial⟩
def sp_init (K : PySem.W.Frag) (C : Addr) : Sp := fun vs H Q _ => ∃ (p dx : Addr) (v1 v2 v3 v4 : V) (a b c d : Rat), vs = [.ref p, v1, v2, v3, v4] ∧ H p = some (.ins C dx []) ∧ Reps K noM H [fr a, fr b, fr c, fr d] [v1, v2, v3, v4] ∧
  ∀ H', (∀ b o, H b = some o → b ≠ p → H' b = some o) → H' p = some (.ins C dx [("a", v1), ("b", v2), ("c", v3), ("d", v4)]) → Q .non H'
theorem sc_init : FnScope ["self", "a", "b", "c", "d", "value"] ["self", "a", "b", "c", "d"] (defScope s_Table___init__) := ⟨rfl, rfl, rfl, by decide +kernel, rfl, by decide +kernel, by decide +kernel⟩
theorem has_init {C : Addr} (T : Tx K mg) (Y : TabTx K mg w C) : ∃ f fd, Mk K C f ∧ Binds K fd ["self", "a", "b", "c", "d"] [] ∧ FnOk P w K mg base CX0 3 f fd ["self", "a", "b", "c", "d"] (sp_init K C) := by
  obtain ⟨f, fd, F, mk⟩ := Y.init
  obtain ⟨f_i, fd_i, F_i, M_i, B_i, G_i⟩ := has_is_fraction (P := P) (w := w) (base := base) T
  refine ⟨f, fd, mk, F.binds (ps := ["self", "a", "b", "c", "d"]) (fun _ _ _ _ _ _ us hl => match us, hl with | [_, _, _, _, _], _ => rfl), F.ok sc_init (fun vs H Q E h => ?_) (fun cdv A outer s H vs Q E hr h => ?_)⟩
  · obtain ⟨p, dx, v1, v2, v3, v4, a, b, c, d, rfl, _⟩ := h
    rfl
  · obtain ⟨p, dx, v1, v2, v3, v4, a, b, c, d, rfl, hp, rs, k⟩ := h
    refine ⟨_, pss_cons (ps_for PassesOwn.never rfl (pi_tup (pe_tup (pa_cons (pv 1) (pa_cons (pv 2) (pa_cons (pv 3) (pa_cons (pv 4) pa_nil)))))) (pg_name (i := 5) sc_init.nd rfl (.inl rfl))
        (pss_one (ps_if (pt_not (pt_val (pe_call G_i (hr.mono (by decide)) (by rfl) M_i F_i.kp B_i .nil pass0 (pa_cons (pv 5) pa_nil)))) (pss_one ps_never) pss_nil)))
      (pss_cons (ps_fld (pv 0) (pv 1) rfl) (pss_cons (ps_fld (pv 0) (pv 2) rfl) (pss_cons (ps_fld (pv 0) (pv 3) rfl) (pss_one (ps_fld (pv 0) (pv 4) rfl))))), ?_⟩
    with_reducible refine k_seq ?_
    refine ⟨v1, rfl, v2, rfl, v3, rfl, v4, rfl, (by show 4 ≤ sizeLine; decide), fun t nt => ?_⟩
    have s1 : Same H (upd H t (.tup [v1, v2, v3, v4])) := same_upd nt
    have rs1 := rs.upC (fun _ _ m => m.elim) (Ex.of s1)
    refine ⟨t, rfl, ⟨_, .inl (.inl upd_same)⟩, for_tup (K := K) (a := t) (xs := [v1, v2, v3, v4]) (fun i σ H' => ∃ w5, σ = [some (.ref p), some v1, some v2, some v3, some v4, w5] ∧ Same (upd H t (.tup [v1, v2, v3, v4])) H') ⟨none, rfl, Same.refl _⟩ (fun i σ H' _ ⟨_, _, e⟩ => .inl (.inl (e _ _ upd_same))) ?_ ?_⟩
    · rintro i x σ H' hi ⟨w5, rfl, e⟩
      have rs2 := rs1.upC (fun _ _ m => m.elim) (Ex.of e)
      obtain ⟨dd, q, hd, hr5⟩ : ∃ dd q, dd = fr q ∧ Rep K noM H' dd x := by
        obtain ⟨y1, _, e1, r1, t1⟩ := cons_of rs2
        obtain ⟨y2, _, e2, r2, t2⟩ := cons_of t1
        obtain ⟨y3, _, e3, r3, t3⟩ := cons_of t2
        obtain ⟨y4, _, e4, r4, t4⟩ := cons_of t3
        obtain rfl := nil_of t4
        subst e4 e3 e2
        cases e1
        match i, hi with
        | 0, hi => cases hi; exact ⟨_, _, rfl, r1⟩
        | 1, hi => cases hi; exact ⟨_, _, rfl, r2⟩
        | 2, hi => cases hi; exact ⟨_, _, rfl, r3⟩
        | 3, hi => cases hi; exact ⟨_, _, rfl, r4⟩
        | n + 4, hi => simp at hi
      subst hd
      with_reducible refine k_g ?_
      with_reducible refine k_ifX ?_
      with_reducible refine k_not ?_
      with_reducible refine k_B ?_
      with_reducible refine k_call ?_
      refine k_arg (val_var rfl) ?_
      with_reducible refine k_nil ?_
      refine k_spF (G := G0) q trivial (rcons hr5 (rnil (K := K))) trivial (fun v H2 r2 s2 _ => ?_)
      obtain rfl := bl_of (b := true) r2
      refine ⟨_, rfl, iteF ?_⟩
      exact ⟨some x, rfl, e.trans s2⟩
    · rintro σ H' ⟨w5, rfl, e⟩
      have nt' : p ≠ t := ne_of_none hp nt
      have h0 : H' p = some (.ins C dx []) := e _ _ (s1 _ _ hp)
      refine ⟨v1, rfl, .ref p, rfl, p, C, dx, [], rfl, h0, Y.cl, Y.nA, (by show 0 < 1000; decide), ?_⟩
      refine ⟨v2, rfl, .ref p, rfl, p, C, dx, _, rfl, upd_same, Y.cl, Y.nB, (by show 1 < 1000; decide), ?_⟩
      rw [upd_upd]
      refine ⟨v3, rfl, .ref p, rfl, p, C, dx, _, rfl, upd_same, Y.cl, Y.nC, (by show 2 < 1000; decide), ?_⟩
      rw [upd_upd]
      refine ⟨v4, rfl, .ref p, rfl, p, C, dx, _, rfl, upd_same, Y.cl, Y.nD, (by show 3 < 1000; decide), ?_⟩
      rw [upd_upd]
      refine k _ (fun b o hb ne => ?_) ?_
      · rw [upd_ne ne]
        exact e _ _ (s1 _ _ hb)
      · refine Eq.trans upd_same ?_
        congr 1
/-- an instance is made -/
def MakeEnd (C : Addr) (sp : Sp) (dvs : List V) (E : XK) (Q : VK) (vs : List V) (H1 : Hp) : Prop := ∀ x dx, H1 x = none → H1 dx = none → dx ≠ x → sp (.ref x :: (vs ++ dvs)) (upd (upd H1 dx (.own x)) x (.ins C dx [])) (fun v H2 => v = .non ∧ Q (.ref x) H2) E
theorem k_make_end {C : Addr} {G : Bg} {H : Hp} {Q : VK} {E : XK} {vs : List V} {a b c d : Rat} (hB : G.B H) (r : Reps K G.M H [fr a, fr b, fr c, fr d] vs) (q : ∀ v H', Rep K G.M H' (tbD C a b c d) v → Same H H' → G.B H' → Q v H') :
    MakeEnd C (sp_init K C) [] E Q vs H := by
  intro x dx nx nd ne
  have s0 : Same H (upd (upd H dx (.own x)) x (.ins C dx [])) := fun z o e => by
    rw [upd_ne (ne_of_none e nx), upd_ne (ne_of_none e nd)]
    exact e
  obtain ⟨v1, _, e1, r1, t1⟩ := cons_of r
  obtain ⟨v2, _, e2, r2, t2⟩ := cons_of t1
  obtain ⟨v3, _, e3, r3, t3⟩ := cons_of t2
  obtain ⟨v4, _, e4, r4, t4⟩ := cons_of t3
  obtain rfl := nil_of t4
  subst e4 e3 e2 e1
  refine ⟨x, dx, v1, v2, v3, v4, a, b, c, d, rfl, upd_same, ?_, fun H' ke hx => ⟨rfl, ?_⟩⟩
  · have r0 : Reps K G.M H [fr a, fr b, fr c, fr d] [v1, v2, v3, v4] := r
    exact (r0.up hB (Ex.of s0)).widen fun _ _ _ m => m.elim
  · have s1 : Same H H' := fun z o e => ke _ _ (s0 _ _ e) (ne_of_none e nx)
    have nm : ¬ G.M x := fun m => by
      rcases G.isl H x hB m with ⟨ys, hy⟩ | ⟨C', dx', fs, hy⟩ | ⟨tb, hy⟩ <;> (rw [nx] at hy; cases hy)
    refine q _ H' (rins nm hx rfl ?_) s1 (G.st _ _ hB s1)
    have r0 : Reps K G.M H [fr a, fr b, fr c, fr d] [v1, v2, v3, v4] := r
    exact r0.up hB (Ex.of s1)
theorem k_make {C : Addr} {sp : Sp} {dvs : List V} {E : XK} {t : TA} {σ : L2.St} {H : Hp} {Q : VK} (q : t σ H fun vs H1 => MakeEnd C sp dvs E Q vs H1) : tMake C sp dvs E t σ H Q := q

end
end Px

namespace Px
open PySem PySem.Spec PyProof.Rows L2
section
variable {P : Program} {w : World} {K : PySem.W.Frag} {mg : Str → Option Value} {base : Heap}
def sp_Table_entries (K : PySem.W.Frag) (C : Addr) : Sp := spF K (α := Rat × Rat × Rat × Rat) (fun x => [tbD C (x.1) (x.2.1) (x.2.2.1) (x.2.2.2)]) (fun x => True) (fun x => (.tup [(fr (x.1)), (fr (x.2.1)), (fr (x.2.2.1)), (fr (x.2.2.2))] : D))
theorem has_Table_entries {C : Addr} (T : Tx K mg) (Y : TabTx K mg w C) : ∃ f fd, Fun K "entries" "Table.entries" s_Table_entries f fd ∧ Meth K C "entries" f ∧ Binds K fd ["self"] [] ∧ FnOk P w K mg base CX0 1 f fd ["self"] (sp_Table_entries K C) := by
  obtain ⟨f, fd, F, M⟩ := Y.entries
  refine ⟨f, fd, F, M, F.binds (ps := ["self"]) (fun _ _ _ _ _ _ us hl => match us, hl with | [_], _ => rfl), F.ok sc_Table_entries (fun vs H Q E h => ?_) (fun cdv A outer s H vs Q E hr h => ?_)⟩
  · obtain ⟨G, x, hB, r, hp, q⟩ := h; rw [r.len]; rfl
  · obtain ⟨G, ⟨x, y, z, u⟩, hB, r, _, k⟩ := h
    refine ⟨_, (pss_one (ps_ret (pe_tup (pa_cons (pe_fld (pv 0) rfl) (pa_cons (pe_fld (pv 0) rfl) (pa_cons (pe_fld (pv 0) rfl) (pa_cons (pe_fld (pv 0) rfl) pa_nil))))))), ?_⟩
    replace k : ∀ d v H', d = (.tup [(fr (x)), (fr (y)), (fr (z)), (fr (u))] : D) → Rep K G.M H' d v → Same H H' → G.B H' → Q v H' := k
    obtain ⟨v0_0, _, rfl, r0_0, rt0⟩ := cons_of r
    replace r0_0 : Rep K G.M H (tbD C (x) (y) (z) (u)) v0_0 := r0_0
    obtain rfl := nil_of rt0
    with_reducible refine k_ret ?_
    with_reducible refine k_tup ?_
    with_reducible refine k_argX ?_
    with_reducible refine k_fld ?_
    refine k_val (val_var rfl) ?_
    refine f_fld (r0_0) Y.cl Y.nA rfl (fun w1 rw1 => ?_)
    replace rw1 : Rep K G.M H ((fr (x))) w1 := rw1
    with_reducible refine k_argX ?_
    with_reducible refine k_fld ?_
    refine k_val (val_var rfl) ?_
    refine f_fld (r0_0) Y.cl Y.nB rfl (fun w2 rw2 => ?_)
    replace rw2 : Rep K G.M H ((fr (y))) w2 := rw2
    with_reducible refine k_argX ?_
    with_reducible refine k_fld ?_
    refine k_val (val_var rfl) ?_
    refine f_fld (r0_0) Y.cl Y.nC rfl (fun w3 rw3 => ?_)
    replace rw3 : Rep K G.M H ((fr (z))) w3 := rw3
    with_reducible refine k_argX ?_
    with_reducible refine k_fld ?_
    refine k_val (val_var rfl) ?_
    refine f_fld (r0_0) Y.cl Y.nD rfl (fun w4 rw4 => ?_)
    replace rw4 : Rep K G.M H ((fr (u))) w4 := rw4
    with_reducible refine k_nil ?_
    refine k_tup_end hB (rcons (rw1) (rcons (rw2) (rcons (rw3) (rcons (rw4) (rnil (K := K)))))) (fun v1 H1 r1 s1 hB1 => ?_)
    exact k _ _ _ rfl (r1) s1 hB1
def sp_taken (K : PySem.W.Frag) (C : Addr) : Sp := spF K (α := Rat × Rat × Rat × Rat × Rat × Rat × Nat × Nat) (fun x => [tbD C (x.1) (x.2.1) (x.2.2.1) (x.2.2.2.1), .tup [(fr (x.2.2.2.2.1)), (fr (x.2.2.2.2.2.1))]]) (fun x => SzR x.2.2.2.2.2.2.1 x.1 ∧ SzR x.2.2.2.2.2.2.1 x.2.1 ∧ SzR x.2.2.2.2.2.2.1 x.2.2.1 ∧ SzR x.2.2.2.2.2.2.1 x.2.2.2.1 ∧ SzR x.2.2.2.2.2.2.2 x.2.2.2.2.1 ∧ SzR x.2.2.2.2.2.2.2 x.2.2.2.2.2.1 ∧ 2 * x.2.2.2.2.2.2.1 + 2 * x.2.2.2.2.2.2.2 + 2 ≤ 8000) (fun x => (.tup [(fr (((x.1 * x.2.2.2.2.1) + (x.2.1 * x.2.2.2.2.2.1)))), (fr (((x.2.2.1 * x.2.2.2.2.1) + (x.2.2.2.1 * x.2.2.2.2.2.1))))] : D))
theorem has_taken {C : Addr} (T : Tx K mg) (Y : TabTx K mg w C) : ∃ f fd, Fun K "taken" "taken" s_taken f fd ∧ mg "taken" = some (.ref f) ∧ Binds K fd ["table", "vector"] [] ∧ FnOk P w K mg base CX0 3 f fd ["table", "vector"] (sp_taken K C) := by
  obtain ⟨f, fd, F, M⟩ := T.taken
  obtain ⟨f_plus, fd_plus, F_plus, M_plus, B_plus, G_plus⟩ := has_plus (P := P) (w := w) (base := base) T
  obtain ⟨f_times, fd_times, F_times, M_times, B_times, G_times⟩ := has_times (P := P) (w := w) (base := base) T
  refine ⟨f, fd, F, M, F.binds (ps := ["table", "vector"]) (fun _ _ _ _ _ _ us hl => match us, hl with | [_, _], _ => rfl), F.ok sc_taken (fun vs H Q E h => ?_) (fun cdv A outer s H vs Q E hr h => ?_)⟩
  · obtain ⟨G, x, hB, r, hp, q⟩ := h; rw [r.len]; rfl
  · obtain ⟨G, ⟨x, y, z, u, p, q, a, b⟩, hB, r, ⟨hx, hy, hz, hu, hp, hq, hn⟩, k⟩ := h
    refine ⟨_, (pss_cons (ps_asg (pv 1) (pg_tup rfl (pgs_cons (pg_name (i := 2) sc_taken.nd rfl (.inl rfl)) (pgs_cons (pg_name (i := 3) sc_taken.nd rfl (.inl rfl)) pgs_nil)))) (pss_one (ps_ret (pe_tup (pa_cons (pe_call G_plus (hr.mono (by decide)) (by rfl) M_plus F_plus.kp B_plus .nil pass0 (pa_cons (pe_call G_times (hr.mono (by decide)) (by rfl) M_times F_times.kp B_times .nil pass0 (pa_cons (pe_fld (pv 0) rfl) (pa_cons (pv 2) pa_nil))) (pa_cons (pe_call G_times (hr.mono (by decide)) (by rfl) M_times F_times.kp B_times .nil pass0 (pa_cons (pe_fld (pv 0) rfl) (pa_cons (pv 3) pa_nil))) pa_nil))) (pa_cons (pe_call G_plus (hr.mono (by decide)) (by rfl) M_plus F_plus.kp B_plus .nil pass0 (pa_cons (pe_call G_times (hr.mono (by decide)) (by rfl) M_times F_times.kp B_times .nil pass0 (pa_cons (pe_fld (pv 0) rfl) (pa_cons (pv 2) pa_nil))) (pa_cons (pe_call G_times (hr.mono (by decide)) (by rfl) M_times F_times.kp B_times .nil pass0 (pa_cons (pe_fld (pv 0) rfl) (pa_cons (pv 3) pa_nil))) pa_nil))) pa_nil)))))), ?_⟩
    replace hx : SzR a x := hx
    replace hy : SzR a y := hy
    replace hz : SzR a z := hz
    replace hu : SzR a u := hu
    replace hp : SzR b p := hp
    replace hq : SzR b q := hq
    replace hn : 2 * a + 2 * b + 2 ≤ 8000 := hn
    replace k : ∀ d v H', d = (.tup [(fr (((x * p) + (y * q)))), (fr (((z * p) + (u * q))))] : D) → Rep K G.M H' d v → Same H H' → G.B H' → Q v H' := k
    obtain ⟨v0_0, _, rfl, r0_0, rt0⟩ := cons_of r
    replace r0_0 : Rep K G.M H (tbD C (x) (y) (z) (u)) v0_0 := r0_0
    obtain ⟨v0_1, _, rfl, r0_1, rt1⟩ := cons_of rt0
    replace r0_1 : Rep K G.M H (.tup [(fr (p)), (fr (q))]) v0_1 := r0_1
    obtain rfl := nil_of rt1
    with_reducible refine k_seq ?_
    with_reducible refine k_asg ?_
    refine k_val (val_var rfl) ?_
    refine f_unpT [2, 3] (r0_1) rfl rfl (fun u1 ru1 => ?_)
    obtain ⟨u1_0, _, rfl, ru1_0, rtu1_0⟩ := cons_of ru1
    replace ru1_0 : Rep K G.M H ((fr (p))) u1_0 := ru1_0
    obtain ⟨u1_1, _, rfl, ru1_1, rtu1_1⟩ := cons_of rtu1_0
    replace ru1_1 : Rep K G.M H ((fr (q))) u1_1 := ru1_1
    obtain rfl := nil_of rtu1_1
    with_reducible refine k_ret ?_
    with_reducible refine k_tup ?_
    with_reducible refine k_argX ?_
    with_reducible refine k_call ?_
    with_reducible refine k_argX ?_
    with_reducible refine k_call ?_
    with_reducible refine k_argX ?_
    with_reducible refine k_fld ?_
    refine k_val (val_var rfl) ?_
    refine f_fld (r0_0) Y.cl Y.nA rfl (fun w2 rw2 => ?_)
    replace rw2 : Rep K G.M H ((fr (x))) w2 := rw2
    refine k_arg (val_var rfl) ?_
    with_reducible refine k_nil ?_
    refine k_spF (x, p, a, b) hB (rcons (rw2) (rcons (ru1_0) (rnil (K := K)))) ⟨hx, hp, (by first | omega | (dsimp only; omega))⟩ (fun v1 H1 r1 s1 hB1 => ?_)
    replace r1 : Rep K G.M H1 ((fr ((x * p)))) v1 := r1
    have z1 : SzR ((a + b) + 0) ((x * p)) := (szr_mul hx hp (by omega))
    with_reducible refine k_argX ?_
    with_reducible refine k_call ?_
    with_reducible refine k_argX ?_
    with_reducible refine k_fld ?_
    refine k_val (val_var rfl) ?_
    refine f_fld ((r0_0.up hB (Ex.of s1))) Y.cl Y.nB rfl (fun w3 rw3 => ?_)
    replace rw3 : Rep K G.M H1 ((fr (y))) w3 := rw3
    refine k_arg (val_var rfl) ?_
    with_reducible refine k_nil ?_
    refine k_spF (y, q, a, b) hB1 (rcons (rw3) (rcons ((ru1_1.up hB (Ex.of s1))) (rnil (K := K)))) ⟨hy, hq, (by first | omega | (dsimp only; omega))⟩ (fun v2 H2 r2 s2 hB2 => ?_)
    replace r2 : Rep K G.M H2 ((fr ((y * q)))) v2 := r2
    have z2 : SzR ((a + b) + 0) ((y * q)) := (szr_mul hy hq (by omega))
    with_reducible refine k_nil ?_
    refine k_spF ((x * p), (y * q), ((a + b) + 0), ((a + b) + 0)) hB2 (rcons ((r1.up hB1 (Ex.of s2))) (rcons (r2) (rnil (K := K)))) ⟨z1, z2, (by first | omega | (dsimp only; omega))⟩ (fun v3 H3 r3 s3 hB3 => ?_)
    replace r3 : Rep K G.M H3 ((fr (((x * p) + (y * q))))) v3 := r3
    have z3 : SzR ((((a + b) + 0) + ((a + b) + 0)) + 1) (((x * p) + (y * q))) := (szr_add z1 z2 (by omega))
    with_reducible refine k_argX ?_
    with_reducible refine k_call ?_
    with_reducible refine k_argX ?_
    with_reducible refine k_call ?_
    with_reducible refine k_argX ?_
    with_reducible refine k_fld ?_
    refine k_val (val_var rfl) ?_
    have q5 := (((r0_0.up hB (Ex.of s1)).up hB1 (Ex.of s2)).up hB2 (Ex.of s3))
    refine f_fld (q5) Y.cl Y.nC rfl (fun w4 rw4 => ?_)
    replace rw4 : Rep K G.M H3 ((fr (z))) w4 := rw4
    refine k_arg (val_var rfl) ?_
    with_reducible refine k_nil ?_
    have q6 := (((ru1_0.up hB (Ex.of s1)).up hB1 (Ex.of s2)).up hB2 (Ex.of s3))
    refine k_spF (z, p, a, b) hB3 (rcons (rw4) (rcons (q6) (rnil (K := K)))) ⟨hz, hp, (by first | omega | (dsimp only; omega))⟩ (fun v4 H4 r4 s4 hB4 => ?_)
    replace r4 : Rep K G.M H4 ((fr ((z * p)))) v4 := r4
    have z4 : SzR ((a + b) + 0) ((z * p)) := (szr_mul hz hp (by omega))
    with_reducible refine k_argX ?_
    with_reducible refine k_call ?_
    with_reducible refine k_argX ?_
    with_reducible refine k_fld ?_
    refine k_val (val_var rfl) ?_
    refine f_fld ((q5.up hB3 (Ex.of s4))) Y.cl Y.nD rfl (fun w7 rw7 => ?_)
    replace rw7 : Rep K G.M H4 ((fr (u))) w7 := rw7
    refine k_arg (val_var rfl) ?_
    with_reducible refine k_nil ?_
    have q8 := ((((ru1_1.up hB (Ex.of s1)).up hB1 (Ex.of s2)).up hB2 (Ex.of s3)).up hB3 (Ex.of s4))
    refine k_spF (u, q, a, b) hB4 (rcons (rw7) (rcons (q8) (rnil (K := K)))) ⟨hu, hq, (by first | omega | (dsimp only; omega))⟩ (fun v5 H5 r5 s5 hB5 => ?_)
    replace r5 : Rep K G.M H5 ((fr ((u * q)))) v5 := r5
    have z5 : SzR ((a + b) + 0) ((u * q)) := (szr_mul hu hq (by omega))
    with_reducible refine k_nil ?_
    refine k_spF ((z * p), (u * q), ((a + b) + 0), ((a + b) + 0)) hB5 (rcons ((r4.up hB4 (Ex.of s5))) (rcons (r5) (rnil (K := K)))) ⟨z4, z5, (by first | omega | (dsimp only; omega))⟩ (fun v6 H6 r6 s6 hB6 => ?_)
    replace r6 : Rep K G.M H6 ((fr (((z * p) + (u * q))))) v6 := r6
    have z6 : SzR ((((a + b) + 0) + ((a + b) + 0)) + 1) (((z * p) + (u * q))) := (szr_add z4 z5 (by omega))
    with_reducible refine k_nil ?_
    have q9 := (((r3.up hB3 (Ex.of s4)).up hB4 (Ex.of s5)).up hB5 (Ex.of s6))
    refine k_tup_end hB6 (rcons (q9) (rcons (r6) (rnil (K := K)))) (fun v7 H7 r7 s7 hB7 => ?_)
    exact k _ _ _ rfl (r7) ((((((s1.trans s2).trans s3).trans s4).trans s5).trans s6).trans s7) hB7
def sp_columns (K : PySem.W.Frag) (C : Addr) : Sp := spF K (α := Rat × Rat × Rat × Rat) (fun x => [.tup [(fr (x.1)), (fr (x.2.1))], .tup [(fr (x.2.2.1)), (fr (x.2.2.2))]]) (fun x => True) (fun x => (tbD C (x.1) (x.2.2.1) (x.2.1) (x.2.2.2) : D))
theorem has_columns {C : Addr} (T : Tx K mg) (Y : TabTx K mg w C) : ∃ f fd, Fun K "columns" "columns" s_columns f fd ∧ mg "columns" = some (.ref f) ∧ Binds K fd ["left", "right"] [] ∧ FnOk P w K mg base CX0 5 f fd ["left", "right"] (sp_columns K C) := by
  obtain ⟨f, fd, F, M⟩ := T.columns
  obtain ⟨f_T, fd_T, mk_T, B_T, G_T⟩ := has_init (P := P) (w := w) (base := base) T Y
  refine ⟨f, fd, F, M, F.binds (ps := ["left", "right"]) (fun _ _ _ _ _ _ us hl => match us, hl with | [_, _], _ => rfl), F.ok sc_columns (fun vs H Q E h => ?_) (fun cdv A outer s H vs Q E hr h => ?_)⟩
  · obtain ⟨G, x, hB, r, hp, q⟩ := h; rw [r.len]; rfl
  · obtain ⟨G, ⟨x, y, z, u⟩, hB, r, _, k⟩ := h
    refine ⟨_, (pss_one (ps_ret (pe_make mk_T G_T (hr.mono (by decide)) (by rfl) Y.g B_T .nil pass0 (pa_cons (pe_ix (ix_tupK (K := K)) (pv 0) pe_int (fun _ _ => rfl)) (pa_cons (pe_ix (ix_tupK (K := K)) (pv 1) pe_int (fun _ _ => rfl)) (pa_cons (pe_ix (ix_tupK (K := K)) (pv 0) pe_int (fun _ _ => rfl)) (pa_cons (pe_ix (ix_tupK (K := K)) (pv 1) pe_int (fun _ _ => rfl)) pa_nil))))))), ?_⟩
    replace k : ∀ d v H', d = (tbD C (x) (z) (y) (u) : D) → Rep K G.M H' d v → Same H H' → G.B H' → Q v H' := k
    obtain ⟨v0_0, _, rfl, r0_0, rt0⟩ := cons_of r
    replace r0_0 : Rep K G.M H (.tup [(fr (x)), (fr (y))]) v0_0 := r0_0
    obtain ⟨v0_1, _, rfl, r0_1, rt1⟩ := cons_of rt0
    replace r0_1 : Rep K G.M H (.tup [(fr (z)), (fr (u))]) v0_1 := r0_1
    obtain rfl := nil_of rt1
    with_reducible refine k_ret ?_
    with_reducible refine k_make ?_
    with_reducible refine k_argX ?_
    with_reducible refine k_opX ?_
    refine k_val (val_var rfl) ?_
    refine k_val val_c ?_
    refine f_ixT (k := 0) (r0_0) rfl (fun w1 rw1 => ?_)
    with_reducible refine k_argX ?_
    with_reducible refine k_opX ?_
    refine k_val (val_var rfl) ?_
    refine k_val val_c ?_
    refine f_ixT (k := 0) (r0_1) rfl (fun w2 rw2 => ?_)
    with_reducible refine k_argX ?_
    with_reducible refine k_opX ?_
    refine k_val (val_var rfl) ?_
    refine k_val val_c ?_
    refine f_ixT (k := 1) (r0_0) rfl (fun w3 rw3 => ?_)
    with_reducible refine k_argX ?_
    with_reducible refine k_opX ?_
    refine k_val (val_var rfl) ?_
    refine k_val val_c ?_
    refine f_ixT (k := 1) (r0_1) rfl (fun w4 rw4 => ?_)
    with_reducible refine k_nil ?_
    refine k_make_end hB (rcons (rw1) (rcons (rw2) (rcons (rw3) (rcons (rw4) (rnil (K := K)))))) (fun v1 H1 r1 s1 hB1 => ?_)
    replace r1 : Rep K G.M H1 (tbD C (x) (z) (y) (u)) v1 := r1
    exact k _ _ _ rfl (r1) s1 hB1
def sp_Table___mul__ (K : PySem.W.Frag) (C : Addr) : Sp := spF K (α := Rat × Rat × Rat × Rat × Rat × Rat × Rat × Rat × Nat × Nat) (fun x => [tbD C (x.1) (x.2.1) (x.2.2.1) (x.2.2.2.1), tbD C (x.2.2.2.2.1) (x.2.2.2.2.2.1) (x.2.2.2.2.2.2.1) (x.2.2.2.2.2.2.2.1)]) (fun x => SzR x.2.2.2.2.2.2.2.2.1 x.1 ∧ SzR x.2.2.2.2.2.2.2.2.1 x.2.1 ∧ SzR x.2.2.2.2.2.2.2.2.1 x.2.2.1 ∧ SzR x.2.2.2.2.2.2.2.2.1 x.2.2.2.1 ∧ SzR x.2.2.2.2.2.2.2.2.2 x.2.2.2.2.1 ∧ SzR x.2.2.2.2.2.2.2.2.2 x.2.2.2.2.2.1 ∧ SzR x.2.2.2.2.2.2.2.2.2 x.2.2.2.2.2.2.1 ∧ SzR x.2.2.2.2.2.2.2.2.2 x.2.2.2.2.2.2.2.1 ∧ 2 * x.2.2.2.2.2.2.2.2.1 + 2 * x.2.2.2.2.2.2.2.2.2 + 2 ≤ 8000) (fun x => (tbD C (((x.1 * x.2.2.2.2.1) + (x.2.1 * x.2.2.2.2.2.2.1))) (((x.1 * x.2.2.2.2.2.1) + (x.2.1 * x.2.2.2.2.2.2.2.1))) (((x.2.2.1 * x.2.2.2.2.1) + (x.2.2.2.1 * x.2.2.2.2.2.2.1))) (((x.2.2.1 * x.2.2.2.2.2.1) + (x.2.2.2.1 * x.2.2.2.2.2.2.2.1))) : D))
theorem has_Table___mul__ {C : Addr} (T : Tx K mg) (Y : TabTx K mg w C) : ∃ f fd, Fun K "__mul__" "Table.__mul__" s_Table___mul__ f fd ∧ (PySem.W.findIn K (.ref C) "__mul__" = some (some (.ref f)) ∧ PySem.W.isFn K (.ref f) = true) ∧ Binds K fd ["self", "other"] [] ∧ FnOk P w K mg base CX0 6 f fd ["self", "other"] (sp_Table___mul__ K C) := by
  obtain ⟨f, fd, F, M⟩ := Y.mul
  obtain ⟨f_taken, fd_taken, F_taken, M_taken, B_taken, G_taken⟩ := has_taken (P := P) (w := w) (base := base) T Y
  obtain ⟨f_columns, fd_columns, F_columns, M_columns, B_columns, G_columns⟩ := has_columns (P := P) (w := w) (base := base) T Y
  refine ⟨f, fd, F, M, F.binds (ps := ["self", "other"]) (fun _ _ _ _ _ _ us hl => match us, hl with | [_, _], _ => rfl), F.ok sc_Table___mul__ (fun vs H Q E h => ?_) (fun cdv A outer s H vs Q E hr h => ?_)⟩
  · obtain ⟨G, x, hB, r, hp, q⟩ := h; rw [r.len]; rfl
  · obtain ⟨G, ⟨x, y, z, u, ma, mb, mc, md, a, b⟩, hB, r, ⟨hx, hy, hz, hu, hma, hmb, hmc, hmd, hn⟩, k⟩ := h
    refine ⟨_, (pss_cons (ps_set (i := 2) sc_Table___mul__.nd rfl (.inl rfl) (pe_call G_taken (hr.mono (by decide)) (by rfl) M_taken F_taken.kp B_taken .nil pass0 (pa_cons (pv 0) (pa_cons (pe_tup (pa_cons (pe_fld (pv 1) rfl) (pa_cons (pe_fld (pv 1) rfl) pa_nil))) pa_nil)))) (pss_cons (ps_set (i := 3) sc_Table___mul__.nd rfl (.inl rfl) (pe_call G_taken (hr.mono (by decide)) (by rfl) M_taken F_taken.kp B_taken .nil pass0 (pa_cons (pv 0) (pa_cons (pe_tup (pa_cons (pe_fld (pv 1) rfl) (pa_cons (pe_fld (pv 1) rfl) pa_nil))) pa_nil)))) (pss_one (ps_ret (pe_call G_columns (hr.mono (by decide)) (by rfl) M_columns F_columns.kp B_columns .nil pass0 (pa_cons (pv 2) (pa_cons (pv 3) pa_nil))))))), ?_⟩
    replace hx : SzR a x := hx
    replace hy : SzR a y := hy
    replace hz : SzR a z := hz
    replace hu : SzR a u := hu
    replace hma : SzR b ma := hma
    replace hmb : SzR b mb := hmb
    replace hmc : SzR b mc := hmc
    replace hmd : SzR b md := hmd
    replace hn : 2 * a + 2 * b + 2 ≤ 8000 := hn
    replace k : ∀ d v H', d = (tbD C (((x * ma) + (y * mc))) (((x * mb) + (y * md))) (((z * ma) + (u * mc))) (((z * mb) + (u * md))) : D) → Rep K G.M H' d v → Same H H' → G.B H' → Q v H' := k
    obtain ⟨v0_0, _, rfl, r0_0, rt0⟩ := cons_of r
    replace r0_0 : Rep K G.M H (tbD C (x) (y) (z) (u)) v0_0 := r0_0
    obtain ⟨v0_1, _, rfl, r0_1, rt1⟩ := cons_of rt0
    replace r0_1 : Rep K G.M H (tbD C (ma) (mb) (mc) (md)) v0_1 := r0_1
    obtain rfl := nil_of rt1
    with_reducible refine k_seq ?_
    with_reducible refine k_set ?_
    with_reducible refine k_call ?_
    refine k_arg (val_var rfl) ?_
    with_reducible refine k_argX ?_
    with_reducible refine k_tup ?_
    with_reducible refine k_argX ?_
    with_reducible refine k_fld ?_
    refine k_val (val_var rfl) ?_
    refine f_fld (r0_1) Y.cl Y.nA rfl (fun w1 rw1 => ?_)
    replace rw1 : Rep K G.M H ((fr (ma))) w1 := rw1
    with_reducible refine k_argX ?_
    with_reducible refine k_fld ?_
    refine k_val (val_var rfl) ?_
    refine f_fld (r0_1) Y.cl Y.nC rfl (fun w2 rw2 => ?_)
    replace rw2 : Rep K G.M H ((fr (mc))) w2 := rw2
    with_reducible refine k_nil ?_
    refine k_tup_end hB (rcons (rw1) (rcons (rw2) (rnil (K := K)))) (fun v1 H1 r1 s1 hB1 => ?_)
    with_reducible refine k_nil ?_
    refine k_spF (x, y, z, u, ma, mc, a, b) hB1 (rcons ((r0_0.up hB (Ex.of s1))) (rcons (r1) (rnil (K := K)))) ⟨hx.mono (by first | omega | (dsimp only; omega)), hy.mono (by first | omega | (dsimp only; omega)), hz.mono (by first | omega | (dsimp only; omega)), hu.mono (by first | omega | (dsimp only; omega)), hma.mono (by first | omega | (dsimp only; omega)), hmc.mono (by first | omega | (dsimp only; omega)), (by first | omega | (dsimp only; omega))⟩ (fun v2 H2 r2 s2 hB2 => ?_)
    replace r2 : Rep K G.M H2 (.tup [(fr (((x * ma) + (y * mc)))), (fr (((z * ma) + (u * mc))))]) v2 := r2
    have z2_0 : SzR (2 * a + 2 * b + 1) (((x * ma) + (y * mc))) := (szr_add (szr_mul hx hma (Nat.le_refl _)) (szr_mul hy hmc (Nat.le_refl _)) (by omega))
    have z2_1 : SzR (2 * a + 2 * b + 1) (((z * ma) + (u * mc))) := (szr_add (szr_mul hz hma (Nat.le_refl _)) (szr_mul hu hmc (Nat.le_refl _)) (by omega))
    with_reducible refine k_seq ?_
    with_reducible refine k_set ?_
    with_reducible refine k_call ?_
    refine k_arg (val_var rfl) ?_
    with_reducible refine k_argX ?_
    with_reducible refine k_tup ?_
    with_reducible refine k_argX ?_
    with_reducible refine k_fld ?_
    refine k_val (val_var rfl) ?_
    have q4 := ((r0_1.up hB (Ex.of s1)).up hB1 (Ex.of s2))
    refine f_fld (q4) Y.cl Y.nB rfl (fun w3 rw3 => ?_)
    replace rw3 : Rep K G.M H2 ((fr (mb))) w3 := rw3
    with_reducible refine k_argX ?_
    with_reducible refine k_fld ?_
    refine k_val (val_var rfl) ?_
    refine f_fld (q4) Y.cl Y.nD rfl (fun w5 rw5 => ?_)
    replace rw5 : Rep K G.M H2 ((fr (md))) w5 := rw5
    with_reducible refine k_nil ?_
    refine k_tup_end hB2 (rcons (rw3) (rcons (rw5) (rnil (K := K)))) (fun v3 H3 r3 s3 hB3 => ?_)
    with_reducible refine k_nil ?_
    have q6 := (((r0_0.up hB (Ex.of s1)).up hB1 (Ex.of s2)).up hB2 (Ex.of s3))
    refine k_spF (x, y, z, u, mb, md, a, b) hB3 (rcons (q6) (rcons (r3) (rnil (K := K)))) ⟨hx.mono (by first | omega | (dsimp only; omega)), hy.mono (by first | omega | (dsimp only; omega)), hz.mono (by first | omega | (dsimp only; omega)), hu.mono (by first | omega | (dsimp only; omega)), hmb.mono (by first | omega | (dsimp only; omega)), hmd.mono (by first | omega | (dsimp only; omega)), (by first | omega | (dsimp only; omega))⟩ (fun v4 H4 r4 s4 hB4 => ?_)
    replace r4 : Rep K G.M H4 (.tup [(fr (((x * mb) + (y * md)))), (fr (((z * mb) + (u * md))))]) v4 := r4
    have z4_0 : SzR (2 * a + 2 * b + 1) (((x * mb) + (y * md))) := (szr_add (szr_mul hx hmb (Nat.le_refl _)) (szr_mul hy hmd (Nat.le_refl _)) (by omega))
    have z4_1 : SzR (2 * a + 2 * b + 1) (((z * mb) + (u * md))) := (szr_add (szr_mul hz hmb (Nat.le_refl _)) (szr_mul hu hmd (Nat.le_refl _)) (by omega))
    with_reducible refine k_ret ?_
    with_reducible refine k_call ?_
    refine k_arg (val_var rfl) ?_
    refine k_arg (val_var rfl) ?_
    with_reducible refine k_nil ?_
    have q7 := ((r2.up hB2 (Ex.of s3)).up hB3 (Ex.of s4))
    refine k_spF (((x * ma) + (y * mc)), ((z * ma) + (u * mc)), ((x * mb) + (y * md)), ((z * mb) + (u * md))) hB4 (rcons (q7) (rcons (r4) (rnil (K := K)))) trivial (fun v5 H5 r5 s5 hB5 => ?_)
    replace r5 : Rep K G.M H5 (tbD C (((x * ma) + (y * mc))) (((x * mb) + (y * md))) (((z * ma) + (u * mc))) (((z * mb) + (u * md)))) v5 := r5
    exact k _ _ _ rfl (r5) ((((s1.trans s2).trans s3).trans s4).trans s5) hB5
end
end Px

namespace Px
open PySem PySem.Spec PyProof.Rows L2
section
variable {P : Program} {w : World} {K : PySem.W.Frag} {mg : Str → Option Value} {base : Heap}
def sp_Table___eq__ (K : PySem.W.Frag) (C : Addr) : Sp := spF K (α := Tb × Tb) (fun x => [tbI C (x.1), tbI C (x.2)]) (fun x => True) (fun x => (.bl ((decide (x.1 = x.2))) : D))
theorem has_Table___eq__ {C : Addr} (T : Tx K mg) (Y : TabTx K mg w C) : ∃ f fd, Fun K "__eq__" "Table.__eq__" s_Table___eq__ f fd ∧ (PySem.W.findIn K (.ref C) (PySem.cmpInfo .Eq).2.1 = some (some (.ref f)) ∧ PySem.W.isFn K (.ref f) = true) ∧ Binds K fd ["self", "other"] [] ∧ FnOk P w K mg base CX0 2 f fd ["self", "other"] (sp_Table___eq__ K C) := by
  obtain ⟨f, fd, F, M⟩ := Y.eq
  obtain ⟨f_Table_entries, fd_Table_entries, F_Table_entries, M_Table_entries, B_Table_entries, G_Table_entries⟩ := has_Table_entries (P := P) (w := w) (base := base) T Y
  refine ⟨f, fd, F, M, F.binds (ps := ["self", "other"]) (fun _ _ _ _ _ _ us hl => match us, hl with | [_, _], _ => rfl), F.ok sc_Table___eq__ (fun vs H Q E h => ?_) (fun cdv A outer s H vs Q E hr h => ?_)⟩
  · obtain ⟨G, x, hB, r, hp, q⟩ := h; rw [r.len]; rfl
  · obtain ⟨G, ⟨t, o⟩, hB, r, _, k⟩ := h
    refine ⟨_, (pss_one (ps_ret (pe_and (pe_callB call_isi (by rfl) T.isinstance (by decide +kernel) (pa_cons (pv 1) (pa_cons (pe_glob (v := .ref C) (by rfl) Y.g rfl) pa_nil))) (pe_one (pe_cmpR (op_eqD hr.units) (pe_meth0 (pv 0) Y.cl M_Table_entries G_Table_entries (hr.mono (by decide)) B_Table_entries .nil pass0) (pe_meth0 (pv 1) Y.cl M_Table_entries G_Table_entries (hr.mono (by decide)) B_Table_entries .nil pass0) (nomark _)))))), ?_⟩
    replace k : ∀ d v H', d = (.bl ((decide (t = o))) : D) → Rep K G.M H' d v → Same H H' → G.B H' → Q v H' := k
    obtain ⟨v0_0, _, rfl, r0_0, rt0⟩ := cons_of r
    replace r0_0 : Rep K G.M H (tbI C (t)) v0_0 := r0_0
    obtain ⟨v0_1, _, rfl, r0_1, rt1⟩ := cons_of rt0
    replace r0_1 : Rep K G.M H (tbI C (o)) v0_1 := r0_1
    obtain rfl := nil_of rt1
    with_reducible refine k_ret ?_
    with_reducible refine k_andV ?_
    refine k_val (v_isiC Y.isi (val_var rfl) val_c (r0_1)) ?_
    refine ⟨_, rfl, ?_⟩
    refine iteT ?_
    with_reducible refine k_opX ?_
    with_reducible refine k_meth ?_
    refine k_val (val_var rfl) ?_
    refine f_meth (r0_0) (by decide +kernel) ?_
    with_reducible refine k_nil ?_
    refine k_spF ((t).a, (t).b, (t).c, (t).d) hB (rcons (r0_0) (rnil (K := K))) trivial (fun v1 H1 r1 s1 hB1 => ?_)
    replace r1 : Rep K G.M H1 (.tup [(fr ((t).a)), (fr ((t).b)), (fr ((t).c)), (fr ((t).d))]) v1 := r1
    with_reducible refine k_meth ?_
    refine k_val (val_var rfl) ?_
    refine f_meth ((r0_1.up hB (Ex.of s1))) (by decide +kernel) ?_
    with_reducible refine k_nil ?_
    refine k_spF ((o).a, (o).b, (o).c, (o).d) hB1 (rcons ((r0_1.up hB (Ex.of s1))) (rnil (K := K))) trivial (fun v2 H2 r2 s2 hB2 => ?_)
    replace r2 : Rep K G.M H2 (.tup [(fr ((o).a)), (fr ((o).b)), (fr ((o).c)), (fr ((o).d))]) v2 := r2
    refine f_eqD ((r1.up hB1 (Ex.of s2))) (r2) (eqv_tb ((⟨(t).a, (t).b, (t).c, (t).d⟩ : Tb)) ((⟨(o).a, (o).b, (o).c, (o).d⟩ : Tb))) ?_
    exact k _ _ _ rfl (rbl _) (s1.trans s2) hB2
def sp_Table_identity (K : PySem.W.Frag) (C : Addr) : Sp := spF K (α := Unit) (fun x => []) (fun x => True) (fun x => (tbI C oneT : D))
theorem has_Table_identity {C : Addr} (T : Tx K mg) (Y : TabTx K mg w C) : ∃ f fd, Fun K "identity" "Table.identity" s_Table_identity f fd ∧ Stat K C "identity" f ∧ Binds K fd [] [] ∧ FnOk P w K mg base CX0 5 f fd [] (sp_Table_identity K C) := by
  obtain ⟨f, fd, F, M⟩ := Y.identity
  obtain ⟨f_T, fd_T, mk_T, B_T, G_T⟩ := has_init (P := P) (w := w) (base := base) T Y
  obtain ⟨a_ONE, m_ONE, r_ONE⟩ := Y.cONE
  obtain ⟨a_ZERO, m_ZERO, r_ZERO⟩ := Y.cZERO
  refine ⟨f, fd, F, M, F.binds (ps := []) (fun _ _ _ _ _ _ us hl => match us, hl with | [], _ => rfl), F.ok sc_Table_identity (fun vs H Q E h => ?_) (fun cdv A outer s H vs Q E hr h => ?_)⟩
  · obtain ⟨G, x, hB, r, hp, q⟩ := h; rw [r.len]; rfl
  · obtain ⟨G, _, hB, r, _, k⟩ := h
    refine ⟨_, (pss_one (ps_ret (pe_make mk_T G_T (hr.mono (by decide)) (by rfl) Y.g B_T .nil pass0 (pa_cons (pe_glob (v := (.ref a_ONE)) (by rfl) m_ONE rfl) (pa_cons (pe_glob (v := (.ref a_ZERO)) (by rfl) m_ZERO rfl) (pa_cons (pe_glob (v := (.ref a_ZERO)) (by rfl) m_ZERO rfl) (pa_cons (pe_glob (v := (.ref a_ONE)) (by rfl) m_ONE rfl) pa_nil))))))), ?_⟩
    replace k : ∀ d v H', d = (tbI C oneT : D) → Rep K G.M H' d v → Same H H' → G.B H' → Q v H' := k
    obtain rfl := nil_of r
    with_reducible refine k_ret ?_
    with_reducible refine k_make ?_
    refine k_arg val_c ?_
    refine k_arg val_c ?_
    refine k_arg val_c ?_
    refine k_arg val_c ?_
    with_reducible refine k_nil ?_
    refine k_make_end hB (rcons (r_ONE G.M H) (rcons (r_ZERO G.M H) (rcons (r_ZERO G.M H) (rcons (r_ONE G.M H) (rnil (K := K)))))) (fun v1 H1 r1 s1 hB1 => ?_)
    replace r1 : Rep K G.M H1 (tbD C ((1 : Rat)) ((0 : Rat)) ((0 : Rat)) ((1 : Rat))) v1 := r1
    exact k _ _ _ rfl (r1) s1 hB1
def sp_Table_zero (K : PySem.W.Frag) (C : Addr) : Sp := spF K (α := Unit) (fun x => []) (fun x => True) (fun x => (tbI C zeroT : D))
theorem has_Table_zero {C : Addr} (T : Tx K mg) (Y : TabTx K mg w C) : ∃ f fd, Fun K "zero" "Table.zero" s_Table_zero f fd ∧ Stat K C "zero" f ∧ Binds K fd [] [] ∧ FnOk P w K mg base CX0 5 f fd [] (sp_Table_zero K C) := by
  obtain ⟨f, fd, F, M⟩ := Y.zero
  obtain ⟨f_T, fd_T, mk_T, B_T, G_T⟩ := has_init (P := P) (w := w) (base := base) T Y
  obtain ⟨a_ONE, m_ONE, r_ONE⟩ := Y.cONE
  obtain ⟨a_ZERO, m_ZERO, r_ZERO⟩ := Y.cZERO
  refine ⟨f, fd, F, M, F.binds (ps := []) (fun _ _ _ _ _ _ us hl => match us, hl with | [], _ => rfl), F.ok sc_Table_zero (fun vs H Q E h => ?_) (fun cdv A outer s H vs Q E hr h => ?_)⟩
  · obtain ⟨G, x, hB, r, hp, q⟩ := h; rw [r.len]; rfl
  · obtain ⟨G, _, hB, r, _, k⟩ := h
    refine ⟨_, (pss_one (ps_ret (pe_make mk_T G_T (hr.mono (by decide)) (by rfl) Y.g B_T .nil pass0 (pa_cons (pe_glob (v := (.ref a_ZERO)) (by rfl) m_ZERO rfl) (pa_cons (pe_glob (v := (.ref a_ZERO)) (by rfl) m_ZERO rfl) (pa_cons (pe_glob (v := (.ref a_ZERO)) (by rfl) m_ZERO rfl) (pa_cons (pe_glob (v := (.ref a_ZERO)) (by rfl) m_ZERO rfl) pa_nil))))))), ?_⟩
    replace k : ∀ d v H', d = (tbI C zeroT : D) → Rep K G.M H' d v → Same H H' → G.B H' → Q v H' := k
    obtain rfl := nil_of r
    with_reducible refine k_ret ?_
    with_reducible refine k_make ?_
    refine k_arg val_c ?_
    refine k_arg val_c ?_
    refine k_arg val_c ?_
    refine k_arg val_c ?_
    with_reducible refine k_nil ?_
    refine k_make_end hB (rcons (r_ZERO G.M H) (rcons (r_ZERO G.M H) (rcons (r_ZERO G.M H) (rcons (r_ZERO G.M H) (rnil (K := K)))))) (fun v1 H1 r1 s1 hB1 => ?_)
    replace r1 : Rep K G.M H1 (tbD C ((0 : Rat)) ((0 : Rat)) ((0 : Rat)) ((0 : Rat))) v1 := r1
    exact k _ _ _ rfl (r1) s1 hB1
def sp_own_count (K : PySem.W.Frag) (C : Addr) : Sp := spF K (α := Kd) (fun x => [.str ((kdS x))]) (fun x => True) (fun x => (.int (((ownN x : Nat) : Int)) : D))
theorem has_own_count {C : Addr} (T : Tx K mg) (Y : TabTx K mg w C) : ∃ f fd, Fun K "own_count" "own_count" s_own_count f fd ∧ mg "own_count" = some (.ref f) ∧ Binds K fd ["kind"] [] ∧ FnOk P w K mg base CX0 1 f fd ["kind"] (sp_own_count K C) := by
  obtain ⟨f, fd, F, M⟩ := T.own_count
  obtain ⟨a_PL, m_PL, h_PL⟩ := Y.places
  refine ⟨f, fd, F, M, F.binds (ps := ["kind"]) (fun _ _ _ _ _ _ us hl => match us, hl with | [_], _ => rfl), F.ok sc_own_count (fun vs H Q E h => ?_) (fun cdv A outer s H vs Q E hr h => ?_)⟩
  · obtain ⟨G, x, hB, r, hp, q⟩ := h; rw [r.len]; rfl
  · obtain ⟨G, kd, hB, r, _, k⟩ := h
    refine ⟨_, (pss_one (ps_ret (pe_op op_add (pe_callB (cr_maxK (K := K) (by rfl)) (by rfl) T.max (by decide +kernel) (pa_cons (pe_lc (own := [("own", 1), ("_", 2)]) (g := gPair K 1 2) (tt := tYes) (by rfl) sc_own_count.nd (pi_tupK (K := K) (pe_ix ix_kdict (pe_glob (v := .ref a_PL) (by rfl) m_PL rfl) (pv 0) (fun _ _ => rfl))) (blkOk_by (own := [("own", 1), ("_", 2)]) (N := ["kind", "own", "_"]) (sc := (defScope s_own_count)) (by decide +kernel)) (fun _ _ _ _ _ => pg_tupK (K := K) rfl (pgs_cons (pg_name (i := 1) sc_own_count.nd rfl (.inl rfl)) (pgs_cons (pg_name (i := 2) sc_own_count.nd rfl (.inl rfl)) pgs_nil))) (fun _ _ _ _ _ => pts_nil) (fun _ _ _ _ _ => (pv 1))) pa_nil)) pe_int))), ?_⟩
    cases kd
    · replace k : ∀ d v H', d = (.int ((4 : Int)) : D) → Rep K G.M H' d v → Same H H' → G.B H' → Q v H' := k
      obtain ⟨v0_0, _, rfl, r0_0, rt0⟩ := cons_of r
      replace r0_0 : Rep K G.M H (.str (("slanted" : Str))) v0_0 := r0_0
      obtain rfl := str_of r0_0
      obtain rfl := nil_of rt0
      with_reducible refine k_ret ?_
      with_reducible refine k_opX ?_
      with_reducible refine k_cb ?_
      with_reducible refine k_argX ?_
      with_reducible refine k_lct ?_
      with_reducible refine k_opX ?_
      refine k_val val_c ?_
      refine k_val (val_var rfl) ?_
      obtain ⟨v_PL1, d_PL1, r_PL1⟩ := h_PL Kd.slanted
      refine f_ixK d_PL1 ?_
      refine k_lcTP (K := K) (i := 1) (j := 2) (vs := [1, 2]) (ps := entsK Kd.slanted) (by decide) hB (r_PL1 G.M H) (fun i x => ([.int (0 : Int), .int (1 : Int), .int (2 : Int), .int (3 : Int)] : List D)[i]? = some x) (by intro _ _; rfl) (fun dc2 ic2 pp2 pq2 Hc2 hic2 nc2 hBc2 ec2 Qc2 kc2 => ?_) (fun ds2 vd2 He2 l2 p2 r2 e2 be2 => ?_)
      · have hB1 := Bg.enterB hB nc2
        have nd1 := nc2
        have hB2 := hBc2
        have e2 := ec2
        rcases ic2 with _ | _ | _ | _ | ic2
        · obtain ⟨rfl, rfl⟩ := pair_of (show some ((0 : Int), (1 : Int)) = some (pp2, pq2) from hic2)
          refine k_val (val_var rfl) ?_
          exact kc2 _ _ _ rfl (rint _) (Ex.of (Same.refl _)) hB2
        · obtain ⟨rfl, rfl⟩ := pair_of (show some ((1 : Int), (1 : Int)) = some (pp2, pq2) from hic2)
          refine k_val (val_var rfl) ?_
          exact kc2 _ _ _ rfl (rint _) (Ex.of (Same.refl _)) hB2
        · obtain ⟨rfl, rfl⟩ := pair_of (show some ((2 : Int), (1 : Int)) = some (pp2, pq2) from hic2)
          refine k_val (val_var rfl) ?_
          exact kc2 _ _ _ rfl (rint _) (Ex.of (Same.refl _)) hB2
        · obtain ⟨rfl, rfl⟩ := pair_of (show some ((3 : Int), (1 : Int)) = some (pp2, pq2) from hic2)
          refine k_val (val_var rfl) ?_
          exact kc2 _ _ _ rfl (rint _) (Ex.of (Same.refl _)) hB2
        · simp [entsK] at hic2
      · have s3 := same_of e2
        have hB3 := be2
        have q2 : ds2 = [.int (0 : Int), .int (1 : Int), .int (2 : Int), .int (3 : Int)] := eq_list l2 p2
        have r3 : Rep K G.M He2 (.lst [.int (0 : Int), .int (1 : Int), .int (2 : Int), .int (3 : Int)]) vd2 := by rw [q2] at r2; exact r2
        with_reducible refine k_nil ?_
        refine f_max (ns := [0, 1, 2, 3]) (3 : Int) (r3) (by decide) (by decide) ?_
        refine k_val val_c ?_
        refine f_op0 ?_
        exact k _ _ _ rfl (rint _) s3 hB3
    · replace k : ∀ d v H', d = (.int ((2 : Int)) : D) → Rep K G.M H' d v → Same H H' → G.B H' → Q v H' := k
      obtain ⟨v0_0, _, rfl, r0_0, rt0⟩ := cons_of r
      replace r0_0 : Rep K G.M H (.str (("turned" : Str))) v0_0 := r0_0
      obtain rfl := str_of r0_0
      obtain rfl := nil_of rt0
      with_reducible refine k_ret ?_
      with_reducible refine k_opX ?_
      with_reducible refine k_cb ?_
      with_reducible refine k_argX ?_
      with_reducible refine k_lct ?_
      with_reducible refine k_opX ?_
      refine k_val val_c ?_
      refine k_val (val_var rfl) ?_
      obtain ⟨v_PL3, d_PL3, r_PL3⟩ := h_PL Kd.turned
      refine f_ixK d_PL3 ?_
      refine k_lcTP (K := K) (i := 1) (j := 2) (vs := [1, 2]) (ps := entsK Kd.turned) (by decide) hB (r_PL3 G.M H) (fun i x => ([.int (0 : Int), .int (1 : Int), .int (1 : Int), .int (0 : Int)] : List D)[i]? = some x) (by intro _ _; rfl) (fun dc4 ic4 pp4 pq4 Hc4 hic4 nc4 hBc4 ec4 Qc4 kc4 => ?_) (fun ds4 vd4 He4 l4 p4 r4 e4 be4 => ?_)
      · have hB4 := Bg.enterB hB nc4
        have nd4 := nc4
        have hB5 := hBc4
        have e5 := ec4
        rcases ic4 with _ | _ | _ | _ | ic4
        · obtain ⟨rfl, rfl⟩ := pair_of (show some ((0 : Int), (1 : Int)) = some (pp4, pq4) from hic4)
          refine k_val (val_var rfl) ?_
          exact kc4 _ _ _ rfl (rint _) (Ex.of (Same.refl _)) hB5
        · obtain ⟨rfl, rfl⟩ := pair_of (show some ((1 : Int), (-1 : Int)) = some (pp4, pq4) from hic4)
          refine k_val (val_var rfl) ?_
          exact kc4 _ _ _ rfl (rint _) (Ex.of (Same.refl _)) hB5
        · obtain ⟨rfl, rfl⟩ := pair_of (show some ((1 : Int), (1 : Int)) = some (pp4, pq4) from hic4)
          refine k_val (val_var rfl) ?_
          exact kc4 _ _ _ rfl (rint _) (Ex.of (Same.refl _)) hB5
        · obtain ⟨rfl, rfl⟩ := pair_of (show some ((0 : Int), (1 : Int)) = some (pp4, pq4) from hic4)
          refine k_val (val_var rfl) ?_
          exact kc4 _ _ _ rfl (rint _) (Ex.of (Same.refl _)) hB5
        · simp [entsK] at hic4
      · have s6 := same_of e4
        have hB6 := be4
        have q4 : ds4 = [.int (0 : Int), .int (1 : Int), .int (1 : Int), .int (0 : Int)] := eq_list l4 p4
        have r6 : Rep K G.M He4 (.lst [.int (0 : Int), .int (1 : Int), .int (1 : Int), .int (0 : Int)]) vd4 := by rw [q4] at r4; exact r4
        with_reducible refine k_nil ?_
        refine f_max (ns := [0, 1, 1, 0]) (1 : Int) (r6) (by decide) (by decide) ?_
        refine k_val val_c ?_
        refine f_op0 ?_
        exact k _ _ _ rfl (rint _) s6 hB6
    · replace k : ∀ d v H', d = (.int ((2 : Int)) : D) → Rep K G.M H' d v → Same H H' → G.B H' → Q v H' := k
      obtain ⟨v0_0, _, rfl, r0_0, rt0⟩ := cons_of r
      replace r0_0 : Rep K G.M H (.str (("mirrored" : Str))) v0_0 := r0_0
      obtain rfl := str_of r0_0
      obtain rfl := nil_of rt0
      with_reducible refine k_ret ?_
      with_reducible refine k_opX ?_
      with_reducible refine k_cb ?_
      with_reducible refine k_argX ?_
      with_reducible refine k_lct ?_
      with_reducible refine k_opX ?_
      refine k_val val_c ?_
      refine k_val (val_var rfl) ?_
      obtain ⟨v_PL5, d_PL5, r_PL5⟩ := h_PL Kd.mirrored
      refine f_ixK d_PL5 ?_
      refine k_lcTP (K := K) (i := 1) (j := 2) (vs := [1, 2]) (ps := entsK Kd.mirrored) (by decide) hB (r_PL5 G.M H) (fun i x => ([.int (0 : Int), .int (1 : Int), .int (1 : Int), .int (0 : Int)] : List D)[i]? = some x) (by intro _ _; rfl) (fun dc6 ic6 pp6 pq6 Hc6 hic6 nc6 hBc6 ec6 Qc6 kc6 => ?_) (fun ds6 vd6 He6 l6 p6 r6 e6 be6 => ?_)
      · have hB7 := Bg.enterB hB nc6
        have nd7 := nc6
        have hB8 := hBc6
        have e8 := ec6
        rcases ic6 with _ | _ | _ | _ | ic6
        · obtain ⟨rfl, rfl⟩ := pair_of (show some ((0 : Int), (1 : Int)) = some (pp6, pq6) from hic6)
          refine k_val (val_var rfl) ?_
          exact kc6 _ _ _ rfl (rint _) (Ex.of (Same.refl _)) hB8
        · obtain ⟨rfl, rfl⟩ := pair_of (show some ((1 : Int), (1 : Int)) = some (pp6, pq6) from hic6)
          refine k_val (val_var rfl) ?_
          exact kc6 _ _ _ rfl (rint _) (Ex.of (Same.refl _)) hB8
        · obtain ⟨rfl, rfl⟩ := pair_of (show some ((1 : Int), (1 : Int)) = some (pp6, pq6) from hic6)
          refine k_val (val_var rfl) ?_
          exact kc6 _ _ _ rfl (rint _) (Ex.of (Same.refl _)) hB8
        · obtain ⟨rfl, rfl⟩ := pair_of (show some ((0 : Int), (-1 : Int)) = some (pp6, pq6) from hic6)
          refine k_val (val_var rfl) ?_
          exact kc6 _ _ _ rfl (rint _) (Ex.of (Same.refl _)) hB8
        · simp [entsK] at hic6
      · have s9 := same_of e6
        have hB9 := be6
        have q6 : ds6 = [.int (0 : Int), .int (1 : Int), .int (1 : Int), .int (0 : Int)] := eq_list l6 p6
        have r9 : Rep K G.M He6 (.lst [.int (0 : Int), .int (1 : Int), .int (1 : Int), .int (0 : Int)]) vd6 := by rw [q6] at r6; exact r6
        with_reducible refine k_nil ?_
        refine f_max (ns := [0, 1, 1, 0]) (1 : Int) (r9) (by decide) (by decide) ?_
        refine k_val val_c ?_
        refine f_op0 ?_
        exact k _ _ _ rfl (rint _) s9 hB9
    · replace k : ∀ d v H', d = (.int ((2 : Int)) : D) → Rep K G.M H' d v → Same H H' → G.B H' → Q v H' := k
      obtain ⟨v0_0, _, rfl, r0_0, rt0⟩ := cons_of r
      replace r0_0 : Rep K G.M H (.str (("stretched" : Str))) v0_0 := r0_0
      obtain rfl := str_of r0_0
      obtain rfl := nil_of rt0
      with_reducible refine k_ret ?_
      with_reducible refine k_opX ?_
      with_reducible refine k_cb ?_
      with_reducible refine k_argX ?_
      with_reducible refine k_lct ?_
      with_reducible refine k_opX ?_
      refine k_val val_c ?_
      refine k_val (val_var rfl) ?_
      obtain ⟨v_PL7, d_PL7, r_PL7⟩ := h_PL Kd.stretched
      refine f_ixK d_PL7 ?_
      refine k_lcTP (K := K) (i := 1) (j := 2) (vs := [1, 2]) (ps := entsK Kd.stretched) (by decide) hB (r_PL7 G.M H) (fun i x => ([.int (0 : Int), .int (0 : Int), .int (0 : Int), .int (1 : Int)] : List D)[i]? = some x) (by intro _ _; rfl) (fun dc8 ic8 pp8 pq8 Hc8 hic8 nc8 hBc8 ec8 Qc8 kc8 => ?_) (fun ds8 vd8 He8 l8 p8 r8 e8 be8 => ?_)
      · have hB10 := Bg.enterB hB nc8
        have nd10 := nc8
        have hB11 := hBc8
        have e11 := ec8
        rcases ic8 with _ | _ | _ | _ | ic8
        · obtain ⟨rfl, rfl⟩ := pair_of (show some ((0 : Int), (1 : Int)) = some (pp8, pq8) from hic8)
          refine k_val (val_var rfl) ?_
          exact kc8 _ _ _ rfl (rint _) (Ex.of (Same.refl _)) hB11
        · obtain ⟨rfl, rfl⟩ := pair_of (show some ((0 : Int), (0 : Int)) = some (pp8, pq8) from hic8)
          refine k_val (val_var rfl) ?_
          exact kc8 _ _ _ rfl (rint _) (Ex.of (Same.refl _)) hB11
        · obtain ⟨rfl, rfl⟩ := pair_of (show some ((0 : Int), (0 : Int)) = some (pp8, pq8) from hic8)
          refine k_val (val_var rfl) ?_
          exact kc8 _ _ _ rfl (rint _) (Ex.of (Same.refl _)) hB11
        · obtain ⟨rfl, rfl⟩ := pair_of (show some ((1 : Int), (1 : Int)) = some (pp8, pq8) from hic8)
          refine k_val (val_var rfl) ?_
          exact kc8 _ _ _ rfl (rint _) (Ex.of (Same.refl _)) hB11
        · simp [entsK] at hic8
      · have s12 := same_of e8
        have hB12 := be8
        have q8 : ds8 = [.int (0 : Int), .int (0 : Int), .int (0 : Int), .int (1 : Int)] := eq_list l8 p8
        have r12 : Rep K G.M He8 (.lst [.int (0 : Int), .int (0 : Int), .int (0 : Int), .int (1 : Int)]) vd8 := by rw [q8] at r8; exact r8
        with_reducible refine k_nil ?_
        refine f_max (ns := [0, 0, 0, 1]) (1 : Int) (r12) (by decide) (by decide) ?_
        refine k_val val_c ?_
        refine f_op0 ?_
        exact k _ _ _ rfl (rint _) s12 hB12
    · replace k : ∀ d v H', d = (.int ((1 : Int)) : D) → Rep K G.M H' d v → Same H H' → G.B H' → Q v H' := k
      obtain ⟨v0_0, _, rfl, r0_0, rt0⟩ := cons_of r
      replace r0_0 : Rep K G.M H (.str (("sized" : Str))) v0_0 := r0_0
      obtain rfl := str_of r0_0
      obtain rfl := nil_of rt0
      with_reducible refine k_ret ?_
      with_reducible refine k_opX ?_
      with_reducible refine k_cb ?_
      with_reducible refine k_argX ?_
      with_reducible refine k_lct ?_
      with_reducible refine k_opX ?_
      refine k_val val_c ?_
      refine k_val (val_var rfl) ?_
      obtain ⟨v_PL9, d_PL9, r_PL9⟩ := h_PL Kd.sized
      refine f_ixK d_PL9 ?_
      refine k_lcTP (K := K) (i := 1) (j := 2) (vs := [1, 2]) (ps := entsK Kd.sized) (by decide) hB (r_PL9 G.M H) (fun i x => ([.int (0 : Int), .int (0 : Int), .int (0 : Int), .int (0 : Int)] : List D)[i]? = some x) (by intro _ _; rfl) (fun dc10 ic10 pp10 pq10 Hc10 hic10 nc10 hBc10 ec10 Qc10 kc10 => ?_) (fun ds10 vd10 He10 l10 p10 r10 e10 be10 => ?_)
      · have hB13 := Bg.enterB hB nc10
        have nd13 := nc10
        have hB14 := hBc10
        have e14 := ec10
        rcases ic10 with _ | _ | _ | _ | ic10
        · obtain ⟨rfl, rfl⟩ := pair_of (show some ((0 : Int), (1 : Int)) = some (pp10, pq10) from hic10)
          refine k_val (val_var rfl) ?_
          exact kc10 _ _ _ rfl (rint _) (Ex.of (Same.refl _)) hB14
        · obtain ⟨rfl, rfl⟩ := pair_of (show some ((0 : Int), (0 : Int)) = some (pp10, pq10) from hic10)
          refine k_val (val_var rfl) ?_
          exact kc10 _ _ _ rfl (rint _) (Ex.of (Same.refl _)) hB14
        · obtain ⟨rfl, rfl⟩ := pair_of (show some ((0 : Int), (0 : Int)) = some (pp10, pq10) from hic10)
          refine k_val (val_var rfl) ?_
          exact kc10 _ _ _ rfl (rint _) (Ex.of (Same.refl _)) hB14
        · obtain ⟨rfl, rfl⟩ := pair_of (show some ((0 : Int), (1 : Int)) = some (pp10, pq10) from hic10)
          refine k_val (val_var rfl) ?_
          exact kc10 _ _ _ rfl (rint _) (Ex.of (Same.refl _)) hB14
        · simp [entsK] at hic10
      · have s15 := same_of e10
        have hB15 := be10
        have q10 : ds10 = [.int (0 : Int), .int (0 : Int), .int (0 : Int), .int (0 : Int)] := eq_list l10 p10
        have r15 : Rep K G.M He10 (.lst [.int (0 : Int), .int (0 : Int), .int (0 : Int), .int (0 : Int)]) vd10 := by rw [q10] at r10; exact r10
        with_reducible refine k_nil ?_
        refine f_max (ns := [0, 0, 0, 0]) (0 : Int) (r15) (by decide) (by decide) ?_
        refine k_val val_c ?_
        refine f_op0 ?_
        exact k _ _ _ rfl (rint _) s15 hB15
    · replace k : ∀ d v H', d = (.int ((1 : Int)) : D) → Rep K G.M H' d v → Same H H' → G.B H' → Q v H' := k
      obtain ⟨v0_0, _, rfl, r0_0, rt0⟩ := cons_of r
      replace r0_0 : Rep K G.M H (.str (("even" : Str))) v0_0 := r0_0
      obtain rfl := str_of r0_0
      obtain rfl := nil_of rt0
      with_reducible refine k_ret ?_
      with_reducible refine k_opX ?_
      with_reducible refine k_cb ?_
      with_reducible refine k_argX ?_
      with_reducible refine k_lct ?_
      with_reducible refine k_opX ?_
      refine k_val val_c ?_
      refine k_val (val_var rfl) ?_
      obtain ⟨v_PL11, d_PL11, r_PL11⟩ := h_PL Kd.even
      refine f_ixK d_PL11 ?_
      refine k_lcTP (K := K) (i := 1) (j := 2) (vs := [1, 2]) (ps := entsK Kd.even) (by decide) hB (r_PL11 G.M H) (fun i x => ([.int (0 : Int), .int (0 : Int), .int (0 : Int), .int (0 : Int)] : List D)[i]? = some x) (by intro _ _; rfl) (fun dc12 ic12 pp12 pq12 Hc12 hic12 nc12 hBc12 ec12 Qc12 kc12 => ?_) (fun ds12 vd12 He12 l12 p12 r12 e12 be12 => ?_)
      · have hB16 := Bg.enterB hB nc12
        have nd16 := nc12
        have hB17 := hBc12
        have e17 := ec12
        rcases ic12 with _ | _ | _ | _ | ic12
        · obtain ⟨rfl, rfl⟩ := pair_of (show some ((0 : Int), (1 : Int)) = some (pp12, pq12) from hic12)
          refine k_val (val_var rfl) ?_
          exact kc12 _ _ _ rfl (rint _) (Ex.of (Same.refl _)) hB17
        · obtain ⟨rfl, rfl⟩ := pair_of (show some ((0 : Int), (0 : Int)) = some (pp12, pq12) from hic12)
          refine k_val (val_var rfl) ?_
          exact kc12 _ _ _ rfl (rint _) (Ex.of (Same.refl _)) hB17
        · obtain ⟨rfl, rfl⟩ := pair_of (show some ((0 : Int), (0 : Int)) = some (pp12, pq12) from hic12)
          refine k_val (val_var rfl) ?_
          exact kc12 _ _ _ rfl (rint _) (Ex.of (Same.refl _)) hB17
        · obtain ⟨rfl, rfl⟩ := pair_of (show some ((0 : Int), (1 : Int)) = some (pp12, pq12) from hic12)
          refine k_val (val_var rfl) ?_
          exact kc12 _ _ _ rfl (rint _) (Ex.of (Same.refl _)) hB17
        · simp [entsK] at hic12
      · have s18 := same_of e12
        have hB18 := be12
        have q12 : ds12 = [.int (0 : Int), .int (0 : Int), .int (0 : Int), .int (0 : Int)] := eq_list l12 p12
        have r18 : Rep K G.M He12 (.lst [.int (0 : Int), .int (0 : Int), .int (0 : Int), .int (0 : Int)]) vd12 := by rw [q12] at r12; exact r12
        with_reducible refine k_nil ?_
        refine f_max (ns := [0, 0, 0, 0]) (0 : Int) (r18) (by decide) (by decide) ?_
        refine k_val val_c ?_
        refine f_op0 ?_
        exact k _ _ _ rfl (rint _) s18 hB18
def sp_table_of (K : PySem.W.Frag) (C : Addr) : Sp := spF K (α := Kd × Rat × Rat × Rat × Rat × Nat) (fun x => [.str ((kdS x.1)), numsD (x.1) (x.2.1) (x.2.2.1) (x.2.2.2.1) (x.2.2.2.2.1)]) (fun x => SzR x.2.2.2.2.2 x.2.1 ∧ SzR x.2.2.2.2.2 x.2.2.1 ∧ SzR x.2.2.2.2.2 x.2.2.2.1 ∧ SzR x.2.2.2.2.2 x.2.2.2.2.1 ∧ x.2.2.2.2.2 + 1 ≤ 8000) (fun x => (tbI C (filled x.1 x.2.1 x.2.2.1 x.2.2.2.1 x.2.2.2.2.1) : D))
theorem has_table_of {C : Addr} (T : Tx K mg) (Y : TabTx K mg w C) : ∃ f fd, Fun K "table_of" "table_of" s_table_of f fd ∧ mg "table_of" = some (.ref f) ∧ Binds K fd ["kind", "numbers"] [] ∧ FnOk P w K mg base CX0 5 f fd ["kind", "numbers"] (sp_table_of K C) := by
  obtain ⟨f, fd, F, M⟩ := T.table_of
  obtain ⟨f_times, fd_times, F_times, M_times, B_times, G_times⟩ := has_times (P := P) (w := w) (base := base) T
  obtain ⟨f_T, fd_T, mk_T, B_T, G_T⟩ := has_init (P := P) (w := w) (base := base) T Y
  obtain ⟨a_PL, m_PL, h_PL⟩ := Y.places
  refine ⟨f, fd, F, M, F.binds (ps := ["kind", "numbers"]) (fun _ _ _ _ _ _ us hl => match us, hl with | [_, _], _ => rfl), F.ok sc_table_of (fun vs H Q E h => ?_) (fun cdv A outer s H vs Q E hr h => ?_)⟩
  · obtain ⟨G, x, hB, r, hp, q⟩ := h; rw [r.len]; rfl
  · obtain ⟨G, ⟨kd, ra, rb, rc, rd, n⟩, hB, r, ⟨hra, hrb, hrc, hrd, hn⟩, k⟩ := h
    refine ⟨_, (pss_cons (ps_asg (pe_lc (own := [("own", 6), ("weight", 7)]) (g := gPair K 6 7) (tt := tYes) (by rfl) sc_table_of.nd (pi_tupK (K := K) (pe_ix ix_kdict (pe_glob (v := .ref a_PL) (by rfl) m_PL rfl) (pv 0) (fun _ _ => rfl))) (blkOk_by (own := [("own", 6), ("weight", 7)]) (N := ["kind", "numbers", "a", "b", "c", "d", "own", "weight"]) (sc := (defScope s_table_of)) (by decide +kernel)) (fun _ _ _ _ _ => pg_tupK (K := K) rfl (pgs_cons (pg_name (i := 6) sc_table_of.nd rfl (.inl rfl)) (pgs_cons (pg_name (i := 7) sc_table_of.nd rfl (.inl rfl)) pgs_nil))) (fun _ _ _ _ _ => pts_nil) (fun _ _ _ _ _ => (pe_call G_times (hr.mono (by decide)) (by rfl) M_times F_times.kp B_times .nil pass0 (pa_cons (pe_ix (ix_listK (K := K)) (pv 1) (pv 6) (fun _ _ => rfl)) (pa_cons (pe_tup (pa_cons (pv 7) (pa_cons pe_int pa_nil))) pa_nil))))) (pg_lst rfl (pgs_cons (pg_name (i := 2) sc_table_of.nd rfl (.inl rfl)) (pgs_cons (pg_name (i := 3) sc_table_of.nd rfl (.inl rfl)) (pgs_cons (pg_name (i := 4) sc_table_of.nd rfl (.inl rfl)) (pgs_cons (pg_name (i := 5) sc_table_of.nd rfl (.inl rfl)) pgs_nil)))))) (pss_one (ps_ret (pe_make mk_T G_T (hr.mono (by decide)) (by rfl) Y.g B_T .nil pass0 (pa_cons (pv 2) (pa_cons (pv 3) (pa_cons (pv 4) (pa_cons (pv 5) pa_nil)))))))), ?_⟩
    cases kd
    · replace hra : SzR n ra := hra
      replace hrb : SzR n rb := hrb
      replace hrc : SzR n rc := hrc
      replace hrd : SzR n rd := hrd
      replace hn : n + 1 ≤ 8000 := hn
      replace k : ∀ d v H', d = (tbI C (filled Kd.slanted ra rb rc rd) : D) → Rep K G.M H' d v → Same H H' → G.B H' → Q v H' := k
      obtain ⟨v0_0, _, rfl, r0_0, rt0⟩ := cons_of r
      replace r0_0 : Rep K G.M H (.str (("slanted" : Str))) v0_0 := r0_0
      obtain rfl := str_of r0_0
      obtain ⟨v0_1, _, rfl, r0_1, rt1⟩ := cons_of rt0
      replace r0_1 : Rep K G.M H (.lst [(fr (ra)), (fr (rb)), (fr (rc)), (fr (rd))]) v0_1 := r0_1
      obtain rfl := nil_of rt1
      with_reducible refine k_seq ?_
      with_reducible refine k_asg ?_
      with_reducible refine k_lct ?_
      with_reducible refine k_opX ?_
      refine k_val val_c ?_
      refine k_val (val_var rfl) ?_
      obtain ⟨v_PL1, d_PL1, r_PL1⟩ := h_PL Kd.slanted
      refine f_ixK d_PL1 ?_
      refine k_lcTP (K := K) (i := 6) (j := 7) (vs := [6, 7]) (ps := entsK Kd.slanted) (by decide) hB (r_PL1 G.M H) (fun i x => ([fr (ra), fr (rb), fr (rc), fr (rd)] : List D)[i]? = some x) (by intro _ _; rfl) (fun dc2 ic2 pp2 pq2 Hc2 hic2 nc2 hBc2 ec2 Qc2 kc2 => ?_) (fun ds2 vd2 He2 l2 p2 r2 e2 be2 => ?_)
      · have hB1 := Bg.enterB hB nc2
        have nd1 := nc2
        have hB2 := hBc2
        have e2 := ec2
        rcases ic2 with _ | _ | _ | _ | ic2
        · obtain ⟨rfl, rfl⟩ := pair_of (show some ((0 : Int), (1 : Int)) = some (pp2, pq2) from hic2)
          with_reducible refine k_call ?_
          with_reducible refine k_argX ?_
          with_reducible refine k_opX ?_
          refine k_val (val_var rfl) ?_
          refine k_val (val_var rfl) ?_
          have q4 := ((r0_1.enter hB nd1).up hB1 e2)
          refine f_ixL (k := 0) (q4) rfl (fun w3 rw3 => ?_)
          with_reducible refine k_argX ?_
          with_reducible refine k_tup ?_
          refine k_arg (val_var rfl) ?_
          refine k_arg val_c ?_
          with_reducible refine k_nil ?_
          refine k_tup_end hB2 (rcons (rint _) (rcons (rint _) (rnil (K := K)))) (fun v3 H3 r3 s3 hB3 => ?_)
          replace r3 : Rep K (G.plus dc2).M H3 (fr (1 : Rat)) v3 := r3
          with_reducible refine k_nil ?_
          refine k_spF (ra, (1 : Rat), n, 1) hB3 (rcons ((rw3.up hB2 (Ex.of s3))) (rcons (r3) (rnil (K := K)))) ⟨hra, (szr_lit 1 (1 : Rat)), (by first | omega | (dsimp only; omega))⟩ (fun v4 H4 r4 s4 hB4 => ?_)
          replace r4 : Rep K (G.plus dc2).M H4 ((fr ((ra * (1 : Rat))))) v4 := r4
          have z4 : SzR ((n + 1) + 0) ((ra * (1 : Rat))) := (szr_mul hra (szr_lit 1 (1 : Rat)) (by omega))
          exact kc2 _ _ _ (congrArg (fun z => some (fr z)) (mul_1 _).symm) (r4) (Ex.of (s3.trans s4)) hB4
        · obtain ⟨rfl, rfl⟩ := pair_of (show some ((1 : Int), (1 : Int)) = some (pp2, pq2) from hic2)
          with_reducible refine k_call ?_
          with_reducible refine k_argX ?_
          with_reducible refine k_opX ?_
          refine k_val (val_var rfl) ?_
          refine k_val (val_var rfl) ?_
          have q6 := ((r0_1.enter hB nd1).up hB1 e2)
          refine f_ixL (k := 1) (q6) rfl (fun w5 rw5 => ?_)
          with_reducible refine k_argX ?_
          with_reducible refine k_tup ?_
          refine k_arg (val_var rfl) ?_
          refine k_arg val_c ?_
          with_reducible refine k_nil ?_
          refine k_tup_end hB2 (rcons (rint _) (rcons (rint _) (rnil (K := K)))) (fun v5 H5 r5 s5 hB5 => ?_)
          replace r5 : Rep K (G.plus dc2).M H5 (fr (1 : Rat)) v5 := r5
          with_reducible refine k_nil ?_
          refine k_spF (rb, (1 : Rat), n, 1) hB5 (rcons ((rw5.up hB2 (Ex.of s5))) (rcons (r5) (rnil (K := K)))) ⟨hrb, (szr_lit 1 (1 : Rat)), (by first | omega | (dsimp only; omega))⟩ (fun v6 H6 r6 s6 hB6 => ?_)
          replace r6 : Rep K (G.plus dc2).M H6 ((fr ((rb * (1 : Rat))))) v6 := r6
          have z6 : SzR ((n + 1) + 0) ((rb * (1 : Rat))) := (szr_mul hrb (szr_lit 1 (1 : Rat)) (by omega))
          exact kc2 _ _ _ (congrArg (fun z => some (fr z)) (mul_1 _).symm) (r6) (Ex.of (s5.trans s6)) hB6
        · obtain ⟨rfl, rfl⟩ := pair_of (show some ((2 : Int), (1 : Int)) = some (pp2, pq2) from hic2)
          with_reducible refine k_call ?_
          with_reducible refine k_argX ?_
          with_reducible refine k_opX ?_
          refine k_val (val_var rfl) ?_
          refine k_val (val_var rfl) ?_
          have q8 := ((r0_1.enter hB nd1).up hB1 e2)
          refine f_ixL (k := 2) (q8) rfl (fun w7 rw7 => ?_)
          with_reducible refine k_argX ?_
          with_reducible refine k_tup ?_
          refine k_arg (val_var rfl) ?_
          refine k_arg val_c ?_
          with_reducible refine k_nil ?_
          refine k_tup_end hB2 (rcons (rint _) (rcons (rint _) (rnil (K := K)))) (fun v7 H7 r7 s7 hB7 => ?_)
          replace r7 : Rep K (G.plus dc2).M H7 (fr (1 : Rat)) v7 := r7
          with_reducible refine k_nil ?_
          refine k_spF (rc, (1 : Rat), n, 1) hB7 (rcons ((rw7.up hB2 (Ex.of s7))) (rcons (r7) (rnil (K := K)))) ⟨hrc, (szr_lit 1 (1 : Rat)), (by first | omega | (dsimp only; omega))⟩ (fun v8 H8 r8 s8 hB8 => ?_)
          replace r8 : Rep K (G.plus dc2).M H8 ((fr ((rc * (1 : Rat))))) v8 := r8
          have z8 : SzR ((n + 1) + 0) ((rc * (1 : Rat))) := (szr_mul hrc (szr_lit 1 (1 : Rat)) (by omega))
          exact kc2 _ _ _ (congrArg (fun z => some (fr z)) (mul_1 _).symm) (r8) (Ex.of (s7.trans s8)) hB8
        · obtain ⟨rfl, rfl⟩ := pair_of (show some ((3 : Int), (1 : Int)) = some (pp2, pq2) from hic2)
          with_reducible refine k_call ?_
          with_reducible refine k_argX ?_
          with_reducible refine k_opX ?_
          refine k_val (val_var rfl) ?_
          refine k_val (val_var rfl) ?_
          have q10 := ((r0_1.enter hB nd1).up hB1 e2)
          refine f_ixL (k := 3) (q10) rfl (fun w9 rw9 => ?_)
          with_reducible refine k_argX ?_
          with_reducible refine k_tup ?_
          refine k_arg (val_var rfl) ?_
          refine k_arg val_c ?_
          with_reducible refine k_nil ?_
          refine k_tup_end hB2 (rcons (rint _) (rcons (rint _) (rnil (K := K)))) (fun v9 H9 r9 s9 hB9 => ?_)
          replace r9 : Rep K (G.plus dc2).M H9 (fr (1 : Rat)) v9 := r9
          with_reducible refine k_nil ?_
          refine k_spF (rd, (1 : Rat), n, 1) hB9 (rcons ((rw9.up hB2 (Ex.of s9))) (rcons (r9) (rnil (K := K)))) ⟨hrd, (szr_lit 1 (1 : Rat)), (by first | omega | (dsimp only; omega))⟩ (fun v10 H10 r10 s10 hB10 => ?_)
          replace r10 : Rep K (G.plus dc2).M H10 ((fr ((rd * (1 : Rat))))) v10 := r10
          have z10 : SzR ((n + 1) + 0) ((rd * (1 : Rat))) := (szr_mul hrd (szr_lit 1 (1 : Rat)) (by omega))
          exact kc2 _ _ _ (congrArg (fun z => some (fr z)) (mul_1 _).symm) (r10) (Ex.of (s9.trans s10)) hB10
        · simp [entsK] at hic2
      · have s11 := same_of e2
        have hB11 := be2
        have q2 : ds2 = [fr (ra), fr (rb), fr (rc), fr (rd)] := eq_list l2 p2
        have r11 : Rep K G.M He2 (.lst [fr (ra), fr (rb), fr (rc), fr (rd)]) vd2 := by rw [q2] at r2; exact r2
        refine f_unpL [2, 3, 4, 5] (r11) rfl rfl (fun u11 ru11 => ?_)
        obtain ⟨u11_0, _, rfl, ru11_0, rtu11_0⟩ := cons_of ru11
        replace ru11_0 : Rep K G.M He2 ((fr (ra))) u11_0 := ru11_0
        obtain ⟨u11_1, _, rfl, ru11_1, rtu11_1⟩ := cons_of rtu11_0
        replace ru11_1 : Rep K G.M He2 ((fr (rb))) u11_1 := ru11_1
        obtain ⟨u11_2, _, rfl, ru11_2, rtu11_2⟩ := cons_of rtu11_1
        replace ru11_2 : Rep K G.M He2 ((fr (rc))) u11_2 := ru11_2
        obtain ⟨u11_3, _, rfl, ru11_3, rtu11_3⟩ := cons_of rtu11_2
        replace ru11_3 : Rep K G.M He2 ((fr (rd))) u11_3 := ru11_3
        obtain rfl := nil_of rtu11_3
        with_reducible refine k_ret ?_
        with_reducible refine k_make ?_
        refine k_arg (val_var rfl) ?_
        refine k_arg (val_var rfl) ?_
        refine k_arg (val_var rfl) ?_
        refine k_arg (val_var rfl) ?_
        with_reducible refine k_nil ?_
        refine k_make_end hB11 (rcons (ru11_0) (rcons (ru11_1) (rcons (ru11_2) (rcons (ru11_3) (rnil (K := K)))))) (fun v12 H12 r12 s12 hB12 => ?_)
        replace r12 : Rep K G.M H12 (tbD C (ra) (rb) (rc) (rd)) v12 := r12
        exact k _ _ _ rfl (r12) (s11.trans s12) hB12
    · replace hra : SzR n ra := hra
      replace hrb : SzR n rb := hrb
      replace hrc : SzR n rc := hrc
      replace hrd : SzR n rd := hrd
      replace hn : n + 1 ≤ 8000 := hn
      replace k : ∀ d v H', d = (tbI C (filled Kd.turned ra rb rc rd) : D) → Rep K G.M H' d v → Same H H' → G.B H' → Q v H' := k
      obtain ⟨v0_0, _, rfl, r0_0, rt0⟩ := cons_of r
      replace r0_0 : Rep K G.M H (.str (("turned" : Str))) v0_0 := r0_0
      obtain rfl := str_of r0_0
      obtain ⟨v0_1, _, rfl, r0_1, rt1⟩ := cons_of rt0
      replace r0_1 : Rep K G.M H (.lst [(fr (ra)), (fr (rb))]) v0_1 := r0_1
      obtain rfl := nil_of rt1
      with_reducible refine k_seq ?_
      with_reducible refine k_asg ?_
      with_reducible refine k_lct ?_
      with_reducible refine k_opX ?_
      refine k_val val_c ?_
      refine k_val (val_var rfl) ?_
      obtain ⟨v_PL12, d_PL12, r_PL12⟩ := h_PL Kd.turned
      refine f_ixK d_PL12 ?_
      refine k_lcTP (K := K) (i := 6) (j := 7) (vs := [6, 7]) (ps := entsK Kd.turned) (by decide) hB (r_PL12 G.M H) (fun i x => ([fr (ra), fr ((-rb)), fr (rb), fr (ra)] : List D)[i]? = some x) (by intro _ _; rfl) (fun dc13 ic13 pp13 pq13 Hc13 hic13 nc13 hBc13 ec13 Qc13 kc13 => ?_) (fun ds13 vd13 He13 l13 p13 r13 e13 be13 => ?_)
      · have hB13 := Bg.enterB hB nc13
        have nd13 := nc13
        have hB14 := hBc13
        have e14 := ec13
        rcases ic13 with _ | _ | _ | _ | ic13
        · obtain ⟨rfl, rfl⟩ := pair_of (show some ((0 : Int), (1 : Int)) = some (pp13, pq13) from hic13)
          with_reducible refine k_call ?_
          with_reducible refine k_argX ?_
          with_reducible refine k_opX ?_
          refine k_val (val_var rfl) ?_
          refine k_val (val_var rfl) ?_
          have q15 := ((r0_1.enter hB nd13).up hB13 e14)
          refine f_ixL (k := 0) (q15) rfl (fun w14 rw14 => ?_)
          with_reducible refine k_argX ?_
          with_reducible refine k_tup ?_
          refine k_arg (val_var rfl) ?_
          refine k_arg val_c ?_
          with_reducible refine k_nil ?_
          refine k_tup_end hB14 (rcons (rint _) (rcons (rint _) (rnil (K := K)))) (fun v15 H15 r15 s15 hB15 => ?_)
          replace r15 : Rep K (G.plus dc13).M H15 (fr (1 : Rat)) v15 := r15
          with_reducible refine k_nil ?_
          refine k_spF (ra, (1 : Rat), n, 1) hB15 (rcons ((rw14.up hB14 (Ex.of s15))) (rcons (r15) (rnil (K := K)))) ⟨hra, (szr_lit 1 (1 : Rat)), (by first | omega | (dsimp only; omega))⟩ (fun v16 H16 r16 s16 hB16 => ?_)
          replace r16 : Rep K (G.plus dc13).M H16 ((fr ((ra * (1 : Rat))))) v16 := r16
          have z16 : SzR ((n + 1) + 0) ((ra * (1 : Rat))) := (szr_mul hra (szr_lit 1 (1 : Rat)) (by omega))
          exact kc13 _ _ _ (congrArg (fun z => some (fr z)) (mul_1 _).symm) (r16) (Ex.of (s15.trans s16)) hB16
        · obtain ⟨rfl, rfl⟩ := pair_of (show some ((1 : Int), (-1 : Int)) = some (pp13, pq13) from hic13)
          with_reducible refine k_call ?_
          with_reducible refine k_argX ?_
          with_reducible refine k_opX ?_
          refine k_val (val_var rfl) ?_
          refine k_val (val_var rfl) ?_
          have q17 := ((r0_1.enter hB nd13).up hB13 e14)
          refine f_ixL (k := 1) (q17) rfl (fun w16 rw16 => ?_)
          with_reducible refine k_argX ?_
          with_reducible refine k_tup ?_
          refine k_arg (val_var rfl) ?_
          refine k_arg val_c ?_
          with_reducible refine k_nil ?_
          refine k_tup_end hB14 (rcons (rint _) (rcons (rint _) (rnil (K := K)))) (fun v17 H17 r17 s17 hB17 => ?_)
          replace r17 : Rep K (G.plus dc13).M H17 (fr (-1 : Rat)) v17 := r17
          with_reducible refine k_nil ?_
          refine k_spF (rb, (-1 : Rat), n, 1) hB17 (rcons ((rw16.up hB14 (Ex.of s17))) (rcons (r17) (rnil (K := K)))) ⟨hrb, (szr_lit 1 (-1 : Rat)), (by first | omega | (dsimp only; omega))⟩ (fun v18 H18 r18 s18 hB18 => ?_)
          replace r18 : Rep K (G.plus dc13).M H18 ((fr ((rb * (-1 : Rat))))) v18 := r18
          have z18 : SzR ((n + 1) + 0) ((rb * (-1 : Rat))) := (szr_mul hrb (szr_lit 1 (-1 : Rat)) (by omega))
          exact kc13 _ _ _ (congrArg (fun z => some (fr z)) (mul_m1 _).symm) (r18) (Ex.of (s17.trans s18)) hB18
        · obtain ⟨rfl, rfl⟩ := pair_of (show some ((1 : Int), (1 : Int)) = some (pp13, pq13) from hic13)
          with_reducible refine k_call ?_
          with_reducible refine k_argX ?_
          with_reducible refine k_opX ?_
          refine k_val (val_var rfl) ?_
          refine k_val (val_var rfl) ?_
          have q19 := ((r0_1.enter hB nd13).up hB13 e14)
          refine f_ixL (k := 1) (q19) rfl (fun w18 rw18 => ?_)
          with_reducible refine k_argX ?_
          with_reducible refine k_tup ?_
          refine k_arg (val_var rfl) ?_
          refine k_arg val_c ?_
          with_reducible refine k_nil ?_
          refine k_tup_end hB14 (rcons (rint _) (rcons (rint _) (rnil (K := K)))) (fun v19 H19 r19 s19 hB19 => ?_)
          replace r19 : Rep K (G.plus dc13).M H19 (fr (1 : Rat)) v19 := r19
          with_reducible refine k_nil ?_
          refine k_spF (rb, (1 : Rat), n, 1) hB19 (rcons ((rw18.up hB14 (Ex.of s19))) (rcons (r19) (rnil (K := K)))) ⟨hrb, (szr_lit 1 (1 : Rat)), (by first | omega | (dsimp only; omega))⟩ (fun v20 H20 r20 s20 hB20 => ?_)
          replace r20 : Rep K (G.plus dc13).M H20 ((fr ((rb * (1 : Rat))))) v20 := r20
          have z20 : SzR ((n + 1) + 0) ((rb * (1 : Rat))) := (szr_mul hrb (szr_lit 1 (1 : Rat)) (by omega))
          exact kc13 _ _ _ (congrArg (fun z => some (fr z)) (mul_1 _).symm) (r20) (Ex.of (s19.trans s20)) hB20
        · obtain ⟨rfl, rfl⟩ := pair_of (show some ((0 : Int), (1 : Int)) = some (pp13, pq13) from hic13)
          with_reducible refine k_call ?_
          with_reducible refine k_argX ?_
          with_reducible refine k_opX ?_
          refine k_val (val_var rfl) ?_
          refine k_val (val_var rfl) ?_
          have q21 := ((r0_1.enter hB nd13).up hB13 e14)
          refine f_ixL (k := 0) (q21) rfl (fun w20 rw20 => ?_)
          with_reducible refine k_argX ?_
          with_reducible refine k_tup ?_
          refine k_arg (val_var rfl) ?_
          refine k_arg val_c ?_
          with_reducible refine k_nil ?_
          refine k_tup_end hB14 (rcons (rint _) (rcons (rint _) (rnil (K := K)))) (fun v21 H21 r21 s21 hB21 => ?_)
          replace r21 : Rep K (G.plus dc13).M H21 (fr (1 : Rat)) v21 := r21
          with_reducible refine k_nil ?_
          refine k_spF (ra, (1 : Rat), n, 1) hB21 (rcons ((rw20.up hB14 (Ex.of s21))) (rcons (r21) (rnil (K := K)))) ⟨hra, (szr_lit 1 (1 : Rat)), (by first | omega | (dsimp only; omega))⟩ (fun v22 H22 r22 s22 hB22 => ?_)
          replace r22 : Rep K (G.plus dc13).M H22 ((fr ((ra * (1 : Rat))))) v22 := r22
          have z22 : SzR ((n + 1) + 0) ((ra * (1 : Rat))) := (szr_mul hra (szr_lit 1 (1 : Rat)) (by omega))
          exact kc13 _ _ _ (congrArg (fun z => some (fr z)) (mul_1 _).symm) (r22) (Ex.of (s21.trans s22)) hB22
        · simp [entsK] at hic13
      · have s23 := same_of e13
        have hB23 := be13
        have q13 : ds13 = [fr (ra), fr ((-rb)), fr (rb), fr (ra)] := eq_list l13 p13
        have r23 : Rep K G.M He13 (.lst [fr (ra), fr ((-rb)), fr (rb), fr (ra)]) vd13 := by rw [q13] at r13; exact r13
        refine f_unpL [2, 3, 4, 5] (r23) rfl rfl (fun u22 ru22 => ?_)
        obtain ⟨u22_0, _, rfl, ru22_0, rtu22_0⟩ := cons_of ru22
        replace ru22_0 : Rep K G.M He13 ((fr (ra))) u22_0 := ru22_0
        obtain ⟨u22_1, _, rfl, ru22_1, rtu22_1⟩ := cons_of rtu22_0
        replace ru22_1 : Rep K G.M He13 ((fr ((-rb)))) u22_1 := ru22_1
        obtain ⟨u22_2, _, rfl, ru22_2, rtu22_2⟩ := cons_of rtu22_1
        replace ru22_2 : Rep K G.M He13 ((fr (rb))) u22_2 := ru22_2
        obtain ⟨u22_3, _, rfl, ru22_3, rtu22_3⟩ := cons_of rtu22_2
        replace ru22_3 : Rep K G.M He13 ((fr (ra))) u22_3 := ru22_3
        obtain rfl := nil_of rtu22_3
        with_reducible refine k_ret ?_
        with_reducible refine k_make ?_
        refine k_arg (val_var rfl) ?_
        refine k_arg (val_var rfl) ?_
        refine k_arg (val_var rfl) ?_
        refine k_arg (val_var rfl) ?_
        with_reducible refine k_nil ?_
        refine k_make_end hB23 (rcons (ru22_0) (rcons (ru22_1) (rcons (ru22_2) (rcons (ru22_3) (rnil (K := K)))))) (fun v24 H24 r24 s24 hB24 => ?_)
        replace r24 : Rep K G.M H24 (tbD C (ra) ((-rb)) (rb) (ra)) v24 := r24
        exact k _ _ _ rfl (r24) (s23.trans s24) hB24
    · replace hra : SzR n ra := hra
      replace hrb : SzR n rb := hrb
      replace hrc : SzR n rc := hrc
      replace hrd : SzR n rd := hrd
      replace hn : n + 1 ≤ 8000 := hn
      replace k : ∀ d v H', d = (tbI C (filled Kd.mirrored ra rb rc rd) : D) → Rep K G.M H' d v → Same H H' → G.B H' → Q v H' := k
      obtain ⟨v0_0, _, rfl, r0_0, rt0⟩ := cons_of r
      replace r0_0 : Rep K G.M H (.str (("mirrored" : Str))) v0_0 := r0_0
      obtain rfl := str_of r0_0
      obtain ⟨v0_1, _, rfl, r0_1, rt1⟩ := cons_of rt0
      replace r0_1 : Rep K G.M H (.lst [(fr (ra)), (fr (rb))]) v0_1 := r0_1
      obtain rfl := nil_of rt1
      with_reducible refine k_seq ?_
      with_reducible refine k_asg ?_
      with_reducible refine k_lct ?_
      with_reducible refine k_opX ?_
      refine k_val val_c ?_
      refine k_val (val_var rfl) ?_
      obtain ⟨v_PL23, d_PL23, r_PL23⟩ := h_PL Kd.mirrored
      refine f_ixK d_PL23 ?_
      refine k_lcTP (K := K) (i := 6) (j := 7) (vs := [6, 7]) (ps := entsK Kd.mirrored) (by decide) hB (r_PL23 G.M H) (fun i x => ([fr (ra), fr (rb), fr (rb), fr ((-ra))] : List D)[i]? = some x) (by intro _ _; rfl) (fun dc24 ic24 pp24 pq24 Hc24 hic24 nc24 hBc24 ec24 Qc24 kc24 => ?_) (fun ds24 vd24 He24 l24 p24 r24 e24 be24 => ?_)
      · have hB25 := Bg.enterB hB nc24
        have nd25 := nc24
        have hB26 := hBc24
        have e26 := ec24
        rcases ic24 with _ | _ | _ | _ | ic24
        · obtain ⟨rfl, rfl⟩ := pair_of (show some ((0 : Int), (1 : Int)) = some (pp24, pq24) from hic24)
          with_reducible refine k_call ?_
          with_reducible refine k_argX ?_
          with_reducible refine k_opX ?_
          refine k_val (val_var rfl) ?_
          refine k_val (val_var rfl) ?_
          have q26 := ((r0_1.enter hB nd25).up hB25 e26)
          refine f_ixL (k := 0) (q26) rfl (fun w25 rw25 => ?_)
          with_reducible refine k_argX ?_
          with_reducible refine k_tup ?_
          refine k_arg (val_var rfl) ?_
          refine k_arg val_c ?_
          with_reducible refine k_nil ?_
          refine k_tup_end hB26 (rcons (rint _) (rcons (rint _) (rnil (K := K)))) (fun v27 H27 r27 s27 hB27 => ?_)
          replace r27 : Rep K (G.plus dc24).M H27 (fr (1 : Rat)) v27 := r27
          with_reducible refine k_nil ?_
          refine k_spF (ra, (1 : Rat), n, 1) hB27 (rcons ((rw25.up hB26 (Ex.of s27))) (rcons (r27) (rnil (K := K)))) ⟨hra, (szr_lit 1 (1 : Rat)), (by first | omega | (dsimp only; omega))⟩ (fun v28 H28 r28 s28 hB28 => ?_)
          replace r28 : Rep K (G.plus dc24).M H28 ((fr ((ra * (1 : Rat))))) v28 := r28
          have z28 : SzR ((n + 1) + 0) ((ra * (1 : Rat))) := (szr_mul hra (szr_lit 1 (1 : Rat)) (by omega))
          exact kc24 _ _ _ (congrArg (fun z => some (fr z)) (mul_1 _).symm) (r28) (Ex.of (s27.trans s28)) hB28
        · obtain ⟨rfl, rfl⟩ := pair_of (show some ((1 : Int), (1 : Int)) = some (pp24, pq24) from hic24)
          with_reducible refine k_call ?_
          with_reducible refine k_argX ?_
          with_reducible refine k_opX ?_
          refine k_val (val_var rfl) ?_
          refine k_val (val_var rfl) ?_
          have q28 := ((r0_1.enter hB nd25).up hB25 e26)
          refine f_ixL (k := 1) (q28) rfl (fun w27 rw27 => ?_)
          with_reducible refine k_argX ?_
          with_reducible refine k_tup ?_
          refine k_arg (val_var rfl) ?_
          refine k_arg val_c ?_
          with_reducible refine k_nil ?_
          refine k_tup_end hB26 (rcons (rint _) (rcons (rint _) (rnil (K := K)))) (fun v29 H29 r29 s29 hB29 => ?_)
          replace r29 : Rep K (G.plus dc24).M H29 (fr (1 : Rat)) v29 := r29
          with_reducible refine k_nil ?_
          refine k_spF (rb, (1 : Rat), n, 1) hB29 (rcons ((rw27.up hB26 (Ex.of s29))) (rcons (r29) (rnil (K := K)))) ⟨hrb, (szr_lit 1 (1 : Rat)), (by first | omega | (dsimp only; omega))⟩ (fun v30 H30 r30 s30 hB30 => ?_)
          replace r30 : Rep K (G.plus dc24).M H30 ((fr ((rb * (1 : Rat))))) v30 := r30
          have z30 : SzR ((n + 1) + 0) ((rb * (1 : Rat))) := (szr_mul hrb (szr_lit 1 (1 : Rat)) (by omega))
          exact kc24 _ _ _ (congrArg (fun z => some (fr z)) (mul_1 _).symm) (r30) (Ex.of (s29.trans s30)) hB30
        · obtain ⟨rfl, rfl⟩ := pair_of (show some ((1 : Int), (1 : Int)) = some (pp24, pq24) from hic24)
          with_reducible refine k_call ?_
          with_reducible refine k_argX ?_
          with_reducible refine k_opX ?_
          refine k_val (val_var rfl) ?_
          refine k_val (val_var rfl) ?_
          have q30 := ((r0_1.enter hB nd25).up hB25 e26)
          refine f_ixL (k := 1) (q30) rfl (fun w29 rw29 => ?_)
          with_reducible refine k_argX ?_
          with_reducible refine k_tup ?_
          refine k_arg (val_var rfl) ?_
          refine k_arg val_c ?_
          with_reducible refine k_nil ?_
          refine k_tup_end hB26 (rcons (rint _) (rcons (rint _) (rnil (K := K)))) (fun v31 H31 r31 s31 hB31 => ?_)
          replace r31 : Rep K (G.plus dc24).M H31 (fr (1 : Rat)) v31 := r31
          with_reducible refine k_nil ?_
          refine k_spF (rb, (1 : Rat), n, 1) hB31 (rcons ((rw29.up hB26 (Ex.of s31))) (rcons (r31) (rnil (K := K)))) ⟨hrb, (szr_lit 1 (1 : Rat)), (by first | omega | (dsimp only; omega))⟩ (fun v32 H32 r32 s32 hB32 => ?_)
          replace r32 : Rep K (G.plus dc24).M H32 ((fr ((rb * (1 : Rat))))) v32 := r32
          have z32 : SzR ((n + 1) + 0) ((rb * (1 : Rat))) := (szr_mul hrb (szr_lit 1 (1 : Rat)) (by omega))
          exact kc24 _ _ _ (congrArg (fun z => some (fr z)) (mul_1 _).symm) (r32) (Ex.of (s31.trans s32)) hB32
        · obtain ⟨rfl, rfl⟩ := pair_of (show some ((0 : Int), (-1 : Int)) = some (pp24, pq24) from hic24)
          with_reducible refine k_call ?_
          with_reducible refine k_argX ?_
          with_reducible refine k_opX ?_
          refine k_val (val_var rfl) ?_
          refine k_val (val_var rfl) ?_
          have q32 := ((r0_1.enter hB nd25).up hB25 e26)
          refine f_ixL (k := 0) (q32) rfl (fun w31 rw31 => ?_)
          with_reducible refine k_argX ?_
          with_reducible refine k_tup ?_
          refine k_arg (val_var rfl) ?_
          refine k_arg val_c ?_
          with_reducible refine k_nil ?_
          refine k_tup_end hB26 (rcons (rint _) (rcons (rint _) (rnil (K := K)))) (fun v33 H33 r33 s33 hB33 => ?_)
          replace r33 : Rep K (G.plus dc24).M H33 (fr (-1 : Rat)) v33 := r33
          with_reducible refine k_nil ?_
          refine k_spF (ra, (-1 : Rat), n, 1) hB33 (rcons ((rw31.up hB26 (Ex.of s33))) (rcons (r33) (rnil (K := K)))) ⟨hra, (szr_lit 1 (-1 : Rat)), (by first | omega | (dsimp only; omega))⟩ (fun v34 H34 r34 s34 hB34 => ?_)
          replace r34 : Rep K (G.plus dc24).M H34 ((fr ((ra * (-1 : Rat))))) v34 := r34
          have z34 : SzR ((n + 1) + 0) ((ra * (-1 : Rat))) := (szr_mul hra (szr_lit 1 (-1 : Rat)) (by omega))
          exact kc24 _ _ _ (congrArg (fun z => some (fr z)) (mul_m1 _).symm) (r34) (Ex.of (s33.trans s34)) hB34
        · simp [entsK] at hic24
      · have s35 := same_of e24
        have hB35 := be24
        have q24 : ds24 = [fr (ra), fr (rb), fr (rb), fr ((-ra))] := eq_list l24 p24
        have r35 : Rep K G.M He24 (.lst [fr (ra), fr (rb), fr (rb), fr ((-ra))]) vd24 := by rw [q24] at r24; exact r24
        refine f_unpL [2, 3, 4, 5] (r35) rfl rfl (fun u33 ru33 => ?_)
        obtain ⟨u33_0, _, rfl, ru33_0, rtu33_0⟩ := cons_of ru33
        replace ru33_0 : Rep K G.M He24 ((fr (ra))) u33_0 := ru33_0
        obtain ⟨u33_1, _, rfl, ru33_1, rtu33_1⟩ := cons_of rtu33_0
        replace ru33_1 : Rep K G.M He24 ((fr (rb))) u33_1 := ru33_1
        obtain ⟨u33_2, _, rfl, ru33_2, rtu33_2⟩ := cons_of rtu33_1
        replace ru33_2 : Rep K G.M He24 ((fr (rb))) u33_2 := ru33_2
        obtain ⟨u33_3, _, rfl, ru33_3, rtu33_3⟩ := cons_of rtu33_2
        replace ru33_3 : Rep K G.M He24 ((fr ((-ra)))) u33_3 := ru33_3
        obtain rfl := nil_of rtu33_3
        with_reducible refine k_ret ?_
        with_reducible refine k_make ?_
        refine k_arg (val_var rfl) ?_
        refine k_arg (val_var rfl) ?_
        refine k_arg (val_var rfl) ?_
        refine k_arg (val_var rfl) ?_
        with_reducible refine k_nil ?_
        refine k_make_end hB35 (rcons (ru33_0) (rcons (ru33_1) (rcons (ru33_2) (rcons (ru33_3) (rnil (K := K)))))) (fun v36 H36 r36 s36 hB36 => ?_)
        replace r36 : Rep K G.M H36 (tbD C (ra) (rb) (rb) ((-ra))) v36 := r36
        exact k _ _ _ rfl (r36) (s35.trans s36) hB36
    · replace hra : SzR n ra := hra
      replace hrb : SzR n rb := hrb
      replace hrc : SzR n rc := hrc
      replace hrd : SzR n rd := hrd
      replace hn : n + 1 ≤ 8000 := hn
      replace k : ∀ d v H', d = (tbI C (filled Kd.stretched ra rb rc rd) : D) → Rep K G.M H' d v → Same H H' → G.B H' → Q v H' := k
      obtain ⟨v0_0, _, rfl, r0_0, rt0⟩ := cons_of r
      replace r0_0 : Rep K G.M H (.str (("stretched" : Str))) v0_0 := r0_0
      obtain rfl := str_of r0_0
      obtain ⟨v0_1, _, rfl, r0_1, rt1⟩ := cons_of rt0
      replace r0_1 : Rep K G.M H (.lst [(fr (ra)), (fr (rb))]) v0_1 := r0_1
      obtain rfl := nil_of rt1
      with_reducible refine k_seq ?_
      with_reducible refine k_asg ?_
      with_reducible refine k_lct ?_
      with_reducible refine k_opX ?_
      refine k_val val_c ?_
      refine k_val (val_var rfl) ?_
      obtain ⟨v_PL34, d_PL34, r_PL34⟩ := h_PL Kd.stretched
      refine f_ixK d_PL34 ?_
      refine k_lcTP (K := K) (i := 6) (j := 7) (vs := [6, 7]) (ps := entsK Kd.stretched) (by decide) hB (r_PL34 G.M H) (fun i x => ([fr (ra), fr ((0 : Rat)), fr ((0 : Rat)), fr (rb)] : List D)[i]? = some x) (by intro _ _; rfl) (fun dc35 ic35 pp35 pq35 Hc35 hic35 nc35 hBc35 ec35 Qc35 kc35 => ?_) (fun ds35 vd35 He35 l35 p35 r35 e35 be35 => ?_)
      · have hB37 := Bg.enterB hB nc35
        have nd37 := nc35
        have hB38 := hBc35
        have e38 := ec35
        rcases ic35 with _ | _ | _ | _ | ic35
        · obtain ⟨rfl, rfl⟩ := pair_of (show some ((0 : Int), (1 : Int)) = some (pp35, pq35) from hic35)
          with_reducible refine k_call ?_
          with_reducible refine k_argX ?_
          with_reducible refine k_opX ?_
          refine k_val (val_var rfl) ?_
          refine k_val (val_var rfl) ?_
          have q37 := ((r0_1.enter hB nd37).up hB37 e38)
          refine f_ixL (k := 0) (q37) rfl (fun w36 rw36 => ?_)
          with_reducible refine k_argX ?_
          with_reducible refine k_tup ?_
          refine k_arg (val_var rfl) ?_
          refine k_arg val_c ?_
          with_reducible refine k_nil ?_
          refine k_tup_end hB38 (rcons (rint _) (rcons (rint _) (rnil (K := K)))) (fun v39 H39 r39 s39 hB39 => ?_)
          replace r39 : Rep K (G.plus dc35).M H39 (fr (1 : Rat)) v39 := r39
          with_reducible refine k_nil ?_
          refine k_spF (ra, (1 : Rat), n, 1) hB39 (rcons ((rw36.up hB38 (Ex.of s39))) (rcons (r39) (rnil (K := K)))) ⟨hra, (szr_lit 1 (1 : Rat)), (by first | omega | (dsimp only; omega))⟩ (fun v40 H40 r40 s40 hB40 => ?_)
          replace r40 : Rep K (G.plus dc35).M H40 ((fr ((ra * (1 : Rat))))) v40 := r40
          have z40 : SzR ((n + 1) + 0) ((ra * (1 : Rat))) := (szr_mul hra (szr_lit 1 (1 : Rat)) (by omega))
          exact kc35 _ _ _ (congrArg (fun z => some (fr z)) (mul_1 _).symm) (r40) (Ex.of (s39.trans s40)) hB40
        · obtain ⟨rfl, rfl⟩ := pair_of (show some ((0 : Int), (0 : Int)) = some (pp35, pq35) from hic35)
          with_reducible refine k_call ?_
          with_reducible refine k_argX ?_
          with_reducible refine k_opX ?_
          refine k_val (val_var rfl) ?_
          refine k_val (val_var rfl) ?_
          have q39 := ((r0_1.enter hB nd37).up hB37 e38)
          refine f_ixL (k := 0) (q39) rfl (fun w38 rw38 => ?_)
          with_reducible refine k_argX ?_
          with_reducible refine k_tup ?_
          refine k_arg (val_var rfl) ?_
          refine k_arg val_c ?_
          with_reducible refine k_nil ?_
          refine k_tup_end hB38 (rcons (rint _) (rcons (rint _) (rnil (K := K)))) (fun v41 H41 r41 s41 hB41 => ?_)
          replace r41 : Rep K (G.plus dc35).M H41 (fr (0 : Rat)) v41 := r41
          with_reducible refine k_nil ?_
          refine k_spF (ra, (0 : Rat), n, 1) hB41 (rcons ((rw38.up hB38 (Ex.of s41))) (rcons (r41) (rnil (K := K)))) ⟨hra, (szr_lit 1 (0 : Rat)), (by first | omega | (dsimp only; omega))⟩ (fun v42 H42 r42 s42 hB42 => ?_)
          replace r42 : Rep K (G.plus dc35).M H42 ((fr ((ra * (0 : Rat))))) v42 := r42
          have z42 : SzR ((n + 1) + 0) ((ra * (0 : Rat))) := (szr_mul hra (szr_lit 1 (0 : Rat)) (by omega))
          exact kc35 _ _ _ (congrArg (fun z => some (fr z)) (mul_0 _).symm) (r42) (Ex.of (s41.trans s42)) hB42
        · obtain ⟨rfl, rfl⟩ := pair_of (show some ((0 : Int), (0 : Int)) = some (pp35, pq35) from hic35)
          with_reducible refine k_call ?_
          with_reducible refine k_argX ?_
          with_reducible refine k_opX ?_
          refine k_val (val_var rfl) ?_
          refine k_val (val_var rfl) ?_
          have q41 := ((r0_1.enter hB nd37).up hB37 e38)
          refine f_ixL (k := 0) (q41) rfl (fun w40 rw40 => ?_)
          with_reducible refine k_argX ?_
          with_reducible refine k_tup ?_
          refine k_arg (val_var rfl) ?_
          refine k_arg val_c ?_
          with_reducible refine k_nil ?_
          refine k_tup_end hB38 (rcons (rint _) (rcons (rint _) (rnil (K := K)))) (fun v43 H43 r43 s43 hB43 => ?_)
          replace r43 : Rep K (G.plus dc35).M H43 (fr (0 : Rat)) v43 := r43
          with_reducible refine k_nil ?_
          refine k_spF (ra, (0 : Rat), n, 1) hB43 (rcons ((rw40.up hB38 (Ex.of s43))) (rcons (r43) (rnil (K := K)))) ⟨hra, (szr_lit 1 (0 : Rat)), (by first | omega | (dsimp only; omega))⟩ (fun v44 H44 r44 s44 hB44 => ?_)
          replace r44 : Rep K (G.plus dc35).M H44 ((fr ((ra * (0 : Rat))))) v44 := r44
          have z44 : SzR ((n + 1) + 0) ((ra * (0 : Rat))) := (szr_mul hra (szr_lit 1 (0 : Rat)) (by omega))
          exact kc35 _ _ _ (congrArg (fun z => some (fr z)) (mul_0 _).symm) (r44) (Ex.of (s43.trans s44)) hB44
        · obtain ⟨rfl, rfl⟩ := pair_of (show some ((1 : Int), (1 : Int)) = some (pp35, pq35) from hic35)
          with_reducible refine k_call ?_
          with_reducible refine k_argX ?_
          with_reducible refine k_opX ?_
          refine k_val (val_var rfl) ?_
          refine k_val (val_var rfl) ?_
          have q43 := ((r0_1.enter hB nd37).up hB37 e38)
          refine f_ixL (k := 1) (q43) rfl (fun w42 rw42 => ?_)
          with_reducible refine k_argX ?_
          with_reducible refine k_tup ?_
          refine k_arg (val_var rfl) ?_
          refine k_arg val_c ?_
          with_reducible refine k_nil ?_
          refine k_tup_end hB38 (rcons (rint _) (rcons (rint _) (rnil (K := K)))) (fun v45 H45 r45 s45 hB45 => ?_)
          replace r45 : Rep K (G.plus dc35).M H45 (fr (1 : Rat)) v45 := r45
          with_reducible refine k_nil ?_
          refine k_spF (rb, (1 : Rat), n, 1) hB45 (rcons ((rw42.up hB38 (Ex.of s45))) (rcons (r45) (rnil (K := K)))) ⟨hrb, (szr_lit 1 (1 : Rat)), (by first | omega | (dsimp only; omega))⟩ (fun v46 H46 r46 s46 hB46 => ?_)
          replace r46 : Rep K (G.plus dc35).M H46 ((fr ((rb * (1 : Rat))))) v46 := r46
          have z46 : SzR ((n + 1) + 0) ((rb * (1 : Rat))) := (szr_mul hrb (szr_lit 1 (1 : Rat)) (by omega))
          exact kc35 _ _ _ (congrArg (fun z => some (fr z)) (mul_1 _).symm) (r46) (Ex.of (s45.trans s46)) hB46
        · simp [entsK] at hic35
      · have s47 := same_of e35
        have hB47 := be35
        have q35 : ds35 = [fr (ra), fr ((0 : Rat)), fr ((0 : Rat)), fr (rb)] := eq_list l35 p35
        have r47 : Rep K G.M He35 (.lst [fr (ra), fr ((0 : Rat)), fr ((0 : Rat)), fr (rb)]) vd35 := by rw [q35] at r35; exact r35
        refine f_unpL [2, 3, 4, 5] (r47) rfl rfl (fun u44 ru44 => ?_)
        obtain ⟨u44_0, _, rfl, ru44_0, rtu44_0⟩ := cons_of ru44
        replace ru44_0 : Rep K G.M He35 ((fr (ra))) u44_0 := ru44_0
        obtain ⟨u44_1, _, rfl, ru44_1, rtu44_1⟩ := cons_of rtu44_0
        replace ru44_1 : Rep K G.M He35 ((fr ((0 : Rat)))) u44_1 := ru44_1
        obtain ⟨u44_2, _, rfl, ru44_2, rtu44_2⟩ := cons_of rtu44_1
        replace ru44_2 : Rep K G.M He35 ((fr ((0 : Rat)))) u44_2 := ru44_2
        obtain ⟨u44_3, _, rfl, ru44_3, rtu44_3⟩ := cons_of rtu44_2
        replace ru44_3 : Rep K G.M He35 ((fr (rb))) u44_3 := ru44_3
        obtain rfl := nil_of rtu44_3
        with_reducible refine k_ret ?_
        with_reducible refine k_make ?_
        refine k_arg (val_var rfl) ?_
        refine k_arg (val_var rfl) ?_
        refine k_arg (val_var rfl) ?_
        refine k_arg (val_var rfl) ?_
        with_reducible refine k_nil ?_
        refine k_make_end hB47 (rcons (ru44_0) (rcons (ru44_1) (rcons (ru44_2) (rcons (ru44_3) (rnil (K := K)))))) (fun v48 H48 r48 s48 hB48 => ?_)
        replace r48 : Rep K G.M H48 (tbD C (ra) ((0 : Rat)) ((0 : Rat)) (rb)) v48 := r48
        exact k _ _ _ rfl (r48) (s47.trans s48) hB48
    · replace hra : SzR n ra := hra
      replace hrb : SzR n rb := hrb
      replace hrc : SzR n rc := hrc
      replace hrd : SzR n rd := hrd
      replace hn : n + 1 ≤ 8000 := hn
      replace k : ∀ d v H', d = (tbI C (filled Kd.sized ra rb rc rd) : D) → Rep K G.M H' d v → Same H H' → G.B H' → Q v H' := k
      obtain ⟨v0_0, _, rfl, r0_0, rt0⟩ := cons_of r
      replace r0_0 : Rep K G.M H (.str (("sized" : Str))) v0_0 := r0_0
      obtain rfl := str_of r0_0
      obtain ⟨v0_1, _, rfl, r0_1, rt1⟩ := cons_of rt0
      replace r0_1 : Rep K G.M H (.lst [(fr (ra))]) v0_1 := r0_1
      obtain rfl := nil_of rt1
      with_reducible refine k_seq ?_
      with_reducible refine k_asg ?_
      with_reducible refine k_lct ?_
      with_reducible refine k_opX ?_
      refine k_val val_c ?_
      refine k_val (val_var rfl) ?_
      obtain ⟨v_PL45, d_PL45, r_PL45⟩ := h_PL Kd.sized
      refine f_ixK d_PL45 ?_
      refine k_lcTP (K := K) (i := 6) (j := 7) (vs := [6, 7]) (ps := entsK Kd.sized) (by decide) hB (r_PL45 G.M H) (fun i x => ([fr (ra), fr ((0 : Rat)), fr ((0 : Rat)), fr (ra)] : List D)[i]? = some x) (by intro _ _; rfl) (fun dc46 ic46 pp46 pq46 Hc46 hic46 nc46 hBc46 ec46 Qc46 kc46 => ?_) (fun ds46 vd46 He46 l46 p46 r46 e46 be46 => ?_)
      · have hB49 := Bg.enterB hB nc46
        have nd49 := nc46
        have hB50 := hBc46
        have e50 := ec46
        rcases ic46 with _ | _ | _ | _ | ic46
        · obtain ⟨rfl, rfl⟩ := pair_of (show some ((0 : Int), (1 : Int)) = some (pp46, pq46) from hic46)
          with_reducible refine k_call ?_
          with_reducible refine k_argX ?_
          with_reducible refine k_opX ?_
          refine k_val (val_var rfl) ?_
          refine k_val (val_var rfl) ?_
          have q48 := ((r0_1.enter hB nd49).up hB49 e50)
          refine f_ixL (k := 0) (q48) rfl (fun w47 rw47 => ?_)
          with_reducible refine k_argX ?_
          with_reducible refine k_tup ?_
          refine k_arg (val_var rfl) ?_
          refine k_arg val_c ?_
          with_reducible refine k_nil ?_
          refine k_tup_end hB50 (rcons (rint _) (rcons (rint _) (rnil (K := K)))) (fun v51 H51 r51 s51 hB51 => ?_)
          replace r51 : Rep K (G.plus dc46).M H51 (fr (1 : Rat)) v51 := r51
          with_reducible refine k_nil ?_
          refine k_spF (ra, (1 : Rat), n, 1) hB51 (rcons ((rw47.up hB50 (Ex.of s51))) (rcons (r51) (rnil (K := K)))) ⟨hra, (szr_lit 1 (1 : Rat)), (by first | omega | (dsimp only; omega))⟩ (fun v52 H52 r52 s52 hB52 => ?_)
          replace r52 : Rep K (G.plus dc46).M H52 ((fr ((ra * (1 : Rat))))) v52 := r52
          have z52 : SzR ((n + 1) + 0) ((ra * (1 : Rat))) := (szr_mul hra (szr_lit 1 (1 : Rat)) (by omega))
          exact kc46 _ _ _ (congrArg (fun z => some (fr z)) (mul_1 _).symm) (r52) (Ex.of (s51.trans s52)) hB52
        · obtain ⟨rfl, rfl⟩ := pair_of (show some ((0 : Int), (0 : Int)) = some (pp46, pq46) from hic46)
          with_reducible refine k_call ?_
          with_reducible refine k_argX ?_
          with_reducible refine k_opX ?_
          refine k_val (val_var rfl) ?_
          refine k_val (val_var rfl) ?_
          have q50 := ((r0_1.enter hB nd49).up hB49 e50)
          refine f_ixL (k := 0) (q50) rfl (fun w49 rw49 => ?_)
          with_reducible refine k_argX ?_
          with_reducible refine k_tup ?_
          refine k_arg (val_var rfl) ?_
          refine k_arg val_c ?_
          with_reducible refine k_nil ?_
          refine k_tup_end hB50 (rcons (rint _) (rcons (rint _) (rnil (K := K)))) (fun v53 H53 r53 s53 hB53 => ?_)
          replace r53 : Rep K (G.plus dc46).M H53 (fr (0 : Rat)) v53 := r53
          with_reducible refine k_nil ?_
          refine k_spF (ra, (0 : Rat), n, 1) hB53 (rcons ((rw49.up hB50 (Ex.of s53))) (rcons (r53) (rnil (K := K)))) ⟨hra, (szr_lit 1 (0 : Rat)), (by first | omega | (dsimp only; omega))⟩ (fun v54 H54 r54 s54 hB54 => ?_)
          replace r54 : Rep K (G.plus dc46).M H54 ((fr ((ra * (0 : Rat))))) v54 := r54
          have z54 : SzR ((n + 1) + 0) ((ra * (0 : Rat))) := (szr_mul hra (szr_lit 1 (0 : Rat)) (by omega))
          exact kc46 _ _ _ (congrArg (fun z => some (fr z)) (mul_0 _).symm) (r54) (Ex.of (s53.trans s54)) hB54
        · obtain ⟨rfl, rfl⟩ := pair_of (show some ((0 : Int), (0 : Int)) = some (pp46, pq46) from hic46)
          with_reducible refine k_call ?_
          with_reducible refine k_argX ?_
          with_reducible refine k_opX ?_
          refine k_val (val_var rfl) ?_
          refine k_val (val_var rfl) ?_
          have q52 := ((r0_1.enter hB nd49).up hB49 e50)
          refine f_ixL (k := 0) (q52) rfl (fun w51 rw51 => ?_)
          with_reducible refine k_argX ?_
          with_reducible refine k_tup ?_
          refine k_arg (val_var rfl) ?_
          refine k_arg val_c ?_
          with_reducible refine k_nil ?_
          refine k_tup_end hB50 (rcons (rint _) (rcons (rint _) (rnil (K := K)))) (fun v55 H55 r55 s55 hB55 => ?_)
          replace r55 : Rep K (G.plus dc46).M H55 (fr (0 : Rat)) v55 := r55
          with_reducible refine k_nil ?_
          refine k_spF (ra, (0 : Rat), n, 1) hB55 (rcons ((rw51.up hB50 (Ex.of s55))) (rcons (r55) (rnil (K := K)))) ⟨hra, (szr_lit 1 (0 : Rat)), (by first | omega | (dsimp only; omega))⟩ (fun v56 H56 r56 s56 hB56 => ?_)
          replace r56 : Rep K (G.plus dc46).M H56 ((fr ((ra * (0 : Rat))))) v56 := r56
          have z56 : SzR ((n + 1) + 0) ((ra * (0 : Rat))) := (szr_mul hra (szr_lit 1 (0 : Rat)) (by omega))
          exact kc46 _ _ _ (congrArg (fun z => some (fr z)) (mul_0 _).symm) (r56) (Ex.of (s55.trans s56)) hB56
        · obtain ⟨rfl, rfl⟩ := pair_of (show some ((0 : Int), (1 : Int)) = some (pp46, pq46) from hic46)
          with_reducible refine k_call ?_
          with_reducible refine k_argX ?_
          with_reducible refine k_opX ?_
          refine k_val (val_var rfl) ?_
          refine k_val (val_var rfl) ?_
          have q54 := ((r0_1.enter hB nd49).up hB49 e50)
          refine f_ixL (k := 0) (q54) rfl (fun w53 rw53 => ?_)
          with_reducible refine k_argX ?_
          with_reducible refine k_tup ?_
          refine k_arg (val_var rfl) ?_
          refine k_arg val_c ?_
          with_reducible refine k_nil ?_
          refine k_tup_end hB50 (rcons (rint _) (rcons (rint _) (rnil (K := K)))) (fun v57 H57 r57 s57 hB57 => ?_)
          replace r57 : Rep K (G.plus dc46).M H57 (fr (1 : Rat)) v57 := r57
          with_reducible refine k_nil ?_
          refine k_spF (ra, (1 : Rat), n, 1) hB57 (rcons ((rw53.up hB50 (Ex.of s57))) (rcons (r57) (rnil (K := K)))) ⟨hra, (szr_lit 1 (1 : Rat)), (by first | omega | (dsimp only; omega))⟩ (fun v58 H58 r58 s58 hB58 => ?_)
          replace r58 : Rep K (G.plus dc46).M H58 ((fr ((ra * (1 : Rat))))) v58 := r58
          have z58 : SzR ((n + 1) + 0) ((ra * (1 : Rat))) := (szr_mul hra (szr_lit 1 (1 : Rat)) (by omega))
          exact kc46 _ _ _ (congrArg (fun z => some (fr z)) (mul_1 _).symm) (r58) (Ex.of (s57.trans s58)) hB58
        · simp [entsK] at hic46
      · have s59 := same_of e46
        have hB59 := be46
        have q46 : ds46 = [fr (ra), fr ((0 : Rat)), fr ((0 : Rat)), fr (ra)] := eq_list l46 p46
        have r59 : Rep K G.M He46 (.lst [fr (ra), fr ((0 : Rat)), fr ((0 : Rat)), fr (ra)]) vd46 := by rw [q46] at r46; exact r46
        refine f_unpL [2, 3, 4, 5] (r59) rfl rfl (fun u55 ru55 => ?_)
        obtain ⟨u55_0, _, rfl, ru55_0, rtu55_0⟩ := cons_of ru55
        replace ru55_0 : Rep K G.M He46 ((fr (ra))) u55_0 := ru55_0
        obtain ⟨u55_1, _, rfl, ru55_1, rtu55_1⟩ := cons_of rtu55_0
        replace ru55_1 : Rep K G.M He46 ((fr ((0 : Rat)))) u55_1 := ru55_1
        obtain ⟨u55_2, _, rfl, ru55_2, rtu55_2⟩ := cons_of rtu55_1
        replace ru55_2 : Rep K G.M He46 ((fr ((0 : Rat)))) u55_2 := ru55_2
        obtain ⟨u55_3, _, rfl, ru55_3, rtu55_3⟩ := cons_of rtu55_2
        replace ru55_3 : Rep K G.M He46 ((fr (ra))) u55_3 := ru55_3
        obtain rfl := nil_of rtu55_3
        with_reducible refine k_ret ?_
        with_reducible refine k_make ?_
        refine k_arg (val_var rfl) ?_
        refine k_arg (val_var rfl) ?_
        refine k_arg (val_var rfl) ?_
        refine k_arg (val_var rfl) ?_
        with_reducible refine k_nil ?_
        refine k_make_end hB59 (rcons (ru55_0) (rcons (ru55_1) (rcons (ru55_2) (rcons (ru55_3) (rnil (K := K)))))) (fun v60 H60 r60 s60 hB60 => ?_)
        replace r60 : Rep K G.M H60 (tbD C (ra) ((0 : Rat)) ((0 : Rat)) (ra)) v60 := r60
        exact k _ _ _ rfl (r60) (s59.trans s60) hB60
    · replace hra : SzR n ra := hra
      replace hrb : SzR n rb := hrb
      replace hrc : SzR n rc := hrc
      replace hrd : SzR n rd := hrd
      replace hn : n + 1 ≤ 8000 := hn
      replace k : ∀ d v H', d = (tbI C (filled Kd.even ra rb rc rd) : D) → Rep K G.M H' d v → Same H H' → G.B H' → Q v H' := k
      obtain ⟨v0_0, _, rfl, r0_0, rt0⟩ := cons_of r
      replace r0_0 : Rep K G.M H (.str (("even" : Str))) v0_0 := r0_0
      obtain rfl := str_of r0_0
      obtain ⟨v0_1, _, rfl, r0_1, rt1⟩ := cons_of rt0
      replace r0_1 : Rep K G.M H (.lst [(fr (ra))]) v0_1 := r0_1
      obtain rfl := nil_of rt1
      with_reducible refine k_seq ?_
      with_reducible refine k_asg ?_
      with_reducible refine k_lct ?_
      with_reducible refine k_opX ?_
      refine k_val val_c ?_
      refine k_val (val_var rfl) ?_
      obtain ⟨v_PL56, d_PL56, r_PL56⟩ := h_PL Kd.even
      refine f_ixK d_PL56 ?_
      refine k_lcTP (K := K) (i := 6) (j := 7) (vs := [6, 7]) (ps := entsK Kd.even) (by decide) hB (r_PL56 G.M H) (fun i x => ([fr (ra), fr ((0 : Rat)), fr ((0 : Rat)), fr (ra)] : List D)[i]? = some x) (by intro _ _; rfl) (fun dc57 ic57 pp57 pq57 Hc57 hic57 nc57 hBc57 ec57 Qc57 kc57 => ?_) (fun ds57 vd57 He57 l57 p57 r57 e57 be57 => ?_)
      · have hB61 := Bg.enterB hB nc57
        have nd61 := nc57
        have hB62 := hBc57
        have e62 := ec57
        rcases ic57 with _ | _ | _ | _ | ic57
        · obtain ⟨rfl, rfl⟩ := pair_of (show some ((0 : Int), (1 : Int)) = some (pp57, pq57) from hic57)
          with_reducible refine k_call ?_
          with_reducible refine k_argX ?_
          with_reducible refine k_opX ?_
          refine k_val (val_var rfl) ?_
          refine k_val (val_var rfl) ?_
          have q59 := ((r0_1.enter hB nd61).up hB61 e62)
          refine f_ixL (k := 0) (q59) rfl (fun w58 rw58 => ?_)
          with_reducible refine k_argX ?_
          with_reducible refine k_tup ?_
          refine k_arg (val_var rfl) ?_
          refine k_arg val_c ?_
          with_reducible refine k_nil ?_
          refine k_tup_end hB62 (rcons (rint _) (rcons (rint _) (rnil (K := K)))) (fun v63 H63 r63 s63 hB63 => ?_)
          replace r63 : Rep K (G.plus dc57).M H63 (fr (1 : Rat)) v63 := r63
          with_reducible refine k_nil ?_
          refine k_spF (ra, (1 : Rat), n, 1) hB63 (rcons ((rw58.up hB62 (Ex.of s63))) (rcons (r63) (rnil (K := K)))) ⟨hra, (szr_lit 1 (1 : Rat)), (by first | omega | (dsimp only; omega))⟩ (fun v64 H64 r64 s64 hB64 => ?_)
          replace r64 : Rep K (G.plus dc57).M H64 ((fr ((ra * (1 : Rat))))) v64 := r64
          have z64 : SzR ((n + 1) + 0) ((ra * (1 : Rat))) := (szr_mul hra (szr_lit 1 (1 : Rat)) (by omega))
          exact kc57 _ _ _ (congrArg (fun z => some (fr z)) (mul_1 _).symm) (r64) (Ex.of (s63.trans s64)) hB64
        · obtain ⟨rfl, rfl⟩ := pair_of (show some ((0 : Int), (0 : Int)) = some (pp57, pq57) from hic57)
          with_reducible refine k_call ?_
          with_reducible refine k_argX ?_
          with_reducible refine k_opX ?_
          refine k_val (val_var rfl) ?_
          refine k_val (val_var rfl) ?_
          have q61 := ((r0_1.enter hB nd61).up hB61 e62)
          refine f_ixL (k := 0) (q61) rfl (fun w60 rw60 => ?_)
          with_reducible refine k_argX ?_
          with_reducible refine k_tup ?_
          refine k_arg (val_var rfl) ?_
          refine k_arg val_c ?_
          with_reducible refine k_nil ?_
          refine k_tup_end hB62 (rcons (rint _) (rcons (rint _) (rnil (K := K)))) (fun v65 H65 r65 s65 hB65 => ?_)
          replace r65 : Rep K (G.plus dc57).M H65 (fr (0 : Rat)) v65 := r65
          with_reducible refine k_nil ?_
          refine k_spF (ra, (0 : Rat), n, 1) hB65 (rcons ((rw60.up hB62 (Ex.of s65))) (rcons (r65) (rnil (K := K)))) ⟨hra, (szr_lit 1 (0 : Rat)), (by first | omega | (dsimp only; omega))⟩ (fun v66 H66 r66 s66 hB66 => ?_)
          replace r66 : Rep K (G.plus dc57).M H66 ((fr ((ra * (0 : Rat))))) v66 := r66
          have z66 : SzR ((n + 1) + 0) ((ra * (0 : Rat))) := (szr_mul hra (szr_lit 1 (0 : Rat)) (by omega))
          exact kc57 _ _ _ (congrArg (fun z => some (fr z)) (mul_0 _).symm) (r66) (Ex.of (s65.trans s66)) hB66
        · obtain ⟨rfl, rfl⟩ := pair_of (show some ((0 : Int), (0 : Int)) = some (pp57, pq57) from hic57)
          with_reducible refine k_call ?_
          with_reducible refine k_argX ?_
          with_reducible refine k_opX ?_
          refine k_val (val_var rfl) ?_
          refine k_val (val_var rfl) ?_
          have q63 := ((r0_1.enter hB nd61).up hB61 e62)
          refine f_ixL (k := 0) (q63) rfl (fun w62 rw62 => ?_)
          with_reducible refine k_argX ?_
          with_reducible refine k_tup ?_
          refine k_arg (val_var rfl) ?_
          refine k_arg val_c ?_
          with_reducible refine k_nil ?_
          refine k_tup_end hB62 (rcons (rint _) (rcons (rint _) (rnil (K := K)))) (fun v67 H67 r67 s67 hB67 => ?_)
          replace r67 : Rep K (G.plus dc57).M H67 (fr (0 : Rat)) v67 := r67
          with_reducible refine k_nil ?_
          refine k_spF (ra, (0 : Rat), n, 1) hB67 (rcons ((rw62.up hB62 (Ex.of s67))) (rcons (r67) (rnil (K := K)))) ⟨hra, (szr_lit 1 (0 : Rat)), (by first | omega | (dsimp only; omega))⟩ (fun v68 H68 r68 s68 hB68 => ?_)
          replace r68 : Rep K (G.plus dc57).M H68 ((fr ((ra * (0 : Rat))))) v68 := r68
          have z68 : SzR ((n + 1) + 0) ((ra * (0 : Rat))) := (szr_mul hra (szr_lit 1 (0 : Rat)) (by omega))
          exact kc57 _ _ _ (congrArg (fun z => some (fr z)) (mul_0 _).symm) (r68) (Ex.of (s67.trans s68)) hB68
        · obtain ⟨rfl, rfl⟩ := pair_of (show some ((0 : Int), (1 : Int)) = some (pp57, pq57) from hic57)
          with_reducible refine k_call ?_
          with_reducible refine k_argX ?_
          with_reducible refine k_opX ?_
          refine k_val (val_var rfl) ?_
          refine k_val (val_var rfl) ?_
          have q65 := ((r0_1.enter hB nd61).up hB61 e62)
          refine f_ixL (k := 0) (q65) rfl (fun w64 rw64 => ?_)
          with_reducible refine k_argX ?_
          with_reducible refine k_tup ?_
          refine k_arg (val_var rfl) ?_
          refine k_arg val_c ?_
          with_reducible refine k_nil ?_
          refine k_tup_end hB62 (rcons (rint _) (rcons (rint _) (rnil (K := K)))) (fun v69 H69 r69 s69 hB69 => ?_)
          replace r69 : Rep K (G.plus dc57).M H69 (fr (1 : Rat)) v69 := r69
          with_reducible refine k_nil ?_
          refine k_spF (ra, (1 : Rat), n, 1) hB69 (rcons ((rw64.up hB62 (Ex.of s69))) (rcons (r69) (rnil (K := K)))) ⟨hra, (szr_lit 1 (1 : Rat)), (by first | omega | (dsimp only; omega))⟩ (fun v70 H70 r70 s70 hB70 => ?_)
          replace r70 : Rep K (G.plus dc57).M H70 ((fr ((ra * (1 : Rat))))) v70 := r70
          have z70 : SzR ((n + 1) + 0) ((ra * (1 : Rat))) := (szr_mul hra (szr_lit 1 (1 : Rat)) (by omega))
          exact kc57 _ _ _ (congrArg (fun z => some (fr z)) (mul_1 _).symm) (r70) (Ex.of (s69.trans s70)) hB70
        · simp [entsK] at hic57
      · have s71 := same_of e57
        have hB71 := be57
        have q57 : ds57 = [fr (ra), fr ((0 : Rat)), fr ((0 : Rat)), fr (ra)] := eq_list l57 p57
        have r71 : Rep K G.M He57 (.lst [fr (ra), fr ((0 : Rat)), fr ((0 : Rat)), fr (ra)]) vd57 := by rw [q57] at r57; exact r57
        refine f_unpL [2, 3, 4, 5] (r71) rfl rfl (fun u66 ru66 => ?_)
        obtain ⟨u66_0, _, rfl, ru66_0, rtu66_0⟩ := cons_of ru66
        replace ru66_0 : Rep K G.M He57 ((fr (ra))) u66_0 := ru66_0
        obtain ⟨u66_1, _, rfl, ru66_1, rtu66_1⟩ := cons_of rtu66_0
        replace ru66_1 : Rep K G.M He57 ((fr ((0 : Rat)))) u66_1 := ru66_1
        obtain ⟨u66_2, _, rfl, ru66_2, rtu66_2⟩ := cons_of rtu66_1
        replace ru66_2 : Rep K G.M He57 ((fr ((0 : Rat)))) u66_2 := ru66_2
        obtain ⟨u66_3, _, rfl, ru66_3, rtu66_3⟩ := cons_of rtu66_2
        replace ru66_3 : Rep K G.M He57 ((fr (ra))) u66_3 := ru66_3
        obtain rfl := nil_of rtu66_3
        with_reducible refine k_ret ?_
        with_reducible refine k_make ?_
        refine k_arg (val_var rfl) ?_
        refine k_arg (val_var rfl) ?_
        refine k_arg (val_var rfl) ?_
        refine k_arg (val_var rfl) ?_
        with_reducible refine k_nil ?_
        refine k_make_end hB71 (rcons (ru66_0) (rcons (ru66_1) (rcons (ru66_2) (rcons (ru66_3) (rnil (K := K)))))) (fun v72 H72 r72 s72 hB72 => ?_)
        replace r72 : Rep K G.M H72 (tbD C (ra) ((0 : Rat)) ((0 : Rat)) (ra)) v72 := r72
        exact k _ _ _ rfl (r72) (s71.trans s72) hB72
def sp_own_numbers (K : PySem.W.Frag) (C : Addr) : Sp := spF K (α := Kd × Tb × Nat) (fun x => [.str ((kdS x.1)), tbI C (x.2.1)]) (fun x => SzT x.2.2 x.2.1 ∧ 1 ≤ x.2.2 ∧ x.2.2 + 1 ≤ 8000) (fun x => (ownD x.1 x.2.1 : D))
theorem has_own_numbers {C : Addr} (T : Tx K mg) (Y : TabTx K mg w C) : ∃ f fd, Fun K "own_numbers" "own_numbers" s_own_numbers f fd ∧ mg "own_numbers" = some (.ref f) ∧ Binds K fd ["kind", "table"] [] ∧ FnOk P w K mg base CX0 6 f fd ["kind", "table"] (sp_own_numbers K C) := by
  obtain ⟨f, fd, F, M⟩ := T.own_numbers
  obtain ⟨f_times, fd_times, F_times, M_times, B_times, G_times⟩ := has_times (P := P) (w := w) (base := base) T
  obtain ⟨f_Table_entries, fd_Table_entries, F_Table_entries, M_Table_entries, B_Table_entries, G_Table_entries⟩ := has_Table_entries (P := P) (w := w) (base := base) T Y
  obtain ⟨f_own_count, fd_own_count, F_own_count, M_own_count, B_own_count, G_own_count⟩ := has_own_count (P := P) (w := w) (base := base) T Y
  obtain ⟨f_table_of, fd_table_of, F_table_of, M_table_of, B_table_of, G_table_of⟩ := has_table_of (P := P) (w := w) (base := base) T Y
  obtain ⟨f_Table___eq__, fd_Table___eq__, F_Table___eq__, M_Table___eq__, B_Table___eq__, G_Table___eq__⟩ := has_Table___eq__ (P := P) (w := w) (base := base) T Y
  obtain ⟨a_PL, m_PL, h_PL⟩ := Y.places
  refine ⟨f, fd, F, M, F.binds (ps := ["kind", "table"]) (fun _ _ _ _ _ _ us hl => match us, hl with | [_, _], _ => rfl), F.ok sc_own_numbers (fun vs H Q E h => ?_) (fun cdv A outer s H vs Q E hr h => ?_)⟩
  · obtain ⟨G, x, hB, r, hp, q⟩ := h; rw [r.len]; rfl
  · obtain ⟨G, ⟨kd, t, n⟩, hB, r, ⟨ht, hn1, hn⟩, k⟩ := h
    refine ⟨_, (pss_cons (ps_set (i := 2) sc_own_numbers.nd rfl (.inl rfl) (pe_meth0 (pv 1) Y.cl M_Table_entries G_Table_entries (hr.mono (by decide)) B_Table_entries .nil pass0)) (pss_cons (ps_setLc (i := 4) (own := [("own", 3), ("_", 7)]) (g := gPair K 3 7) (tt := tYes) (by rfl) sc_own_numbers.nd rfl rfl (sw_true rfl rfl rfl (by decide +kernel)) (pi_tupK (K := K) (pe_ix ix_kdict (pe_glob (v := .ref a_PL) (by rfl) m_PL rfl) (pv 0) (fun _ _ => rfl))) (blkOk_by (own := [("own", 3), ("_", 7)]) (N := ["kind", "table", "entries", "own", "owns", "numbers", "at", "_"]) (sc := (defScope s_own_numbers)) (by decide +kernel)) (fun _ _ _ _ _ => pg_tupK (K := K) rfl (pgs_cons (pg_name (i := 3) sc_own_numbers.nd rfl (.inl rfl)) (pgs_cons (pg_name (i := 7) sc_own_numbers.nd rfl (.inl rfl)) pgs_nil))) (fun _ _ _ _ _ => pts_nil) (fun _ _ _ _ _ => (pv 3))) (pss_cons (ps_set (i := 5) sc_own_numbers.nd rfl (.inl rfl) (pe_lst pa_nil)) (pss_cons (ps_for PassesOwn.never rfl (pi_range1 (by rfl) T.range (pa_cons (pe_call G_own_count (hr.mono (by decide)) (by rfl) M_own_count F_own_count.kp B_own_count .nil pass0 (pa_cons (pv 0) pa_nil)) pa_nil)) (pg_name (i := 3) sc_own_numbers.nd rfl (.inl rfl)) (pss_cons (ps_set (i := 6) sc_own_numbers.nd rfl (.inl rfl) (pe_bm PySem.F.plainAttrs_list PySem.F.slot_list_index PySem.F.type_list_index (mt_indexK (K := K)) (pv 4) (pa_cons (pv 3) pa_nil))) (pss_one (ps_expr (pe_bm PySem.F.plainAttrs_list PySem.F.slot_list_append PySem.F.type_list_append mt_append (pv 5) (pa_cons (pe_call G_times (hr.mono (by decide)) (by rfl) M_times F_times.kp B_times .nil pass0 (pa_cons (pe_ix (ix_tupK (K := K)) (pv 2) (pv 6) (fun _ _ => rfl)) (pa_cons (pe_tup (pa_cons (pe_ix (ix_tupK (K := K)) (pe_ix (ix_tupK (K := K)) (pe_ix ix_kdict (pe_glob (v := .ref a_PL) (by rfl) m_PL rfl) (pv 0) (fun _ _ => rfl)) (pv 6) (fun _ _ => rfl)) pe_int (fun _ _ => rfl)) (pa_cons pe_int pa_nil))) pa_nil))) pa_nil)))))) (pss_one (ps_ret (pe_ifExp (pt_cmpR (op_ownEq G_Table___eq__ (hr.mono (by decide)) B_Table___eq__ pass0 Y.eqf M_Table___eq__.1 M_Table___eq__.2) (pe_call G_table_of (hr.mono (by decide)) (by rfl) M_table_of F_table_of.kp B_table_of .nil pass0 (pa_cons (pv 0) (pa_cons (pv 5) pa_nil))) (pv 1) (nomark _)) (pv 5) pe_non))))))), ?_⟩
    cases kd
    · replace ht : SzT n t := ht
      replace hn1 : 1 ≤ n := hn1
      replace hn : n + 1 ≤ 8000 := hn
      replace k : ∀ d v H', d = (ownD Kd.slanted t : D) → Rep K G.M H' d v → Same H H' → G.B H' → Q v H' := k
      obtain ⟨v0_0, _, rfl, r0_0, rt0⟩ := cons_of r
      replace r0_0 : Rep K G.M H (.str (("slanted" : Str))) v0_0 := r0_0
      obtain rfl := str_of r0_0
      obtain ⟨v0_1, _, rfl, r0_1, rt1⟩ := cons_of rt0
      replace r0_1 : Rep K G.M H (tbI C (t)) v0_1 := r0_1
      obtain rfl := nil_of rt1
      with_reducible refine k_seq ?_
      with_reducible refine k_set ?_
      with_reducible refine k_meth ?_
      refine k_val (val_var rfl) ?_
      refine f_meth (r0_1) (by decide +kernel) ?_
      with_reducible refine k_nil ?_
      refine k_spF ((t).a, (t).b, (t).c, (t).d) hB (rcons (r0_1) (rnil (K := K))) trivial (fun v1 H1 r1 s1 hB1 => ?_)
      replace r1 : Rep K G.M H1 (.tup [(fr ((t).a)), (fr ((t).b)), (fr ((t).c)), (fr ((t).d))]) v1 := r1
      have z1_0 : SzR n ((t).a) := (ht).1
      have z1_1 : SzR n ((t).b) := (ht).2.1
      have z1_2 : SzR n ((t).c) := (ht).2.2.1
      have z1_3 : SzR n ((t).d) := (ht).2.2.2
      with_reducible refine k_seq ?_
      with_reducible refine k_set ?_
      with_reducible refine k_lct ?_
      with_reducible refine k_opX ?_
      refine k_val val_c ?_
      refine k_val (val_var rfl) ?_
      obtain ⟨v_PL1, d_PL1, r_PL1⟩ := h_PL Kd.slanted
      refine f_ixK d_PL1 ?_
      refine k_lcTP (K := K) (i := 3) (j := 7) (vs := [3, 7]) (ps := entsK Kd.slanted) (by decide) hB1 (r_PL1 G.M H1) (fun i x => ([.int (0 : Int), .int (1 : Int), .int (2 : Int), .int (3 : Int)] : List D)[i]? = some x) (by intro _ _; rfl) (fun dc2 ic2 pp2 pq2 Hc2 hic2 nc2 hBc2 ec2 Qc2 kc2 => ?_) (fun ds2 vd2 He2 l2 p2 r2 e2 be2 => ?_)
      · have hB2 := Bg.enterB hB1 nc2
        have nd2 := nc2
        have hB3 := hBc2
        have e3 := ec2
        rcases ic2 with _ | _ | _ | _ | ic2
        · obtain ⟨rfl, rfl⟩ := pair_of (show some ((0 : Int), (1 : Int)) = some (pp2, pq2) from hic2)
          refine k_val (val_var rfl) ?_
          exact kc2 _ _ _ rfl (rint _) (Ex.of (Same.refl _)) hB3
        · obtain ⟨rfl, rfl⟩ := pair_of (show some ((1 : Int), (1 : Int)) = some (pp2, pq2) from hic2)
          refine k_val (val_var rfl) ?_
          exact kc2 _ _ _ rfl (rint _) (Ex.of (Same.refl _)) hB3
        · obtain ⟨rfl, rfl⟩ := pair_of (show some ((2 : Int), (1 : Int)) = some (pp2, pq2) from hic2)
          refine k_val (val_var rfl) ?_
          exact kc2 _ _ _ rfl (rint _) (Ex.of (Same.refl _)) hB3
        · obtain ⟨rfl, rfl⟩ := pair_of (show some ((3 : Int), (1 : Int)) = some (pp2, pq2) from hic2)
          refine k_val (val_var rfl) ?_
          exact kc2 _ _ _ rfl (rint _) (Ex.of (Same.refl _)) hB3
        · simp [entsK] at hic2
      · have s4 := same_of e2
        have hB4 := be2
        have q2 : ds2 = [.int (0 : Int), .int (1 : Int), .int (2 : Int), .int (3 : Int)] := eq_list l2 p2
        have r4 : Rep K G.M He2 (.lst [.int (0 : Int), .int (1 : Int), .int (2 : Int), .int (3 : Int)]) vd2 := by rw [q2] at r2; exact r2
        with_reducible refine k_seq ?_
        with_reducible refine k_set ?_
        with_reducible refine k_lst ?_
        with_reducible refine k_nil ?_
        refine ⟨by decide, fun pm3 nm3 => ?_⟩
        have s5 := same_upd (o := .lst []) nm3
        have hB5 := Bg.st G _ _ hB4 s5
        with_reducible refine k_seq ?_
        refine k_for_r ?_
        with_reducible refine k_argX ?_
        with_reducible refine k_call ?_
        refine k_arg (val_var rfl) ?_
        with_reducible refine k_nil ?_
        refine k_spF Kd.slanted hB5 (rcons (rstr _) (rnil (K := K))) trivial (fun v6 H6 r6 s6 hB6 => ?_)
        obtain rfl := int_of (i := (4 : Int)) r6
        with_reducible refine k_nil ?_
        refine k_forMk (K := K) (n := 4) (j := 3) (d := pm3) hB4 nm3 (fun i x => ([fr ((t).a), fr ((t).b), fr ((t).c), fr ((t).d)] : List D)[i]? = some x) (Mk1.still hB4 nm3 s6 hB6) (fun _ σ2 => ∃ (o3_3 : Option V) (o6_3 : Option V), σ2 = [some (V.str (("slanted" : Str))), some v0_1, some v1, o3_3, some vd2, some (.ref pm3), o6_3, none]) ⟨_, _, rfl⟩ (by decide) (fun im3 zm3 σm3 Hm3 him3 hzm3 Im3 bm3 em3 Dm3 km3 => ?_) (fun σm3 ds3 He3 Im3 l3 p3 r3 e3 be3 ow3 => ?_) rfl
        · obtain ⟨o3_3, o6_3, rfl⟩ := Im3
          have hB7 := Bg.enterB hB4 nm3
          have nd7 := nm3
          have hB8 := bm3
          have e8 := em3
          rcases im3 with _ | _ | _ | _ | im3
          · obtain rfl : zm3 = (0 : Int) := hzm3
            with_reducible refine k_seq ?_
            with_reducible refine k_set ?_
            have q4 := ((r4.enter hB4 nd7).up hB7 e8)
            refine k_bm (k_val (val_var rfl) ⟨ty_list (q4), ?_⟩)
            refine k_arg (val_var rfl) ?_
            with_reducible refine k_nil ?_
            refine f_index (ns := [0, 1, 2, 3]) 0 (q4) (by rfl) (by decide) ?_
            obtain ⟨ym3_, hy3_⟩ := hB8.2
            refine k_drop (k_bm (k_val (val_var rfl) ⟨ty_at hy3_, ?_⟩))
            with_reducible refine k_argX ?_
            with_reducible refine k_call ?_
            with_reducible refine k_argX ?_
            with_reducible refine k_opX ?_
            refine k_val (val_var rfl) ?_
            refine k_val (val_var rfl) ?_
            have q6 := (((r1.up hB1 (Ex.of s4)).enter hB4 nd7).up hB7 e8)
            refine f_ixT (k := 0) (q6) rfl (fun w5 rw5 => ?_)
            with_reducible refine k_argX ?_
            with_reducible refine k_tup ?_
            with_reducible refine k_argX ?_
            with_reducible refine k_opX ?_
            with_reducible refine k_opX ?_
            with_reducible refine k_opX ?_
            refine k_val val_c ?_
            refine k_val (val_var rfl) ?_
            obtain ⟨v_PL7, d_PL7, r_PL7⟩ := h_PL Kd.slanted
            refine f_ixK d_PL7 ?_
            refine k_val (val_var rfl) ?_
            refine f_ixT (k := 0) (r_PL7 (G.plus pm3).M Hm3) rfl (fun w8 rw8 => ?_)
            refine k_val val_c ?_
            refine f_ixT (k := 1) (rw8) rfl (fun w9 rw9 => ?_)
            obtain rfl := int_of rw9
            refine k_arg val_c ?_
            with_reducible refine k_nil ?_
            refine k_tup_end hB8 (rcons (rint _) (rcons (rint _) (rnil (K := K)))) (fun v9 H9 r9 s9 hB9 => ?_)
            replace r9 : Rep K (G.plus pm3).M H9 (fr (1 : Rat)) v9 := r9
            with_reducible refine k_nil ?_
            refine k_spF ((t).a, (1 : Rat), n, 1) hB9 (rcons ((rw5.up hB8 (Ex.of s9))) (rcons (r9) (rnil (K := K)))) ⟨z1_0, (szr_lit 1 (1 : Rat)), (by first | omega | (dsimp only; omega))⟩ (fun v10 H10 r10 s10 hB10 => ?_)
            replace r10 : Rep K (G.plus pm3).M H10 ((fr (((t).a * (1 : Rat))))) v10 := r10
            have z10 : SzR ((n + 1) + 0) (((t).a * (1 : Rat))) := (szr_mul z1_0 (szr_lit 1 (1 : Rat)) (by omega))
            with_reducible refine k_nil ?_
            exact app_at (km3 _ _ _ _ ⟨_, _, rfl⟩ (congrArg (fun z => some (fr z)) (mul_1 _).symm) (r10) (Ex.of (s9.trans s10)) hB10)
          · obtain rfl : zm3 = (1 : Int) := hzm3
            with_reducible refine k_seq ?_
            with_reducible refine k_set ?_
            have q10 := ((r4.enter hB4 nd7).up hB7 e8)
            refine k_bm (k_val (val_var rfl) ⟨ty_list (q10), ?_⟩)
            refine k_arg (val_var rfl) ?_
            with_reducible refine k_nil ?_
            refine f_index (ns := [0, 1, 2, 3]) 1 (q10) (by rfl) (by decide) ?_
            obtain ⟨ym3_, hy3_⟩ := hB8.2
            refine k_drop (k_bm (k_val (val_var rfl) ⟨ty_at hy3_, ?_⟩))
            with_reducible refine k_argX ?_
            with_reducible refine k_call ?_
            with_reducible refine k_argX ?_
            with_reducible refine k_opX ?_
            refine k_val (val_var rfl) ?_
            refine k_val (val_var rfl) ?_
            have q12 := (((r1.up hB1 (Ex.of s4)).enter hB4 nd7).up hB7 e8)
            refine f_ixT (k := 1) (q12) rfl (fun w11 rw11 => ?_)
            with_reducible refine k_argX ?_
            with_reducible refine k_tup ?_
            with_reducible refine k_argX ?_
            with_reducible refine k_opX ?_
            with_reducible refine k_opX ?_
            with_reducible refine k_opX ?_
            refine k_val val_c ?_
            refine k_val (val_var rfl) ?_
            obtain ⟨v_PL13, d_PL13, r_PL13⟩ := h_PL Kd.slanted
            refine f_ixK d_PL13 ?_
            refine k_val (val_var rfl) ?_
            refine f_ixT (k := 1) (r_PL13 (G.plus pm3).M Hm3) rfl (fun w14 rw14 => ?_)
            refine k_val val_c ?_
            refine f_ixT (k := 1) (rw14) rfl (fun w15 rw15 => ?_)
            obtain rfl := int_of rw15
            refine k_arg val_c ?_
            with_reducible refine k_nil ?_
            refine k_tup_end hB8 (rcons (rint _) (rcons (rint _) (rnil (K := K)))) (fun v11 H11 r11 s11 hB11 => ?_)
            replace r11 : Rep K (G.plus pm3).M H11 (fr (1 : Rat)) v11 := r11
            with_reducible refine k_nil ?_
            refine k_spF ((t).b, (1 : Rat), n, 1) hB11 (rcons ((rw11.up hB8 (Ex.of s11))) (rcons (r11) (rnil (K := K)))) ⟨z1_1, (szr_lit 1 (1 : Rat)), (by first | omega | (dsimp only; omega))⟩ (fun v12 H12 r12 s12 hB12 => ?_)
            replace r12 : Rep K (G.plus pm3).M H12 ((fr (((t).b * (1 : Rat))))) v12 := r12
            have z12 : SzR ((n + 1) + 0) (((t).b * (1 : Rat))) := (szr_mul z1_1 (szr_lit 1 (1 : Rat)) (by omega))
            with_reducible refine k_nil ?_
            exact app_at (km3 _ _ _ _ ⟨_, _, rfl⟩ (congrArg (fun z => some (fr z)) (mul_1 _).symm) (r12) (Ex.of (s11.trans s12)) hB12)
          · obtain rfl : zm3 = (2 : Int) := hzm3
            with_reducible refine k_seq ?_
            with_reducible refine k_set ?_
            have q16 := ((r4.enter hB4 nd7).up hB7 e8)
            refine k_bm (k_val (val_var rfl) ⟨ty_list (q16), ?_⟩)
            refine k_arg (val_var rfl) ?_
            with_reducible refine k_nil ?_
            refine f_index (ns := [0, 1, 2, 3]) 2 (q16) (by rfl) (by decide) ?_
            obtain ⟨ym3_, hy3_⟩ := hB8.2
            refine k_drop (k_bm (k_val (val_var rfl) ⟨ty_at hy3_, ?_⟩))
            with_reducible refine k_argX ?_
            with_reducible refine k_call ?_
            with_reducible refine k_argX ?_
            with_reducible refine k_opX ?_
            refine k_val (val_var rfl) ?_
            refine k_val (val_var rfl) ?_
            have q18 := (((r1.up hB1 (Ex.of s4)).enter hB4 nd7).up hB7 e8)
            refine f_ixT (k := 2) (q18) rfl (fun w17 rw17 => ?_)
            with_reducible refine k_argX ?_
            with_reducible refine k_tup ?_
            with_reducible refine k_argX ?_
            with_reducible refine k_opX ?_
            with_reducible refine k_opX ?_
            with_reducible refine k_opX ?_
            refine k_val val_c ?_
            refine k_val (val_var rfl) ?_
            obtain ⟨v_PL19, d_PL19, r_PL19⟩ := h_PL Kd.slanted
            refine f_ixK d_PL19 ?_
            refine k_val (val_var rfl) ?_
            refine f_ixT (k := 2) (r_PL19 (G.plus pm3).M Hm3) rfl (fun w20 rw20 => ?_)
            refine k_val val_c ?_
            refine f_ixT (k := 1) (rw20) rfl (fun w21 rw21 => ?_)
            obtain rfl := int_of rw21
            refine k_arg val_c ?_
            with_reducible refine k_nil ?_
            refine k_tup_end hB8 (rcons (rint _) (rcons (rint _) (rnil (K := K)))) (fun v13 H13 r13 s13 hB13 => ?_)
            replace r13 : Rep K (G.plus pm3).M H13 (fr (1 : Rat)) v13 := r13
            with_reducible refine k_nil ?_
            refine k_spF ((t).c, (1 : Rat), n, 1) hB13 (rcons ((rw17.up hB8 (Ex.of s13))) (rcons (r13) (rnil (K := K)))) ⟨z1_2, (szr_lit 1 (1 : Rat)), (by first | omega | (dsimp only; omega))⟩ (fun v14 H14 r14 s14 hB14 => ?_)
            replace r14 : Rep K (G.plus pm3).M H14 ((fr (((t).c * (1 : Rat))))) v14 := r14
            have z14 : SzR ((n + 1) + 0) (((t).c * (1 : Rat))) := (szr_mul z1_2 (szr_lit 1 (1 : Rat)) (by omega))
            with_reducible refine k_nil ?_
            exact app_at (km3 _ _ _ _ ⟨_, _, rfl⟩ (congrArg (fun z => some (fr z)) (mul_1 _).symm) (r14) (Ex.of (s13.trans s14)) hB14)
          · obtain rfl : zm3 = (3 : Int) := hzm3
            with_reducible refine k_seq ?_
            with_reducible refine k_set ?_
            have q22 := ((r4.enter hB4 nd7).up hB7 e8)
            refine k_bm (k_val (val_var rfl) ⟨ty_list (q22), ?_⟩)
            refine k_arg (val_var rfl) ?_
            with_reducible refine k_nil ?_
            refine f_index (ns := [0, 1, 2, 3]) 3 (q22) (by rfl) (by decide) ?_
            obtain ⟨ym3_, hy3_⟩ := hB8.2
            refine k_drop (k_bm (k_val (val_var rfl) ⟨ty_at hy3_, ?_⟩))
            with_reducible refine k_argX ?_
            with_reducible refine k_call ?_
            with_reducible refine k_argX ?_
            with_reducible refine k_opX ?_
            refine k_val (val_var rfl) ?_
            refine k_val (val_var rfl) ?_
            have q24 := (((r1.up hB1 (Ex.of s4)).enter hB4 nd7).up hB7 e8)
            refine f_ixT (k := 3) (q24) rfl (fun w23 rw23 => ?_)
            with_reducible refine k_argX ?_
            with_reducible refine k_tup ?_
            with_reducible refine k_argX ?_
            with_reducible refine k_opX ?_
            with_reducible refine k_opX ?_
            with_reducible refine k_opX ?_
            refine k_val val_c ?_
            refine k_val (val_var rfl) ?_
            obtain ⟨v_PL25, d_PL25, r_PL25⟩ := h_PL Kd.slanted
            refine f_ixK d_PL25 ?_
            refine k_val (val_var rfl) ?_
            refine f_ixT (k := 3) (r_PL25 (G.plus pm3).M Hm3) rfl (fun w26 rw26 => ?_)
            refine k_val val_c ?_
            refine f_ixT (k := 1) (rw26) rfl (fun w27 rw27 => ?_)
            obtain rfl := int_of rw27
            refine k_arg val_c ?_
            with_reducible refine k_nil ?_
            refine k_tup_end hB8 (rcons (rint _) (rcons (rint _) (rnil (K := K)))) (fun v15 H15 r15 s15 hB15 => ?_)
            replace r15 : Rep K (G.plus pm3).M H15 (fr (1 : Rat)) v15 := r15
            with_reducible refine k_nil ?_
            refine k_spF ((t).d, (1 : Rat), n, 1) hB15 (rcons ((rw23.up hB8 (Ex.of s15))) (rcons (r15) (rnil (K := K)))) ⟨z1_3, (szr_lit 1 (1 : Rat)), (by first | omega | (dsimp only; omega))⟩ (fun v16 H16 r16 s16 hB16 => ?_)
            replace r16 : Rep K (G.plus pm3).M H16 ((fr (((t).d * (1 : Rat))))) v16 := r16
            have z16 : SzR ((n + 1) + 0) (((t).d * (1 : Rat))) := (szr_mul z1_3 (szr_lit 1 (1 : Rat)) (by omega))
            with_reducible refine k_nil ?_
            exact app_at (km3 _ _ _ _ ⟨_, _, rfl⟩ (congrArg (fun z => some (fr z)) (mul_1 _).symm) (r16) (Ex.of (s15.trans s16)) hB16)
          · omega
        · obtain ⟨o3_3, o6_3, rfl⟩ := Im3
          have s17 := same_of e3
          have hB17 := be3
          have q3 : ds3 = [fr ((t).a), fr ((t).b), fr ((t).c), fr ((t).d)] := eq_list l3 p3
          have r17 : Rep K G.M He3 (.lst [fr ((t).a), fr ((t).b), fr ((t).c), fr ((t).d)]) (.ref pm3) := by rw [q3] at r3; exact r3
          with_reducible refine k_ret ?_
          with_reducible refine k_ifE ?_
          with_reducible refine k_T ?_
          with_reducible refine k_opX ?_
          with_reducible refine k_call ?_
          refine k_arg (val_var rfl) ?_
          refine k_arg (val_var rfl) ?_
          with_reducible refine k_nil ?_
          refine k_spF (Kd.slanted, (t).a, (t).b, (t).c, (t).d, n) hB17 (rcons (rstr _) (rcons (r17) (rnil (K := K)))) ⟨((ht).1).mono (by first | omega | (dsimp only; omega)), ((ht).2.1).mono (by first | omega | (dsimp only; omega)), ((ht).2.2.1).mono (by first | omega | (dsimp only; omega)), ((ht).2.2.2).mono (by first | omega | (dsimp only; omega)), (by first | omega | (dsimp only; omega))⟩ (fun v18 H18 r18 s18 hB18 => ?_)
          replace r18 : Rep K G.M H18 (tbI C (filled (Kd.slanted) ((t).a) ((t).b) ((t).c) ((t).d))) v18 := r18
          refine k_val (val_var rfl) ?_
          have q28 := ((((r0_1.up hB (Ex.of s1)).up hB1 (Ex.of s4)).up hB4 (Ex.of s17)).up hB17 (Ex.of s18))
          refine f_own (r18) (q28) ?_
          refine k_spF (filled (Kd.slanted) ((t).a) ((t).b) ((t).c) ((t).d), t) hB18 (rcons (r18) (rcons (q28) (rnil (K := K)))) trivial (fun v19 H19 r19 s19 hB19 => ?_)
          obtain rfl := bl_of (b := (decide (filled (Kd.slanted) ((t).a) ((t).b) ((t).c) ((t).d) = t))) r19
          refine ⟨_, rfl, ?_⟩
          refine k_ite (fun c29 => ?_) (fun c29 => ?_)
          · refine k_val (val_var rfl) ?_
            have q30 := ((r17.up hB17 (Ex.of s18)).up hB18 (Ex.of s19))
            exact k _ _ _ (own_yes c29) (q30) ((((s1.trans s4).trans s17).trans s18).trans s19) hB19
          · refine k_val val_c ?_
            exact k _ _ _ (own_no back_slanted c29) (rnon) ((((s1.trans s4).trans s17).trans s18).trans s19) hB19
    · replace ht : SzT n t := ht
      replace hn1 : 1 ≤ n := hn1
      replace hn : n + 1 ≤ 8000 := hn
      replace k : ∀ d v H', d = (ownD Kd.turned t : D) → Rep K G.M H' d v → Same H H' → G.B H' → Q v H' := k
      obtain ⟨v0_0, _, rfl, r0_0, rt0⟩ := cons_of r
      replace r0_0 : Rep K G.M H (.str (("turned" : Str))) v0_0 := r0_0
      obtain rfl := str_of r0_0
      obtain ⟨v0_1, _, rfl, r0_1, rt1⟩ := cons_of rt0
      replace r0_1 : Rep K G.M H (tbI C (t)) v0_1 := r0_1
      obtain rfl := nil_of rt1
      with_reducible refine k_seq ?_
      with_reducible refine k_set ?_
      with_reducible refine k_meth ?_
      refine k_val (val_var rfl) ?_
      refine f_meth (r0_1) (by decide +kernel) ?_
      with_reducible refine k_nil ?_
      refine k_spF ((t).a, (t).b, (t).c, (t).d) hB (rcons (r0_1) (rnil (K := K))) trivial (fun v20 H20 r20 s20 hB20 => ?_)
      replace r20 : Rep K G.M H20 (.tup [(fr ((t).a)), (fr ((t).b)), (fr ((t).c)), (fr ((t).d))]) v20 := r20
      have z20_0 : SzR n ((t).a) := (ht).1
      have z20_1 : SzR n ((t).b) := (ht).2.1
      have z20_2 : SzR n ((t).c) := (ht).2.2.1
      have z20_3 : SzR n ((t).d) := (ht).2.2.2
      with_reducible refine k_seq ?_
      with_reducible refine k_set ?_
      with_reducible refine k_lct ?_
      with_reducible refine k_opX ?_
      refine k_val val_c ?_
      refine k_val (val_var rfl) ?_
      obtain ⟨v_PL31, d_PL31, r_PL31⟩ := h_PL Kd.turned
      refine f_ixK d_PL31 ?_
      refine k_lcTP (K := K) (i := 3) (j := 7) (vs := [3, 7]) (ps := entsK Kd.turned) (by decide) hB20 (r_PL31 G.M H20) (fun i x => ([.int (0 : Int), .int (1 : Int), .int (1 : Int), .int (0 : Int)] : List D)[i]? = some x) (by intro _ _; rfl) (fun dc32 ic32 pp32 pq32 Hc32 hic32 nc32 hBc32 ec32 Qc32 kc32 => ?_) (fun ds32 vd32 He32 l32 p32 r32 e32 be32 => ?_)
      · have hB21 := Bg.enterB hB20 nc32
        have nd21 := nc32
        have hB22 := hBc32
        have e22 := ec32
        rcases ic32 with _ | _ | _ | _ | ic32
        · obtain ⟨rfl, rfl⟩ := pair_of (show some ((0 : Int), (1 : Int)) = some (pp32, pq32) from hic32)
          refine k_val (val_var rfl) ?_
          exact kc32 _ _ _ rfl (rint _) (Ex.of (Same.refl _)) hB22
        · obtain ⟨rfl, rfl⟩ := pair_of (show some ((1 : Int), (-1 : Int)) = some (pp32, pq32) from hic32)
          refine k_val (val_var rfl) ?_
          exact kc32 _ _ _ rfl (rint _) (Ex.of (Same.refl _)) hB22
        · obtain ⟨rfl, rfl⟩ := pair_of (show some ((1 : Int), (1 : Int)) = some (pp32, pq32) from hic32)
          refine k_val (val_var rfl) ?_
          exact kc32 _ _ _ rfl (rint _) (Ex.of (Same.refl _)) hB22
        · obtain ⟨rfl, rfl⟩ := pair_of (show some ((0 : Int), (1 : Int)) = some (pp32, pq32) from hic32)
          refine k_val (val_var rfl) ?_
          exact kc32 _ _ _ rfl (rint _) (Ex.of (Same.refl _)) hB22
        · simp [entsK] at hic32
      · have s23 := same_of e32
        have hB23 := be32
        have q32 : ds32 = [.int (0 : Int), .int (1 : Int), .int (1 : Int), .int (0 : Int)] := eq_list l32 p32
        have r23 : Rep K G.M He32 (.lst [.int (0 : Int), .int (1 : Int), .int (1 : Int), .int (0 : Int)]) vd32 := by rw [q32] at r32; exact r32
        with_reducible refine k_seq ?_
        with_reducible refine k_set ?_
        with_reducible refine k_lst ?_
        with_reducible refine k_nil ?_
        refine ⟨by decide, fun pm33 nm33 => ?_⟩
        have s24 := same_upd (o := .lst []) nm33
        have hB24 := Bg.st G _ _ hB23 s24
        with_reducible refine k_seq ?_
        refine k_for_r ?_
        with_reducible refine k_argX ?_
        with_reducible refine k_call ?_
        refine k_arg (val_var rfl) ?_
        with_reducible refine k_nil ?_
        refine k_spF Kd.turned hB24 (rcons (rstr _) (rnil (K := K))) trivial (fun v25 H25 r25 s25 hB25 => ?_)
        obtain rfl := int_of (i := (2 : Int)) r25
        with_reducible refine k_nil ?_
        refine k_forMk (K := K) (n := 2) (j := 3) (d := pm33) hB23 nm33 (fun i x => ([fr ((t).a), fr ((-(t).b))] : List D)[i]? = some x) (Mk1.still hB23 nm33 s25 hB25) (fun _ σ2 => ∃ (o3_33 : Option V) (o6_33 : Option V), σ2 = [some (V.str (("turned" : Str))), some v0_1, some v20, o3_33, some vd32, some (.ref pm33), o6_33, none]) ⟨_, _, rfl⟩ (by decide) (fun im33 zm33 σm33 Hm33 him33 hzm33 Im33 bm33 em33 Dm33 km33 => ?_) (fun σm33 ds33 He33 Im33 l33 p33 r33 e33 be33 ow33 => ?_) rfl
        · obtain ⟨o3_33, o6_33, rfl⟩ := Im33
          have hB26 := Bg.enterB hB23 nm33
          have nd26 := nm33
          have hB27 := bm33
          have e27 := em33
          rcases im33 with _ | _ | im33
          · obtain rfl : zm33 = (0 : Int) := hzm33
            with_reducible refine k_seq ?_
            with_reducible refine k_set ?_
            have q34 := ((r23.enter hB23 nd26).up hB26 e27)
            refine k_bm (k_val (val_var rfl) ⟨ty_list (q34), ?_⟩)
            refine k_arg (val_var rfl) ?_
            with_reducible refine k_nil ?_
            refine f_index (ns := [0, 1, 1, 0]) 0 (q34) (by rfl) (by decide) ?_
            obtain ⟨ym33_, hy33_⟩ := hB27.2
            refine k_drop (k_bm (k_val (val_var rfl) ⟨ty_at hy33_, ?_⟩))
            with_reducible refine k_argX ?_
            with_reducible refine k_call ?_
            with_reducible refine k_argX ?_
            with_reducible refine k_opX ?_
            refine k_val (val_var rfl) ?_
            refine k_val (val_var rfl) ?_
            have q36 := (((r20.up hB20 (Ex.of s23)).enter hB23 nd26).up hB26 e27)
            refine f_ixT (k := 0) (q36) rfl (fun w35 rw35 => ?_)
            with_reducible refine k_argX ?_
            with_reducible refine k_tup ?_
            with_reducible refine k_argX ?_
            with_reducible refine k_opX ?_
            with_reducible refine k_opX ?_
            with_reducible refine k_opX ?_
            refine k_val val_c ?_
            refine k_val (val_var rfl) ?_
            obtain ⟨v_PL37, d_PL37, r_PL37⟩ := h_PL Kd.turned
            refine f_ixK d_PL37 ?_
            refine k_val (val_var rfl) ?_
            refine f_ixT (k := 0) (r_PL37 (G.plus pm33).M Hm33) rfl (fun w38 rw38 => ?_)
            refine k_val val_c ?_
            refine f_ixT (k := 1) (rw38) rfl (fun w39 rw39 => ?_)
            obtain rfl := int_of rw39
            refine k_arg val_c ?_
            with_reducible refine k_nil ?_
            refine k_tup_end hB27 (rcons (rint _) (rcons (rint _) (rnil (K := K)))) (fun v28 H28 r28 s28 hB28 => ?_)
            replace r28 : Rep K (G.plus pm33).M H28 (fr (1 : Rat)) v28 := r28
            with_reducible refine k_nil ?_
            refine k_spF ((t).a, (1 : Rat), n, 1) hB28 (rcons ((rw35.up hB27 (Ex.of s28))) (rcons (r28) (rnil (K := K)))) ⟨z20_0, (szr_lit 1 (1 : Rat)), (by first | omega | (dsimp only; omega))⟩ (fun v29 H29 r29 s29 hB29 => ?_)
            replace r29 : Rep K (G.plus pm33).M H29 ((fr (((t).a * (1 : Rat))))) v29 := r29
            have z29 : SzR ((n + 1) + 0) (((t).a * (1 : Rat))) := (szr_mul z20_0 (szr_lit 1 (1 : Rat)) (by omega))
            with_reducible refine k_nil ?_
            exact app_at (km33 _ _ _ _ ⟨_, _, rfl⟩ (congrArg (fun z => some (fr z)) (mul_1 _).symm) (r29) (Ex.of (s28.trans s29)) hB29)
          · obtain rfl : zm33 = (1 : Int) := hzm33
            with_reducible refine k_seq ?_
            with_reducible refine k_set ?_
            have q40 := ((r23.enter hB23 nd26).up hB26 e27)
            refine k_bm (k_val (val_var rfl) ⟨ty_list (q40), ?_⟩)
            refine k_arg (val_var rfl) ?_
            with_reducible refine k_nil ?_
            refine f_index (ns := [0, 1, 1, 0]) 1 (q40) (by rfl) (by decide) ?_
            obtain ⟨ym33_, hy33_⟩ := hB27.2
            refine k_drop (k_bm (k_val (val_var rfl) ⟨ty_at hy33_, ?_⟩))
            with_reducible refine k_argX ?_
            with_reducible refine k_call ?_
            with_reducible refine k_argX ?_
            with_reducible refine k_opX ?_
            refine k_val (val_var rfl) ?_
            refine k_val (val_var rfl) ?_
            have q42 := (((r20.up hB20 (Ex.of s23)).enter hB23 nd26).up hB26 e27)
            refine f_ixT (k := 1) (q42) rfl (fun w41 rw41 => ?_)
            with_reducible refine k_argX ?_
            with_reducible refine k_tup ?_
            with_reducible refine k_argX ?_
            with_reducible refine k_opX ?_
            with_reducible refine k_opX ?_
            with_reducible refine k_opX ?_
            refine k_val val_c ?_
            refine k_val (val_var rfl) ?_
            obtain ⟨v_PL43, d_PL43, r_PL43⟩ := h_PL Kd.turned
            refine f_ixK d_PL43 ?_
            refine k_val (val_var rfl) ?_
            refine f_ixT (k := 1) (r_PL43 (G.plus pm33).M Hm33) rfl (fun w44 rw44 => ?_)
            refine k_val val_c ?_
            refine f_ixT (k := 1) (rw44) rfl (fun w45 rw45 => ?_)
            obtain rfl := int_of rw45
            refine k_arg val_c ?_
            with_reducible refine k_nil ?_
            refine k_tup_end hB27 (rcons (rint _) (rcons (rint _) (rnil (K := K)))) (fun v30 H30 r30 s30 hB30 => ?_)
            replace r30 : Rep K (G.plus pm33).M H30 (fr (-1 : Rat)) v30 := r30
            with_reducible refine k_nil ?_
            refine k_spF ((t).b, (-1 : Rat), n, 1) hB30 (rcons ((rw41.up hB27 (Ex.of s30))) (rcons (r30) (rnil (K := K)))) ⟨z20_1, (szr_lit 1 (-1 : Rat)), (by first | omega | (dsimp only; omega))⟩ (fun v31 H31 r31 s31 hB31 => ?_)
            replace r31 : Rep K (G.plus pm33).M H31 ((fr (((t).b * (-1 : Rat))))) v31 := r31
            have z31 : SzR ((n + 1) + 0) (((t).b * (-1 : Rat))) := (szr_mul z20_1 (szr_lit 1 (-1 : Rat)) (by omega))
            with_reducible refine k_nil ?_
            exact app_at (km33 _ _ _ _ ⟨_, _, rfl⟩ (congrArg (fun z => some (fr z)) (mul_m1 _).symm) (r31) (Ex.of (s30.trans s31)) hB31)
          · omega
        · obtain ⟨o3_33, o6_33, rfl⟩ := Im33
          have s32 := same_of e33
          have hB32 := be33
          have q33 : ds33 = [fr ((t).a), fr ((-(t).b))] := eq_list l33 p33
          have r32 : Rep K G.M He33 (.lst [fr ((t).a), fr ((-(t).b))]) (.ref pm33) := by rw [q33] at r33; exact r33
          with_reducible refine k_ret ?_
          with_reducible refine k_ifE ?_
          with_reducible refine k_T ?_
          with_reducible refine k_opX ?_
          with_reducible refine k_call ?_
          refine k_arg (val_var rfl) ?_
          refine k_arg (val_var rfl) ?_
          with_reducible refine k_nil ?_
          refine k_spF (Kd.turned, (t).a, (-(t).b), (0 : Rat), (0 : Rat), (max n 1)) hB32 (rcons (rstr _) (rcons (r32) (rnil (K := K)))) ⟨((ht).1).mono (by first | omega | (dsimp only; omega)), ((szr_neg (ht).2.1)).mono (by first | omega | (dsimp only; omega)), ((szr_lit 1 (0 : Rat))).mono (by first | omega | (dsimp only; omega)), ((szr_lit 1 (0 : Rat))).mono (by first | omega | (dsimp only; omega)), (by first | omega | (dsimp only; omega))⟩ (fun v33 H33 r33 s33 hB33 => ?_)
          replace r33 : Rep K G.M H33 (tbI C (filled (Kd.turned) ((t).a) ((-(t).b)) ((0 : Rat)) ((0 : Rat)))) v33 := r33
          refine k_val (val_var rfl) ?_
          have q46 := ((((r0_1.up hB (Ex.of s20)).up hB20 (Ex.of s23)).up hB23 (Ex.of s32)).up hB32 (Ex.of s33))
          refine f_own (r33) (q46) ?_
          refine k_spF (filled (Kd.turned) ((t).a) ((-(t).b)) ((0 : Rat)) ((0 : Rat)), t) hB33 (rcons (r33) (rcons (q46) (rnil (K := K)))) trivial (fun v34 H34 r34 s34 hB34 => ?_)
          obtain rfl := bl_of (b := (decide (filled (Kd.turned) ((t).a) ((-(t).b)) ((0 : Rat)) ((0 : Rat)) = t))) r34
          refine ⟨_, rfl, ?_⟩
          refine k_ite (fun c47 => ?_) (fun c47 => ?_)
          · refine k_val (val_var rfl) ?_
            have q48 := ((r32.up hB32 (Ex.of s33)).up hB33 (Ex.of s34))
            exact k _ _ _ (own_yes c47) (q48) ((((s20.trans s23).trans s32).trans s33).trans s34) hB34
          · refine k_val val_c ?_
            exact k _ _ _ (own_no back_turned c47) (rnon) ((((s20.trans s23).trans s32).trans s33).trans s34) hB34
    · replace ht : SzT n t := ht
      replace hn1 : 1 ≤ n := hn1
      replace hn : n + 1 ≤ 8000 := hn
      replace k : ∀ d v H', d = (ownD Kd.mirrored t : D) → Rep K G.M H' d v → Same H H' → G.B H' → Q v H' := k
      obtain ⟨v0_0, _, rfl, r0_0, rt0⟩ := cons_of r
      replace r0_0 : Rep K G.M H (.str (("mirrored" : Str))) v0_0 := r0_0
      obtain rfl := str_of r0_0
      obtain ⟨v0_1, _, rfl, r0_1, rt1⟩ := cons_of rt0
      replace r0_1 : Rep K G.M H (tbI C (t)) v0_1 := r0_1
      obtain rfl := nil_of rt1
      with_reducible refine k_seq ?_
      with_reducible refine k_set ?_
      with_reducible refine k_meth ?_
      refine k_val (val_var rfl) ?_
      refine f_meth (r0_1) (by decide +kernel) ?_
      with_reducible refine k_nil ?_
      refine k_spF ((t).a, (t).b, (t).c, (t).d) hB (rcons (r0_1) (rnil (K := K))) trivial (fun v35 H35 r35 s35 hB35 => ?_)
      replace r35 : Rep K G.M H35 (.tup [(fr ((t).a)), (fr ((t).b)), (fr ((t).c)), (fr ((t).d))]) v35 := r35
      have z35_0 : SzR n ((t).a) := (ht).1
      have z35_1 : SzR n ((t).b) := (ht).2.1
      have z35_2 : SzR n ((t).c) := (ht).2.2.1
      have z35_3 : SzR n ((t).d) := (ht).2.2.2
      with_reducible refine k_seq ?_
      with_reducible refine k_set ?_
      with_reducible refine k_lct ?_
      with_reducible refine k_opX ?_
      refine k_val val_c ?_
      refine k_val (val_var rfl) ?_
      obtain ⟨v_PL49, d_PL49, r_PL49⟩ := h_PL Kd.mirrored
      refine f_ixK d_PL49 ?_
      refine k_lcTP (K := K) (i := 3) (j := 7) (vs := [3, 7]) (ps := entsK Kd.mirrored) (by decide) hB35 (r_PL49 G.M H35) (fun i x => ([.int (0 : Int), .int (1 : Int), .int (1 : Int), .int (0 : Int)] : List D)[i]? = some x) (by intro _ _; rfl) (fun dc50 ic50 pp50 pq50 Hc50 hic50 nc50 hBc50 ec50 Qc50 kc50 => ?_) (fun ds50 vd50 He50 l50 p50 r50 e50 be50 => ?_)
      · have hB36 := Bg.enterB hB35 nc50
        have nd36 := nc50
        have hB37 := hBc50
        have e37 := ec50
        rcases ic50 with _ | _ | _ | _ | ic50
        · obtain ⟨rfl, rfl⟩ := pair_of (show some ((0 : Int), (1 : Int)) = some (pp50, pq50) from hic50)
          refine k_val (val_var rfl) ?_
          exact kc50 _ _ _ rfl (rint _) (Ex.of (Same.refl _)) hB37
        · obtain ⟨rfl, rfl⟩ := pair_of (show some ((1 : Int), (1 : Int)) = some (pp50, pq50) from hic50)
          refine k_val (val_var rfl) ?_
          exact kc50 _ _ _ rfl (rint _) (Ex.of (Same.refl _)) hB37
        · obtain ⟨rfl, rfl⟩ := pair_of (show some ((1 : Int), (1 : Int)) = some (pp50, pq50) from hic50)
          refine k_val (val_var rfl) ?_
          exact kc50 _ _ _ rfl (rint _) (Ex.of (Same.refl _)) hB37
        · obtain ⟨rfl, rfl⟩ := pair_of (show some ((0 : Int), (-1 : Int)) = some (pp50, pq50) from hic50)
          refine k_val (val_var rfl) ?_
          exact kc50 _ _ _ rfl (rint _) (Ex.of (Same.refl _)) hB37
        · simp [entsK] at hic50
      · have s38 := same_of e50
        have hB38 := be50
        have q50 : ds50 = [.int (0 : Int), .int (1 : Int), .int (1 : Int), .int (0 : Int)] := eq_list l50 p50
        have r38 : Rep K G.M He50 (.lst [.int (0 : Int), .int (1 : Int), .int (1 : Int), .int (0 : Int)]) vd50 := by rw [q50] at r50; exact r50
        with_reducible refine k_seq ?_
        with_reducible refine k_set ?_
        with_reducible refine k_lst ?_
        with_reducible refine k_nil ?_
        refine ⟨by decide, fun pm51 nm51 => ?_⟩
        have s39 := same_upd (o := .lst []) nm51
        have hB39 := Bg.st G _ _ hB38 s39
        with_reducible refine k_seq ?_
        refine k_for_r ?_
        with_reducible refine k_argX ?_
        with_reducible refine k_call ?_
        refine k_arg (val_var rfl) ?_
        with_reducible refine k_nil ?_
        refine k_spF Kd.mirrored hB39 (rcons (rstr _) (rnil (K := K))) trivial (fun v40 H40 r40 s40 hB40 => ?_)
        obtain rfl := int_of (i := (2 : Int)) r40
        with_reducible refine k_nil ?_
        refine k_forMk (K := K) (n := 2) (j := 3) (d := pm51) hB38 nm51 (fun i x => ([fr ((t).a), fr ((t).b)] : List D)[i]? = some x) (Mk1.still hB38 nm51 s40 hB40) (fun _ σ2 => ∃ (o3_51 : Option V) (o6_51 : Option V), σ2 = [some (V.str (("mirrored" : Str))), some v0_1, some v35, o3_51, some vd50, some (.ref pm51), o6_51, none]) ⟨_, _, rfl⟩ (by decide) (fun im51 zm51 σm51 Hm51 him51 hzm51 Im51 bm51 em51 Dm51 km51 => ?_) (fun σm51 ds51 He51 Im51 l51 p51 r51 e51 be51 ow51 => ?_) rfl
        · obtain ⟨o3_51, o6_51, rfl⟩ := Im51
          have hB41 := Bg.enterB hB38 nm51
          have nd41 := nm51
          have hB42 := bm51
          have e42 := em51
          rcases im51 with _ | _ | im51
          · obtain rfl : zm51 = (0 : Int) := hzm51
            with_reducible refine k_seq ?_
            with_reducible refine k_set ?_
            have q52 := ((r38.enter hB38 nd41).up hB41 e42)
            refine k_bm (k_val (val_var rfl) ⟨ty_list (q52), ?_⟩)
            refine k_arg (val_var rfl) ?_
            with_reducible refine k_nil ?_
            refine f_index (ns := [0, 1, 1, 0]) 0 (q52) (by rfl) (by decide) ?_
            obtain ⟨ym51_, hy51_⟩ := hB42.2
            refine k_drop (k_bm (k_val (val_var rfl) ⟨ty_at hy51_, ?_⟩))
            with_reducible refine k_argX ?_
            with_reducible refine k_call ?_
            with_reducible refine k_argX ?_
            with_reducible refine k_opX ?_
            refine k_val (val_var rfl) ?_
            refine k_val (val_var rfl) ?_
            have q54 := (((r35.up hB35 (Ex.of s38)).enter hB38 nd41).up hB41 e42)
            refine f_ixT (k := 0) (q54) rfl (fun w53 rw53 => ?_)
            with_reducible refine k_argX ?_
            with_reducible refine k_tup ?_
            with_reducible refine k_argX ?_
            with_reducible refine k_opX ?_
            with_reducible refine k_opX ?_
            with_reducible refine k_opX ?_
            refine k_val val_c ?_
            refine k_val (val_var rfl) ?_
            obtain ⟨v_PL55, d_PL55, r_PL55⟩ := h_PL Kd.mirrored
            refine f_ixK d_PL55 ?_
            refine k_val (val_var rfl) ?_
            refine f_ixT (k := 0) (r_PL55 (G.plus pm51).M Hm51) rfl (fun w56 rw56 => ?_)
            refine k_val val_c ?_
            refine f_ixT (k := 1) (rw56) rfl (fun w57 rw57 => ?_)
            obtain rfl := int_of rw57
            refine k_arg val_c ?_
            with_reducible refine k_nil ?_
            refine k_tup_end hB42 (rcons (rint _) (rcons (rint _) (rnil (K := K)))) (fun v43 H43 r43 s43 hB43 => ?_)
            replace r43 : Rep K (G.plus pm51).M H43 (fr (1 : Rat)) v43 := r43
            with_reducible refine k_nil ?_
            refine k_spF ((t).a, (1 : Rat), n, 1) hB43 (rcons ((rw53.up hB42 (Ex.of s43))) (rcons (r43) (rnil (K := K)))) ⟨z35_0, (szr_lit 1 (1 : Rat)), (by first | omega | (dsimp only; omega))⟩ (fun v44 H44 r44 s44 hB44 => ?_)
            replace r44 : Rep K (G.plus pm51).M H44 ((fr (((t).a * (1 : Rat))))) v44 := r44
            have z44 : SzR ((n + 1) + 0) (((t).a * (1 : Rat))) := (szr_mul z35_0 (szr_lit 1 (1 : Rat)) (by omega))
            with_reducible refine k_nil ?_
            exact app_at (km51 _ _ _ _ ⟨_, _, rfl⟩ (congrArg (fun z => some (fr z)) (mul_1 _).symm) (r44) (Ex.of (s43.trans s44)) hB44)
          · obtain rfl : zm51 = (1 : Int) := hzm51
            with_reducible refine k_seq ?_
            with_reducible refine k_set ?_
            have q58 := ((r38.enter hB38 nd41).up hB41 e42)
            refine k_bm (k_val (val_var rfl) ⟨ty_list (q58), ?_⟩)
            refine k_arg (val_var rfl) ?_
            with_reducible refine k_nil ?_
            refine f_index (ns := [0, 1, 1, 0]) 1 (q58) (by rfl) (by decide) ?_
            obtain ⟨ym51_, hy51_⟩ := hB42.2
            refine k_drop (k_bm (k_val (val_var rfl) ⟨ty_at hy51_, ?_⟩))
            with_reducible refine k_argX ?_
            with_reducible refine k_call ?_
            with_reducible refine k_argX ?_
            with_reducible refine k_opX ?_
            refine k_val (val_var rfl) ?_
            refine k_val (val_var rfl) ?_
            have q60 := (((r35.up hB35 (Ex.of s38)).enter hB38 nd41).up hB41 e42)
            refine f_ixT (k := 1) (q60) rfl (fun w59 rw59 => ?_)
            with_reducible refine k_argX ?_
            with_reducible refine k_tup ?_
            with_reducible refine k_argX ?_
            with_reducible refine k_opX ?_
            with_reducible refine k_opX ?_
            with_reducible refine k_opX ?_
            refine k_val val_c ?_
            refine k_val (val_var rfl) ?_
            obtain ⟨v_PL61, d_PL61, r_PL61⟩ := h_PL Kd.mirrored
            refine f_ixK d_PL61 ?_
            refine k_val (val_var rfl) ?_
            refine f_ixT (k := 1) (r_PL61 (G.plus pm51).M Hm51) rfl (fun w62 rw62 => ?_)
            refine k_val val_c ?_
            refine f_ixT (k := 1) (rw62) rfl (fun w63 rw63 => ?_)
            obtain rfl := int_of rw63
            refine k_arg val_c ?_
            with_reducible refine k_nil ?_
            refine k_tup_end hB42 (rcons (rint _) (rcons (rint _) (rnil (K := K)))) (fun v45 H45 r45 s45 hB45 => ?_)
            replace r45 : Rep K (G.plus pm51).M H45 (fr (1 : Rat)) v45 := r45
            with_reducible refine k_nil ?_
            refine k_spF ((t).b, (1 : Rat), n, 1) hB45 (rcons ((rw59.up hB42 (Ex.of s45))) (rcons (r45) (rnil (K := K)))) ⟨z35_1, (szr_lit 1 (1 : Rat)), (by first | omega | (dsimp only; omega))⟩ (fun v46 H46 r46 s46 hB46 => ?_)
            replace r46 : Rep K (G.plus pm51).M H46 ((fr (((t).b * (1 : Rat))))) v46 := r46
            have z46 : SzR ((n + 1) + 0) (((t).b * (1 : Rat))) := (szr_mul z35_1 (szr_lit 1 (1 : Rat)) (by omega))
            with_reducible refine k_nil ?_
            exact app_at (km51 _ _ _ _ ⟨_, _, rfl⟩ (congrArg (fun z => some (fr z)) (mul_1 _).symm) (r46) (Ex.of (s45.trans s46)) hB46)
          · omega
        · obtain ⟨o3_51, o6_51, rfl⟩ := Im51
          have s47 := same_of e51
          have hB47 := be51
          have q51 : ds51 = [fr ((t).a), fr ((t).b)] := eq_list l51 p51
          have r47 : Rep K G.M He51 (.lst [fr ((t).a), fr ((t).b)]) (.ref pm51) := by rw [q51] at r51; exact r51
          with_reducible refine k_ret ?_
          with_reducible refine k_ifE ?_
          with_reducible refine k_T ?_
          with_reducible refine k_opX ?_
          with_reducible refine k_call ?_
          refine k_arg (val_var rfl) ?_
          refine k_arg (val_var rfl) ?_
          with_reducible refine k_nil ?_
          refine k_spF (Kd.mirrored, (t).a, (t).b, (0 : Rat), (0 : Rat), (max n 1)) hB47 (rcons (rstr _) (rcons (r47) (rnil (K := K)))) ⟨((ht).1).mono (by first | omega | (dsimp only; omega)), ((ht).2.1).mono (by first | omega | (dsimp only; omega)), ((szr_lit 1 (0 : Rat))).mono (by first | omega | (dsimp only; omega)), ((szr_lit 1 (0 : Rat))).mono (by first | omega | (dsimp only; omega)), (by first | omega | (dsimp only; omega))⟩ (fun v48 H48 r48 s48 hB48 => ?_)
          replace r48 : Rep K G.M H48 (tbI C (filled (Kd.mirrored) ((t).a) ((t).b) ((0 : Rat)) ((0 : Rat)))) v48 := r48
          refine k_val (val_var rfl) ?_
          have q64 := ((((r0_1.up hB (Ex.of s35)).up hB35 (Ex.of s38)).up hB38 (Ex.of s47)).up hB47 (Ex.of s48))
          refine f_own (r48) (q64) ?_
          refine k_spF (filled (Kd.mirrored) ((t).a) ((t).b) ((0 : Rat)) ((0 : Rat)), t) hB48 (rcons (r48) (rcons (q64) (rnil (K := K)))) trivial (fun v49 H49 r49 s49 hB49 => ?_)
          obtain rfl := bl_of (b := (decide (filled (Kd.mirrored) ((t).a) ((t).b) ((0 : Rat)) ((0 : Rat)) = t))) r49
          refine ⟨_, rfl, ?_⟩
          refine k_ite (fun c65 => ?_) (fun c65 => ?_)
          · refine k_val (val_var rfl) ?_
            have q66 := ((r47.up hB47 (Ex.of s48)).up hB48 (Ex.of s49))
            exact k _ _ _ (own_yes c65) (q66) ((((s35.trans s38).trans s47).trans s48).trans s49) hB49
          · refine k_val val_c ?_
            exact k _ _ _ (own_no back_mirrored c65) (rnon) ((((s35.trans s38).trans s47).trans s48).trans s49) hB49
    · replace ht : SzT n t := ht
      replace hn1 : 1 ≤ n := hn1
      replace hn : n + 1 ≤ 8000 := hn
      replace k : ∀ d v H', d = (ownD Kd.stretched t : D) → Rep K G.M H' d v → Same H H' → G.B H' → Q v H' := k
      obtain ⟨v0_0, _, rfl, r0_0, rt0⟩ := cons_of r
      replace r0_0 : Rep K G.M H (.str (("stretched" : Str))) v0_0 := r0_0
      obtain rfl := str_of r0_0
      obtain ⟨v0_1, _, rfl, r0_1, rt1⟩ := cons_of rt0
      replace r0_1 : Rep K G.M H (tbI C (t)) v0_1 := r0_1
      obtain rfl := nil_of rt1
      with_reducible refine k_seq ?_
      with_reducible refine k_set ?_
      with_reducible refine k_meth ?_
      refine k_val (val_var rfl) ?_
      refine f_meth (r0_1) (by decide +kernel) ?_
      with_reducible refine k_nil ?_
      refine k_spF ((t).a, (t).b, (t).c, (t).d) hB (rcons (r0_1) (rnil (K := K))) trivial (fun v50 H50 r50 s50 hB50 => ?_)
      replace r50 : Rep K G.M H50 (.tup [(fr ((t).a)), (fr ((t).b)), (fr ((t).c)), (fr ((t).d))]) v50 := r50
      have z50_0 : SzR n ((t).a) := (ht).1
      have z50_1 : SzR n ((t).b) := (ht).2.1
      have z50_2 : SzR n ((t).c) := (ht).2.2.1
      have z50_3 : SzR n ((t).d) := (ht).2.2.2
      with_reducible refine k_seq ?_
      with_reducible refine k_set ?_
      with_reducible refine k_lct ?_
      with_reducible refine k_opX ?_
      refine k_val val_c ?_
      refine k_val (val_var rfl) ?_
      obtain ⟨v_PL67, d_PL67, r_PL67⟩ := h_PL Kd.stretched
      refine f_ixK d_PL67 ?_
      refine k_lcTP (K := K) (i := 3) (j := 7) (vs := [3, 7]) (ps := entsK Kd.stretched) (by decide) hB50 (r_PL67 G.M H50) (fun i x => ([.int (0 : Int), .int (0 : Int), .int (0 : Int), .int (1 : Int)] : List D)[i]? = some x) (by intro _ _; rfl) (fun dc68 ic68 pp68 pq68 Hc68 hic68 nc68 hBc68 ec68 Qc68 kc68 => ?_) (fun ds68 vd68 He68 l68 p68 r68 e68 be68 => ?_)
      · have hB51 := Bg.enterB hB50 nc68
        have nd51 := nc68
        have hB52 := hBc68
        have e52 := ec68
        rcases ic68 with _ | _ | _ | _ | ic68
        · obtain ⟨rfl, rfl⟩ := pair_of (show some ((0 : Int), (1 : Int)) = some (pp68, pq68) from hic68)
          refine k_val (val_var rfl) ?_
          exact kc68 _ _ _ rfl (rint _) (Ex.of (Same.refl _)) hB52
        · obtain ⟨rfl, rfl⟩ := pair_of (show some ((0 : Int), (0 : Int)) = some (pp68, pq68) from hic68)
          refine k_val (val_var rfl) ?_
          exact kc68 _ _ _ rfl (rint _) (Ex.of (Same.refl _)) hB52
        · obtain ⟨rfl, rfl⟩ := pair_of (show some ((0 : Int), (0 : Int)) = some (pp68, pq68) from hic68)
          refine k_val (val_var rfl) ?_
          exact kc68 _ _ _ rfl (rint _) (Ex.of (Same.refl _)) hB52
        · obtain ⟨rfl, rfl⟩ := pair_of (show some ((1 : Int), (1 : Int)) = some (pp68, pq68) from hic68)
          refine k_val (val_var rfl) ?_
          exact kc68 _ _ _ rfl (rint _) (Ex.of (Same.refl _)) hB52
        · simp [entsK] at hic68
      · have s53 := same_of e68
        have hB53 := be68
        have q68 : ds68 = [.int (0 : Int), .int (0 : Int), .int (0 : Int), .int (1 : Int)] := eq_list l68 p68
        have r53 : Rep K G.M He68 (.lst [.int (0 : Int), .int (0 : Int), .int (0 : Int), .int (1 : Int)]) vd68 := by rw [q68] at r68; exact r68
        with_reducible refine k_seq ?_
        with_reducible refine k_set ?_
        with_reducible refine k_lst ?_
        with_reducible refine k_nil ?_
        refine ⟨by decide, fun pm69 nm69 => ?_⟩
        have s54 := same_upd (o := .lst []) nm69
        have hB54 := Bg.st G _ _ hB53 s54
        with_reducible refine k_seq ?_
        refine k_for_r ?_
        with_reducible refine k_argX ?_
        with_reducible refine k_call ?_
        refine k_arg (val_var rfl) ?_
        with_reducible refine k_nil ?_
        refine k_spF Kd.stretched hB54 (rcons (rstr _) (rnil (K := K))) trivial (fun v55 H55 r55 s55 hB55 => ?_)
        obtain rfl := int_of (i := (2 : Int)) r55
        with_reducible refine k_nil ?_
        refine k_forMk (K := K) (n := 2) (j := 3) (d := pm69) hB53 nm69 (fun i x => ([fr ((t).a), fr ((t).d)] : List D)[i]? = some x) (Mk1.still hB53 nm69 s55 hB55) (fun _ σ2 => ∃ (o3_69 : Option V) (o6_69 : Option V), σ2 = [some (V.str (("stretched" : Str))), some v0_1, some v50, o3_69, some vd68, some (.ref pm69), o6_69, none]) ⟨_, _, rfl⟩ (by decide) (fun im69 zm69 σm69 Hm69 him69 hzm69 Im69 bm69 em69 Dm69 km69 => ?_) (fun σm69 ds69 He69 Im69 l69 p69 r69 e69 be69 ow69 => ?_) rfl
        · obtain ⟨o3_69, o6_69, rfl⟩ := Im69
          have hB56 := Bg.enterB hB53 nm69
          have nd56 := nm69
          have hB57 := bm69
          have e57 := em69
          rcases im69 with _ | _ | im69
          · obtain rfl : zm69 = (0 : Int) := hzm69
            with_reducible refine k_seq ?_
            with_reducible refine k_set ?_
            have q70 := ((r53.enter hB53 nd56).up hB56 e57)
            refine k_bm (k_val (val_var rfl) ⟨ty_list (q70), ?_⟩)
            refine k_arg (val_var rfl) ?_
            with_reducible refine k_nil ?_
            refine f_index (ns := [0, 0, 0, 1]) 0 (q70) (by rfl) (by decide) ?_
            obtain ⟨ym69_, hy69_⟩ := hB57.2
            refine k_drop (k_bm (k_val (val_var rfl) ⟨ty_at hy69_, ?_⟩))
            with_reducible refine k_argX ?_
            with_reducible refine k_call ?_
            with_reducible refine k_argX ?_
            with_reducible refine k_opX ?_
            refine k_val (val_var rfl) ?_
            refine k_val (val_var rfl) ?_
            have q72 := (((r50.up hB50 (Ex.of s53)).enter hB53 nd56).up hB56 e57)
            refine f_ixT (k := 0) (q72) rfl (fun w71 rw71 => ?_)
            with_reducible refine k_argX ?_
            with_reducible refine k_tup ?_
            with_reducible refine k_argX ?_
            with_reducible refine k_opX ?_
            with_reducible refine k_opX ?_
            with_reducible refine k_opX ?_
            refine k_val val_c ?_
            refine k_val (val_var rfl) ?_
            obtain ⟨v_PL73, d_PL73, r_PL73⟩ := h_PL Kd.stretched
            refine f_ixK d_PL73 ?_
            refine k_val (val_var rfl) ?_
            refine f_ixT (k := 0) (r_PL73 (G.plus pm69).M Hm69) rfl (fun w74 rw74 => ?_)
            refine k_val val_c ?_
            refine f_ixT (k := 1) (rw74) rfl (fun w75 rw75 => ?_)
            obtain rfl := int_of rw75
            refine k_arg val_c ?_
            with_reducible refine k_nil ?_
            refine k_tup_end hB57 (rcons (rint _) (rcons (rint _) (rnil (K := K)))) (fun v58 H58 r58 s58 hB58 => ?_)
            replace r58 : Rep K (G.plus pm69).M H58 (fr (1 : Rat)) v58 := r58
            with_reducible refine k_nil ?_
            refine k_spF ((t).a, (1 : Rat), n, 1) hB58 (rcons ((rw71.up hB57 (Ex.of s58))) (rcons (r58) (rnil (K := K)))) ⟨z50_0, (szr_lit 1 (1 : Rat)), (by first | omega | (dsimp only; omega))⟩ (fun v59 H59 r59 s59 hB59 => ?_)
            replace r59 : Rep K (G.plus pm69).M H59 ((fr (((t).a * (1 : Rat))))) v59 := r59
            have z59 : SzR ((n + 1) + 0) (((t).a * (1 : Rat))) := (szr_mul z50_0 (szr_lit 1 (1 : Rat)) (by omega))
            with_reducible refine k_nil ?_
            exact app_at (km69 _ _ _ _ ⟨_, _, rfl⟩ (congrArg (fun z => some (fr z)) (mul_1 _).symm) (r59) (Ex.of (s58.trans s59)) hB59)
          · obtain rfl : zm69 = (1 : Int) := hzm69
            with_reducible refine k_seq ?_
            with_reducible refine k_set ?_
            have q76 := ((r53.enter hB53 nd56).up hB56 e57)
            refine k_bm (k_val (val_var rfl) ⟨ty_list (q76), ?_⟩)
            refine k_arg (val_var rfl) ?_
            with_reducible refine k_nil ?_
            refine f_index (ns := [0, 0, 0, 1]) 3 (q76) (by rfl) (by decide) ?_
            obtain ⟨ym69_, hy69_⟩ := hB57.2
            refine k_drop (k_bm (k_val (val_var rfl) ⟨ty_at hy69_, ?_⟩))
            with_reducible refine k_argX ?_
            with_reducible refine k_call ?_
            with_reducible refine k_argX ?_
            with_reducible refine k_opX ?_
            refine k_val (val_var rfl) ?_
            refine k_val (val_var rfl) ?_
            have q78 := (((r50.up hB50 (Ex.of s53)).enter hB53 nd56).up hB56 e57)
            refine f_ixT (k := 3) (q78) rfl (fun w77 rw77 => ?_)
            with_reducible refine k_argX ?_
            with_reducible refine k_tup ?_
            with_reducible refine k_argX ?_
            with_reducible refine k_opX ?_
            with_reducible refine k_opX ?_
            with_reducible refine k_opX ?_
            refine k_val val_c ?_
            refine k_val (val_var rfl) ?_
            obtain ⟨v_PL79, d_PL79, r_PL79⟩ := h_PL Kd.stretched
            refine f_ixK d_PL79 ?_
            refine k_val (val_var rfl) ?_
            refine f_ixT (k := 3) (r_PL79 (G.plus pm69).M Hm69) rfl (fun w80 rw80 => ?_)
            refine k_val val_c ?_
            refine f_ixT (k := 1) (rw80) rfl (fun w81 rw81 => ?_)
            obtain rfl := int_of rw81
            refine k_arg val_c ?_
            with_reducible refine k_nil ?_
            refine k_tup_end hB57 (rcons (rint _) (rcons (rint _) (rnil (K := K)))) (fun v60 H60 r60 s60 hB60 => ?_)
            replace r60 : Rep K (G.plus pm69).M H60 (fr (1 : Rat)) v60 := r60
            with_reducible refine k_nil ?_
            refine k_spF ((t).d, (1 : Rat), n, 1) hB60 (rcons ((rw77.up hB57 (Ex.of s60))) (rcons (r60) (rnil (K := K)))) ⟨z50_3, (szr_lit 1 (1 : Rat)), (by first | omega | (dsimp only; omega))⟩ (fun v61 H61 r61 s61 hB61 => ?_)
            replace r61 : Rep K (G.plus pm69).M H61 ((fr (((t).d * (1 : Rat))))) v61 := r61
            have z61 : SzR ((n + 1) + 0) (((t).d * (1 : Rat))) := (szr_mul z50_3 (szr_lit 1 (1 : Rat)) (by omega))
            with_reducible refine k_nil ?_
            exact app_at (km69 _ _ _ _ ⟨_, _, rfl⟩ (congrArg (fun z => some (fr z)) (mul_1 _).symm) (r61) (Ex.of (s60.trans s61)) hB61)
          · omega
        · obtain ⟨o3_69, o6_69, rfl⟩ := Im69
          have s62 := same_of e69
          have hB62 := be69
          have q69 : ds69 = [fr ((t).a), fr ((t).d)] := eq_list l69 p69
          have r62 : Rep K G.M He69 (.lst [fr ((t).a), fr ((t).d)]) (.ref pm69) := by rw [q69] at r69; exact r69
          with_reducible refine k_ret ?_
          with_reducible refine k_ifE ?_
          with_reducible refine k_T ?_
          with_reducible refine k_opX ?_
          with_reducible refine k_call ?_
          refine k_arg (val_var rfl) ?_
          refine k_arg (val_var rfl) ?_
          with_reducible refine k_nil ?_
          refine k_spF (Kd.stretched, (t).a, (t).d, (0 : Rat), (0 : Rat), (max n 1)) hB62 (rcons (rstr _) (rcons (r62) (rnil (K := K)))) ⟨((ht).1).mono (by first | omega | (dsimp only; omega)), ((ht).2.2.2).mono (by first | omega | (dsimp only; omega)), ((szr_lit 1 (0 : Rat))).mono (by first | omega | (dsimp only; omega)), ((szr_lit 1 (0 : Rat))).mono (by first | omega | (dsimp only; omega)), (by first | omega | (dsimp only; omega))⟩ (fun v63 H63 r63 s63 hB63 => ?_)
          replace r63 : Rep K G.M H63 (tbI C (filled (Kd.stretched) ((t).a) ((t).d) ((0 : Rat)) ((0 : Rat)))) v63 := r63
          refine k_val (val_var rfl) ?_
          have q82 := ((((r0_1.up hB (Ex.of s50)).up hB50 (Ex.of s53)).up hB53 (Ex.of s62)).up hB62 (Ex.of s63))
          refine f_own (r63) (q82) ?_
          refine k_spF (filled (Kd.stretched) ((t).a) ((t).d) ((0 : Rat)) ((0 : Rat)), t) hB63 (rcons (r63) (rcons (q82) (rnil (K := K)))) trivial (fun v64 H64 r64 s64 hB64 => ?_)
          obtain rfl := bl_of (b := (decide (filled (Kd.stretched) ((t).a) ((t).d) ((0 : Rat)) ((0 : Rat)) = t))) r64
          refine ⟨_, rfl, ?_⟩
          refine k_ite (fun c83 => ?_) (fun c83 => ?_)
          · refine k_val (val_var rfl) ?_
            have q84 := ((r62.up hB62 (Ex.of s63)).up hB63 (Ex.of s64))
            exact k _ _ _ (own_yes c83) (q84) ((((s50.trans s53).trans s62).trans s63).trans s64) hB64
          · refine k_val val_c ?_
            exact k _ _ _ (own_no back_stretched c83) (rnon) ((((s50.trans s53).trans s62).trans s63).trans s64) hB64
    · replace ht : SzT n t := ht
      replace hn1 : 1 ≤ n := hn1
      replace hn : n + 1 ≤ 8000 := hn
      replace k : ∀ d v H', d = (ownD Kd.sized t : D) → Rep K G.M H' d v → Same H H' → G.B H' → Q v H' := k
      obtain ⟨v0_0, _, rfl, r0_0, rt0⟩ := cons_of r
      replace r0_0 : Rep K G.M H (.str (("sized" : Str))) v0_0 := r0_0
      obtain rfl := str_of r0_0
      obtain ⟨v0_1, _, rfl, r0_1, rt1⟩ := cons_of rt0
      replace r0_1 : Rep K G.M H (tbI C (t)) v0_1 := r0_1
      obtain rfl := nil_of rt1
      with_reducible refine k_seq ?_
      with_reducible refine k_set ?_
      with_reducible refine k_meth ?_
      refine k_val (val_var rfl) ?_
      refine f_meth (r0_1) (by decide +kernel) ?_
      with_reducible refine k_nil ?_
      refine k_spF ((t).a, (t).b, (t).c, (t).d) hB (rcons (r0_1) (rnil (K := K))) trivial (fun v65 H65 r65 s65 hB65 => ?_)
      replace r65 : Rep K G.M H65 (.tup [(fr ((t).a)), (fr ((t).b)), (fr ((t).c)), (fr ((t).d))]) v65 := r65
      have z65_0 : SzR n ((t).a) := (ht).1
      have z65_1 : SzR n ((t).b) := (ht).2.1
      have z65_2 : SzR n ((t).c) := (ht).2.2.1
      have z65_3 : SzR n ((t).d) := (ht).2.2.2
      with_reducible refine k_seq ?_
      with_reducible refine k_set ?_
      with_reducible refine k_lct ?_
      with_reducible refine k_opX ?_
      refine k_val val_c ?_
      refine k_val (val_var rfl) ?_
      obtain ⟨v_PL85, d_PL85, r_PL85⟩ := h_PL Kd.sized
      refine f_ixK d_PL85 ?_
      refine k_lcTP (K := K) (i := 3) (j := 7) (vs := [3, 7]) (ps := entsK Kd.sized) (by decide) hB65 (r_PL85 G.M H65) (fun i x => ([.int (0 : Int), .int (0 : Int), .int (0 : Int), .int (0 : Int)] : List D)[i]? = some x) (by intro _ _; rfl) (fun dc86 ic86 pp86 pq86 Hc86 hic86 nc86 hBc86 ec86 Qc86 kc86 => ?_) (fun ds86 vd86 He86 l86 p86 r86 e86 be86 => ?_)
      · have hB66 := Bg.enterB hB65 nc86
        have nd66 := nc86
        have hB67 := hBc86
        have e67 := ec86
        rcases ic86 with _ | _ | _ | _ | ic86
        · obtain ⟨rfl, rfl⟩ := pair_of (show some ((0 : Int), (1 : Int)) = some (pp86, pq86) from hic86)
          refine k_val (val_var rfl) ?_
          exact kc86 _ _ _ rfl (rint _) (Ex.of (Same.refl _)) hB67
        · obtain ⟨rfl, rfl⟩ := pair_of (show some ((0 : Int), (0 : Int)) = some (pp86, pq86) from hic86)
          refine k_val (val_var rfl) ?_
          exact kc86 _ _ _ rfl (rint _) (Ex.of (Same.refl _)) hB67
        · obtain ⟨rfl, rfl⟩ := pair_of (show some ((0 : Int), (0 : Int)) = some (pp86, pq86) from hic86)
          refine k_val (val_var rfl) ?_
          exact kc86 _ _ _ rfl (rint _) (Ex.of (Same.refl _)) hB67
        · obtain ⟨rfl, rfl⟩ := pair_of (show some ((0 : Int), (1 : Int)) = some (pp86, pq86) from hic86)
          refine k_val (val_var rfl) ?_
          exact kc86 _ _ _ rfl (rint _) (Ex.of (Same.refl _)) hB67
        · simp [entsK] at hic86
      · have s68 := same_of e86
        have hB68 := be86
        have q86 : ds86 = [.int (0 : Int), .int (0 : Int), .int (0 : Int), .int (0 : Int)] := eq_list l86 p86
        have r68 : Rep K G.M He86 (.lst [.int (0 : Int), .int (0 : Int), .int (0 : Int), .int (0 : Int)]) vd86 := by rw [q86] at r86; exact r86
        with_reducible refine k_seq ?_
        with_reducible refine k_set ?_
        with_reducible refine k_lst ?_
        with_reducible refine k_nil ?_
        refine ⟨by decide, fun pm87 nm87 => ?_⟩
        have s69 := same_upd (o := .lst []) nm87
        have hB69 := Bg.st G _ _ hB68 s69
        with_reducible refine k_seq ?_
        refine k_for_r ?_
        with_reducible refine k_argX ?_
        with_reducible refine k_call ?_
        refine k_arg (val_var rfl) ?_
        with_reducible refine k_nil ?_
        refine k_spF Kd.sized hB69 (rcons (rstr _) (rnil (K := K))) trivial (fun v70 H70 r70 s70 hB70 => ?_)
        obtain rfl := int_of (i := (1 : Int)) r70
        with_reducible refine k_nil ?_
        refine k_forMk (K := K) (n := 1) (j := 3) (d := pm87) hB68 nm87 (fun i x => ([fr ((t).a)] : List D)[i]? = some x) (Mk1.still hB68 nm87 s70 hB70) (fun _ σ2 => ∃ (o3_87 : Option V) (o6_87 : Option V), σ2 = [some (V.str (("sized" : Str))), some v0_1, some v65, o3_87, some vd86, some (.ref pm87), o6_87, none]) ⟨_, _, rfl⟩ (by decide) (fun im87 zm87 σm87 Hm87 him87 hzm87 Im87 bm87 em87 Dm87 km87 => ?_) (fun σm87 ds87 He87 Im87 l87 p87 r87 e87 be87 ow87 => ?_) rfl
        · obtain ⟨o3_87, o6_87, rfl⟩ := Im87
          have hB71 := Bg.enterB hB68 nm87
          have nd71 := nm87
          have hB72 := bm87
          have e72 := em87
          rcases im87 with _ | im87
          · obtain rfl : zm87 = (0 : Int) := hzm87
            with_reducible refine k_seq ?_
            with_reducible refine k_set ?_
            have q88 := ((r68.enter hB68 nd71).up hB71 e72)
            refine k_bm (k_val (val_var rfl) ⟨ty_list (q88), ?_⟩)
            refine k_arg (val_var rfl) ?_
            with_reducible refine k_nil ?_
            refine f_index (ns := [0, 0, 0, 0]) 0 (q88) (by rfl) (by decide) ?_
            obtain ⟨ym87_, hy87_⟩ := hB72.2
            refine k_drop (k_bm (k_val (val_var rfl) ⟨ty_at hy87_, ?_⟩))
            with_reducible refine k_argX ?_
            with_reducible refine k_call ?_
            with_reducible refine k_argX ?_
            with_reducible refine k_opX ?_
            refine k_val (val_var rfl) ?_
            refine k_val (val_var rfl) ?_
            have q90 := (((r65.up hB65 (Ex.of s68)).enter hB68 nd71).up hB71 e72)
            refine f_ixT (k := 0) (q90) rfl (fun w89 rw89 => ?_)
            with_reducible refine k_argX ?_
            with_reducible refine k_tup ?_
            with_reducible refine k_argX ?_
            with_reducible refine k_opX ?_
            with_reducible refine k_opX ?_
            with_reducible refine k_opX ?_
            refine k_val val_c ?_
            refine k_val (val_var rfl) ?_
            obtain ⟨v_PL91, d_PL91, r_PL91⟩ := h_PL Kd.sized
            refine f_ixK d_PL91 ?_
            refine k_val (val_var rfl) ?_
            refine f_ixT (k := 0) (r_PL91 (G.plus pm87).M Hm87) rfl (fun w92 rw92 => ?_)
            refine k_val val_c ?_
            refine f_ixT (k := 1) (rw92) rfl (fun w93 rw93 => ?_)
            obtain rfl := int_of rw93
            refine k_arg val_c ?_
            with_reducible refine k_nil ?_
            refine k_tup_end hB72 (rcons (rint _) (rcons (rint _) (rnil (K := K)))) (fun v73 H73 r73 s73 hB73 => ?_)
            replace r73 : Rep K (G.plus pm87).M H73 (fr (1 : Rat)) v73 := r73
            with_reducible refine k_nil ?_
            refine k_spF ((t).a, (1 : Rat), n, 1) hB73 (rcons ((rw89.up hB72 (Ex.of s73))) (rcons (r73) (rnil (K := K)))) ⟨z65_0, (szr_lit 1 (1 : Rat)), (by first | omega | (dsimp only; omega))⟩ (fun v74 H74 r74 s74 hB74 => ?_)
            replace r74 : Rep K (G.plus pm87).M H74 ((fr (((t).a * (1 : Rat))))) v74 := r74
            have z74 : SzR ((n + 1) + 0) (((t).a * (1 : Rat))) := (szr_mul z65_0 (szr_lit 1 (1 : Rat)) (by omega))
            with_reducible refine k_nil ?_
            exact app_at (km87 _ _ _ _ ⟨_, _, rfl⟩ (congrArg (fun z => some (fr z)) (mul_1 _).symm) (r74) (Ex.of (s73.trans s74)) hB74)
          · omega
        · obtain ⟨o3_87, o6_87, rfl⟩ := Im87
          have s75 := same_of e87
          have hB75 := be87
          have q87 : ds87 = [fr ((t).a)] := eq_list l87 p87
          have r75 : Rep K G.M He87 (.lst [fr ((t).a)]) (.ref pm87) := by rw [q87] at r87; exact r87
          with_reducible refine k_ret ?_
          with_reducible refine k_ifE ?_
          with_reducible refine k_T ?_
          with_reducible refine k_opX ?_
          with_reducible refine k_call ?_
          refine k_arg (val_var rfl) ?_
          refine k_arg (val_var rfl) ?_
          with_reducible refine k_nil ?_
          refine k_spF (Kd.sized, (t).a, (0 : Rat), (0 : Rat), (0 : Rat), (max n 1)) hB75 (rcons (rstr _) (rcons (r75) (rnil (K := K)))) ⟨((ht).1).mono (by first | omega | (dsimp only; omega)), ((szr_lit 1 (0 : Rat))).mono (by first | omega | (dsimp only; omega)), ((szr_lit 1 (0 : Rat))).mono (by first | omega | (dsimp only; omega)), ((szr_lit 1 (0 : Rat))).mono (by first | omega | (dsimp only; omega)), (by first | omega | (dsimp only; omega))⟩ (fun v76 H76 r76 s76 hB76 => ?_)
          replace r76 : Rep K G.M H76 (tbI C (filled (Kd.sized) ((t).a) ((0 : Rat)) ((0 : Rat)) ((0 : Rat)))) v76 := r76
          refine k_val (val_var rfl) ?_
          have q94 := ((((r0_1.up hB (Ex.of s65)).up hB65 (Ex.of s68)).up hB68 (Ex.of s75)).up hB75 (Ex.of s76))
          refine f_own (r76) (q94) ?_
          refine k_spF (filled (Kd.sized) ((t).a) ((0 : Rat)) ((0 : Rat)) ((0 : Rat)), t) hB76 (rcons (r76) (rcons (q94) (rnil (K := K)))) trivial (fun v77 H77 r77 s77 hB77 => ?_)
          obtain rfl := bl_of (b := (decide (filled (Kd.sized) ((t).a) ((0 : Rat)) ((0 : Rat)) ((0 : Rat)) = t))) r77
          refine ⟨_, rfl, ?_⟩
          refine k_ite (fun c95 => ?_) (fun c95 => ?_)
          · refine k_val (val_var rfl) ?_
            have q96 := ((r75.up hB75 (Ex.of s76)).up hB76 (Ex.of s77))
            exact k _ _ _ (own_yes c95) (q96) ((((s65.trans s68).trans s75).trans s76).trans s77) hB77
          · refine k_val val_c ?_
            exact k _ _ _ (own_no back_sized c95) (rnon) ((((s65.trans s68).trans s75).trans s76).trans s77) hB77
    · replace ht : SzT n t := ht
      replace hn1 : 1 ≤ n := hn1
      replace hn : n + 1 ≤ 8000 := hn
      replace k : ∀ d v H', d = (ownD Kd.even t : D) → Rep K G.M H' d v → Same H H' → G.B H' → Q v H' := k
      obtain ⟨v0_0, _, rfl, r0_0, rt0⟩ := cons_of r
      replace r0_0 : Rep K G.M H (.str (("even" : Str))) v0_0 := r0_0
      obtain rfl := str_of r0_0
      obtain ⟨v0_1, _, rfl, r0_1, rt1⟩ := cons_of rt0
      replace r0_1 : Rep K G.M H (tbI C (t)) v0_1 := r0_1
      obtain rfl := nil_of rt1
      with_reducible refine k_seq ?_
      with_reducible refine k_set ?_
      with_reducible refine k_meth ?_
      refine k_val (val_var rfl) ?_
      refine f_meth (r0_1) (by decide +kernel) ?_
      with_reducible refine k_nil ?_
      refine k_spF ((t).a, (t).b, (t).c, (t).d) hB (rcons (r0_1) (rnil (K := K))) trivial (fun v78 H78 r78 s78 hB78 => ?_)
      replace r78 : Rep K G.M H78 (.tup [(fr ((t).a)), (fr ((t).b)), (fr ((t).c)), (fr ((t).d))]) v78 := r78
      have z78_0 : SzR n ((t).a) := (ht).1
      have z78_1 : SzR n ((t).b) := (ht).2.1
      have z78_2 : SzR n ((t).c) := (ht).2.2.1
      have z78_3 : SzR n ((t).d) := (ht).2.2.2
      with_reducible refine k_seq ?_
      with_reducible refine k_set ?_
      with_reducible refine k_lct ?_
      with_reducible refine k_opX ?_
      refine k_val val_c ?_
      refine k_val (val_var rfl) ?_
      obtain ⟨v_PL97, d_PL97, r_PL97⟩ := h_PL Kd.even
      refine f_ixK d_PL97 ?_
      refine k_lcTP (K := K) (i := 3) (j := 7) (vs := [3, 7]) (ps := entsK Kd.even) (by decide) hB78 (r_PL97 G.M H78) (fun i x => ([.int (0 : Int), .int (0 : Int), .int (0 : Int), .int (0 : Int)] : List D)[i]? = some x) (by intro _ _; rfl) (fun dc98 ic98 pp98 pq98 Hc98 hic98 nc98 hBc98 ec98 Qc98 kc98 => ?_) (fun ds98 vd98 He98 l98 p98 r98 e98 be98 => ?_)
      · have hB79 := Bg.enterB hB78 nc98
        have nd79 := nc98
        have hB80 := hBc98
        have e80 := ec98
        rcases ic98 with _ | _ | _ | _ | ic98
        · obtain ⟨rfl, rfl⟩ := pair_of (show some ((0 : Int), (1 : Int)) = some (pp98, pq98) from hic98)
          refine k_val (val_var rfl) ?_
          exact kc98 _ _ _ rfl (rint _) (Ex.of (Same.refl _)) hB80
        · obtain ⟨rfl, rfl⟩ := pair_of (show some ((0 : Int), (0 : Int)) = some (pp98, pq98) from hic98)
          refine k_val (val_var rfl) ?_
          exact kc98 _ _ _ rfl (rint _) (Ex.of (Same.refl _)) hB80
        · obtain ⟨rfl, rfl⟩ := pair_of (show some ((0 : Int), (0 : Int)) = some (pp98, pq98) from hic98)
          refine k_val (val_var rfl) ?_
          exact kc98 _ _ _ rfl (rint _) (Ex.of (Same.refl _)) hB80
        · obtain ⟨rfl, rfl⟩ := pair_of (show some ((0 : Int), (1 : Int)) = some (pp98, pq98) from hic98)
          refine k_val (val_var rfl) ?_
          exact kc98 _ _ _ rfl (rint _) (Ex.of (Same.refl _)) hB80
        · simp [entsK] at hic98
      · have s81 := same_of e98
        have hB81 := be98
        have q98 : ds98 = [.int (0 : Int), .int (0 : Int), .int (0 : Int), .int (0 : Int)] := eq_list l98 p98
        have r81 : Rep K G.M He98 (.lst [.int (0 : Int), .int (0 : Int), .int (0 : Int), .int (0 : Int)]) vd98 := by rw [q98] at r98; exact r98
        with_reducible refine k_seq ?_
        with_reducible refine k_set ?_
        with_reducible refine k_lst ?_
        with_reducible refine k_nil ?_
        refine ⟨by decide, fun pm99 nm99 => ?_⟩
        have s82 := same_upd (o := .lst []) nm99
        have hB82 := Bg.st G _ _ hB81 s82
        with_reducible refine k_seq ?_
        refine k_for_r ?_
        with_reducible refine k_argX ?_
        with_reducible refine k_call ?_
        refine k_arg (val_var rfl) ?_
        with_reducible refine k_nil ?_
        refine k_spF Kd.even hB82 (rcons (rstr _) (rnil (K := K))) trivial (fun v83 H83 r83 s83 hB83 => ?_)
        obtain rfl := int_of (i := (1 : Int)) r83
        with_reducible refine k_nil ?_
        refine k_forMk (K := K) (n := 1) (j := 3) (d := pm99) hB81 nm99 (fun i x => ([fr ((t).a)] : List D)[i]? = some x) (Mk1.still hB81 nm99 s83 hB83) (fun _ σ2 => ∃ (o3_99 : Option V) (o6_99 : Option V), σ2 = [some (V.str (("even" : Str))), some v0_1, some v78, o3_99, some vd98, some (.ref pm99), o6_99, none]) ⟨_, _, rfl⟩ (by decide) (fun im99 zm99 σm99 Hm99 him99 hzm99 Im99 bm99 em99 Dm99 km99 => ?_) (fun σm99 ds99 He99 Im99 l99 p99 r99 e99 be99 ow99 => ?_) rfl
        · obtain ⟨o3_99, o6_99, rfl⟩ := Im99
          have hB84 := Bg.enterB hB81 nm99
          have nd84 := nm99
          have hB85 := bm99
          have e85 := em99
          rcases im99 with _ | im99
          · obtain rfl : zm99 = (0 : Int) := hzm99
            with_reducible refine k_seq ?_
            with_reducible refine k_set ?_
            have q100 := ((r81.enter hB81 nd84).up hB84 e85)
            refine k_bm (k_val (val_var rfl) ⟨ty_list (q100), ?_⟩)
            refine k_arg (val_var rfl) ?_
            with_reducible refine k_nil ?_
            refine f_index (ns := [0, 0, 0, 0]) 0 (q100) (by rfl) (by decide) ?_
            obtain ⟨ym99_, hy99_⟩ := hB85.2
            refine k_drop (k_bm (k_val (val_var rfl) ⟨ty_at hy99_, ?_⟩))
            with_reducible refine k_argX ?_
            with_reducible refine k_call ?_
            with_reducible refine k_argX ?_
            with_reducible refine k_opX ?_
            refine k_val (val_var rfl) ?_
            refine k_val (val_var rfl) ?_
            have q102 := (((r78.up hB78 (Ex.of s81)).enter hB81 nd84).up hB84 e85)
            refine f_ixT (k := 0) (q102) rfl (fun w101 rw101 => ?_)
            with_reducible refine k_argX ?_
            with_reducible refine k_tup ?_
            with_reducible refine k_argX ?_
            with_reducible refine k_opX ?_
            with_reducible refine k_opX ?_
            with_reducible refine k_opX ?_
            refine k_val val_c ?_
            refine k_val (val_var rfl) ?_
            obtain ⟨v_PL103, d_PL103, r_PL103⟩ := h_PL Kd.even
            refine f_ixK d_PL103 ?_
            refine k_val (val_var rfl) ?_
            refine f_ixT (k := 0) (r_PL103 (G.plus pm99).M Hm99) rfl (fun w104 rw104 => ?_)
            refine k_val val_c ?_
            refine f_ixT (k := 1) (rw104) rfl (fun w105 rw105 => ?_)
            obtain rfl := int_of rw105
            refine k_arg val_c ?_
            with_reducible refine k_nil ?_
            refine k_tup_end hB85 (rcons (rint _) (rcons (rint _) (rnil (K := K)))) (fun v86 H86 r86 s86 hB86 => ?_)
            replace r86 : Rep K (G.plus pm99).M H86 (fr (1 : Rat)) v86 := r86
            with_reducible refine k_nil ?_
            refine k_spF ((t).a, (1 : Rat), n, 1) hB86 (rcons ((rw101.up hB85 (Ex.of s86))) (rcons (r86) (rnil (K := K)))) ⟨z78_0, (szr_lit 1 (1 : Rat)), (by first | omega | (dsimp only; omega))⟩ (fun v87 H87 r87 s87 hB87 => ?_)
            replace r87 : Rep K (G.plus pm99).M H87 ((fr (((t).a * (1 : Rat))))) v87 := r87
            have z87 : SzR ((n + 1) + 0) (((t).a * (1 : Rat))) := (szr_mul z78_0 (szr_lit 1 (1 : Rat)) (by omega))
            with_reducible refine k_nil ?_
            exact app_at (km99 _ _ _ _ ⟨_, _, rfl⟩ (congrArg (fun z => some (fr z)) (mul_1 _).symm) (r87) (Ex.of (s86.trans s87)) hB87)
          · omega
        · obtain ⟨o3_99, o6_99, rfl⟩ := Im99
          have s88 := same_of e99
          have hB88 := be99
          have q99 : ds99 = [fr ((t).a)] := eq_list l99 p99
          have r88 : Rep K G.M He99 (.lst [fr ((t).a)]) (.ref pm99) := by rw [q99] at r99; exact r99
          with_reducible refine k_ret ?_
          with_reducible refine k_ifE ?_
          with_reducible refine k_T ?_
          with_reducible refine k_opX ?_
          with_reducible refine k_call ?_
          refine k_arg (val_var rfl) ?_
          refine k_arg (val_var rfl) ?_
          with_reducible refine k_nil ?_
          refine k_spF (Kd.even, (t).a, (0 : Rat), (0 : Rat), (0 : Rat), (max n 1)) hB88 (rcons (rstr _) (rcons (r88) (rnil (K := K)))) ⟨((ht).1).mono (by first | omega | (dsimp only; omega)), ((szr_lit 1 (0 : Rat))).mono (by first | omega | (dsimp only; omega)), ((szr_lit 1 (0 : Rat))).mono (by first | omega | (dsimp only; omega)), ((szr_lit 1 (0 : Rat))).mono (by first | omega | (dsimp only; omega)), (by first | omega | (dsimp only; omega))⟩ (fun v89 H89 r89 s89 hB89 => ?_)
          replace r89 : Rep K G.M H89 (tbI C (filled (Kd.even) ((t).a) ((0 : Rat)) ((0 : Rat)) ((0 : Rat)))) v89 := r89
          refine k_val (val_var rfl) ?_
          have q106 := ((((r0_1.up hB (Ex.of s78)).up hB78 (Ex.of s81)).up hB81 (Ex.of s88)).up hB88 (Ex.of s89))
          refine f_own (r89) (q106) ?_
          refine k_spF (filled (Kd.even) ((t).a) ((0 : Rat)) ((0 : Rat)) ((0 : Rat)), t) hB89 (rcons (r89) (rcons (q106) (rnil (K := K)))) trivial (fun v90 H90 r90 s90 hB90 => ?_)
          obtain rfl := bl_of (b := (decide (filled (Kd.even) ((t).a) ((0 : Rat)) ((0 : Rat)) ((0 : Rat)) = t))) r90
          refine ⟨_, rfl, ?_⟩
          refine k_ite (fun c107 => ?_) (fun c107 => ?_)
          · refine k_val (val_var rfl) ?_
            have q108 := ((r88.up hB88 (Ex.of s89)).up hB89 (Ex.of s90))
            exact k _ _ _ (own_yes c107) (q108) ((((s78.trans s81).trans s88).trans s89).trans s90) hB90
          · refine k_val val_c ?_
            exact k _ _ _ (own_no back_even c107) (rnon) ((((s78.trans s81).trans s88).trans s89).trans s90) hB90
def sp_fits (K : PySem.W.Frag) (C : Addr) : Sp := spF K (α := Kd × Tb × Nat) (fun x => [.str ((kdS x.1)), tbI C (x.2.1)]) (fun x => SzT x.2.2 x.2.1 ∧ 1 ≤ x.2.2 ∧ x.2.2 + 1 ≤ 8000) (fun x => (.bl ((fitsB x.1 x.2.1)) : D))
theorem has_fits {C : Addr} (T : Tx K mg) (Y : TabTx K mg w C) : ∃ f fd, Fun K "fits" "fits" s_fits f fd ∧ mg "fits" = some (.ref f) ∧ Binds K fd ["kind", "table"] [] ∧ FnOk P w K mg base CX0 7 f fd ["kind", "table"] (sp_fits K C) := by
  obtain ⟨f, fd, F, M⟩ := T.fits
  obtain ⟨f_own_numbers, fd_own_numbers, F_own_numbers, M_own_numbers, B_own_numbers, G_own_numbers⟩ := has_own_numbers (P := P) (w := w) (base := base) T Y
  refine ⟨f, fd, F, M, F.binds (ps := ["kind", "table"]) (fun _ _ _ _ _ _ us hl => match us, hl with | [_, _], _ => rfl), F.ok sc_fits (fun vs H Q E h => ?_) (fun cdv A outer s H vs Q E hr h => ?_)⟩
  · obtain ⟨G, x, hB, r, hp, q⟩ := h; rw [r.len]; rfl
  · obtain ⟨G, ⟨kd, t, n⟩, hB, r, ⟨ht, hn1, hn⟩, k⟩ := h
    refine ⟨_, (pss_one (ps_ret (pe_cmpR op_notN1 (pe_call G_own_numbers (hr.mono (by decide)) (by rfl) M_own_numbers F_own_numbers.kp B_own_numbers .nil pass0 (pa_cons (pv 0) (pa_cons (pv 1) pa_nil))) pe_non (nomark _)))), ?_⟩
    replace ht : SzT n t := ht
    replace hn1 : 1 ≤ n := hn1
    replace hn : n + 1 ≤ 8000 := hn
    replace k : ∀ d v H', d = (.bl ((fitsB kd t)) : D) → Rep K G.M H' d v → Same H H' → G.B H' → Q v H' := k
    obtain ⟨v0_0, _, rfl, r0_0, rt0⟩ := cons_of r
    replace r0_0 : Rep K G.M H (.str ((kdS kd))) v0_0 := r0_0
    obtain rfl := str_of r0_0
    obtain ⟨v0_1, _, rfl, r0_1, rt1⟩ := cons_of rt0
    replace r0_1 : Rep K G.M H (tbI C (t)) v0_1 := r0_1
    obtain rfl := nil_of rt1
    with_reducible refine k_ret ?_
    with_reducible refine k_opX ?_
    with_reducible refine k_call ?_
    refine k_arg (val_var rfl) ?_
    refine k_arg (val_var rfl) ?_
    with_reducible refine k_nil ?_
    refine k_spF (kd, t, n) hB (rcons (rstr _) (rcons (r0_1) (rnil (K := K)))) ⟨ht, (by first | omega | (dsimp only; omega)), (by first | omega | (dsimp only; omega))⟩ (fun v1 H1 r1 s1 hB1 => ?_)
    replace r1 : Rep K G.M H1 (ownD (kd) (t)) v1 := r1
    refine k_val val_c ?_
    refine f_notN (b := (fitsB (kd) (t))) (r1) (own_none (kd) (t)) ?_
    exact k _ _ _ rfl (rbl _) s1 hB1
def sp__units (K : PySem.W.Frag) (C : Addr) : Sp := spF K (α := Kd) (fun x => [.str ((kdS x))]) (fun x => True) (fun x => (.lst ((units x).map (tbI C)) : D))
theorem has__units {C : Addr} (T : Tx K mg) (Y : TabTx K mg w C) : ∃ f fd, Fun K "_units" "_units" s__units f fd ∧ mg "_units" = some (.ref f) ∧ Binds K fd ["kind"] [] ∧ FnOk P w K mg base CX0 6 f fd ["kind"] (sp__units K C) := by
  obtain ⟨f, fd, F, M⟩ := T._units
  obtain ⟨f_own_count, fd_own_count, F_own_count, M_own_count, B_own_count, G_own_count⟩ := has_own_count (P := P) (w := w) (base := base) T Y
  obtain ⟨f_table_of, fd_table_of, F_table_of, M_table_of, B_table_of, G_table_of⟩ := has_table_of (P := P) (w := w) (base := base) T Y
  obtain ⟨a_ONE, m_ONE, r_ONE⟩ := Y.cONE
  obtain ⟨a_ZERO, m_ZERO, r_ZERO⟩ := Y.cZERO
  refine ⟨f, fd, F, M, F.binds (ps := ["kind"]) (fun _ _ _ _ _ _ us hl => match us, hl with | [_], _ => rfl), F.ok sc__units (fun vs H Q E h => ?_) (fun cdv A outer s H vs Q E hr h => ?_)⟩
  · obtain ⟨G, x, hB, r, hp, q⟩ := h; rw [r.len]; rfl
  · obtain ⟨G, kd, hB, r, _, k⟩ := h
    refine ⟨_, (pss_cons (ps_set (i := 1) sc__units.nd rfl (.inr rfl) (pe_call G_own_count (hr.mono (by decide)) (by rfl) M_own_count F_own_count.kp B_own_count .nil pass0 (pa_cons (pv 0) pa_nil))) (pss_one (ps_ret (pe_lc (own := [("own", 2)]) (g := gName 2) (tt := tYes) (by rfl) sc__units.nd (pi_range1 (by rfl) T.range (pa_cons (pv 1) pa_nil)) (blkOk_by (own := [("own", 2)]) (N := ["kind", "count", "own", "at"]) (sc := (defScope s__units)) (by decide +kernel)) (fun _ _ _ _ _ => pg_name (i := 2) sc__units.nd rfl (.inr rfl)) (fun _ _ _ _ _ => pts_nil) (fun _ _ _ _ _ => (pe_call G_table_of (hr.mono (by decide)) (by rfl) M_table_of F_table_of.kp B_table_of .nil pass0 (pa_cons (pv 0) (pa_cons (pe_lc (own := [("at", 3)]) (g := gName 3) (tt := tYes) (by rfl) sc__units.nd (pi_range1 (by rfl) T.range (pa_cons (pv 1) pa_nil)) (blkOk_by (own := [("at", 3)]) (N := ["kind", "count", "own", "at"]) (sc := {kind := PySem.ScopeKind.function, names := [((PySem.Str.ofString ".0"), PySem.NameKind.local), ((PySem.Str.ofString "own"), PySem.NameKind.cell), ((PySem.Str.ofString "table_of"), PySem.NameKind.globalImplicit), ((PySem.Str.ofString "range"), PySem.NameKind.globalImplicit), ((PySem.Str.ofString "count"), PySem.NameKind.cell), ((PySem.Str.ofString "kind"), PySem.NameKind.cell)], isGenerator := false, isCoroutine := false, more := [] : PySem.Scope}) (by decide +kernel)) (fun _ _ _ _ _ => pg_name (i := 3) sc__units.nd rfl (.inl rfl)) (fun _ _ _ _ _ => pts_nil) (fun _ _ _ _ _ => (pe_ifExp (pt_cmpR op_eq (pv 3) (pv 2) (nomark _)) (pe_glob (v := (.ref a_ONE)) (by rfl) m_ONE rfl) (pe_glob (v := (.ref a_ZERO)) (by rfl) m_ZERO rfl)))) pa_nil)))))))), ?_⟩
    cases kd
    · replace k : ∀ d v H', d = (.lst ((units Kd.slanted).map (tbI C)) : D) → Rep K G.M H' d v → Same H H' → G.B H' → Q v H' := k
      obtain ⟨v0_0, _, rfl, r0_0, rt0⟩ := cons_of r
      replace r0_0 : Rep K G.M H (.str (("slanted" : Str))) v0_0 := r0_0
      obtain rfl := str_of r0_0
      obtain rfl := nil_of rt0
      with_reducible refine k_seq ?_
      with_reducible refine k_set ?_
      with_reducible refine k_call ?_
      refine k_arg (val_var rfl) ?_
      with_reducible refine k_nil ?_
      refine k_spF Kd.slanted hB (rcons (rstr _) (rnil (K := K))) trivial (fun v1 H1 r1 s1 hB1 => ?_)
      obtain rfl := int_of (i := (4 : Int)) r1
      with_reducible refine k_ret ?_
      with_reducible refine k_lcr ?_
      refine k_arg (val_var rfl) ?_
      with_reducible refine k_nil ?_
      refine k_lcRE (K := K) (n := 4) (j := 2) (vs := [2]) (noM) (fun _ m => m.elim) (by decide) hB1 (fun i x => x = tbI C (unitT Kd.slanted i)) (by intro _; rfl) (fun dc1 ic1 Hc1 hic1 nc1 hBc1 ec1 Qc1 kc1 => ?_) (fun ds1 vd1 He1 l1 p1 r1 e1 be1 => ?_) rfl
      · have hB2 := Bg.enterB hB1 nc1
        have nd2 := nc1
        have hB3 := hBc1
        have e3 := ec1
        with_reducible refine k_call ?_
        refine k_arg (val_var rfl) ?_
        with_reducible refine k_argX ?_
        with_reducible refine k_lcr ?_
        refine k_arg (val_var rfl) ?_
        with_reducible refine k_nil ?_
        refine k_lcRE (K := K) (n := 4) (j := 3) (vs := [3]) (noM) (fun _ m => m.elim) (by decide) hB3 (fun j x => x = fr (dlt j ic1)) (by intro _; rfl) (fun dc2 ic2 Hc2 hic2 nc2 hBc2 ec2 Qc2 kc2 => ?_) (fun ds2 vd2 He2 l2 p2 r2 e2 be2 => ?_) rfl
        · have hB4 := Bg.enterB hB3 nc2
          have nd4 := nc2
          have hB5 := hBc2
          have e5 := ec2
          with_reducible refine k_ifE ?_
          with_reducible refine k_T ?_
          refine k_val (v_eqI (val_var rfl) (val_var rfl)) ?_
          refine ⟨_, rfl, ?_⟩
          refine k_ite (fun c3 => ?_) (fun c3 => ?_)
          · refine k_val val_c ?_
            exact kc2 _ _ _ (by rw [dlt, if_pos (by have := of_decide_eq_true c3; omega)]) (r_ONE ((G.plus dc1).plus dc2).M Hc2) (Ex.of (Same.refl _)) hB5
          · refine k_val val_c ?_
            exact kc2 _ _ _ (by rw [dlt, if_neg (by have := of_decide_eq_false c3; omega)]) (r_ZERO ((G.plus dc1).plus dc2).M Hc2) (Ex.of (Same.refl _)) hB5
        · have s6 := same_of e2
          have hB6 := be2
          have q2 := eq_mapRange (e := fun j => fr (dlt j ic1)) l2 p2
          have r6 : Rep K (G.plus dc1).M He2 (.lst [fr (dlt 0 ic1), fr (dlt 1 ic1), fr (dlt 2 ic1), fr (dlt 3 ic1)]) vd2 := by rw [q2] at r2; exact r2
          with_reducible refine k_nil ?_
          refine k_spF (Kd.slanted, (dlt 0 ic1), (dlt 1 ic1), (dlt 2 ic1), (dlt 3 ic1), 1) hB6 (rcons (rstr _) (rcons (r6) (rnil (K := K)))) ⟨((szr_dlt 0 ic1)).mono (by first | omega | (dsimp only; omega)), ((szr_dlt 1 ic1)).mono (by first | omega | (dsimp only; omega)), ((szr_dlt 2 ic1)).mono (by first | omega | (dsimp only; omega)), ((szr_dlt 3 ic1)).mono (by first | omega | (dsimp only; omega)), (by first | omega | (dsimp only; omega))⟩ (fun v7 H7 r7 s7 hB7 => ?_)
          replace r7 : Rep K (G.plus dc1).M H7 (tbI C (filled (Kd.slanted) ((dlt 0 ic1)) ((dlt 1 ic1)) ((dlt 2 ic1)) ((dlt 3 ic1)))) v7 := r7
          exact kc1 _ _ _ rfl (r7) (Ex.of (s6.trans s7)) hB7
      · have s8 := same_of e1
        have hB8 := be1
        have q1 := eq_mapRange (e := fun i => tbI C (unitT Kd.slanted i)) l1 p1
        have r8 : Rep K G.M He1 (.lst ((units Kd.slanted).map (tbI C))) vd1 := by rw [q1] at r1; exact r1
        exact k _ _ _ rfl (r8) (s1.trans s8) hB8
    · replace k : ∀ d v H', d = (.lst ((units Kd.turned).map (tbI C)) : D) → Rep K G.M H' d v → Same H H' → G.B H' → Q v H' := k
      obtain ⟨v0_0, _, rfl, r0_0, rt0⟩ := cons_of r
      replace r0_0 : Rep K G.M H (.str (("turned" : Str))) v0_0 := r0_0
      obtain rfl := str_of r0_0
      obtain rfl := nil_of rt0
      with_reducible refine k_seq ?_
      with_reducible refine k_set ?_
      with_reducible refine k_call ?_
      refine k_arg (val_var rfl) ?_
      with_reducible refine k_nil ?_
      refine k_spF Kd.turned hB (rcons (rstr _) (rnil (K := K))) trivial (fun v9 H9 r9 s9 hB9 => ?_)
      obtain rfl := int_of (i := (2 : Int)) r9
      with_reducible refine k_ret ?_
      with_reducible refine k_lcr ?_
      refine k_arg (val_var rfl) ?_
      with_reducible refine k_nil ?_
      refine k_lcRE (K := K) (n := 2) (j := 2) (vs := [2]) (noM) (fun _ m => m.elim) (by decide) hB9 (fun i x => x = tbI C (unitT Kd.turned i)) (by intro _; rfl) (fun dc4 ic4 Hc4 hic4 nc4 hBc4 ec4 Qc4 kc4 => ?_) (fun ds4 vd4 He4 l4 p4 r4 e4 be4 => ?_) rfl
      · have hB10 := Bg.enterB hB9 nc4
        have nd10 := nc4
        have hB11 := hBc4
        have e11 := ec4
        with_reducible refine k_call ?_
        refine k_arg (val_var rfl) ?_
        with_reducible refine k_argX ?_
        with_reducible refine k_lcr ?_
        refine k_arg (val_var rfl) ?_
        with_reducible refine k_nil ?_
        refine k_lcRE (K := K) (n := 2) (j := 3) (vs := [3]) (noM) (fun _ m => m.elim) (by decide) hB11 (fun j x => x = fr (dlt j ic4)) (by intro _; rfl) (fun dc5 ic5 Hc5 hic5 nc5 hBc5 ec5 Qc5 kc5 => ?_) (fun ds5 vd5 He5 l5 p5 r5 e5 be5 => ?_) rfl
        · have hB12 := Bg.enterB hB11 nc5
          have nd12 := nc5
          have hB13 := hBc5
          have e13 := ec5
          with_reducible refine k_ifE ?_
          with_reducible refine k_T ?_
          refine k_val (v_eqI (val_var rfl) (val_var rfl)) ?_
          refine ⟨_, rfl, ?_⟩
          refine k_ite (fun c6 => ?_) (fun c6 => ?_)
          · refine k_val val_c ?_
            exact kc5 _ _ _ (by rw [dlt, if_pos (by have := of_decide_eq_true c6; omega)]) (r_ONE ((G.plus dc4).plus dc5).M Hc5) (Ex.of (Same.refl _)) hB13
          · refine k_val val_c ?_
            exact kc5 _ _ _ (by rw [dlt, if_neg (by have := of_decide_eq_false c6; omega)]) (r_ZERO ((G.plus dc4).plus dc5).M Hc5) (Ex.of (Same.refl _)) hB13
        · have s14 := same_of e5
          have hB14 := be5
          have q5 := eq_mapRange (e := fun j => fr (dlt j ic4)) l5 p5
          have r14 : Rep K (G.plus dc4).M He5 (.lst [fr (dlt 0 ic4), fr (dlt 1 ic4)]) vd5 := by rw [q5] at r5; exact r5
          with_reducible refine k_nil ?_
          refine k_spF (Kd.turned, (dlt 0 ic4), (dlt 1 ic4), (0 : Rat), (0 : Rat), 1) hB14 (rcons (rstr _) (rcons (r14) (rnil (K := K)))) ⟨((szr_dlt 0 ic4)).mono (by first | omega | (dsimp only; omega)), ((szr_dlt 1 ic4)).mono (by first | omega | (dsimp only; omega)), ((szr_lit 1 (0 : Rat))).mono (by first | omega | (dsimp only; omega)), ((szr_lit 1 (0 : Rat))).mono (by first | omega | (dsimp only; omega)), (by first | omega | (dsimp only; omega))⟩ (fun v15 H15 r15 s15 hB15 => ?_)
          replace r15 : Rep K (G.plus dc4).M H15 (tbI C (filled (Kd.turned) ((dlt 0 ic4)) ((dlt 1 ic4)) ((0 : Rat)) ((0 : Rat)))) v15 := r15
          exact kc4 _ _ _ rfl (r15) (Ex.of (s14.trans s15)) hB15
      · have s16 := same_of e4
        have hB16 := be4
        have q4 := eq_mapRange (e := fun i => tbI C (unitT Kd.turned i)) l4 p4
        have r16 : Rep K G.M He4 (.lst ((units Kd.turned).map (tbI C))) vd4 := by rw [q4] at r4; exact r4
        exact k _ _ _ rfl (r16) (s9.trans s16) hB16
    · replace k : ∀ d v H', d = (.lst ((units Kd.mirrored).map (tbI C)) : D) → Rep K G.M H' d v → Same H H' → G.B H' → Q v H' := k
      obtain ⟨v0_0, _, rfl, r0_0, rt0⟩ := cons_of r
      replace r0_0 : Rep K G.M H (.str (("mirrored" : Str))) v0_0 := r0_0
      obtain rfl := str_of r0_0
      obtain rfl := nil_of rt0
      with_reducible refine k_seq ?_
      with_reducible refine k_set ?_
      with_reducible refine k_call ?_
      refine k_arg (val_var rfl) ?_
      with_reducible refine k_nil ?_
      refine k_spF Kd.mirrored hB (rcons (rstr _) (rnil (K := K))) trivial (fun v17 H17 r17 s17 hB17 => ?_)
      obtain rfl := int_of (i := (2 : Int)) r17
      with_reducible refine k_ret ?_
      with_reducible refine k_lcr ?_
      refine k_arg (val_var rfl) ?_
      with_reducible refine k_nil ?_
      refine k_lcRE (K := K) (n := 2) (j := 2) (vs := [2]) (noM) (fun _ m => m.elim) (by decide) hB17 (fun i x => x = tbI C (unitT Kd.mirrored i)) (by intro _; rfl) (fun dc7 ic7 Hc7 hic7 nc7 hBc7 ec7 Qc7 kc7 => ?_) (fun ds7 vd7 He7 l7 p7 r7 e7 be7 => ?_) rfl
      · have hB18 := Bg.enterB hB17 nc7
        have nd18 := nc7
        have hB19 := hBc7
        have e19 := ec7
        with_reducible refine k_call ?_
        refine k_arg (val_var rfl) ?_
        with_reducible refine k_argX ?_
        with_reducible refine k_lcr ?_
        refine k_arg (val_var rfl) ?_
        with_reducible refine k_nil ?_
        refine k_lcRE (K := K) (n := 2) (j := 3) (vs := [3]) (noM) (fun _ m => m.elim) (by decide) hB19 (fun j x => x = fr (dlt j ic7)) (by intro _; rfl) (fun dc8 ic8 Hc8 hic8 nc8 hBc8 ec8 Qc8 kc8 => ?_) (fun ds8 vd8 He8 l8 p8 r8 e8 be8 => ?_) rfl
        · have hB20 := Bg.enterB hB19 nc8
          have nd20 := nc8
          have hB21 := hBc8
          have e21 := ec8
          with_reducible refine k_ifE ?_
          with_reducible refine k_T ?_
          refine k_val (v_eqI (val_var rfl) (val_var rfl)) ?_
          refine ⟨_, rfl, ?_⟩
          refine k_ite (fun c9 => ?_) (fun c9 => ?_)
          · refine k_val val_c ?_
            exact kc8 _ _ _ (by rw [dlt, if_pos (by have := of_decide_eq_true c9; omega)]) (r_ONE ((G.plus dc7).plus dc8).M Hc8) (Ex.of (Same.refl _)) hB21
          · refine k_val val_c ?_
            exact kc8 _ _ _ (by rw [dlt, if_neg (by have := of_decide_eq_false c9; omega)]) (r_ZERO ((G.plus dc7).plus dc8).M Hc8) (Ex.of (Same.refl _)) hB21
        · have s22 := same_of e8
          have hB22 := be8
          have q8 := eq_mapRange (e := fun j => fr (dlt j ic7)) l8 p8
          have r22 : Rep K (G.plus dc7).M He8 (.lst [fr (dlt 0 ic7), fr (dlt 1 ic7)]) vd8 := by rw [q8] at r8; exact r8
          with_reducible refine k_nil ?_
          refine k_spF (Kd.mirrored, (dlt 0 ic7), (dlt 1 ic7), (0 : Rat), (0 : Rat), 1) hB22 (rcons (rstr _) (rcons (r22) (rnil (K := K)))) ⟨((szr_dlt 0 ic7)).mono (by first | omega | (dsimp only; omega)), ((szr_dlt 1 ic7)).mono (by first | omega | (dsimp only; omega)), ((szr_lit 1 (0 : Rat))).mono (by first | omega | (dsimp only; omega)), ((szr_lit 1 (0 : Rat))).mono (by first | omega | (dsimp only; omega)), (by first | omega | (dsimp only; omega))⟩ (fun v23 H23 r23 s23 hB23 => ?_)
          replace r23 : Rep K (G.plus dc7).M H23 (tbI C (filled (Kd.mirrored) ((dlt 0 ic7)) ((dlt 1 ic7)) ((0 : Rat)) ((0 : Rat)))) v23 := r23
          exact kc7 _ _ _ rfl (r23) (Ex.of (s22.trans s23)) hB23
      · have s24 := same_of e7
        have hB24 := be7
        have q7 := eq_mapRange (e := fun i => tbI C (unitT Kd.mirrored i)) l7 p7
        have r24 : Rep K G.M He7 (.lst ((units Kd.mirrored).map (tbI C))) vd7 := by rw [q7] at r7; exact r7
        exact k _ _ _ rfl (r24) (s17.trans s24) hB24
    · replace k : ∀ d v H', d = (.lst ((units Kd.stretched).map (tbI C)) : D) → Rep K G.M H' d v → Same H H' → G.B H' → Q v H' := k
      obtain ⟨v0_0, _, rfl, r0_0, rt0⟩ := cons_of r
      replace r0_0 : Rep K G.M H (.str (("stretched" : Str))) v0_0 := r0_0
      obtain rfl := str_of r0_0
      obtain rfl := nil_of rt0
      with_reducible refine k_seq ?_
      with_reducible refine k_set ?_
      with_reducible refine k_call ?_
      refine k_arg (val_var rfl) ?_
      with_reducible refine k_nil ?_
      refine k_spF Kd.stretched hB (rcons (rstr _) (rnil (K := K))) trivial (fun v25 H25 r25 s25 hB25 => ?_)
      obtain rfl := int_of (i := (2 : Int)) r25
      with_reducible refine k_ret ?_
      with_reducible refine k_lcr ?_
      refine k_arg (val_var rfl) ?_
      with_reducible refine k_nil ?_
      refine k_lcRE (K := K) (n := 2) (j := 2) (vs := [2]) (noM) (fun _ m => m.elim) (by decide) hB25 (fun i x => x = tbI C (unitT Kd.stretched i)) (by intro _; rfl) (fun dc10 ic10 Hc10 hic10 nc10 hBc10 ec10 Qc10 kc10 => ?_) (fun ds10 vd10 He10 l10 p10 r10 e10 be10 => ?_) rfl
      · have hB26 := Bg.enterB hB25 nc10
        have nd26 := nc10
        have hB27 := hBc10
        have e27 := ec10
        with_reducible refine k_call ?_
        refine k_arg (val_var rfl) ?_
        with_reducible refine k_argX ?_
        with_reducible refine k_lcr ?_
        refine k_arg (val_var rfl) ?_
        with_reducible refine k_nil ?_
        refine k_lcRE (K := K) (n := 2) (j := 3) (vs := [3]) (noM) (fun _ m => m.elim) (by decide) hB27 (fun j x => x = fr (dlt j ic10)) (by intro _; rfl) (fun dc11 ic11 Hc11 hic11 nc11 hBc11 ec11 Qc11 kc11 => ?_) (fun ds11 vd11 He11 l11 p11 r11 e11 be11 => ?_) rfl
        · have hB28 := Bg.enterB hB27 nc11
          have nd28 := nc11
          have hB29 := hBc11
          have e29 := ec11
          with_reducible refine k_ifE ?_
          with_reducible refine k_T ?_
          refine k_val (v_eqI (val_var rfl) (val_var rfl)) ?_
          refine ⟨_, rfl, ?_⟩
          refine k_ite (fun c12 => ?_) (fun c12 => ?_)
          · refine k_val val_c ?_
            exact kc11 _ _ _ (by rw [dlt, if_pos (by have := of_decide_eq_true c12; omega)]) (r_ONE ((G.plus dc10).plus dc11).M Hc11) (Ex.of (Same.refl _)) hB29
          · refine k_val val_c ?_
            exact kc11 _ _ _ (by rw [dlt, if_neg (by have := of_decide_eq_false c12; omega)]) (r_ZERO ((G.plus dc10).plus dc11).M Hc11) (Ex.of (Same.refl _)) hB29
        · have s30 := same_of e11
          have hB30 := be11
          have q11 := eq_mapRange (e := fun j => fr (dlt j ic10)) l11 p11
          have r30 : Rep K (G.plus dc10).M He11 (.lst [fr (dlt 0 ic10), fr (dlt 1 ic10)]) vd11 := by rw [q11] at r11; exact r11
          with_reducible refine k_nil ?_
          refine k_spF (Kd.stretched, (dlt 0 ic10), (dlt 1 ic10), (0 : Rat), (0 : Rat), 1) hB30 (rcons (rstr _) (rcons (r30) (rnil (K := K)))) ⟨((szr_dlt 0 ic10)).mono (by first | omega | (dsimp only; omega)), ((szr_dlt 1 ic10)).mono (by first | omega | (dsimp only; omega)), ((szr_lit 1 (0 : Rat))).mono (by first | omega | (dsimp only; omega)), ((szr_lit 1 (0 : Rat))).mono (by first | omega | (dsimp only; omega)), (by first | omega | (dsimp only; omega))⟩ (fun v31 H31 r31 s31 hB31 => ?_)
          replace r31 : Rep K (G.plus dc10).M H31 (tbI C (filled (Kd.stretched) ((dlt 0 ic10)) ((dlt 1 ic10)) ((0 : Rat)) ((0 : Rat)))) v31 := r31
          exact kc10 _ _ _ rfl (r31) (Ex.of (s30.trans s31)) hB31
      · have s32 := same_of e10
        have hB32 := be10
        have q10 := eq_mapRange (e := fun i => tbI C (unitT Kd.stretched i)) l10 p10
        have r32 : Rep K G.M He10 (.lst ((units Kd.stretched).map (tbI C))) vd10 := by rw [q10] at r10; exact r10
        exact k _ _ _ rfl (r32) (s25.trans s32) hB32
    · replace k : ∀ d v H', d = (.lst ((units Kd.sized).map (tbI C)) : D) → Rep K G.M H' d v → Same H H' → G.B H' → Q v H' := k
      obtain ⟨v0_0, _, rfl, r0_0, rt0⟩ := cons_of r
      replace r0_0 : Rep K G.M H (.str (("sized" : Str))) v0_0 := r0_0
      obtain rfl := str_of r0_0
      obtain rfl := nil_of rt0
      with_reducible refine k_seq ?_
      with_reducible refine k_set ?_
      with_reducible refine k_call ?_
      refine k_arg (val_var rfl) ?_
      with_reducible refine k_nil ?_
      refine k_spF Kd.sized hB (rcons (rstr _) (rnil (K := K))) trivial (fun v33 H33 r33 s33 hB33 => ?_)
      obtain rfl := int_of (i := (1 : Int)) r33
      with_reducible refine k_ret ?_
      with_reducible refine k_lcr ?_
      refine k_arg (val_var rfl) ?_
      with_reducible refine k_nil ?_
      refine k_lcRE (K := K) (n := 1) (j := 2) (vs := [2]) (noM) (fun _ m => m.elim) (by decide) hB33 (fun i x => x = tbI C (unitT Kd.sized i)) (by intro _; rfl) (fun dc13 ic13 Hc13 hic13 nc13 hBc13 ec13 Qc13 kc13 => ?_) (fun ds13 vd13 He13 l13 p13 r13 e13 be13 => ?_) rfl
      · have hB34 := Bg.enterB hB33 nc13
        have nd34 := nc13
        have hB35 := hBc13
        have e35 := ec13
        with_reducible refine k_call ?_
        refine k_arg (val_var rfl) ?_
        with_reducible refine k_argX ?_
        with_reducible refine k_lcr ?_
        refine k_arg (val_var rfl) ?_
        with_reducible refine k_nil ?_
        refine k_lcRE (K := K) (n := 1) (j := 3) (vs := [3]) (noM) (fun _ m => m.elim) (by decide) hB35 (fun j x => x = fr (dlt j ic13)) (by intro _; rfl) (fun dc14 ic14 Hc14 hic14 nc14 hBc14 ec14 Qc14 kc14 => ?_) (fun ds14 vd14 He14 l14 p14 r14 e14 be14 => ?_) rfl
        · have hB36 := Bg.enterB hB35 nc14
          have nd36 := nc14
          have hB37 := hBc14
          have e37 := ec14
          with_reducible refine k_ifE ?_
          with_reducible refine k_T ?_
          refine k_val (v_eqI (val_var rfl) (val_var rfl)) ?_
          refine ⟨_, rfl, ?_⟩
          refine k_ite (fun c15 => ?_) (fun c15 => ?_)
          · refine k_val val_c ?_
            exact kc14 _ _ _ (by rw [dlt, if_pos (by have := of_decide_eq_true c15; omega)]) (r_ONE ((G.plus dc13).plus dc14).M Hc14) (Ex.of (Same.refl _)) hB37
          · refine k_val val_c ?_
            exact kc14 _ _ _ (by rw [dlt, if_neg (by have := of_decide_eq_false c15; omega)]) (r_ZERO ((G.plus dc13).plus dc14).M Hc14) (Ex.of (Same.refl _)) hB37
        · have s38 := same_of e14
          have hB38 := be14
          have q14 := eq_mapRange (e := fun j => fr (dlt j ic13)) l14 p14
          have r38 : Rep K (G.plus dc13).M He14 (.lst [fr (dlt 0 ic13)]) vd14 := by rw [q14] at r14; exact r14
          with_reducible refine k_nil ?_
          refine k_spF (Kd.sized, (dlt 0 ic13), (0 : Rat), (0 : Rat), (0 : Rat), 1) hB38 (rcons (rstr _) (rcons (r38) (rnil (K := K)))) ⟨((szr_dlt 0 ic13)).mono (by first | omega | (dsimp only; omega)), ((szr_lit 1 (0 : Rat))).mono (by first | omega | (dsimp only; omega)), ((szr_lit 1 (0 : Rat))).mono (by first | omega | (dsimp only; omega)), ((szr_lit 1 (0 : Rat))).mono (by first | omega | (dsimp only; omega)), (by first | omega | (dsimp only; omega))⟩ (fun v39 H39 r39 s39 hB39 => ?_)
          replace r39 : Rep K (G.plus dc13).M H39 (tbI C (filled (Kd.sized) ((dlt 0 ic13)) ((0 : Rat)) ((0 : Rat)) ((0 : Rat)))) v39 := r39
          exact kc13 _ _ _ rfl (r39) (Ex.of (s38.trans s39)) hB39
      · have s40 := same_of e13
        have hB40 := be13
        have q13 := eq_mapRange (e := fun i => tbI C (unitT Kd.sized i)) l13 p13
        have r40 : Rep K G.M He13 (.lst ((units Kd.sized).map (tbI C))) vd13 := by rw [q13] at r13; exact r13
        exact k _ _ _ rfl (r40) (s33.trans s40) hB40
    · replace k : ∀ d v H', d = (.lst ((units Kd.even).map (tbI C)) : D) → Rep K G.M H' d v → Same H H' → G.B H' → Q v H' := k
      obtain ⟨v0_0, _, rfl, r0_0, rt0⟩ := cons_of r
      replace r0_0 : Rep K G.M H (.str (("even" : Str))) v0_0 := r0_0
      obtain rfl := str_of r0_0
      obtain rfl := nil_of rt0
      with_reducible refine k_seq ?_
      with_reducible refine k_set ?_
      with_reducible refine k_call ?_
      refine k_arg (val_var rfl) ?_
      with_reducible refine k_nil ?_
      refine k_spF Kd.even hB (rcons (rstr _) (rnil (K := K))) trivial (fun v41 H41 r41 s41 hB41 => ?_)
      obtain rfl := int_of (i := (1 : Int)) r41
      with_reducible refine k_ret ?_
      with_reducible refine k_lcr ?_
      refine k_arg (val_var rfl) ?_
      with_reducible refine k_nil ?_
      refine k_lcRE (K := K) (n := 1) (j := 2) (vs := [2]) (noM) (fun _ m => m.elim) (by decide) hB41 (fun i x => x = tbI C (unitT Kd.even i)) (by intro _; rfl) (fun dc16 ic16 Hc16 hic16 nc16 hBc16 ec16 Qc16 kc16 => ?_) (fun ds16 vd16 He16 l16 p16 r16 e16 be16 => ?_) rfl
      · have hB42 := Bg.enterB hB41 nc16
        have nd42 := nc16
        have hB43 := hBc16
        have e43 := ec16
        with_reducible refine k_call ?_
        refine k_arg (val_var rfl) ?_
        with_reducible refine k_argX ?_
        with_reducible refine k_lcr ?_
        refine k_arg (val_var rfl) ?_
        with_reducible refine k_nil ?_
        refine k_lcRE (K := K) (n := 1) (j := 3) (vs := [3]) (noM) (fun _ m => m.elim) (by decide) hB43 (fun j x => x = fr (dlt j ic16)) (by intro _; rfl) (fun dc17 ic17 Hc17 hic17 nc17 hBc17 ec17 Qc17 kc17 => ?_) (fun ds17 vd17 He17 l17 p17 r17 e17 be17 => ?_) rfl
        · have hB44 := Bg.enterB hB43 nc17
          have nd44 := nc17
          have hB45 := hBc17
          have e45 := ec17
          with_reducible refine k_ifE ?_
          with_reducible refine k_T ?_
          refine k_val (v_eqI (val_var rfl) (val_var rfl)) ?_
          refine ⟨_, rfl, ?_⟩
          refine k_ite (fun c18 => ?_) (fun c18 => ?_)
          · refine k_val val_c ?_
            exact kc17 _ _ _ (by rw [dlt, if_pos (by have := of_decide_eq_true c18; omega)]) (r_ONE ((G.plus dc16).plus dc17).M Hc17) (Ex.of (Same.refl _)) hB45
          · refine k_val val_c ?_
            exact kc17 _ _ _ (by rw [dlt, if_neg (by have := of_decide_eq_false c18; omega)]) (r_ZERO ((G.plus dc16).plus dc17).M Hc17) (Ex.of (Same.refl _)) hB45
        · have s46 := same_of e17
          have hB46 := be17
          have q17 := eq_mapRange (e := fun j => fr (dlt j ic16)) l17 p17
          have r46 : Rep K (G.plus dc16).M He17 (.lst [fr (dlt 0 ic16)]) vd17 := by rw [q17] at r17; exact r17
          with_reducible refine k_nil ?_
          refine k_spF (Kd.even, (dlt 0 ic16), (0 : Rat), (0 : Rat), (0 : Rat), 1) hB46 (rcons (rstr _) (rcons (r46) (rnil (K := K)))) ⟨((szr_dlt 0 ic16)).mono (by first | omega | (dsimp only; omega)), ((szr_lit 1 (0 : Rat))).mono (by first | omega | (dsimp only; omega)), ((szr_lit 1 (0 : Rat))).mono (by first | omega | (dsimp only; omega)), ((szr_lit 1 (0 : Rat))).mono (by first | omega | (dsimp only; omega)), (by first | omega | (dsimp only; omega))⟩ (fun v47 H47 r47 s47 hB47 => ?_)
          replace r47 : Rep K (G.plus dc16).M H47 (tbI C (filled (Kd.even) ((dlt 0 ic16)) ((0 : Rat)) ((0 : Rat)) ((0 : Rat)))) v47 := r47
          exact kc16 _ _ _ rfl (r47) (Ex.of (s46.trans s47)) hB47
      · have s48 := same_of e16
        have hB48 := be16
        have q16 := eq_mapRange (e := fun i => tbI C (unitT Kd.even i)) l16 p16
        have r48 : Rep K G.M He16 (.lst ((units Kd.even).map (tbI C))) vd16 := by rw [q16] at r16; exact r16
        exact k _ _ _ rfl (r48) (s41.trans s48) hB48
def sp_stays (K : PySem.W.Frag) (C : Addr) : Sp := spF K (α := Kd × Tb × Kd × Nat) (fun x => [.str ((kdS x.1)), tbI C (x.2.1), .str ((kdS x.2.2.1))]) (fun x => SzT x.2.2.2 x.2.1 ∧ 1 ≤ x.2.2.2 ∧ 2 * x.2.2.2 + 4 ≤ 8000) (fun x => (.bl ((staysB x.1 x.2.1 x.2.2.1)) : D))
theorem has_stays {C : Addr} (T : Tx K mg) (Y : TabTx K mg w C) : ∃ f fd, Fun K "stays" "stays" s_stays f fd ∧ mg "stays" = some (.ref f) ∧ Binds K fd ["kind", "table", "other"] [] ∧ FnOk P w K mg base CX0 8 f fd ["kind", "table", "other"] (sp_stays K C) := by
  obtain ⟨f, fd, F, M⟩ := T.stays
  obtain ⟨f_fits, fd_fits, F_fits, M_fits, B_fits, G_fits⟩ := has_fits (P := P) (w := w) (base := base) T Y
  obtain ⟨f__units, fd__units, F__units, M__units, B__units, G__units⟩ := has__units (P := P) (w := w) (base := base) T Y
  obtain ⟨f_Table___mul__, fd_Table___mul__, F_Table___mul__, M_Table___mul__, B_Table___mul__, G_Table___mul__⟩ := has_Table___mul__ (P := P) (w := w) (base := base) T Y
  refine ⟨f, fd, F, M, F.binds (ps := ["kind", "table", "other"]) (fun _ _ _ _ _ _ us hl => match us, hl with | [_, _, _], _ => rfl), F.ok sc_stays (fun vs H Q E h => ?_) (fun cdv A outer s H vs Q E hr h => ?_)⟩
  · obtain ⟨G, x, hB, r, hp, q⟩ := h; rw [r.len]; rfl
  · obtain ⟨G, ⟨kd, t, o, n⟩, hB, r, ⟨ht, hn1, hn⟩, k⟩ := h
    refine ⟨_, (pss_one (ps_ret (pe_callB (cr_all (by rfl)) (by rfl) T.all (by decide +kernel) (pa_cons (pe_lc (own := [("unit", 3)]) (g := gName 3) (tt := tYes) (by rfl) sc_stays.nd (pi_listK (K := K) (pe_call G__units (hr.mono (by decide)) (by rfl) M__units F__units.kp B__units .nil pass0 (pa_cons (pv 0) pa_nil))) (blkOk_by (own := [("unit", 3)]) (N := ["kind", "table", "other", "unit"]) (sc := (defScope s_stays)) (by decide +kernel)) (fun _ _ _ _ _ => pg_name (i := 3) sc_stays.nd rfl (.inl rfl)) (fun _ _ _ _ _ => pts_nil) (fun _ _ _ _ _ => (pe_call G_fits (hr.mono (by decide)) (by rfl) M_fits F_fits.kp B_fits .nil pass0 (pa_cons (pv 2) (pa_cons (pe_op (op_own G_Table___mul__ (hr.mono (by decide)) B_Table___mul__ pass0 Y.first M_Table___mul__.1 M_Table___mul__.2) (pv 3) (pv 1)) pa_nil))))) pa_nil)))), ?_⟩
    replace ht : SzT n t := ht
    replace hn1 : 1 ≤ n := hn1
    replace hn : 2 * n + 4 ≤ 8000 := hn
    replace k : ∀ d v H', d = (.bl ((staysB kd t o)) : D) → Rep K G.M H' d v → Same H H' → G.B H' → Q v H' := k
    obtain ⟨v0_0, _, rfl, r0_0, rt0⟩ := cons_of r
    replace r0_0 : Rep K G.M H (.str ((kdS kd))) v0_0 := r0_0
    obtain rfl := str_of r0_0
    obtain ⟨v0_1, _, rfl, r0_1, rt1⟩ := cons_of rt0
    replace r0_1 : Rep K G.M H (tbI C (t)) v0_1 := r0_1
    obtain ⟨v0_2, _, rfl, r0_2, rt2⟩ := cons_of rt1
    replace r0_2 : Rep K G.M H (.str ((kdS o))) v0_2 := r0_2
    obtain rfl := str_of r0_2
    obtain rfl := nil_of rt2
    with_reducible refine k_ret ?_
    with_reducible refine k_cb ?_
    with_reducible refine k_argX ?_
    with_reducible refine k_lcl ?_
    with_reducible refine k_call ?_
    refine k_arg (val_var rfl) ?_
    with_reducible refine k_nil ?_
    refine k_spF kd hB (rcons (rstr _) (rnil (K := K))) trivial (fun v1 H1 r1 s1 hB1 => ?_)
    replace r1 : Rep K G.M H1 (.lst ((units (kd)).map (tbI C))) v1 := r1
    refine k_lcLE (K := K) (j := 3) (vs := [3]) (noM) (fun _ m => m.elim) (by rw [List.length_map]; exact units_len _) hB1 (r1) (fun i x => ∀ a, (units kd)[i]? = some a → x = .bl (fitsB o (mulT a (t)))) (by intro _; rfl) (fun dc1 ic1 x1 w1 Hc1 hic1 nc1 hBc1 ec1 rx1 Qc1 kc1 => ?_) (fun ds1 vd1 He1 l1 p1 r1 e1 be1 => ?_)
    · have hB2 := Bg.enterB hB1 nc1
      have nd2 := nc1
      have hB3 := hBc1
      have e3 := ec1
      obtain ⟨u1, hu1, rfl, zu1⟩ := units_get hic1
      with_reducible refine k_call ?_
      refine k_arg (val_var rfl) ?_
      with_reducible refine k_argX ?_
      with_reducible refine k_opX ?_
      refine k_val (val_var rfl) ?_
      refine k_val (val_var rfl) ?_
      have q2 := (((r0_1.up hB (Ex.of s1)).enter hB1 nd2).up hB2 e3)
      refine f_own (rx1) (q2) ?_
      have zt3a : SzT 1 (u1) := zu1
      have zt3b : SzT n (t) := ht
      have zt3 : SzT (2 * 1 + 2 * n + 1) (mulT (u1) (t)) := szT_mul zt3a zt3b (by first | omega | (dsimp only; omega))
      refine k_spF ((u1).a, (u1).b, (u1).c, (u1).d, (t).a, (t).b, (t).c, (t).d, 1, n) hB3 (rcons (rx1) (rcons (q2) (rnil (K := K)))) ⟨zt3a.1, zt3a.2.1, zt3a.2.2.1, zt3a.2.2.2, zt3b.1, zt3b.2.1, zt3b.2.2.1, zt3b.2.2.2, (by first | omega | (dsimp only; omega))⟩ (fun v4 H4 r4 s4 hB4 => ?_)
      replace r4 : Rep K (G.plus dc1).M H4 (tbI C (mulT (u1) (t))) v4 := r4
      with_reducible refine k_nil ?_
      refine k_spF (o, mulT (u1) (t), (2 * 1 + 2 * n + 1)) hB4 (rcons (rstr _) (rcons (r4) (rnil (K := K)))) ⟨zt3, (by first | omega | (dsimp only; omega)), (by first | omega | (dsimp only; omega))⟩ (fun v5 H5 r5 s5 hB5 => ?_)
      obtain rfl := bl_of (b := (fitsB (o) (mulT (u1) (t)))) r5
      exact kc1 _ _ _ (fun a ha => by rw [hu1] at ha; cases ha; rfl) (rbl _) (Ex.of (s4.trans s5)) hB5
    · have s6 := same_of e1
      have hB6 := be1
      have q1 := eq_map (xs := units kd) (e := fun a => .bl (fitsB o (mulT a (t)))) (by rw [l1, List.length_map]) p1
      have r6 : Rep K G.M He1 (.lst (((units kd).map (fun a => fitsB o (mulT a (t)))).map .bl)) vd1 := by rw [q1] at r1; rw [List.map_map]; exact r1
      with_reducible refine k_nil ?_
      refine f_all (bs := ((units kd).map (fun a => fitsB o (mulT a (t))))) (r6) all_units ?_
      exact k _ _ _ rfl (rbl _) (s1.trans s6) hB6
def sp_is_narrower (K : PySem.W.Frag) (C : Addr) : Sp := spF K (α := Kd × Kd) (fun x => [.str ((kdS x.1)), .str ((kdS x.2))]) (fun x => True) (fun x => (.bl ((narrowL x.1 x.2)) : D))
theorem has_is_narrower {C : Addr} (T : Tx K mg) (Y : TabTx K mg w C) : ∃ f fd, Fun K "is_narrower" "is_narrower" s_is_narrower f fd ∧ mg "is_narrower" = some (.ref f) ∧ Binds K fd ["kind", "other"] [] ∧ FnOk P w K mg base CX0 9 f fd ["kind", "other"] (sp_is_narrower K C) := by
  obtain ⟨f, fd, F, M⟩ := T.is_narrower
  obtain ⟨f_stays, fd_stays, F_stays, M_stays, B_stays, G_stays⟩ := has_stays (P := P) (w := w) (base := base) T Y
  obtain ⟨f_Table_identity, fd_Table_identity, F_Table_identity, M_Table_identity, B_Table_identity, G_Table_identity⟩ := has_Table_identity (P := P) (w := w) (base := base) T Y
  refine ⟨f, fd, F, M, F.binds (ps := ["kind", "other"]) (fun _ _ _ _ _ _ us hl => match us, hl with | [_, _], _ => rfl), F.ok sc_is_narrower (fun vs H Q E h => ?_) (fun cdv A outer s H vs Q E hr h => ?_)⟩
  · obtain ⟨G, x, hB, r, hp, q⟩ := h; rw [r.len]; rfl
  · obtain ⟨G, ⟨kd, o⟩, hB, r, _, k⟩ := h
    refine ⟨_, (pss_cons (ps_if (PW.pt (pw_and (pt_cmpR op_eq (pv 0) pe_str (nomark _)) (pw_and1 (pt_cmpR op_eq (pv 1) pe_str (nomark _))))) (pss_one (ps_ret pe_bl)) pss_nil) (pss_one (ps_ret (pe_call G_stays (hr.mono (by decide)) (by rfl) M_stays F_stays.kp B_stays .nil pass0 (pa_cons (pv 0) (pa_cons (pe_static0 (pe_glob (v := .ref C) (by rfl) Y.g rfl) M_Table_identity G_Table_identity (hr.mono (by decide)) B_Table_identity pass0) (pa_cons (pv 1) pa_nil))))))), ?_⟩
    cases kd
    · replace k : ∀ d v H', d = (.bl ((narrowL Kd.slanted o)) : D) → Rep K G.M H' d v → Same H H' → G.B H' → Q v H' := k
      obtain ⟨v0_0, _, rfl, r0_0, rt0⟩ := cons_of r
      replace r0_0 : Rep K G.M H (.str (("slanted" : Str))) v0_0 := r0_0
      obtain rfl := str_of r0_0
      obtain ⟨v0_1, _, rfl, r0_1, rt1⟩ := cons_of rt0
      replace r0_1 : Rep K G.M H (.str ((kdS o))) v0_1 := r0_1
      obtain rfl := str_of r0_1
      obtain rfl := nil_of rt1
      with_reducible refine k_seq ?_
      with_reducible refine k_ifX ?_
      with_reducible refine k_and ?_
      with_reducible refine k_T ?_
      refine k_val (v_eqSf (val_var rfl) val_c) ?_
      refine ⟨_, rfl, ?_⟩
      refine iteF ?_
      refine iteF ?_
      with_reducible refine k_next ?_
      with_reducible refine k_ret ?_
      with_reducible refine k_call ?_
      refine k_arg (val_var rfl) ?_
      with_reducible refine k_argX ?_
      with_reducible refine k_stat ?_
      refine k_val val_c ?_
      refine ⟨rfl, ?_⟩
      refine k_spF () hB (rnil (K := K)) trivial (fun v1 H1 r1 s1 hB1 => ?_)
      replace r1 : Rep K G.M H1 (tbI C (oneT)) v1 := r1
      refine k_arg (val_var rfl) ?_
      with_reducible refine k_nil ?_
      refine k_spF (Kd.slanted, oneT, o, 1) hB1 (rcons (rstr _) (rcons (r1) (rcons (rstr _) (rnil (K := K))))) ⟨(⟨szr_lit 1 _, szr_lit 1 _, szr_lit 1 _, szr_lit 1 _⟩ : SzT 1 oneT), (by first | omega | (dsimp only; omega)), (by first | omega | (dsimp only; omega))⟩ (fun v2 H2 r2 s2 hB2 => ?_)
      obtain rfl := bl_of (b := (staysB (Kd.slanted) (oneT) (o))) r2
      exact k _ _ _ ((congrArg D.bl (if_neg (fun h => nomatch h.1)).symm : D.bl (staysB Kd.slanted oneT o) = D.bl (narrowP Kd.slanted o)).trans (congrArg D.bl (narrow_eq Kd.slanted o))) (rbl _) (s1.trans s2) hB2
    · replace k : ∀ d v H', d = (.bl ((narrowL Kd.turned o)) : D) → Rep K G.M H' d v → Same H H' → G.B H' → Q v H' := k
      obtain ⟨v0_0, _, rfl, r0_0, rt0⟩ := cons_of r
      replace r0_0 : Rep K G.M H (.str (("turned" : Str))) v0_0 := r0_0
      obtain rfl := str_of r0_0
      obtain ⟨v0_1, _, rfl, r0_1, rt1⟩ := cons_of rt0
      replace r0_1 : Rep K G.M H (.str ((kdS o))) v0_1 := r0_1
      obtain rfl := str_of r0_1
      obtain rfl := nil_of rt1
      with_reducible refine k_seq ?_
      with_reducible refine k_ifX ?_
      with_reducible refine k_and ?_
      with_reducible refine k_T ?_
      refine k_val (v_eqSf (val_var rfl) val_c) ?_
      refine ⟨_, rfl, ?_⟩
      refine iteF ?_
      refine iteF ?_
      with_reducible refine k_next ?_
      with_reducible refine k_ret ?_
      with_reducible refine k_call ?_
      refine k_arg (val_var rfl) ?_
      with_reducible refine k_argX ?_
      with_reducible refine k_stat ?_
      refine k_val val_c ?_
      refine ⟨rfl, ?_⟩
      refine k_spF () hB (rnil (K := K)) trivial (fun v3 H3 r3 s3 hB3 => ?_)
      replace r3 : Rep K G.M H3 (tbI C (oneT)) v3 := r3
      refine k_arg (val_var rfl) ?_
      with_reducible refine k_nil ?_
      refine k_spF (Kd.turned, oneT, o, 1) hB3 (rcons (rstr _) (rcons (r3) (rcons (rstr _) (rnil (K := K))))) ⟨(⟨szr_lit 1 _, szr_lit 1 _, szr_lit 1 _, szr_lit 1 _⟩ : SzT 1 oneT), (by first | omega | (dsimp only; omega)), (by first | omega | (dsimp only; omega))⟩ (fun v4 H4 r4 s4 hB4 => ?_)
      obtain rfl := bl_of (b := (staysB (Kd.turned) (oneT) (o))) r4
      exact k _ _ _ ((congrArg D.bl (if_neg (fun h => nomatch h.1)).symm : D.bl (staysB Kd.turned oneT o) = D.bl (narrowP Kd.turned o)).trans (congrArg D.bl (narrow_eq Kd.turned o))) (rbl _) (s3.trans s4) hB4
    · replace k : ∀ d v H', d = (.bl ((narrowL Kd.mirrored o)) : D) → Rep K G.M H' d v → Same H H' → G.B H' → Q v H' := k
      obtain ⟨v0_0, _, rfl, r0_0, rt0⟩ := cons_of r
      replace r0_0 : Rep K G.M H (.str (("mirrored" : Str))) v0_0 := r0_0
      obtain rfl := str_of r0_0
      obtain ⟨v0_1, _, rfl, r0_1, rt1⟩ := cons_of rt0
      replace r0_1 : Rep K G.M H (.str ((kdS o))) v0_1 := r0_1
      obtain rfl := str_of r0_1
      obtain rfl := nil_of rt1
      with_reducible refine k_seq ?_
      with_reducible refine k_ifX ?_
      with_reducible refine k_and ?_
      with_reducible refine k_T ?_
      refine k_val (v_eqSf (val_var rfl) val_c) ?_
      refine ⟨_, rfl, ?_⟩
      refine iteF ?_
      refine iteF ?_
      with_reducible refine k_next ?_
      with_reducible refine k_ret ?_
      with_reducible refine k_call ?_
      refine k_arg (val_var rfl) ?_
      with_reducible refine k_argX ?_
      with_reducible refine k_stat ?_
      refine k_val val_c ?_
      refine ⟨rfl, ?_⟩
      refine k_spF () hB (rnil (K := K)) trivial (fun v5 H5 r5 s5 hB5 => ?_)
      replace r5 : Rep K G.M H5 (tbI C (oneT)) v5 := r5
      refine k_arg (val_var rfl) ?_
      with_reducible refine k_nil ?_
      refine k_spF (Kd.mirrored, oneT, o, 1) hB5 (rcons (rstr _) (rcons (r5) (rcons (rstr _) (rnil (K := K))))) ⟨(⟨szr_lit 1 _, szr_lit 1 _, szr_lit 1 _, szr_lit 1 _⟩ : SzT 1 oneT), (by first | omega | (dsimp only; omega)), (by first | omega | (dsimp only; omega))⟩ (fun v6 H6 r6 s6 hB6 => ?_)
      obtain rfl := bl_of (b := (staysB (Kd.mirrored) (oneT) (o))) r6
      exact k _ _ _ ((congrArg D.bl (if_neg (fun h => nomatch h.1)).symm : D.bl (staysB Kd.mirrored oneT o) = D.bl (narrowP Kd.mirrored o)).trans (congrArg D.bl (narrow_eq Kd.mirrored o))) (rbl _) (s5.trans s6) hB6
    · replace k : ∀ d v H', d = (.bl ((narrowL Kd.stretched o)) : D) → Rep K G.M H' d v → Same H H' → G.B H' → Q v H' := k
      obtain ⟨v0_0, _, rfl, r0_0, rt0⟩ := cons_of r
      replace r0_0 : Rep K G.M H (.str (("stretched" : Str))) v0_0 := r0_0
      obtain rfl := str_of r0_0
      obtain ⟨v0_1, _, rfl, r0_1, rt1⟩ := cons_of rt0
      replace r0_1 : Rep K G.M H (.str ((kdS o))) v0_1 := r0_1
      obtain rfl := str_of r0_1
      obtain rfl := nil_of rt1
      with_reducible refine k_seq ?_
      with_reducible refine k_ifX ?_
      with_reducible refine k_and ?_
      with_reducible refine k_T ?_
      refine k_val (v_eqSf (val_var rfl) val_c) ?_
      refine ⟨_, rfl, ?_⟩
      refine iteF ?_
      refine iteF ?_
      with_reducible refine k_next ?_
      with_reducible refine k_ret ?_
      with_reducible refine k_call ?_
      refine k_arg (val_var rfl) ?_
      with_reducible refine k_argX ?_
      with_reducible refine k_stat ?_
      refine k_val val_c ?_
      refine ⟨rfl, ?_⟩
      refine k_spF () hB (rnil (K := K)) trivial (fun v7 H7 r7 s7 hB7 => ?_)
      replace r7 : Rep K G.M H7 (tbI C (oneT)) v7 := r7
      refine k_arg (val_var rfl) ?_
      with_reducible refine k_nil ?_
      refine k_spF (Kd.stretched, oneT, o, 1) hB7 (rcons (rstr _) (rcons (r7) (rcons (rstr _) (rnil (K := K))))) ⟨(⟨szr_lit 1 _, szr_lit 1 _, szr_lit 1 _, szr_lit 1 _⟩ : SzT 1 oneT), (by first | omega | (dsimp only; omega)), (by first | omega | (dsimp only; omega))⟩ (fun v8 H8 r8 s8 hB8 => ?_)
      obtain rfl := bl_of (b := (staysB (Kd.stretched) (oneT) (o))) r8
      exact k _ _ _ ((congrArg D.bl (if_neg (fun h => nomatch h.1)).symm : D.bl (staysB Kd.stretched oneT o) = D.bl (narrowP Kd.stretched o)).trans (congrArg D.bl (narrow_eq Kd.stretched o))) (rbl _) (s7.trans s8) hB8
    · replace k : ∀ d v H', d = (.bl ((narrowL Kd.sized o)) : D) → Rep K G.M H' d v → Same H H' → G.B H' → Q v H' := k
      obtain ⟨v0_0, _, rfl, r0_0, rt0⟩ := cons_of r
      replace r0_0 : Rep K G.M H (.str (("sized" : Str))) v0_0 := r0_0
      obtain rfl := str_of r0_0
      obtain ⟨v0_1, _, rfl, r0_1, rt1⟩ := cons_of rt0
      replace r0_1 : Rep K G.M H (.str ((kdS o))) v0_1 := r0_1
      obtain rfl := str_of r0_1
      obtain rfl := nil_of rt1
      with_reducible refine k_seq ?_
      with_reducible refine k_ifX ?_
      with_reducible refine k_and ?_
      with_reducible refine k_T ?_
      refine k_val (v_eqSt (val_var rfl) val_c) ?_
      refine ⟨_, rfl, ?_⟩
      refine iteT ?_
      with_reducible refine k_T ?_
      refine k_val (v_eqS (val_var rfl) val_c) ?_
      refine ⟨_, rfl, ?_⟩
      refine k_ite (fun c1 => ?_) (fun c1 => ?_)
      · with_reducible refine k_ret ?_
        refine k_val val_c ?_
        exact k _ _ _ ((congrArg D.bl (if_pos ⟨rfl, even_of c1⟩).symm : D.bl false = D.bl (narrowP Kd.sized o)).trans (congrArg D.bl (narrow_eq Kd.sized o))) (rbl _) (Same.refl _) hB
      · with_reducible refine k_next ?_
        with_reducible refine k_ret ?_
        with_reducible refine k_call ?_
        refine k_arg (val_var rfl) ?_
        with_reducible refine k_argX ?_
        with_reducible refine k_stat ?_
        refine k_val val_c ?_
        refine ⟨rfl, ?_⟩
        refine k_spF () hB (rnil (K := K)) trivial (fun v9 H9 r9 s9 hB9 => ?_)
        replace r9 : Rep K G.M H9 (tbI C (oneT)) v9 := r9
        refine k_arg (val_var rfl) ?_
        with_reducible refine k_nil ?_
        refine k_spF (Kd.sized, oneT, o, 1) hB9 (rcons (rstr _) (rcons (r9) (rcons (rstr _) (rnil (K := K))))) ⟨(⟨szr_lit 1 _, szr_lit 1 _, szr_lit 1 _, szr_lit 1 _⟩ : SzT 1 oneT), (by first | omega | (dsimp only; omega)), (by first | omega | (dsimp only; omega))⟩ (fun v10 H10 r10 s10 hB10 => ?_)
        obtain rfl := bl_of (b := (staysB (Kd.sized) (oneT) (o))) r10
        exact k _ _ _ ((congrArg D.bl (if_neg (fun h => not_even c1 h.2)).symm : D.bl (staysB Kd.sized oneT o) = D.bl (narrowP Kd.sized o)).trans (congrArg D.bl (narrow_eq Kd.sized o))) (rbl _) (s9.trans s10) hB10
    · replace k : ∀ d v H', d = (.bl ((narrowL Kd.even o)) : D) → Rep K G.M H' d v → Same H H' → G.B H' → Q v H' := k
      obtain ⟨v0_0, _, rfl, r0_0, rt0⟩ := cons_of r
      replace r0_0 : Rep K G.M H (.str (("even" : Str))) v0_0 := r0_0
      obtain rfl := str_of r0_0
      obtain ⟨v0_1, _, rfl, r0_1, rt1⟩ := cons_of rt0
      replace r0_1 : Rep K G.M H (.str ((kdS o))) v0_1 := r0_1
      obtain rfl := str_of r0_1
      obtain rfl := nil_of rt1
      with_reducible refine k_seq ?_
      with_reducible refine k_ifX ?_
      with_reducible refine k_and ?_
      with_reducible refine k_T ?_
      refine k_val (v_eqSf (val_var rfl) val_c) ?_
      refine ⟨_, rfl, ?_⟩
      refine iteF ?_
      refine iteF ?_
      with_reducible refine k_next ?_
      with_reducible refine k_ret ?_
      with_reducible refine k_call ?_
      refine k_arg (val_var rfl) ?_
      with_reducible refine k_argX ?_
      with_reducible refine k_stat ?_
      refine k_val val_c ?_
      refine ⟨rfl, ?_⟩
      refine k_spF () hB (rnil (K := K)) trivial (fun v11 H11 r11 s11 hB11 => ?_)
      replace r11 : Rep K G.M H11 (tbI C (oneT)) v11 := r11
      refine k_arg (val_var rfl) ?_
      with_reducible refine k_nil ?_
      refine k_spF (Kd.even, oneT, o, 1) hB11 (rcons (rstr _) (rcons (r11) (rcons (rstr _) (rnil (K := K))))) ⟨(⟨szr_lit 1 _, szr_lit 1 _, szr_lit 1 _, szr_lit 1 _⟩ : SzT 1 oneT), (by first | omega | (dsimp only; omega)), (by first | omega | (dsimp only; omega))⟩ (fun v12 H12 r12 s12 hB12 => ?_)
      obtain rfl := bl_of (b := (staysB (Kd.even) (oneT) (o))) r12
      exact k _ _ _ ((congrArg D.bl (if_neg (fun h => nomatch h.1)).symm : D.bl (staysB Kd.even oneT o) = D.bl (narrowP Kd.even o)).trans (congrArg D.bl (narrow_eq Kd.even o))) (rbl _) (s11.trans s12) hB12
end
end Px

namespace Px
open PySem PySem.Spec PyProof.Rows L2
section
variable {P : Program} {w : World} {K : PySem.W.Frag} {mg : Str → Option Value} {base : Heap}
def sp__law_led (K : PySem.W.Frag) : Sp := spF K (α := Tb × Rat × Rat × Nat × Nat) (fun x => [tbT (x.1), .tup [(fr (x.2.1)), (fr (x.2.2.1))]]) (fun x => SzT x.2.2.2.1 x.1 ∧ SzR x.2.2.2.2 x.2.1 ∧ SzR x.2.2.2.2 x.2.2.1 ∧ 2 * x.2.2.2.1 + 2 * x.2.2.2.2 + 1 ≤ 8000) (fun x => (.tup [(fr ((((x.1).a * x.2.1) + ((x.1).b * x.2.2.1)))), (fr ((((x.1).c * x.2.1) + ((x.1).d * x.2.2.1))))] : D))
theorem has__law_led (T : Tx K mg) : Has P w K mg base CX0 "_law_led" s__law_led ["_law_t", "_law_v"] 4 (sp__law_led K) := by
  obtain ⟨f, fd, F, M⟩ := T._law_led
  obtain ⟨f__law_sum, fd__law_sum, F__law_sum, M__law_sum, B__law_sum, G__law_sum⟩ := has__law_sum (P := P) (w := w) (base := base) T
  obtain ⟨f__law_product, fd__law_product, F__law_product, M__law_product, B__law_product, G__law_product⟩ := has__law_product (P := P) (w := w) (base := base) T
  refine ⟨f, fd, F, M, F.binds (ps := ["_law_t", "_law_v"]) (fun _ _ _ _ _ _ us hl => match us, hl with | [_, _], _ => rfl), F.ok sc__law_led (fun vs H Q E h => ?_) (fun cdv A outer s H vs Q E hr h => ?_)⟩
  · obtain ⟨G, x, hB, r, hp, q⟩ := h; rw [r.len]; rfl
  · obtain ⟨G, ⟨t, p, qq, n, m⟩, hB, r, ⟨ht, hp, hq, hn⟩, k⟩ := h
    refine ⟨_, (pss_cons (ps_set (i := 2) sc__law_led.nd rfl (.inl rfl) (pe_call G__law_sum (hr.mono (by decide)) (by rfl) M__law_sum F__law_sum.kp B__law_sum .nil pass0 (pa_cons (pe_call G__law_product (hr.mono (by decide)) (by rfl) M__law_product F__law_product.kp B__law_product .nil pass0 (pa_cons (pe_ix (ix_tupK (K := K)) (pv 0) pe_int (fun _ _ => rfl)) (pa_cons (pe_ix (ix_tupK (K := K)) (pv 1) pe_int (fun _ _ => rfl)) pa_nil))) (pa_cons (pe_call G__law_product (hr.mono (by decide)) (by rfl) M__law_product F__law_product.kp B__law_product .nil pass0 (pa_cons (pe_ix (ix_tupK (K := K)) (pv 0) pe_int (fun _ _ => rfl)) (pa_cons (pe_ix (ix_tupK (K := K)) (pv 1) pe_int (fun _ _ => rfl)) pa_nil))) pa_nil)))) (pss_one (ps_ret (pe_tup (pa_cons (pv 2) (pa_cons (pe_call G__law_sum (hr.mono (by decide)) (by rfl) M__law_sum F__law_sum.kp B__law_sum .nil pass0 (pa_cons (pe_call G__law_product (hr.mono (by decide)) (by rfl) M__law_product F__law_product.kp B__law_product .nil pass0 (pa_cons (pe_ix (ix_tupK (K := K)) (pv 0) pe_int (fun _ _ => rfl)) (pa_cons (pe_ix (ix_tupK (K := K)) (pv 1) pe_int (fun _ _ => rfl)) pa_nil))) (pa_cons (pe_call G__law_product (hr.mono (by decide)) (by rfl) M__law_product F__law_product.kp B__law_product .nil pass0 (pa_cons (pe_ix (ix_tupK (K := K)) (pv 0) pe_int (fun _ _ => rfl)) (pa_cons (pe_ix (ix_tupK (K := K)) (pv 1) pe_int (fun _ _ => rfl)) pa_nil))) pa_nil))) pa_nil)))))), ?_⟩
    replace ht : SzT n t := ht
    replace hp : SzR m p := hp
    replace hq : SzR m qq := hq
    replace hn : 2 * n + 2 * m + 1 ≤ 8000 := hn
    replace k : ∀ d v H', d = (.tup [(fr ((((t).a * p) + ((t).b * qq)))), (fr ((((t).c * p) + ((t).d * qq))))] : D) → Rep K G.M H' d v → Same H H' → G.B H' → Q v H' := k
    obtain ⟨v0_0, _, rfl, r0_0, rt0⟩ := cons_of r
    replace r0_0 : Rep K G.M H (tbT (t)) v0_0 := r0_0
    obtain ⟨v0_1, _, rfl, r0_1, rt1⟩ := cons_of rt0
    replace r0_1 : Rep K G.M H (.tup [(fr (p)), (fr (qq))]) v0_1 := r0_1
    obtain rfl := nil_of rt1
    with_reducible refine k_seq ?_
    with_reducible refine k_set ?_
    with_reducible refine k_call ?_
    with_reducible refine k_argX ?_
    with_reducible refine k_call ?_
    with_reducible refine k_argX ?_
    with_reducible refine k_opX ?_
    refine k_val (val_var rfl) ?_
    refine k_val val_c ?_
    refine f_ixT (k := 0) (r0_0) rfl (fun w1 rw1 => ?_)
    with_reducible refine k_argX ?_
    with_reducible refine k_opX ?_
    refine k_val (val_var rfl) ?_
    refine k_val val_c ?_
    refine f_ixT (k := 0) (r0_1) rfl (fun w2 rw2 => ?_)
    with_reducible refine k_nil ?_
    refine k_spF ((t).a, p, n, m) hB (rcons (rw1) (rcons (rw2) (rnil (K := K)))) ⟨(ht).1, hp, (by first | omega | (dsimp only; omega))⟩ (fun v1 H1 r1 s1 hB1 => ?_)
    replace r1 : Rep K G.M H1 ((fr (((t).a * p)))) v1 := r1
    have z1 : SzR ((n + m) + 0) (((t).a * p)) := (szr_mul (ht).1 hp (by omega))
    with_reducible refine k_argX ?_
    with_reducible refine k_call ?_
    with_reducible refine k_argX ?_
    with_reducible refine k_opX ?_
    refine k_val (val_var rfl) ?_
    refine k_val val_c ?_
    refine f_ixT (k := 1) ((r0_0.up hB (Ex.of s1))) rfl (fun w3 rw3 => ?_)
    with_reducible refine k_argX ?_
    with_reducible refine k_opX ?_
    refine k_val (val_var rfl) ?_
    refine k_val val_c ?_
    refine f_ixT (k := 1) ((r0_1.up hB (Ex.of s1))) rfl (fun w4 rw4 => ?_)
    with_reducible refine k_nil ?_
    refine k_spF ((t).b, qq, n, m) hB1 (rcons (rw3) (rcons (rw4) (rnil (K := K)))) ⟨(ht).2.1, hq, (by first | omega | (dsimp only; omega))⟩ (fun v2 H2 r2 s2 hB2 => ?_)
    replace r2 : Rep K G.M H2 ((fr (((t).b * qq)))) v2 := r2
    have z2 : SzR ((n + m) + 0) (((t).b * qq)) := (szr_mul (ht).2.1 hq (by omega))
    with_reducible refine k_nil ?_
    refine k_spF (((t).a * p), ((t).b * qq), ((n + m) + 0), ((n + m) + 0)) hB2 (rcons ((r1.up hB1 (Ex.of s2))) (rcons (r2) (rnil (K := K)))) ⟨z1, z2, (by first | omega | (dsimp only; omega))⟩ (fun v3 H3 r3 s3 hB3 => ?_)
    replace r3 : Rep K G.M H3 ((fr ((((t).a * p) + ((t).b * qq))))) v3 := r3
    have z3 : SzR ((((n + m) + 0) + ((n + m) + 0)) + 1) ((((t).a * p) + ((t).b * qq))) := (szr_add z1 z2 (by omega))
    with_reducible refine k_ret ?_
    with_reducible refine k_tup ?_
    refine k_arg (val_var rfl) ?_
    with_reducible refine k_argX ?_
    with_reducible refine k_call ?_
    with_reducible refine k_argX ?_
    with_reducible refine k_call ?_
    with_reducible refine k_argX ?_
    with_reducible refine k_opX ?_
    refine k_val (val_var rfl) ?_
    refine k_val val_c ?_
    have q6 := (((r0_0.up hB (Ex.of s1)).up hB1 (Ex.of s2)).up hB2 (Ex.of s3))
    refine f_ixT (k := 2) (q6) rfl (fun w5 rw5 => ?_)
    with_reducible refine k_argX ?_
    with_reducible refine k_opX ?_
    refine k_val (val_var rfl) ?_
    refine k_val val_c ?_
    have q8 := (((r0_1.up hB (Ex.of s1)).up hB1 (Ex.of s2)).up hB2 (Ex.of s3))
    refine f_ixT (k := 0) (q8) rfl (fun w7 rw7 => ?_)
    with_reducible refine k_nil ?_
    refine k_spF ((t).c, p, n, m) hB3 (rcons (rw5) (rcons (rw7) (rnil (K := K)))) ⟨(ht).2.2.1, hp, (by first | omega | (dsimp only; omega))⟩ (fun v4 H4 r4 s4 hB4 => ?_)
    replace r4 : Rep K G.M H4 ((fr (((t).c * p)))) v4 := r4
    have z4 : SzR ((n + m) + 0) (((t).c * p)) := (szr_mul (ht).2.2.1 hp (by omega))
    with_reducible refine k_argX ?_
    with_reducible refine k_call ?_
    with_reducible refine k_argX ?_
    with_reducible refine k_opX ?_
    refine k_val (val_var rfl) ?_
    refine k_val val_c ?_
    refine f_ixT (k := 3) ((q6.up hB3 (Ex.of s4))) rfl (fun w9 rw9 => ?_)
    with_reducible refine k_argX ?_
    with_reducible refine k_opX ?_
    refine k_val (val_var rfl) ?_
    refine k_val val_c ?_
    refine f_ixT (k := 1) ((q8.up hB3 (Ex.of s4))) rfl (fun w10 rw10 => ?_)
    with_reducible refine k_nil ?_
    refine k_spF ((t).d, qq, n, m) hB4 (rcons (rw9) (rcons (rw10) (rnil (K := K)))) ⟨(ht).2.2.2, hq, (by first | omega | (dsimp only; omega))⟩ (fun v5 H5 r5 s5 hB5 => ?_)
    replace r5 : Rep K G.M H5 ((fr (((t).d * qq)))) v5 := r5
    have z5 : SzR ((n + m) + 0) (((t).d * qq)) := (szr_mul (ht).2.2.2 hq (by omega))
    with_reducible refine k_nil ?_
    refine k_spF (((t).c * p), ((t).d * qq), ((n + m) + 0), ((n + m) + 0)) hB5 (rcons ((r4.up hB4 (Ex.of s5))) (rcons (r5) (rnil (K := K)))) ⟨z4, z5, (by first | omega | (dsimp only; omega))⟩ (fun v6 H6 r6 s6 hB6 => ?_)
    replace r6 : Rep K G.M H6 ((fr ((((t).c * p) + ((t).d * qq))))) v6 := r6
    have z6 : SzR ((((n + m) + 0) + ((n + m) + 0)) + 1) ((((t).c * p) + ((t).d * qq))) := (szr_add z4 z5 (by omega))
    with_reducible refine k_nil ?_
    have q11 := (((r3.up hB3 (Ex.of s4)).up hB4 (Ex.of s5)).up hB5 (Ex.of s6))
    refine k_tup_end hB6 (rcons (q11) (rcons (r6) (rnil (K := K)))) (fun v7 H7 r7 s7 hB7 => ?_)
    exact k _ _ _ rfl (r7) ((((((s1.trans s2).trans s3).trans s4).trans s5).trans s6).trans s7) hB7
def sp__law_after (K : PySem.W.Frag) : Sp := spF K (α := Tb × Tb × Nat × Nat) (fun x => [tbT (x.1), tbT (x.2.1)]) (fun x => SzT x.2.2.1 x.1 ∧ SzT x.2.2.2 x.2.1 ∧ 2 * x.2.2.1 + 2 * x.2.2.2 + 1 ≤ 8000) (fun x => (tbT (mulT x.1 x.2.1) : D))
theorem has__law_after (T : Tx K mg) : Has P w K mg base CX0 "_law_after" s__law_after ["_law_t", "_law_s"] 5 (sp__law_after K) := by
  obtain ⟨f, fd, F, M⟩ := T._law_after
  obtain ⟨f__law_led, fd__law_led, F__law_led, M__law_led, B__law_led, G__law_led⟩ := has__law_led (P := P) (w := w) (base := base) T
  refine ⟨f, fd, F, M, F.binds (ps := ["_law_t", "_law_s"]) (fun _ _ _ _ _ _ us hl => match us, hl with | [_, _], _ => rfl), F.ok sc__law_after (fun vs H Q E h => ?_) (fun cdv A outer s H vs Q E hr h => ?_)⟩
  · obtain ⟨G, x, hB, r, hp, q⟩ := h; rw [r.len]; rfl
  · obtain ⟨G, ⟨t, o, n, m⟩, hB, r, ⟨ht, hs, hn⟩, k⟩ := h
    refine ⟨_, (pss_cons (ps_par (i := 2) (j := 3) (by rfl) sc__law_after.nd rfl rfl (by decide) rfl rfl (pa_cons (pe_call G__law_led (hr.mono (by decide)) (by rfl) M__law_led F__law_led.kp B__law_led .nil pass0 (pa_cons (pv 0) (pa_cons (pe_tup (pa_cons (pe_ix (ix_tupK (K := K)) (pv 1) pe_int (fun _ _ => rfl)) (pa_cons (pe_ix (ix_tupK (K := K)) (pv 1) pe_int (fun _ _ => rfl)) pa_nil))) pa_nil))) (pa_cons (pe_call G__law_led (hr.mono (by decide)) (by rfl) M__law_led F__law_led.kp B__law_led .nil pass0 (pa_cons (pv 0) (pa_cons (pe_tup (pa_cons (pe_ix (ix_tupK (K := K)) (pv 1) pe_int (fun _ _ => rfl)) (pa_cons (pe_ix (ix_tupK (K := K)) (pv 1) pe_int (fun _ _ => rfl)) pa_nil))) pa_nil))) pa_nil)) (by rfl)) (pss_one (ps_ret (pe_tup (pa_cons (pe_ix (ix_tupK (K := K)) (pv 2) pe_int (fun _ _ => rfl)) (pa_cons (pe_ix (ix_tupK (K := K)) (pv 3) pe_int (fun _ _ => rfl)) (pa_cons (pe_ix (ix_tupK (K := K)) (pv 2) pe_int (fun _ _ => rfl)) (pa_cons (pe_ix (ix_tupK (K := K)) (pv 3) pe_int (fun _ _ => rfl)) pa_nil)))))))), ?_⟩
    replace ht : SzT n t := ht
    replace hs : SzT m o := hs
    replace hn : 2 * n + 2 * m + 1 ≤ 8000 := hn
    replace k : ∀ d v H', d = (tbT (mulT t o) : D) → Rep K G.M H' d v → Same H H' → G.B H' → Q v H' := k
    obtain ⟨v0_0, _, rfl, r0_0, rt0⟩ := cons_of r
    replace r0_0 : Rep K G.M H (tbT (t)) v0_0 := r0_0
    obtain ⟨v0_1, _, rfl, r0_1, rt1⟩ := cons_of rt0
    replace r0_1 : Rep K G.M H (tbT (o)) v0_1 := r0_1
    obtain rfl := nil_of rt1
    with_reducible refine k_seq ?_
    with_reducible refine k_par ?_
    with_reducible refine k_argX ?_
    with_reducible refine k_call ?_
    refine k_arg (val_var rfl) ?_
    with_reducible refine k_argX ?_
    with_reducible refine k_tup ?_
    with_reducible refine k_argX ?_
    with_reducible refine k_opX ?_
    refine k_val (val_var rfl) ?_
    refine k_val val_c ?_
    refine f_ixT (k := 0) (r0_1) rfl (fun w1 rw1 => ?_)
    with_reducible refine k_argX ?_
    with_reducible refine k_opX ?_
    refine k_val (val_var rfl) ?_
    refine k_val val_c ?_
    refine f_ixT (k := 2) (r0_1) rfl (fun w2 rw2 => ?_)
    with_reducible refine k_nil ?_
    refine k_tup_end hB (rcons (rw1) (rcons (rw2) (rnil (K := K)))) (fun v1 H1 r1 s1 hB1 => ?_)
    with_reducible refine k_nil ?_
    have zl3 : SzT n (t) := ht
    refine k_spF (t, (o).a, (o).c, n, m) hB1 (rcons ((r0_0.up hB (Ex.of s1))) (rcons (r1) (rnil (K := K)))) ⟨zl3, ((hs).1).mono (by first | omega | (dsimp only; omega)), ((hs).2.2.1).mono (by first | omega | (dsimp only; omega)), (by first | omega | (dsimp only; omega))⟩ (fun v2 H2 r2 s2 hB2 => ?_)
    replace r2 : Rep K G.M H2 (.tup [(fr ((((t).a * (o).a) + ((t).b * (o).c)))), (fr ((((t).c * (o).a) + ((t).d * (o).c))))]) v2 := r2
    have z2_0 : SzR (2 * n + 2 * m + 1) ((((t).a * (o).a) + ((t).b * (o).c))) := (szr_add (szr_mul zl3.1 (hs).1 (Nat.le_refl _)) (szr_mul zl3.2.1 (hs).2.2.1 (Nat.le_refl _)) (by omega))
    have z2_1 : SzR (2 * n + 2 * m + 1) ((((t).c * (o).a) + ((t).d * (o).c))) := (szr_add (szr_mul zl3.2.2.1 (hs).1 (Nat.le_refl _)) (szr_mul zl3.2.2.2 (hs).2.2.1 (Nat.le_refl _)) (by omega))
    with_reducible refine k_argX ?_
    with_reducible refine k_call ?_
    refine k_arg (val_var rfl) ?_
    with_reducible refine k_argX ?_
    with_reducible refine k_tup ?_
    with_reducible refine k_argX ?_
    with_reducible refine k_opX ?_
    refine k_val (val_var rfl) ?_
    refine k_val val_c ?_
    have q5 := ((r0_1.up hB (Ex.of s1)).up hB1 (Ex.of s2))
    refine f_ixT (k := 1) (q5) rfl (fun w4 rw4 => ?_)
    with_reducible refine k_argX ?_
    with_reducible refine k_opX ?_
    refine k_val (val_var rfl) ?_
    refine k_val val_c ?_
    refine f_ixT (k := 3) (q5) rfl (fun w6 rw6 => ?_)
    with_reducible refine k_nil ?_
    refine k_tup_end hB2 (rcons (rw4) (rcons (rw6) (rnil (K := K)))) (fun v3 H3 r3 s3 hB3 => ?_)
    with_reducible refine k_nil ?_
    have zl7 : SzT n (t) := ht
    have q8 := (((r0_0.up hB (Ex.of s1)).up hB1 (Ex.of s2)).up hB2 (Ex.of s3))
    refine k_spF (t, (o).b, (o).d, n, m) hB3 (rcons (q8) (rcons (r3) (rnil (K := K)))) ⟨zl7, ((hs).2.1).mono (by first | omega | (dsimp only; omega)), ((hs).2.2.2).mono (by first | omega | (dsimp only; omega)), (by first | omega | (dsimp only; omega))⟩ (fun v4 H4 r4 s4 hB4 => ?_)
    replace r4 : Rep K G.M H4 (.tup [(fr ((((t).a * (o).b) + ((t).b * (o).d)))), (fr ((((t).c * (o).b) + ((t).d * (o).d))))]) v4 := r4
    have z4_0 : SzR (2 * n + 2 * m + 1) ((((t).a * (o).b) + ((t).b * (o).d))) := (szr_add (szr_mul zl7.1 (hs).2.1 (Nat.le_refl _)) (szr_mul zl7.2.1 (hs).2.2.2 (Nat.le_refl _)) (by omega))
    have z4_1 : SzR (2 * n + 2 * m + 1) ((((t).c * (o).b) + ((t).d * (o).d))) := (szr_add (szr_mul zl7.2.2.1 (hs).2.1 (Nat.le_refl _)) (szr_mul zl7.2.2.2 (hs).2.2.2 (Nat.le_refl _)) (by omega))
    with_reducible refine k_nil ?_
    refine ⟨_, _, rfl, ?_⟩
    with_reducible refine k_ret ?_
    with_reducible refine k_tup ?_
    with_reducible refine k_argX ?_
    with_reducible refine k_opX ?_
    refine k_val (val_var rfl) ?_
    refine k_val val_c ?_
    have q10 := ((r2.up hB2 (Ex.of s3)).up hB3 (Ex.of s4))
    refine f_ixT (k := 0) (q10) rfl (fun w9 rw9 => ?_)
    with_reducible refine k_argX ?_
    with_reducible refine k_opX ?_
    refine k_val (val_var rfl) ?_
    refine k_val val_c ?_
    refine f_ixT (k := 0) (r4) rfl (fun w11 rw11 => ?_)
    with_reducible refine k_argX ?_
    with_reducible refine k_opX ?_
    refine k_val (val_var rfl) ?_
    refine k_val val_c ?_
    refine f_ixT (k := 1) (q10) rfl (fun w12 rw12 => ?_)
    with_reducible refine k_argX ?_
    with_reducible refine k_opX ?_
    refine k_val (val_var rfl) ?_
    refine k_val val_c ?_
    refine f_ixT (k := 1) (r4) rfl (fun w13 rw13 => ?_)
    with_reducible refine k_nil ?_
    refine k_tup_end hB4 (rcons (rw9) (rcons (rw11) (rcons (rw12) (rcons (rw13) (rnil (K := K)))))) (fun v5 H5 r5 s5 hB5 => ?_)
    exact k _ _ _ rfl (r5) ((((s1.trans s2).trans s3).trans s4).trans s5) hB5
def sp__law_unit (K : PySem.W.Frag) : Sp := spF K (α := Unit) (fun x => []) (fun x => True) (fun x => (tbT oneT : D))
theorem has__law_unit (T : Tx K mg) : Has P w K mg base CX0 "_law_unit" s__law_unit [] 1 (sp__law_unit K) := by
  obtain ⟨f, fd, F, M⟩ := T._law_unit
  refine ⟨f, fd, F, M, F.binds (ps := []) (fun _ _ _ _ _ _ us hl => match us, hl with | [], _ => rfl), F.ok sc__law_unit (fun vs H Q E h => ?_) (fun cdv A outer s H vs Q E hr h => ?_)⟩
  · obtain ⟨G, x, hB, r, hp, q⟩ := h; rw [r.len]; rfl
  · obtain ⟨G, _, hB, r, _, k⟩ := h
    refine ⟨_, (pss_one (ps_ret (pe_tup (pa_cons (pe_tup (pa_cons pe_int (pa_cons pe_int pa_nil))) (pa_cons (pe_tup (pa_cons pe_int (pa_cons pe_int pa_nil))) (pa_cons (pe_tup (pa_cons pe_int (pa_cons pe_int pa_nil))) (pa_cons (pe_tup (pa_cons pe_int (pa_cons pe_int pa_nil))) pa_nil))))))), ?_⟩
    replace k : ∀ d v H', d = (tbT oneT : D) → Rep K G.M H' d v → Same H H' → G.B H' → Q v H' := k
    obtain rfl := nil_of r
    with_reducible refine k_ret ?_
    with_reducible refine k_tup ?_
    with_reducible refine k_argX ?_
    with_reducible refine k_tup ?_
    refine k_arg val_c ?_
    refine k_arg val_c ?_
    with_reducible refine k_nil ?_
    refine k_tup_end hB (rcons (rint _) (rcons (rint _) (rnil (K := K)))) (fun v1 H1 r1 s1 hB1 => ?_)
    replace r1 : Rep K G.M H1 (fr (1 : Rat)) v1 := r1
    with_reducible refine k_argX ?_
    with_reducible refine k_tup ?_
    refine k_arg val_c ?_
    refine k_arg val_c ?_
    with_reducible refine k_nil ?_
    refine k_tup_end hB1 (rcons (rint _) (rcons (rint _) (rnil (K := K)))) (fun v2 H2 r2 s2 hB2 => ?_)
    replace r2 : Rep K G.M H2 (fr (0 : Rat)) v2 := r2
    with_reducible refine k_argX ?_
    with_reducible refine k_tup ?_
    refine k_arg val_c ?_
    refine k_arg val_c ?_
    with_reducible refine k_nil ?_
    refine k_tup_end hB2 (rcons (rint _) (rcons (rint _) (rnil (K := K)))) (fun v3 H3 r3 s3 hB3 => ?_)
    replace r3 : Rep K G.M H3 (fr (0 : Rat)) v3 := r3
    with_reducible refine k_argX ?_
    with_reducible refine k_tup ?_
    refine k_arg val_c ?_
    refine k_arg val_c ?_
    with_reducible refine k_nil ?_
    refine k_tup_end hB3 (rcons (rint _) (rcons (rint _) (rnil (K := K)))) (fun v4 H4 r4 s4 hB4 => ?_)
    replace r4 : Rep K G.M H4 (fr (1 : Rat)) v4 := r4
    with_reducible refine k_nil ?_
    have q1 := ((r2.up hB2 (Ex.of s3)).up hB3 (Ex.of s4))
    have q2 := (((r1.up hB1 (Ex.of s2)).up hB2 (Ex.of s3)).up hB3 (Ex.of s4))
    refine k_tup_end hB4 (rcons (q2) (rcons (q1) (rcons ((r3.up hB3 (Ex.of s4))) (rcons (r4) (rnil (K := K)))))) (fun v5 H5 r5 s5 hB5 => ?_)
    exact k _ _ _ rfl (r5) ((((s1.trans s2).trans s3).trans s4).trans s5) hB5
def sp__law_words (K : PySem.W.Frag) : Sp := spF K (α := Unit) (fun x => []) (fun x => True) (fun x => (.lst (kinds.map fun k => .str (kdS k)) : D))
theorem has__law_words (T : Tx K mg) : Has P w K mg base CX0 "_law_words" s__law_words [] 1 (sp__law_words K) := by
  obtain ⟨f, fd, F, M⟩ := T._law_words
  refine ⟨f, fd, F, M, F.binds (ps := []) (fun _ _ _ _ _ _ us hl => match us, hl with | [], _ => rfl), F.ok sc__law_words (fun vs H Q E h => ?_) (fun cdv A outer s H vs Q E hr h => ?_)⟩
  · obtain ⟨G, x, hB, r, hp, q⟩ := h; rw [r.len]; rfl
  · obtain ⟨G, _, hB, r, _, k⟩ := h
    refine ⟨_, (pss_one (ps_ret (pe_lst (pa_cons pe_str (pa_cons pe_str (pa_cons pe_str (pa_cons pe_str (pa_cons pe_str (pa_cons pe_str pa_nil))))))))), ?_⟩
    replace k : ∀ d v H', d = (.lst (kinds.map fun k => .str (kdS k)) : D) → Rep K G.M H' d v → Same H H' → G.B H' → Q v H' := k
    obtain rfl := nil_of r
    with_reducible refine k_ret ?_
    with_reducible refine k_lst ?_
    refine k_arg val_c ?_
    refine k_arg val_c ?_
    refine k_arg val_c ?_
    refine k_arg val_c ?_
    refine k_arg val_c ?_
    refine k_arg val_c ?_
    with_reducible refine k_nil ?_
    refine k_lst_end hB (rcons (rstr _) (rcons (rstr _) (rcons (rstr _) (rcons (rstr _) (rcons (rstr _) (rcons (rstr _) (rnil (K := K)))))))) (fun v1 H1 r1 s1 hB1 => ?_)
    exact k _ _ _ rfl (r1) s1 hB1
def sp__law_many (K : PySem.W.Frag) : Sp := spF K (α := Kd) (fun x => [.str ((kdS x))]) (fun x => True) (fun x => (.int (((ownN x : Nat) : Int)) : D))
theorem has__law_many (T : Tx K mg) : Has P w K mg base CX0 "_law_many" s__law_many ["_law_word"] 1 (sp__law_many K) := by
  obtain ⟨f, fd, F, M⟩ := T._law_many
  refine ⟨f, fd, F, M, F.binds (ps := ["_law_word"]) (fun _ _ _ _ _ _ us hl => match us, hl with | [_], _ => rfl), F.ok sc__law_many (fun vs H Q E h => ?_) (fun cdv A outer s H vs Q E hr h => ?_)⟩
  · obtain ⟨G, x, hB, r, hp, q⟩ := h; rw [r.len]; rfl
  · obtain ⟨G, kd, hB, r, _, k⟩ := h
    refine ⟨_, (pss_one (ps_ret (pe_ifExp (pt_cmpR op_eq (pv 0) pe_str (nomark _)) pe_int (pe_ifExp (pt_cmpR op_in_seq (pv 0) (pe_tup (pa_cons pe_str (pa_cons pe_str pa_nil))) (by rfl)) pe_int pe_int)))), ?_⟩
    cases kd
    · replace k : ∀ d v H', d = (.int ((4 : Int)) : D) → Rep K G.M H' d v → Same H H' → G.B H' → Q v H' := k
      obtain ⟨v0_0, _, rfl, r0_0, rt0⟩ := cons_of r
      replace r0_0 : Rep K G.M H (.str (("slanted" : Str))) v0_0 := r0_0
      obtain rfl := str_of r0_0
      obtain rfl := nil_of rt0
      with_reducible refine k_ret ?_
      with_reducible refine k_ifE ?_
      with_reducible refine k_T ?_
      refine k_val (v_eqSt (val_var rfl) val_c) ?_
      refine ⟨_, rfl, ?_⟩
      refine iteT ?_
      refine k_val val_c ?_
      exact k _ _ _ rfl (rint _) (Same.refl _) hB
    · replace k : ∀ d v H', d = (.int ((2 : Int)) : D) → Rep K G.M H' d v → Same H H' → G.B H' → Q v H' := k
      obtain ⟨v0_0, _, rfl, r0_0, rt0⟩ := cons_of r
      replace r0_0 : Rep K G.M H (.str (("turned" : Str))) v0_0 := r0_0
      obtain rfl := str_of r0_0
      obtain rfl := nil_of rt0
      with_reducible refine k_ret ?_
      with_reducible refine k_ifE ?_
      with_reducible refine k_T ?_
      refine k_val (v_eqSf (val_var rfl) val_c) ?_
      refine ⟨_, rfl, ?_⟩
      refine iteF ?_
      with_reducible refine k_ifE ?_
      with_reducible refine k_T ?_
      with_reducible refine k_opX ?_
      refine k_val (val_var rfl) ?_
      with_reducible refine k_tup ?_
      refine k_arg val_c ?_
      refine k_arg val_c ?_
      with_reducible refine k_nil ?_
      refine k_tup_end hB (rcons (rstr _) (rcons (rstr _) (rnil (K := K)))) (fun v1 H1 r1 s1 hB1 => ?_)
      refine f_inT (ss := [("sized" : Str), ("even" : Str)]) (b := false) (r1) (by decide +kernel) ?_
      refine ⟨_, rfl, ?_⟩
      refine iteF ?_
      refine k_val val_c ?_
      exact k _ _ _ rfl (rint _) s1 hB1
    · replace k : ∀ d v H', d = (.int ((2 : Int)) : D) → Rep K G.M H' d v → Same H H' → G.B H' → Q v H' := k
      obtain ⟨v0_0, _, rfl, r0_0, rt0⟩ := cons_of r
      replace r0_0 : Rep K G.M H (.str (("mirrored" : Str))) v0_0 := r0_0
      obtain rfl := str_of r0_0
      obtain rfl := nil_of rt0
      with_reducible refine k_ret ?_
      with_reducible refine k_ifE ?_
      with_reducible refine k_T ?_
      refine k_val (v_eqSf (val_var rfl) val_c) ?_
      refine ⟨_, rfl, ?_⟩
      refine iteF ?_
      with_reducible refine k_ifE ?_
      with_reducible refine k_T ?_
      with_reducible refine k_opX ?_
      refine k_val (val_var rfl) ?_
      with_reducible refine k_tup ?_
      refine k_arg val_c ?_
      refine k_arg val_c ?_
      with_reducible refine k_nil ?_
      refine k_tup_end hB (rcons (rstr _) (rcons (rstr _) (rnil (K := K)))) (fun v2 H2 r2 s2 hB2 => ?_)
      refine f_inT (ss := [("sized" : Str), ("even" : Str)]) (b := false) (r2) (by decide +kernel) ?_
      refine ⟨_, rfl, ?_⟩
      refine iteF ?_
      refine k_val val_c ?_
      exact k _ _ _ rfl (rint _) s2 hB2
    · replace k : ∀ d v H', d = (.int ((2 : Int)) : D) → Rep K G.M H' d v → Same H H' → G.B H' → Q v H' := k
      obtain ⟨v0_0, _, rfl, r0_0, rt0⟩ := cons_of r
      replace r0_0 : Rep K G.M H (.str (("stretched" : Str))) v0_0 := r0_0
      obtain rfl := str_of r0_0
      obtain rfl := nil_of rt0
      with_reducible refine k_ret ?_
      with_reducible refine k_ifE ?_
      with_reducible refine k_T ?_
      refine k_val (v_eqSf (val_var rfl) val_c) ?_
      refine ⟨_, rfl, ?_⟩
      refine iteF ?_
      with_reducible refine k_ifE ?_
      with_reducible refine k_T ?_
      with_reducible refine k_opX ?_
      refine k_val (val_var rfl) ?_
      with_reducible refine k_tup ?_
      refine k_arg val_c ?_
      refine k_arg val_c ?_
      with_reducible refine k_nil ?_
      refine k_tup_end hB (rcons (rstr _) (rcons (rstr _) (rnil (K := K)))) (fun v3 H3 r3 s3 hB3 => ?_)
      refine f_inT (ss := [("sized" : Str), ("even" : Str)]) (b := false) (r3) (by decide +kernel) ?_
      refine ⟨_, rfl, ?_⟩
      refine iteF ?_
      refine k_val val_c ?_
      exact k _ _ _ rfl (rint _) s3 hB3
    · replace k : ∀ d v H', d = (.int ((1 : Int)) : D) → Rep K G.M H' d v → Same H H' → G.B H' → Q v H' := k
      obtain ⟨v0_0, _, rfl, r0_0, rt0⟩ := cons_of r
      replace r0_0 : Rep K G.M H (.str (("sized" : Str))) v0_0 := r0_0
      obtain rfl := str_of r0_0
      obtain rfl := nil_of rt0
      with_reducible refine k_ret ?_
      with_reducible refine k_ifE ?_
      with_reducible refine k_T ?_
      refine k_val (v_eqSf (val_var rfl) val_c) ?_
      refine ⟨_, rfl, ?_⟩
      refine iteF ?_
      with_reducible refine k_ifE ?_
      with_reducible refine k_T ?_
      with_reducible refine k_opX ?_
      refine k_val (val_var rfl) ?_
      with_reducible refine k_tup ?_
      refine k_arg val_c ?_
      refine k_arg val_c ?_
      with_reducible refine k_nil ?_
      refine k_tup_end hB (rcons (rstr _) (rcons (rstr _) (rnil (K := K)))) (fun v4 H4 r4 s4 hB4 => ?_)
      refine f_inT (ss := [("sized" : Str), ("even" : Str)]) (b := true) (r4) (by decide +kernel) ?_
      refine ⟨_, rfl, ?_⟩
      refine iteT ?_
      refine k_val val_c ?_
      exact k _ _ _ rfl (rint _) s4 hB4
    · replace k : ∀ d v H', d = (.int ((1 : Int)) : D) → Rep K G.M H' d v → Same H H' → G.B H' → Q v H' := k
      obtain ⟨v0_0, _, rfl, r0_0, rt0⟩ := cons_of r
      replace r0_0 : Rep K G.M H (.str (("even" : Str))) v0_0 := r0_0
      obtain rfl := str_of r0_0
      obtain rfl := nil_of rt0
      with_reducible refine k_ret ?_
      with_reducible refine k_ifE ?_
      with_reducible refine k_T ?_
      refine k_val (v_eqSf (val_var rfl) val_c) ?_
      refine ⟨_, rfl, ?_⟩
      refine iteF ?_
      with_reducible refine k_ifE ?_
      with_reducible refine k_T ?_
      with_reducible refine k_opX ?_
      refine k_val (val_var rfl) ?_
      with_reducible refine k_tup ?_
      refine k_arg val_c ?_
      refine k_arg val_c ?_
      with_reducible refine k_nil ?_
      refine k_tup_end hB (rcons (rstr _) (rcons (rstr _) (rnil (K := K)))) (fun v5 H5 r5 s5 hB5 => ?_)
      refine f_inT (ss := [("sized" : Str), ("even" : Str)]) (b := true) (r5) (by decide +kernel) ?_
      refine ⟨_, rfl, ?_⟩
      refine iteT ?_
      refine k_val val_c ?_
      exact k _ _ _ rfl (rint _) s5 hB5
def sp__law_filled (K : PySem.W.Frag) : Sp := spF K (α := Kd × Rat × Rat × Rat × Rat × Nat) (fun x => [.str ((kdS x.1)), numsD (x.1) (x.2.1) (x.2.2.1) (x.2.2.2.1) (x.2.2.2.2.1)]) (fun x => SzR x.2.2.2.2.2 x.2.1 ∧ SzR x.2.2.2.2.2 x.2.2.1 ∧ SzR x.2.2.2.2.2 x.2.2.2.1 ∧ SzR x.2.2.2.2.2 x.2.2.2.2.1 ∧ 1 ≤ x.2.2.2.2.2 ∧ x.2.2.2.2.2 + 1 ≤ 8000) (fun x => (tbT (filled x.1 x.2.1 x.2.2.1 x.2.2.2.1 x.2.2.2.2.1) : D))
theorem has__law_filled (T : Tx K mg) : Has P w K mg base CX0 "_law_filled" s__law_filled ["_law_word", "_law_nums"] 4 (sp__law_filled K) := by
  obtain ⟨f, fd, F, M⟩ := T._law_filled
  obtain ⟨f__law_product, fd__law_product, F__law_product, M__law_product, B__law_product, G__law_product⟩ := has__law_product (P := P) (w := w) (base := base) T
  refine ⟨f, fd, F, M, F.binds (ps := ["_law_word", "_law_nums"]) (fun _ _ _ _ _ _ us hl => match us, hl with | [_, _], _ => rfl), F.ok sc__law_filled (fun vs H Q E h => ?_) (fun cdv A outer s H vs Q E hr h => ?_)⟩
  · obtain ⟨G, x, hB, r, hp, q⟩ := h; rw [r.len]; rfl
  · obtain ⟨G, ⟨kd, ra, rb, rc, rd, n⟩, hB, r, ⟨hra, hrb, hrc, hrd, hn1, hn⟩, k⟩ := h
    refine ⟨_, (pss_cons (ps_par3 (i := 2) (j := 3) (l := 4) (by rfl) sc__law_filled.nd rfl rfl rfl (by decide) (by decide) (by decide) rfl rfl rfl (pa_cons (pe_ix (ix_listK (K := K)) (pv 1) pe_int (fun _ _ => rfl)) (pa_cons (pe_ix (ix_listK (K := K)) (pv 1) (pe_un un_neg pe_int) (fun _ _ => rfl)) (pa_cons (pe_tup (pa_cons pe_int (pa_cons pe_int pa_nil))) pa_nil))) (by rfl)) (pss_cons (ps_if (pt_cmpR op_eq (pv 0) pe_str (nomark _)) (pss_one (ps_ret (pe_tup (pa_cons (pe_ix (ix_listK (K := K)) (pv 1) pe_int (fun _ _ => rfl)) (pa_cons (pe_ix (ix_listK (K := K)) (pv 1) pe_int (fun _ _ => rfl)) (pa_cons (pe_ix (ix_listK (K := K)) (pv 1) pe_int (fun _ _ => rfl)) (pa_cons (pe_ix (ix_listK (K := K)) (pv 1) pe_int (fun _ _ => rfl)) pa_nil))))))) pss_nil) (pss_cons (ps_if (pt_cmpR op_eq (pv 0) pe_str (nomark _)) (pss_one (ps_ret (pe_tup (pa_cons (pv 2) (pa_cons (pe_call G__law_product (hr.mono (by decide)) (by rfl) M__law_product F__law_product.kp B__law_product .nil pass0 (pa_cons (pv 3) (pa_cons (pe_tup (pa_cons (pe_un un_neg pe_int) (pa_cons pe_int pa_nil))) pa_nil))) (pa_cons (pv 3) (pa_cons (pv 2) pa_nil))))))) pss_nil) (pss_cons (ps_if (pt_cmpR op_eq (pv 0) pe_str (nomark _)) (pss_one (ps_ret (pe_tup (pa_cons (pv 2) (pa_cons (pv 3) (pa_cons (pv 3) (pa_cons (pe_call G__law_product (hr.mono (by decide)) (by rfl) M__law_product F__law_product.kp B__law_product .nil pass0 (pa_cons (pv 2) (pa_cons (pe_tup (pa_cons (pe_un un_neg pe_int) (pa_cons pe_int pa_nil))) pa_nil))) pa_nil))))))) pss_nil) (pss_one (ps_ret (pe_tup (pa_cons (pv 2) (pa_cons (pv 4) (pa_cons (pv 4) (pa_cons (pv 3) pa_nil))))))))))), ?_⟩
    cases kd
    · replace hra : SzR n ra := hra
      replace hrb : SzR n rb := hrb
      replace hrc : SzR n rc := hrc
      replace hrd : SzR n rd := hrd
      replace hn1 : 1 ≤ n := hn1
      replace hn : n + 1 ≤ 8000 := hn
      replace k : ∀ d v H', d = (tbT (filled Kd.slanted ra rb rc rd) : D) → Rep K G.M H' d v → Same H H' → G.B H' → Q v H' := k
      obtain ⟨v0_0, _, rfl, r0_0, rt0⟩ := cons_of r
      replace r0_0 : Rep K G.M H (.str (("slanted" : Str))) v0_0 := r0_0
      obtain rfl := str_of r0_0
      obtain ⟨v0_1, _, rfl, r0_1, rt1⟩ := cons_of rt0
      replace r0_1 : Rep K G.M H (.lst [(fr (ra)), (fr (rb)), (fr (rc)), (fr (rd))]) v0_1 := r0_1
      obtain rfl := nil_of rt1
      with_reducible refine k_seq ?_
      with_reducible refine k_par3 ?_
      with_reducible refine k_argX ?_
      with_reducible refine k_opX ?_
      refine k_val (val_var rfl) ?_
      refine k_val val_c ?_
      refine f_ixL (k := 0) (r0_1) rfl (fun w1 rw1 => ?_)
      with_reducible refine k_argX ?_
      with_reducible refine k_opX ?_
      refine k_val (val_var rfl) ?_
      refine k_val (v_un val_c) ?_
      refine f_ixNegL (k := 3) (r0_1) rfl rfl (fun w2 rw2 => ?_)
      with_reducible refine k_argX ?_
      with_reducible refine k_tup ?_
      refine k_arg val_c ?_
      refine k_arg val_c ?_
      with_reducible refine k_nil ?_
      refine k_tup_end hB (rcons (rint _) (rcons (rint _) (rnil (K := K)))) (fun v1 H1 r1 s1 hB1 => ?_)
      replace r1 : Rep K G.M H1 (fr (0 : Rat)) v1 := r1
      with_reducible refine k_nil ?_
      refine ⟨_, _, _, rfl, ?_⟩
      with_reducible refine k_seq ?_
      with_reducible refine k_ifX ?_
      with_reducible refine k_T ?_
      refine k_val (v_eqSt (val_var rfl) val_c) ?_
      refine ⟨_, rfl, ?_⟩
      refine iteT ?_
      with_reducible refine k_ret ?_
      with_reducible refine k_tup ?_
      with_reducible refine k_argX ?_
      with_reducible refine k_opX ?_
      refine k_val (val_var rfl) ?_
      refine k_val val_c ?_
      refine f_ixL (k := 0) ((r0_1.up hB (Ex.of s1))) rfl (fun w3 rw3 => ?_)
      with_reducible refine k_argX ?_
      with_reducible refine k_opX ?_
      refine k_val (val_var rfl) ?_
      refine k_val val_c ?_
      refine f_ixL (k := 1) ((r0_1.up hB (Ex.of s1))) rfl (fun w4 rw4 => ?_)
      with_reducible refine k_argX ?_
      with_reducible refine k_opX ?_
      refine k_val (val_var rfl) ?_
      refine k_val val_c ?_
      refine f_ixL (k := 2) ((r0_1.up hB (Ex.of s1))) rfl (fun w5 rw5 => ?_)
      with_reducible refine k_argX ?_
      with_reducible refine k_opX ?_
      refine k_val (val_var rfl) ?_
      refine k_val val_c ?_
      refine f_ixL (k := 3) ((r0_1.up hB (Ex.of s1))) rfl (fun w6 rw6 => ?_)
      with_reducible refine k_nil ?_
      refine k_tup_end hB1 (rcons (rw3) (rcons (rw4) (rcons (rw5) (rcons (rw6) (rnil (K := K)))))) (fun v2 H2 r2 s2 hB2 => ?_)
      exact k _ _ _ rfl (r2) (s1.trans s2) hB2
    · replace hra : SzR n ra := hra
      replace hrb : SzR n rb := hrb
      replace hrc : SzR n rc := hrc
      replace hrd : SzR n rd := hrd
      replace hn1 : 1 ≤ n := hn1
      replace hn : n + 1 ≤ 8000 := hn
      replace k : ∀ d v H', d = (tbT (filled Kd.turned ra rb rc rd) : D) → Rep K G.M H' d v → Same H H' → G.B H' → Q v H' := k
      obtain ⟨v0_0, _, rfl, r0_0, rt0⟩ := cons_of r
      replace r0_0 : Rep K G.M H (.str (("turned" : Str))) v0_0 := r0_0
      obtain rfl := str_of r0_0
      obtain ⟨v0_1, _, rfl, r0_1, rt1⟩ := cons_of rt0
      replace r0_1 : Rep K G.M H (.lst [(fr (ra)), (fr (rb))]) v0_1 := r0_1
      obtain rfl := nil_of rt1
      with_reducible refine k_seq ?_
      with_reducible refine k_par3 ?_
      with_reducible refine k_argX ?_
      with_reducible refine k_opX ?_
      refine k_val (val_var rfl) ?_
      refine k_val val_c ?_
      refine f_ixL (k := 0) (r0_1) rfl (fun w7 rw7 => ?_)
      with_reducible refine k_argX ?_
      with_reducible refine k_opX ?_
      refine k_val (val_var rfl) ?_
      refine k_val (v_un val_c) ?_
      refine f_ixNegL (k := 1) (r0_1) rfl rfl (fun w8 rw8 => ?_)
      with_reducible refine k_argX ?_
      with_reducible refine k_tup ?_
      refine k_arg val_c ?_
      refine k_arg val_c ?_
      with_reducible refine k_nil ?_
      refine k_tup_end hB (rcons (rint _) (rcons (rint _) (rnil (K := K)))) (fun v3 H3 r3 s3 hB3 => ?_)
      replace r3 : Rep K G.M H3 (fr (0 : Rat)) v3 := r3
      with_reducible refine k_nil ?_
      refine ⟨_, _, _, rfl, ?_⟩
      with_reducible refine k_seq ?_
      with_reducible refine k_ifX ?_
      with_reducible refine k_T ?_
      refine k_val (v_eqSf (val_var rfl) val_c) ?_
      refine ⟨_, rfl, ?_⟩
      refine iteF ?_
      with_reducible refine k_next ?_
      with_reducible refine k_seq ?_
      with_reducible refine k_ifX ?_
      with_reducible refine k_T ?_
      refine k_val (v_eqSt (val_var rfl) val_c) ?_
      refine ⟨_, rfl, ?_⟩
      refine iteT ?_
      with_reducible refine k_ret ?_
      with_reducible refine k_tup ?_
      refine k_arg (val_var rfl) ?_
      with_reducible refine k_argX ?_
      with_reducible refine k_call ?_
      refine k_arg (val_var rfl) ?_
      with_reducible refine k_argX ?_
      with_reducible refine k_tup ?_
      refine k_arg (v_un val_c) ?_
      refine k_arg val_c ?_
      with_reducible refine k_nil ?_
      refine k_tup_end hB3 (rcons (rint _) (rcons (rint _) (rnil (K := K)))) (fun v4 H4 r4 s4 hB4 => ?_)
      replace r4 : Rep K G.M H4 (fr (-1 : Rat)) v4 := r4
      with_reducible refine k_nil ?_
      have q9 := ((rw8.up hB (Ex.of s3)).up hB3 (Ex.of s4))
      refine k_spF (rb, (-1 : Rat), n, 1) hB4 (rcons (q9) (rcons (r4) (rnil (K := K)))) ⟨hrb, (szr_lit 1 (-1 : Rat)), (by first | omega | (dsimp only; omega))⟩ (fun v5 H5 r5 s5 hB5 => ?_)
      replace r5 : Rep K G.M H5 ((fr ((rb * (-1 : Rat))))) v5 := r5
      have z5 : SzR ((n + 1) + 0) ((rb * (-1 : Rat))) := (szr_mul hrb (szr_lit 1 (-1 : Rat)) (by omega))
      refine k_arg (val_var rfl) ?_
      refine k_arg (val_var rfl) ?_
      with_reducible refine k_nil ?_
      have q10 := (((rw7.up hB (Ex.of s3)).up hB3 (Ex.of s4)).up hB4 (Ex.of s5))
      refine k_tup_end hB5 (rcons (q10) (rcons (r5) (rcons ((q9.up hB4 (Ex.of s5))) (rcons (q10) (rnil (K := K)))))) (fun v6 H6 r6 s6 hB6 => ?_)
      exact k _ _ _ (congrArg (fun z => D.tup [fr ra, fr z, fr rb, fr ra]) (mul_m1 rb)) (r6) (((s3.trans s4).trans s5).trans s6) hB6
    · replace hra : SzR n ra := hra
      replace hrb : SzR n rb := hrb
      replace hrc : SzR n rc := hrc
      replace hrd : SzR n rd := hrd
      replace hn1 : 1 ≤ n := hn1
      replace hn : n + 1 ≤ 8000 := hn
      replace k : ∀ d v H', d = (tbT (filled Kd.mirrored ra rb rc rd) : D) → Rep K G.M H' d v → Same H H' → G.B H' → Q v H' := k
      obtain ⟨v0_0, _, rfl, r0_0, rt0⟩ := cons_of r
      replace r0_0 : Rep K G.M H (.str (("mirrored" : Str))) v0_0 := r0_0
      obtain rfl := str_of r0_0
      obtain ⟨v0_1, _, rfl, r0_1, rt1⟩ := cons_of rt0
      replace r0_1 : Rep K G.M H (.lst [(fr (ra)), (fr (rb))]) v0_1 := r0_1
      obtain rfl := nil_of rt1
      with_reducible refine k_seq ?_
      with_reducible refine k_par3 ?_
      with_reducible refine k_argX ?_
      with_reducible refine k_opX ?_
      refine k_val (val_var rfl) ?_
      refine k_val val_c ?_
      refine f_ixL (k := 0) (r0_1) rfl (fun w11 rw11 => ?_)
      with_reducible refine k_argX ?_
      with_reducible refine k_opX ?_
      refine k_val (val_var rfl) ?_
      refine k_val (v_un val_c) ?_
      refine f_ixNegL (k := 1) (r0_1) rfl rfl (fun w12 rw12 => ?_)
      with_reducible refine k_argX ?_
      with_reducible refine k_tup ?_
      refine k_arg val_c ?_
      refine k_arg val_c ?_
      with_reducible refine k_nil ?_
      refine k_tup_end hB (rcons (rint _) (rcons (rint _) (rnil (K := K)))) (fun v7 H7 r7 s7 hB7 => ?_)
      replace r7 : Rep K G.M H7 (fr (0 : Rat)) v7 := r7
      with_reducible refine k_nil ?_
      refine ⟨_, _, _, rfl, ?_⟩
      with_reducible refine k_seq ?_
      with_reducible refine k_ifX ?_
      with_reducible refine k_T ?_
      refine k_val (v_eqSf (val_var rfl) val_c) ?_
      refine ⟨_, rfl, ?_⟩
      refine iteF ?_
      with_reducible refine k_next ?_
      with_reducible refine k_seq ?_
      with_reducible refine k_ifX ?_
      with_reducible refine k_T ?_
      refine k_val (v_eqSf (val_var rfl) val_c) ?_
      refine ⟨_, rfl, ?_⟩
      refine iteF ?_
      with_reducible refine k_next ?_
      with_reducible refine k_seq ?_
      with_reducible refine k_ifX ?_
      with_reducible refine k_T ?_
      refine k_val (v_eqSt (val_var rfl) val_c) ?_
      refine ⟨_, rfl, ?_⟩
      refine iteT ?_
      with_reducible refine k_ret ?_
      with_reducible refine k_tup ?_
      refine k_arg (val_var rfl) ?_
      refine k_arg (val_var rfl) ?_
      refine k_arg (val_var rfl) ?_
      with_reducible refine k_argX ?_
      with_reducible refine k_call ?_
      refine k_arg (val_var rfl) ?_
      with_reducible refine k_argX ?_
      with_reducible refine k_tup ?_
      refine k_arg (v_un val_c) ?_
      refine k_arg val_c ?_
      with_reducible refine k_nil ?_
      refine k_tup_end hB7 (rcons (rint _) (rcons (rint _) (rnil (K := K)))) (fun v8 H8 r8 s8 hB8 => ?_)
      replace r8 : Rep K G.M H8 (fr (-1 : Rat)) v8 := r8
      with_reducible refine k_nil ?_
      have q13 := ((rw11.up hB (Ex.of s7)).up hB7 (Ex.of s8))
      refine k_spF (ra, (-1 : Rat), n, 1) hB8 (rcons (q13) (rcons (r8) (rnil (K := K)))) ⟨hra, (szr_lit 1 (-1 : Rat)), (by first | omega | (dsimp only; omega))⟩ (fun v9 H9 r9 s9 hB9 => ?_)
      replace r9 : Rep K G.M H9 ((fr ((ra * (-1 : Rat))))) v9 := r9
      have z9 : SzR ((n + 1) + 0) ((ra * (-1 : Rat))) := (szr_mul hra (szr_lit 1 (-1 : Rat)) (by omega))
      with_reducible refine k_nil ?_
      have q14 := (((rw12.up hB (Ex.of s7)).up hB7 (Ex.of s8)).up hB8 (Ex.of s9))
      refine k_tup_end hB9 (rcons ((q13.up hB8 (Ex.of s9))) (rcons (q14) (rcons (q14) (rcons (r9) (rnil (K := K)))))) (fun v10 H10 r10 s10 hB10 => ?_)
      exact k _ _ _ (congrArg (fun z => D.tup [fr ra, fr rb, fr rb, fr z]) (mul_m1 ra)) (r10) (((s7.trans s8).trans s9).trans s10) hB10
    · replace hra : SzR n ra := hra
      replace hrb : SzR n rb := hrb
      replace hrc : SzR n rc := hrc
      replace hrd : SzR n rd := hrd
      replace hn1 : 1 ≤ n := hn1
      replace hn : n + 1 ≤ 8000 := hn
      replace k : ∀ d v H', d = (tbT (filled Kd.stretched ra rb rc rd) : D) → Rep K G.M H' d v → Same H H' → G.B H' → Q v H' := k
      obtain ⟨v0_0, _, rfl, r0_0, rt0⟩ := cons_of r
      replace r0_0 : Rep K G.M H (.str (("stretched" : Str))) v0_0 := r0_0
      obtain rfl := str_of r0_0
      obtain ⟨v0_1, _, rfl, r0_1, rt1⟩ := cons_of rt0
      replace r0_1 : Rep K G.M H (.lst [(fr (ra)), (fr (rb))]) v0_1 := r0_1
      obtain rfl := nil_of rt1
      with_reducible refine k_seq ?_
      with_reducible refine k_par3 ?_
      with_reducible refine k_argX ?_
      with_reducible refine k_opX ?_
      refine k_val (val_var rfl) ?_
      refine k_val val_c ?_
      refine f_ixL (k := 0) (r0_1) rfl (fun w15 rw15 => ?_)
      with_reducible refine k_argX ?_
      with_reducible refine k_opX ?_
      refine k_val (val_var rfl) ?_
      refine k_val (v_un val_c) ?_
      refine f_ixNegL (k := 1) (r0_1) rfl rfl (fun w16 rw16 => ?_)
      with_reducible refine k_argX ?_
      with_reducible refine k_tup ?_
      refine k_arg val_c ?_
      refine k_arg val_c ?_
      with_reducible refine k_nil ?_
      refine k_tup_end hB (rcons (rint _) (rcons (rint _) (rnil (K := K)))) (fun v11 H11 r11 s11 hB11 => ?_)
      replace r11 : Rep K G.M H11 (fr (0 : Rat)) v11 := r11
      with_reducible refine k_nil ?_
      refine ⟨_, _, _, rfl, ?_⟩
      with_reducible refine k_seq ?_
      with_reducible refine k_ifX ?_
      with_reducible refine k_T ?_
      refine k_val (v_eqSf (val_var rfl) val_c) ?_
      refine ⟨_, rfl, ?_⟩
      refine iteF ?_
      with_reducible refine k_next ?_
      with_reducible refine k_seq ?_
      with_reducible refine k_ifX ?_
      with_reducible refine k_T ?_
      refine k_val (v_eqSf (val_var rfl) val_c) ?_
      refine ⟨_, rfl, ?_⟩
      refine iteF ?_
      with_reducible refine k_next ?_
      with_reducible refine k_seq ?_
      with_reducible refine k_ifX ?_
      with_reducible refine k_T ?_
      refine k_val (v_eqSf (val_var rfl) val_c) ?_
      refine ⟨_, rfl, ?_⟩
      refine iteF ?_
      with_reducible refine k_next ?_
      with_reducible refine k_ret ?_
      with_reducible refine k_tup ?_
      refine k_arg (val_var rfl) ?_
      refine k_arg (val_var rfl) ?_
      refine k_arg (val_var rfl) ?_
      refine k_arg (val_var rfl) ?_
      with_reducible refine k_nil ?_
      refine k_tup_end hB11 (rcons ((rw15.up hB (Ex.of s11))) (rcons (r11) (rcons (r11) (rcons ((rw16.up hB (Ex.of s11))) (rnil (K := K)))))) (fun v12 H12 r12 s12 hB12 => ?_)
      exact k _ _ _ rfl (r12) (s11.trans s12) hB12
    · replace hra : SzR n ra := hra
      replace hrb : SzR n rb := hrb
      replace hrc : SzR n rc := hrc
      replace hrd : SzR n rd := hrd
      replace hn1 : 1 ≤ n := hn1
      replace hn : n + 1 ≤ 8000 := hn
      replace k : ∀ d v H', d = (tbT (filled Kd.sized ra rb rc rd) : D) → Rep K G.M H' d v → Same H H' → G.B H' → Q v H' := k
      obtain ⟨v0_0, _, rfl, r0_0, rt0⟩ := cons_of r
      replace r0_0 : Rep K G.M H (.str (("sized" : Str))) v0_0 := r0_0
      obtain rfl := str_of r0_0
      obtain ⟨v0_1, _, rfl, r0_1, rt1⟩ := cons_of rt0
      replace r0_1 : Rep K G.M H (.lst [(fr (ra))]) v0_1 := r0_1
      obtain rfl := nil_of rt1
      with_reducible refine k_seq ?_
      with_reducible refine k_par3 ?_
      with_reducible refine k_argX ?_
      with_reducible refine k_opX ?_
      refine k_val (val_var rfl) ?_
      refine k_val val_c ?_
      refine f_ixL (k := 0) (r0_1) rfl (fun w17 rw17 => ?_)
      with_reducible refine k_argX ?_
      with_reducible refine k_opX ?_
      refine k_val (val_var rfl) ?_
      refine k_val (v_un val_c) ?_
      refine f_ixNegL (k := 0) (r0_1) rfl rfl (fun w18 rw18 => ?_)
      with_reducible refine k_argX ?_
      with_reducible refine k_tup ?_
      refine k_arg val_c ?_
      refine k_arg val_c ?_
      with_reducible refine k_nil ?_
      refine k_tup_end hB (rcons (rint _) (rcons (rint _) (rnil (K := K)))) (fun v13 H13 r13 s13 hB13 => ?_)
      replace r13 : Rep K G.M H13 (fr (0 : Rat)) v13 := r13
      with_reducible refine k_nil ?_
      refine ⟨_, _, _, rfl, ?_⟩
      with_reducible refine k_seq ?_
      with_reducible refine k_ifX ?_
      with_reducible refine k_T ?_
      refine k_val (v_eqSf (val_var rfl) val_c) ?_
      refine ⟨_, rfl, ?_⟩
      refine iteF ?_
      with_reducible refine k_next ?_
      with_reducible refine k_seq ?_
      with_reducible refine k_ifX ?_
      with_reducible refine k_T ?_
      refine k_val (v_eqSf (val_var rfl) val_c) ?_
      refine ⟨_, rfl, ?_⟩
      refine iteF ?_
      with_reducible refine k_next ?_
      with_reducible refine k_seq ?_
      with_reducible refine k_ifX ?_
      with_reducible refine k_T ?_
      refine k_val (v_eqSf (val_var rfl) val_c) ?_
      refine ⟨_, rfl, ?_⟩
      refine iteF ?_
      with_reducible refine k_next ?_
      with_reducible refine k_ret ?_
      with_reducible refine k_tup ?_
      refine k_arg (val_var rfl) ?_
      refine k_arg (val_var rfl) ?_
      refine k_arg (val_var rfl) ?_
      refine k_arg (val_var rfl) ?_
      with_reducible refine k_nil ?_
      refine k_tup_end hB13 (rcons ((rw17.up hB (Ex.of s13))) (rcons (r13) (rcons (r13) (rcons ((rw18.up hB (Ex.of s13))) (rnil (K := K)))))) (fun v14 H14 r14 s14 hB14 => ?_)
      exact k _ _ _ rfl (r14) (s13.trans s14) hB14
    · replace hra : SzR n ra := hra
      replace hrb : SzR n rb := hrb
      replace hrc : SzR n rc := hrc
      replace hrd : SzR n rd := hrd
      replace hn1 : 1 ≤ n := hn1
      replace hn : n + 1 ≤ 8000 := hn
      replace k : ∀ d v H', d = (tbT (filled Kd.even ra rb rc rd) : D) → Rep K G.M H' d v → Same H H' → G.B H' → Q v H' := k
      obtain ⟨v0_0, _, rfl, r0_0, rt0⟩ := cons_of r
      replace r0_0 : Rep K G.M H (.str (("even" : Str))) v0_0 := r0_0
      obtain rfl := str_of r0_0
      obtain ⟨v0_1, _, rfl, r0_1, rt1⟩ := cons_of rt0
      replace r0_1 : Rep K G.M H (.lst [(fr (ra))]) v0_1 := r0_1
      obtain rfl := nil_of rt1
      with_reducible refine k_seq ?_
      with_reducible refine k_par3 ?_
      with_reducible refine k_argX ?_
      with_reducible refine k_opX ?_
      refine k_val (val_var rfl) ?_
      refine k_val val_c ?_
      refine f_ixL (k := 0) (r0_1) rfl (fun w19 rw19 => ?_)
      with_reducible refine k_argX ?_
      with_reducible refine k_opX ?_
      refine k_val (val_var rfl) ?_
      refine k_val (v_un val_c) ?_
      refine f_ixNegL (k := 0) (r0_1) rfl rfl (fun w20 rw20 => ?_)
      with_reducible refine k_argX ?_
      with_reducible refine k_tup ?_
      refine k_arg val_c ?_
      refine k_arg val_c ?_
      with_reducible refine k_nil ?_
      refine k_tup_end hB (rcons (rint _) (rcons (rint _) (rnil (K := K)))) (fun v15 H15 r15 s15 hB15 => ?_)
      replace r15 : Rep K G.M H15 (fr (0 : Rat)) v15 := r15
      with_reducible refine k_nil ?_
      refine ⟨_, _, _, rfl, ?_⟩
      with_reducible refine k_seq ?_
      with_reducible refine k_ifX ?_
      with_reducible refine k_T ?_
      refine k_val (v_eqSf (val_var rfl) val_c) ?_
      refine ⟨_, rfl, ?_⟩
      refine iteF ?_
      with_reducible refine k_next ?_
      with_reducible refine k_seq ?_
      with_reducible refine k_ifX ?_
      with_reducible refine k_T ?_
      refine k_val (v_eqSf (val_var rfl) val_c) ?_
      refine ⟨_, rfl, ?_⟩
      refine iteF ?_
      with_reducible refine k_next ?_
      with_reducible refine k_seq ?_
      with_reducible refine k_ifX ?_
      with_reducible refine k_T ?_
      refine k_val (v_eqSf (val_var rfl) val_c) ?_
      refine ⟨_, rfl, ?_⟩
      refine iteF ?_
      with_reducible refine k_next ?_
      with_reducible refine k_ret ?_
      with_reducible refine k_tup ?_
      refine k_arg (val_var rfl) ?_
      refine k_arg (val_var rfl) ?_
      refine k_arg (val_var rfl) ?_
      refine k_arg (val_var rfl) ?_
      with_reducible refine k_nil ?_
      refine k_tup_end hB15 (rcons ((rw19.up hB (Ex.of s15))) (rcons (r15) (rcons (r15) (rcons ((rw20.up hB (Ex.of s15))) (rnil (K := K)))))) (fun v16 H16 r16 s16 hB16 => ?_)
      exact k _ _ _ rfl (r16) (s15.trans s16) hB16
def sp__law_read_off (K : PySem.W.Frag) : Sp := spF K (α := Kd × Tb × Nat) (fun x => [.str ((kdS x.1)), tbT (x.2.1)]) (fun x => SzT x.2.2 x.2.1 ∧ 1 ≤ x.2.2 ∧ x.2.2 + 1 ≤ 8000) (fun x => (ownD x.1 x.2.1 : D))
theorem has__law_read_off (T : Tx K mg) : Has P w K mg base CX0 "_law_read_off" s__law_read_off ["_law_word", "_law_t"] 5 (sp__law_read_off K) := by
  obtain ⟨f, fd, F, M⟩ := T._law_read_off
  obtain ⟨f__law_filled, fd__law_filled, F__law_filled, M__law_filled, B__law_filled, G__law_filled⟩ := has__law_filled (P := P) (w := w) (base := base) T
  obtain ⟨f__law_many, fd__law_many, F__law_many, M__law_many, B__law_many, G__law_many⟩ := has__law_many (P := P) (w := w) (base := base) T
  refine ⟨f, fd, F, M, F.binds (ps := ["_law_word", "_law_t"]) (fun _ _ _ _ _ _ us hl => match us, hl with | [_, _], _ => rfl), F.ok sc__law_read_off (fun vs H Q E h => ?_) (fun cdv A outer s H vs Q E hr h => ?_)⟩
  · obtain ⟨G, x, hB, r, hp, q⟩ := h; rw [r.len]; rfl
  · obtain ⟨G, ⟨kd, t, n⟩, hB, r, ⟨ht, hn1, hn⟩, k⟩ := h
    refine ⟨_, (pss_cons (ps_set (i := 2) sc__law_read_off.nd rfl (.inl rfl) (pe_ifExp (pt_cmpR op_eq (pv 0) pe_str (nomark _)) (pe_callTy (call_listK (K := K)) (by rfl) T.list (by decide +kernel) (pa_cons (pv 1) pa_nil)) (pe_ifExp (pt_cmpR op_in_seq (pv 0) (pe_tup (pa_cons pe_str (pa_cons pe_str pa_nil))) (by rfl)) (pe_lst (pa_cons (pe_ix (ix_tupK (K := K)) (pv 1) pe_int (fun _ _ => rfl)) (pa_cons (pe_ix (ix_tupK (K := K)) (pv 1) pe_int (fun _ _ => rfl)) pa_nil))) (pe_lst (pa_cons (pe_ix (ix_tupK (K := K)) (pv 1) pe_int (fun _ _ => rfl)) (pa_cons (pe_ix (ix_tupK (K := K)) (pv 1) pe_int (fun _ _ => rfl)) pa_nil)))))) (pss_cons (ps_set (i := 2) sc__law_read_off.nd rfl (.inl rfl) (pe_slice sl_list (pv 2) po_none (po_some (pe_call G__law_many (hr.mono (by decide)) (by rfl) M__law_many F__law_many.kp B__law_many .nil pass0 (pa_cons (pv 0) pa_nil))))) (pss_one (ps_ret (pe_ifExp (pt_cmpR (op_eqD hr.units) (pe_call G__law_filled (hr.mono (by decide)) (by rfl) M__law_filled F__law_filled.kp B__law_filled .nil pass0 (pa_cons (pv 0) (pa_cons (pv 2) pa_nil))) (pv 1) (nomark _)) (pv 2) pe_non))))), ?_⟩
    cases kd
    · replace ht : SzT n t := ht
      replace hn1 : 1 ≤ n := hn1
      replace hn : n + 1 ≤ 8000 := hn
      replace k : ∀ d v H', d = (ownD Kd.slanted t : D) → Rep K G.M H' d v → Same H H' → G.B H' → Q v H' := k
      obtain ⟨v0_0, _, rfl, r0_0, rt0⟩ := cons_of r
      replace r0_0 : Rep K G.M H (.str (("slanted" : Str))) v0_0 := r0_0
      obtain rfl := str_of r0_0
      obtain ⟨v0_1, _, rfl, r0_1, rt1⟩ := cons_of rt0
      replace r0_1 : Rep K G.M H (tbT (t)) v0_1 := r0_1
      obtain rfl := nil_of rt1
      with_reducible refine k_seq ?_
      with_reducible refine k_set ?_
      with_reducible refine k_ifE ?_
      with_reducible refine k_T ?_
      refine k_val (v_eqSt (val_var rfl) val_c) ?_
      refine ⟨_, rfl, ?_⟩
      refine iteT ?_
      with_reducible refine k_cb ?_
      refine k_arg (val_var rfl) ?_
      with_reducible refine k_nil ?_
      refine f_listT hB (r0_1) (fun v1 H1 r1 s1 hB1 => ?_)
      with_reducible refine k_seq ?_
      with_reducible refine k_set ?_
      with_reducible refine k_sl ?_
      refine k_val (val_var rfl) ?_
      with_reducible refine k_noPart ?_
      with_reducible refine k_part ?_
      with_reducible refine k_call ?_
      refine k_arg (val_var rfl) ?_
      with_reducible refine k_nil ?_
      refine k_spF Kd.slanted hB1 (rcons (rstr _) (rnil (K := K))) trivial (fun v2 H2 r2 s2 hB2 => ?_)
      obtain rfl := int_of (i := (4 : Int)) r2
      refine ⟨_, rfl, ?_⟩
      refine f_slL (n := 4) hB2 ((r1.up hB1 (Ex.of s2))) (fun v3 H3 r3 s3 hB3 => ?_)
      replace r3 : Rep K G.M H3 (.lst [(fr ((t).a)), (fr ((t).b)), (fr ((t).c)), (fr ((t).d))]) v3 := r3
      with_reducible refine k_ret ?_
      with_reducible refine k_ifE ?_
      with_reducible refine k_T ?_
      with_reducible refine k_opX ?_
      with_reducible refine k_call ?_
      refine k_arg (val_var rfl) ?_
      refine k_arg (val_var rfl) ?_
      with_reducible refine k_nil ?_
      have zf1 : SzT n (filled (Kd.slanted) ((t).a) ((t).b) ((t).c) ((t).d)) := szT_filled (Kd.slanted) (by first | omega | (dsimp only; omega)) (((ht).1).mono (by first | omega | (dsimp only; omega))) (((ht).2.1).mono (by first | omega | (dsimp only; omega))) (((ht).2.2.1).mono (by first | omega | (dsimp only; omega))) (((ht).2.2.2).mono (by first | omega | (dsimp only; omega)))
      refine k_spF (Kd.slanted, (t).a, (t).b, (t).c, (t).d, n) hB3 (rcons (rstr _) (rcons (r3) (rnil (K := K)))) ⟨((ht).1).mono (by first | omega | (dsimp only; omega)), ((ht).2.1).mono (by first | omega | (dsimp only; omega)), ((ht).2.2.1).mono (by first | omega | (dsimp only; omega)), ((ht).2.2.2).mono (by first | omega | (dsimp only; omega)), (by first | omega | (dsimp only; omega)), (by first | omega | (dsimp only; omega))⟩ (fun v4 H4 r4 s4 hB4 => ?_)
      replace r4 : Rep K G.M H4 (tbT (filled (Kd.slanted) ((t).a) ((t).b) ((t).c) ((t).d))) v4 := r4
      refine k_val (val_var rfl) ?_
      have q2 := ((((r0_1.up hB (Ex.of s1)).up hB1 (Ex.of s2)).up hB2 (Ex.of s3)).up hB3 (Ex.of s4))
      refine f_eqD (r4) (q2) (eqv_tb (filled (Kd.slanted) ((t).a) ((t).b) ((t).c) ((t).d)) (t)) ?_
      refine ⟨_, rfl, ?_⟩
      refine k_ite (fun c3 => ?_) (fun c3 => ?_)
      · refine k_val (val_var rfl) ?_
        exact k _ _ _ (if_pos (show fitsB Kd.slanted t = true from c3)).symm ((r3.up hB3 (Ex.of s4))) (((s1.trans s2).trans s3).trans s4) hB4
      · refine k_val val_c ?_
        exact k _ _ _ (if_neg (show ¬ fitsB Kd.slanted t = true from (by rw [show fitsB Kd.slanted t = false from c3]; exact Bool.false_ne_true))).symm (rnon) (((s1.trans s2).trans s3).trans s4) hB4
    · replace ht : SzT n t := ht
      replace hn1 : 1 ≤ n := hn1
      replace hn : n + 1 ≤ 8000 := hn
      replace k : ∀ d v H', d = (ownD Kd.turned t : D) → Rep K G.M H' d v → Same H H' → G.B H' → Q v H' := k
      obtain ⟨v0_0, _, rfl, r0_0, rt0⟩ := cons_of r
      replace r0_0 : Rep K G.M H (.str (("turned" : Str))) v0_0 := r0_0
      obtain rfl := str_of r0_0
      obtain ⟨v0_1, _, rfl, r0_1, rt1⟩ := cons_of rt0
      replace r0_1 : Rep K G.M H (tbT (t)) v0_1 := r0_1
      obtain rfl := nil_of rt1
      with_reducible refine k_seq ?_
      with_reducible refine k_set ?_
      with_reducible refine k_ifE ?_
      with_reducible refine k_T ?_
      refine k_val (v_eqSf (val_var rfl) val_c) ?_
      refine ⟨_, rfl, ?_⟩
      refine iteF ?_
      with_reducible refine k_ifE ?_
      with_reducible refine k_T ?_
      with_reducible refine k_opX ?_
      refine k_val (val_var rfl) ?_
      with_reducible refine k_tup ?_
      refine k_arg val_c ?_
      refine k_arg val_c ?_
      with_reducible refine k_nil ?_
      refine k_tup_end hB (rcons (rstr _) (rcons (rstr _) (rnil (K := K)))) (fun v5 H5 r5 s5 hB5 => ?_)
      refine f_inT (ss := [("turned" : Str), ("mirrored" : Str)]) (b := true) (r5) (by decide +kernel) ?_
      refine ⟨_, rfl, ?_⟩
      refine iteT ?_
      with_reducible refine k_lst ?_
      with_reducible refine k_argX ?_
      with_reducible refine k_opX ?_
      refine k_val (val_var rfl) ?_
      refine k_val val_c ?_
      refine f_ixT (k := 0) ((r0_1.up hB (Ex.of s5))) rfl (fun w4 rw4 => ?_)
      with_reducible refine k_argX ?_
      with_reducible refine k_opX ?_
      refine k_val (val_var rfl) ?_
      refine k_val val_c ?_
      refine f_ixT (k := 2) ((r0_1.up hB (Ex.of s5))) rfl (fun w5 rw5 => ?_)
      with_reducible refine k_nil ?_
      refine k_lst_end hB5 (rcons (rw4) (rcons (rw5) (rnil (K := K)))) (fun v6 H6 r6 s6 hB6 => ?_)
      with_reducible refine k_seq ?_
      with_reducible refine k_set ?_
      with_reducible refine k_sl ?_
      refine k_val (val_var rfl) ?_
      with_reducible refine k_noPart ?_
      with_reducible refine k_part ?_
      with_reducible refine k_call ?_
      refine k_arg (val_var rfl) ?_
      with_reducible refine k_nil ?_
      refine k_spF Kd.turned hB6 (rcons (rstr _) (rnil (K := K))) trivial (fun v7 H7 r7 s7 hB7 => ?_)
      obtain rfl := int_of (i := (2 : Int)) r7
      refine ⟨_, rfl, ?_⟩
      refine f_slL (n := 2) hB7 ((r6.up hB6 (Ex.of s7))) (fun v8 H8 r8 s8 hB8 => ?_)
      replace r8 : Rep K G.M H8 (.lst [(fr ((t).a)), (fr ((t).c))]) v8 := r8
      with_reducible refine k_ret ?_
      with_reducible refine k_ifE ?_
      with_reducible refine k_T ?_
      with_reducible refine k_opX ?_
      with_reducible refine k_call ?_
      refine k_arg (val_var rfl) ?_
      refine k_arg (val_var rfl) ?_
      with_reducible refine k_nil ?_
      have zf6 : SzT (max n 1) (filled (Kd.turned) ((t).a) ((t).c) ((0 : Rat)) ((0 : Rat))) := szT_filled (Kd.turned) (by first | omega | (dsimp only; omega)) (((ht).1).mono (by first | omega | (dsimp only; omega))) (((ht).2.2.1).mono (by first | omega | (dsimp only; omega))) (((szr_lit 1 (0 : Rat))).mono (by first | omega | (dsimp only; omega))) (((szr_lit 1 (0 : Rat))).mono (by first | omega | (dsimp only; omega)))
      refine k_spF (Kd.turned, (t).a, (t).c, (0 : Rat), (0 : Rat), (max n 1)) hB8 (rcons (rstr _) (rcons (r8) (rnil (K := K)))) ⟨((ht).1).mono (by first | omega | (dsimp only; omega)), ((ht).2.2.1).mono (by first | omega | (dsimp only; omega)), ((szr_lit 1 (0 : Rat))).mono (by first | omega | (dsimp only; omega)), ((szr_lit 1 (0 : Rat))).mono (by first | omega | (dsimp only; omega)), (by first | omega | (dsimp only; omega)), (by first | omega | (dsimp only; omega))⟩ (fun v9 H9 r9 s9 hB9 => ?_)
      replace r9 : Rep K G.M H9 (tbT (filled (Kd.turned) ((t).a) ((t).c) ((0 : Rat)) ((0 : Rat)))) v9 := r9
      refine k_val (val_var rfl) ?_
      have q7 := (((((r0_1.up hB (Ex.of s5)).up hB5 (Ex.of s6)).up hB6 (Ex.of s7)).up hB7 (Ex.of s8)).up hB8 (Ex.of s9))
      refine f_eqD (r9) (q7) (eqv_tb (filled (Kd.turned) ((t).a) ((t).c) ((0 : Rat)) ((0 : Rat))) (t)) ?_
      refine ⟨_, rfl, ?_⟩
      refine k_ite (fun c8 => ?_) (fun c8 => ?_)
      · refine k_val (val_var rfl) ?_
        exact k _ _ _ (if_pos (show fitsB Kd.turned t = true from c8)).symm ((r8.up hB8 (Ex.of s9))) ((((s5.trans s6).trans s7).trans s8).trans s9) hB9
      · refine k_val val_c ?_
        exact k _ _ _ (if_neg (show ¬ fitsB Kd.turned t = true from (by rw [show fitsB Kd.turned t = false from c8]; exact Bool.false_ne_true))).symm (rnon) ((((s5.trans s6).trans s7).trans s8).trans s9) hB9
    · replace ht : SzT n t := ht
      replace hn1 : 1 ≤ n := hn1
      replace hn : n + 1 ≤ 8000 := hn
      replace k : ∀ d v H', d = (ownD Kd.mirrored t : D) → Rep K G.M H' d v → Same H H' → G.B H' → Q v H' := k
      obtain ⟨v0_0, _, rfl, r0_0, rt0⟩ := cons_of r
      replace r0_0 : Rep K G.M H (.str (("mirrored" : Str))) v0_0 := r0_0
      obtain rfl := str_of r0_0
      obtain ⟨v0_1, _, rfl, r0_1, rt1⟩ := cons_of rt0
      replace r0_1 : Rep K G.M H (tbT (t)) v0_1 := r0_1
      obtain rfl := nil_of rt1
      with_reducible refine k_seq ?_
      with_reducible refine k_set ?_
      with_reducible refine k_ifE ?_
      with_reducible refine k_T ?_
      refine k_val (v_eqSf (val_var rfl) val_c) ?_
      refine ⟨_, rfl, ?_⟩
      refine iteF ?_
      with_reducible refine k_ifE ?_
      with_reducible refine k_T ?_
      with_reducible refine k_opX ?_
      refine k_val (val_var rfl) ?_
      with_reducible refine k_tup ?_
      refine k_arg val_c ?_
      refine k_arg val_c ?_
      with_reducible refine k_nil ?_
      refine k_tup_end hB (rcons (rstr _) (rcons (rstr _) (rnil (K := K)))) (fun v10 H10 r10 s10 hB10 => ?_)
      refine f_inT (ss := [("turned" : Str), ("mirrored" : Str)]) (b := true) (r10) (by decide +kernel) ?_
      refine ⟨_, rfl, ?_⟩
      refine iteT ?_
      with_reducible refine k_lst ?_
      with_reducible refine k_argX ?_
      with_reducible refine k_opX ?_
      refine k_val (val_var rfl) ?_
      refine k_val val_c ?_
      refine f_ixT (k := 0) ((r0_1.up hB (Ex.of s10))) rfl (fun w9 rw9 => ?_)
      with_reducible refine k_argX ?_
      with_reducible refine k_opX ?_
      refine k_val (val_var rfl) ?_
      refine k_val val_c ?_
      refine f_ixT (k := 2) ((r0_1.up hB (Ex.of s10))) rfl (fun w10 rw10 => ?_)
      with_reducible refine k_nil ?_
      refine k_lst_end hB10 (rcons (rw9) (rcons (rw10) (rnil (K := K)))) (fun v11 H11 r11 s11 hB11 => ?_)
      with_reducible refine k_seq ?_
      with_reducible refine k_set ?_
      with_reducible refine k_sl ?_
      refine k_val (val_var rfl) ?_
      with_reducible refine k_noPart ?_
      with_reducible refine k_part ?_
      with_reducible refine k_call ?_
      refine k_arg (val_var rfl) ?_
      with_reducible refine k_nil ?_
      refine k_spF Kd.mirrored hB11 (rcons (rstr _) (rnil (K := K))) trivial (fun v12 H12 r12 s12 hB12 => ?_)
      obtain rfl := int_of (i := (2 : Int)) r12
      refine ⟨_, rfl, ?_⟩
      refine f_slL (n := 2) hB12 ((r11.up hB11 (Ex.of s12))) (fun v13 H13 r13 s13 hB13 => ?_)
      replace r13 : Rep K G.M H13 (.lst [(fr ((t).a)), (fr ((t).c))]) v13 := r13
      with_reducible refine k_ret ?_
      with_reducible refine k_ifE ?_
      with_reducible refine k_T ?_
      with_reducible refine k_opX ?_
      with_reducible refine k_call ?_
      refine k_arg (val_var rfl) ?_
      refine k_arg (val_var rfl) ?_
      with_reducible refine k_nil ?_
      have zf11 : SzT (max n 1) (filled (Kd.mirrored) ((t).a) ((t).c) ((0 : Rat)) ((0 : Rat))) := szT_filled (Kd.mirrored) (by first | omega | (dsimp only; omega)) (((ht).1).mono (by first | omega | (dsimp only; omega))) (((ht).2.2.1).mono (by first | omega | (dsimp only; omega))) (((szr_lit 1 (0 : Rat))).mono (by first | omega | (dsimp only; omega))) (((szr_lit 1 (0 : Rat))).mono (by first | omega | (dsimp only; omega)))
      refine k_spF (Kd.mirrored, (t).a, (t).c, (0 : Rat), (0 : Rat), (max n 1)) hB13 (rcons (rstr _) (rcons (r13) (rnil (K := K)))) ⟨((ht).1).mono (by first | omega | (dsimp only; omega)), ((ht).2.2.1).mono (by first | omega | (dsimp only; omega)), ((szr_lit 1 (0 : Rat))).mono (by first | omega | (dsimp only; omega)), ((szr_lit 1 (0 : Rat))).mono (by first | omega | (dsimp only; omega)), (by first | omega | (dsimp only; omega)), (by first | omega | (dsimp only; omega))⟩ (fun v14 H14 r14 s14 hB14 => ?_)
      replace r14 : Rep K G.M H14 (tbT (filled (Kd.mirrored) ((t).a) ((t).c) ((0 : Rat)) ((0 : Rat)))) v14 := r14
      refine k_val (val_var rfl) ?_
      have q12 := (((((r0_1.up hB (Ex.of s10)).up hB10 (Ex.of s11)).up hB11 (Ex.of s12)).up hB12 (Ex.of s13)).up hB13 (Ex.of s14))
      refine f_eqD (r14) (q12) (eqv_tb (filled (Kd.mirrored) ((t).a) ((t).c) ((0 : Rat)) ((0 : Rat))) (t)) ?_
      refine ⟨_, rfl, ?_⟩
      refine k_ite (fun c13 => ?_) (fun c13 => ?_)
      · refine k_val (val_var rfl) ?_
        exact k _ _ _ (if_pos (show fitsB Kd.mirrored t = true from c13)).symm ((r13.up hB13 (Ex.of s14))) ((((s10.trans s11).trans s12).trans s13).trans s14) hB14
      · refine k_val val_c ?_
        exact k _ _ _ (if_neg (show ¬ fitsB Kd.mirrored t = true from (by rw [show fitsB Kd.mirrored t = false from c13]; exact Bool.false_ne_true))).symm (rnon) ((((s10.trans s11).trans s12).trans s13).trans s14) hB14
    · replace ht : SzT n t := ht
      replace hn1 : 1 ≤ n := hn1
      replace hn : n + 1 ≤ 8000 := hn
      replace k : ∀ d v H', d = (ownD Kd.stretched t : D) → Rep K G.M H' d v → Same H H' → G.B H' → Q v H' := k
      obtain ⟨v0_0, _, rfl, r0_0, rt0⟩ := cons_of r
      replace r0_0 : Rep K G.M H (.str (("stretched" : Str))) v0_0 := r0_0
      obtain rfl := str_of r0_0
      obtain ⟨v0_1, _, rfl, r0_1, rt1⟩ := cons_of rt0
      replace r0_1 : Rep K G.M H (tbT (t)) v0_1 := r0_1
      obtain rfl := nil_of rt1
      with_reducible refine k_seq ?_
      with_reducible refine k_set ?_
      with_reducible refine k_ifE ?_
      with_reducible refine k_T ?_
      refine k_val (v_eqSf (val_var rfl) val_c) ?_
      refine ⟨_, rfl, ?_⟩
      refine iteF ?_
      with_reducible refine k_ifE ?_
      with_reducible refine k_T ?_
      with_reducible refine k_opX ?_
      refine k_val (val_var rfl) ?_
      with_reducible refine k_tup ?_
      refine k_arg val_c ?_
      refine k_arg val_c ?_
      with_reducible refine k_nil ?_
      refine k_tup_end hB (rcons (rstr _) (rcons (rstr _) (rnil (K := K)))) (fun v15 H15 r15 s15 hB15 => ?_)
      refine f_inT (ss := [("turned" : Str), ("mirrored" : Str)]) (b := false) (r15) (by decide +kernel) ?_
      refine ⟨_, rfl, ?_⟩
      refine iteF ?_
      with_reducible refine k_lst ?_
      with_reducible refine k_argX ?_
      with_reducible refine k_opX ?_
      refine k_val (val_var rfl) ?_
      refine k_val val_c ?_
      refine f_ixT (k := 0) ((r0_1.up hB (Ex.of s15))) rfl (fun w14 rw14 => ?_)
      with_reducible refine k_argX ?_
      with_reducible refine k_opX ?_
      refine k_val (val_var rfl) ?_
      refine k_val val_c ?_
      refine f_ixT (k := 3) ((r0_1.up hB (Ex.of s15))) rfl (fun w15 rw15 => ?_)
      with_reducible refine k_nil ?_
      refine k_lst_end hB15 (rcons (rw14) (rcons (rw15) (rnil (K := K)))) (fun v16 H16 r16 s16 hB16 => ?_)
      with_reducible refine k_seq ?_
      with_reducible refine k_set ?_
      with_reducible refine k_sl ?_
      refine k_val (val_var rfl) ?_
      with_reducible refine k_noPart ?_
      with_reducible refine k_part ?_
      with_reducible refine k_call ?_
      refine k_arg (val_var rfl) ?_
      with_reducible refine k_nil ?_
      refine k_spF Kd.stretched hB16 (rcons (rstr _) (rnil (K := K))) trivial (fun v17 H17 r17 s17 hB17 => ?_)
      obtain rfl := int_of (i := (2 : Int)) r17
      refine ⟨_, rfl, ?_⟩
      refine f_slL (n := 2) hB17 ((r16.up hB16 (Ex.of s17))) (fun v18 H18 r18 s18 hB18 => ?_)
      replace r18 : Rep K G.M H18 (.lst [(fr ((t).a)), (fr ((t).d))]) v18 := r18
      with_reducible refine k_ret ?_
      with_reducible refine k_ifE ?_
      with_reducible refine k_T ?_
      with_reducible refine k_opX ?_
      with_reducible refine k_call ?_
      refine k_arg (val_var rfl) ?_
      refine k_arg (val_var rfl) ?_
      with_reducible refine k_nil ?_
      have zf16 : SzT (max n 1) (filled (Kd.stretched) ((t).a) ((t).d) ((0 : Rat)) ((0 : Rat))) := szT_filled (Kd.stretched) (by first | omega | (dsimp only; omega)) (((ht).1).mono (by first | omega | (dsimp only; omega))) (((ht).2.2.2).mono (by first | omega | (dsimp only; omega))) (((szr_lit 1 (0 : Rat))).mono (by first | omega | (dsimp only; omega))) (((szr_lit 1 (0 : Rat))).mono (by first | omega | (dsimp only; omega)))
      refine k_spF (Kd.stretched, (t).a, (t).d, (0 : Rat), (0 : Rat), (max n 1)) hB18 (rcons (rstr _) (rcons (r18) (rnil (K := K)))) ⟨((ht).1).mono (by first | omega | (dsimp only; omega)), ((ht).2.2.2).mono (by first | omega | (dsimp only; omega)), ((szr_lit 1 (0 : Rat))).mono (by first | omega | (dsimp only; omega)), ((szr_lit 1 (0 : Rat))).mono (by first | omega | (dsimp only; omega)), (by first | omega | (dsimp only; omega)), (by first | omega | (dsimp only; omega))⟩ (fun v19 H19 r19 s19 hB19 => ?_)
      replace r19 : Rep K G.M H19 (tbT (filled (Kd.stretched) ((t).a) ((t).d) ((0 : Rat)) ((0 : Rat)))) v19 := r19
      refine k_val (val_var rfl) ?_
      have q17 := (((((r0_1.up hB (Ex.of s15)).up hB15 (Ex.of s16)).up hB16 (Ex.of s17)).up hB17 (Ex.of s18)).up hB18 (Ex.of s19))
      refine f_eqD (r19) (q17) (eqv_tb (filled (Kd.stretched) ((t).a) ((t).d) ((0 : Rat)) ((0 : Rat))) (t)) ?_
      refine ⟨_, rfl, ?_⟩
      refine k_ite (fun c18 => ?_) (fun c18 => ?_)
      · refine k_val (val_var rfl) ?_
        exact k _ _ _ (if_pos (show fitsB Kd.stretched t = true from c18)).symm ((r18.up hB18 (Ex.of s19))) ((((s15.trans s16).trans s17).trans s18).trans s19) hB19
      · refine k_val val_c ?_
        exact k _ _ _ (if_neg (show ¬ fitsB Kd.stretched t = true from (by rw [show fitsB Kd.stretched t = false from c18]; exact Bool.false_ne_true))).symm (rnon) ((((s15.trans s16).trans s17).trans s18).trans s19) hB19
    · replace ht : SzT n t := ht
      replace hn1 : 1 ≤ n := hn1
      replace hn : n + 1 ≤ 8000 := hn
      replace k : ∀ d v H', d = (ownD Kd.sized t : D) → Rep K G.M H' d v → Same H H' → G.B H' → Q v H' := k
      obtain ⟨v0_0, _, rfl, r0_0, rt0⟩ := cons_of r
      replace r0_0 : Rep K G.M H (.str (("sized" : Str))) v0_0 := r0_0
      obtain rfl := str_of r0_0
      obtain ⟨v0_1, _, rfl, r0_1, rt1⟩ := cons_of rt0
      replace r0_1 : Rep K G.M H (tbT (t)) v0_1 := r0_1
      obtain rfl := nil_of rt1
      with_reducible refine k_seq ?_
      with_reducible refine k_set ?_
      with_reducible refine k_ifE ?_
      with_reducible refine k_T ?_
      refine k_val (v_eqSf (val_var rfl) val_c) ?_
      refine ⟨_, rfl, ?_⟩
      refine iteF ?_
      with_reducible refine k_ifE ?_
      with_reducible refine k_T ?_
      with_reducible refine k_opX ?_
      refine k_val (val_var rfl) ?_
      with_reducible refine k_tup ?_
      refine k_arg val_c ?_
      refine k_arg val_c ?_
      with_reducible refine k_nil ?_
      refine k_tup_end hB (rcons (rstr _) (rcons (rstr _) (rnil (K := K)))) (fun v20 H20 r20 s20 hB20 => ?_)
      refine f_inT (ss := [("turned" : Str), ("mirrored" : Str)]) (b := false) (r20) (by decide +kernel) ?_
      refine ⟨_, rfl, ?_⟩
      refine iteF ?_
      with_reducible refine k_lst ?_
      with_reducible refine k_argX ?_
      with_reducible refine k_opX ?_
      refine k_val (val_var rfl) ?_
      refine k_val val_c ?_
      refine f_ixT (k := 0) ((r0_1.up hB (Ex.of s20))) rfl (fun w19 rw19 => ?_)
      with_reducible refine k_argX ?_
      with_reducible refine k_opX ?_
      refine k_val (val_var rfl) ?_
      refine k_val val_c ?_
      refine f_ixT (k := 3) ((r0_1.up hB (Ex.of s20))) rfl (fun w20 rw20 => ?_)
      with_reducible refine k_nil ?_
      refine k_lst_end hB20 (rcons (rw19) (rcons (rw20) (rnil (K := K)))) (fun v21 H21 r21 s21 hB21 => ?_)
      with_reducible refine k_seq ?_
      with_reducible refine k_set ?_
      with_reducible refine k_sl ?_
      refine k_val (val_var rfl) ?_
      with_reducible refine k_noPart ?_
      with_reducible refine k_part ?_
      with_reducible refine k_call ?_
      refine k_arg (val_var rfl) ?_
      with_reducible refine k_nil ?_
      refine k_spF Kd.sized hB21 (rcons (rstr _) (rnil (K := K))) trivial (fun v22 H22 r22 s22 hB22 => ?_)
      obtain rfl := int_of (i := (1 : Int)) r22
      refine ⟨_, rfl, ?_⟩
      refine f_slL (n := 1) hB22 ((r21.up hB21 (Ex.of s22))) (fun v23 H23 r23 s23 hB23 => ?_)
      replace r23 : Rep K G.M H23 (.lst [(fr ((t).a))]) v23 := r23
      with_reducible refine k_ret ?_
      with_reducible refine k_ifE ?_
      with_reducible refine k_T ?_
      with_reducible refine k_opX ?_
      with_reducible refine k_call ?_
      refine k_arg (val_var rfl) ?_
      refine k_arg (val_var rfl) ?_
      with_reducible refine k_nil ?_
      have zf21 : SzT (max n 1) (filled (Kd.sized) ((t).a) ((0 : Rat)) ((0 : Rat)) ((0 : Rat))) := szT_filled (Kd.sized) (by first | omega | (dsimp only; omega)) (((ht).1).mono (by first | omega | (dsimp only; omega))) (((szr_lit 1 (0 : Rat))).mono (by first | omega | (dsimp only; omega))) (((szr_lit 1 (0 : Rat))).mono (by first | omega | (dsimp only; omega))) (((szr_lit 1 (0 : Rat))).mono (by first | omega | (dsimp only; omega)))
      refine k_spF (Kd.sized, (t).a, (0 : Rat), (0 : Rat), (0 : Rat), (max n 1)) hB23 (rcons (rstr _) (rcons (r23) (rnil (K := K)))) ⟨((ht).1).mono (by first | omega | (dsimp only; omega)), ((szr_lit 1 (0 : Rat))).mono (by first | omega | (dsimp only; omega)), ((szr_lit 1 (0 : Rat))).mono (by first | omega | (dsimp only; omega)), ((szr_lit 1 (0 : Rat))).mono (by first | omega | (dsimp only; omega)), (by first | omega | (dsimp only; omega)), (by first | omega | (dsimp only; omega))⟩ (fun v24 H24 r24 s24 hB24 => ?_)
      replace r24 : Rep K G.M H24 (tbT (filled (Kd.sized) ((t).a) ((0 : Rat)) ((0 : Rat)) ((0 : Rat)))) v24 := r24
      refine k_val (val_var rfl) ?_
      have q22 := (((((r0_1.up hB (Ex.of s20)).up hB20 (Ex.of s21)).up hB21 (Ex.of s22)).up hB22 (Ex.of s23)).up hB23 (Ex.of s24))
      refine f_eqD (r24) (q22) (eqv_tb (filled (Kd.sized) ((t).a) ((0 : Rat)) ((0 : Rat)) ((0 : Rat))) (t)) ?_
      refine ⟨_, rfl, ?_⟩
      refine k_ite (fun c23 => ?_) (fun c23 => ?_)
      · refine k_val (val_var rfl) ?_
        exact k _ _ _ (if_pos (show fitsB Kd.sized t = true from c23)).symm ((r23.up hB23 (Ex.of s24))) ((((s20.trans s21).trans s22).trans s23).trans s24) hB24
      · refine k_val val_c ?_
        exact k _ _ _ (if_neg (show ¬ fitsB Kd.sized t = true from (by rw [show fitsB Kd.sized t = false from c23]; exact Bool.false_ne_true))).symm (rnon) ((((s20.trans s21).trans s22).trans s23).trans s24) hB24
    · replace ht : SzT n t := ht
      replace hn1 : 1 ≤ n := hn1
      replace hn : n + 1 ≤ 8000 := hn
      replace k : ∀ d v H', d = (ownD Kd.even t : D) → Rep K G.M H' d v → Same H H' → G.B H' → Q v H' := k
      obtain ⟨v0_0, _, rfl, r0_0, rt0⟩ := cons_of r
      replace r0_0 : Rep K G.M H (.str (("even" : Str))) v0_0 := r0_0
      obtain rfl := str_of r0_0
      obtain ⟨v0_1, _, rfl, r0_1, rt1⟩ := cons_of rt0
      replace r0_1 : Rep K G.M H (tbT (t)) v0_1 := r0_1
      obtain rfl := nil_of rt1
      with_reducible refine k_seq ?_
      with_reducible refine k_set ?_
      with_reducible refine k_ifE ?_
      with_reducible refine k_T ?_
      refine k_val (v_eqSf (val_var rfl) val_c) ?_
      refine ⟨_, rfl, ?_⟩
      refine iteF ?_
      with_reducible refine k_ifE ?_
      with_reducible refine k_T ?_
      with_reducible refine k_opX ?_
      refine k_val (val_var rfl) ?_
      with_reducible refine k_tup ?_
      refine k_arg val_c ?_
      refine k_arg val_c ?_
      with_reducible refine k_nil ?_
      refine k_tup_end hB (rcons (rstr _) (rcons (rstr _) (rnil (K := K)))) (fun v25 H25 r25 s25 hB25 => ?_)
      refine f_inT (ss := [("turned" : Str), ("mirrored" : Str)]) (b := false) (r25) (by decide +kernel) ?_
      refine ⟨_, rfl, ?_⟩
      refine iteF ?_
      with_reducible refine k_lst ?_
      with_reducible refine k_argX ?_
      with_reducible refine k_opX ?_
      refine k_val (val_var rfl) ?_
      refine k_val val_c ?_
      refine f_ixT (k := 0) ((r0_1.up hB (Ex.of s25))) rfl (fun w24 rw24 => ?_)
      with_reducible refine k_argX ?_
      with_reducible refine k_opX ?_
      refine k_val (val_var rfl) ?_
      refine k_val val_c ?_
      refine f_ixT (k := 3) ((r0_1.up hB (Ex.of s25))) rfl (fun w25 rw25 => ?_)
      with_reducible refine k_nil ?_
      refine k_lst_end hB25 (rcons (rw24) (rcons (rw25) (rnil (K := K)))) (fun v26 H26 r26 s26 hB26 => ?_)
      with_reducible refine k_seq ?_
      with_reducible refine k_set ?_
      with_reducible refine k_sl ?_
      refine k_val (val_var rfl) ?_
      with_reducible refine k_noPart ?_
      with_reducible refine k_part ?_
      with_reducible refine k_call ?_
      refine k_arg (val_var rfl) ?_
      with_reducible refine k_nil ?_
      refine k_spF Kd.even hB26 (rcons (rstr _) (rnil (K := K))) trivial (fun v27 H27 r27 s27 hB27 => ?_)
      obtain rfl := int_of (i := (1 : Int)) r27
      refine ⟨_, rfl, ?_⟩
      refine f_slL (n := 1) hB27 ((r26.up hB26 (Ex.of s27))) (fun v28 H28 r28 s28 hB28 => ?_)
      replace r28 : Rep K G.M H28 (.lst [(fr ((t).a))]) v28 := r28
      with_reducible refine k_ret ?_
      with_reducible refine k_ifE ?_
      with_reducible refine k_T ?_
      with_reducible refine k_opX ?_
      with_reducible refine k_call ?_
      refine k_arg (val_var rfl) ?_
      refine k_arg (val_var rfl) ?_
      with_reducible refine k_nil ?_
      have zf26 : SzT (max n 1) (filled (Kd.even) ((t).a) ((0 : Rat)) ((0 : Rat)) ((0 : Rat))) := szT_filled (Kd.even) (by first | omega | (dsimp only; omega)) (((ht).1).mono (by first | omega | (dsimp only; omega))) (((szr_lit 1 (0 : Rat))).mono (by first | omega | (dsimp only; omega))) (((szr_lit 1 (0 : Rat))).mono (by first | omega | (dsimp only; omega))) (((szr_lit 1 (0 : Rat))).mono (by first | omega | (dsimp only; omega)))
      refine k_spF (Kd.even, (t).a, (0 : Rat), (0 : Rat), (0 : Rat), (max n 1)) hB28 (rcons (rstr _) (rcons (r28) (rnil (K := K)))) ⟨((ht).1).mono (by first | omega | (dsimp only; omega)), ((szr_lit 1 (0 : Rat))).mono (by first | omega | (dsimp only; omega)), ((szr_lit 1 (0 : Rat))).mono (by first | omega | (dsimp only; omega)), ((szr_lit 1 (0 : Rat))).mono (by first | omega | (dsimp only; omega)), (by first | omega | (dsimp only; omega)), (by first | omega | (dsimp only; omega))⟩ (fun v29 H29 r29 s29 hB29 => ?_)
      replace r29 : Rep K G.M H29 (tbT (filled (Kd.even) ((t).a) ((0 : Rat)) ((0 : Rat)) ((0 : Rat)))) v29 := r29
      refine k_val (val_var rfl) ?_
      have q27 := (((((r0_1.up hB (Ex.of s25)).up hB25 (Ex.of s26)).up hB26 (Ex.of s27)).up hB27 (Ex.of s28)).up hB28 (Ex.of s29))
      refine f_eqD (r29) (q27) (eqv_tb (filled (Kd.even) ((t).a) ((0 : Rat)) ((0 : Rat)) ((0 : Rat))) (t)) ?_
      refine ⟨_, rfl, ?_⟩
      refine k_ite (fun c28 => ?_) (fun c28 => ?_)
      · refine k_val (val_var rfl) ?_
        exact k _ _ _ (if_pos (show fitsB Kd.even t = true from c28)).symm ((r28.up hB28 (Ex.of s29))) ((((s25.trans s26).trans s27).trans s28).trans s29) hB29
      · refine k_val val_c ?_
        exact k _ _ _ (if_neg (show ¬ fitsB Kd.even t = true from (by rw [show fitsB Kd.even t = false from c28]; exact Bool.false_ne_true))).symm (rnon) ((((s25.trans s26).trans s27).trans s28).trans s29) hB29
def sp__law_made (K : PySem.W.Frag) (C : Addr) : Sp := spF K (α := Tb) (fun x => [tbT (x)]) (fun x => True) (fun x => (tbI C x : D))
theorem has__law_made {C : Addr} (T : Tx K mg) (Y : TabTx K mg w C) : ∃ f fd, Fun K "_law_made" "_law_made" s__law_made f fd ∧ mg "_law_made" = some (.ref f) ∧ Binds K fd ["_law_t"] [] ∧ FnOk P w K mg base CX0 5 f fd ["_law_t"] (sp__law_made K C) := by
  obtain ⟨f, fd, F, M⟩ := T._law_made
  obtain ⟨f_T, fd_T, mk_T, B_T, G_T⟩ := has_init (P := P) (w := w) (base := base) T Y
  refine ⟨f, fd, F, M, F.binds (ps := ["_law_t"]) (fun _ _ _ _ _ _ us hl => match us, hl with | [_], _ => rfl), F.ok sc__law_made (fun vs H Q E h => ?_) (fun cdv A outer s H vs Q E hr h => ?_)⟩
  · obtain ⟨G, x, hB, r, hp, q⟩ := h; rw [r.len]; rfl
  · obtain ⟨G, t, hB, r, _, k⟩ := h
    refine ⟨_, (pss_one (ps_ret (pe_make mk_T G_T (hr.mono (by decide)) (by rfl) Y.g B_T .nil pass0 (pa_cons (pe_ix (ix_tupK (K := K)) (pv 0) pe_int (fun _ _ => rfl)) (pa_cons (pe_ix (ix_tupK (K := K)) (pv 0) pe_int (fun _ _ => rfl)) (pa_cons (pe_ix (ix_tupK (K := K)) (pv 0) pe_int (fun _ _ => rfl)) (pa_cons (pe_ix (ix_tupK (K := K)) (pv 0) pe_int (fun _ _ => rfl)) pa_nil))))))), ?_⟩
    replace k : ∀ d v H', d = (tbI C t : D) → Rep K G.M H' d v → Same H H' → G.B H' → Q v H' := k
    obtain ⟨v0_0, _, rfl, r0_0, rt0⟩ := cons_of r
    replace r0_0 : Rep K G.M H (tbT (t)) v0_0 := r0_0
    obtain rfl := nil_of rt0
    with_reducible refine k_ret ?_
    with_reducible refine k_make ?_
    with_reducible refine k_argX ?_
    with_reducible refine k_opX ?_
    refine k_val (val_var rfl) ?_
    refine k_val val_c ?_
    refine f_ixT (k := 0) (r0_0) rfl (fun w1 rw1 => ?_)
    with_reducible refine k_argX ?_
    with_reducible refine k_opX ?_
    refine k_val (val_var rfl) ?_
    refine k_val val_c ?_
    refine f_ixT (k := 1) (r0_0) rfl (fun w2 rw2 => ?_)
    with_reducible refine k_argX ?_
    with_reducible refine k_opX ?_
    refine k_val (val_var rfl) ?_
    refine k_val val_c ?_
    refine f_ixT (k := 2) (r0_0) rfl (fun w3 rw3 => ?_)
    with_reducible refine k_argX ?_
    with_reducible refine k_opX ?_
    refine k_val (val_var rfl) ?_
    refine k_val val_c ?_
    refine f_ixT (k := 3) (r0_0) rfl (fun w4 rw4 => ?_)
    with_reducible refine k_nil ?_
    refine k_make_end hB (rcons (rw1) (rcons (rw2) (rcons (rw3) (rcons (rw4) (rnil (K := K)))))) (fun v1 H1 r1 s1 hB1 => ?_)
    replace r1 : Rep K G.M H1 (tbD C ((t).a) ((t).b) ((t).c) ((t).d)) v1 := r1
    exact k _ _ _ rfl (r1) s1 hB1
def sp__law_units (K : PySem.W.Frag) : Sp := spF K (α := Kd) (fun x => [.str ((kdS x))]) (fun x => True) (fun x => (.lst ((units x).map tbT) : D))
theorem has__law_units (T : Tx K mg) : Has P w K mg base CX0 "_law_units" s__law_units ["_law_word"] 5 (sp__law_units K) := by
  obtain ⟨f, fd, F, M⟩ := T._law_units
  obtain ⟨f__law_many, fd__law_many, F__law_many, M__law_many, B__law_many, G__law_many⟩ := has__law_many (P := P) (w := w) (base := base) T
  obtain ⟨f__law_filled, fd__law_filled, F__law_filled, M__law_filled, B__law_filled, G__law_filled⟩ := has__law_filled (P := P) (w := w) (base := base) T
  refine ⟨f, fd, F, M, F.binds (ps := ["_law_word"]) (fun _ _ _ _ _ _ us hl => match us, hl with | [_], _ => rfl), F.ok sc__law_units (fun vs H Q E h => ?_) (fun cdv A outer s H vs Q E hr h => ?_)⟩
  · obtain ⟨G, x, hB, r, hp, q⟩ := h; rw [r.len]; rfl
  · obtain ⟨G, kd, hB, r, _, k⟩ := h
    refine ⟨_, (pss_cons (ps_set (i := 1) sc__law_units.nd rfl (.inr rfl) (pe_call G__law_many (hr.mono (by decide)) (by rfl) M__law_many F__law_many.kp B__law_many .nil pass0 (pa_cons (pv 0) pa_nil))) (pss_one (ps_ret (pe_lc (own := [("_law_i", 2)]) (g := gName 2) (tt := tYes) (by rfl) sc__law_units.nd (pi_range1 (by rfl) T.range (pa_cons (pv 1) pa_nil)) (blkOk_by (own := [("_law_i", 2)]) (N := ["_law_word", "_law_many_here", "_law_i", "_law_k"]) (sc := (defScope s__law_units)) (by decide +kernel)) (fun _ _ _ _ _ => pg_name (i := 2) sc__law_units.nd rfl (.inr rfl)) (fun _ _ _ _ _ => pts_nil) (fun _ _ _ _ _ => (pe_call G__law_filled (hr.mono (by decide)) (by rfl) M__law_filled F__law_filled.kp B__law_filled .nil pass0 (pa_cons (pv 0) (pa_cons (pe_lc (own := [("_law_k", 3)]) (g := gName 3) (tt := tYes) (by rfl) sc__law_units.nd (pi_range1 (by rfl) T.range (pa_cons (pv 1) pa_nil)) (blkOk_by (own := [("_law_k", 3)]) (N := ["_law_word", "_law_many_here", "_law_i", "_law_k"]) (sc := {kind := PySem.ScopeKind.function, names := [((PySem.Str.ofString ".0"), PySem.NameKind.local), ((PySem.Str.ofString "_law_i"), PySem.NameKind.cell), ((PySem.Str.ofString "_law_filled"), PySem.NameKind.globalImplicit), ((PySem.Str.ofString "range"), PySem.NameKind.globalImplicit), ((PySem.Str.ofString "_law_many_here"), PySem.NameKind.cell), ((PySem.Str.ofString "_law_word"), PySem.NameKind.cell)], isGenerator := false, isCoroutine := false, more := [] : PySem.Scope}) (by decide +kernel)) (fun _ _ _ _ _ => pg_name (i := 3) sc__law_units.nd rfl (.inl rfl)) (fun _ _ _ _ _ => pts_nil) (fun _ _ _ _ _ => (pe_tup (pa_cons (pe_callTy call_int1 (by rfl) T.int (by decide +kernel) (pa_cons (pe_cmpR op_eq (pv 3) (pv 2) (nomark _)) pa_nil)) (pa_cons pe_int pa_nil))))) pa_nil)))))))), ?_⟩
    cases kd
    · replace k : ∀ d v H', d = (.lst ((units Kd.slanted).map tbT) : D) → Rep K G.M H' d v → Same H H' → G.B H' → Q v H' := k
      obtain ⟨v0_0, _, rfl, r0_0, rt0⟩ := cons_of r
      replace r0_0 : Rep K G.M H (.str (("slanted" : Str))) v0_0 := r0_0
      obtain rfl := str_of r0_0
      obtain rfl := nil_of rt0
      with_reducible refine k_seq ?_
      with_reducible refine k_set ?_
      with_reducible refine k_call ?_
      refine k_arg (val_var rfl) ?_
      with_reducible refine k_nil ?_
      refine k_spF Kd.slanted hB (rcons (rstr _) (rnil (K := K))) trivial (fun v1 H1 r1 s1 hB1 => ?_)
      obtain rfl := int_of (i := (4 : Int)) r1
      with_reducible refine k_ret ?_
      with_reducible refine k_lcr ?_
      refine k_arg (val_var rfl) ?_
      with_reducible refine k_nil ?_
      refine k_lcRE (K := K) (n := 4) (j := 2) (vs := [2]) (noM) (fun _ m => m.elim) (by decide) hB1 (fun i x => x = tbT (unitT Kd.slanted i)) (by intro _; rfl) (fun dc1 ic1 Hc1 hic1 nc1 hBc1 ec1 Qc1 kc1 => ?_) (fun ds1 vd1 He1 l1 p1 r1 e1 be1 => ?_) rfl
      · have hB2 := Bg.enterB hB1 nc1
        have nd2 := nc1
        have hB3 := hBc1
        have e3 := ec1
        with_reducible refine k_call ?_
        refine k_arg (val_var rfl) ?_
        with_reducible refine k_argX ?_
        with_reducible refine k_lcr ?_
        refine k_arg (val_var rfl) ?_
        with_reducible refine k_nil ?_
        refine k_lcRE (K := K) (n := 4) (j := 3) (vs := [3]) (noM) (fun _ m => m.elim) (by decide) hB3 (fun j x => x = fr (dlt j ic1)) (by intro _; rfl) (fun dc2 ic2 Hc2 hic2 nc2 hBc2 ec2 Qc2 kc2 => ?_) (fun ds2 vd2 He2 l2 p2 r2 e2 be2 => ?_) rfl
        · have hB4 := Bg.enterB hB3 nc2
          have nd4 := nc2
          have hB5 := hBc2
          have e5 := ec2
          with_reducible refine k_tup ?_
          refine k_arg (v_intB (v_eqI (val_var rfl) (val_var rfl))) ?_
          refine k_arg val_c ?_
          with_reducible refine k_nil ?_
          refine k_tup_end hB5 (rcons (rint _) (rcons (rint _) (rnil (K := K)))) (fun v6 H6 r6 s6 hB6 => ?_)
          exact kc2 _ _ _ (fr_b2i ic2 ic1) (r6) (Ex.of s6) hB6
        · have s7 := same_of e2
          have hB7 := be2
          have q2 := eq_mapRange (e := fun j => fr (dlt j ic1)) l2 p2
          have r7 : Rep K (G.plus dc1).M He2 (.lst [fr (dlt 0 ic1), fr (dlt 1 ic1), fr (dlt 2 ic1), fr (dlt 3 ic1)]) vd2 := by rw [q2] at r2; exact r2
          with_reducible refine k_nil ?_
          have zf3 : SzT 1 (filled (Kd.slanted) ((dlt 0 ic1)) ((dlt 1 ic1)) ((dlt 2 ic1)) ((dlt 3 ic1))) := szT_filled (Kd.slanted) (by first | omega | (dsimp only; omega)) (((szr_dlt 0 ic1)).mono (by first | omega | (dsimp only; omega))) (((szr_dlt 1 ic1)).mono (by first | omega | (dsimp only; omega))) (((szr_dlt 2 ic1)).mono (by first | omega | (dsimp only; omega))) (((szr_dlt 3 ic1)).mono (by first | omega | (dsimp only; omega)))
          refine k_spF (Kd.slanted, (dlt 0 ic1), (dlt 1 ic1), (dlt 2 ic1), (dlt 3 ic1), 1) hB7 (rcons (rstr _) (rcons (r7) (rnil (K := K)))) ⟨((szr_dlt 0 ic1)).mono (by first | omega | (dsimp only; omega)), ((szr_dlt 1 ic1)).mono (by first | omega | (dsimp only; omega)), ((szr_dlt 2 ic1)).mono (by first | omega | (dsimp only; omega)), ((szr_dlt 3 ic1)).mono (by first | omega | (dsimp only; omega)), (by first | omega | (dsimp only; omega)), (by first | omega | (dsimp only; omega))⟩ (fun v8 H8 r8 s8 hB8 => ?_)
          replace r8 : Rep K (G.plus dc1).M H8 (tbT (filled (Kd.slanted) ((dlt 0 ic1)) ((dlt 1 ic1)) ((dlt 2 ic1)) ((dlt 3 ic1)))) v8 := r8
          exact kc1 _ _ _ rfl (r8) (Ex.of (s7.trans s8)) hB8
      · have s9 := same_of e1
        have hB9 := be1
        have q1 := eq_mapRange (e := fun i => tbT (unitT Kd.slanted i)) l1 p1
        have r9 : Rep K G.M He1 (.lst ((units Kd.slanted).map tbT)) vd1 := by rw [q1] at r1; exact r1
        exact k _ _ _ rfl (r9) (s1.trans s9) hB9
    · replace k : ∀ d v H', d = (.lst ((units Kd.turned).map tbT) : D) → Rep K G.M H' d v → Same H H' → G.B H' → Q v H' := k
      obtain ⟨v0_0, _, rfl, r0_0, rt0⟩ := cons_of r
      replace r0_0 : Rep K G.M H (.str (("turned" : Str))) v0_0 := r0_0
      obtain rfl := str_of r0_0
      obtain rfl := nil_of rt0
      with_reducible refine k_seq ?_
      with_reducible refine k_set ?_
      with_reducible refine k_call ?_
      refine k_arg (val_var rfl) ?_
      with_reducible refine k_nil ?_
      refine k_spF Kd.turned hB (rcons (rstr _) (rnil (K := K))) trivial (fun v10 H10 r10 s10 hB10 => ?_)
      obtain rfl := int_of (i := (2 : Int)) r10
      with_reducible refine k_ret ?_
      with_reducible refine k_lcr ?_
      refine k_arg (val_var rfl) ?_
      with_reducible refine k_nil ?_
      refine k_lcRE (K := K) (n := 2) (j := 2) (vs := [2]) (noM) (fun _ m => m.elim) (by decide) hB10 (fun i x => x = tbT (unitT Kd.turned i)) (by intro _; rfl) (fun dc4 ic4 Hc4 hic4 nc4 hBc4 ec4 Qc4 kc4 => ?_) (fun ds4 vd4 He4 l4 p4 r4 e4 be4 => ?_) rfl
      · have hB11 := Bg.enterB hB10 nc4
        have nd11 := nc4
        have hB12 := hBc4
        have e12 := ec4
        with_reducible refine k_call ?_
        refine k_arg (val_var rfl) ?_
        with_reducible refine k_argX ?_
        with_reducible refine k_lcr ?_
        refine k_arg (val_var rfl) ?_
        with_reducible refine k_nil ?_
        refine k_lcRE (K := K) (n := 2) (j := 3) (vs := [3]) (noM) (fun _ m => m.elim) (by decide) hB12 (fun j x => x = fr (dlt j ic4)) (by intro _; rfl) (fun dc5 ic5 Hc5 hic5 nc5 hBc5 ec5 Qc5 kc5 => ?_) (fun ds5 vd5 He5 l5 p5 r5 e5 be5 => ?_) rfl
        · have hB13 := Bg.enterB hB12 nc5
          have nd13 := nc5
          have hB14 := hBc5
          have e14 := ec5
          with_reducible refine k_tup ?_
          refine k_arg (v_intB (v_eqI (val_var rfl) (val_var rfl))) ?_
          refine k_arg val_c ?_
          with_reducible refine k_nil ?_
          refine k_tup_end hB14 (rcons (rint _) (rcons (rint _) (rnil (K := K)))) (fun v15 H15 r15 s15 hB15 => ?_)
          exact kc5 _ _ _ (fr_b2i ic5 ic4) (r15) (Ex.of s15) hB15
        · have s16 := same_of e5
          have hB16 := be5
          have q5 := eq_mapRange (e := fun j => fr (dlt j ic4)) l5 p5
          have r16 : Rep K (G.plus dc4).M He5 (.lst [fr (dlt 0 ic4), fr (dlt 1 ic4)]) vd5 := by rw [q5] at r5; exact r5
          with_reducible refine k_nil ?_
          have zf6 : SzT 1 (filled (Kd.turned) ((dlt 0 ic4)) ((dlt 1 ic4)) ((0 : Rat)) ((0 : Rat))) := szT_filled (Kd.turned) (by first | omega | (dsimp only; omega)) (((szr_dlt 0 ic4)).mono (by first | omega | (dsimp only; omega))) (((szr_dlt 1 ic4)).mono (by first | omega | (dsimp only; omega))) (((szr_lit 1 (0 : Rat))).mono (by first | omega | (dsimp only; omega))) (((szr_lit 1 (0 : Rat))).mono (by first | omega | (dsimp only; omega)))
          refine k_spF (Kd.turned, (dlt 0 ic4), (dlt 1 ic4), (0 : Rat), (0 : Rat), 1) hB16 (rcons (rstr _) (rcons (r16) (rnil (K := K)))) ⟨((szr_dlt 0 ic4)).mono (by first | omega | (dsimp only; omega)), ((szr_dlt 1 ic4)).mono (by first | omega | (dsimp only; omega)), ((szr_lit 1 (0 : Rat))).mono (by first | omega | (dsimp only; omega)), ((szr_lit 1 (0 : Rat))).mono (by first | omega | (dsimp only; omega)), (by first | omega | (dsimp only; omega)), (by first | omega | (dsimp only; omega))⟩ (fun v17 H17 r17 s17 hB17 => ?_)
          replace r17 : Rep K (G.plus dc4).M H17 (tbT (filled (Kd.turned) ((dlt 0 ic4)) ((dlt 1 ic4)) ((0 : Rat)) ((0 : Rat)))) v17 := r17
          exact kc4 _ _ _ rfl (r17) (Ex.of (s16.trans s17)) hB17
      · have s18 := same_of e4
        have hB18 := be4
        have q4 := eq_mapRange (e := fun i => tbT (unitT Kd.turned i)) l4 p4
        have r18 : Rep K G.M He4 (.lst ((units Kd.turned).map tbT)) vd4 := by rw [q4] at r4; exact r4
        exact k _ _ _ rfl (r18) (s10.trans s18) hB18
    · replace k : ∀ d v H', d = (.lst ((units Kd.mirrored).map tbT) : D) → Rep K G.M H' d v → Same H H' → G.B H' → Q v H' := k
      obtain ⟨v0_0, _, rfl, r0_0, rt0⟩ := cons_of r
      replace r0_0 : Rep K G.M H (.str (("mirrored" : Str))) v0_0 := r0_0
      obtain rfl := str_of r0_0
      obtain rfl := nil_of rt0
      with_reducible refine k_seq ?_
      with_reducible refine k_set ?_
      with_reducible refine k_call ?_
      refine k_arg (val_var rfl) ?_
      with_reducible refine k_nil ?_
      refine k_spF Kd.mirrored hB (rcons (rstr _) (rnil (K := K))) trivial (fun v19 H19 r19 s19 hB19 => ?_)
      obtain rfl := int_of (i := (2 : Int)) r19
      with_reducible refine k_ret ?_
      with_reducible refine k_lcr ?_
      refine k_arg (val_var rfl) ?_
      with_reducible refine k_nil ?_
      refine k_lcRE (K := K) (n := 2) (j := 2) (vs := [2]) (noM) (fun _ m => m.elim) (by decide) hB19 (fun i x => x = tbT (unitT Kd.mirrored i)) (by intro _; rfl) (fun dc7 ic7 Hc7 hic7 nc7 hBc7 ec7 Qc7 kc7 => ?_) (fun ds7 vd7 He7 l7 p7 r7 e7 be7 => ?_) rfl
      · have hB20 := Bg.enterB hB19 nc7
        have nd20 := nc7
        have hB21 := hBc7
        have e21 := ec7
        with_reducible refine k_call ?_
        refine k_arg (val_var rfl) ?_
        with_reducible refine k_argX ?_
        with_reducible refine k_lcr ?_
        refine k_arg (val_var rfl) ?_
        with_reducible refine k_nil ?_
        refine k_lcRE (K := K) (n := 2) (j := 3) (vs := [3]) (noM) (fun _ m => m.elim) (by decide) hB21 (fun j x => x = fr (dlt j ic7)) (by intro _; rfl) (fun dc8 ic8 Hc8 hic8 nc8 hBc8 ec8 Qc8 kc8 => ?_) (fun ds8 vd8 He8 l8 p8 r8 e8 be8 => ?_) rfl
        · have hB22 := Bg.enterB hB21 nc8
          have nd22 := nc8
          have hB23 := hBc8
          have e23 := ec8
          with_reducible refine k_tup ?_
          refine k_arg (v_intB (v_eqI (val_var rfl) (val_var rfl))) ?_
          refine k_arg val_c ?_
          with_reducible refine k_nil ?_
          refine k_tup_end hB23 (rcons (rint _) (rcons (rint _) (rnil (K := K)))) (fun v24 H24 r24 s24 hB24 => ?_)
          exact kc8 _ _ _ (fr_b2i ic8 ic7) (r24) (Ex.of s24) hB24
        · have s25 := same_of e8
          have hB25 := be8
          have q8 := eq_mapRange (e := fun j => fr (dlt j ic7)) l8 p8
          have r25 : Rep K (G.plus dc7).M He8 (.lst [fr (dlt 0 ic7), fr (dlt 1 ic7)]) vd8 := by rw [q8] at r8; exact r8
          with_reducible refine k_nil ?_
          have zf9 : SzT 1 (filled (Kd.mirrored) ((dlt 0 ic7)) ((dlt 1 ic7)) ((0 : Rat)) ((0 : Rat))) := szT_filled (Kd.mirrored) (by first | omega | (dsimp only; omega)) (((szr_dlt 0 ic7)).mono (by first | omega | (dsimp only; omega))) (((szr_dlt 1 ic7)).mono (by first | omega | (dsimp only; omega))) (((szr_lit 1 (0 : Rat))).mono (by first | omega | (dsimp only; omega))) (((szr_lit 1 (0 : Rat))).mono (by first | omega | (dsimp only; omega)))
          refine k_spF (Kd.mirrored, (dlt 0 ic7), (dlt 1 ic7), (0 : Rat), (0 : Rat), 1) hB25 (rcons (rstr _) (rcons (r25) (rnil (K := K)))) ⟨((szr_dlt 0 ic7)).mono (by first | omega | (dsimp only; omega)), ((szr_dlt 1 ic7)).mono (by first | omega | (dsimp only; omega)), ((szr_lit 1 (0 : Rat))).mono (by first | omega | (dsimp only; omega)), ((szr_lit 1 (0 : Rat))).mono (by first | omega | (dsimp only; omega)), (by first | omega | (dsimp only; omega)), (by first | omega | (dsimp only; omega))⟩ (fun v26 H26 r26 s26 hB26 => ?_)
          replace r26 : Rep K (G.plus dc7).M H26 (tbT (filled (Kd.mirrored) ((dlt 0 ic7)) ((dlt 1 ic7)) ((0 : Rat)) ((0 : Rat)))) v26 := r26
          exact kc7 _ _ _ rfl (r26) (Ex.of (s25.trans s26)) hB26
      · have s27 := same_of e7
        have hB27 := be7
        have q7 := eq_mapRange (e := fun i => tbT (unitT Kd.mirrored i)) l7 p7
        have r27 : Rep K G.M He7 (.lst ((units Kd.mirrored).map tbT)) vd7 := by rw [q7] at r7; exact r7
        exact k _ _ _ rfl (r27) (s19.trans s27) hB27
    · replace k : ∀ d v H', d = (.lst ((units Kd.stretched).map tbT) : D) → Rep K G.M H' d v → Same H H' → G.B H' → Q v H' := k
      obtain ⟨v0_0, _, rfl, r0_0, rt0⟩ := cons_of r
      replace r0_0 : Rep K G.M H (.str (("stretched" : Str))) v0_0 := r0_0
      obtain rfl := str_of r0_0
      obtain rfl := nil_of rt0
      with_reducible refine k_seq ?_
      with_reducible refine k_set ?_
      with_reducible refine k_call ?_
      refine k_arg (val_var rfl) ?_
      with_reducible refine k_nil ?_
      refine k_spF Kd.stretched hB (rcons (rstr _) (rnil (K := K))) trivial (fun v28 H28 r28 s28 hB28 => ?_)
      obtain rfl := int_of (i := (2 : Int)) r28
      with_reducible refine k_ret ?_
      with_reducible refine k_lcr ?_
      refine k_arg (val_var rfl) ?_
      with_reducible refine k_nil ?_
      refine k_lcRE (K := K) (n := 2) (j := 2) (vs := [2]) (noM) (fun _ m => m.elim) (by decide) hB28 (fun i x => x = tbT (unitT Kd.stretched i)) (by intro _; rfl) (fun dc10 ic10 Hc10 hic10 nc10 hBc10 ec10 Qc10 kc10 => ?_) (fun ds10 vd10 He10 l10 p10 r10 e10 be10 => ?_) rfl
      · have hB29 := Bg.enterB hB28 nc10
        have nd29 := nc10
        have hB30 := hBc10
        have e30 := ec10
        with_reducible refine k_call ?_
        refine k_arg (val_var rfl) ?_
        with_reducible refine k_argX ?_
        with_reducible refine k_lcr ?_
        refine k_arg (val_var rfl) ?_
        with_reducible refine k_nil ?_
        refine k_lcRE (K := K) (n := 2) (j := 3) (vs := [3]) (noM) (fun _ m => m.elim) (by decide) hB30 (fun j x => x = fr (dlt j ic10)) (by intro _; rfl) (fun dc11 ic11 Hc11 hic11 nc11 hBc11 ec11 Qc11 kc11 => ?_) (fun ds11 vd11 He11 l11 p11 r11 e11 be11 => ?_) rfl
        · have hB31 := Bg.enterB hB30 nc11
          have nd31 := nc11
          have hB32 := hBc11
          have e32 := ec11
          with_reducible refine k_tup ?_
          refine k_arg (v_intB (v_eqI (val_var rfl) (val_var rfl))) ?_
          refine k_arg val_c ?_
          with_reducible refine k_nil ?_
          refine k_tup_end hB32 (rcons (rint _) (rcons (rint _) (rnil (K := K)))) (fun v33 H33 r33 s33 hB33 => ?_)
          exact kc11 _ _ _ (fr_b2i ic11 ic10) (r33) (Ex.of s33) hB33
        · have s34 := same_of e11
          have hB34 := be11
          have q11 := eq_mapRange (e := fun j => fr (dlt j ic10)) l11 p11
          have r34 : Rep K (G.plus dc10).M He11 (.lst [fr (dlt 0 ic10), fr (dlt 1 ic10)]) vd11 := by rw [q11] at r11; exact r11
          with_reducible refine k_nil ?_
          have zf12 : SzT 1 (filled (Kd.stretched) ((dlt 0 ic10)) ((dlt 1 ic10)) ((0 : Rat)) ((0 : Rat))) := szT_filled (Kd.stretched) (by first | omega | (dsimp only; omega)) (((szr_dlt 0 ic10)).mono (by first | omega | (dsimp only; omega))) (((szr_dlt 1 ic10)).mono (by first | omega | (dsimp only; omega))) (((szr_lit 1 (0 : Rat))).mono (by first | omega | (dsimp only; omega))) (((szr_lit 1 (0 : Rat))).mono (by first | omega | (dsimp only; omega)))
          refine k_spF (Kd.stretched, (dlt 0 ic10), (dlt 1 ic10), (0 : Rat), (0 : Rat), 1) hB34 (rcons (rstr _) (rcons (r34) (rnil (K := K)))) ⟨((szr_dlt 0 ic10)).mono (by first | omega | (dsimp only; omega)), ((szr_dlt 1 ic10)).mono (by first | omega | (dsimp only; omega)), ((szr_lit 1 (0 : Rat))).mono (by first | omega | (dsimp only; omega)), ((szr_lit 1 (0 : Rat))).mono (by first | omega | (dsimp only; omega)), (by first | omega | (dsimp only; omega)), (by first | omega | (dsimp only; omega))⟩ (fun v35 H35 r35 s35 hB35 => ?_)
          replace r35 : Rep K (G.plus dc10).M H35 (tbT (filled (Kd.stretched) ((dlt 0 ic10)) ((dlt 1 ic10)) ((0 : Rat)) ((0 : Rat)))) v35 := r35
          exact kc10 _ _ _ rfl (r35) (Ex.of (s34.trans s35)) hB35
      · have s36 := same_of e10
        have hB36 := be10
        have q10 := eq_mapRange (e := fun i => tbT (unitT Kd.stretched i)) l10 p10
        have r36 : Rep K G.M He10 (.lst ((units Kd.stretched).map tbT)) vd10 := by rw [q10] at r10; exact r10
        exact k _ _ _ rfl (r36) (s28.trans s36) hB36
    · replace k : ∀ d v H', d = (.lst ((units Kd.sized).map tbT) : D) → Rep K G.M H' d v → Same H H' → G.B H' → Q v H' := k
      obtain ⟨v0_0, _, rfl, r0_0, rt0⟩ := cons_of r
      replace r0_0 : Rep K G.M H (.str (("sized" : Str))) v0_0 := r0_0
      obtain rfl := str_of r0_0
      obtain rfl := nil_of rt0
      with_reducible refine k_seq ?_
      with_reducible refine k_set ?_
      with_reducible refine k_call ?_
      refine k_arg (val_var rfl) ?_
      with_reducible refine k_nil ?_
      refine k_spF Kd.sized hB (rcons (rstr _) (rnil (K := K))) trivial (fun v37 H37 r37 s37 hB37 => ?_)
      obtain rfl := int_of (i := (1 : Int)) r37
      with_reducible refine k_ret ?_
      with_reducible refine k_lcr ?_
      refine k_arg (val_var rfl) ?_
      with_reducible refine k_nil ?_
      refine k_lcRE (K := K) (n := 1) (j := 2) (vs := [2]) (noM) (fun _ m => m.elim) (by decide) hB37 (fun i x => x = tbT (unitT Kd.sized i)) (by intro _; rfl) (fun dc13 ic13 Hc13 hic13 nc13 hBc13 ec13 Qc13 kc13 => ?_) (fun ds13 vd13 He13 l13 p13 r13 e13 be13 => ?_) rfl
      · have hB38 := Bg.enterB hB37 nc13
        have nd38 := nc13
        have hB39 := hBc13
        have e39 := ec13
        with_reducible refine k_call ?_
        refine k_arg (val_var rfl) ?_
        with_reducible refine k_argX ?_
        with_reducible refine k_lcr ?_
        refine k_arg (val_var rfl) ?_
        with_reducible refine k_nil ?_
        refine k_lcRE (K := K) (n := 1) (j := 3) (vs := [3]) (noM) (fun _ m => m.elim) (by decide) hB39 (fun j x => x = fr (dlt j ic13)) (by intro _; rfl) (fun dc14 ic14 Hc14 hic14 nc14 hBc14 ec14 Qc14 kc14 => ?_) (fun ds14 vd14 He14 l14 p14 r14 e14 be14 => ?_) rfl
        · have hB40 := Bg.enterB hB39 nc14
          have nd40 := nc14
          have hB41 := hBc14
          have e41 := ec14
          with_reducible refine k_tup ?_
          refine k_arg (v_intB (v_eqI (val_var rfl) (val_var rfl))) ?_
          refine k_arg val_c ?_
          with_reducible refine k_nil ?_
          refine k_tup_end hB41 (rcons (rint _) (rcons (rint _) (rnil (K := K)))) (fun v42 H42 r42 s42 hB42 => ?_)
          exact kc14 _ _ _ (fr_b2i ic14 ic13) (r42) (Ex.of s42) hB42
        · have s43 := same_of e14
          have hB43 := be14
          have q14 := eq_mapRange (e := fun j => fr (dlt j ic13)) l14 p14
          have r43 : Rep K (G.plus dc13).M He14 (.lst [fr (dlt 0 ic13)]) vd14 := by rw [q14] at r14; exact r14
          with_reducible refine k_nil ?_
          have zf15 : SzT 1 (filled (Kd.sized) ((dlt 0 ic13)) ((0 : Rat)) ((0 : Rat)) ((0 : Rat))) := szT_filled (Kd.sized) (by first | omega | (dsimp only; omega)) (((szr_dlt 0 ic13)).mono (by first | omega | (dsimp only; omega))) (((szr_lit 1 (0 : Rat))).mono (by first | omega | (dsimp only; omega))) (((szr_lit 1 (0 : Rat))).mono (by first | omega | (dsimp only; omega))) (((szr_lit 1 (0 : Rat))).mono (by first | omega | (dsimp only; omega)))
          refine k_spF (Kd.sized, (dlt 0 ic13), (0 : Rat), (0 : Rat), (0 : Rat), 1) hB43 (rcons (rstr _) (rcons (r43) (rnil (K := K)))) ⟨((szr_dlt 0 ic13)).mono (by first | omega | (dsimp only; omega)), ((szr_lit 1 (0 : Rat))).mono (by first | omega | (dsimp only; omega)), ((szr_lit 1 (0 : Rat))).mono (by first | omega | (dsimp only; omega)), ((szr_lit 1 (0 : Rat))).mono (by first | omega | (dsimp only; omega)), (by first | omega | (dsimp only; omega)), (by first | omega | (dsimp only; omega))⟩ (fun v44 H44 r44 s44 hB44 => ?_)
          replace r44 : Rep K (G.plus dc13).M H44 (tbT (filled (Kd.sized) ((dlt 0 ic13)) ((0 : Rat)) ((0 : Rat)) ((0 : Rat)))) v44 := r44
          exact kc13 _ _ _ rfl (r44) (Ex.of (s43.trans s44)) hB44
      · have s45 := same_of e13
        have hB45 := be13
        have q13 := eq_mapRange (e := fun i => tbT (unitT Kd.sized i)) l13 p13
        have r45 : Rep K G.M He13 (.lst ((units Kd.sized).map tbT)) vd13 := by rw [q13] at r13; exact r13
        exact k _ _ _ rfl (r45) (s37.trans s45) hB45
    · replace k : ∀ d v H', d = (.lst ((units Kd.even).map tbT) : D) → Rep K G.M H' d v → Same H H' → G.B H' → Q v H' := k
      obtain ⟨v0_0, _, rfl, r0_0, rt0⟩ := cons_of r
      replace r0_0 : Rep K G.M H (.str (("even" : Str))) v0_0 := r0_0
      obtain rfl := str_of r0_0
      obtain rfl := nil_of rt0
      with_reducible refine k_seq ?_
      with_reducible refine k_set ?_
      with_reducible refine k_call ?_
      refine k_arg (val_var rfl) ?_
      with_reducible refine k_nil ?_
      refine k_spF Kd.even hB (rcons (rstr _) (rnil (K := K))) trivial (fun v46 H46 r46 s46 hB46 => ?_)
      obtain rfl := int_of (i := (1 : Int)) r46
      with_reducible refine k_ret ?_
      with_reducible refine k_lcr ?_
      refine k_arg (val_var rfl) ?_
      with_reducible refine k_nil ?_
      refine k_lcRE (K := K) (n := 1) (j := 2) (vs := [2]) (noM) (fun _ m => m.elim) (by decide) hB46 (fun i x => x = tbT (unitT Kd.even i)) (by intro _; rfl) (fun dc16 ic16 Hc16 hic16 nc16 hBc16 ec16 Qc16 kc16 => ?_) (fun ds16 vd16 He16 l16 p16 r16 e16 be16 => ?_) rfl
      · have hB47 := Bg.enterB hB46 nc16
        have nd47 := nc16
        have hB48 := hBc16
        have e48 := ec16
        with_reducible refine k_call ?_
        refine k_arg (val_var rfl) ?_
        with_reducible refine k_argX ?_
        with_reducible refine k_lcr ?_
        refine k_arg (val_var rfl) ?_
        with_reducible refine k_nil ?_
        refine k_lcRE (K := K) (n := 1) (j := 3) (vs := [3]) (noM) (fun _ m => m.elim) (by decide) hB48 (fun j x => x = fr (dlt j ic16)) (by intro _; rfl) (fun dc17 ic17 Hc17 hic17 nc17 hBc17 ec17 Qc17 kc17 => ?_) (fun ds17 vd17 He17 l17 p17 r17 e17 be17 => ?_) rfl
        · have hB49 := Bg.enterB hB48 nc17
          have nd49 := nc17
          have hB50 := hBc17
          have e50 := ec17
          with_reducible refine k_tup ?_
          refine k_arg (v_intB (v_eqI (val_var rfl) (val_var rfl))) ?_
          refine k_arg val_c ?_
          with_reducible refine k_nil ?_
          refine k_tup_end hB50 (rcons (rint _) (rcons (rint _) (rnil (K := K)))) (fun v51 H51 r51 s51 hB51 => ?_)
          exact kc17 _ _ _ (fr_b2i ic17 ic16) (r51) (Ex.of s51) hB51
        · have s52 := same_of e17
          have hB52 := be17
          have q17 := eq_mapRange (e := fun j => fr (dlt j ic16)) l17 p17
          have r52 : Rep K (G.plus dc16).M He17 (.lst [fr (dlt 0 ic16)]) vd17 := by rw [q17] at r17; exact r17
          with_reducible refine k_nil ?_
          have zf18 : SzT 1 (filled (Kd.even) ((dlt 0 ic16)) ((0 : Rat)) ((0 : Rat)) ((0 : Rat))) := szT_filled (Kd.even) (by first | omega | (dsimp only; omega)) (((szr_dlt 0 ic16)).mono (by first | omega | (dsimp only; omega))) (((szr_lit 1 (0 : Rat))).mono (by first | omega | (dsimp only; omega))) (((szr_lit 1 (0 : Rat))).mono (by first | omega | (dsimp only; omega))) (((szr_lit 1 (0 : Rat))).mono (by first | omega | (dsimp only; omega)))
          refine k_spF (Kd.even, (dlt 0 ic16), (0 : Rat), (0 : Rat), (0 : Rat), 1) hB52 (rcons (rstr _) (rcons (r52) (rnil (K := K)))) ⟨((szr_dlt 0 ic16)).mono (by first | omega | (dsimp only; omega)), ((szr_lit 1 (0 : Rat))).mono (by first | omega | (dsimp only; omega)), ((szr_lit 1 (0 : Rat))).mono (by first | omega | (dsimp only; omega)), ((szr_lit 1 (0 : Rat))).mono (by first | omega | (dsimp only; omega)), (by first | omega | (dsimp only; omega)), (by first | omega | (dsimp only; omega))⟩ (fun v53 H53 r53 s53 hB53 => ?_)
          replace r53 : Rep K (G.plus dc16).M H53 (tbT (filled (Kd.even) ((dlt 0 ic16)) ((0 : Rat)) ((0 : Rat)) ((0 : Rat)))) v53 := r53
          exact kc16 _ _ _ rfl (r53) (Ex.of (s52.trans s53)) hB53
      · have s54 := same_of e16
        have hB54 := be16
        have q16 := eq_mapRange (e := fun i => tbT (unitT Kd.even i)) l16 p16
        have r54 : Rep K G.M He16 (.lst ((units Kd.even).map tbT)) vd16 := by rw [q16] at r16; exact r16
        exact k _ _ _ rfl (r54) (s46.trans s54) hB54
def sp__law_stays (K : PySem.W.Frag) : Sp := spF K (α := Kd × Tb × Kd × Nat) (fun x => [.str ((kdS x.1)), tbT (x.2.1), .str ((kdS x.2.2.1))]) (fun x => SzT x.2.2.2 x.2.1 ∧ 1 ≤ x.2.2.2 ∧ 2 * x.2.2.2 + 4 ≤ 8000) (fun x => (.bl ((staysB x.1 x.2.1 x.2.2.1)) : D))
theorem has__law_stays (T : Tx K mg) : Has P w K mg base CX0 "_law_stays" s__law_stays ["_law_word", "_law_t", "_law_far"] 6 (sp__law_stays K) := by
  obtain ⟨f, fd, F, M⟩ := T._law_stays
  obtain ⟨f__law_units, fd__law_units, F__law_units, M__law_units, B__law_units, G__law_units⟩ := has__law_units (P := P) (w := w) (base := base) T
  obtain ⟨f__law_read_off, fd__law_read_off, F__law_read_off, M__law_read_off, B__law_read_off, G__law_read_off⟩ := has__law_read_off (P := P) (w := w) (base := base) T
  obtain ⟨f__law_after, fd__law_after, F__law_after, M__law_after, B__law_after, G__law_after⟩ := has__law_after (P := P) (w := w) (base := base) T
  refine ⟨f, fd, F, M, F.binds (ps := ["_law_word", "_law_t", "_law_far"]) (fun _ _ _ _ _ _ us hl => match us, hl with | [_, _, _], _ => rfl), F.ok sc__law_stays (fun vs H Q E h => ?_) (fun cdv A outer s H vs Q E hr h => ?_)⟩
  · obtain ⟨G, x, hB, r, hp, q⟩ := h; rw [r.len]; rfl
  · obtain ⟨G, ⟨kd, t, o, n⟩, hB, r, ⟨ht, hn1, hn⟩, k⟩ := h
    refine ⟨_, (pss_one (ps_ret (pe_callB (cr_all (by rfl)) (by rfl) T.all (by decide +kernel) (pa_cons (pe_lc (own := [("_law_s", 3)]) (g := gName 3) (tt := tYes) (by rfl) sc__law_stays.nd (pi_listK (K := K) (pe_call G__law_units (hr.mono (by decide)) (by rfl) M__law_units F__law_units.kp B__law_units .nil pass0 (pa_cons (pv 0) pa_nil))) (blkOk_by (own := [("_law_s", 3)]) (N := ["_law_word", "_law_t", "_law_far", "_law_s"]) (sc := (defScope s__law_stays)) (by decide +kernel)) (fun _ _ _ _ _ => pg_name (i := 3) sc__law_stays.nd rfl (.inl rfl)) (fun _ _ _ _ _ => pts_nil) (fun _ _ _ _ _ => (pe_cmpR op_notN1 (pe_call G__law_read_off (hr.mono (by decide)) (by rfl) M__law_read_off F__law_read_off.kp B__law_read_off .nil pass0 (pa_cons (pv 2) (pa_cons (pe_call G__law_after (hr.mono (by decide)) (by rfl) M__law_after F__law_after.kp B__law_after .nil pass0 (pa_cons (pv 3) (pa_cons (pv 1) pa_nil))) pa_nil))) pe_non (nomark _)))) pa_nil)))), ?_⟩
    replace ht : SzT n t := ht
    replace hn1 : 1 ≤ n := hn1
    replace hn : 2 * n + 4 ≤ 8000 := hn
    replace k : ∀ d v H', d = (.bl ((staysB kd t o)) : D) → Rep K G.M H' d v → Same H H' → G.B H' → Q v H' := k
    obtain ⟨v0_0, _, rfl, r0_0, rt0⟩ := cons_of r
    replace r0_0 : Rep K G.M H (.str ((kdS kd))) v0_0 := r0_0
    obtain rfl := str_of r0_0
    obtain ⟨v0_1, _, rfl, r0_1, rt1⟩ := cons_of rt0
    replace r0_1 : Rep K G.M H (tbT (t)) v0_1 := r0_1
    obtain ⟨v0_2, _, rfl, r0_2, rt2⟩ := cons_of rt1
    replace r0_2 : Rep K G.M H (.str ((kdS o))) v0_2 := r0_2
    obtain rfl := str_of r0_2
    obtain rfl := nil_of rt2
    with_reducible refine k_ret ?_
    with_reducible refine k_cb ?_
    with_reducible refine k_argX ?_
    with_reducible refine k_lcl ?_
    with_reducible refine k_call ?_
    refine k_arg (val_var rfl) ?_
    with_reducible refine k_nil ?_
    refine k_spF kd hB (rcons (rstr _) (rnil (K := K))) trivial (fun v1 H1 r1 s1 hB1 => ?_)
    replace r1 : Rep K G.M H1 (.lst ((units (kd)).map tbT)) v1 := r1
    refine k_lcLE (K := K) (j := 3) (vs := [3]) (noM) (fun _ m => m.elim) (by rw [List.length_map]; exact units_len _) hB1 (r1) (fun i x => ∀ a, (units kd)[i]? = some a → x = .bl (fitsB o (mulT a (t)))) (by intro _; rfl) (fun dc1 ic1 x1 w1 Hc1 hic1 nc1 hBc1 ec1 rx1 Qc1 kc1 => ?_) (fun ds1 vd1 He1 l1 p1 r1 e1 be1 => ?_)
    · have hB2 := Bg.enterB hB1 nc1
      have nd2 := nc1
      have hB3 := hBc1
      have e3 := ec1
      obtain ⟨u1, hu1, rfl, zu1⟩ := units_get hic1
      with_reducible refine k_opX ?_
      with_reducible refine k_call ?_
      refine k_arg (val_var rfl) ?_
      with_reducible refine k_argX ?_
      with_reducible refine k_call ?_
      refine k_arg (val_var rfl) ?_
      refine k_arg (val_var rfl) ?_
      with_reducible refine k_nil ?_
      have zt2a : SzT 1 (u1) := zu1
      have zt2b : SzT n (t) := ht
      have zt2 : SzT (2 * 1 + 2 * n + 1) (mulT (u1) (t)) := szT_mul zt2a zt2b (by first | omega | (dsimp only; omega))
      have q3 := (((r0_1.up hB (Ex.of s1)).enter hB1 nd2).up hB2 e3)
      refine k_spF (u1, t, 1, n) hB3 (rcons (rx1) (rcons (q3) (rnil (K := K)))) ⟨zt2a, zt2b, (by first | omega | (dsimp only; omega))⟩ (fun v4 H4 r4 s4 hB4 => ?_)
      replace r4 : Rep K (G.plus dc1).M H4 (tbT (mulT (u1) (t))) v4 := r4
      with_reducible refine k_nil ?_
      refine k_spF (o, mulT (u1) (t), (2 * 1 + 2 * n + 1)) hB4 (rcons (rstr _) (rcons (r4) (rnil (K := K)))) ⟨zt2, (by first | omega | (dsimp only; omega)), (by first | omega | (dsimp only; omega))⟩ (fun v5 H5 r5 s5 hB5 => ?_)
      replace r5 : Rep K (G.plus dc1).M H5 (ownD (o) (mulT (u1) (t))) v5 := r5
      refine k_val val_c ?_
      refine f_notN (b := (fitsB (o) (mulT (u1) (t)))) (r5) (own_none (o) (mulT (u1) (t))) ?_
      exact kc1 _ _ _ (fun a ha => by rw [hu1] at ha; cases ha; rfl) (rbl _) (Ex.of (s4.trans s5)) hB5
    · have s6 := same_of e1
      have hB6 := be1
      have q1 := eq_map (xs := units kd) (e := fun a => .bl (fitsB o (mulT a (t)))) (by rw [l1, List.length_map]) p1
      have r6 : Rep K G.M He1 (.lst (((units kd).map (fun a => fitsB o (mulT a (t)))).map .bl)) vd1 := by rw [q1] at r1; rw [List.map_map]; exact r1
      with_reducible refine k_nil ?_
      refine f_all (bs := ((units kd).map (fun a => fitsB o (mulT a (t))))) (r6) all_units ?_
      exact k _ _ _ rfl (rbl _) (s1.trans s6) hB6
def sp__law_narrow (K : PySem.W.Frag) : Sp := spF K (α := Kd × Kd) (fun x => [.str ((kdS x.1)), .str ((kdS x.2))]) (fun x => True) (fun x => (.bl ((narrowL x.1 x.2)) : D))
theorem has__law_narrow (T : Tx K mg) : Has P w K mg base CX0 "_law_narrow" s__law_narrow ["_law_word", "_law_far"] 7 (sp__law_narrow K) := by
  obtain ⟨f, fd, F, M⟩ := T._law_narrow
  obtain ⟨f__law_stays, fd__law_stays, F__law_stays, M__law_stays, B__law_stays, G__law_stays⟩ := has__law_stays (P := P) (w := w) (base := base) T
  obtain ⟨f__law_unit, fd__law_unit, F__law_unit, M__law_unit, B__law_unit, G__law_unit⟩ := has__law_unit (P := P) (w := w) (base := base) T
  refine ⟨f, fd, F, M, F.binds (ps := ["_law_word", "_law_far"]) (fun _ _ _ _ _ _ us hl => match us, hl with | [_, _], _ => rfl), F.ok sc__law_narrow (fun vs H Q E h => ?_) (fun cdv A outer s H vs Q E hr h => ?_)⟩
  · obtain ⟨G, x, hB, r, hp, q⟩ := h; rw [r.len]; rfl
  · obtain ⟨G, ⟨kd, o⟩, hB, r, _, k⟩ := h
    refine ⟨_, (pss_cons (ps_if (pt_cmpR op_eq (pv 1) pe_str (nomark _)) (pss_one (ps_ret (pe_cmpR op_eq (pv 0) pe_str (nomark _)))) pss_nil) (pss_one (ps_ret (pe_call G__law_stays (hr.mono (by decide)) (by rfl) M__law_stays F__law_stays.kp B__law_stays .nil pass0 (pa_cons (pv 0) (pa_cons (pe_call0 G__law_unit (hr.mono (by decide)) (by rfl) M__law_unit F__law_unit.kp B__law_unit .nil pass0) (pa_cons (pv 1) pa_nil))))))), ?_⟩
    replace k : ∀ d v H', d = (.bl ((narrowL kd o)) : D) → Rep K G.M H' d v → Same H H' → G.B H' → Q v H' := k
    obtain ⟨v0_0, _, rfl, r0_0, rt0⟩ := cons_of r
    replace r0_0 : Rep K G.M H (.str ((kdS kd))) v0_0 := r0_0
    obtain rfl := str_of r0_0
    obtain ⟨v0_1, _, rfl, r0_1, rt1⟩ := cons_of rt0
    replace r0_1 : Rep K G.M H (.str ((kdS o))) v0_1 := r0_1
    obtain rfl := str_of r0_1
    obtain rfl := nil_of rt1
    with_reducible refine k_seq ?_
    with_reducible refine k_ifX ?_
    with_reducible refine k_T ?_
    refine k_val (v_eqS (val_var rfl) val_c) ?_
    refine ⟨_, rfl, ?_⟩
    refine k_ite (fun c1 => ?_) (fun c1 => ?_)
    · with_reducible refine k_ret ?_
      refine k_val (v_eqS (val_var rfl) val_c) ?_
      exact k _ _ _ (congrArg D.bl (narrowL_even (k := kd) c1)) (rbl _) (Same.refl _) hB
    · with_reducible refine k_next ?_
      with_reducible refine k_ret ?_
      with_reducible refine k_call ?_
      refine k_arg (val_var rfl) ?_
      with_reducible refine k_argX ?_
      with_reducible refine k_call ?_
      with_reducible refine k_nil ?_
      refine k_spF () hB (rnil (K := K)) trivial (fun v1 H1 r1 s1 hB1 => ?_)
      replace r1 : Rep K G.M H1 (tbT (oneT)) v1 := r1
      refine k_arg (val_var rfl) ?_
      with_reducible refine k_nil ?_
      refine k_spF (kd, oneT, o, 1) hB1 (rcons (rstr _) (rcons (r1) (rcons (rstr _) (rnil (K := K))))) ⟨(⟨szr_lit 1 _, szr_lit 1 _, szr_lit 1 _, szr_lit 1 _⟩ : SzT 1 oneT), (by first | omega | (dsimp only; omega)), (by first | omega | (dsimp only; omega))⟩ (fun v2 H2 r2 s2 hB2 => ?_)
      obtain rfl := bl_of (b := (staysB (kd) (oneT) (o))) r2
      exact k _ _ _ (congrArg D.bl (narrowL_not (k := kd) c1)) (rbl _) (s1.trans s2) hB2
end
end Px

namespace Px
open PySem PySem.Spec PyProof.Rows L2
section
variable {P : Program} {w : World} {K : PySem.W.Frag} {mg : Str → Option Value} {base : Heap}
def sp__law_any (K : PySem.W.Frag) : Sp := spB K (α := Unit) (fun x => []) (fun x => True) (fun x d => ∃ t : Tb, d = tbT t ∧ SzT 150 t)
theorem has__law_any (T : Tx K mg) : Has P w K mg base CX0 "_law_any" s__law_any ["_law_bag_here"] 6 (sp__law_any K) := by
  obtain ⟨f, fd, F, M⟩ := T._law_any
  obtain ⟨f__law_pick, fd__law_pick, F__law_pick, M__law_pick, B__law_pick, G__law_pick⟩ := has__law_pick (P := P) (w := w) (base := base) T
  obtain ⟨f__law_words, fd__law_words, F__law_words, M__law_words, B__law_words, G__law_words⟩ := has__law_words (P := P) (w := w) (base := base) T
  obtain ⟨f__law_filled, fd__law_filled, F__law_filled, M__law_filled, B__law_filled, G__law_filled⟩ := has__law_filled (P := P) (w := w) (base := base) T
  obtain ⟨f__law_small, fd__law_small, F__law_small, M__law_small, B__law_small, G__law_small⟩ := has__law_small (P := P) (w := w) (base := base) T
  obtain ⟨f__law_many, fd__law_many, F__law_many, M__law_many, B__law_many, G__law_many⟩ := has__law_many (P := P) (w := w) (base := base) T
  obtain ⟨f__law_unit, fd__law_unit, F__law_unit, M__law_unit, B__law_unit, G__law_unit⟩ := has__law_unit (P := P) (w := w) (base := base) T
  obtain ⟨f__law_table, fd__law_table, F__law_table, M__law_table, B__law_table, G__law_table⟩ := has__law_table (P := P) (w := w) (base := base) T
  obtain ⟨f__law_after, fd__law_after, F__law_after, M__law_after, B__law_after, G__law_after⟩ := has__law_after (P := P) (w := w) (base := base) T
  refine ⟨f, fd, F, M, F.binds (ps := ["_law_bag_here"]) (fun _ _ _ _ _ _ us hl => match us, hl with | [_], _ => rfl), F.ok sc__law_any (fun vs H Q E h => ?_) (fun cdv A outer s H vs Q E hr h => ?_)⟩
  · obtain ⟨b, c, ns, G, x, vs', rfl, hg, hB, r, hp, q⟩ := h; rw [List.length_cons, r.len]; rfl
  · obtain ⟨b, c, ns, G, _, vs', rfl, hg, hB, r, _, k⟩ := h
    replace k : ∀ d v H', (∃ t : Tb, d = tbT t ∧ SzT 150 t) → Rep K G.M H' d v → Ex (onB b) H H' → G.B H' → Q v H' := k
    obtain rfl := nil_of r
    refine ⟨_, (pss_cons (ps_set (i := 1) sc__law_any.nd rfl (.inl rfl) (pe_call G__law_pick (hr.mono (by decide)) (by rfl) M__law_pick F__law_pick.kp B__law_pick .nil pass0 (pa_cons (pv 0) (pa_cons (pe_call0 G__law_words (hr.mono (by decide)) (by rfl) M__law_words F__law_words.kp B__law_words .nil pass0) pa_nil)))) (pss_cons (ps_set (i := 2) sc__law_any.nd rfl (.inl rfl) (pe_call G__law_filled (hr.mono (by decide)) (by rfl) M__law_filled F__law_filled.kp B__law_filled .nil pass0 (pa_cons (pv 1) (pa_cons (pe_lc (own := [("_law_k", 4)]) (g := gName 4) (tt := tYes) (by rfl) sc__law_any.nd (pi_range1 (by rfl) T.range (pa_cons (pe_call G__law_many (hr.mono (by decide)) (by rfl) M__law_many F__law_many.kp B__law_many .nil pass0 (pa_cons (pv 1) pa_nil)) pa_nil)) (blkOk_by (own := [("_law_k", 4)]) (N := ["_law_bag_here", "_law_word", "_law_t", "_law_zero", "_law_k"]) (sc := (defScope s__law_any)) (by decide +kernel)) (fun _ _ _ _ _ => pg_name (i := 4) sc__law_any.nd rfl (.inl rfl)) (fun _ _ _ _ _ => pts_nil) (fun _ _ _ _ _ => (pe_call G__law_small (hr.mono (by decide)) (by rfl) M__law_small F__law_small.kp B__law_small .nil pass0 (pa_cons (pv 0) pa_nil)))) pa_nil)))) (pss_cons (ps_set (i := 3) sc__law_any.nd rfl (.inl rfl) (pe_tup (pa_cons pe_int (pa_cons pe_int pa_nil)))) (pss_one (ps_ret (pe_call G__law_pick (hr.mono (by decide)) (by rfl) M__law_pick F__law_pick.kp B__law_pick .nil pass0 (pa_cons (pv 0) (pa_cons (pe_lst (pa_cons (pv 2) (pa_cons (pv 2) (pa_cons (pv 2) (pa_cons (pv 2) (pa_cons (pe_call0 G__law_unit (hr.mono (by decide)) (by rfl) M__law_unit F__law_unit.kp B__law_unit .nil pass0) (pa_cons (pe_tup (pa_cons (pv 3) (pa_cons (pv 3) (pa_cons (pv 3) (pa_cons (pv 3) pa_nil))))) (pa_cons (pe_tup (pa_cons (pv 3) (pa_cons (pe_tup (pa_cons pe_int (pa_cons pe_int pa_nil))) (pa_cons (pe_tup (pa_cons pe_int (pa_cons pe_int pa_nil))) (pa_cons (pv 3) pa_nil))))) (pa_cons (pe_call G__law_table (hr.mono (by decide)) (by rfl) M__law_table F__law_table.kp B__law_table .nil pass0 (pa_cons (pv 0) pa_nil)) (pa_cons (pe_call G__law_after (hr.mono (by decide)) (by rfl) M__law_after F__law_after.kp B__law_after .nil pass0 (pa_cons (pv 2) (pa_cons (pe_call G__law_table (hr.mono (by decide)) (by rfl) M__law_table F__law_table.kp B__law_table .nil pass0 (pa_cons (pv 0) pa_nil)) pa_nil))) pa_nil)))))))))) pa_nil)))))))), ?_⟩
    with_reducible refine k_seq ?_
    with_reducible refine k_set ?_
    with_reducible refine k_call ?_
    refine k_arg (val_var rfl) ?_
    with_reducible refine k_argX ?_
    with_reducible refine k_call ?_
    with_reducible refine k_nil ?_
    refine k_spF () hB (rnil (K := K)) trivial (fun v1 H1 r1 s1 hB1 => ?_)
    replace r1 : Rep K G.M H1 (.lst [.str ((kdS Kd.slanted)), .str ((kdS Kd.turned)), .str ((kdS Kd.mirrored)), .str ((kdS Kd.stretched)), .str ((kdS Kd.sized)), .str ((kdS Kd.even))]) v1 := r1
    with_reducible refine k_nil ?_
    refine k_spB [.str ((kdS Kd.slanted)), .str ((kdS Kd.turned)), .str ((kdS Kd.mirrored)), .str ((kdS Kd.stretched)), .str ((kdS Kd.sized)), .str ((kdS Kd.even))] hg hB1 (rcons (r1) (rnil (K := K))) ⟨Nat.succ_pos _, Nat.le_of_ble_eq_true rfl⟩ (fun d2 v2 H2 m2 r2 e2 hB2 => ?_)
    obtain ⟨kd2, rfl, z2⟩ : ∃ (kd2 : Kd), d2 = (.str ((kdS kd2)) : D) ∧ (True) := by
      simp only [List.mem_cons, List.not_mem_nil, or_false] at m2
      rcases m2 with rfl | rfl | rfl | rfl | rfl | rfl
      · exact ⟨Kd.slanted, rfl, trivial⟩
      · exact ⟨Kd.turned, rfl, trivial⟩
      · exact ⟨Kd.mirrored, rfl, trivial⟩
      · exact ⟨Kd.stretched, rfl, trivial⟩
      · exact ⟨Kd.sized, rfl, trivial⟩
      · exact ⟨Kd.even, rfl, trivial⟩
    obtain rfl := str_of r2
    with_reducible refine k_seq ?_
    with_reducible refine k_set ?_
    with_reducible refine k_call ?_
    refine k_arg (val_var rfl) ?_
    with_reducible refine k_argX ?_
    with_reducible refine k_lcr ?_
    with_reducible refine k_argX ?_
    with_reducible refine k_call ?_
    refine k_arg (val_var rfl) ?_
    with_reducible refine k_nil ?_
    refine k_spF kd2 hB2 (rcons (rstr _) (rnil (K := K))) trivial (fun v3 H3 r3 s3 hB3 => ?_)
    obtain rfl := int_of (i := ((ownN kd2 : Nat) : Int)) r3
    with_reducible refine k_nil ?_
    refine k_lcRE (K := K) (n := (ownN kd2)) (j := 4) (vs := [4]) ((onB b)) hg.on (ownN_le kd2) hB3 (fun i x => ∃ q, x = fr q ∧ SzR 24 q) (by intro _; rfl) (fun dc1 ic1 Hc1 hic1 nc1 hBc1 ec1 Qc1 kc1 => ?_) (fun ds1 vd1 He1 l1 p1 r1 e1 be1 => ?_) rfl
    · have hB4 := Bg.enterB hB3 nc1
      have nd4 := nc1
      have hB5 := hBc1
      have e5 := ec1
      with_reducible refine k_call ?_
      refine k_arg (val_var rfl) ?_
      with_reducible refine k_nil ?_
      refine k_spB () (hg.plus hB3 nc1) hB5 (rnil (K := K)) trivial (fun d6 v6 H6 p6 r6 e6 hB6 => ?_)
      obtain ⟨y0_6, rfl, z0_6⟩ := p6
      exact kc1 _ _ _ ⟨_, rfl, z0_6⟩ (r6) e6 hB6
    · have e7 := e1
      have hB7 := be1
      obtain ⟨ra1, rb1, rc1, rd1, q1, zra1, zrb1, zrc1, zrd1⟩ := nums_of (k := kd2) (by decide) l1 p1
      have r7 : Rep K G.M He1 (numsD (kd2) (ra1) (rb1) (rc1) (rd1)) vd1 := by rw [← q1]; exact r1
      with_reducible refine k_nil ?_
      have zf2 : SzT 24 (filled (kd2) (ra1) (rb1) (rc1) (rd1)) := szT_filled (kd2) (by first | omega | (dsimp only; omega)) ((zra1).mono (by first | omega | (dsimp only; omega))) ((zrb1).mono (by first | omega | (dsimp only; omega))) ((zrc1).mono (by first | omega | (dsimp only; omega))) ((zrd1).mono (by first | omega | (dsimp only; omega)))
      refine k_spF (kd2, ra1, rb1, rc1, rd1, 24) hB7 (rcons (rstr _) (rcons (r7) (rnil (K := K)))) ⟨(zra1).mono (by first | omega | (dsimp only; omega)), (zrb1).mono (by first | omega | (dsimp only; omega)), (zrc1).mono (by first | omega | (dsimp only; omega)), (zrd1).mono (by first | omega | (dsimp only; omega)), (by first | omega | (dsimp only; omega)), (by first | omega | (dsimp only; omega))⟩ (fun v8 H8 r8 s8 hB8 => ?_)
      replace r8 : Rep K G.M H8 (tbT (filled (kd2) (ra1) (rb1) (rc1) (rd1))) v8 := r8
      with_reducible refine k_seq ?_
      with_reducible refine k_set ?_
      with_reducible refine k_tup ?_
      refine k_arg val_c ?_
      refine k_arg val_c ?_
      with_reducible refine k_nil ?_
      refine k_tup_end hB8 (rcons (rint _) (rcons (rint _) (rnil (K := K)))) (fun v9 H9 r9 s9 hB9 => ?_)
      replace r9 : Rep K G.M H9 (fr (0 : Rat)) v9 := r9
      with_reducible refine k_ret ?_
      with_reducible refine k_call ?_
      refine k_arg (val_var rfl) ?_
      with_reducible refine k_argX ?_
      with_reducible refine k_lst ?_
      refine k_arg (val_var rfl) ?_
      refine k_arg (val_var rfl) ?_
      refine k_arg (val_var rfl) ?_
      refine k_arg (val_var rfl) ?_
      with_reducible refine k_argX ?_
      with_reducible refine k_call ?_
      with_reducible refine k_nil ?_
      refine k_spF () hB9 (rnil (K := K)) trivial (fun v10 H10 r10 s10 hB10 => ?_)
      replace r10 : Rep K G.M H10 (tbT (oneT)) v10 := r10
      with_reducible refine k_argX ?_
      with_reducible refine k_tup ?_
      refine k_arg (val_var rfl) ?_
      refine k_arg (val_var rfl) ?_
      refine k_arg (val_var rfl) ?_
      refine k_arg (val_var rfl) ?_
      with_reducible refine k_nil ?_
      refine k_tup_end hB10 (rcons ((r9.up hB9 (Ex.of s10))) (rcons ((r9.up hB9 (Ex.of s10))) (rcons ((r9.up hB9 (Ex.of s10))) (rcons ((r9.up hB9 (Ex.of s10))) (rnil (K := K)))))) (fun v11 H11 r11 s11 hB11 => ?_)
      with_reducible refine k_argX ?_
      with_reducible refine k_tup ?_
      refine k_arg (val_var rfl) ?_
      with_reducible refine k_argX ?_
      with_reducible refine k_tup ?_
      refine k_arg val_c ?_
      refine k_arg val_c ?_
      with_reducible refine k_nil ?_
      refine k_tup_end hB11 (rcons (rint _) (rcons (rint _) (rnil (K := K)))) (fun v12 H12 r12 s12 hB12 => ?_)
      replace r12 : Rep K G.M H12 (fr (1 : Rat)) v12 := r12
      with_reducible refine k_argX ?_
      with_reducible refine k_tup ?_
      refine k_arg val_c ?_
      refine k_arg val_c ?_
      with_reducible refine k_nil ?_
      refine k_tup_end hB12 (rcons (rint _) (rcons (rint _) (rnil (K := K)))) (fun v13 H13 r13 s13 hB13 => ?_)
      replace r13 : Rep K G.M H13 (fr (1 : Rat)) v13 := r13
      refine k_arg (val_var rfl) ?_
      with_reducible refine k_nil ?_
      have q3 := ((((r9.up hB9 (Ex.of s10)).up hB10 (Ex.of s11)).up hB11 (Ex.of s12)).up hB12 (Ex.of s13))
      refine k_tup_end hB13 (rcons (q3) (rcons ((r12.up hB12 (Ex.of s13))) (rcons (r13) (rcons (q3) (rnil (K := K)))))) (fun v14 H14 r14 s14 hB14 => ?_)
      with_reducible refine k_argX ?_
      with_reducible refine k_call ?_
      refine k_arg (val_var rfl) ?_
      with_reducible refine k_nil ?_
      refine k_spB () hg hB14 (rnil (K := K)) trivial (fun d15 v15 H15 p15 r15 e15 hB15 => ?_)
      obtain ⟨y0_15, y1_15, y2_15, y3_15, rfl, z0_15, z1_15, z2_15, z3_15⟩ := p15
      with_reducible refine k_argX ?_
      with_reducible refine k_call ?_
      refine k_arg (val_var rfl) ?_
      with_reducible refine k_argX ?_
      with_reducible refine k_call ?_
      refine k_arg (val_var rfl) ?_
      with_reducible refine k_nil ?_
      refine k_spB () hg hB15 (rnil (K := K)) trivial (fun d16 v16 H16 p16 r16 e16 hB16 => ?_)
      obtain ⟨y0_16, y1_16, y2_16, y3_16, rfl, z0_16, z1_16, z2_16, z3_16⟩ := p16
      with_reducible refine k_nil ?_
      have zt4a : SzT 24 (filled (kd2) (ra1) (rb1) (rc1) (rd1)) := zf2
      have zt4b : SzT 48 ((⟨y0_16, y1_16, y2_16, y3_16⟩ : Tb)) := ⟨(z0_16).mono (by first | omega | (dsimp only; omega)), (z1_16).mono (by first | omega | (dsimp only; omega)), (z2_16).mono (by first | omega | (dsimp only; omega)), (z3_16).mono (by first | omega | (dsimp only; omega))⟩
      have zt4 : SzT 145 (mulT (filled (kd2) (ra1) (rb1) (rc1) (rd1)) ((⟨y0_16, y1_16, y2_16, y3_16⟩ : Tb))) := szT_mul zt4a zt4b (by first | omega | (dsimp only; omega))
      have q5 := ((((((((r8.up hB8 (Ex.of s9)).up hB9 (Ex.of s10)).up hB10 (Ex.of s11)).up hB11 (Ex.of s12)).up hB12 (Ex.of s13)).up hB13 (Ex.of s14)).up hB14 (hg.up e15)).up hB15 (hg.up e16))
      refine k_spF (filled (kd2) (ra1) (rb1) (rc1) (rd1), (⟨y0_16, y1_16, y2_16, y3_16⟩ : Tb), 24, 48) hB16 (rcons (q5) (rcons (r16) (rnil (K := K)))) ⟨zt4a, zt4b, (by first | omega | (dsimp only; omega))⟩ (fun v17 H17 r17 s17 hB17 => ?_)
      replace r17 : Rep K G.M H17 (tbT (mulT (filled (kd2) (ra1) (rb1) (rc1) (rd1)) ((⟨y0_16, y1_16, y2_16, y3_16⟩ : Tb)))) v17 := r17
      with_reducible refine k_nil ?_
      have q6 := ((r15.up hB15 (hg.up e16)).up hB16 (Ex.of s17))
      have q7 := (((r14.up hB14 (hg.up e15)).up hB15 (hg.up e16)).up hB16 (Ex.of s17))
      have q8 := ((((((r11.up hB11 (Ex.of s12)).up hB12 (Ex.of s13)).up hB13 (Ex.of s14)).up hB14 (hg.up e15)).up hB15 (hg.up e16)).up hB16 (Ex.of s17))
      have q9 := (((((((r10.up hB10 (Ex.of s11)).up hB11 (Ex.of s12)).up hB12 (Ex.of s13)).up hB13 (Ex.of s14)).up hB14 (hg.up e15)).up hB15 (hg.up e16)).up hB16 (Ex.of s17))
      refine k_lst_end hB17 (rcons ((q5.up hB16 (Ex.of s17))) (rcons ((q5.up hB16 (Ex.of s17))) (rcons ((q5.up hB16 (Ex.of s17))) (rcons ((q5.up hB16 (Ex.of s17))) (rcons (q9) (rcons (q8) (rcons (q7) (rcons (q6) (rcons (r17) (rnil (K := K))))))))))) (fun v18 H18 r18 s18 hB18 => ?_)
      with_reducible refine k_nil ?_
      refine k_spB [tbT (filled (kd2) (ra1) (rb1) (rc1) (rd1)), tbT (filled (kd2) (ra1) (rb1) (rc1) (rd1)), tbT (filled (kd2) (ra1) (rb1) (rc1) (rd1)), tbT (filled (kd2) (ra1) (rb1) (rc1) (rd1)), tbT (oneT), .tup [(fr ((0 : Rat))), (fr ((0 : Rat))), (fr ((0 : Rat))), (fr ((0 : Rat)))], .tup [(fr ((0 : Rat))), (fr ((1 : Rat))), (fr ((1 : Rat))), (fr ((0 : Rat)))], .tup [(fr (y0_15)), (fr (y1_15)), (fr (y2_15)), (fr (y3_15))], tbT (mulT (filled (kd2) (ra1) (rb1) (rc1) (rd1)) ((⟨y0_16, y1_16, y2_16, y3_16⟩ : Tb)))] hg hB18 (rcons (r18) (rnil (K := K))) ⟨Nat.succ_pos _, Nat.le_of_ble_eq_true rfl⟩ (fun d19 v19 H19 m19 r19 e19 hB19 => ?_)
      obtain ⟨x19_0, x19_1, x19_2, x19_3, rfl, z19_0, z19_1, z19_2, z19_3⟩ : ∃ (x19_0 : Rat) (x19_1 : Rat) (x19_2 : Rat) (x19_3 : Rat), d19 = (.tup [(fr (x19_0)), (fr (x19_1)), (fr (x19_2)), (fr (x19_3))] : D) ∧ (SzR 145 x19_0) ∧ (SzR 145 x19_1) ∧ (SzR 145 x19_2) ∧ (SzR 145 x19_3) := by
        simp only [List.mem_cons, List.not_mem_nil, or_false] at m19
        rcases m19 with rfl | rfl | rfl | rfl | rfl | rfl | rfl | rfl | rfl
        · exact ⟨(filled (kd2) (ra1) (rb1) (rc1) (rd1)).a, (filled (kd2) (ra1) (rb1) (rc1) (rd1)).b, (filled (kd2) (ra1) (rb1) (rc1) (rd1)).c, (filled (kd2) (ra1) (rb1) (rc1) (rd1)).d, rfl, (((zf2).1).mono (by omega)), (((zf2).2.1).mono (by omega)), (((zf2).2.2.1).mono (by omega)), (((zf2).2.2.2).mono (by omega))⟩
        · exact ⟨(filled (kd2) (ra1) (rb1) (rc1) (rd1)).a, (filled (kd2) (ra1) (rb1) (rc1) (rd1)).b, (filled (kd2) (ra1) (rb1) (rc1) (rd1)).c, (filled (kd2) (ra1) (rb1) (rc1) (rd1)).d, rfl, (((zf2).1).mono (by omega)), (((zf2).2.1).mono (by omega)), (((zf2).2.2.1).mono (by omega)), (((zf2).2.2.2).mono (by omega))⟩
        · exact ⟨(filled (kd2) (ra1) (rb1) (rc1) (rd1)).a, (filled (kd2) (ra1) (rb1) (rc1) (rd1)).b, (filled (kd2) (ra1) (rb1) (rc1) (rd1)).c, (filled (kd2) (ra1) (rb1) (rc1) (rd1)).d, rfl, (((zf2).1).mono (by omega)), (((zf2).2.1).mono (by omega)), (((zf2).2.2.1).mono (by omega)), (((zf2).2.2.2).mono (by omega))⟩
        · exact ⟨(filled (kd2) (ra1) (rb1) (rc1) (rd1)).a, (filled (kd2) (ra1) (rb1) (rc1) (rd1)).b, (filled (kd2) (ra1) (rb1) (rc1) (rd1)).c, (filled (kd2) (ra1) (rb1) (rc1) (rd1)).d, rfl, (((zf2).1).mono (by omega)), (((zf2).2.1).mono (by omega)), (((zf2).2.2.1).mono (by omega)), (((zf2).2.2.2).mono (by omega))⟩
        · exact ⟨(oneT).a, (oneT).b, (oneT).c, (oneT).d, rfl, ((((⟨szr_lit 1 _, szr_lit 1 _, szr_lit 1 _, szr_lit 1 _⟩ : SzT 1 oneT)).1).mono (by omega)), ((((⟨szr_lit 1 _, szr_lit 1 _, szr_lit 1 _, szr_lit 1 _⟩ : SzT 1 oneT)).2.1).mono (by omega)), ((((⟨szr_lit 1 _, szr_lit 1 _, szr_lit 1 _, szr_lit 1 _⟩ : SzT 1 oneT)).2.2.1).mono (by omega)), ((((⟨szr_lit 1 _, szr_lit 1 _, szr_lit 1 _, szr_lit 1 _⟩ : SzT 1 oneT)).2.2.2).mono (by omega))⟩
        · exact ⟨(0 : Rat), (0 : Rat), (0 : Rat), (0 : Rat), rfl, (((szr_lit 1 (0 : Rat))).mono (by omega)), (((szr_lit 1 (0 : Rat))).mono (by omega)), (((szr_lit 1 (0 : Rat))).mono (by omega)), (((szr_lit 1 (0 : Rat))).mono (by omega))⟩
        · exact ⟨(0 : Rat), (1 : Rat), (1 : Rat), (0 : Rat), rfl, (((szr_lit 1 (0 : Rat))).mono (by omega)), (((szr_lit 1 (1 : Rat))).mono (by omega)), (((szr_lit 1 (1 : Rat))).mono (by omega)), (((szr_lit 1 (0 : Rat))).mono (by omega))⟩
        · exact ⟨y0_15, y1_15, y2_15, y3_15, rfl, ((z0_15).mono (by omega)), ((z1_15).mono (by omega)), ((z2_15).mono (by omega)), ((z3_15).mono (by omega))⟩
        · exact ⟨(mulT (filled (kd2) (ra1) (rb1) (rc1) (rd1)) ((⟨y0_16, y1_16, y2_16, y3_16⟩ : Tb))).a, (mulT (filled (kd2) (ra1) (rb1) (rc1) (rd1)) ((⟨y0_16, y1_16, y2_16, y3_16⟩ : Tb))).b, (mulT (filled (kd2) (ra1) (rb1) (rc1) (rd1)) ((⟨y0_16, y1_16, y2_16, y3_16⟩ : Tb))).c, (mulT (filled (kd2) (ra1) (rb1) (rc1) (rd1)) ((⟨y0_16, y1_16, y2_16, y3_16⟩ : Tb))).d, rfl, (((zt4).1).mono (by omega)), (((zt4).2.1).mono (by omega)), (((zt4).2.2.1).mono (by omega)), (((zt4).2.2.2).mono (by omega))⟩
      exact k _ _ _ ⟨⟨x19_0, x19_1, x19_2, x19_3⟩, rfl, (z19_0).mono (by omega), (z19_1).mono (by omega), (z19_2).mono (by omega), (z19_3).mono (by omega)⟩ (r19) ((Ex.of s1).trans (e2.trans ((Ex.of s3).trans (e7.trans ((Ex.of s8).trans ((Ex.of s9).trans ((Ex.of s10).trans ((Ex.of s11).trans ((Ex.of s12).trans ((Ex.of s13).trans ((Ex.of s14).trans (e15.trans (e16.trans ((Ex.of s17).trans ((Ex.of s18).trans e19))))))))))))))) hB19
end
end Px

namespace Px
open PySem PySem.Spec PyProof.Rows L2
section
variable {P : Program} {w : World} {K : PySem.W.Frag} {mg : Str → Option Value} {base : Heap}
def sp__law_same (K : PySem.W.Frag) (n : Nat) : Sp := spF K (α := D) (fun x => [x, x]) (fun x => okD n x = true) (fun x => (.bl true : D))
theorem has__law_same_S (T : Tx K mg) (n : Nat) (ih : Has P w K mg base CX0 "_law_same" s__law_same ["_law_found", "_law_due"] (n + 1) (sp__law_same K n)) : Has P w K mg base CX0 "_law_same" s__law_same ["_law_found", "_law_due"] (n + 1 + 1) (sp__law_same K (n + 1)) := by
  obtain ⟨f, fd, F, M⟩ := T._law_same
  obtain ⟨f__law_same, fd__law_same, F__law_same, M__law_same, B__law_same, G__law_same⟩ := ih
  refine ⟨f, fd, F, M, F.binds (ps := ["_law_found", "_law_due"]) (fun _ _ _ _ _ _ us hl => match us, hl with | [_, _], _ => rfl), F.ok sc__law_same (fun vs H Q E h => ?_) (fun cdv A outer s H vs Q E hr h => ?_)⟩
  · obtain ⟨G, x, hB, r, hp, q⟩ := h; rw [r.len]; rfl
  · obtain ⟨G, x, hB, r, hp, k⟩ := h
    refine ⟨_, (pss_cons (ps_if (pt_val (pe_callB call_isiT (by rfl) T.isinstance (by decide +kernel) (pa_cons (pv 1) (pa_cons (pe_tup (pa_cons (pe_bltn (v := .ty "list") (u := .type "list") (by rfl) T.list (by decide +kernel) rfl) (pa_cons (pe_bltn (v := .ty "tuple") (u := .type "tuple") (by rfl) T.tuple (by decide +kernel) rfl) pa_nil))) pa_nil)))) (pss_cons (ps_if (PW.pt (pw_or (pt_cmpR op_ne (pe_callB call_isi (by rfl) T.isinstance (by decide +kernel) (pa_cons (pv 0) (pa_cons (pe_bltn (v := .ty "list") (u := .type "list") (by rfl) T.list (by decide +kernel) rfl) pa_nil))) (pe_callB call_isi (by rfl) T.isinstance (by decide +kernel) (pa_cons (pv 1) (pa_cons (pe_bltn (v := .ty "list") (u := .type "list") (by rfl) T.list (by decide +kernel) rfl) pa_nil))) (nomark _)) (pw_or1 (pt_cmpR op_ne (pe_callB call_isi (by rfl) T.isinstance (by decide +kernel) (pa_cons (pv 0) (pa_cons (pe_bltn (v := .ty "tuple") (u := .type "tuple") (by rfl) T.tuple (by decide +kernel) rfl) pa_nil))) (pe_callB call_isi (by rfl) T.isinstance (by decide +kernel) (pa_cons (pv 1) (pa_cons (pe_bltn (v := .ty "tuple") (u := .type "tuple") (by rfl) T.tuple (by decide +kernel) rfl) pa_nil))) (nomark _))))) (pss_one ps_never) pss_nil) (pss_one (ps_ret (pe_and (pe_cmpR op_eq (pe_callB call_len (by rfl) T.len (by decide +kernel) (pa_cons (pv 0) pa_nil)) (pe_callB call_len (by rfl) T.len (by decide +kernel) (pa_cons (pv 1) pa_nil)) (nomark _)) (pe_one (pe_callB (cr_all (by rfl)) (by rfl) T.all (by decide +kernel) (pa_cons (pe_lc (own := [("_law_x", 2), ("_law_y", 3)]) (g := gPair K 2 3) (tt := tYes) (by rfl) sc__law_same.nd (RZ.pi_zipA (by rfl) T.zip (pa_cons (pv 0) (pa_cons (pv 1) pa_nil))) (blkOk_by (own := [("_law_x", 2), ("_law_y", 3)]) (N := ["_law_found", "_law_due", "_law_x", "_law_y"]) (sc := (defScope s__law_same)) (by decide +kernel)) (fun _ _ _ _ _ => pg_tupK (K := K) rfl (pgs_cons (pg_name (i := 2) sc__law_same.nd rfl (.inl rfl)) (pgs_cons (pg_name (i := 3) sc__law_same.nd rfl (.inl rfl)) pgs_nil))) (fun _ _ _ _ _ => pts_nil) (fun _ _ _ _ _ => (pe_call G__law_same (hr.mono (by omega)) (by rfl) M__law_same F__law_same.kp B__law_same .nil pass0 (pa_cons (pv 2) (pa_cons (pv 3) pa_nil))))) pa_nil))))))) pss_nil) (pss_cons (ps_if (pt_val (pe_callB call_isiT (by rfl) T.isinstance (by decide +kernel) (pa_cons (pv 0) (pa_cons (pe_tup (pa_cons (pe_bltn (v := .ty "list") (u := .type "list") (by rfl) T.list (by decide +kernel) rfl) (pa_cons (pe_bltn (v := .ty "tuple") (u := .type "tuple") (by rfl) T.tuple (by decide +kernel) rfl) pa_nil))) pa_nil)))) (pss_one ps_never) pss_nil) (pss_cons (ps_if (PW.pt (pw_or (pt_cmpR op_isN1 (pv 1) pe_non (nomark _)) (pw_or1 (pt_cmpR op_isN1 (pv 0) pe_non (nomark _))))) (pss_one (ps_ret (pe_and (pe_cmpR op_isN1 (pv 1) pe_non (nomark _)) (pe_one (pe_cmpR op_isN1 (pv 0) pe_non (nomark _)))))) pss_nil) (pss_cons (ps_if (PW.pt (pw_or (pt_val (pe_callB call_isi (by rfl) T.isinstance (by decide +kernel) (pa_cons (pv 1) (pa_cons (pe_bltn (v := .ty "bool") (u := .type "bool") (by rfl) T.bool (by decide +kernel) rfl) pa_nil)))) (pw_or1 (pt_val (pe_callB call_isi (by rfl) T.isinstance (by decide +kernel) (pa_cons (pv 0) (pa_cons (pe_bltn (v := .ty "bool") (u := .type "bool") (by rfl) T.bool (by decide +kernel) rfl) pa_nil))))))) (pss_one (ps_ret (pe_and (pe_callB call_isi (by rfl) T.isinstance (by decide +kernel) (pa_cons (pv 1) (pa_cons (pe_bltn (v := .ty "bool") (u := .type "bool") (by rfl) T.bool (by decide +kernel) rfl) pa_nil))) (pe_and (pe_callB call_isi (by rfl) T.isinstance (by decide +kernel) (pa_cons (pv 0) (pa_cons (pe_bltn (v := .ty "bool") (u := .type "bool") (by rfl) T.bool (by decide +kernel) rfl) pa_nil))) (pe_one (pe_cmpR op_eq (pv 0) (pv 1) (nomark _))))))) pss_nil) (pss_cons (ps_if (PW.pt (pw_or (pt_val (pe_callB call_isi (by rfl) T.isinstance (by decide +kernel) (pa_cons (pv 1) (pa_cons (pe_bltn (v := .ty "int") (u := .type "int") (by rfl) T.int (by decide +kernel) rfl) pa_nil)))) (pw_or1 (pt_val (pe_callB call_isi (by rfl) T.isinstance (by decide +kernel) (pa_cons (pv 0) (pa_cons (pe_bltn (v := .ty "int") (u := .type "int") (by rfl) T.int (by decide +kernel) rfl) pa_nil))))))) (pss_one (ps_ret (pe_and (pe_callB call_isi (by rfl) T.isinstance (by decide +kernel) (pa_cons (pv 1) (pa_cons (pe_bltn (v := .ty "int") (u := .type "int") (by rfl) T.int (by decide +kernel) rfl) pa_nil))) (pe_and (pe_callB call_isi (by rfl) T.isinstance (by decide +kernel) (pa_cons (pv 0) (pa_cons (pe_bltn (v := .ty "int") (u := .type "int") (by rfl) T.int (by decide +kernel) rfl) pa_nil))) (pe_one (pe_cmpR op_eq (pv 0) (pv 1) (nomark _))))))) pss_nil) (pss_cons (ps_if (PW.pt (pw_or (pt_val (pe_callB call_isi (by rfl) T.isinstance (by decide +kernel) (pa_cons (pv 1) (pa_cons (pe_bltn (v := .ty "str") (u := .type "str") (by rfl) T.str (by decide +kernel) rfl) pa_nil)))) (pw_or1 pt_false))) (pss_one (ps_ret (pe_and (pe_callB call_isi (by rfl) T.isinstance (by decide +kernel) (pa_cons (pv 1) (pa_cons (pe_bltn (v := .ty "str") (u := .type "str") (by rfl) T.str (by decide +kernel) rfl) pa_nil))) (pe_and (pe_callB call_isi (by rfl) T.isinstance (by decide +kernel) (pa_cons (pv 0) (pa_cons (pe_bltn (v := .ty "str") (u := .type "str") (by rfl) T.str (by decide +kernel) rfl) pa_nil))) (pe_one (pe_cmpR op_eq (pv 0) (pv 1) (nomark _))))))) pss_nil) (pss_one ps_never))))))), ?_⟩
    rcases x with _ | b | i | z | ds | ds | ⟨C', ns, ds⟩
    · replace k : ∀ d v H', d = (.bl (true) : D) → Rep K G.M H' d v → Same H H' → G.B H' → Q v H' := k
      obtain ⟨v0_0, _, rfl, r0_0, rt0⟩ := cons_of r
      replace r0_0 : Rep K G.M H (.non) v0_0 := r0_0
      obtain rfl := non_of r0_0
      obtain ⟨v0_1, _, rfl, r0_1, rt1⟩ := cons_of rt0
      replace r0_1 : Rep K G.M H (.non) v0_1 := r0_1
      obtain rfl := non_of r0_1
      obtain rfl := nil_of rt1
      with_reducible refine k_seq ?_
      with_reducible refine k_ifX ?_
      with_reducible refine k_B ?_
      refine k_isi2 (M := noM) (A := "list") (B := "tuple") (ty := "NoneType") (b := false) (val_var rfl) (rnon) (by decide +kernel) (fun p1 n1 => ?_)
      have s1 := same_upd (o := .tup [.ty "list", .ty "tuple"]) n1
      have hB1 := Bg.st G _ _ hB s1
      refine ⟨_, rfl, ?_⟩
      refine iteF ?_
      with_reducible refine k_next ?_
      with_reducible refine k_seq ?_
      with_reducible refine k_ifX ?_
      with_reducible refine k_B ?_
      refine k_isi2 (M := noM) (A := "list") (B := "tuple") (ty := "NoneType") (b := false) (val_var rfl) (rnon) (by decide +kernel) (fun p2 n2 => ?_)
      have s2 := same_upd (o := .tup [.ty "list", .ty "tuple"]) n2
      have hB2 := Bg.st G _ _ hB1 s2
      refine ⟨_, rfl, ?_⟩
      refine iteF ?_
      with_reducible refine k_next ?_
      with_reducible refine k_seq ?_
      with_reducible refine k_ifX ?_
      with_reducible refine k_or ?_
      with_reducible refine k_T ?_
      with_reducible refine k_opX ?_
      refine k_val (val_var rfl) ?_
      refine k_val val_c ?_
      refine f_isN (K := K) (M := noM) (b := true) (rnon) rfl ?_
      refine ⟨_, rfl, ?_⟩
      refine iteT ?_
      refine iteT ?_
      with_reducible refine k_ret ?_
      with_reducible refine k_andV ?_
      with_reducible refine k_opX ?_
      refine k_val (val_var rfl) ?_
      refine k_val val_c ?_
      refine f_isN (K := K) (M := noM) (b := true) (rnon) rfl ?_
      refine ⟨_, rfl, ?_⟩
      refine iteT ?_
      with_reducible refine k_opX ?_
      refine k_val (val_var rfl) ?_
      refine k_val val_c ?_
      refine f_isN (K := K) (M := noM) (b := true) (rnon) rfl ?_
      exact k _ _ _ rfl (rbl _) (s1.trans s2) hB2
    · replace k : ∀ d v H', d = (.bl (true) : D) → Rep K G.M H' d v → Same H H' → G.B H' → Q v H' := k
      obtain ⟨v0_0, _, rfl, r0_0, rt0⟩ := cons_of r
      replace r0_0 : Rep K G.M H (.bl (b)) v0_0 := r0_0
      obtain rfl := bl_of r0_0
      obtain ⟨v0_1, _, rfl, r0_1, rt1⟩ := cons_of rt0
      replace r0_1 : Rep K G.M H (.bl (b)) v0_1 := r0_1
      obtain rfl := bl_of r0_1
      obtain rfl := nil_of rt1
      with_reducible refine k_seq ?_
      with_reducible refine k_ifX ?_
      with_reducible refine k_B ?_
      refine k_isi2 (M := noM) (A := "list") (B := "tuple") (ty := "bool") (b := false) (val_var rfl) (rbl _) (by decide +kernel) (fun p3 n3 => ?_)
      have s3 := same_upd (o := .tup [.ty "list", .ty "tuple"]) n3
      have hB3 := Bg.st G _ _ hB s3
      refine ⟨_, rfl, ?_⟩
      refine iteF ?_
      with_reducible refine k_next ?_
      with_reducible refine k_seq ?_
      with_reducible refine k_ifX ?_
      with_reducible refine k_B ?_
      refine k_isi2 (M := noM) (A := "list") (B := "tuple") (ty := "bool") (b := false) (val_var rfl) (rbl _) (by decide +kernel) (fun p4 n4 => ?_)
      have s4 := same_upd (o := .tup [.ty "list", .ty "tuple"]) n4
      have hB4 := Bg.st G _ _ hB3 s4
      refine ⟨_, rfl, ?_⟩
      refine iteF ?_
      with_reducible refine k_next ?_
      with_reducible refine k_seq ?_
      with_reducible refine k_ifX ?_
      with_reducible refine k_or ?_
      with_reducible refine k_T ?_
      with_reducible refine k_opX ?_
      refine k_val (val_var rfl) ?_
      refine k_val val_c ?_
      refine f_isN (K := K) (M := noM) (b := false) (rbl _) rfl ?_
      refine ⟨_, rfl, ?_⟩
      refine iteF ?_
      with_reducible refine k_T ?_
      with_reducible refine k_opX ?_
      refine k_val (val_var rfl) ?_
      refine k_val val_c ?_
      refine f_isN (K := K) (M := noM) (b := false) (rbl _) rfl ?_
      refine ⟨_, rfl, ?_⟩
      refine iteF ?_
      with_reducible refine k_next ?_
      with_reducible refine k_seq ?_
      with_reducible refine k_ifX ?_
      with_reducible refine k_or ?_
      with_reducible refine k_B ?_
      refine k_val (v_isi (M := noM) (T := "bool") (ty := "bool") (b := true) (val_var rfl) (rbl _) (by decide +kernel)) ?_
      refine ⟨_, rfl, ?_⟩
      refine iteT ?_
      refine iteT ?_
      with_reducible refine k_ret ?_
      refine k_val (v_andB (v_isi (M := noM) (T := "bool") (ty := "bool") (b := true) (val_var rfl) (rbl _) (by decide +kernel)) (v_andB (v_isi (M := noM) (T := "bool") (ty := "bool") (b := true) (val_var rfl) (rbl _) (by decide +kernel)) (v_eqV (val_var rfl) (val_var rfl)))) ?_
      exact k _ _ _ rfl (rbl _) (s3.trans s4) hB4
    · replace k : ∀ d v H', d = (.bl (true) : D) → Rep K G.M H' d v → Same H H' → G.B H' → Q v H' := k
      obtain ⟨v0_0, _, rfl, r0_0, rt0⟩ := cons_of r
      replace r0_0 : Rep K G.M H (.int (i)) v0_0 := r0_0
      obtain rfl := int_of r0_0
      obtain ⟨v0_1, _, rfl, r0_1, rt1⟩ := cons_of rt0
      replace r0_1 : Rep K G.M H (.int (i)) v0_1 := r0_1
      obtain rfl := int_of r0_1
      obtain rfl := nil_of rt1
      with_reducible refine k_seq ?_
      with_reducible refine k_ifX ?_
      with_reducible refine k_B ?_
      refine k_isi2 (M := noM) (A := "list") (B := "tuple") (ty := "int") (b := false) (val_var rfl) (rint _) (by decide +kernel) (fun p5 n5 => ?_)
      have s5 := same_upd (o := .tup [.ty "list", .ty "tuple"]) n5
      have hB5 := Bg.st G _ _ hB s5
      refine ⟨_, rfl, ?_⟩
      refine iteF ?_
      with_reducible refine k_next ?_
      with_reducible refine k_seq ?_
      with_reducible refine k_ifX ?_
      with_reducible refine k_B ?_
      refine k_isi2 (M := noM) (A := "list") (B := "tuple") (ty := "int") (b := false) (val_var rfl) (rint _) (by decide +kernel) (fun p6 n6 => ?_)
      have s6 := same_upd (o := .tup [.ty "list", .ty "tuple"]) n6
      have hB6 := Bg.st G _ _ hB5 s6
      refine ⟨_, rfl, ?_⟩
      refine iteF ?_
      with_reducible refine k_next ?_
      with_reducible refine k_seq ?_
      with_reducible refine k_ifX ?_
      with_reducible refine k_or ?_
      with_reducible refine k_T ?_
      with_reducible refine k_opX ?_
      refine k_val (val_var rfl) ?_
      refine k_val val_c ?_
      refine f_isN (K := K) (M := noM) (b := false) (rint _) rfl ?_
      refine ⟨_, rfl, ?_⟩
      refine iteF ?_
      with_reducible refine k_T ?_
      with_reducible refine k_opX ?_
      refine k_val (val_var rfl) ?_
      refine k_val val_c ?_
      refine f_isN (K := K) (M := noM) (b := false) (rint _) rfl ?_
      refine ⟨_, rfl, ?_⟩
      refine iteF ?_
      with_reducible refine k_next ?_
      with_reducible refine k_seq ?_
      with_reducible refine k_ifX ?_
      with_reducible refine k_or ?_
      with_reducible refine k_B ?_
      refine k_val (v_isi (M := noM) (T := "bool") (ty := "int") (b := false) (val_var rfl) (rint _) (by decide +kernel)) ?_
      refine ⟨_, rfl, ?_⟩
      refine iteF ?_
      with_reducible refine k_B ?_
      refine k_val (v_isi (M := noM) (T := "bool") (ty := "int") (b := false) (val_var rfl) (rint _) (by decide +kernel)) ?_
      refine ⟨_, rfl, ?_⟩
      refine iteF ?_
      with_reducible refine k_next ?_
      with_reducible refine k_seq ?_
      with_reducible refine k_ifX ?_
      with_reducible refine k_or ?_
      with_reducible refine k_B ?_
      refine k_val (v_isi (M := noM) (T := "int") (ty := "int") (b := true) (val_var rfl) (rint _) (by decide +kernel)) ?_
      refine ⟨_, rfl, ?_⟩
      refine iteT ?_
      refine iteT ?_
      with_reducible refine k_ret ?_
      refine k_val (v_andB (v_isi (M := noM) (T := "int") (ty := "int") (b := true) (val_var rfl) (rint _) (by decide +kernel)) (v_andB (v_isi (M := noM) (T := "int") (ty := "int") (b := true) (val_var rfl) (rint _) (by decide +kernel)) (v_eqV (val_var rfl) (val_var rfl)))) ?_
      exact k _ _ _ rfl (rbl _) (s5.trans s6) hB6
    · replace k : ∀ d v H', d = (.bl (true) : D) → Rep K G.M H' d v → Same H H' → G.B H' → Q v H' := k
      obtain ⟨v0_0, _, rfl, r0_0, rt0⟩ := cons_of r
      replace r0_0 : Rep K G.M H (.str (z)) v0_0 := r0_0
      obtain rfl := str_of r0_0
      obtain ⟨v0_1, _, rfl, r0_1, rt1⟩ := cons_of rt0
      replace r0_1 : Rep K G.M H (.str (z)) v0_1 := r0_1
      obtain rfl := str_of r0_1
      obtain rfl := nil_of rt1
      with_reducible refine k_seq ?_
      with_reducible refine k_ifX ?_
      with_reducible refine k_B ?_
      refine k_isi2 (M := noM) (A := "list") (B := "tuple") (ty := "str") (b := false) (val_var rfl) (rstr _) (by decide +kernel) (fun p7 n7 => ?_)
      have s7 := same_upd (o := .tup [.ty "list", .ty "tuple"]) n7
      have hB7 := Bg.st G _ _ hB s7
      refine ⟨_, rfl, ?_⟩
      refine iteF ?_
      with_reducible refine k_next ?_
      with_reducible refine k_seq ?_
      with_reducible refine k_ifX ?_
      with_reducible refine k_B ?_
      refine k_isi2 (M := noM) (A := "list") (B := "tuple") (ty := "str") (b := false) (val_var rfl) (rstr _) (by decide +kernel) (fun p8 n8 => ?_)
      have s8 := same_upd (o := .tup [.ty "list", .ty "tuple"]) n8
      have hB8 := Bg.st G _ _ hB7 s8
      refine ⟨_, rfl, ?_⟩
      refine iteF ?_
      with_reducible refine k_next ?_
      with_reducible refine k_seq ?_
      with_reducible refine k_ifX ?_
      with_reducible refine k_or ?_
      with_reducible refine k_T ?_
      with_reducible refine k_opX ?_
      refine k_val (val_var rfl) ?_
      refine k_val val_c ?_
      refine f_isN (K := K) (M := noM) (b := false) (rstr _) rfl ?_
      refine ⟨_, rfl, ?_⟩
      refine iteF ?_
      with_reducible refine k_T ?_
      with_reducible refine k_opX ?_
      refine k_val (val_var rfl) ?_
      refine k_val val_c ?_
      refine f_isN (K := K) (M := noM) (b := false) (rstr _) rfl ?_
      refine ⟨_, rfl, ?_⟩
      refine iteF ?_
      with_reducible refine k_next ?_
      with_reducible refine k_seq ?_
      with_reducible refine k_ifX ?_
      with_reducible refine k_or ?_
      with_reducible refine k_B ?_
      refine k_val (v_isi (M := noM) (T := "bool") (ty := "str") (b := false) (val_var rfl) (rstr _) (by decide +kernel)) ?_
      refine ⟨_, rfl, ?_⟩
      refine iteF ?_
      with_reducible refine k_B ?_
      refine k_val (v_isi (M := noM) (T := "bool") (ty := "str") (b := false) (val_var rfl) (rstr _) (by decide +kernel)) ?_
      refine ⟨_, rfl, ?_⟩
      refine iteF ?_
      with_reducible refine k_next ?_
      with_reducible refine k_seq ?_
      with_reducible refine k_ifX ?_
      with_reducible refine k_or ?_
      with_reducible refine k_B ?_
      refine k_val (v_isi (M := noM) (T := "int") (ty := "str") (b := false) (val_var rfl) (rstr _) (by decide +kernel)) ?_
      refine ⟨_, rfl, ?_⟩
      refine iteF ?_
      with_reducible refine k_B ?_
      refine k_val (v_isi (M := noM) (T := "int") (ty := "str") (b := false) (val_var rfl) (rstr _) (by decide +kernel)) ?_
      refine ⟨_, rfl, ?_⟩
      refine iteF ?_
      with_reducible refine k_next ?_
      with_reducible refine k_seq ?_
      with_reducible refine k_ifX ?_
      with_reducible refine k_or ?_
      with_reducible refine k_B ?_
      refine k_val (v_isi (M := noM) (T := "str") (ty := "str") (b := true) (val_var rfl) (rstr _) (by decide +kernel)) ?_
      refine ⟨_, rfl, ?_⟩
      refine iteT ?_
      refine iteT ?_
      with_reducible refine k_ret ?_
      refine k_val (v_andB (v_isi (M := noM) (T := "str") (ty := "str") (b := true) (val_var rfl) (rstr _) (by decide +kernel)) (v_andB (v_isi (M := noM) (T := "str") (ty := "str") (b := true) (val_var rfl) (rstr _) (by decide +kernel)) (v_eqV (val_var rfl) (val_var rfl)))) ?_
      exact k _ _ _ rfl (rbl _) (s7.trans s8) hB8
    · obtain ⟨hlen, hall⟩ : ds.length ≤ 1000 ∧ ds.all (okD n) = true := ⟨of_decide_eq_true (Bool.and_eq_true_iff.mp hp).1, (Bool.and_eq_true_iff.mp hp).2⟩
      replace k : ∀ d v H', d = (.bl (true) : D) → Rep K G.M H' d v → Same H H' → G.B H' → Q v H' := k
      obtain ⟨v0_0, _, rfl, r0_0, rt0⟩ := cons_of r
      replace r0_0 : Rep K G.M H (.tup ds) v0_0 := r0_0
      obtain ⟨v0_1, _, rfl, r0_1, rt1⟩ := cons_of rt0
      replace r0_1 : Rep K G.M H (.tup ds) v0_1 := r0_1
      obtain rfl := nil_of rt1
      with_reducible refine k_seq ?_
      with_reducible refine k_ifX ?_
      with_reducible refine k_B ?_
      refine k_isi2 (A := "list") (B := "tuple") (ty := "tuple") (b := true) (val_var rfl) (r0_1) (by decide +kernel) (fun p9 n9 => ?_)
      have s9 := same_upd (o := .tup [.ty "list", .ty "tuple"]) n9
      have hB9 := Bg.st G _ _ hB s9
      refine ⟨_, rfl, ?_⟩
      refine iteT ?_
      with_reducible refine k_seq ?_
      with_reducible refine k_ifX ?_
      with_reducible refine k_or ?_
      with_reducible refine k_T ?_
      refine k_val (v_neV (v_isi (T := "list") (ty := "tuple") (b := false) (val_var rfl) ((r0_0.up hB (Ex.of s9))) (by decide +kernel)) (v_isi (T := "list") (ty := "tuple") (b := false) (val_var rfl) ((r0_1.up hB (Ex.of s9))) (by decide +kernel))) ?_
      refine ⟨_, rfl, ?_⟩
      refine iteF ?_
      with_reducible refine k_T ?_
      refine k_val (v_neV (v_isi (T := "tuple") (ty := "tuple") (b := true) (val_var rfl) ((r0_0.up hB (Ex.of s9))) (by decide +kernel)) (v_isi (T := "tuple") (ty := "tuple") (b := true) (val_var rfl) ((r0_1.up hB (Ex.of s9))) (by decide +kernel))) ?_
      refine ⟨_, rfl, ?_⟩
      refine iteF ?_
      with_reducible refine k_next ?_
      with_reducible refine k_ret ?_
      with_reducible refine k_andV ?_
      refine k_val (v_eqV (v_lenR ((ds.length : Nat) : Int) (val_var rfl) ((r0_0.up hB (Ex.of s9)))) (v_lenR ((ds.length : Nat) : Int) (val_var rfl) ((r0_1.up hB (Ex.of s9))))) ?_
      refine ⟨_, rfl, ?_⟩
      refine iteT ?_
      with_reducible refine k_cb ?_
      with_reducible refine k_argX ?_
      refine k_lcz ?_
      refine k_arg (val_var rfl) ?_
      refine k_arg (val_var rfl) ?_
      with_reducible refine k_nil ?_
      refine k_lcZT (K := K) (i := 2) (j := 3) (vs := [2, 3]) (noM) (fun _ m => m.elim) hlen hB9 ((r0_0.up hB (Ex.of s9))) ((r0_1.up hB (Ex.of s9))) (fun _ x => x = .bl true) (by intro _ _; rfl) (fun dc1 ic1 x1 w1 y1 Hc1 hic1 nc1 hBc1 ec1 rx1 ry1 Qc1 kc1 => ?_) (fun ds1 vd1 He1 l1 p1 r1 e1 be1 => ?_)
      · have hB10 := Bg.enterB hB9 nc1
        have nd10 := nc1
        have hB11 := hBc1
        have e11 := ec1
        with_reducible refine k_call ?_
        refine k_arg (val_var rfl) ?_
        refine k_arg (val_var rfl) ?_
        with_reducible refine k_nil ?_
        refine k_spF x1 hB11 (rcons (rx1) (rcons (ry1) (rnil (K := K)))) (okD_at hall hic1) (fun v12 H12 r12 s12 hB12 => ?_)
        obtain rfl := bl_of (b := true) r12
        exact kc1 _ _ _ rfl (rbl _) (Ex.of s12) hB12
      · have s13 := same_of e1
        have hB13 := be1
        have q1 := all_true p1
        have r13 : Rep K G.M He1 (.lst ((List.replicate ds1.length true).map .bl)) vd1 := by rw [← q1]; exact r1
        with_reducible refine k_nil ?_
        refine f_all (bs := (List.replicate ds1.length true)) (r13) (rep_all _) ?_
        exact k _ _ _ rfl (rbl _) (s9.trans s13) hB13
    · obtain ⟨hlen, hall⟩ : ds.length ≤ 1000 ∧ ds.all (okD n) = true := ⟨of_decide_eq_true (Bool.and_eq_true_iff.mp hp).1, (Bool.and_eq_true_iff.mp hp).2⟩
      replace k : ∀ d v H', d = (.bl (true) : D) → Rep K G.M H' d v → Same H H' → G.B H' → Q v H' := k
      obtain ⟨v0_0, _, rfl, r0_0, rt0⟩ := cons_of r
      replace r0_0 : Rep K G.M H (.lst ds) v0_0 := r0_0
      obtain ⟨v0_1, _, rfl, r0_1, rt1⟩ := cons_of rt0
      replace r0_1 : Rep K G.M H (.lst ds) v0_1 := r0_1
      obtain rfl := nil_of rt1
      with_reducible refine k_seq ?_
      with_reducible refine k_ifX ?_
      with_reducible refine k_B ?_
      refine k_isi2 (A := "list") (B := "tuple") (ty := "list") (b := true) (val_var rfl) (r0_1) (by decide +kernel) (fun p14 n14 => ?_)
      have s14 := same_upd (o := .tup [.ty "list", .ty "tuple"]) n14
      have hB14 := Bg.st G _ _ hB s14
      refine ⟨_, rfl, ?_⟩
      refine iteT ?_
      with_reducible refine k_seq ?_
      with_reducible refine k_ifX ?_
      with_reducible refine k_or ?_
      with_reducible refine k_T ?_
      refine k_val (v_neV (v_isi (T := "list") (ty := "list") (b := true) (val_var rfl) ((r0_0.up hB (Ex.of s14))) (by decide +kernel)) (v_isi (T := "list") (ty := "list") (b := true) (val_var rfl) ((r0_1.up hB (Ex.of s14))) (by decide +kernel))) ?_
      refine ⟨_, rfl, ?_⟩
      refine iteF ?_
      with_reducible refine k_T ?_
      refine k_val (v_neV (v_isi (T := "tuple") (ty := "list") (b := false) (val_var rfl) ((r0_0.up hB (Ex.of s14))) (by decide +kernel)) (v_isi (T := "tuple") (ty := "list") (b := false) (val_var rfl) ((r0_1.up hB (Ex.of s14))) (by decide +kernel))) ?_
      refine ⟨_, rfl, ?_⟩
      refine iteF ?_
      with_reducible refine k_next ?_
      with_reducible refine k_ret ?_
      with_reducible refine k_andV ?_
      refine k_val (v_eqV (v_lenRL ((ds.length : Nat) : Int) (val_var rfl) ((r0_0.up hB (Ex.of s14)))) (v_lenRL ((ds.length : Nat) : Int) (val_var rfl) ((r0_1.up hB (Ex.of s14))))) ?_
      refine ⟨_, rfl, ?_⟩
      refine iteT ?_
      with_reducible refine k_cb ?_
      with_reducible refine k_argX ?_
      refine k_lcz ?_
      refine k_arg (val_var rfl) ?_
      refine k_arg (val_var rfl) ?_
      with_reducible refine k_nil ?_
      refine k_lcZL (K := K) (i := 2) (j := 3) (vs := [2, 3]) (noM) (fun _ m => m.elim) hlen hB14 ((r0_0.up hB (Ex.of s14))) ((r0_1.up hB (Ex.of s14))) (fun _ x => x = .bl true) (by intro _ _; rfl) (fun dc2 ic2 x2 w2 y2 Hc2 hic2 nc2 hBc2 ec2 rx2 ry2 Qc2 kc2 => ?_) (fun ds2 vd2 He2 l2 p2 r2 e2 be2 => ?_)
      · have hB15 := Bg.enterB hB14 nc2
        have nd15 := nc2
        have hB16 := hBc2
        have e16 := ec2
        with_reducible refine k_call ?_
        refine k_arg (val_var rfl) ?_
        refine k_arg (val_var rfl) ?_
        with_reducible refine k_nil ?_
        refine k_spF x2 hB16 (rcons (rx2) (rcons (ry2) (rnil (K := K)))) (okD_at hall hic2) (fun v17 H17 r17 s17 hB17 => ?_)
        obtain rfl := bl_of (b := true) r17
        exact kc2 _ _ _ rfl (rbl _) (Ex.of s17) hB17
      · have s18 := same_of e2
        have hB18 := be2
        have q2 := all_true p2
        have r18 : Rep K G.M He2 (.lst ((List.replicate ds2.length true).map .bl)) vd2 := by rw [← q2]; exact r2
        with_reducible refine k_nil ?_
        refine f_all (bs := (List.replicate ds2.length true)) (r18) (rep_all _) ?_
        exact k _ _ _ rfl (rbl _) (s14.trans s18) hB18
    · cases hp
theorem has__law_same_n (T : Tx K mg) : ∀ n : Nat, Has P w K mg base CX0 "_law_same" s__law_same ["_law_found", "_law_due"] (n + 1) (sp__law_same K n)
  | 0 => by
    obtain ⟨f, fd, F, M⟩ := T._law_same
    refine ⟨f, fd, F, M, F.binds (ps := ["_law_found", "_law_due"]) (fun _ _ _ _ _ _ us hl => match us, hl with | [_, _], _ => rfl), F.ok sc__law_same (fun vs H Q E h => ?_) (fun cdv A outer s H vs Q E hr h => ?_)⟩
    · obtain ⟨G, x, hB, r, hp, q⟩ := h; rw [r.len]; rfl
    · obtain ⟨G, x, hB, r, hp, k⟩ := h
      exact absurd hp (by unfold okD; exact Bool.false_ne_true)
  | n + 1 => has__law_same_S T n (has__law_same_n T n)
theorem has__law_same (T : Tx K mg) : Has P w K mg base CX0 "_law_same" s__law_same ["_law_found", "_law_due"] 6 (sp__law_same K 5) := has__law_same_n T 5
end
end Px

namespace Px
open PySem PySem.Spec PyProof.Rows L2
section
variable {P : Program} {w : World} {K : PySem.W.Frag} {mg : Str → Option Value} {base : Heap}
def sp__law_tables_so (K : PySem.W.Frag) : Sp := spB K (α := Kd × Kd × Tb) (fun x => [.str ((kdS x.1)), .str ((kdS x.2.1)), tbT (x.2.2), .bl ((staysB x.1 x.2.2 x.2.1))]) (fun x => SzT 150 x.2.2) (fun x d => d = (.bl true : D))
theorem has__law_tables_so {C : Addr} (T : Tx K mg) (Y : TabTx K mg w C) : Has P w K mg base CX0 "_law_tables_so" s__law_tables_so ["_law_bag_here", "_law_word", "_law_far", "_law_t", "_law_due"] 10 (sp__law_tables_so K) := by
  obtain ⟨f, fd, F, M⟩ := T._law_tables_so
  obtain ⟨f_table_of, fd_table_of, F_table_of, M_table_of, B_table_of, G_table_of⟩ := has_table_of (P := P) (w := w) (base := base) T Y
  obtain ⟨f__law_made, fd__law_made, F__law_made, M__law_made, B__law_made, G__law_made⟩ := has__law_made (P := P) (w := w) (base := base) T Y
  obtain ⟨f_fits, fd_fits, F_fits, M_fits, B_fits, G_fits⟩ := has_fits (P := P) (w := w) (base := base) T Y
  obtain ⟨f_Table___mul__, fd_Table___mul__, F_Table___mul__, M_Table___mul__, B_Table___mul__, G_Table___mul__⟩ := has_Table___mul__ (P := P) (w := w) (base := base) T Y
  obtain ⟨f__law_same, fd__law_same, F__law_same, M__law_same, B__law_same, G__law_same⟩ := has__law_same (P := P) (w := w) (base := base) T
  obtain ⟨f__law_small, fd__law_small, F__law_small, M__law_small, B__law_small, G__law_small⟩ := has__law_small (P := P) (w := w) (base := base) T
  obtain ⟨f__law_many, fd__law_many, F__law_many, M__law_many, B__law_many, G__law_many⟩ := has__law_many (P := P) (w := w) (base := base) T
  obtain ⟨f__law_read_off, fd__law_read_off, F__law_read_off, M__law_read_off, B__law_read_off, G__law_read_off⟩ := has__law_read_off (P := P) (w := w) (base := base) T
  obtain ⟨f__law_after, fd__law_after, F__law_after, M__law_after, B__law_after, G__law_after⟩ := has__law_after (P := P) (w := w) (base := base) T
  obtain ⟨f__law_filled, fd__law_filled, F__law_filled, M__law_filled, B__law_filled, G__law_filled⟩ := has__law_filled (P := P) (w := w) (base := base) T
  obtain ⟨f__law_units, fd__law_units, F__law_units, M__law_units, B__law_units, G__law_units⟩ := has__law_units (P := P) (w := w) (base := base) T
  refine ⟨f, fd, F, M, F.binds (ps := ["_law_bag_here", "_law_word", "_law_far", "_law_t", "_law_due"]) (fun _ _ _ _ _ _ us hl => match us, hl with | [_, _, _, _, _], _ => rfl), F.ok sc__law_tables_so (fun vs H Q E h => ?_) (fun cdv A outer s H vs Q E hr h => ?_)⟩
  · obtain ⟨b, c, ns, G, x, vs', rfl, hg, hB, r, hp, q⟩ := h; rw [List.length_cons, r.len]; rfl
  · obtain ⟨b, c, ns, G, ⟨kd, o, t⟩, vs', rfl, hg, hB, r, ht, k⟩ := h
    replace ht : SzT 150 t := ht
    replace k : ∀ d v H', (d = (.bl true : D)) → Rep K G.M H' d v → Ex (onB b) H H' → G.B H' → Q v H' := k
    obtain ⟨v0_1, _, rfl, r0_1, rt1⟩ := cons_of r
    replace r0_1 : Rep K G.M H (.str ((kdS kd))) v0_1 := r0_1
    obtain rfl := str_of r0_1
    obtain ⟨v0_2, _, rfl, r0_2, rt2⟩ := cons_of rt1
    replace r0_2 : Rep K G.M H (.str ((kdS o))) v0_2 := r0_2
    obtain rfl := str_of r0_2
    obtain ⟨v0_3, _, rfl, r0_3, rt3⟩ := cons_of rt2
    replace r0_3 : Rep K G.M H (tbT (t)) v0_3 := r0_3
    obtain ⟨v0_4, _, rfl, r0_4, rt4⟩ := cons_of rt3
    replace r0_4 : Rep K G.M H (.bl ((staysB kd t o))) v0_4 := r0_4
    obtain rfl := bl_of r0_4
    obtain rfl := nil_of rt4
    refine ⟨_, (pss_cons (ps_setLc (i := 5) (own := [("_law_k", 7)]) (g := gName 7) (tt := tYes) (by rfl) sc__law_tables_so.nd rfl rfl (sw_true rfl rfl rfl (by decide +kernel)) (pi_range1 (by rfl) T.range (pa_cons (pe_call G__law_many (hr.mono (by decide)) (by rfl) M__law_many F__law_many.kp B__law_many .nil pass0 (pa_cons (pv 1) pa_nil)) pa_nil)) (blkOk_by (own := [("_law_k", 7)]) (N := ["_law_bag_here", "_law_word", "_law_far", "_law_t", "_law_due", "_law_nums", "_law_made_here", "_law_k", "_law_s"]) (sc := (defScope s__law_tables_so)) (by decide +kernel)) (fun _ _ _ _ _ => pg_name (i := 7) sc__law_tables_so.nd rfl (.inl rfl)) (fun _ _ _ _ _ => pts_nil) (fun _ _ _ _ _ => (pe_call G__law_small (hr.mono (by decide)) (by rfl) M__law_small F__law_small.kp B__law_small .nil pass0 (pa_cons (pv 0) pa_nil)))) (pss_cons (ps_set (i := 6) sc__law_tables_so.nd rfl (.inl rfl) (pe_op (op_own G_Table___mul__ (hr.mono (by decide)) B_Table___mul__ pass0 Y.first M_Table___mul__.1 M_Table___mul__.2) (pe_call G_table_of (hr.mono (by decide)) (by rfl) M_table_of F_table_of.kp B_table_of .nil pass0 (pa_cons (pv 1) (pa_cons (pv 5) pa_nil))) (pe_call G__law_made (hr.mono (by decide)) (by rfl) M__law_made F__law_made.kp B__law_made .nil pass0 (pa_cons (pv 3) pa_nil)))) (pss_cons (ps_if (pt_not (pt_val (pe_call G__law_same (hr.mono (by decide)) (by rfl) M__law_same F__law_same.kp B__law_same .nil pass0 (pa_cons (pe_call G_fits (hr.mono (by decide)) (by rfl) M_fits F_fits.kp B_fits .nil pass0 (pa_cons (pv 2) (pa_cons (pv 6) pa_nil))) (pa_cons (pe_cmpR op_notN1 (pe_call G__law_read_off (hr.mono (by decide)) (by rfl) M__law_read_off F__law_read_off.kp B__law_read_off .nil pass0 (pa_cons (pv 2) (pa_cons (pe_call G__law_after (hr.mono (by decide)) (by rfl) M__law_after F__law_after.kp B__law_after .nil pass0 (pa_cons (pe_call G__law_filled (hr.mono (by decide)) (by rfl) M__law_filled F__law_filled.kp B__law_filled .nil pass0 (pa_cons (pv 1) (pa_cons (pv 5) pa_nil))) (pa_cons (pv 3) pa_nil))) pa_nil))) pe_non (nomark _)) pa_nil))))) (pss_one ps_never) pss_nil) (pss_cons (ps_if (pt_val (pv 4)) (pss_one (ps_ret (pe_call G_fits (hr.mono (by decide)) (by rfl) M_fits F_fits.kp B_fits .nil pass0 (pa_cons (pv 2) (pa_cons (pv 6) pa_nil))))) pss_nil) (pss_one (ps_ret (pe_not (pe_callB (cr_all (by rfl)) (by rfl) T.all (by decide +kernel) (pa_cons (pe_lc (own := [("_law_s", 8)]) (g := gName 8) (tt := tYes) (by rfl) sc__law_tables_so.nd (pi_listK (K := K) (pe_call G__law_units (hr.mono (by decide)) (by rfl) M__law_units F__law_units.kp B__law_units .nil pass0 (pa_cons (pv 1) pa_nil))) (blkOk_by (own := [("_law_s", 8)]) (N := ["_law_bag_here", "_law_word", "_law_far", "_law_t", "_law_due", "_law_nums", "_law_made_here", "_law_k", "_law_s"]) (sc := (defScope s__law_tables_so)) (by decide +kernel)) (fun _ _ _ _ _ => pg_name (i := 8) sc__law_tables_so.nd rfl (.inl rfl)) (fun _ _ _ _ _ => pts_nil) (fun _ _ _ _ _ => (pe_call G_fits (hr.mono (by decide)) (by rfl) M_fits F_fits.kp B_fits .nil pass0 (pa_cons (pv 2) (pa_cons (pe_op (op_own G_Table___mul__ (hr.mono (by decide)) B_Table___mul__ pass0 Y.first M_Table___mul__.1 M_Table___mul__.2) (pe_call G__law_made (hr.mono (by decide)) (by rfl) M__law_made F__law_made.kp B__law_made .nil pass0 (pa_cons (pv 8) pa_nil)) (pe_call G__law_made (hr.mono (by decide)) (by rfl) M__law_made F__law_made.kp B__law_made .nil pass0 (pa_cons (pv 3) pa_nil))) pa_nil))))) pa_nil))))))))), ?_⟩
    with_reducible refine k_seq ?_
    with_reducible refine k_set ?_
    with_reducible refine k_lcr ?_
    with_reducible refine k_argX ?_
    with_reducible refine k_call ?_
    refine k_arg (val_var rfl) ?_
    with_reducible refine k_nil ?_
    refine k_spF kd hB (rcons (rstr _) (rnil (K := K))) trivial (fun v1 H1 r1 s1 hB1 => ?_)
    obtain rfl := int_of (i := ((ownN kd : Nat) : Int)) r1
    with_reducible refine k_nil ?_
    refine k_lcRE (K := K) (n := (ownN kd)) (j := 7) (vs := [7]) ((onB b)) hg.on (ownN_le kd) hB1 (fun i x => ∃ q, x = fr q ∧ SzR 24 q) (by intro _; rfl) (fun dc1 ic1 Hc1 hic1 nc1 hBc1 ec1 Qc1 kc1 => ?_) (fun ds1 vd1 He1 l1 p1 r1 e1 be1 => ?_) rfl
    · have hB2 := Bg.enterB hB1 nc1
      have nd2 := nc1
      have hB3 := hBc1
      have e3 := ec1
      with_reducible refine k_call ?_
      refine k_arg (val_var rfl) ?_
      with_reducible refine k_nil ?_
      refine k_spB () (hg.plus hB1 nc1) hB3 (rnil (K := K)) trivial (fun d4 v4 H4 p4 r4 e4 hB4 => ?_)
      obtain ⟨y0_4, rfl, z0_4⟩ := p4
      exact kc1 _ _ _ ⟨_, rfl, z0_4⟩ (r4) e4 hB4
    · have e5 := e1
      have hB5 := be1
      obtain ⟨ra1, rb1, rc1, rd1, q1, zra1, zrb1, zrc1, zrd1⟩ := nums_of (k := kd) (by decide) l1 p1
      have r5 : Rep K G.M He1 (numsD (kd) (ra1) (rb1) (rc1) (rd1)) vd1 := by rw [← q1]; exact r1
      with_reducible refine k_seq ?_
      with_reducible refine k_set ?_
      with_reducible refine k_opX ?_
      with_reducible refine k_call ?_
      refine k_arg (val_var rfl) ?_
      refine k_arg (val_var rfl) ?_
      with_reducible refine k_nil ?_
      refine k_spF (kd, ra1, rb1, rc1, rd1, 24) hB5 (rcons (rstr _) (rcons (r5) (rnil (K := K)))) ⟨(zra1).mono (by first | omega | (dsimp only; omega)), (zrb1).mono (by first | omega | (dsimp only; omega)), (zrc1).mono (by first | omega | (dsimp only; omega)), (zrd1).mono (by first | omega | (dsimp only; omega)), (by first | omega | (dsimp only; omega))⟩ (fun v6 H6 r6 s6 hB6 => ?_)
      replace r6 : Rep K G.M H6 (tbI C (filled (kd) (ra1) (rb1) (rc1) (rd1))) v6 := r6
      with_reducible refine k_call ?_
      refine k_arg (val_var rfl) ?_
      with_reducible refine k_nil ?_
      have q2 := (((r0_3.up hB (Ex.of s1)).up hB1 (hg.up e5)).up hB5 (Ex.of s6))
      refine k_spF (t) hB6 (rcons (q2) (rnil (K := K))) trivial (fun v7 H7 r7 s7 hB7 => ?_)
      replace r7 : Rep K G.M H7 (tbI C (t)) v7 := r7
      refine f_own ((r6.up hB6 (Ex.of s7))) (r7) ?_
      have zt3a : SzT 24 (filled (kd) (ra1) (rb1) (rc1) (rd1)) := (szT_filled (kd) (by first | omega | (dsimp only; omega)) ((zra1).mono (by first | omega | (dsimp only; omega))) ((zrb1).mono (by first | omega | (dsimp only; omega))) ((zrc1).mono (by first | omega | (dsimp only; omega))) ((zrd1).mono (by first | omega | (dsimp only; omega))))
      have zt3b : SzT 150 (t) := ht
      have zt3 : SzT 349 (mulT (filled (kd) (ra1) (rb1) (rc1) (rd1)) (t)) := szT_mul zt3a zt3b (by first | omega | (dsimp only; omega))
      refine k_spF ((filled (kd) (ra1) (rb1) (rc1) (rd1)).a, (filled (kd) (ra1) (rb1) (rc1) (rd1)).b, (filled (kd) (ra1) (rb1) (rc1) (rd1)).c, (filled (kd) (ra1) (rb1) (rc1) (rd1)).d, (t).a, (t).b, (t).c, (t).d, 24, 150) hB7 (rcons ((r6.up hB6 (Ex.of s7))) (rcons (r7) (rnil (K := K)))) ⟨zt3a.1, zt3a.2.1, zt3a.2.2.1, zt3a.2.2.2, zt3b.1, zt3b.2.1, zt3b.2.2.1, zt3b.2.2.2, (by first | omega | (dsimp only; omega))⟩ (fun v8 H8 r8 s8 hB8 => ?_)
      replace r8 : Rep K G.M H8 (tbI C (mulT (filled (kd) (ra1) (rb1) (rc1) (rd1)) (t))) v8 := r8
      with_reducible refine k_seq ?_
      with_reducible refine k_ifX ?_
      with_reducible refine k_not ?_
      with_reducible refine k_B ?_
      with_reducible refine k_call ?_
      with_reducible refine k_argX ?_
      with_reducible refine k_call ?_
      refine k_arg (val_var rfl) ?_
      refine k_arg (val_var rfl) ?_
      with_reducible refine k_nil ?_
      refine k_spF (o, mulT (filled (kd) (ra1) (rb1) (rc1) (rd1)) (t), 349) hB8 (rcons (rstr _) (rcons (r8) (rnil (K := K)))) ⟨zt3, (by first | omega | (dsimp only; omega)), (by first | omega | (dsimp only; omega))⟩ (fun v9 H9 r9 s9 hB9 => ?_)
      obtain rfl := bl_of (b := (fitsB (o) (mulT (filled (kd) (ra1) (rb1) (rc1) (rd1)) (t)))) r9
      with_reducible refine k_argX ?_
      with_reducible refine k_opX ?_
      with_reducible refine k_call ?_
      refine k_arg (val_var rfl) ?_
      with_reducible refine k_argX ?_
      with_reducible refine k_call ?_
      with_reducible refine k_argX ?_
      with_reducible refine k_call ?_
      refine k_arg (val_var rfl) ?_
      refine k_arg (val_var rfl) ?_
      with_reducible refine k_nil ?_
      have zf4 : SzT 24 (filled (kd) (ra1) (rb1) (rc1) (rd1)) := szT_filled (kd) (by first | omega | (dsimp only; omega)) ((zra1).mono (by first | omega | (dsimp only; omega))) ((zrb1).mono (by first | omega | (dsimp only; omega))) ((zrc1).mono (by first | omega | (dsimp only; omega))) ((zrd1).mono (by first | omega | (dsimp only; omega)))
      have q5 := ((((r5.up hB5 (Ex.of s6)).up hB6 (Ex.of s7)).up hB7 (Ex.of s8)).up hB8 (Ex.of s9))
      refine k_spF (kd, ra1, rb1, rc1, rd1, 24) hB9 (rcons (rstr _) (rcons (q5) (rnil (K := K)))) ⟨(zra1).mono (by first | omega | (dsimp only; omega)), (zrb1).mono (by first | omega | (dsimp only; omega)), (zrc1).mono (by first | omega | (dsimp only; omega)), (zrd1).mono (by first | omega | (dsimp only; omega)), (by first | omega | (dsimp only; omega)), (by first | omega | (dsimp only; omega))⟩ (fun v10 H10 r10 s10 hB10 => ?_)
      replace r10 : Rep K G.M H10 (tbT (filled (kd) (ra1) (rb1) (rc1) (rd1))) v10 := r10
      refine k_arg (val_var rfl) ?_
      with_reducible refine k_nil ?_
      have zt6a : SzT 24 (filled (kd) (ra1) (rb1) (rc1) (rd1)) := zf4
      have zt6b : SzT 150 (t) := ht
      have zt6 : SzT 349 (mulT (filled (kd) (ra1) (rb1) (rc1) (rd1)) (t)) := szT_mul zt6a zt6b (by first | omega | (dsimp only; omega))
      have q7 := ((((q2.up hB6 (Ex.of s7)).up hB7 (Ex.of s8)).up hB8 (Ex.of s9)).up hB9 (Ex.of s10))
      refine k_spF (filled (kd) (ra1) (rb1) (rc1) (rd1), t, 24, 150) hB10 (rcons (r10) (rcons (q7) (rnil (K := K)))) ⟨zt6a, zt6b, (by first | omega | (dsimp only; omega))⟩ (fun v11 H11 r11 s11 hB11 => ?_)
      replace r11 : Rep K G.M H11 (tbT (mulT (filled (kd) (ra1) (rb1) (rc1) (rd1)) (t))) v11 := r11
      with_reducible refine k_nil ?_
      refine k_spF (o, mulT (filled (kd) (ra1) (rb1) (rc1) (rd1)) (t), 349) hB11 (rcons (rstr _) (rcons (r11) (rnil (K := K)))) ⟨zt6, (by first | omega | (dsimp only; omega)), (by first | omega | (dsimp only; omega))⟩ (fun v12 H12 r12 s12 hB12 => ?_)
      replace r12 : Rep K G.M H12 (ownD (o) (mulT (filled (kd) (ra1) (rb1) (rc1) (rd1)) (t))) v12 := r12
      refine k_val val_c ?_
      refine f_notN (b := (fitsB (o) (mulT (filled (kd) (ra1) (rb1) (rc1) (rd1)) (t)))) (r12) (own_none (o) (mulT (filled (kd) (ra1) (rb1) (rc1) (rd1)) (t))) ?_
      with_reducible refine k_nil ?_
      refine k_spF (.bl ((fitsB (o) (mulT (filled (kd) (ra1) (rb1) (rc1) (rd1)) (t))))) hB12 (rcons (rbl _) (rcons (rbl _) (rnil (K := K)))) rfl (fun v13 H13 r13 s13 hB13 => ?_)
      obtain rfl := bl_of (b := true) r13
      refine ⟨_, rfl, ?_⟩
      refine iteF ?_
      with_reducible refine k_next ?_
      with_reducible refine k_seq ?_
      with_reducible refine k_ifX ?_
      with_reducible refine k_B ?_
      refine k_val (val_var rfl) ?_
      refine ⟨_, rfl, ?_⟩
      refine k_ite (fun c8 => ?_) (fun c8 => ?_)
      · with_reducible refine k_ret ?_
        with_reducible refine k_call ?_
        refine k_arg (val_var rfl) ?_
        refine k_arg (val_var rfl) ?_
        with_reducible refine k_nil ?_
        have q9 := (((((r8.up hB8 (Ex.of s9)).up hB9 (Ex.of s10)).up hB10 (Ex.of s11)).up hB11 (Ex.of s12)).up hB12 (Ex.of s13))
        refine k_spF (o, mulT (filled (kd) (ra1) (rb1) (rc1) (rd1)) (t), 349) hB13 (rcons (rstr _) (rcons (q9) (rnil (K := K)))) ⟨zt3, (by first | omega | (dsimp only; omega)), (by first | omega | (dsimp only; omega))⟩ (fun v14 H14 r14 s14 hB14 => ?_)
        obtain rfl := bl_of (b := (fitsB (o) (mulT (filled (kd) (ra1) (rb1) (rc1) (rd1)) (t)))) r14
        exact k _ _ _ (congrArg D.bl (stays_all c8 _ _ _ _)) (rbl _) ((Ex.of s1).trans (e5.trans ((Ex.of s6).trans ((Ex.of s7).trans ((Ex.of s8).trans ((Ex.of s9).trans ((Ex.of s10).trans ((Ex.of s11).trans ((Ex.of s12).trans ((Ex.of s13).trans (Ex.of s14))))))))))) hB14
      · with_reducible refine k_next ?_
        with_reducible refine k_ret ?_
        with_reducible refine k_notV ?_
        with_reducible refine k_cb ?_
        with_reducible refine k_argX ?_
        with_reducible refine k_lcl ?_
        with_reducible refine k_call ?_
        refine k_arg (val_var rfl) ?_
        with_reducible refine k_nil ?_
        refine k_spF kd hB13 (rcons (rstr _) (rnil (K := K))) trivial (fun v15 H15 r15 s15 hB15 => ?_)
        replace r15 : Rep K G.M H15 (.lst ((units (kd)).map tbT)) v15 := r15
        refine k_lcLE (K := K) (j := 8) (vs := [8]) (noM) (fun _ m => m.elim) (by rw [List.length_map]; exact units_len _) hB15 (r15) (fun i x => ∀ a, (units kd)[i]? = some a → x = .bl (fitsB o (mulT a (t)))) (by intro _; rfl) (fun dc10 ic10 x10 w10 Hc10 hic10 nc10 hBc10 ec10 rx10 Qc10 kc10 => ?_) (fun ds10 vd10 He10 l10 p10 r10 e10 be10 => ?_)
        · have hB16 := Bg.enterB hB15 nc10
          have nd16 := nc10
          have hB17 := hBc10
          have e17 := ec10
          obtain ⟨u10, hu10, rfl, zu10⟩ := units_get hic10
          with_reducible refine k_call ?_
          refine k_arg (val_var rfl) ?_
          with_reducible refine k_argX ?_
          with_reducible refine k_opX ?_
          with_reducible refine k_call ?_
          refine k_arg (val_var rfl) ?_
          with_reducible refine k_nil ?_
          refine k_spF (u10) hB17 (rcons (rx10) (rnil (K := K))) trivial (fun v18 H18 r18 s18 hB18 => ?_)
          replace r18 : Rep K (G.plus dc10).M H18 (tbI C (u10)) v18 := r18
          with_reducible refine k_call ?_
          refine k_arg (val_var rfl) ?_
          with_reducible refine k_nil ?_
          have q11 := (((((((q7.up hB10 (Ex.of s11)).up hB11 (Ex.of s12)).up hB12 (Ex.of s13)).up hB13 (Ex.of s15)).enter hB15 nd16).up hB16 e17).up hB17 (Ex.of s18))
          refine k_spF (t) hB18 (rcons (q11) (rnil (K := K))) trivial (fun v19 H19 r19 s19 hB19 => ?_)
          replace r19 : Rep K (G.plus dc10).M H19 (tbI C (t)) v19 := r19
          refine f_own ((r18.up hB18 (Ex.of s19))) (r19) ?_
          have zt12a : SzT 1 (u10) := zu10
          have zt12b : SzT 150 (t) := ht
          have zt12 : SzT 303 (mulT (u10) (t)) := szT_mul zt12a zt12b (by first | omega | (dsimp only; omega))
          refine k_spF ((u10).a, (u10).b, (u10).c, (u10).d, (t).a, (t).b, (t).c, (t).d, 1, 150) hB19 (rcons ((r18.up hB18 (Ex.of s19))) (rcons (r19) (rnil (K := K)))) ⟨zt12a.1, zt12a.2.1, zt12a.2.2.1, zt12a.2.2.2, zt12b.1, zt12b.2.1, zt12b.2.2.1, zt12b.2.2.2, (by first | omega | (dsimp only; omega))⟩ (fun v20 H20 r20 s20 hB20 => ?_)
          replace r20 : Rep K (G.plus dc10).M H20 (tbI C (mulT (u10) (t))) v20 := r20
          with_reducible refine k_nil ?_
          refine k_spF (o, mulT (u10) (t), 303) hB20 (rcons (rstr _) (rcons (r20) (rnil (K := K)))) ⟨zt12, (by first | omega | (dsimp only; omega)), (by first | omega | (dsimp only; omega))⟩ (fun v21 H21 r21 s21 hB21 => ?_)
          obtain rfl := bl_of (b := (fitsB (o) (mulT (u10) (t)))) r21
          exact kc10 _ _ _ (fun a ha => by rw [hu10] at ha; cases ha; rfl) (rbl _) (Ex.of (((s18.trans s19).trans s20).trans s21)) hB21
        · have s22 := same_of e10
          have hB22 := be10
          have q10 := eq_map (xs := units kd) (e := fun a => .bl (fitsB o (mulT a (t)))) (by rw [l10, List.length_map]) p10
          have r22 : Rep K G.M He10 (.lst (((units kd).map (fun a => fitsB o (mulT a (t)))).map .bl)) vd10 := by rw [q10] at r10; rw [List.map_map]; exact r10
          with_reducible refine k_nil ?_
          refine f_all (bs := ((units kd).map (fun a => fitsB o (mulT a (t))))) (r22) all_units ?_
          refine ⟨_, rfl, ?_⟩
          exact k _ _ _ (show D.bl (!(staysB kd (t) o)) = D.bl true from by rw [c8]; rfl) (rbl _) ((Ex.of s1).trans (e5.trans ((Ex.of s6).trans ((Ex.of s7).trans ((Ex.of s8).trans ((Ex.of s9).trans ((Ex.of s10).trans ((Ex.of s11).trans ((Ex.of s12).trans ((Ex.of s13).trans ((Ex.of s15).trans (Ex.of s22)))))))))))) hB22
end
end Px

namespace Px
open PySem PySem.Spec PyProof.Rows L2
theorem kd_mapE {ks : List Kd} {i : Nat} {x : D} (h : (ks.map fun k => D.str (kdS k))[i]? = some x) : ∃ k, ks[i]? = some k ∧ x = .str (kdS k) := by
  rw [List.getElem?_map, Option.map_eq_some_iff] at h
  obtain ⟨k, h1, rfl⟩ := h
  exact ⟨k, h1, rfl⟩
theorem kd_map {ks : List Kd} {i : Nat} {x : D} (h : (ks.map fun k => D.str (kdS k))[i]? = some x) : ∃ k, x = .str (kdS k) := by
  obtain ⟨k, _, e⟩ := kd_mapE h
  exact ⟨k, e⟩
theorem in_se (k : Kd) : inV (.str (kdS k)) [V.str "sized", V.str "even"] = decide (k = .sized ∨ k = .even) := by
  cases k <;> decide +kernel
section
variable {P : Program} {w : World} {K : PySem.W.Frag} {mg : Str → Option Value} {base : Heap}
def sp__law_narrower_so (K : PySem.W.Frag) (C : Addr) : Sp := spF K (α := List Kd) (fun x => [.lst (x.map fun k => .str (kdS k))]) (fun x => True) (fun x => (.bl (true) : D))
theorem has__law_narrower_so {C : Addr} (T : Tx K mg) (Y : TabTx K mg w C) : ∃ f fd, Fun K "_law_narrower_so" "_law_narrower_so" s__law_narrower_so f fd ∧ mg "_law_narrower_so" = some (.ref f) ∧ Binds K fd ["_law_some"] [] ∧ FnOk P w K mg base CX0 11 f fd ["_law_some"] (sp__law_narrower_so K C) := by
  obtain ⟨f, fd, F, M⟩ := T._law_narrower_so
  obtain ⟨f__law_same, fd__law_same, F__law_same, M__law_same, B__law_same, G__law_same⟩ := has__law_same (P := P) (w := w) (base := base) T
  obtain ⟨f__law_words, fd__law_words, F__law_words, M__law_words, B__law_words, G__law_words⟩ := has__law_words (P := P) (w := w) (base := base) T
  obtain ⟨f__law_narrow, fd__law_narrow, F__law_narrow, M__law_narrow, B__law_narrow, G__law_narrow⟩ := has__law_narrow (P := P) (w := w) (base := base) T
  obtain ⟨f_is_narrower, fd_is_narrower, F_is_narrower, M_is_narrower, B_is_narrower, G_is_narrower⟩ := has_is_narrower (P := P) (w := w) (base := base) T Y
  obtain ⟨f_stays, fd_stays, F_stays, M_stays, B_stays, G_stays⟩ := has_stays (P := P) (w := w) (base := base) T Y
  obtain ⟨f_Table_identity, fd_Table_identity, F_Table_identity, M_Table_identity, B_Table_identity, G_Table_identity⟩ := has_Table_identity (P := P) (w := w) (base := base) T Y
  have KB_is_narrower_0_other_kind : KBn K fd_is_narrower ["kind", "other"] 0 ["other", "kind"] (permU [1, 0]) (permV [1, 0]) := by
    obtain ⟨oc, od, kV, doc, pm, an, cdv, ct, osl, rfl, _, _⟩ := F_is_narrower.ex
    exact kbn_of [1, 0] fun us ws l1 l2 => match us, l1, ws, l2 with | [], _, [_, _], _ => rfl
  refine ⟨f, fd, F, M, F.binds (ps := ["_law_some"]) (fun _ _ _ _ _ _ us hl => match us, hl with | [_], _ => rfl), F.ok sc__law_narrower_so (fun vs H Q E h => ?_) (fun cdv A outer s H vs Q E hr h => ?_)⟩
  · obtain ⟨G, x, hB, r, hp, q⟩ := h; rw [r.len]; rfl
  · obtain ⟨G, ks, hB, r, _, k⟩ := h
    refine ⟨_, (pss_cons (ps_for PassesOwn.never rfl (pi_list (pv 0)) (pg_name (i := 1) sc__law_narrower_so.nd rfl (.inr rfl)) (pss_cons (ps_setLc (i := 2) (own := [("_law_far", 4)]) (g := gName 4) (tt := tYes) (by rfl) sc__law_narrower_so.nd rfl rfl (sw_true rfl rfl rfl (by decide +kernel)) (pi_listK (K := K) (pe_call0 G__law_words (hr.mono (by decide)) (by rfl) M__law_words F__law_words.kp B__law_words .nil pass0)) (blkOk_by (own := [("_law_far", 4)]) (N := ["_law_some", "_law_word", "_law_due", "_law_told", "_law_far"]) (sc := (defScope s__law_narrower_so)) (by decide +kernel)) (fun _ _ _ _ _ => pg_name (i := 4) sc__law_narrower_so.nd rfl (.inl rfl)) (fun _ _ _ _ _ => pts_nil) (fun _ _ _ _ _ => (pe_call G__law_narrow (hr.mono (by decide)) (by rfl) M__law_narrow F__law_narrow.kp B__law_narrow .nil pass0 (pa_cons (pv 1) (pa_cons (pv 4) pa_nil))))) (pss_cons (ps_if (pt_not (pt_val (pe_call G__law_same (hr.mono (by decide)) (by rfl) M__law_same F__law_same.kp B__law_same .nil pass0 (pa_cons (pe_lc (own := [("_law_far", 4)]) (g := gName 4) (tt := tYes) (by rfl) sc__law_narrower_so.nd (pi_listK (K := K) (pe_call0 G__law_words (hr.mono (by decide)) (by rfl) M__law_words F__law_words.kp B__law_words .nil pass0)) (blkOk_by (own := [("_law_far", 4)]) (N := ["_law_some", "_law_word", "_law_due", "_law_told", "_law_far"]) (sc := (defScope s__law_narrower_so)) (by decide +kernel)) (fun _ _ _ _ _ => pg_name (i := 4) sc__law_narrower_so.nd rfl (.inl rfl)) (fun _ _ _ _ _ => pts_nil) (fun _ _ _ _ _ => (pe_call G_is_narrower (hr.mono (by decide)) (by rfl) M_is_narrower F_is_narrower.kp B_is_narrower .nil pass0 (pa_cons (pv 1) (pa_cons (pv 4) pa_nil))))) (pa_cons (pv 2) pa_nil))))) (pss_one ps_never) pss_nil) (pss_cons (ps_if (pt_not (pt_val (pe_call G__law_same (hr.mono (by decide)) (by rfl) M__law_same F__law_same.kp B__law_same .nil pass0 (pa_cons (pe_lc (own := [("_law_far", 4)]) (g := gName 4) (tt := tYes) (by rfl) sc__law_narrower_so.nd (pi_listK (K := K) (pe_call0 G__law_words (hr.mono (by decide)) (by rfl) M__law_words F__law_words.kp B__law_words .nil pass0)) (blkOk_by (own := [("_law_far", 4)]) (N := ["_law_some", "_law_word", "_law_due", "_law_told", "_law_far"]) (sc := (defScope s__law_narrower_so)) (by decide +kernel)) (fun _ _ _ _ _ => pg_name (i := 4) sc__law_narrower_so.nd rfl (.inl rfl)) (fun _ _ _ _ _ => pts_nil) (fun _ _ _ _ _ => (pe_callN0 G_is_narrower (hr.mono (by decide)) (by rfl) M_is_narrower F_is_narrower.kp KB_is_narrower_0_other_kind pass0  (pk_cons (pv 4) (pk_cons (pv 1) pk_nil))))) (pa_cons (pv 2) pa_nil))))) (pss_one ps_never) pss_nil) (pss_cons (ps_setLc (i := 3) (own := [("_law_far", 4)]) (g := gName 4) (tt := tYes) (by rfl) sc__law_narrower_so.nd rfl rfl (sw_true rfl rfl rfl (by decide +kernel)) (pi_listK (K := K) (pe_call0 G__law_words (hr.mono (by decide)) (by rfl) M__law_words F__law_words.kp B__law_words .nil pass0)) (blkOk_by (own := [("_law_far", 4)]) (N := ["_law_some", "_law_word", "_law_due", "_law_told", "_law_far"]) (sc := (defScope s__law_narrower_so)) (by decide +kernel)) (fun _ _ _ _ _ => pg_name (i := 4) sc__law_narrower_so.nd rfl (.inl rfl)) (fun _ _ _ _ _ => pts_nil) (fun _ _ _ _ _ => (pe_call G_stays (hr.mono (by decide)) (by rfl) M_stays F_stays.kp B_stays .nil pass0 (pa_cons (pv 1) (pa_cons (pe_static0 (pe_glob (v := .ref C) (by rfl) Y.g rfl) M_Table_identity G_Table_identity (hr.mono (by decide)) B_Table_identity pass0) (pa_cons (pv 4) pa_nil)))))) (pss_one (ps_if (PW.pt (pw_or (pt_not (pt_val (pe_call G__law_same (hr.mono (by decide)) (by rfl) M__law_same F__law_same.kp B__law_same .nil pass0 (pa_cons (pe_slice sl_list (pv 3) po_none (po_some pe_int)) (pa_cons (pe_slice sl_list (pv 2) po_none (po_some pe_int)) pa_nil))))) (pw_or1 (pt_not (pt_val (pe_call G__law_same (hr.mono (by decide)) (by rfl) M__law_same F__law_same.kp B__law_same .nil pass0 (pa_cons (pe_ix (ix_listK (K := K)) (pv 3) pe_int (fun _ _ => rfl)) (pa_cons (pe_cmpR op_in_seq (pv 1) (pe_tup (pa_cons pe_str (pa_cons pe_str pa_nil))) (by rfl)) pa_nil)))))))) (pss_one ps_never) pss_nil))))))) (pss_one (ps_ret pe_bl))), ?_⟩
    replace k : ∀ d v H', d = (.bl (true) : D) → Rep K G.M H' d v → Same H H' → G.B H' → Q v H' := k
    obtain ⟨v0_0, _, rfl, r0_0, rt0⟩ := cons_of r
    replace r0_0 : Rep K G.M H (.lst (ks.map fun k => .str (kdS k))) v0_0 := r0_0
    obtain rfl := nil_of rt0
    with_reducible refine k_seq ?_
    refine k_for_l ?_
    refine k_val (val_var rfl) ?_
    refine k_forL (K := K) (j := 1) noM (fun _ m => m.elim) hB (r0_0) (fun _ σ2 => ∃ (o1_1 : Option V) (o2_1 : Option V) (o3_1 : Option V), σ2 = [some v0_0, o1_1, o2_1, o3_1, none]) ⟨_, _, _, rfl⟩ (fun i1 x1 w1 σ1 Hi1 hi1 Ii1 bi1 ei1 ri1 Di1 ki1 => ?_) (fun σ1 Hi1 Ii1 ei1 bi1 => ?_)
    · obtain ⟨o1_1, o2_1, o3_1, rfl⟩ := Ii1
      have s1 := same_of ei1
      have hB1 := bi1
      obtain ⟨kf1, rfl⟩ := kd_map (ks := ks) hi1
      obtain rfl := str_of ri1
      with_reducible refine k_seq ?_
      with_reducible refine k_set ?_
      with_reducible refine k_lcl ?_
      with_reducible refine k_call ?_
      with_reducible refine k_nil ?_
      refine k_spF () hB1 (rnil (K := K)) trivial (fun v2 H2 r2 s2 hB2 => ?_)
      replace r2 : Rep K G.M H2 (.lst [.str ((kdS Kd.slanted)), .str ((kdS Kd.turned)), .str ((kdS Kd.mirrored)), .str ((kdS Kd.stretched)), .str ((kdS Kd.sized)), .str ((kdS Kd.even))]) v2 := r2
      refine k_lcLE (K := K) (j := 4) (vs := [4]) (noM) (fun _ m => m.elim) (by decide) hB2 (r2) (fun i x => ∀ a, kinds[i]? = some a → x = .bl (narrowL kf1 a)) (by intro _; rfl) (fun dc2 ic2 x2 w2 Hc2 hic2 nc2 hBc2 ec2 rx2 Qc2 kc2 => ?_) (fun ds2 vd2 He2 l2 p2 r2 e2 be2 => ?_)
      · have hB3 := Bg.enterB hB2 nc2
        have nd3 := nc2
        have hB4 := hBc2
        have e4 := ec2
        obtain ⟨kq2, hq2, rfl⟩ := kd_mapE (ks := kinds) hic2
        obtain rfl := str_of rx2
        with_reducible refine k_call ?_
        refine k_arg (val_var rfl) ?_
        refine k_arg (val_var rfl) ?_
        with_reducible refine k_nil ?_
        refine k_spF (kf1, kq2) hB4 (rcons (rstr _) (rcons (rstr _) (rnil (K := K)))) trivial (fun v5 H5 r5 s5 hB5 => ?_)
        obtain rfl := bl_of (b := (narrowL (kf1) (kq2))) r5
        exact kc2 _ _ _ (fun a ha => by rw [hq2] at ha; cases ha; rfl) (rbl _) (Ex.of s5) hB5
      · have s6 := same_of e2
        have hB6 := be2
        have q2 := eq_map (xs := kinds) (e := fun a => .bl (narrowL kf1 a)) l2 p2
        have r6 : Rep K G.M He2 (.lst [.bl ((narrowL kf1 Kd.slanted)), .bl ((narrowL kf1 Kd.turned)), .bl ((narrowL kf1 Kd.mirrored)), .bl ((narrowL kf1 Kd.stretched)), .bl ((narrowL kf1 Kd.sized)), .bl ((narrowL kf1 Kd.even))]) vd2 := by rw [q2] at r2; exact r2
        with_reducible refine k_seq ?_
        with_reducible refine k_ifX ?_
        with_reducible refine k_not ?_
        with_reducible refine k_B ?_
        with_reducible refine k_call ?_
        with_reducible refine k_argX ?_
        with_reducible refine k_lcl ?_
        with_reducible refine k_call ?_
        with_reducible refine k_nil ?_
        refine k_spF () hB6 (rnil (K := K)) trivial (fun v7 H7 r7 s7 hB7 => ?_)
        replace r7 : Rep K G.M H7 (.lst [.str ((kdS Kd.slanted)), .str ((kdS Kd.turned)), .str ((kdS Kd.mirrored)), .str ((kdS Kd.stretched)), .str ((kdS Kd.sized)), .str ((kdS Kd.even))]) v7 := r7
        refine k_lcLE (K := K) (j := 4) (vs := [4]) (noM) (fun _ m => m.elim) (by decide) hB7 (r7) (fun i x => ∀ a, kinds[i]? = some a → x = .bl (narrowL kf1 a)) (by intro _; rfl) (fun dc3 ic3 x3 w3 Hc3 hic3 nc3 hBc3 ec3 rx3 Qc3 kc3 => ?_) (fun ds3 vd3 He3 l3 p3 r3 e3 be3 => ?_)
        · have hB8 := Bg.enterB hB7 nc3
          have nd8 := nc3
          have hB9 := hBc3
          have e9 := ec3
          obtain ⟨kq3, hq3, rfl⟩ := kd_mapE (ks := kinds) hic3
          obtain rfl := str_of rx3
          with_reducible refine k_call ?_
          refine k_arg (val_var rfl) ?_
          refine k_arg (val_var rfl) ?_
          with_reducible refine k_nil ?_
          refine k_spF (kf1, kq3) hB9 (rcons (rstr _) (rcons (rstr _) (rnil (K := K)))) trivial (fun v10 H10 r10 s10 hB10 => ?_)
          obtain rfl := bl_of (b := (narrowL (kf1) (kq3))) r10
          exact kc3 _ _ _ (fun a ha => by rw [hq3] at ha; cases ha; rfl) (rbl _) (Ex.of s10) hB10
        · have s11 := same_of e3
          have hB11 := be3
          have q3 := eq_map (xs := kinds) (e := fun a => .bl (narrowL kf1 a)) l3 p3
          have r11 : Rep K G.M He3 (.lst [.bl ((narrowL kf1 Kd.slanted)), .bl ((narrowL kf1 Kd.turned)), .bl ((narrowL kf1 Kd.mirrored)), .bl ((narrowL kf1 Kd.stretched)), .bl ((narrowL kf1 Kd.sized)), .bl ((narrowL kf1 Kd.even))]) vd3 := by rw [q3] at r3; exact r3
          refine k_arg (val_var rfl) ?_
          with_reducible refine k_nil ?_
          have q4 := ((r6.up hB6 (Ex.of s7)).up hB7 (Ex.of s11))
          refine k_spF (.lst [.bl ((narrowL kf1 Kd.slanted)), .bl ((narrowL kf1 Kd.turned)), .bl ((narrowL kf1 Kd.mirrored)), .bl ((narrowL kf1 Kd.stretched)), .bl ((narrowL kf1 Kd.sized)), .bl ((narrowL kf1 Kd.even))]) hB11 (rcons (r11) (rcons (q4) (rnil (K := K)))) rfl (fun v12 H12 r12 s12 hB12 => ?_)
          obtain rfl := bl_of (b := true) r12
          refine ⟨_, rfl, ?_⟩
          refine iteF ?_
          with_reducible refine k_next ?_
          with_reducible refine k_seq ?_
          with_reducible refine k_ifX ?_
          with_reducible refine k_not ?_
          with_reducible refine k_B ?_
          with_reducible refine k_call ?_
          with_reducible refine k_argX ?_
          with_reducible refine k_lcl ?_
          with_reducible refine k_call ?_
          with_reducible refine k_nil ?_
          refine k_spF () hB12 (rnil (K := K)) trivial (fun v13 H13 r13 s13 hB13 => ?_)
          replace r13 : Rep K G.M H13 (.lst [.str ((kdS Kd.slanted)), .str ((kdS Kd.turned)), .str ((kdS Kd.mirrored)), .str ((kdS Kd.stretched)), .str ((kdS Kd.sized)), .str ((kdS Kd.even))]) v13 := r13
          refine k_lcLE (K := K) (j := 4) (vs := [4]) (noM) (fun _ m => m.elim) (by decide) hB13 (r13) (fun i x => ∀ a, kinds[i]? = some a → x = .bl (narrowL kf1 a)) (by intro _; rfl) (fun dc5 ic5 x5 w5 Hc5 hic5 nc5 hBc5 ec5 rx5 Qc5 kc5 => ?_) (fun ds5 vd5 He5 l5 p5 r5 e5 be5 => ?_)
          · have hB14 := Bg.enterB hB13 nc5
            have nd14 := nc5
            have hB15 := hBc5
            have e15 := ec5
            obtain ⟨kq5, hq5, rfl⟩ := kd_mapE (ks := kinds) hic5
            obtain rfl := str_of rx5
            with_reducible refine k_callN ?_
            with_reducible refine k_nil ?_
            refine k_arg (val_var rfl) ?_
            refine k_arg (val_var rfl) ?_
            with_reducible refine k_nil ?_
            refine ⟨rfl, rfl, ?_⟩
            refine k_spF (kf1, kq5) hB15 (rcons (rstr _) (rcons (rstr _) (rnil (K := K)))) trivial (fun v16 H16 r16 s16 hB16 => ?_)
            obtain rfl := bl_of (b := (narrowL (kf1) (kq5))) r16
            exact kc5 _ _ _ (fun a ha => by rw [hq5] at ha; cases ha; rfl) (rbl _) (Ex.of s16) hB16
          · have s17 := same_of e5
            have hB17 := be5
            have q5 := eq_map (xs := kinds) (e := fun a => .bl (narrowL kf1 a)) l5 p5
            have r17 : Rep K G.M He5 (.lst [.bl ((narrowL kf1 Kd.slanted)), .bl ((narrowL kf1 Kd.turned)), .bl ((narrowL kf1 Kd.mirrored)), .bl ((narrowL kf1 Kd.stretched)), .bl ((narrowL kf1 Kd.sized)), .bl ((narrowL kf1 Kd.even))]) vd5 := by rw [q5] at r5; exact r5
            refine k_arg (val_var rfl) ?_
            with_reducible refine k_nil ?_
            have q6 := (((q4.up hB11 (Ex.of s12)).up hB12 (Ex.of s13)).up hB13 (Ex.of s17))
            refine k_spF (.lst [.bl ((narrowL kf1 Kd.slanted)), .bl ((narrowL kf1 Kd.turned)), .bl ((narrowL kf1 Kd.mirrored)), .bl ((narrowL kf1 Kd.stretched)), .bl ((narrowL kf1 Kd.sized)), .bl ((narrowL kf1 Kd.even))]) hB17 (rcons (r17) (rcons (q6) (rnil (K := K)))) rfl (fun v18 H18 r18 s18 hB18 => ?_)
            obtain rfl := bl_of (b := true) r18
            refine ⟨_, rfl, ?_⟩
            refine iteF ?_
            with_reducible refine k_next ?_
            with_reducible refine k_seq ?_
            with_reducible refine k_set ?_
            with_reducible refine k_lcl ?_
            with_reducible refine k_call ?_
            with_reducible refine k_nil ?_
            refine k_spF () hB18 (rnil (K := K)) trivial (fun v19 H19 r19 s19 hB19 => ?_)
            replace r19 : Rep K G.M H19 (.lst [.str ((kdS Kd.slanted)), .str ((kdS Kd.turned)), .str ((kdS Kd.mirrored)), .str ((kdS Kd.stretched)), .str ((kdS Kd.sized)), .str ((kdS Kd.even))]) v19 := r19
            refine k_lcLE (K := K) (j := 4) (vs := [4]) (noM) (fun _ m => m.elim) (by decide) hB19 (r19) (fun i x => ∀ a, kinds[i]? = some a → x = .bl (staysB kf1 oneT a)) (by intro _; rfl) (fun dc7 ic7 x7 w7 Hc7 hic7 nc7 hBc7 ec7 rx7 Qc7 kc7 => ?_) (fun ds7 vd7 He7 l7 p7 r7 e7 be7 => ?_)
            · have hB20 := Bg.enterB hB19 nc7
              have nd20 := nc7
              have hB21 := hBc7
              have e21 := ec7
              obtain ⟨kq7, hq7, rfl⟩ := kd_mapE (ks := kinds) hic7
              obtain rfl := str_of rx7
              with_reducible refine k_call ?_
              refine k_arg (val_var rfl) ?_
              with_reducible refine k_argX ?_
              with_reducible refine k_stat ?_
              refine k_val val_c ?_
              refine ⟨rfl, ?_⟩
              refine k_spF () hB21 (rnil (K := K)) trivial (fun v22 H22 r22 s22 hB22 => ?_)
              replace r22 : Rep K (G.plus dc7).M H22 (tbI C (oneT)) v22 := r22
              refine k_arg (val_var rfl) ?_
              with_reducible refine k_nil ?_
              refine k_spF (kf1, oneT, kq7, 1) hB22 (rcons (rstr _) (rcons (r22) (rcons (rstr _) (rnil (K := K))))) ⟨(⟨szr_lit 1 _, szr_lit 1 _, szr_lit 1 _, szr_lit 1 _⟩ : SzT 1 oneT), (by first | omega | (dsimp only; omega)), (by first | omega | (dsimp only; omega))⟩ (fun v23 H23 r23 s23 hB23 => ?_)
              obtain rfl := bl_of (b := (staysB (kf1) (oneT) (kq7))) r23
              exact kc7 _ _ _ (fun a ha => by rw [hq7] at ha; cases ha; rfl) (rbl _) (Ex.of (s22.trans s23)) hB23
            · have s24 := same_of e7
              have hB24 := be7
              have q7 := eq_map (xs := kinds) (e := fun a => .bl (staysB kf1 oneT a)) l7 p7
              have r24 : Rep K G.M He7 (.lst [.bl ((staysB kf1 oneT Kd.slanted)), .bl ((staysB kf1 oneT Kd.turned)), .bl ((staysB kf1 oneT Kd.mirrored)), .bl ((staysB kf1 oneT Kd.stretched)), .bl ((staysB kf1 oneT Kd.sized)), .bl ((staysB kf1 oneT Kd.even))]) vd7 := by rw [q7] at r7; exact r7
              with_reducible refine k_ifX ?_
              with_reducible refine k_or ?_
              with_reducible refine k_not ?_
              with_reducible refine k_B ?_
              with_reducible refine k_call ?_
              with_reducible refine k_argX ?_
              with_reducible refine k_sl ?_
              refine k_val (val_var rfl) ?_
              with_reducible refine k_noPart ?_
              with_reducible refine k_part ?_
              refine k_val val_c ?_
              refine ⟨_, rfl, ?_⟩
              refine f_slL (n := 5) hB24 (r24) (fun v25 H25 r25 s25 hB25 => ?_)
              replace r25 : Rep K G.M H25 (.lst [.bl ((staysB kf1 oneT Kd.slanted)), .bl ((staysB kf1 oneT Kd.turned)), .bl ((staysB kf1 oneT Kd.mirrored)), .bl ((staysB kf1 oneT Kd.stretched)), .bl ((staysB kf1 oneT Kd.sized))]) v25 := r25
              with_reducible refine k_argX ?_
              with_reducible refine k_sl ?_
              refine k_val (val_var rfl) ?_
              with_reducible refine k_noPart ?_
              with_reducible refine k_part ?_
              refine k_val val_c ?_
              refine ⟨_, rfl, ?_⟩
              have q8 := ((((q6.up hB17 (Ex.of s18)).up hB18 (Ex.of s19)).up hB19 (Ex.of s24)).up hB24 (Ex.of s25))
              refine f_slL (n := 5) hB25 (q8) (fun v26 H26 r26 s26 hB26 => ?_)
              replace r26 : Rep K G.M H26 (.lst [.bl ((narrowL kf1 Kd.slanted)), .bl ((narrowL kf1 Kd.turned)), .bl ((narrowL kf1 Kd.mirrored)), .bl ((narrowL kf1 Kd.stretched)), .bl ((narrowL kf1 Kd.sized))]) v26 := r26
              with_reducible refine k_nil ?_
              have he9 : (.lst [.bl ((narrowL kf1 Kd.slanted)), .bl ((narrowL kf1 Kd.turned)), .bl ((narrowL kf1 Kd.mirrored)), .bl ((narrowL kf1 Kd.stretched)), .bl ((narrowL kf1 Kd.sized))] : D) = .lst [.bl ((staysB kf1 oneT Kd.slanted)), .bl ((staysB kf1 oneT Kd.turned)), .bl ((staysB kf1 oneT Kd.mirrored)), .bl ((staysB kf1 oneT Kd.stretched)), .bl ((staysB kf1 oneT Kd.sized))] := by first | rfl | exact stays_sized _ _ | exact (stays_sized _ _).symm | exact stays_zero _ _ | exact (stays_zero _ _).symm | exact stays_one_even _ | exact (stays_one_even _).symm | rw [stays_sized, stays_zero]
              have re10 : Rep K G.M H26 (.lst [.bl ((staysB kf1 oneT Kd.slanted)), .bl ((staysB kf1 oneT Kd.turned)), .bl ((staysB kf1 oneT Kd.mirrored)), .bl ((staysB kf1 oneT Kd.stretched)), .bl ((staysB kf1 oneT Kd.sized))]) v26 := by rw [← he9]; exact (r26)
              refine k_spF (.lst [.bl ((staysB kf1 oneT Kd.slanted)), .bl ((staysB kf1 oneT Kd.turned)), .bl ((staysB kf1 oneT Kd.mirrored)), .bl ((staysB kf1 oneT Kd.stretched)), .bl ((staysB kf1 oneT Kd.sized))]) hB26 (rcons ((r25.up hB25 (Ex.of s26))) (rcons re10 (rnil (K := K)))) rfl (fun v27 H27 r27 s27 hB27 => ?_)
              obtain rfl := bl_of (b := true) r27
              refine ⟨_, rfl, ?_⟩
              refine iteF ?_
              with_reducible refine k_not ?_
              with_reducible refine k_B ?_
              with_reducible refine k_call ?_
              with_reducible refine k_argX ?_
              with_reducible refine k_opX ?_
              refine k_val (val_var rfl) ?_
              refine k_val val_c ?_
              have q12 := (((r24.up hB24 (Ex.of s25)).up hB25 (Ex.of s26)).up hB26 (Ex.of s27))
              refine f_ixL (k := 5) (q12) rfl (fun w11 rw11 => ?_)
              obtain rfl := bl_of rw11
              with_reducible refine k_argX ?_
              with_reducible refine k_opX ?_
              refine k_val (val_var rfl) ?_
              with_reducible refine k_tup ?_
              refine k_arg val_c ?_
              refine k_arg val_c ?_
              with_reducible refine k_nil ?_
              refine k_tup_end hB27 (rcons (rstr _) (rcons (rstr _) (rnil (K := K)))) (fun v28 H28 r28 s28 hB28 => ?_)
              refine f_inT (ss := [("sized" : Str), ("even" : Str)]) (b := (decide (kf1 = .sized ∨ kf1 = .even))) (r28) (in_se kf1) ?_
              with_reducible refine k_nil ?_
              have he13 : (decide (kf1 = .sized ∨ kf1 = .even)) = (staysB kf1 oneT Kd.even) := by first | rfl | exact stays_sized _ _ | exact (stays_sized _ _).symm | exact stays_zero _ _ | exact (stays_zero _ _).symm | exact stays_one_even _ | exact (stays_one_even _).symm | rw [stays_sized, stays_zero]
              refine k_spF (.bl ((staysB kf1 oneT Kd.even))) hB28 (rcons (rbl _) (rcons (show Rep K G.M H28 (.bl (staysB kf1 oneT Kd.even)) (V.bl (decide (kf1 = .sized ∨ kf1 = .even))) from by rw [he13]; exact rbl _) (rnil (K := K)))) rfl (fun v29 H29 r29 s29 hB29 => ?_)
              obtain rfl := bl_of (b := true) r29
              refine ⟨_, rfl, ?_⟩
              refine iteF ?_
              with_reducible refine k_next ?_
              exact ki1 _ _ ⟨_, _, _, rfl⟩ (Ex.of ((((((((((((((s2.trans s6).trans s7).trans s11).trans s12).trans s13).trans s17).trans s18).trans s19).trans s24).trans s25).trans s26).trans s27).trans s28).trans s29)) hB29
    · obtain ⟨o1_1, o2_1, o3_1, rfl⟩ := Ii1
      have s30 := same_of ei1
      have hB30 := bi1
      with_reducible refine k_ret ?_
      refine k_val val_c ?_
      exact k _ _ _ rfl (rbl _) s30 hB30
end
end Px

namespace Px
open PySem PySem.Spec PyProof.Rows L2
section
variable {P : Program} {w : World} {K : PySem.W.Frag} {mg : Str → Option Value} {base : Heap}
def sp__law_mixed (K : PySem.W.Frag) : Sp := spB K (α := List D) (fun ds => [.lst ds]) (fun ds => ds.length ≤ 1000) (fun ds d => ∃ es, d = .lst es ∧ es.length = ds.length ∧ ∀ e ∈ es, e ∈ ds)
theorem has__law_mixed (T : Tx K mg) : Has P w K mg base CX0 "_law_mixed" s__law_mixed ["_law_bag_here", "_law_some"] 2 (sp__law_mixed K) := by
  obtain ⟨f, fd, F, M⟩ := T._law_mixed
  obtain ⟨f_d, fd_d, F_d, M_d, B_d, G_d⟩ := has__law_draw (P := P) (w := w) (base := base) T
  refine ⟨f, fd, F, M, F.binds (ps := ["_law_bag_here", "_law_some"]) (fun _ _ _ _ _ _ us hl => match us, hl with | [_, _], _ => rfl), F.ok sc__law_mixed (fun vs H Q E h => ?_) (fun cdv A outer s H vs Q E hr h => ?_)⟩
  · obtain ⟨b, c, ns, G, x, vs', rfl, hg, hB, r, hp, q⟩ := h
    rw [List.length_cons, r.len]; rfl
  · obtain ⟨b, c, ns, G, ds, vs', rfl, hg, hB, r, hp, k⟩ := h
    obtain ⟨v0, _, rfl, r0, r⟩ := cons_of r
    obtain rfl := nil_of r
    refine ⟨_, pss_cons (ps_set (i := 2) sc__law_mixed.nd rfl (.inl rfl) (pe_lst pa_nil))
      (pss_cons (ps_for PassesOwn.never rfl (pi_list (pv 1)) (pg_name (i := 3) sc__law_mixed.nd rfl (.inl rfl)) (pss_one (ps_expr (pe_bm PySem.F.plainAttrs_list PySem.F.slot_list_insert PySem.F.type_list_insert mt_insert (pv 2) (pa_cons (pe_call G_d (hr.mono (by decide)) (by rfl) M_d F_d.kp B_d .nil pass0 (pa_cons (pv 0) (pa_cons (pe_op op_add (pe_callB call_len (by rfl) T.len (by decide +kernel) (pa_cons (pv 2) pa_nil)) pe_int) pa_nil))) (pa_cons (pv 3) pa_nil))))))
      (pss_one (ps_ret (pv 2)))), ?_⟩
    with_reducible refine k_seq ?_
    with_reducible refine k_set ?_
    with_reducible refine k_lst ?_
    refine k_nil ⟨Nat.zero_le _, fun d nd => ?_⟩
    with_reducible refine k_seq ?_
    refine k_for_l (k_val (val_var rfl) ?_)
    have s0 := same_upd (o := .lst []) nd
    have nb : d ≠ b := fun z => by
      obtain ⟨i, x, y, z', hb, _⟩ := hg.ok H hB
      rw [z, hb] at nd; cases nd
    obtain ⟨a, xs, rfl, nm, hr0, rs⟩ := lst_of (r0.enter hB nd)
    have hl := rs.len
    have hB0 : (G.plus d).B (upd H d (.lst [])) := Bg.enterB hB nd
    have hg1 := hg.plus hB nd
    refine ⟨a, rfl, ⟨xs, .inl hr0⟩, for_list (K := K) (a := a) (xs := xs) (fun i σ1 H1 => (∃ o3 : Option V, σ1 = [some (.ref b), some (.ref a), some (.ref d), o3]) ∧ ∃ acc es, H1 d = some (.lst acc) ∧ Reps K (G.plus d).M H1 es acc ∧ es.length = i ∧ (∀ e ∈ es, e ∈ ds) ∧ Ex (onB b) H H1 ∧ Ex (G.plus d).M (upd H d (.lst [])) H1 ∧ G.B H1)
      ⟨⟨_, rfl⟩, [], [], upd_same, rnil, rfl, (fun e h => nomatch h), Ex.of s0, Ex.refl _ _, hB0.1⟩ ?_ ?_ ?_⟩
    · rintro i σ1 H1 _ ⟨_, acc, es, _, _, _, _, _, ex, _⟩
      exact .inl (rd_up nm ex hr0)
    · rintro i x σ1 H1 hi ⟨⟨o3, rfl⟩, acc, es, hd, ra, le, me, e1, e2, b1⟩
      have hi' : i < ds.length := by
        rw [← hl]
        exact (List.getElem?_eq_some_iff.mp hi).1
      have bp : (G.plus d).B H1 := ⟨b1, acc, hd⟩
      have la := ra.len
      have rs1 := rs.up hB0 e2
      obtain ⟨x', q1, q2⟩ := rs1.at (List.getElem?_eq_getElem hi')
      rw [hi] at q1
      cases q1
      have li : acc.length ≤ 1000 := by omega
      with_reducible refine k_g ?_
      refine k_drop (k_bm (k_val (val_var rfl) ⟨.inl ⟨rfl, _, .inl (.inl hd)⟩, ?_⟩))
      with_reducible refine k_argX ?_
      with_reducible refine k_call ?_
      refine k_arg (val_var rfl) (k_arg (v_op0 (v_lenL (val_var rfl) (.inl (.inl hd))) val_c) (k_nil ?_))
      refine k_draw hg1 bp (by omega) (by omega) (fun n H2 n0 n1 e3 b2 => ?_)
      refine k_arg (val_var rfl) (k_nil ?_)
      have hd2 : H2 d = some (.lst acc) := e3 _ _ hd nb
      have ch : Ex (fun a => a = d) H2 (upd H2 d (.lst (acc.take n.toNat ++ [x] ++ acc.drop n.toNat))) := fun a o h z => by rw [upd_ne z]; exact h
      have chp : Ex (G.plus d).M H2 (upd H2 d (.lst (acc.take n.toNat ++ [x] ++ acc.drop n.toNat))) := ch.imp fun a z => .inr z
      refine ⟨d, acc, n, x, rfl, rfl, hd2, Nat.lt_of_le_of_lt li (by decide), n0, by omega, ⟨_, rfl⟩, _, es.take n.toNat ++ [ds[i]] ++ es.drop n.toNat, upd_same, ?_, ?_, ?_, ?_, ?_, ?_⟩
      · have ra2 := (ra.up bp (hg1.up e3)).up b2 chp
        have rx2 := (q2.up bp (hg1.up e3)).up b2 chp
        exact ((ra2.take n.toNat).app (rcons rx2 rnil)).app (ra2.drop n.toNat)
      · simp only [List.length_append, List.length_take, List.length_drop, List.length_cons, List.length_nil]
        omega
      · intro e he
        simp only [List.mem_append, List.mem_cons, List.not_mem_nil, or_false] at he
        rcases he with (he | rfl) | he
        · exact me e (List.mem_of_mem_take he)
        · exact List.getElem_mem hi'
        · exact me e (List.mem_of_mem_drop he)
      · exact fun a o h z => by
          rw [upd_ne (ne_of_none h nd)]
          exact e3 _ _ (e1 _ _ h z) z
      · exact (e2.trans (hg1.up e3)).trans chp
      · exact G.fr H d hB nd _ _ b2.1 ⟨_, hd2⟩ ch
    · rintro σ1 H1 ⟨⟨o3, rfl⟩, acc, es, hd, ra, le, me, e1, e2, b1⟩
      with_reducible refine k_ret ?_
      refine k_val (val_var rfl) ?_
      refine k (.lst es) _ _ ⟨es, rfl, by omega, me⟩ (rlst (nm_new hB nd) (.inl hd) (ra.widen fun _ _ _ z => .inl z)) e1 b1

end
end Px

namespace Px
open PySem PySem.Spec PyProof.Rows L2
section
variable {P : Program} {w : World} {K : PySem.W.Frag} {mg : Str → Option Value} {base : Heap}
def sp__law_bag (K : PySem.W.Frag) : Sp := fun vs H Q _ => ∃ (a : Addr) (ns : List Int), vs = [.ref a] ∧ SqL K H a (ns.map V.int) ∧ ∀ b c ms H', BagOk K b c ms H' → Same H H' → Q (.ref b) H'
theorem cells_take (ns : List Int) : ∃ ms : List Int, cutV (ns.map V.int) none (some 63) = ms.map V.int ∧ ms.length ≤ 63 := by
  refine ⟨ns.take 63, ?_, ?_⟩
  · rw [show (63 : Int) = ((63 : Nat) : Int) from rfl, cutV_take, List.map_take]
  · rw [List.length_take]; omega
theorem has__law_bag (T : Tx K mg) : Has P w K mg base CX0 "_law_bag" s__law_bag ["_law_script"] 1 (sp__law_bag K) := by
  obtain ⟨f, fd, F, M⟩ := T._law_bag
  refine ⟨f, fd, F, M, F.binds (ps := ["_law_script"]) (fun _ _ _ _ _ _ us hl => match us, hl with | [_], _ => rfl), F.ok sc__law_bag (fun vs H Q E h => ?_) (fun cdv A outer s H vs Q E hr h => ?_)⟩
  · obtain ⟨a, ns, rfl, _⟩ := h
    rfl
  · obtain ⟨a, ns, rfl, hs, k⟩ := h
    refine ⟨_, pss_cons (ps_set (i := 1) sc__law_bag.nd rfl (.inl rfl) (pe_callTy (call_listK (K := K)) (by rfl) T.list (by decide +kernel) (pa_cons (pe_slice sl_list (pv 0) po_none (po_some pe_int)) pa_nil)))
      (pss_one (ps_ret (pe_lst (pa_cons (pv 1) (pa_cons pe_int (pa_cons pe_int (pa_cons (pe_op op_add pe_int (pe_op op_mul pe_int (pe_callB call_len (by rfl) T.len (by decide +kernel) (pa_cons (pv 1) pa_nil)))) (pa_cons pe_int pa_nil)))))))), ?_⟩
    with_reducible refine k_seq ?_
    with_reducible refine k_set ?_
    with_reducible refine k_cb ?_
    with_reducible refine k_argX ?_
    with_reducible refine k_sl ?_
    refine k_val (val_var rfl) ?_
    with_reducible refine k_noPart ?_
    with_reducible refine k_part ?_
    refine k_val val_c ⟨_, rfl, ?_⟩
    refine ⟨a, _, rfl, hs, fun p hp => ?_⟩
    obtain ⟨ms, e, hl⟩ := cells_take ns
    rw [e]
    with_reducible refine k_nil ?_
    refine ⟨p, _, rfl, .inl (.inl (.inl upd_same)), fun c hc => ?_⟩
    have hcs : SqL K (upd (upd H p (.lst (ms.map V.int))) c (.lst (ms.map V.int))) c (ms.map V.int) := .inl (.inl upd_same)
    with_reducible refine k_ret ?_
    with_reducible refine k_lst ?_
    refine k_arg (val_var rfl) (k_arg val_c (k_arg val_c (k_arg (v_op0 val_c (v_op val_c (v_lenL (val_var rfl) hcs) (Or.inl (by decide : -(2 ^ 64) < (37 : Int) ∧ (37 : Int) < 2 ^ 64)))) (k_arg val_c (k_nil ⟨by show 5 ≤ sizeLine; decide, fun b hb => ?_⟩)))))
    have ne : c ≠ b := fun z => by
      subst z
      rw [upd_same] at hb; cases hb
    refine k b c ms _ ⟨0, 0, _, 0, upd_same, ne, sqL_upd ne hcs, Int.le_refl _, Int.le_refl _, ?_, ?_⟩ (((same_upd hp).trans (same_upd hc)).trans (same_upd hb))
    · omega
    · rw [List.length_map]; omega
theorem kinds_of : ∀ {es : List D}, (∀ e ∈ es, e ∈ kinds.map fun k => D.str (kdS k)) → ∃ ks : List Kd, es = ks.map fun k => .str (kdS k)
  | [], _ => ⟨[], rfl⟩
  | e :: es, h => by
    obtain ⟨ks, rfl⟩ := kinds_of (es := es) fun x hx => h x (List.mem_cons_of_mem _ hx)
    obtain ⟨k, _, e2⟩ := List.mem_map.mp (h e (List.mem_cons_self ..))
    exact ⟨k :: ks, by rw [← e2]; rfl⟩
theorem iteFr {b : Bool} {A B : Prop} (h : b = false) (q : B) : if b = true then A else B := by rw [h, if_neg Bool.false_ne_true]; exact q
def sp_law (K : PySem.W.Frag) : Sp := fun vs H Q _ => ∃ (a : Addr) (ns : List Int), vs = [.ref a] ∧ SqL K H a (ns.map V.int) ∧ ∀ H', Q (.bl true) H'
theorem has_law {C : Addr} (T : Tx K mg) (Y : TabTx K mg w C) : Has P w K mg base CX0 "law" s_law ["_law_script"] 12 (sp_law K) := by
  obtain ⟨f, fd, F, M⟩ := T.law
  obtain ⟨f__law_bag, fd__law_bag, F__law_bag, M__law_bag, B__law_bag, G__law_bag⟩ := has__law_bag (P := P) (w := w) (base := base) T
  obtain ⟨f__law_any, fd__law_any, F__law_any, M__law_any, B__law_any, G__law_any⟩ := has__law_any (P := P) (w := w) (base := base) T
  obtain ⟨f__law_after, fd__law_after, F__law_after, M__law_after, B__law_after, G__law_after⟩ := has__law_after (P := P) (w := w) (base := base) T
  obtain ⟨f__law_words, fd__law_words, F__law_words, M__law_words, B__law_words, G__law_words⟩ := has__law_words (P := P) (w := w) (base := base) T
  obtain ⟨f__law_mixed, fd__law_mixed, F__law_mixed, M__law_mixed, B__law_mixed, G__law_mixed⟩ := has__law_mixed (P := P) (w := w) (base := base) T
  obtain ⟨f__law_stays, fd__law_stays, F__law_stays, M__law_stays, B__law_stays, G__law_stays⟩ := has__law_stays (P := P) (w := w) (base := base) T
  obtain ⟨f__law_same, fd__law_same, F__law_same, M__law_same, B__law_same, G__law_same⟩ := has__law_same (P := P) (w := w) (base := base) T
  obtain ⟨f__law_pick, fd__law_pick, F__law_pick, M__law_pick, B__law_pick, G__law_pick⟩ := has__law_pick (P := P) (w := w) (base := base) T
  obtain ⟨f_stays, fd_stays, F_stays, M_stays, B_stays, G_stays⟩ := has_stays (P := P) (w := w) (base := base) T Y
  obtain ⟨f__law_made, fd__law_made, F__law_made, M__law_made, B__law_made, G__law_made⟩ := has__law_made (P := P) (w := w) (base := base) T Y
  obtain ⟨f__law_tables_so, fd__law_tables_so, F__law_tables_so, M__law_tables_so, B__law_tables_so, G__law_tables_so⟩ := has__law_tables_so (P := P) (w := w) (base := base) T Y
  obtain ⟨f_fits, fd_fits, F_fits, M_fits, B_fits, G_fits⟩ := has_fits (P := P) (w := w) (base := base) T Y
  obtain ⟨f_Table_zero, fd_Table_zero, F_Table_zero, M_Table_zero, B_Table_zero, G_Table_zero⟩ := has_Table_zero (P := P) (w := w) (base := base) T Y
  obtain ⟨f_Table___mul__, fd_Table___mul__, F_Table___mul__, M_Table___mul__, B_Table___mul__, G_Table___mul__⟩ := has_Table___mul__ (P := P) (w := w) (base := base) T Y
  obtain ⟨f__law_narrower_so, fd__law_narrower_so, F__law_narrower_so, M__law_narrower_so, B__law_narrower_so, G__law_narrower_so⟩ := has__law_narrower_so (P := P) (w := w) (base := base) T Y
  have KB_stays_0_other_kind_table : KBn K fd_stays ["kind", "table", "other"] 0 ["other", "kind", "table"] (permU [1, 2, 0]) (permV [1, 2, 0]) := by
    obtain ⟨oc, od, kV, doc, pm, an, cdv, ct, osl, rfl, _, _⟩ := F_stays.ex
    exact kbn_of [1, 2, 0] fun us ws l1 l2 => match us, l1, ws, l2 with | [], _, [_, _, _], _ => rfl
  refine ⟨f, fd, F, M, F.binds (ps := ["_law_script"]) (fun _ _ _ _ _ _ us hl => match us, hl with | [_], _ => rfl), F.ok sc_law (fun vs H Q E h => ?_) (fun cdv A outer s H vs Q E hr h => ?_)⟩
  · obtain ⟨a, ns, rfl, _⟩ := h; rfl
  · obtain ⟨a, ns, rfl, hs, k⟩ := h
    refine ⟨_, (pss_cons (ps_set (i := 1) sc_law.nd rfl (.inl rfl) (pe_call G__law_bag (hr.mono (by decide)) (by rfl) M__law_bag F__law_bag.kp B__law_bag .nil pass0 (pa_cons (pv 0) pa_nil))) (pss_cons (ps_par (i := 2) (j := 3) (by rfl) sc_law.nd rfl rfl (by decide) rfl rfl (pa_cons (pe_call G__law_any (hr.mono (by decide)) (by rfl) M__law_any F__law_any.kp B__law_any .nil pass0 (pa_cons (pv 1) pa_nil)) (pa_cons (pe_call G__law_any (hr.mono (by decide)) (by rfl) M__law_any F__law_any.kp B__law_any .nil pass0 (pa_cons (pv 1) pa_nil)) pa_nil)) (by rfl)) (pss_cons (ps_set (i := 4) sc_law.nd rfl (.inl rfl) (pe_call G__law_after (hr.mono (by decide)) (by rfl) M__law_after F__law_after.kp B__law_after .nil pass0 (pa_cons (pv 2) (pa_cons (pv 3) pa_nil)))) (pss_cons (ps_set (i := 5) sc_law.nd rfl (.inl rfl) (pe_call0 G__law_words (hr.mono (by decide)) (by rfl) M__law_words F__law_words.kp B__law_words .nil pass0)) (pss_cons (ps_set (i := 6) sc_law.nd rfl (.inl rfl) (pe_slice sl_list (pe_call G__law_mixed (hr.mono (by decide)) (by rfl) M__law_mixed F__law_mixed.kp B__law_mixed .nil pass0 (pa_cons (pv 1) (pa_cons (pv 5) pa_nil))) po_none (po_some pe_int))) (pss_cons (ps_for PassesOwn.never rfl (pi_list (pv 6)) (pg_name (i := 7) sc_law.nd rfl (.inl rfl)) (pss_one (ps_for PassesOwn.never rfl (pi_list (pv 5)) (pg_name (i := 8) sc_law.nd rfl (.inl rfl)) (pss_cons (ps_set (i := 9) sc_law.nd rfl (.inl rfl) (pe_call G__law_stays (hr.mono (by decide)) (by rfl) M__law_stays F__law_stays.kp B__law_stays .nil pass0 (pa_cons (pv 7) (pa_cons (pv 2) (pa_cons (pv 8) pa_nil))))) (pss_cons (ps_if (pt_not (pt_val (pe_call G__law_same (hr.mono (by decide)) (by rfl) M__law_same F__law_same.kp B__law_same .nil pass0 (pa_cons (pe_lst (pa_cons (pe_call G_stays (hr.mono (by decide)) (by rfl) M_stays F_stays.kp B_stays .nil pass0 (pa_cons (pv 7) (pa_cons (pe_call G__law_made (hr.mono (by decide)) (by rfl) M__law_made F__law_made.kp B__law_made .nil pass0 (pa_cons (pv 2) pa_nil)) (pa_cons (pv 8) pa_nil)))) (pa_cons (pe_callN0 G_stays (hr.mono (by decide)) (by rfl) M_stays F_stays.kp KB_stays_0_other_kind_table pass0  (pk_cons (pv 8) (pk_cons (pv 7) (pk_cons (pe_call G__law_made (hr.mono (by decide)) (by rfl) M__law_made F__law_made.kp B__law_made .nil pass0 (pa_cons (pv 2) pa_nil)) pk_nil)))) pa_nil))) (pa_cons (pe_lst (pa_cons (pv 9) (pa_cons (pv 9) pa_nil))) pa_nil))))) (pss_one ps_never) pss_nil) (pss_one (ps_if (pt_not (pt_val (pe_call G__law_tables_so (hr.mono (by decide)) (by rfl) M__law_tables_so F__law_tables_so.kp B__law_tables_so .nil pass0 (pa_cons (pv 1) (pa_cons (pv 7) (pa_cons (pv 8) (pa_cons (pv 2) (pa_cons (pv 9) pa_nil)))))))) (pss_one ps_never) pss_nil))))))) (pss_cons (ps_for PassesOwn.never rfl (pi_list (pv 5)) (pg_name (i := 7) sc_law.nd rfl (.inl rfl)) (pss_one (ps_if (pt_not (pt_val (pe_call G__law_same (hr.mono (by decide)) (by rfl) M__law_same F__law_same.kp B__law_same .nil pass0 (pa_cons (pe_lst (pa_cons (pe_call G_stays (hr.mono (by decide)) (by rfl) M_stays F_stays.kp B_stays .nil pass0 (pa_cons pe_str (pa_cons (pe_call G__law_made (hr.mono (by decide)) (by rfl) M__law_made F__law_made.kp B__law_made .nil pass0 (pa_cons (pv 2) pa_nil)) (pa_cons (pv 7) pa_nil)))) (pa_cons (pe_call G_stays (hr.mono (by decide)) (by rfl) M_stays F_stays.kp B_stays .nil pass0 (pa_cons (pv 7) (pa_cons (pe_static0 (pe_glob (v := .ref C) (by rfl) Y.g rfl) M_Table_zero G_Table_zero (hr.mono (by decide)) B_Table_zero pass0) (pa_cons (pe_call G__law_pick (hr.mono (by decide)) (by rfl) M__law_pick F__law_pick.kp B__law_pick .nil pass0 (pa_cons (pv 1) (pa_cons (pv 5) pa_nil))) pa_nil)))) pa_nil))) (pa_cons (pe_lst (pa_cons (pe_call G_fits (hr.mono (by decide)) (by rfl) M_fits F_fits.kp B_fits .nil pass0 (pa_cons (pv 7) (pa_cons (pe_call G__law_made (hr.mono (by decide)) (by rfl) M__law_made F__law_made.kp B__law_made .nil pass0 (pa_cons (pv 2) pa_nil)) pa_nil))) (pa_cons pe_bl pa_nil))) pa_nil))))) (pss_one ps_never) pss_nil))) (pss_cons (ps_for PassesOwn.never rfl (pi_range1 (by rfl) T.range (pa_cons pe_int pa_nil)) (pg_name (i := 10) sc_law.nd rfl (.inl rfl)) (pss_cons (ps_par3 (i := 7) (j := 8) (l := 11) (by rfl) sc_law.nd rfl rfl rfl (by decide) (by decide) (by decide) rfl rfl rfl (pa_cons (pe_call G__law_pick (hr.mono (by decide)) (by rfl) M__law_pick F__law_pick.kp B__law_pick .nil pass0 (pa_cons (pv 1) (pa_cons (pv 5) pa_nil))) (pa_cons (pe_call G__law_pick (hr.mono (by decide)) (by rfl) M__law_pick F__law_pick.kp B__law_pick .nil pass0 (pa_cons (pv 1) (pa_cons (pv 5) pa_nil))) (pa_cons (pe_call G__law_pick (hr.mono (by decide)) (by rfl) M__law_pick F__law_pick.kp B__law_pick .nil pass0 (pa_cons (pv 1) (pa_cons (pv 5) pa_nil))) pa_nil))) (by rfl)) (pss_cons (ps_set (i := 12) sc_law.nd rfl (.inl rfl) (pe_and (pe_call G_stays (hr.mono (by decide)) (by rfl) M_stays F_stays.kp B_stays .nil pass0 (pa_cons (pv 7) (pa_cons (pe_call G__law_made (hr.mono (by decide)) (by rfl) M__law_made F__law_made.kp B__law_made .nil pass0 (pa_cons (pv 2) pa_nil)) (pa_cons (pv 8) pa_nil)))) (pe_one (pe_call G_stays (hr.mono (by decide)) (by rfl) M_stays F_stays.kp B_stays .nil pass0 (pa_cons (pv 8) (pa_cons (pe_call G__law_made (hr.mono (by decide)) (by rfl) M__law_made F__law_made.kp B__law_made .nil pass0 (pa_cons (pv 3) pa_nil)) (pa_cons (pv 11) pa_nil))))))) (pss_cons (ps_if (PW.pt (pw_and (pt_val (pv 12)) (pw_and1 (pt_not (pt_val (pe_call G_stays (hr.mono (by decide)) (by rfl) M_stays F_stays.kp B_stays .nil pass0 (pa_cons (pv 7) (pa_cons (pe_op (op_own G_Table___mul__ (hr.mono (by decide)) B_Table___mul__ pass0 Y.first M_Table___mul__.1 M_Table___mul__.2) (pe_call G__law_made (hr.mono (by decide)) (by rfl) M__law_made F__law_made.kp B__law_made .nil pass0 (pa_cons (pv 2) pa_nil)) (pe_call G__law_made (hr.mono (by decide)) (by rfl) M__law_made F__law_made.kp B__law_made .nil pass0 (pa_cons (pv 3) pa_nil))) (pa_cons (pv 11) pa_nil))))))))) (pss_one ps_never) pss_nil) (pss_one (ps_if (pt_not (pt_val (pe_call G__law_same (hr.mono (by decide)) (by rfl) M__law_same F__law_same.kp B__law_same .nil pass0 (pa_cons (pe_call G_stays (hr.mono (by decide)) (by rfl) M_stays F_stays.kp B_stays .nil pass0 (pa_cons (pv 7) (pa_cons (pe_call G__law_made (hr.mono (by decide)) (by rfl) M__law_made F__law_made.kp B__law_made .nil pass0 (pa_cons (pv 4) pa_nil)) (pa_cons (pv 11) pa_nil)))) (pa_cons (pe_call G__law_stays (hr.mono (by decide)) (by rfl) M__law_stays F__law_stays.kp B__law_stays .nil pass0 (pa_cons (pv 7) (pa_cons (pv 4) (pa_cons (pv 11) pa_nil)))) pa_nil))))) (pss_one ps_never) pss_nil)))))) (pss_one (ps_ret (pe_call G__law_narrower_so (hr.mono (by decide)) (by rfl) M__law_narrower_so F__law_narrower_so.kp B__law_narrower_so .nil pass0 (pa_cons (pe_slice sl_list (pv 6) po_none (po_some pe_int)) pa_nil)))))))))))), ?_⟩
    with_reducible refine k_seq ?_
    with_reducible refine k_set ?_
    with_reducible refine k_call ?_
    refine k_arg (val_var rfl) ?_
    with_reducible refine k_nil ?_
    refine ⟨a, ns, rfl, hs, fun b c ms H hB hsm => ?_⟩
    replace hB : (bagG K b c ms).B H := hB
    with_reducible refine k_seq ?_
    with_reducible refine k_par ?_
    with_reducible refine k_argX ?_
    with_reducible refine k_call ?_
    refine k_arg (val_var rfl) ?_
    with_reducible refine k_nil ?_
    refine k_spB () bagG_ok hB (rnil (K := K)) trivial (fun d1 v1 H1 p1 r1 e1 hB1 => ?_)
    obtain ⟨tq1, rfl, zq1⟩ := p1
    with_reducible refine k_argX ?_
    with_reducible refine k_call ?_
    refine k_arg (val_var rfl) ?_
    with_reducible refine k_nil ?_
    refine k_spB () bagG_ok hB1 (rnil (K := K)) trivial (fun d2 v2 H2 p2 r2 e2 hB2 => ?_)
    obtain ⟨tq2, rfl, zq2⟩ := p2
    with_reducible refine k_nil ?_
    refine ⟨_, _, rfl, ?_⟩
    with_reducible refine k_seq ?_
    with_reducible refine k_set ?_
    with_reducible refine k_call ?_
    refine k_arg (val_var rfl) ?_
    refine k_arg (val_var rfl) ?_
    with_reducible refine k_nil ?_
    have zt1a : SzT 150 (tq1) := zq1
    have zt1b : SzT 150 (tq2) := zq2
    have zt1 : SzT 601 (mulT (tq1) (tq2)) := szT_mul zt1a zt1b (by first | omega | (dsimp only; omega))
    refine k_spF (tq1, tq2, 150, 150) hB2 (rcons ((r1.up hB1 (bagG_ok.up e2))) (rcons (r2) (rnil (K := K)))) ⟨zt1a, zt1b, (by first | omega | (dsimp only; omega))⟩ (fun v3 H3 r3 s3 hB3 => ?_)
    replace r3 : Rep K (bagG K b c ms).M H3 (tbT (mulT (tq1) (tq2))) v3 := r3
    with_reducible refine k_seq ?_
    with_reducible refine k_set ?_
    with_reducible refine k_call ?_
    with_reducible refine k_nil ?_
    refine k_spF () hB3 (rnil (K := K)) trivial (fun v4 H4 r4 s4 hB4 => ?_)
    replace r4 : Rep K (bagG K b c ms).M H4 (.lst [.str ((kdS Kd.slanted)), .str ((kdS Kd.turned)), .str ((kdS Kd.mirrored)), .str ((kdS Kd.stretched)), .str ((kdS Kd.sized)), .str ((kdS Kd.even))]) v4 := r4
    with_reducible refine k_seq ?_
    with_reducible refine k_set ?_
    with_reducible refine k_sl ?_
    with_reducible refine k_call ?_
    refine k_arg (val_var rfl) ?_
    refine k_arg (val_var rfl) ?_
    with_reducible refine k_nil ?_
    refine k_spB (kinds.map fun k => .str (kdS k)) bagG_ok hB4 (rcons (r4) (rnil (K := K))) (by decide) (fun d5 v5 H5 m5 r5 e5 hB5 => ?_)
    obtain ⟨es5, rfl, le5, me5⟩ := m5
    obtain ⟨ks5, rfl⟩ := kinds_of me5
    with_reducible refine k_noPart ?_
    with_reducible refine k_part ?_
    refine k_val val_c ?_
    refine ⟨_, rfl, ?_⟩
    refine f_slL (n := 3) hB5 (r5) (fun v6 H6 r6 s6 hB6 => ?_)
    replace r6 : Rep K (bagG K b c ms).M H6 (.lst ((ks5.take 3).map fun k => .str (kdS k))) v6 := by rw [List.map_take]; exact r6
    with_reducible refine k_seq ?_
    refine k_for_l ?_
    refine k_val (val_var rfl) ?_
    refine k_forL (K := K) (j := 7) (onB b) bagG_ok.on hB6 (r6) (fun _ σ2 => ∃ (o7_2 : Option V) (o8_2 : Option V) (o9_2 : Option V), σ2 = [some (.ref a), some (.ref b), some v1, some v2, some v3, some v4, some v6, o7_2, o8_2, o9_2, none, none, none]) ⟨_, _, _, rfl⟩ (fun i2 x2 w2 σ2 Hi2 hi2 Ii2 bi2 ei2 ri2 Di2 ki2 => ?_) (fun σ2 Hi2 Ii2 ei2 bi2 => ?_)
    · obtain ⟨o7_2, o8_2, o9_2, rfl⟩ := Ii2
      have e7 := ei2
      have hB7 := bi2
      obtain ⟨kf2, rfl⟩ := kd_map (ks := (ks5.take 3)) hi2
      obtain rfl := str_of ri2
      refine k_for_l ?_
      refine k_val (val_var rfl) ?_
      have q4 := (((r4.up hB4 (bagG_ok.up e5)).up hB5 (Ex.of s6)).up hB6 (bagG_ok.up e7))
      refine k_forL (K := K) (j := 8) (onB b) bagG_ok.on hB7 (q4) (fun _ σ2 => ∃ (o8_3 : Option V) (o9_3 : Option V), σ2 = [some (.ref a), some (.ref b), some v1, some v2, some v3, some v4, some v6, some (V.str ((kdS kf2))), o8_3, o9_3, none, none, none]) ⟨_, _, rfl⟩ (fun i3 x3 w3 σ3 Hi3 hi3 Ii3 bi3 ei3 ri3 Di3 ki3 => ?_) (fun σ3 Hi3 Ii3 ei3 bi3 => ?_)
      · obtain ⟨o8_3, o9_3, rfl⟩ := Ii3
        have e8 := ei3
        have hB8 := bi3
        obtain ⟨kf3, rfl⟩ := kd_map (ks := kinds) hi3
        obtain rfl := str_of ri3
        with_reducible refine k_seq ?_
        with_reducible refine k_set ?_
        with_reducible refine k_call ?_
        refine k_arg (val_var rfl) ?_
        refine k_arg (val_var rfl) ?_
        refine k_arg (val_var rfl) ?_
        with_reducible refine k_nil ?_
        have q5 := (((((((r1.up hB1 (bagG_ok.up e2)).up hB2 (Ex.of s3)).up hB3 (Ex.of s4)).up hB4 (bagG_ok.up e5)).up hB5 (Ex.of s6)).up hB6 (bagG_ok.up e7)).up hB7 (bagG_ok.up e8))
        refine k_spF (kf2, tq1, kf3, 150) hB8 (rcons (rstr _) (rcons (q5) (rcons (rstr _) (rnil (K := K))))) ⟨zq1, (by first | omega | (dsimp only; omega)), (by first | omega | (dsimp only; omega))⟩ (fun v9 H9 r9 s9 hB9 => ?_)
        obtain rfl := bl_of (b := (staysB (kf2) (tq1) (kf3))) r9
        with_reducible refine k_seq ?_
        with_reducible refine k_ifX ?_
        with_reducible refine k_not ?_
        with_reducible refine k_B ?_
        with_reducible refine k_call ?_
        with_reducible refine k_argX ?_
        with_reducible refine k_lst ?_
        with_reducible refine k_argX ?_
        with_reducible refine k_call ?_
        refine k_arg (val_var rfl) ?_
        with_reducible refine k_argX ?_
        with_reducible refine k_call ?_
        refine k_arg (val_var rfl) ?_
        with_reducible refine k_nil ?_
        refine k_spF (tq1) hB9 (rcons ((q5.up hB8 (Ex.of s9))) (rnil (K := K))) trivial (fun v10 H10 r10 s10 hB10 => ?_)
        replace r10 : Rep K (bagG K b c ms).M H10 (tbI C (tq1)) v10 := r10
        refine k_arg (val_var rfl) ?_
        with_reducible refine k_nil ?_
        refine k_spF (kf2, tq1, kf3, 150) hB10 (rcons (rstr _) (rcons (r10) (rcons (rstr _) (rnil (K := K))))) ⟨zq1, (by first | omega | (dsimp only; omega)), (by first | omega | (dsimp only; omega))⟩ (fun v11 H11 r11 s11 hB11 => ?_)
        obtain rfl := bl_of (b := (staysB (kf2) (tq1) (kf3))) r11
        with_reducible refine k_argX ?_
        with_reducible refine k_callN ?_
        with_reducible refine k_nil ?_
        refine k_arg (val_var rfl) ?_
        refine k_arg (val_var rfl) ?_
        with_reducible refine k_argX ?_
        with_reducible refine k_call ?_
        refine k_arg (val_var rfl) ?_
        with_reducible refine k_nil ?_
        have q6 := (((q5.up hB8 (Ex.of s9)).up hB9 (Ex.of s10)).up hB10 (Ex.of s11))
        refine k_spF (tq1) hB11 (rcons (q6) (rnil (K := K))) trivial (fun v12 H12 r12 s12 hB12 => ?_)
        replace r12 : Rep K (bagG K b c ms).M H12 (tbI C (tq1)) v12 := r12
        with_reducible refine k_nil ?_
        refine ⟨rfl, rfl, ?_⟩
        refine k_spF (kf2, tq1, kf3, 150) hB12 (rcons (rstr _) (rcons (r12) (rcons (rstr _) (rnil (K := K))))) ⟨zq1, (by first | omega | (dsimp only; omega)), (by first | omega | (dsimp only; omega))⟩ (fun v13 H13 r13 s13 hB13 => ?_)
        obtain rfl := bl_of (b := (staysB (kf2) (tq1) (kf3))) r13
        with_reducible refine k_nil ?_
        refine k_lst_end hB13 (rcons (rbl _) (rcons (rbl _) (rnil (K := K)))) (fun v14 H14 r14 s14 hB14 => ?_)
        with_reducible refine k_argX ?_
        with_reducible refine k_lst ?_
        refine k_arg (val_var rfl) ?_
        refine k_arg (val_var rfl) ?_
        with_reducible refine k_nil ?_
        refine k_lst_end hB14 (rcons (rbl _) (rcons (rbl _) (rnil (K := K)))) (fun v15 H15 r15 s15 hB15 => ?_)
        with_reducible refine k_nil ?_
        refine k_spF (.lst [.bl ((staysB (kf2) (tq1) (kf3))), .bl ((staysB (kf2) (tq1) (kf3)))]) hB15 (rcons ((r14.up hB14 (Ex.of s15))) (rcons (r15) (rnil (K := K)))) rfl (fun v16 H16 r16 s16 hB16 => ?_)
        obtain rfl := bl_of (b := true) r16
        refine ⟨_, rfl, ?_⟩
        refine iteF ?_
        with_reducible refine k_next ?_
        with_reducible refine k_ifX ?_
        with_reducible refine k_not ?_
        with_reducible refine k_B ?_
        with_reducible refine k_call ?_
        refine k_arg (val_var rfl) ?_
        refine k_arg (val_var rfl) ?_
        refine k_arg (val_var rfl) ?_
        refine k_arg (val_var rfl) ?_
        refine k_arg (val_var rfl) ?_
        with_reducible refine k_nil ?_
        have q7 := (((((q6.up hB11 (Ex.of s12)).up hB12 (Ex.of s13)).up hB13 (Ex.of s14)).up hB14 (Ex.of s15)).up hB15 (Ex.of s16))
        refine k_spB (kf2, kf3, tq1) bagG_ok hB16 (rcons (rstr _) (rcons (rstr _) (rcons (q7) (rcons (rbl _) (rnil (K := K)))))) zq1 (fun d17 v17 H17 p17 r17 e17 hB17 => ?_)
        obtain rfl := p17
        obtain rfl := bl_of r17
        refine ⟨_, rfl, ?_⟩
        refine iteF ?_
        with_reducible refine k_next ?_
        exact ki3 _ _ ⟨_, _, rfl⟩ ((Ex.of s9).trans ((Ex.of s10).trans ((Ex.of s11).trans ((Ex.of s12).trans ((Ex.of s13).trans ((Ex.of s14).trans ((Ex.of s15).trans ((Ex.of s16).trans e17)))))))) hB17
      · obtain ⟨o8_3, o9_3, rfl⟩ := Ii3
        have e18 := ei3
        have hB18 := bi3
        exact ki2 _ _ ⟨_, _, _, rfl⟩ e18 hB18
    · obtain ⟨o7_2, o8_2, o9_2, rfl⟩ := Ii2
      have e19 := ei2
      have hB19 := bi2
      with_reducible refine k_seq ?_
      refine k_for_l ?_
      refine k_val (val_var rfl) ?_
      have q9 := (((r4.up hB4 (bagG_ok.up e5)).up hB5 (Ex.of s6)).up hB6 (bagG_ok.up e19))
      refine k_forL (K := K) (j := 7) (onB b) bagG_ok.on hB19 (q9) (fun _ σ2 => ∃ (o7_8 : Option V), σ2 = [some (.ref a), some (.ref b), some v1, some v2, some v3, some v4, some v6, o7_8, o8_2, o9_2, none, none, none]) ⟨_, rfl⟩ (fun i8 x8 w8 σ8 Hi8 hi8 Ii8 bi8 ei8 ri8 Di8 ki8 => ?_) (fun σ8 Hi8 Ii8 ei8 bi8 => ?_)
      · obtain ⟨o7_8, rfl⟩ := Ii8
        have e20 := ei8
        have hB20 := bi8
        obtain ⟨kf8, rfl⟩ := kd_map (ks := kinds) hi8
        obtain rfl := str_of ri8
        with_reducible refine k_ifX ?_
        with_reducible refine k_not ?_
        with_reducible refine k_B ?_
        with_reducible refine k_call ?_
        with_reducible refine k_argX ?_
        with_reducible refine k_lst ?_
        with_reducible refine k_argX ?_
        with_reducible refine k_call ?_
        refine k_arg val_c ?_
        with_reducible refine k_argX ?_
        with_reducible refine k_call ?_
        refine k_arg (val_var rfl) ?_
        with_reducible refine k_nil ?_
        have q10 := (((((((r1.up hB1 (bagG_ok.up e2)).up hB2 (Ex.of s3)).up hB3 (Ex.of s4)).up hB4 (bagG_ok.up e5)).up hB5 (Ex.of s6)).up hB6 (bagG_ok.up e19)).up hB19 (bagG_ok.up e20))
        refine k_spF (tq1) hB20 (rcons (q10) (rnil (K := K))) trivial (fun v21 H21 r21 s21 hB21 => ?_)
        replace r21 : Rep K (bagG K b c ms).M H21 (tbI C (tq1)) v21 := r21
        refine k_arg (val_var rfl) ?_
        with_reducible refine k_nil ?_
        refine k_spF (Kd.sized, tq1, kf8, 150) hB21 (rcons (rstr _) (rcons (r21) (rcons (rstr _) (rnil (K := K))))) ⟨zq1, (by first | omega | (dsimp only; omega)), (by first | omega | (dsimp only; omega))⟩ (fun v22 H22 r22 s22 hB22 => ?_)
        obtain rfl := bl_of (b := (staysB (Kd.sized) (tq1) (kf8))) r22
        with_reducible refine k_argX ?_
        with_reducible refine k_call ?_
        refine k_arg (val_var rfl) ?_
        with_reducible refine k_argX ?_
        with_reducible refine k_stat ?_
        refine k_val val_c ?_
        refine ⟨rfl, ?_⟩
        refine k_spF () hB22 (rnil (K := K)) trivial (fun v23 H23 r23 s23 hB23 => ?_)
        replace r23 : Rep K (bagG K b c ms).M H23 (tbI C (zeroT)) v23 := r23
        with_reducible refine k_argX ?_
        with_reducible refine k_call ?_
        refine k_arg (val_var rfl) ?_
        refine k_arg (val_var rfl) ?_
        with_reducible refine k_nil ?_
        have q11 := ((((q9.up hB19 (bagG_ok.up e20)).up hB20 (Ex.of s21)).up hB21 (Ex.of s22)).up hB22 (Ex.of s23))
        refine k_spB [.str ((kdS Kd.slanted)), .str ((kdS Kd.turned)), .str ((kdS Kd.mirrored)), .str ((kdS Kd.stretched)), .str ((kdS Kd.sized)), .str ((kdS Kd.even))] bagG_ok hB23 (rcons (q11) (rnil (K := K))) ⟨Nat.succ_pos _, Nat.le_of_ble_eq_true rfl⟩ (fun d24 v24 H24 m24 r24 e24 hB24 => ?_)
        obtain ⟨kd24, rfl, z24⟩ : ∃ (kd24 : Kd), d24 = (.str ((kdS kd24)) : D) ∧ (True) := by
          simp only [List.mem_cons, List.not_mem_nil, or_false] at m24
          rcases m24 with rfl | rfl | rfl | rfl | rfl | rfl
          · exact ⟨Kd.slanted, rfl, trivial⟩
          · exact ⟨Kd.turned, rfl, trivial⟩
          · exact ⟨Kd.mirrored, rfl, trivial⟩
          · exact ⟨Kd.stretched, rfl, trivial⟩
          · exact ⟨Kd.sized, rfl, trivial⟩
          · exact ⟨Kd.even, rfl, trivial⟩
        obtain rfl := str_of r24
        with_reducible refine k_nil ?_
        refine k_spF (kf8, zeroT, kd24, 1) hB24 (rcons (rstr _) (rcons ((r23.up hB23 (bagG_ok.up e24))) (rcons (rstr _) (rnil (K := K))))) ⟨(⟨szr_lit 1 _, szr_lit 1 _, szr_lit 1 _, szr_lit 1 _⟩ : SzT 1 zeroT), (by first | omega | (dsimp only; omega)), (by first | omega | (dsimp only; omega))⟩ (fun v25 H25 r25 s25 hB25 => ?_)
        obtain rfl := bl_of (b := (staysB (kf8) (zeroT) (kd24))) r25
        with_reducible refine k_nil ?_
        refine k_lst_end hB25 (rcons (rbl _) (rcons (rbl _) (rnil (K := K)))) (fun v26 H26 r26 s26 hB26 => ?_)
        with_reducible refine k_argX ?_
        with_reducible refine k_lst ?_
        with_reducible refine k_argX ?_
        with_reducible refine k_call ?_
        refine k_arg (val_var rfl) ?_
        with_reducible refine k_argX ?_
        with_reducible refine k_call ?_
        refine k_arg (val_var rfl) ?_
        with_reducible refine k_nil ?_
        have q12 := ((((((q10.up hB20 (Ex.of s21)).up hB21 (Ex.of s22)).up hB22 (Ex.of s23)).up hB23 (bagG_ok.up e24)).up hB24 (Ex.of s25)).up hB25 (Ex.of s26))
        refine k_spF (tq1) hB26 (rcons (q12) (rnil (K := K))) trivial (fun v27 H27 r27 s27 hB27 => ?_)
        replace r27 : Rep K (bagG K b c ms).M H27 (tbI C (tq1)) v27 := r27
        with_reducible refine k_nil ?_
        refine k_spF (kf8, tq1, 150) hB27 (rcons (rstr _) (rcons (r27) (rnil (K := K)))) ⟨zq1, (by first | omega | (dsimp only; omega)), (by first | omega | (dsimp only; omega))⟩ (fun v28 H28 r28 s28 hB28 => ?_)
        obtain rfl := bl_of (b := (fitsB (kf8) (tq1))) r28
        refine k_arg val_c ?_
        with_reducible refine k_nil ?_
        refine k_lst_end hB28 (rcons (rbl _) (rcons (rbl _) (rnil (K := K)))) (fun v29 H29 r29 s29 hB29 => ?_)
        with_reducible refine k_nil ?_
        have q13 := (((r26.up hB26 (Ex.of s27)).up hB27 (Ex.of s28)).up hB28 (Ex.of s29))
        have he14 : (.lst [.bl ((fitsB (kf8) (tq1))), .bl (true)] : D) = .lst [.bl ((staysB (Kd.sized) (tq1) (kf8))), .bl ((staysB (kf8) (zeroT) (kd24)))] := by first | rfl | exact stays_sized _ _ | exact (stays_sized _ _).symm | exact stays_zero _ _ | exact (stays_zero _ _).symm | exact stays_one_even _ | exact (stays_one_even _).symm | rw [stays_sized, stays_zero]
        have re15 : Rep K (bagG K b c ms).M H29 (.lst [.bl ((staysB (Kd.sized) (tq1) (kf8))), .bl ((staysB (kf8) (zeroT) (kd24)))]) v29 := by rw [← he14]; exact (r29)
        refine k_spF (.lst [.bl ((staysB (Kd.sized) (tq1) (kf8))), .bl ((staysB (kf8) (zeroT) (kd24)))]) hB29 (rcons (q13) (rcons re15 (rnil (K := K)))) rfl (fun v30 H30 r30 s30 hB30 => ?_)
        obtain rfl := bl_of (b := true) r30
        refine ⟨_, rfl, ?_⟩
        refine iteF ?_
        with_reducible refine k_next ?_
        exact ki8 _ _ ⟨_, rfl⟩ ((Ex.of s21).trans ((Ex.of s22).trans ((Ex.of s23).trans (e24.trans ((Ex.of s25).trans ((Ex.of s26).trans ((Ex.of s27).trans ((Ex.of s28).trans ((Ex.of s29).trans (Ex.of s30)))))))))) hB30
      · obtain ⟨o7_8, rfl⟩ := Ii8
        have e31 := ei8
        have hB31 := bi8
        with_reducible refine k_seq ?_
        refine k_for_r ?_
        refine k_arg val_c ?_
        with_reducible refine k_nil ?_
        refine k_forR (n := 6) (j := 10) (onB b) bagG_ok.on hB31 (fun _ σ2 => ∃ (o7_16 : Option V) (o8_16 : Option V) (o10_16 : Option V) (o11_16 : Option V) (o12_16 : Option V), σ2 = [some (.ref a), some (.ref b), some v1, some v2, some v3, some v4, some v6, o7_16, o8_16, o9_2, o10_16, o11_16, o12_16]) ⟨_, _, _, _, _, rfl⟩ (by decide) (fun i16 σ16 Hi16 hi16 Ii16 bi16 ei16 Di16 ki16 => ?_) (fun σ16 Hi16 Ii16 ei16 bi16 => ?_) rfl
        · obtain ⟨o7_16, o8_16, o10_16, o11_16, o12_16, rfl⟩ := Ii16
          have e32 := ei16
          have hB32 := bi16
          with_reducible refine k_seq ?_
          with_reducible refine k_par3 ?_
          with_reducible refine k_argX ?_
          with_reducible refine k_call ?_
          refine k_arg (val_var rfl) ?_
          refine k_arg (val_var rfl) ?_
          with_reducible refine k_nil ?_
          have q17 := ((q9.up hB19 (bagG_ok.up e31)).up hB31 (bagG_ok.up e32))
          refine k_spB [.str ((kdS Kd.slanted)), .str ((kdS Kd.turned)), .str ((kdS Kd.mirrored)), .str ((kdS Kd.stretched)), .str ((kdS Kd.sized)), .str ((kdS Kd.even))] bagG_ok hB32 (rcons (q17) (rnil (K := K))) ⟨Nat.succ_pos _, Nat.le_of_ble_eq_true rfl⟩ (fun d33 v33 H33 m33 r33 e33 hB33 => ?_)
          obtain ⟨kd33, rfl, z33⟩ : ∃ (kd33 : Kd), d33 = (.str ((kdS kd33)) : D) ∧ (True) := by
            simp only [List.mem_cons, List.not_mem_nil, or_false] at m33
            rcases m33 with rfl | rfl | rfl | rfl | rfl | rfl
            · exact ⟨Kd.slanted, rfl, trivial⟩
            · exact ⟨Kd.turned, rfl, trivial⟩
            · exact ⟨Kd.mirrored, rfl, trivial⟩
            · exact ⟨Kd.stretched, rfl, trivial⟩
            · exact ⟨Kd.sized, rfl, trivial⟩
            · exact ⟨Kd.even, rfl, trivial⟩
          obtain rfl := str_of r33
          with_reducible refine k_argX ?_
          with_reducible refine k_call ?_
          refine k_arg (val_var rfl) ?_
          refine k_arg (val_var rfl) ?_
          with_reducible refine k_nil ?_
          refine k_spB [.str ((kdS Kd.slanted)), .str ((kdS Kd.turned)), .str ((kdS Kd.mirrored)), .str ((kdS Kd.stretched)), .str ((kdS Kd.sized)), .str ((kdS Kd.even))] bagG_ok hB33 (rcons ((q17.up hB32 (bagG_ok.up e33))) (rnil (K := K))) ⟨Nat.succ_pos _, Nat.le_of_ble_eq_true rfl⟩ (fun d34 v34 H34 m34 r34 e34 hB34 => ?_)
          obtain ⟨kd34, rfl, z34⟩ : ∃ (kd34 : Kd), d34 = (.str ((kdS kd34)) : D) ∧ (True) := by
            simp only [List.mem_cons, List.not_mem_nil, or_false] at m34
            rcases m34 with rfl | rfl | rfl | rfl | rfl | rfl
            · exact ⟨Kd.slanted, rfl, trivial⟩
            · exact ⟨Kd.turned, rfl, trivial⟩
            · exact ⟨Kd.mirrored, rfl, trivial⟩
            · exact ⟨Kd.stretched, rfl, trivial⟩
            · exact ⟨Kd.sized, rfl, trivial⟩
            · exact ⟨Kd.even, rfl, trivial⟩
          obtain rfl := str_of r34
          with_reducible refine k_argX ?_
          with_reducible refine k_call ?_
          refine k_arg (val_var rfl) ?_
          refine k_arg (val_var rfl) ?_
          with_reducible refine k_nil ?_
          have q18 := ((q17.up hB32 (bagG_ok.up e33)).up hB33 (bagG_ok.up e34))
          refine k_spB [.str ((kdS Kd.slanted)), .str ((kdS Kd.turned)), .str ((kdS Kd.mirrored)), .str ((kdS Kd.stretched)), .str ((kdS Kd.sized)), .str ((kdS Kd.even))] bagG_ok hB34 (rcons (q18) (rnil (K := K))) ⟨Nat.succ_pos _, Nat.le_of_ble_eq_true rfl⟩ (fun d35 v35 H35 m35 r35 e35 hB35 => ?_)
          obtain ⟨kd35, rfl, z35⟩ : ∃ (kd35 : Kd), d35 = (.str ((kdS kd35)) : D) ∧ (True) := by
            simp only [List.mem_cons, List.not_mem_nil, or_false] at m35
            rcases m35 with rfl | rfl | rfl | rfl | rfl | rfl
            · exact ⟨Kd.slanted, rfl, trivial⟩
            · exact ⟨Kd.turned, rfl, trivial⟩
            · exact ⟨Kd.mirrored, rfl, trivial⟩
            · exact ⟨Kd.stretched, rfl, trivial⟩
            · exact ⟨Kd.sized, rfl, trivial⟩
            · exact ⟨Kd.even, rfl, trivial⟩
          obtain rfl := str_of r35
          with_reducible refine k_nil ?_
          refine ⟨_, _, _, rfl, ?_⟩
          with_reducible refine k_seq ?_
          with_reducible refine k_set ?_
          with_reducible refine k_andV ?_
          with_reducible refine k_call ?_
          refine k_arg (val_var rfl) ?_
          with_reducible refine k_argX ?_
          with_reducible refine k_call ?_
          refine k_arg (val_var rfl) ?_
          with_reducible refine k_nil ?_
          have q19 := (((((((((((r1.up hB1 (bagG_ok.up e2)).up hB2 (Ex.of s3)).up hB3 (Ex.of s4)).up hB4 (bagG_ok.up e5)).up hB5 (Ex.of s6)).up hB6 (bagG_ok.up e19)).up hB19 (bagG_ok.up e31)).up hB31 (bagG_ok.up e32)).up hB32 (bagG_ok.up e33)).up hB33 (bagG_ok.up e34)).up hB34 (bagG_ok.up e35))
          refine k_spF (tq1) hB35 (rcons (q19) (rnil (K := K))) trivial (fun v36 H36 r36 s36 hB36 => ?_)
          replace r36 : Rep K (bagG K b c ms).M H36 (tbI C (tq1)) v36 := r36
          refine k_arg (val_var rfl) ?_
          with_reducible refine k_nil ?_
          refine k_spF (kd33, tq1, kd34, 150) hB36 (rcons (rstr _) (rcons (r36) (rcons (rstr _) (rnil (K := K))))) ⟨zq1, (by first | omega | (dsimp only; omega)), (by first | omega | (dsimp only; omega))⟩ (fun v37 H37 r37 s37 hB37 => ?_)
          obtain rfl := bl_of (b := (staysB (kd33) (tq1) (kd34))) r37
          refine ⟨_, rfl, ?_⟩
          refine k_ite (fun c20 => ?_) (fun c20 => ?_)
          · with_reducible refine k_call ?_
            refine k_arg (val_var rfl) ?_
            with_reducible refine k_argX ?_
            with_reducible refine k_call ?_
            refine k_arg (val_var rfl) ?_
            with_reducible refine k_nil ?_
            have q21 := ((((((((((((r2.up hB2 (Ex.of s3)).up hB3 (Ex.of s4)).up hB4 (bagG_ok.up e5)).up hB5 (Ex.of s6)).up hB6 (bagG_ok.up e19)).up hB19 (bagG_ok.up e31)).up hB31 (bagG_ok.up e32)).up hB32 (bagG_ok.up e33)).up hB33 (bagG_ok.up e34)).up hB34 (bagG_ok.up e35)).up hB35 (Ex.of s36)).up hB36 (Ex.of s37))
            refine k_spF (tq2) hB37 (rcons (q21) (rnil (K := K))) trivial (fun v38 H38 r38 s38 hB38 => ?_)
            replace r38 : Rep K (bagG K b c ms).M H38 (tbI C (tq2)) v38 := r38
            refine k_arg (val_var rfl) ?_
            with_reducible refine k_nil ?_
            refine k_spF (kd34, tq2, kd35, 150) hB38 (rcons (rstr _) (rcons (r38) (rcons (rstr _) (rnil (K := K))))) ⟨zq2, (by first | omega | (dsimp only; omega)), (by first | omega | (dsimp only; omega))⟩ (fun v39 H39 r39 s39 hB39 => ?_)
            obtain rfl := bl_of (b := (staysB (kd34) (tq2) (kd35))) r39
            with_reducible refine k_seq ?_
            with_reducible refine k_ifX ?_
            with_reducible refine k_and ?_
            with_reducible refine k_B ?_
            refine k_val (val_var rfl) ?_
            refine ⟨_, rfl, ?_⟩
            refine k_ite (fun c22 => ?_) (fun c22 => ?_)
            · with_reducible refine k_not ?_
              with_reducible refine k_B ?_
              with_reducible refine k_call ?_
              refine k_arg (val_var rfl) ?_
              with_reducible refine k_argX ?_
              with_reducible refine k_opX ?_
              with_reducible refine k_call ?_
              refine k_arg (val_var rfl) ?_
              with_reducible refine k_nil ?_
              have q23 := ((((q19.up hB35 (Ex.of s36)).up hB36 (Ex.of s37)).up hB37 (Ex.of s38)).up hB38 (Ex.of s39))
              refine k_spF (tq1) hB39 (rcons (q23) (rnil (K := K))) trivial (fun v40 H40 r40 s40 hB40 => ?_)
              replace r40 : Rep K (bagG K b c ms).M H40 (tbI C (tq1)) v40 := r40
              with_reducible refine k_call ?_
              refine k_arg (val_var rfl) ?_
              with_reducible refine k_nil ?_
              have q24 := (((q21.up hB37 (Ex.of s38)).up hB38 (Ex.of s39)).up hB39 (Ex.of s40))
              refine k_spF (tq2) hB40 (rcons (q24) (rnil (K := K))) trivial (fun v41 H41 r41 s41 hB41 => ?_)
              replace r41 : Rep K (bagG K b c ms).M H41 (tbI C (tq2)) v41 := r41
              refine f_own ((r40.up hB40 (Ex.of s41))) (r41) ?_
              have zt25a : SzT 150 (tq1) := zq1
              have zt25b : SzT 150 (tq2) := zq2
              have zt25 : SzT 601 (mulT (tq1) (tq2)) := szT_mul zt25a zt25b (by first | omega | (dsimp only; omega))
              refine k_spF ((tq1).a, (tq1).b, (tq1).c, (tq1).d, (tq2).a, (tq2).b, (tq2).c, (tq2).d, 150, 150) hB41 (rcons ((r40.up hB40 (Ex.of s41))) (rcons (r41) (rnil (K := K)))) ⟨zt25a.1, zt25a.2.1, zt25a.2.2.1, zt25a.2.2.2, zt25b.1, zt25b.2.1, zt25b.2.2.1, zt25b.2.2.2, (by first | omega | (dsimp only; omega))⟩ (fun v42 H42 r42 s42 hB42 => ?_)
              replace r42 : Rep K (bagG K b c ms).M H42 (tbI C (mulT (tq1) (tq2))) v42 := r42
              refine k_arg (val_var rfl) ?_
              with_reducible refine k_nil ?_
              refine k_spF (kd33, mulT (tq1) (tq2), kd35, 601) hB42 (rcons (rstr _) (rcons (r42) (rcons (rstr _) (rnil (K := K))))) ⟨zt25, (by first | omega | (dsimp only; omega)), (by first | omega | (dsimp only; omega))⟩ (fun v43 H43 r43 s43 hB43 => ?_)
              obtain rfl := bl_of (b := (staysB (kd33) (mulT (tq1) (tq2)) (kd35))) r43
              refine ⟨_, rfl, ?_⟩
              refine iteFr (by rw [chain_ok c20 c22]; rfl) ?_
              with_reducible refine k_next ?_
              with_reducible refine k_ifX ?_
              with_reducible refine k_not ?_
              with_reducible refine k_B ?_
              with_reducible refine k_call ?_
              with_reducible refine k_argX ?_
              with_reducible refine k_call ?_
              refine k_arg (val_var rfl) ?_
              with_reducible refine k_argX ?_
              with_reducible refine k_call ?_
              refine k_arg (val_var rfl) ?_
              with_reducible refine k_nil ?_
              have q26 := (((((((((((((((((r3.up hB3 (Ex.of s4)).up hB4 (bagG_ok.up e5)).up hB5 (Ex.of s6)).up hB6 (bagG_ok.up e19)).up hB19 (bagG_ok.up e31)).up hB31 (bagG_ok.up e32)).up hB32 (bagG_ok.up e33)).up hB33 (bagG_ok.up e34)).up hB34 (bagG_ok.up e35)).up hB35 (Ex.of s36)).up hB36 (Ex.of s37)).up hB37 (Ex.of s38)).up hB38 (Ex.of s39)).up hB39 (Ex.of s40)).up hB40 (Ex.of s41)).up hB41 (Ex.of s42)).up hB42 (Ex.of s43))
              refine k_spF (mulT (tq1) (tq2)) hB43 (rcons (q26) (rnil (K := K))) trivial (fun v44 H44 r44 s44 hB44 => ?_)
              replace r44 : Rep K (bagG K b c ms).M H44 (tbI C (mulT (tq1) (tq2))) v44 := r44
              refine k_arg (val_var rfl) ?_
              with_reducible refine k_nil ?_
              refine k_spF (kd33, mulT (tq1) (tq2), kd35, 601) hB44 (rcons (rstr _) (rcons (r44) (rcons (rstr _) (rnil (K := K))))) ⟨zt1, (by first | omega | (dsimp only; omega)), (by first | omega | (dsimp only; omega))⟩ (fun v45 H45 r45 s45 hB45 => ?_)
              obtain rfl := bl_of (b := (staysB (kd33) (mulT (tq1) (tq2)) (kd35))) r45
              with_reducible refine k_argX ?_
              with_reducible refine k_call ?_
              refine k_arg (val_var rfl) ?_
              refine k_arg (val_var rfl) ?_
              refine k_arg (val_var rfl) ?_
              with_reducible refine k_nil ?_
              have q27 := ((q26.up hB43 (Ex.of s44)).up hB44 (Ex.of s45))
              refine k_spF (kd33, mulT (tq1) (tq2), kd35, 601) hB45 (rcons (rstr _) (rcons (q27) (rcons (rstr _) (rnil (K := K))))) ⟨zt1, (by first | omega | (dsimp only; omega)), (by first | omega | (dsimp only; omega))⟩ (fun v46 H46 r46 s46 hB46 => ?_)
              obtain rfl := bl_of (b := (staysB (kd33) (mulT (tq1) (tq2)) (kd35))) r46
              with_reducible refine k_nil ?_
              refine k_spF (.bl ((staysB (kd33) (mulT (tq1) (tq2)) (kd35)))) hB46 (rcons (rbl _) (rcons (rbl _) (rnil (K := K)))) rfl (fun v47 H47 r47 s47 hB47 => ?_)
              obtain rfl := bl_of (b := true) r47
              refine ⟨_, rfl, ?_⟩
              refine iteF ?_
              with_reducible refine k_next ?_
              exact ki16 _ _ ⟨_, _, _, _, _, rfl⟩ (e33.trans (e34.trans (e35.trans ((Ex.of s36).trans ((Ex.of s37).trans ((Ex.of s38).trans ((Ex.of s39).trans ((Ex.of s40).trans ((Ex.of s41).trans ((Ex.of s42).trans ((Ex.of s43).trans ((Ex.of s44).trans ((Ex.of s45).trans ((Ex.of s46).trans (Ex.of s47))))))))))))))) hB47
            · refine iteF ?_
              with_reducible refine k_next ?_
              with_reducible refine k_ifX ?_
              with_reducible refine k_not ?_
              with_reducible refine k_B ?_
              with_reducible refine k_call ?_
              with_reducible refine k_argX ?_
              with_reducible refine k_call ?_
              refine k_arg (val_var rfl) ?_
              with_reducible refine k_argX ?_
              with_reducible refine k_call ?_
              refine k_arg (val_var rfl) ?_
              with_reducible refine k_nil ?_
              have q28 := (((((((((((((r3.up hB3 (Ex.of s4)).up hB4 (bagG_ok.up e5)).up hB5 (Ex.of s6)).up hB6 (bagG_ok.up e19)).up hB19 (bagG_ok.up e31)).up hB31 (bagG_ok.up e32)).up hB32 (bagG_ok.up e33)).up hB33 (bagG_ok.up e34)).up hB34 (bagG_ok.up e35)).up hB35 (Ex.of s36)).up hB36 (Ex.of s37)).up hB37 (Ex.of s38)).up hB38 (Ex.of s39))
              refine k_spF (mulT (tq1) (tq2)) hB39 (rcons (q28) (rnil (K := K))) trivial (fun v48 H48 r48 s48 hB48 => ?_)
              replace r48 : Rep K (bagG K b c ms).M H48 (tbI C (mulT (tq1) (tq2))) v48 := r48
              refine k_arg (val_var rfl) ?_
              with_reducible refine k_nil ?_
              refine k_spF (kd33, mulT (tq1) (tq2), kd35, 601) hB48 (rcons (rstr _) (rcons (r48) (rcons (rstr _) (rnil (K := K))))) ⟨zt1, (by first | omega | (dsimp only; omega)), (by first | omega | (dsimp only; omega))⟩ (fun v49 H49 r49 s49 hB49 => ?_)
              obtain rfl := bl_of (b := (staysB (kd33) (mulT (tq1) (tq2)) (kd35))) r49
              with_reducible refine k_argX ?_
              with_reducible refine k_call ?_
              refine k_arg (val_var rfl) ?_
              refine k_arg (val_var rfl) ?_
              refine k_arg (val_var rfl) ?_
              with_reducible refine k_nil ?_
              have q29 := ((q28.up hB39 (Ex.of s48)).up hB48 (Ex.of s49))
              refine k_spF (kd33, mulT (tq1) (tq2), kd35, 601) hB49 (rcons (rstr _) (rcons (q29) (rcons (rstr _) (rnil (K := K))))) ⟨zt1, (by first | omega | (dsimp only; omega)), (by first | omega | (dsimp only; omega))⟩ (fun v50 H50 r50 s50 hB50 => ?_)
              obtain rfl := bl_of (b := (staysB (kd33) (mulT (tq1) (tq2)) (kd35))) r50
              with_reducible refine k_nil ?_
              refine k_spF (.bl ((staysB (kd33) (mulT (tq1) (tq2)) (kd35)))) hB50 (rcons (rbl _) (rcons (rbl _) (rnil (K := K)))) rfl (fun v51 H51 r51 s51 hB51 => ?_)
              obtain rfl := bl_of (b := true) r51
              refine ⟨_, rfl, ?_⟩
              refine iteF ?_
              with_reducible refine k_next ?_
              exact ki16 _ _ ⟨_, _, _, _, _, rfl⟩ (e33.trans (e34.trans (e35.trans ((Ex.of s36).trans ((Ex.of s37).trans ((Ex.of s38).trans ((Ex.of s39).trans ((Ex.of s48).trans ((Ex.of s49).trans ((Ex.of s50).trans (Ex.of s51))))))))))) hB51
          · with_reducible refine k_seq ?_
            with_reducible refine k_ifX ?_
            with_reducible refine k_and ?_
            with_reducible refine k_B ?_
            refine k_val (val_var rfl) ?_
            refine ⟨_, rfl, ?_⟩
            refine iteF ?_
            refine iteF ?_
            with_reducible refine k_next ?_
            with_reducible refine k_ifX ?_
            with_reducible refine k_not ?_
            with_reducible refine k_B ?_
            with_reducible refine k_call ?_
            with_reducible refine k_argX ?_
            with_reducible refine k_call ?_
            refine k_arg (val_var rfl) ?_
            with_reducible refine k_argX ?_
            with_reducible refine k_call ?_
            refine k_arg (val_var rfl) ?_
            with_reducible refine k_nil ?_
            have q30 := (((((((((((r3.up hB3 (Ex.of s4)).up hB4 (bagG_ok.up e5)).up hB5 (Ex.of s6)).up hB6 (bagG_ok.up e19)).up hB19 (bagG_ok.up e31)).up hB31 (bagG_ok.up e32)).up hB32 (bagG_ok.up e33)).up hB33 (bagG_ok.up e34)).up hB34 (bagG_ok.up e35)).up hB35 (Ex.of s36)).up hB36 (Ex.of s37))
            refine k_spF (mulT (tq1) (tq2)) hB37 (rcons (q30) (rnil (K := K))) trivial (fun v52 H52 r52 s52 hB52 => ?_)
            replace r52 : Rep K (bagG K b c ms).M H52 (tbI C (mulT (tq1) (tq2))) v52 := r52
            refine k_arg (val_var rfl) ?_
            with_reducible refine k_nil ?_
            refine k_spF (kd33, mulT (tq1) (tq2), kd35, 601) hB52 (rcons (rstr _) (rcons (r52) (rcons (rstr _) (rnil (K := K))))) ⟨zt1, (by first | omega | (dsimp only; omega)), (by first | omega | (dsimp only; omega))⟩ (fun v53 H53 r53 s53 hB53 => ?_)
            obtain rfl := bl_of (b := (staysB (kd33) (mulT (tq1) (tq2)) (kd35))) r53
            with_reducible refine k_argX ?_
            with_reducible refine k_call ?_
            refine k_arg (val_var rfl) ?_
            refine k_arg (val_var rfl) ?_
            refine k_arg (val_var rfl) ?_
            with_reducible refine k_nil ?_
            have q31 := ((q30.up hB37 (Ex.of s52)).up hB52 (Ex.of s53))
            refine k_spF (kd33, mulT (tq1) (tq2), kd35, 601) hB53 (rcons (rstr _) (rcons (q31) (rcons (rstr _) (rnil (K := K))))) ⟨zt1, (by first | omega | (dsimp only; omega)), (by first | omega | (dsimp only; omega))⟩ (fun v54 H54 r54 s54 hB54 => ?_)
            obtain rfl := bl_of (b := (staysB (kd33) (mulT (tq1) (tq2)) (kd35))) r54
            with_reducible refine k_nil ?_
            refine k_spF (.bl ((staysB (kd33) (mulT (tq1) (tq2)) (kd35)))) hB54 (rcons (rbl _) (rcons (rbl _) (rnil (K := K)))) rfl (fun v55 H55 r55 s55 hB55 => ?_)
            obtain rfl := bl_of (b := true) r55
            refine ⟨_, rfl, ?_⟩
            refine iteF ?_
            with_reducible refine k_next ?_
            exact ki16 _ _ ⟨_, _, _, _, _, rfl⟩ (e33.trans (e34.trans (e35.trans ((Ex.of s36).trans ((Ex.of s37).trans ((Ex.of s52).trans ((Ex.of s53).trans ((Ex.of s54).trans (Ex.of s55))))))))) hB55
        · obtain ⟨o7_16, o8_16, o10_16, o11_16, o12_16, rfl⟩ := Ii16
          have e56 := ei16
          have hB56 := bi16
          with_reducible refine k_ret ?_
          with_reducible refine k_call ?_
          with_reducible refine k_argX ?_
          with_reducible refine k_sl ?_
          refine k_val (val_var rfl) ?_
          with_reducible refine k_noPart ?_
          with_reducible refine k_part ?_
          refine k_val val_c ?_
          refine ⟨_, rfl, ?_⟩
          have q32 := (((r6.up hB6 (bagG_ok.up e19)).up hB19 (bagG_ok.up e31)).up hB31 (bagG_ok.up e56))
          refine f_slL (n := 2) hB56 (q32) (fun v57 H57 r57 s57 hB57 => ?_)
          replace r57 : Rep K (bagG K b c ms).M H57 (.lst (((ks5.take 3).take 2).map fun k => .str (kdS k))) v57 := by rw [List.map_take]; exact r57
          with_reducible refine k_nil ?_
          refine k_spF ((ks5.take 3).take 2) hB57 (rcons (r57) (rnil (K := K))) trivial (fun v58 H58 r58 s58 hB58 => ?_)
          obtain rfl := bl_of (b := true) r58
          exact k _
end
end Px

namespace Px
open PySem PySem.Spec PyProof.Rows L2
theorem vals4r {a b c d : Addr} : Vals [.ref a, .ref b, .ref c, .ref d] (#[Value.ref a, .ref b, .ref c, .ref d] : Array Value).toList := .cons rfl (.cons rfl (.cons rfl (.cons rfl .nil)))
theorem keys6 {P : Params} {x1 x2 x3 x4 x5 x6 : Str} {t1 t2 t3 t4 t5 t6 : Tok} {v1 v2 v3 v4 v5 v6 : Value} : PySem.W.KeysLit P (#[{ hash := PyData.keyHash P x1, key := Value.str x1 t1, val := v1 }, { hash := PyData.keyHash P x2, key := Value.str x2 t2, val := v2 }, { hash := PyData.keyHash P x3, key := Value.str x3 t3, val := v3 }, { hash := PyData.keyHash P x4, key := Value.str x4 t4, val := v4 }, { hash := PyData.keyHash P x5, key := Value.str x5 t5, val := v5 }, { hash := PyData.keyHash P x6, key := Value.str x6 t6, val := v6 }] : Array DictEntry).toList :=
  ⟨⟨x1, t1, rfl, rfl⟩, ⟨x2, t2, rfl, rfl⟩, ⟨x3, t3, rfl, rfl⟩, ⟨x4, t4, rfl, rfl⟩, ⟨x5, t5, rfl, rfl⟩, ⟨x6, t6, rfl, rfl⟩, trivial⟩
theorem vals1 {i : Int} {t : Tok} : Vals [.int i] (#[Value.int i t] : Array Value).toList := .cons ⟨t, rfl⟩ .nil
theorem vals2 {i j : Int} {t u : Tok} : Vals [.int i, .int j] (#[Value.int i t, .int j u] : Array Value).toList := .cons ⟨t, rfl⟩ (.cons ⟨u, rfl⟩ .nil)
theorem vals4 {i j k l : Int} {t u v w : Tok} : Vals [.int i, .int j, .int k, .int l] (#[Value.int i t, .int j u, .int k v, .int l w] : Array Value).toList := .cons ⟨t, rfl⟩ (.cons ⟨u, rfl⟩ (.cons ⟨v, rfl⟩ (.cons ⟨w, rfl⟩ .nil)))
/-! ### what the top has written -/
theorem all_mk {P : Program} {w : World} {K : PySem.W.Frag} {h : Heap} {mg : Str → Option Value} {fa : Addr} (X : K.In h) (G : h.Ns mainGlobals mg) (hfa : mg "law" = some (.ref fa))
    {f0 : Addr} {od0 an0 : Option Addr} {sl0 : Array (Option Value)} {oc0 kV0 dc0 pm0 cd0 ct0 : Value}
    {f1 : Addr} {od1 an1 : Option Addr} {sl1 : Array (Option Value)} {oc1 kV1 dc1 pm1 cd1 ct1 : Value}
    {f2 : Addr} {od2 an2 : Option Addr} {sl2 : Array (Option Value)} {oc2 kV2 dc2 pm2 cd2 ct2 : Value}
    {f3 : Addr} {od3 an3 : Option Addr} {sl3 : Array (Option Value)} {oc3 kV3 dc3 pm3 cd3 ct3 : Value} {T8 : Addr}
    {f4 : Addr} {od4 an4 : Option Addr} {sl4 : Array (Option Value)} {oc4 kV4 dc4 pm4 cd4 ct4 : Value}
    {f5 : Addr} {od5 an5 : Option Addr} {sl5 : Array (Option Value)} {oc5 kV5 dc5 pm5 cd5 ct5 : Value}
    {f6 : Addr} {od6 an6 : Option Addr} {sl6 : Array (Option Value)} {oc6 kV6 dc6 pm6 cd6 ct6 : Value}
    {f7 : Addr} {od7 an7 : Option Addr} {sl7 : Array (Option Value)} {oc7 kV7 dc7 pm7 cd7 ct7 : Value}
    {f8 : Addr} {od8 an8 : Option Addr} {sl8 : Array (Option Value)} {oc8 kV8 dc8 pm8 cd8 ct8 : Value}
    {f9 : Addr} {od9 an9 : Option Addr} {sl9 : Array (Option Value)} {oc9 kV9 dc9 pm9 cd9 ct9 : Value}
    {f10 : Addr} {od10 an10 : Option Addr} {sl10 : Array (Option Value)} {oc10 kV10 dc10 pm10 cd10 ct10 : Value}
    {f11 : Addr} {od11 an11 : Option Addr} {sl11 : Array (Option Value)} {oc11 kV11 dc11 pm11 cd11 ct11 : Value}
    {f12 : Addr} {od12 an12 : Option Addr} {sl12 : Array (Option Value)} {oc12 kV12 dc12 pm12 cd12 ct12 : Value}
    {f13 : Addr} {od13 an13 : Option Addr} {sl13 : Array (Option Value)} {oc13 kV13 dc13 pm13 cd13 ct13 : Value}
    {f14 : Addr} {od14 an14 : Option Addr} {sl14 : Array (Option Value)} {oc14 kV14 dc14 pm14 cd14 ct14 : Value}
    {f15 : Addr} {od15 an15 : Option Addr} {sl15 : Array (Option Value)} {oc15 kV15 dc15 pm15 cd15 ct15 : Value}
    {f16 : Addr} {od16 an16 : Option Addr} {sl16 : Array (Option Value)} {oc16 kV16 dc16 pm16 cd16 ct16 : Value}
    {f17 : Addr} {od17 an17 : Option Addr} {sl17 : Array (Option Value)} {oc17 kV17 dc17 pm17 cd17 ct17 : Value}
    {f18 : Addr} {od18 an18 : Option Addr} {sl18 : Array (Option Value)} {oc18 kV18 dc18 pm18 cd18 ct18 : Value}
    {f19 : Addr} {od19 an19 : Option Addr} {sl19 : Array (Option Value)} {oc19 kV19 dc19 pm19 cd19 ct19 : Value}
    {f20 : Addr} {od20 an20 : Option Addr} {sl20 : Array (Option Value)} {oc20 kV20 dc20 pm20 cd20 ct20 : Value}
    {f21 : Addr} {od21 an21 : Option Addr} {sl21 : Array (Option Value)} {oc21 kV21 dc21 pm21 cd21 ct21 : Value}
    {f22 : Addr} {od22 an22 : Option Addr} {sl22 : Array (Option Value)} {oc22 kV22 dc22 pm22 cd22 ct22 : Value}
    {f23 : Addr} {od23 an23 : Option Addr} {sl23 : Array (Option Value)} {oc23 kV23 dc23 pm23 cd23 ct23 : Value}
    {f24 : Addr} {od24 an24 : Option Addr} {sl24 : Array (Option Value)} {oc24 kV24 dc24 pm24 cd24 ct24 : Value}
    {f25 : Addr} {od25 an25 : Option Addr} {sl25 : Array (Option Value)} {oc25 kV25 dc25 pm25 cd25 ct25 : Value}
    {f26 : Addr} {od26 an26 : Option Addr} {sl26 : Array (Option Value)} {oc26 kV26 dc26 pm26 cd26 ct26 : Value}
    {f27 : Addr} {od27 an27 : Option Addr} {sl27 : Array (Option Value)} {oc27 kV27 dc27 pm27 cd27 ct27 : Value}
    {f28 : Addr} {od28 an28 : Option Addr} {sl28 : Array (Option Value)} {oc28 kV28 dc28 pm28 cd28 ct28 : Value}
    {f29 : Addr} {od29 an29 : Option Addr} {sl29 : Array (Option Value)} {oc29 kV29 dc29 pm29 cd29 ct29 : Value}
    {f30 : Addr} {od30 an30 : Option Addr} {sl30 : Array (Option Value)} {oc30 kV30 dc30 pm30 cd30 ct30 : Value}
    {f31 : Addr} {od31 an31 : Option Addr} {sl31 : Array (Option Value)} {oc31 kV31 dc31 pm31 cd31 ct31 : Value}
    {f32 : Addr} {od32 an32 : Option Addr} {sl32 : Array (Option Value)} {oc32 kV32 dc32 pm32 cd32 ct32 : Value}
    {f33 : Addr} {od33 an33 : Option Addr} {sl33 : Array (Option Value)} {oc33 kV33 dc33 pm33 cd33 ct33 : Value}
    {f34 : Addr} {od34 an34 : Option Addr} {sl34 : Array (Option Value)} {oc34 kV34 dc34 pm34 cd34 ct34 : Value}
    {f35 : Addr} {od35 an35 : Option Addr} {sl35 : Array (Option Value)} {oc35 kV35 dc35 pm35 cd35 ct35 : Value}
    {f36 : Addr} {od36 an36 : Option Addr} {sl36 : Array (Option Value)} {oc36 kV36 dc36 pm36 cd36 ct36 : Value}
    {f37 : Addr} {od37 an37 : Option Addr} {sl37 : Array (Option Value)} {oc37 kV37 dc37 pm37 cd37 ct37 : Value}
    {f38 : Addr} {od38 an38 : Option Addr} {sl38 : Array (Option Value)} {oc38 kV38 dc38 pm38 cd38 ct38 : Value}
    {f39 : Addr} {od39 an39 : Option Addr} {sl39 : Array (Option Value)} {oc39 kV39 dc39 pm39 cd39 ct39 : Value}
    {f40 : Addr} {od40 an40 : Option Addr} {sl40 : Array (Option Value)} {oc40 kV40 dc40 pm40 cd40 ct40 : Value}
    {f41 : Addr} {od41 an41 : Option Addr} {sl41 : Array (Option Value)} {oc41 kV41 dc41 pm41 cd41 ct41 : Value}
    {f42 : Addr} {od42 an42 : Option Addr} {sl42 : Array (Option Value)} {oc42 kV42 dc42 pm42 cd42 ct42 : Value}
    {f43 : Addr} {od43 an43 : Option Addr} {sl43 : Array (Option Value)} {oc43 kV43 dc43 pm43 cd43 ct43 : Value}
    {f44 : Addr} {od44 an44 : Option Addr} {sl44 : Array (Option Value)} {oc44 kV44 dc44 pm44 cd44 ct44 : Value}
    {cT : Value} {dT : Option Addr} {iT : Array Value} {nT : Nat} {slT : Array (Option Value)}
    {aZERO : Addr}
    {dZERO : Option Addr} {iZERO : Array Value} {nZERO : Nat} {slZERO : Array (Option Value)}
    {aONE : Addr}
    {dONE : Option Addr} {iONE : Array Value} {nONE : Nat} {slONE : Array (Option Value)}
    {aP : Addr}
    {es : Array DictEntry} {nP : Nat}
    {a_slanted : Addr}
    {d_slanted : Option Addr} {i_slanted : Array Value} {n_slanted : Nat} {sl_slanted : Array (Option Value)}
    {a_slanted0 : Addr} {a_slanted1 : Addr} {a_slanted2 : Addr} {a_slanted3 : Addr}
    {d_slanted0 : Option Addr} {i_slanted0 : Array Value} {n_slanted0 : Nat} {sl_slanted0 : Array (Option Value)}
    {d_slanted1 : Option Addr} {i_slanted1 : Array Value} {n_slanted1 : Nat} {sl_slanted1 : Array (Option Value)}
    {d_slanted2 : Option Addr} {i_slanted2 : Array Value} {n_slanted2 : Nat} {sl_slanted2 : Array (Option Value)}
    {d_slanted3 : Option Addr} {i_slanted3 : Array Value} {n_slanted3 : Nat} {sl_slanted3 : Array (Option Value)}
    {a_turned : Addr}
    {d_turned : Option Addr} {i_turned : Array Value} {n_turned : Nat} {sl_turned : Array (Option Value)}
    {a_turned0 : Addr} {a_turned1 : Addr} {a_turned2 : Addr} {a_turned3 : Addr}
    {d_turned0 : Option Addr} {i_turned0 : Array Value} {n_turned0 : Nat} {sl_turned0 : Array (Option Value)}
    {d_turned1 : Option Addr} {i_turned1 : Array Value} {n_turned1 : Nat} {sl_turned1 : Array (Option Value)}
    {d_turned2 : Option Addr} {i_turned2 : Array Value} {n_turned2 : Nat} {sl_turned2 : Array (Option Value)}
    {d_turned3 : Option Addr} {i_turned3 : Array Value} {n_turned3 : Nat} {sl_turned3 : Array (Option Value)}
    {a_mirrored : Addr}
    {d_mirrored : Option Addr} {i_mirrored : Array Value} {n_mirrored : Nat} {sl_mirrored : Array (Option Value)}
    {a_mirrored0 : Addr} {a_mirrored1 : Addr} {a_mirrored2 : Addr} {a_mirrored3 : Addr}
    {d_mirrored0 : Option Addr} {i_mirrored0 : Array Value} {n_mirrored0 : Nat} {sl_mirrored0 : Array (Option Value)}
    {d_mirrored1 : Option Addr} {i_mirrored1 : Array Value} {n_mirrored1 : Nat} {sl_mirrored1 : Array (Option Value)}
    {d_mirrored2 : Option Addr} {i_mirrored2 : Array Value} {n_mirrored2 : Nat} {sl_mirrored2 : Array (Option Value)}
    {d_mirrored3 : Option Addr} {i_mirrored3 : Array Value} {n_mirrored3 : Nat} {sl_mirrored3 : Array (Option Value)}
    {a_stretched : Addr}
    {d_stretched : Option Addr} {i_stretched : Array Value} {n_stretched : Nat} {sl_stretched : Array (Option Value)}
    {a_stretched0 : Addr} {a_stretched1 : Addr} {a_stretched2 : Addr} {a_stretched3 : Addr}
    {d_stretched0 : Option Addr} {i_stretched0 : Array Value} {n_stretched0 : Nat} {sl_stretched0 : Array (Option Value)}
    {d_stretched1 : Option Addr} {i_stretched1 : Array Value} {n_stretched1 : Nat} {sl_stretched1 : Array (Option Value)}
    {d_stretched2 : Option Addr} {i_stretched2 : Array Value} {n_stretched2 : Nat} {sl_stretched2 : Array (Option Value)}
    {d_stretched3 : Option Addr} {i_stretched3 : Array Value} {n_stretched3 : Nat} {sl_stretched3 : Array (Option Value)}
    {a_sized : Addr}
    {d_sized : Option Addr} {i_sized : Array Value} {n_sized : Nat} {sl_sized : Array (Option Value)}
    {a_sized0 : Addr} {a_sized1 : Addr} {a_sized2 : Addr} {a_sized3 : Addr}
    {d_sized0 : Option Addr} {i_sized0 : Array Value} {n_sized0 : Nat} {sl_sized0 : Array (Option Value)}
    {d_sized1 : Option Addr} {i_sized1 : Array Value} {n_sized1 : Nat} {sl_sized1 : Array (Option Value)}
    {d_sized2 : Option Addr} {i_sized2 : Array Value} {n_sized2 : Nat} {sl_sized2 : Array (Option Value)}
    {d_sized3 : Option Addr} {i_sized3 : Array Value} {n_sized3 : Nat} {sl_sized3 : Array (Option Value)}
    {a_even : Addr}
    {d_even : Option Addr} {i_even : Array Value} {n_even : Nat} {sl_even : Array (Option Value)}
    {a_even0 : Addr} {a_even1 : Addr} {a_even2 : Addr} {a_even3 : Addr}
    {d_even0 : Option Addr} {i_even0 : Array Value} {n_even0 : Nat} {sl_even0 : Array (Option Value)}
    {d_even1 : Option Addr} {i_even1 : Array Value} {n_even1 : Nat} {sl_even1 : Array (Option Value)}
    {d_even2 : Option Addr} {i_even2 : Array Value} {n_even2 : Nat} {sl_even2 : Array (Option Value)}
    {d_even3 : Option Addr} {i_even3 : Array Value} {n_even3 : Nat} {sl_even3 : Array (Option Value)}
    {C : Addr}
    {fM0 : Addr}
    {odM0 anM0 : Option Addr} {slM0 : Array (Option Value)} {ocM0 kVM0 dcM0 pmM0 cdM0 ctM0 : Value}
    {fM1 : Addr}
    {odM1 anM1 : Option Addr} {slM1 : Array (Option Value)} {ocM1 kVM1 dcM1 pmM1 cdM1 ctM1 : Value}
    {fM2 : Addr}
    {odM2 anM2 : Option Addr} {slM2 : Array (Option Value)} {ocM2 kVM2 dcM2 pmM2 cdM2 ctM2 : Value}
    {fM3 : Addr}
    {odM3 anM3 : Option Addr} {slM3 : Array (Option Value)} {ocM3 kVM3 dcM3 pmM3 cdM3 ctM3 : Value}
    {pS0 : Addr}
    {fS0 : Addr} {rS0 : List Value}
    {odS0 anS0 : Option Addr} {slS0 : Array (Option Value)} {ocS0 kVS0 dcS0 pmS0 cdS0 ctS0 : Value}
    {pS1 : Addr}
    {fS1 : Addr} {rS1 : List Value}
    {odS1 anS1 : Option Addr} {slS1 : Array (Option Value)} {ocS1 kVS1 dcS1 pmS1 cdS1 ctS1 : Value}
    (a0 : PySem.W.nsIn K mainGlobals "is_number" = some (some (.ref f0)))
    (l0 : K.lookup f0 = some ⟨oc0, od0, .func (PySem.W.fnOf "is_number" "is_number" (defArgs s_is_number) (defBody s_is_number) (defScope s_is_number) .none kV0 dc0 pm0 an0 cd0 ct0), sl0⟩)
    (c0 : PySem.W.codeIn K cd0 "is_number" = true)
    (k0 : PySem.W.keepIn K (.ref f0) = true)
    (a1 : PySem.W.nsIn K mainGlobals "is_pair" = some (some (.ref f1)))
    (l1 : K.lookup f1 = some ⟨oc1, od1, .func (PySem.W.fnOf "is_pair" "is_pair" (defArgs s_is_pair) (defBody s_is_pair) (defScope s_is_pair) .none kV1 dc1 pm1 an1 cd1 ct1), sl1⟩)
    (c1 : PySem.W.codeIn K cd1 "is_pair" = true)
    (k1 : PySem.W.keepIn K (.ref f1) = true)
    (a2 : PySem.W.nsIn K mainGlobals "is_fraction" = some (some (.ref f2)))
    (l2 : K.lookup f2 = some ⟨oc2, od2, .func (PySem.W.fnOf "is_fraction" "is_fraction" (defArgs s_is_fraction) (defBody s_is_fraction) (defScope s_is_fraction) .none kV2 dc2 pm2 an2 cd2 ct2), sl2⟩)
    (c2 : PySem.W.codeIn K cd2 "is_fraction" = true)
    (k2 : PySem.W.keepIn K (.ref f2) = true)
    (a3 : PySem.W.nsIn K mainGlobals "fraction" = some (some (.ref f3)))
    (l3 : K.lookup f3 = some ⟨oc3, od3, .func (PySem.W.fnOf "fraction" "fraction" (defArgs s_fraction) (defBody s_fraction) (defScope s_fraction) (.ref T8) kV3 dc3 pm3 an3 cd3 ct3), sl3⟩)
    (c3 : PySem.W.codeIn K cd3 "fraction" = true)
    (k3 : PySem.W.keepIn K (.ref f3) = true)
    (a4 : PySem.W.nsIn K mainGlobals "plus" = some (some (.ref f4)))
    (l4 : K.lookup f4 = some ⟨oc4, od4, .func (PySem.W.fnOf "plus" "plus" (defArgs s_plus) (defBody s_plus) (defScope s_plus) .none kV4 dc4 pm4 an4 cd4 ct4), sl4⟩)
    (c4 : PySem.W.codeIn K cd4 "plus" = true)
    (k4 : PySem.W.keepIn K (.ref f4) = true)
    (a5 : PySem.W.nsIn K mainGlobals "times" = some (some (.ref f5)))
    (l5 : K.lookup f5 = some ⟨oc5, od5, .func (PySem.W.fnOf "times" "times" (defArgs s_times) (defBody s_times) (defScope s_times) .none kV5 dc5 pm5 an5 cd5 ct5), sl5⟩)
    (c5 : PySem.W.codeIn K cd5 "times" = true)
    (k5 : PySem.W.keepIn K (.ref f5) = true)
    (a6 : PySem.W.nsIn K mainGlobals "negative" = some (some (.ref f6)))
    (l6 : K.lookup f6 = some ⟨oc6, od6, .func (PySem.W.fnOf "negative" "negative" (defArgs s_negative) (defBody s_negative) (defScope s_negative) .none kV6 dc6 pm6 an6 cd6 ct6), sl6⟩)
    (c6 : PySem.W.codeIn K cd6 "negative" = true)
    (k6 : PySem.W.keepIn K (.ref f6) = true)
    (a7 : PySem.W.nsIn K mainGlobals "taken" = some (some (.ref f7)))
    (l7 : K.lookup f7 = some ⟨oc7, od7, .func (PySem.W.fnOf "taken" "taken" (defArgs s_taken) (defBody s_taken) (defScope s_taken) .none kV7 dc7 pm7 an7 cd7 ct7), sl7⟩)
    (c7 : PySem.W.codeIn K cd7 "taken" = true)
    (k7 : PySem.W.keepIn K (.ref f7) = true)
    (a8 : PySem.W.nsIn K mainGlobals "columns" = some (some (.ref f8)))
    (l8 : K.lookup f8 = some ⟨oc8, od8, .func (PySem.W.fnOf "columns" "columns" (defArgs s_columns) (defBody s_columns) (defScope s_columns) .none kV8 dc8 pm8 an8 cd8 ct8), sl8⟩)
    (c8 : PySem.W.codeIn K cd8 "columns" = true)
    (k8 : PySem.W.keepIn K (.ref f8) = true)
    (a9 : PySem.W.nsIn K mainGlobals "own_count" = some (some (.ref f9)))
    (l9 : K.lookup f9 = some ⟨oc9, od9, .func (PySem.W.fnOf "own_count" "own_count" (defArgs s_own_count) (defBody s_own_count) (defScope s_own_count) .none kV9 dc9 pm9 an9 cd9 ct9), sl9⟩)
    (c9 : PySem.W.codeIn K cd9 "own_count" = true)
    (k9 : PySem.W.keepIn K (.ref f9) = true)
    (a10 : PySem.W.nsIn K mainGlobals "table_of" = some (some (.ref f10)))
    (l10 : K.lookup f10 = some ⟨oc10, od10, .func (PySem.W.fnOf "table_of" "table_of" (defArgs s_table_of) (defBody s_table_of) (defScope s_table_of) .none kV10 dc10 pm10 an10 cd10 ct10), sl10⟩)
    (c10 : PySem.W.codeIn K cd10 "table_of" = true)
    (k10 : PySem.W.keepIn K (.ref f10) = true)
    (a11 : PySem.W.nsIn K mainGlobals "own_numbers" = some (some (.ref f11)))
    (l11 : K.lookup f11 = some ⟨oc11, od11, .func (PySem.W.fnOf "own_numbers" "own_numbers" (defArgs s_own_numbers) (defBody s_own_numbers) (defScope s_own_numbers) .none kV11 dc11 pm11 an11 cd11 ct11), sl11⟩)
    (c11 : PySem.W.codeIn K cd11 "own_numbers" = true)
    (k11 : PySem.W.keepIn K (.ref f11) = true)
    (a12 : PySem.W.nsIn K mainGlobals "fits" = some (some (.ref f12)))
    (l12 : K.lookup f12 = some ⟨oc12, od12, .func (PySem.W.fnOf "fits" "fits" (defArgs s_fits) (defBody s_fits) (defScope s_fits) .none kV12 dc12 pm12 an12 cd12 ct12), sl12⟩)
    (c12 : PySem.W.codeIn K cd12 "fits" = true)
    (k12 : PySem.W.keepIn K (.ref f12) = true)
    (a13 : PySem.W.nsIn K mainGlobals "stays" = some (some (.ref f13)))
    (l13 : K.lookup f13 = some ⟨oc13, od13, .func (PySem.W.fnOf "stays" "stays" (defArgs s_stays) (defBody s_stays) (defScope s_stays) .none kV13 dc13 pm13 an13 cd13 ct13), sl13⟩)
    (c13 : PySem.W.codeIn K cd13 "stays" = true)
    (k13 : PySem.W.keepIn K (.ref f13) = true)
    (a14 : PySem.W.nsIn K mainGlobals "is_narrower" = some (some (.ref f14)))
    (l14 : K.lookup f14 = some ⟨oc14, od14, .func (PySem.W.fnOf "is_narrower" "is_narrower" (defArgs s_is_narrower) (defBody s_is_narrower) (defScope s_is_narrower) .none kV14 dc14 pm14 an14 cd14 ct14), sl14⟩)
    (c14 : PySem.W.codeIn K cd14 "is_narrower" = true)
    (k14 : PySem.W.keepIn K (.ref f14) = true)
    (a15 : PySem.W.nsIn K mainGlobals "_units" = some (some (.ref f15)))
    (l15 : K.lookup f15 = some ⟨oc15, od15, .func (PySem.W.fnOf "_units" "_units" (defArgs s__units) (defBody s__units) (defScope s__units) .none kV15 dc15 pm15 an15 cd15 ct15), sl15⟩)
    (c15 : PySem.W.codeIn K cd15 "_units" = true)
    (k15 : PySem.W.keepIn K (.ref f15) = true)
    (a16 : PySem.W.nsIn K mainGlobals "_law_bag" = some (some (.ref f16)))
    (l16 : K.lookup f16 = some ⟨oc16, od16, .func (PySem.W.fnOf "_law_bag" "_law_bag" (defArgs s__law_bag) (defBody s__law_bag) (defScope s__law_bag) .none kV16 dc16 pm16 an16 cd16 ct16), sl16⟩)
    (c16 : PySem.W.codeIn K cd16 "_law_bag" = true)
    (k16 : PySem.W.keepIn K (.ref f16) = true)
    (a17 : PySem.W.nsIn K mainGlobals "_law_draw" = some (some (.ref f17)))
    (l17 : K.lookup f17 = some ⟨oc17, od17, .func (PySem.W.fnOf "_law_draw" "_law_draw" (defArgs s__law_draw) (defBody s__law_draw) (defScope s__law_draw) .none kV17 dc17 pm17 an17 cd17 ct17), sl17⟩)
    (c17 : PySem.W.codeIn K cd17 "_law_draw" = true)
    (k17 : PySem.W.keepIn K (.ref f17) = true)
    (a18 : PySem.W.nsIn K mainGlobals "_law_pick" = some (some (.ref f18)))
    (l18 : K.lookup f18 = some ⟨oc18, od18, .func (PySem.W.fnOf "_law_pick" "_law_pick" (defArgs s__law_pick) (defBody s__law_pick) (defScope s__law_pick) .none kV18 dc18 pm18 an18 cd18 ct18), sl18⟩)
    (c18 : PySem.W.codeIn K cd18 "_law_pick" = true)
    (k18 : PySem.W.keepIn K (.ref f18) = true)
    (a19 : PySem.W.nsIn K mainGlobals "_law_mixed" = some (some (.ref f19)))
    (l19 : K.lookup f19 = some ⟨oc19, od19, .func (PySem.W.fnOf "_law_mixed" "_law_mixed" (defArgs s__law_mixed) (defBody s__law_mixed) (defScope s__law_mixed) .none kV19 dc19 pm19 an19 cd19 ct19), sl19⟩)
    (c19 : PySem.W.codeIn K cd19 "_law_mixed" = true)
    (k19 : PySem.W.keepIn K (.ref f19) = true)
    (a20 : PySem.W.nsIn K mainGlobals "_law_same" = some (some (.ref f20)))
    (l20 : K.lookup f20 = some ⟨oc20, od20, .func (PySem.W.fnOf "_law_same" "_law_same" (defArgs s__law_same) (defBody s__law_same) (defScope s__law_same) .none kV20 dc20 pm20 an20 cd20 ct20), sl20⟩)
    (c20 : PySem.W.codeIn K cd20 "_law_same" = true)
    (k20 : PySem.W.keepIn K (.ref f20) = true)
    (a21 : PySem.W.nsIn K mainGlobals "_law_common" = some (some (.ref f21)))
    (l21 : K.lookup f21 = some ⟨oc21, od21, .func (PySem.W.fnOf "_law_common" "_law_common" (defArgs s__law_common) (defBody s__law_common) (defScope s__law_common) .none kV21 dc21 pm21 an21 cd21 ct21), sl21⟩)
    (c21 : PySem.W.codeIn K cd21 "_law_common" = true)
    (k21 : PySem.W.keepIn K (.ref f21) = true)
    (a22 : PySem.W.nsIn K mainGlobals "_law_low" = some (some (.ref f22)))
    (l22 : K.lookup f22 = some ⟨oc22, od22, .func (PySem.W.fnOf "_law_low" "_law_low" (defArgs s__law_low) (defBody s__law_low) (defScope s__law_low) .none kV22 dc22 pm22 an22 cd22 ct22), sl22⟩)
    (c22 : PySem.W.codeIn K cd22 "_law_low" = true)
    (k22 : PySem.W.keepIn K (.ref f22) = true)
    (a23 : PySem.W.nsIn K mainGlobals "_law_sum" = some (some (.ref f23)))
    (l23 : K.lookup f23 = some ⟨oc23, od23, .func (PySem.W.fnOf "_law_sum" "_law_sum" (defArgs s__law_sum) (defBody s__law_sum) (defScope s__law_sum) .none kV23 dc23 pm23 an23 cd23 ct23), sl23⟩)
    (c23 : PySem.W.codeIn K cd23 "_law_sum" = true)
    (k23 : PySem.W.keepIn K (.ref f23) = true)
    (a24 : PySem.W.nsIn K mainGlobals "_law_product" = some (some (.ref f24)))
    (l24 : K.lookup f24 = some ⟨oc24, od24, .func (PySem.W.fnOf "_law_product" "_law_product" (defArgs s__law_product) (defBody s__law_product) (defScope s__law_product) .none kV24 dc24 pm24 an24 cd24 ct24), sl24⟩)
    (c24 : PySem.W.codeIn K cd24 "_law_product" = true)
    (k24 : PySem.W.keepIn K (.ref f24) = true)
    (a25 : PySem.W.nsIn K mainGlobals "_law_long" = some (some (.ref f25)))
    (l25 : K.lookup f25 = some ⟨oc25, od25, .func (PySem.W.fnOf "_law_long" "_law_long" (defArgs s__law_long) (defBody s__law_long) (defScope s__law_long) .none kV25 dc25 pm25 an25 cd25 ct25), sl25⟩)
    (c25 : PySem.W.codeIn K cd25 "_law_long" = true)
    (k25 : PySem.W.keepIn K (.ref f25) = true)
    (a26 : PySem.W.nsIn K mainGlobals "_law_fraction" = some (some (.ref f26)))
    (l26 : K.lookup f26 = some ⟨oc26, od26, .func (PySem.W.fnOf "_law_fraction" "_law_fraction" (defArgs s__law_fraction) (defBody s__law_fraction) (defScope s__law_fraction) .none kV26 dc26 pm26 an26 cd26 ct26), sl26⟩)
    (c26 : PySem.W.codeIn K cd26 "_law_fraction" = true)
    (k26 : PySem.W.keepIn K (.ref f26) = true)
    (a27 : PySem.W.nsIn K mainGlobals "_law_small" = some (some (.ref f27)))
    (l27 : K.lookup f27 = some ⟨oc27, od27, .func (PySem.W.fnOf "_law_small" "_law_small" (defArgs s__law_small) (defBody s__law_small) (defScope s__law_small) .none kV27 dc27 pm27 an27 cd27 ct27), sl27⟩)
    (c27 : PySem.W.codeIn K cd27 "_law_small" = true)
    (k27 : PySem.W.keepIn K (.ref f27) = true)
    (a28 : PySem.W.nsIn K mainGlobals "_law_near" = some (some (.ref f28)))
    (l28 : K.lookup f28 = some ⟨oc28, od28, .func (PySem.W.fnOf "_law_near" "_law_near" (defArgs s__law_near) (defBody s__law_near) (defScope s__law_near) .none kV28 dc28 pm28 an28 cd28 ct28), sl28⟩)
    (c28 : PySem.W.codeIn K cd28 "_law_near" = true)
    (k28 : PySem.W.keepIn K (.ref f28) = true)
    (a29 : PySem.W.nsIn K mainGlobals "_law_table" = some (some (.ref f29)))
    (l29 : K.lookup f29 = some ⟨oc29, od29, .func (PySem.W.fnOf "_law_table" "_law_table" (defArgs s__law_table) (defBody s__law_table) (defScope s__law_table) .none kV29 dc29 pm29 an29 cd29 ct29), sl29⟩)
    (c29 : PySem.W.codeIn K cd29 "_law_table" = true)
    (k29 : PySem.W.keepIn K (.ref f29) = true)
    (a30 : PySem.W.nsIn K mainGlobals "_law_led" = some (some (.ref f30)))
    (l30 : K.lookup f30 = some ⟨oc30, od30, .func (PySem.W.fnOf "_law_led" "_law_led" (defArgs s__law_led) (defBody s__law_led) (defScope s__law_led) .none kV30 dc30 pm30 an30 cd30 ct30), sl30⟩)
    (c30 : PySem.W.codeIn K cd30 "_law_led" = true)
    (k30 : PySem.W.keepIn K (.ref f30) = true)
    (a31 : PySem.W.nsIn K mainGlobals "_law_after" = some (some (.ref f31)))
    (l31 : K.lookup f31 = some ⟨oc31, od31, .func (PySem.W.fnOf "_law_after" "_law_after" (defArgs s__law_after) (defBody s__law_after) (defScope s__law_after) .none kV31 dc31 pm31 an31 cd31 ct31), sl31⟩)
    (c31 : PySem.W.codeIn K cd31 "_law_after" = true)
    (k31 : PySem.W.keepIn K (.ref f31) = true)
    (a32 : PySem.W.nsIn K mainGlobals "_law_unit" = some (some (.ref f32)))
    (l32 : K.lookup f32 = some ⟨oc32, od32, .func (PySem.W.fnOf "_law_unit" "_law_unit" (defArgs s__law_unit) (defBody s__law_unit) (defScope s__law_unit) .none kV32 dc32 pm32 an32 cd32 ct32), sl32⟩)
    (c32 : PySem.W.codeIn K cd32 "_law_unit" = true)
    (k32 : PySem.W.keepIn K (.ref f32) = true)
    (a33 : PySem.W.nsIn K mainGlobals "_law_words" = some (some (.ref f33)))
    (l33 : K.lookup f33 = some ⟨oc33, od33, .func (PySem.W.fnOf "_law_words" "_law_words" (defArgs s__law_words) (defBody s__law_words) (defScope s__law_words) .none kV33 dc33 pm33 an33 cd33 ct33), sl33⟩)
    (c33 : PySem.W.codeIn K cd33 "_law_words" = true)
    (k33 : PySem.W.keepIn K (.ref f33) = true)
    (a34 : PySem.W.nsIn K mainGlobals "_law_many" = some (some (.ref f34)))
    (l34 : K.lookup f34 = some ⟨oc34, od34, .func (PySem.W.fnOf "_law_many" "_law_many" (defArgs s__law_many) (defBody s__law_many) (defScope s__law_many) .none kV34 dc34 pm34 an34 cd34 ct34), sl34⟩)
    (c34 : PySem.W.codeIn K cd34 "_law_many" = true)
    (k34 : PySem.W.keepIn K (.ref f34) = true)
    (a35 : PySem.W.nsIn K mainGlobals "_law_filled" = some (some (.ref f35)))
    (l35 : K.lookup f35 = some ⟨oc35, od35, .func (PySem.W.fnOf "_law_filled" "_law_filled" (defArgs s__law_filled) (defBody s__law_filled) (defScope s__law_filled) .none kV35 dc35 pm35 an35 cd35 ct35), sl35⟩)
    (c35 : PySem.W.codeIn K cd35 "_law_filled" = true)
    (k35 : PySem.W.keepIn K (.ref f35) = true)
    (a36 : PySem.W.nsIn K mainGlobals "_law_read_off" = some (some (.ref f36)))
    (l36 : K.lookup f36 = some ⟨oc36, od36, .func (PySem.W.fnOf "_law_read_off" "_law_read_off" (defArgs s__law_read_off) (defBody s__law_read_off) (defScope s__law_read_off) .none kV36 dc36 pm36 an36 cd36 ct36), sl36⟩)
    (c36 : PySem.W.codeIn K cd36 "_law_read_off" = true)
    (k36 : PySem.W.keepIn K (.ref f36) = true)
    (a37 : PySem.W.nsIn K mainGlobals "_law_made" = some (some (.ref f37)))
    (l37 : K.lookup f37 = some ⟨oc37, od37, .func (PySem.W.fnOf "_law_made" "_law_made" (defArgs s__law_made) (defBody s__law_made) (defScope s__law_made) .none kV37 dc37 pm37 an37 cd37 ct37), sl37⟩)
    (c37 : PySem.W.codeIn K cd37 "_law_made" = true)
    (k37 : PySem.W.keepIn K (.ref f37) = true)
    (a38 : PySem.W.nsIn K mainGlobals "_law_units" = some (some (.ref f38)))
    (l38 : K.lookup f38 = some ⟨oc38, od38, .func (PySem.W.fnOf "_law_units" "_law_units" (defArgs s__law_units) (defBody s__law_units) (defScope s__law_units) .none kV38 dc38 pm38 an38 cd38 ct38), sl38⟩)
    (c38 : PySem.W.codeIn K cd38 "_law_units" = true)
    (k38 : PySem.W.keepIn K (.ref f38) = true)
    (a39 : PySem.W.nsIn K mainGlobals "_law_stays" = some (some (.ref f39)))
    (l39 : K.lookup f39 = some ⟨oc39, od39, .func (PySem.W.fnOf "_law_stays" "_law_stays" (defArgs s__law_stays) (defBody s__law_stays) (defScope s__law_stays) .none kV39 dc39 pm39 an39 cd39 ct39), sl39⟩)
    (c39 : PySem.W.codeIn K cd39 "_law_stays" = true)
    (k39 : PySem.W.keepIn K (.ref f39) = true)
    (a40 : PySem.W.nsIn K mainGlobals "_law_narrow" = some (some (.ref f40)))
    (l40 : K.lookup f40 = some ⟨oc40, od40, .func (PySem.W.fnOf "_law_narrow" "_law_narrow" (defArgs s__law_narrow) (defBody s__law_narrow) (defScope s__law_narrow) .none kV40 dc40 pm40 an40 cd40 ct40), sl40⟩)
    (c40 : PySem.W.codeIn K cd40 "_law_narrow" = true)
    (k40 : PySem.W.keepIn K (.ref f40) = true)
    (a41 : PySem.W.nsIn K mainGlobals "_law_any" = some (some (.ref f41)))
    (l41 : K.lookup f41 = some ⟨oc41, od41, .func (PySem.W.fnOf "_law_any" "_law_any" (defArgs s__law_any) (defBody s__law_any) (defScope s__law_any) .none kV41 dc41 pm41 an41 cd41 ct41), sl41⟩)
    (c41 : PySem.W.codeIn K cd41 "_law_any" = true)
    (k41 : PySem.W.keepIn K (.ref f41) = true)
    (a42 : PySem.W.nsIn K mainGlobals "_law_tables_so" = some (some (.ref f42)))
    (l42 : K.lookup f42 = some ⟨oc42, od42, .func (PySem.W.fnOf "_law_tables_so" "_law_tables_so" (defArgs s__law_tables_so) (defBody s__law_tables_so) (defScope s__law_tables_so) .none kV42 dc42 pm42 an42 cd42 ct42), sl42⟩)
    (c42 : PySem.W.codeIn K cd42 "_law_tables_so" = true)
    (k42 : PySem.W.keepIn K (.ref f42) = true)
    (a43 : PySem.W.nsIn K mainGlobals "_law_narrower_so" = some (some (.ref f43)))
    (l43 : K.lookup f43 = some ⟨oc43, od43, .func (PySem.W.fnOf "_law_narrower_so" "_law_narrower_so" (defArgs s__law_narrower_so) (defBody s__law_narrower_so) (defScope s__law_narrower_so) .none kV43 dc43 pm43 an43 cd43 ct43), sl43⟩)
    (c43 : PySem.W.codeIn K cd43 "_law_narrower_so" = true)
    (k43 : PySem.W.keepIn K (.ref f43) = true)
    (a44 : PySem.W.nsIn K mainGlobals "law" = some (some (.ref f44)))
    (l44 : K.lookup f44 = some ⟨oc44, od44, .func (PySem.W.fnOf "law" "law" (defArgs s_law) (defBody s_law) (defScope s_law) .none kV44 dc44 pm44 an44 cd44 ct44), sl44⟩)
    (c44 : PySem.W.codeIn K cd44 "law" = true)
    (k44 : PySem.W.keepIn K (.ref f44) = true)
    (e8 : K.lookup T8 = some ⟨cT, dT, .seq iT nT, slT⟩)
    (e9 : Vals [.int 1] iT.toList)
    (gZERO : PySem.W.nsIn K mainGlobals "ZERO" = some (some (.ref aZERO)))
    (tZERO : K.lookup aZERO = some ⟨.type "tuple", dZERO, .seq iZERO nZERO, slZERO⟩)
    (vZERO : Vals [.int (0), .int (1)] iZERO.toList)
    (sZERO : iZERO.size ≤ sizeLine)
    (gONE : PySem.W.nsIn K mainGlobals "ONE" = some (some (.ref aONE)))
    (tONE : K.lookup aONE = some ⟨.type "tuple", dONE, .seq iONE nONE, slONE⟩)
    (vONE : Vals [.int (1), .int (1)] iONE.toList)
    (sONE : iONE.size ≤ sizeLine)
    (gP : PySem.W.nsIn K mainGlobals "_ENTRIES" = some (some (.ref aP)))
    (lP : K.lookup aP = some ⟨.type "dict", none, .dict es nP, #[]⟩)
    (kP : PySem.W.KeysLit w.params es.toList)
    (g_slanted : PySem.W.nsIn K aP "slanted" = some (some (.ref a_slanted)))
    (t_slanted : K.lookup a_slanted = some ⟨.type "tuple", d_slanted, .seq i_slanted n_slanted, sl_slanted⟩)
    (v_slanted : Vals [.ref a_slanted0, .ref a_slanted1, .ref a_slanted2, .ref a_slanted3] i_slanted.toList)
    (s_slanted : i_slanted.size ≤ sizeLine)
    (t_slanted0 : K.lookup a_slanted0 = some ⟨.type "tuple", d_slanted0, .seq i_slanted0 n_slanted0, sl_slanted0⟩)
    (v_slanted0 : Vals [.int (0), .int (1)] i_slanted0.toList)
    (s_slanted0 : i_slanted0.size ≤ sizeLine)
    (t_slanted1 : K.lookup a_slanted1 = some ⟨.type "tuple", d_slanted1, .seq i_slanted1 n_slanted1, sl_slanted1⟩)
    (v_slanted1 : Vals [.int (1), .int (1)] i_slanted1.toList)
    (s_slanted1 : i_slanted1.size ≤ sizeLine)
    (t_slanted2 : K.lookup a_slanted2 = some ⟨.type "tuple", d_slanted2, .seq i_slanted2 n_slanted2, sl_slanted2⟩)
    (v_slanted2 : Vals [.int (2), .int (1)] i_slanted2.toList)
    (s_slanted2 : i_slanted2.size ≤ sizeLine)
    (t_slanted3 : K.lookup a_slanted3 = some ⟨.type "tuple", d_slanted3, .seq i_slanted3 n_slanted3, sl_slanted3⟩)
    (v_slanted3 : Vals [.int (3), .int (1)] i_slanted3.toList)
    (s_slanted3 : i_slanted3.size ≤ sizeLine)
    (g_turned : PySem.W.nsIn K aP "turned" = some (some (.ref a_turned)))
    (t_turned : K.lookup a_turned = some ⟨.type "tuple", d_turned, .seq i_turned n_turned, sl_turned⟩)
    (v_turned : Vals [.ref a_turned0, .ref a_turned1, .ref a_turned2, .ref a_turned3] i_turned.toList)
    (s_turned : i_turned.size ≤ sizeLine)
    (t_turned0 : K.lookup a_turned0 = some ⟨.type "tuple", d_turned0, .seq i_turned0 n_turned0, sl_turned0⟩)
    (v_turned0 : Vals [.int (0), .int (1)] i_turned0.toList)
    (s_turned0 : i_turned0.size ≤ sizeLine)
    (t_turned1 : K.lookup a_turned1 = some ⟨.type "tuple", d_turned1, .seq i_turned1 n_turned1, sl_turned1⟩)
    (v_turned1 : Vals [.int (1), .int (-1)] i_turned1.toList)
    (s_turned1 : i_turned1.size ≤ sizeLine)
    (t_turned2 : K.lookup a_turned2 = some ⟨.type "tuple", d_turned2, .seq i_turned2 n_turned2, sl_turned2⟩)
    (v_turned2 : Vals [.int (1), .int (1)] i_turned2.toList)
    (s_turned2 : i_turned2.size ≤ sizeLine)
    (t_turned3 : K.lookup a_turned3 = some ⟨.type "tuple", d_turned3, .seq i_turned3 n_turned3, sl_turned3⟩)
    (v_turned3 : Vals [.int (0), .int (1)] i_turned3.toList)
    (s_turned3 : i_turned3.size ≤ sizeLine)
    (g_mirrored : PySem.W.nsIn K aP "mirrored" = some (some (.ref a_mirrored)))
    (t_mirrored : K.lookup a_mirrored = some ⟨.type "tuple", d_mirrored, .seq i_mirrored n_mirrored, sl_mirrored⟩)
    (v_mirrored : Vals [.ref a_mirrored0, .ref a_mirrored1, .ref a_mirrored2, .ref a_mirrored3] i_mirrored.toList)
    (s_mirrored : i_mirrored.size ≤ sizeLine)
    (t_mirrored0 : K.lookup a_mirrored0 = some ⟨.type "tuple", d_mirrored0, .seq i_mirrored0 n_mirrored0, sl_mirrored0⟩)
    (v_mirrored0 : Vals [.int (0), .int (1)] i_mirrored0.toList)
    (s_mirrored0 : i_mirrored0.size ≤ sizeLine)
    (t_mirrored1 : K.lookup a_mirrored1 = some ⟨.type "tuple", d_mirrored1, .seq i_mirrored1 n_mirrored1, sl_mirrored1⟩)
    (v_mirrored1 : Vals [.int (1), .int (1)] i_mirrored1.toList)
    (s_mirrored1 : i_mirrored1.size ≤ sizeLine)
    (t_mirrored2 : K.lookup a_mirrored2 = some ⟨.type "tuple", d_mirrored2, .seq i_mirrored2 n_mirrored2, sl_mirrored2⟩)
    (v_mirrored2 : Vals [.int (1), .int (1)] i_mirrored2.toList)
    (s_mirrored2 : i_mirrored2.size ≤ sizeLine)
    (t_mirrored3 : K.lookup a_mirrored3 = some ⟨.type "tuple", d_mirrored3, .seq i_mirrored3 n_mirrored3, sl_mirrored3⟩)
    (v_mirrored3 : Vals [.int (0), .int (-1)] i_mirrored3.toList)
    (s_mirrored3 : i_mirrored3.size ≤ sizeLine)
    (g_stretched : PySem.W.nsIn K aP "stretched" = some (some (.ref a_stretched)))
    (t_stretched : K.lookup a_stretched = some ⟨.type "tuple", d_stretched, .seq i_stretched n_stretched, sl_stretched⟩)
    (v_stretched : Vals [.ref a_stretched0, .ref a_stretched1, .ref a_stretched2, .ref a_stretched3] i_stretched.toList)
    (s_stretched : i_stretched.size ≤ sizeLine)
    (t_stretched0 : K.lookup a_stretched0 = some ⟨.type "tuple", d_stretched0, .seq i_stretched0 n_stretched0, sl_stretched0⟩)
    (v_stretched0 : Vals [.int (0), .int (1)] i_stretched0.toList)
    (s_stretched0 : i_stretched0.size ≤ sizeLine)
    (t_stretched1 : K.lookup a_stretched1 = some ⟨.type "tuple", d_stretched1, .seq i_stretched1 n_stretched1, sl_stretched1⟩)
    (v_stretched1 : Vals [.int (0), .int (0)] i_stretched1.toList)
    (s_stretched1 : i_stretched1.size ≤ sizeLine)
    (t_stretched2 : K.lookup a_stretched2 = some ⟨.type "tuple", d_stretched2, .seq i_stretched2 n_stretched2, sl_stretched2⟩)
    (v_stretched2 : Vals [.int (0), .int (0)] i_stretched2.toList)
    (s_stretched2 : i_stretched2.size ≤ sizeLine)
    (t_stretched3 : K.lookup a_stretched3 = some ⟨.type "tuple", d_stretched3, .seq i_stretched3 n_stretched3, sl_stretched3⟩)
    (v_stretched3 : Vals [.int (1), .int (1)] i_stretched3.toList)
    (s_stretched3 : i_stretched3.size ≤ sizeLine)
    (g_sized : PySem.W.nsIn K aP "sized" = some (some (.ref a_sized)))
    (t_sized : K.lookup a_sized = some ⟨.type "tuple", d_sized, .seq i_sized n_sized, sl_sized⟩)
    (v_sized : Vals [.ref a_sized0, .ref a_sized1, .ref a_sized2, .ref a_sized3] i_sized.toList)
    (s_sized : i_sized.size ≤ sizeLine)
    (t_sized0 : K.lookup a_sized0 = some ⟨.type "tuple", d_sized0, .seq i_sized0 n_sized0, sl_sized0⟩)
    (v_sized0 : Vals [.int (0), .int (1)] i_sized0.toList)
    (s_sized0 : i_sized0.size ≤ sizeLine)
    (t_sized1 : K.lookup a_sized1 = some ⟨.type "tuple", d_sized1, .seq i_sized1 n_sized1, sl_sized1⟩)
    (v_sized1 : Vals [.int (0), .int (0)] i_sized1.toList)
    (s_sized1 : i_sized1.size ≤ sizeLine)
    (t_sized2 : K.lookup a_sized2 = some ⟨.type "tuple", d_sized2, .seq i_sized2 n_sized2, sl_sized2⟩)
    (v_sized2 : Vals [.int (0), .int (0)] i_sized2.toList)
    (s_sized2 : i_sized2.size ≤ sizeLine)
    (t_sized3 : K.lookup a_sized3 = some ⟨.type "tuple", d_sized3, .seq i_sized3 n_sized3, sl_sized3⟩)
    (v_sized3 : Vals [.int (0), .int (1)] i_sized3.toList)
    (s_sized3 : i_sized3.size ≤ sizeLine)
    (g_even : PySem.W.nsIn K aP "even" = some (some (.ref a_even)))
    (t_even : K.lookup a_even = some ⟨.type "tuple", d_even, .seq i_even n_even, sl_even⟩)
    (v_even : Vals [.ref a_even0, .ref a_even1, .ref a_even2, .ref a_even3] i_even.toList)
    (s_even : i_even.size ≤ sizeLine)
    (t_even0 : K.lookup a_even0 = some ⟨.type "tuple", d_even0, .seq i_even0 n_even0, sl_even0⟩)
    (v_even0 : Vals [.int (0), .int (1)] i_even0.toList)
    (s_even0 : i_even0.size ≤ sizeLine)
    (t_even1 : K.lookup a_even1 = some ⟨.type "tuple", d_even1, .seq i_even1 n_even1, sl_even1⟩)
    (v_even1 : Vals [.int (0), .int (0)] i_even1.toList)
    (s_even1 : i_even1.size ≤ sizeLine)
    (t_even2 : K.lookup a_even2 = some ⟨.type "tuple", d_even2, .seq i_even2 n_even2, sl_even2⟩)
    (v_even2 : Vals [.int (0), .int (0)] i_even2.toList)
    (s_even2 : i_even2.size ≤ sizeLine)
    (t_even3 : K.lookup a_even3 = some ⟨.type "tuple", d_even3, .seq i_even3 n_even3, sl_even3⟩)
    (v_even3 : Vals [.int (0), .int (1)] i_even3.toList)
    (s_even3 : i_even3.size ≤ sizeLine)
    (gcd : PySem.W.nsIn K mainGlobals "gcd" = some (some (.builtin "math.gcd")))
    (b_len : PySem.W.nsIn K mainGlobals "len" = some none)
    (b_abs : PySem.W.nsIn K mainGlobals "abs" = some none)
    (b_int : PySem.W.nsIn K mainGlobals "int" = some none)
    (b_isinstance : PySem.W.nsIn K mainGlobals "isinstance" = some none)
    (b_list : PySem.W.nsIn K mainGlobals "list" = some none)
    (b_tuple : PySem.W.nsIn K mainGlobals "tuple" = some none)
    (b_str : PySem.W.nsIn K mainGlobals "str" = some none)
    (b_all : PySem.W.nsIn K mainGlobals "all" = some none)
    (b_zip : PySem.W.nsIn K mainGlobals "zip" = some none)
    (b_range : PySem.W.nsIn K mainGlobals "range" = some none)
    (b_bool : PySem.W.nsIn K mainGlobals "bool" = some none)
    (b_max : PySem.W.nsIn K mainGlobals "max" = some none)
    (gC : PySem.W.nsIn K mainGlobals "Table" = some (some (.ref C)))
    (cpg : PySem.W.plainGet K C Str.empty = true)
    (chd : PySem.W.hasDictIn K C = true)
    (cpo : PySem.W.plainOver K C = true)
    (csa : PySem.W.findIn K (.ref C) "__setattr__" = some (some (.builtin "object.__setattr__")))
    (nA : PySem.W.findIn K (.ref C) "a" = some none)
    (nB : PySem.W.findIn K (.ref C) "b" = some none)
    (nC : PySem.W.findIn K (.ref C) "c" = some none)
    (nD : PySem.W.findIn K (.ref C) "d" = some none)
    (sf : PySem.W.selfFirst K C = true)
    (mk : PySem.W.makesIn K C = true)
    (kC : PySem.W.keepIn K (.ref C) = true)
    (ih : PySem.W.findIn K (.ref C) "__class__" = some (some (.builtin "object.__class__")))
    (inn : PySem.W.specialIn K (.builtin "object.__class__") "__get__" = some (some (.builtin "getset_descriptor.__get__")))
    (itk : PySem.W.takesIn K (.builtin "object.__class__") = some true)
    (ihm : PySem.W.mroIn K C (.type "object") = some true)
    (rd : PySem.W.readsIn K C (.type "type") = true)
    (sga : PySem.W.specialIn K (.ref C) "__getattribute__" = some (some (.builtin "type.__getattribute__")))
    (sty : PySem.W.typeIn K (.ref C) = some (.type "type"))
    (aM0 : PySem.W.findIn K (.ref C) "__init__" = some (some (.ref fM0)))
    (iM0 : PySem.W.isFn K (.ref fM0) = true)
    (lM0 : K.lookup fM0 = some ⟨ocM0, odM0, .func (PySem.W.fnOf "__init__" "Table.__init__" (defArgs s_Table___init__) (defBody s_Table___init__) (defScope s_Table___init__) .none kVM0 dcM0 pmM0 anM0 cdM0 ctM0), slM0⟩)
    (cM0 : PySem.W.codeIn K cdM0 "Table.__init__" = true)
    (kM0 : PySem.W.keepIn K (.ref fM0) = true)
    (aM1 : PySem.W.findIn K (.ref C) "entries" = some (some (.ref fM1)))
    (iM1 : PySem.W.isFn K (.ref fM1) = true)
    (lM1 : K.lookup fM1 = some ⟨ocM1, odM1, .func (PySem.W.fnOf "entries" "Table.entries" (defArgs s_Table_entries) (defBody s_Table_entries) (defScope s_Table_entries) .none kVM1 dcM1 pmM1 anM1 cdM1 ctM1), slM1⟩)
    (cM1 : PySem.W.codeIn K cdM1 "Table.entries" = true)
    (kM1 : PySem.W.keepIn K (.ref fM1) = true)
    (aM2 : PySem.W.findIn K (.ref C) "__mul__" = some (some (.ref fM2)))
    (iM2 : PySem.W.isFn K (.ref fM2) = true)
    (lM2 : K.lookup fM2 = some ⟨ocM2, odM2, .func (PySem.W.fnOf "__mul__" "Table.__mul__" (defArgs s_Table___mul__) (defBody s_Table___mul__) (defScope s_Table___mul__) .none kVM2 dcM2 pmM2 anM2 cdM2 ctM2), slM2⟩)
    (cM2 : PySem.W.codeIn K cdM2 "Table.__mul__" = true)
    (kM2 : PySem.W.keepIn K (.ref fM2) = true)
    (aM3 : PySem.W.findIn K (.ref C) "__eq__" = some (some (.ref fM3)))
    (iM3 : PySem.W.isFn K (.ref fM3) = true)
    (lM3 : K.lookup fM3 = some ⟨ocM3, odM3, .func (PySem.W.fnOf "__eq__" "Table.__eq__" (defArgs s_Table___eq__) (defBody s_Table___eq__) (defScope s_Table___eq__) .none kVM3 dcM3 pmM3 anM3 cdM3 ctM3), slM3⟩)
    (cM3 : PySem.W.codeIn K cdM3 "Table.__eq__" = true)
    (kM3 : PySem.W.keepIn K (.ref fM3) = true)
    (aS0 : PySem.W.findCls K (.ref C) (.type "type") "identity" = some (.get (.builtin "staticmethod.__get__") (.ref pS0) .none (.ref C)))
    (rrS0 : PySem.W.recIn K pS0 "staticmethod" = some (.ref fS0 :: rS0))
    (lS0 : K.lookup fS0 = some ⟨ocS0, odS0, .func (PySem.W.fnOf "identity" "Table.identity" (defArgs s_Table_identity) (defBody s_Table_identity) (defScope s_Table_identity) .none kVS0 dcS0 pmS0 anS0 cdS0 ctS0), slS0⟩)
    (cS0 : PySem.W.codeIn K cdS0 "Table.identity" = true)
    (kS0 : PySem.W.keepIn K (.ref fS0) = true)
    (aS1 : PySem.W.findCls K (.ref C) (.type "type") "zero" = some (.get (.builtin "staticmethod.__get__") (.ref pS1) .none (.ref C)))
    (rrS1 : PySem.W.recIn K pS1 "staticmethod" = some (.ref fS1 :: rS1))
    (lS1 : K.lookup fS1 = some ⟨ocS1, odS1, .func (PySem.W.fnOf "zero" "Table.zero" (defArgs s_Table_zero) (defBody s_Table_zero) (defScope s_Table_zero) .none kVS1 dcS1 pmS1 anS1 cdS1 ctS1), slS1⟩)
    (cS1 : PySem.W.codeIn K cdS1 "Table.zero" = true)
    (kS1 : PySem.W.keepIn K (.ref fS1) = true) :
    ∃ fd : FuncData, (∀ (s : Shared) (v : Value), BindsTo s fd ⟨[v], []⟩ [("_law_script", v)]) ∧ ∀ base : Heap, K.In base → base.Ns mainGlobals mg → FnOk P w K mg base CX0 12 fa fd ["_law_script"] (sp_law K) := by
  have F0 := fun_mk (st := s_is_number) l0 c0 k0
  have F1 := fun_mk (st := s_is_pair) l1 c1 k1
  have F2 := fun_mk (st := s_is_fraction) l2 c2 k2
  have F3 : FunD K "fraction" "fraction" (defArgs s_fraction) (defBody s_fraction) (defScope s_fraction) [.int 1] [] f3 _ := ⟨⟨oc3, od3, .ref T8, kV3, dc3, pm3, an3, cd3, ct3, sl3, rfl, l3, c3, .inr ⟨by decide, T8, _, iT.toList, nT, rfl, e8, by simp, e9⟩, .inl rfl⟩, k3⟩
  have F4 := fun_mk (st := s_plus) l4 c4 k4
  have F5 := fun_mk (st := s_times) l5 c5 k5
  have F6 := fun_mk (st := s_negative) l6 c6 k6
  have F7 := fun_mk (st := s_taken) l7 c7 k7
  have F8 := fun_mk (st := s_columns) l8 c8 k8
  have F9 := fun_mk (st := s_own_count) l9 c9 k9
  have F10 := fun_mk (st := s_table_of) l10 c10 k10
  have F11 := fun_mk (st := s_own_numbers) l11 c11 k11
  have F12 := fun_mk (st := s_fits) l12 c12 k12
  have F13 := fun_mk (st := s_stays) l13 c13 k13
  have F14 := fun_mk (st := s_is_narrower) l14 c14 k14
  have F15 := fun_mk (st := s__units) l15 c15 k15
  have F16 := fun_mk (st := s__law_bag) l16 c16 k16
  have F17 := fun_mk (st := s__law_draw) l17 c17 k17
  have F18 := fun_mk (st := s__law_pick) l18 c18 k18
  have F19 := fun_mk (st := s__law_mixed) l19 c19 k19
  have F20 := fun_mk (st := s__law_same) l20 c20 k20
  have F21 := fun_mk (st := s__law_common) l21 c21 k21
  have F22 := fun_mk (st := s__law_low) l22 c22 k22
  have F23 := fun_mk (st := s__law_sum) l23 c23 k23
  have F24 := fun_mk (st := s__law_product) l24 c24 k24
  have F25 := fun_mk (st := s__law_long) l25 c25 k25
  have F26 := fun_mk (st := s__law_fraction) l26 c26 k26
  have F27 := fun_mk (st := s__law_small) l27 c27 k27
  have F28 := fun_mk (st := s__law_near) l28 c28 k28
  have F29 := fun_mk (st := s__law_table) l29 c29 k29
  have F30 := fun_mk (st := s__law_led) l30 c30 k30
  have F31 := fun_mk (st := s__law_after) l31 c31 k31
  have F32 := fun_mk (st := s__law_unit) l32 c32 k32
  have F33 := fun_mk (st := s__law_words) l33 c33 k33
  have F34 := fun_mk (st := s__law_many) l34 c34 k34
  have F35 := fun_mk (st := s__law_filled) l35 c35 k35
  have F36 := fun_mk (st := s__law_read_off) l36 c36 k36
  have F37 := fun_mk (st := s__law_made) l37 c37 k37
  have F38 := fun_mk (st := s__law_units) l38 c38 k38
  have F39 := fun_mk (st := s__law_stays) l39 c39 k39
  have F40 := fun_mk (st := s__law_narrow) l40 c40 k40
  have F41 := fun_mk (st := s__law_any) l41 c41 k41
  have F42 := fun_mk (st := s__law_tables_so) l42 c42 k42
  have F43 := fun_mk (st := s__law_narrower_so) l43 c43 k43
  have F44 := fun_mk (st := s_law) l44 c44 k44
  have FM0 := fun_mk (st := s_Table___init__) lM0 cM0 kM0
  have FM1 := fun_mk (st := s_Table_entries) lM1 cM1 kM1
  have FM2 := fun_mk (st := s_Table___mul__) lM2 cM2 kM2
  have FM3 := fun_mk (st := s_Table___eq__) lM3 cM3 kM3
  have FS0 := fun_mk (st := s_Table_identity) lS0 cS0 kS0
  have FS1 := fun_mk (st := s_Table_zero) lS1 cS1 kS1
  have T : Tx K mg := { len := PySem.W.mg_none_of X G b_len, abs := PySem.W.mg_none_of X G b_abs, int := PySem.W.mg_none_of X G b_int, isinstance := PySem.W.mg_none_of X G b_isinstance, list := PySem.W.mg_none_of X G b_list, tuple := PySem.W.mg_none_of X G b_tuple, str := PySem.W.mg_none_of X G b_str, all := PySem.W.mg_none_of X G b_all, zip := PySem.W.mg_none_of X G b_zip, range := PySem.W.mg_none_of X G b_range, bool := PySem.W.mg_none_of X G b_bool, max := PySem.W.mg_none_of X G b_max, is_number := ⟨_, _, F0, PySem.W.mg_of X G a0⟩, is_pair := ⟨_, _, F1, PySem.W.mg_of X G a1⟩, is_fraction := ⟨_, _, F2, PySem.W.mg_of X G a2⟩, fraction := ⟨_, _, F3, PySem.W.mg_of X G a3⟩, plus := ⟨_, _, F4, PySem.W.mg_of X G a4⟩, times := ⟨_, _, F5, PySem.W.mg_of X G a5⟩, negative := ⟨_, _, F6, PySem.W.mg_of X G a6⟩, taken := ⟨_, _, F7, PySem.W.mg_of X G a7⟩, columns := ⟨_, _, F8, PySem.W.mg_of X G a8⟩, own_count := ⟨_, _, F9, PySem.W.mg_of X G a9⟩, table_of := ⟨_, _, F10, PySem.W.mg_of X G a10⟩, own_numbers := ⟨_, _, F11, PySem.W.mg_of X G a11⟩, fits := ⟨_, _, F12, PySem.W.mg_of X G a12⟩, stays := ⟨_, _, F13, PySem.W.mg_of X G a13⟩, is_narrower := ⟨_, _, F14, PySem.W.mg_of X G a14⟩, _units := ⟨_, _, F15, PySem.W.mg_of X G a15⟩, _law_bag := ⟨_, _, F16, PySem.W.mg_of X G a16⟩, _law_draw := ⟨_, _, F17, PySem.W.mg_of X G a17⟩, _law_pick := ⟨_, _, F18, PySem.W.mg_of X G a18⟩, _law_mixed := ⟨_, _, F19, PySem.W.mg_of X G a19⟩, _law_same := ⟨_, _, F20, PySem.W.mg_of X G a20⟩, _law_common := ⟨_, _, F21, PySem.W.mg_of X G a21⟩, _law_low := ⟨_, _, F22, PySem.W.mg_of X G a22⟩, _law_sum := ⟨_, _, F23, PySem.W.mg_of X G a23⟩, _law_product := ⟨_, _, F24, PySem.W.mg_of X G a24⟩, _law_long := ⟨_, _, F25, PySem.W.mg_of X G a25⟩, _law_fraction := ⟨_, _, F26, PySem.W.mg_of X G a26⟩, _law_small := ⟨_, _, F27, PySem.W.mg_of X G a27⟩, _law_near := ⟨_, _, F28, PySem.W.mg_of X G a28⟩, _law_table := ⟨_, _, F29, PySem.W.mg_of X G a29⟩, _law_led := ⟨_, _, F30, PySem.W.mg_of X G a30⟩, _law_after := ⟨_, _, F31, PySem.W.mg_of X G a31⟩, _law_unit := ⟨_, _, F32, PySem.W.mg_of X G a32⟩, _law_words := ⟨_, _, F33, PySem.W.mg_of X G a33⟩, _law_many := ⟨_, _, F34, PySem.W.mg_of X G a34⟩, _law_filled := ⟨_, _, F35, PySem.W.mg_of X G a35⟩, _law_read_off := ⟨_, _, F36, PySem.W.mg_of X G a36⟩, _law_made := ⟨_, _, F37, PySem.W.mg_of X G a37⟩, _law_units := ⟨_, _, F38, PySem.W.mg_of X G a38⟩, _law_stays := ⟨_, _, F39, PySem.W.mg_of X G a39⟩, _law_narrow := ⟨_, _, F40, PySem.W.mg_of X G a40⟩, _law_any := ⟨_, _, F41, PySem.W.mg_of X G a41⟩, _law_tables_so := ⟨_, _, F42, PySem.W.mg_of X G a42⟩, _law_narrower_so := ⟨_, _, F43, PySem.W.mg_of X G a43⟩, law := ⟨_, _, F44, PySem.W.mg_of X G a44⟩, gcd := PySem.W.mg_of X G gcd }
  have cl : Cls K C := ⟨cpg, chd, cpo, csa⟩
  have Y : TabTx K mg w C := {
    g := PySem.W.mg_of X G gC,
    cl := cl,
    nA := nA,
    nB := nB,
    nC := nC,
    nD := nD,
    first := sf,
    init := ⟨_, _, FM0, mk, aM0, iM0, kC⟩,
    entries := ⟨_, _, FM1, aM1, iM1, kM1⟩,
    mul := ⟨_, _, FM2, aM2, iM2⟩,
    eq := ⟨_, _, FM3, aM3, iM3⟩,
    identity := ⟨_, _, FS0, rd, sga, sty, ⟨pS0, rS0, aS0, rrS0⟩, kS0⟩,
    zero := ⟨_, _, FS1, rd, sga, sty, ⟨pS1, rS1, aS1, rrS1⟩, kS1⟩,
    isi := ⟨cl, ih, inn, itk, ihm, by unfold PySem.W.kitOne; rw [if_pos (beq_self_eq_true _)]⟩,
    eqf := by simp [PySem.W.notFirst],
    cONE := ⟨aONE, PySem.W.mg_of X G gONE, (fun M H => rtup (.inr ⟨_, _, _, tONE, rfl, rfl, sONE, vONE⟩) (rcons (rint 1) (rcons (rint 1) (rnil (K := K)))))⟩,
    cZERO := ⟨aZERO, PySem.W.mg_of X G gZERO, (fun M H => rtup (.inr ⟨_, _, _, tZERO, rfl, rfl, sZERO, vZERO⟩) (rcons (rint 0) (rcons (rint 1) (rnil (K := K)))))⟩,
    places := ⟨aP, PySem.W.mg_of X G gP, fun kd => by
      cases kd
      · exact ⟨.ref a_slanted, ⟨es, nP, _, lP, kP, g_slanted, rfl⟩, (fun M H => rtup (.inr ⟨_, _, _, t_slanted, rfl, rfl, s_slanted, v_slanted⟩) (rcons (rtup (.inr ⟨_, _, _, t_slanted0, rfl, rfl, s_slanted0, v_slanted0⟩) (rcons (rint (0)) (rcons (rint (1)) (rnil (K := K))))) (rcons (rtup (.inr ⟨_, _, _, t_slanted1, rfl, rfl, s_slanted1, v_slanted1⟩) (rcons (rint (1)) (rcons (rint (1)) (rnil (K := K))))) (rcons (rtup (.inr ⟨_, _, _, t_slanted2, rfl, rfl, s_slanted2, v_slanted2⟩) (rcons (rint (2)) (rcons (rint (1)) (rnil (K := K))))) (rcons (rtup (.inr ⟨_, _, _, t_slanted3, rfl, rfl, s_slanted3, v_slanted3⟩) (rcons (rint (3)) (rcons (rint (1)) (rnil (K := K))))) (rnil (K := K)))))))⟩
      · exact ⟨.ref a_turned, ⟨es, nP, _, lP, kP, g_turned, rfl⟩, (fun M H => rtup (.inr ⟨_, _, _, t_turned, rfl, rfl, s_turned, v_turned⟩) (rcons (rtup (.inr ⟨_, _, _, t_turned0, rfl, rfl, s_turned0, v_turned0⟩) (rcons (rint (0)) (rcons (rint (1)) (rnil (K := K))))) (rcons (rtup (.inr ⟨_, _, _, t_turned1, rfl, rfl, s_turned1, v_turned1⟩) (rcons (rint (1)) (rcons (rint (-1)) (rnil (K := K))))) (rcons (rtup (.inr ⟨_, _, _, t_turned2, rfl, rfl, s_turned2, v_turned2⟩) (rcons (rint (1)) (rcons (rint (1)) (rnil (K := K))))) (rcons (rtup (.inr ⟨_, _, _, t_turned3, rfl, rfl, s_turned3, v_turned3⟩) (rcons (rint (0)) (rcons (rint (1)) (rnil (K := K))))) (rnil (K := K)))))))⟩
      · exact ⟨.ref a_mirrored, ⟨es, nP, _, lP, kP, g_mirrored, rfl⟩, (fun M H => rtup (.inr ⟨_, _, _, t_mirrored, rfl, rfl, s_mirrored, v_mirrored⟩) (rcons (rtup (.inr ⟨_, _, _, t_mirrored0, rfl, rfl, s_mirrored0, v_mirrored0⟩) (rcons (rint (0)) (rcons (rint (1)) (rnil (K := K))))) (rcons (rtup (.inr ⟨_, _, _, t_mirrored1, rfl, rfl, s_mirrored1, v_mirrored1⟩) (rcons (rint (1)) (rcons (rint (1)) (rnil (K := K))))) (rcons (rtup (.inr ⟨_, _, _, t_mirrored2, rfl, rfl, s_mirrored2, v_mirrored2⟩) (rcons (rint (1)) (rcons (rint (1)) (rnil (K := K))))) (rcons (rtup (.inr ⟨_, _, _, t_mirrored3, rfl, rfl, s_mirrored3, v_mirrored3⟩) (rcons (rint (0)) (rcons (rint (-1)) (rnil (K := K))))) (rnil (K := K)))))))⟩
      · exact ⟨.ref a_stretched, ⟨es, nP, _, lP, kP, g_stretched, rfl⟩, (fun M H => rtup (.inr ⟨_, _, _, t_stretched, rfl, rfl, s_stretched, v_stretched⟩) (rcons (rtup (.inr ⟨_, _, _, t_stretched0, rfl, rfl, s_stretched0, v_stretched0⟩) (rcons (rint (0)) (rcons (rint (1)) (rnil (K := K))))) (rcons (rtup (.inr ⟨_, _, _, t_stretched1, rfl, rfl, s_stretched1, v_stretched1⟩) (rcons (rint (0)) (rcons (rint (0)) (rnil (K := K))))) (rcons (rtup (.inr ⟨_, _, _, t_stretched2, rfl, rfl, s_stretched2, v_stretched2⟩) (rcons (rint (0)) (rcons (rint (0)) (rnil (K := K))))) (rcons (rtup (.inr ⟨_, _, _, t_stretched3, rfl, rfl, s_stretched3, v_stretched3⟩) (rcons (rint (1)) (rcons (rint (1)) (rnil (K := K))))) (rnil (K := K)))))))⟩
      · exact ⟨.ref a_sized, ⟨es, nP, _, lP, kP, g_sized, rfl⟩, (fun M H => rtup (.inr ⟨_, _, _, t_sized, rfl, rfl, s_sized, v_sized⟩) (rcons (rtup (.inr ⟨_, _, _, t_sized0, rfl, rfl, s_sized0, v_sized0⟩) (rcons (rint (0)) (rcons (rint (1)) (rnil (K := K))))) (rcons (rtup (.inr ⟨_, _, _, t_sized1, rfl, rfl, s_sized1, v_sized1⟩) (rcons (rint (0)) (rcons (rint (0)) (rnil (K := K))))) (rcons (rtup (.inr ⟨_, _, _, t_sized2, rfl, rfl, s_sized2, v_sized2⟩) (rcons (rint (0)) (rcons (rint (0)) (rnil (K := K))))) (rcons (rtup (.inr ⟨_, _, _, t_sized3, rfl, rfl, s_sized3, v_sized3⟩) (rcons (rint (0)) (rcons (rint (1)) (rnil (K := K))))) (rnil (K := K)))))))⟩
      · exact ⟨.ref a_even, ⟨es, nP, _, lP, kP, g_even, rfl⟩, (fun M H => rtup (.inr ⟨_, _, _, t_even, rfl, rfl, s_even, v_even⟩) (rcons (rtup (.inr ⟨_, _, _, t_even0, rfl, rfl, s_even0, v_even0⟩) (rcons (rint (0)) (rcons (rint (1)) (rnil (K := K))))) (rcons (rtup (.inr ⟨_, _, _, t_even1, rfl, rfl, s_even1, v_even1⟩) (rcons (rint (0)) (rcons (rint (0)) (rnil (K := K))))) (rcons (rtup (.inr ⟨_, _, _, t_even2, rfl, rfl, s_even2, v_even2⟩) (rcons (rint (0)) (rcons (rint (0)) (rnil (K := K))))) (rcons (rtup (.inr ⟨_, _, _, t_even3, rfl, rfl, s_even3, v_even3⟩) (rcons (rint (0)) (rcons (rint (1)) (rnil (K := K))))) (rnil (K := K)))))))⟩⟩ }
  have e := hfa.symm.trans (PySem.W.mg_of X G a44)
  cases e
  refine ⟨PySem.W.fnOf "law" "law" (defArgs s_law) (defBody s_law) (defScope s_law) .none kV44 dc44 pm44 an44 cd44 ct44, fun s v => .of_eq rfl, fun base _ _ => ?_⟩
  obtain ⟨f', fd', F', M', B', G'⟩ := has_law (P := P) (w := w) (base := base) T Y
  have e1 := M'.symm.trans (PySem.W.mg_of X G a44)
  cases e1
  obtain ⟨oc', od', kV', dc', pm', an', cd', ct', osl', rfl, lk', _⟩ := F'.ex
  have e2 := lk'.symm.trans l44
  cases e2
  exact G'

end Px

open PySem PySem.W PyProof.Rows
set_option maxHeartbeats 0 in
theorem PySem.Challenge.cw_lostland_k10_whole_kinds_that_stay_holds : PySem.Challenge.rw_lostland_k10_whole_kinds_that_stay.Holds := by
  w_on; o_law; k_head; (case hw => w_witness2)
  k_fill
  refine L2.walk_of (l := PySem.Challenge.rw_lostland_k10_whole_kinds_that_stay) (n := 63) (k := 12) (x := "_law_script") (CX := fun _ => L2.CX0) (sp := fun w => Px.sp_law _) rfl (by decide) rfl ⟨rfl, by decide, by decide⟩ (fun w h Y => PySem.W.kIn_of Y) ?F (fun _ _ a ns hl _ hS => ⟨a, ns, rfl, hS, fun _ => rfl⟩) (fun _ _ _ _ _ h => h)
  case F =>
    intro w mg fa h KX G hmg
    refine' Px.all_mk KX G hmg ?a0 ?l0 ?c0 ?k0 ?a1 ?l1 ?c1 ?k1 ?a2 ?l2 ?c2 ?k2 ?a3 ?l3 ?c3 ?k3 ?a4 ?l4 ?c4 ?k4 ?a5 ?l5 ?c5 ?k5 ?a6 ?l6 ?c6 ?k6 ?a7 ?l7 ?c7 ?k7 ?a8 ?l8 ?c8 ?k8 ?a9 ?l9 ?c9 ?k9 ?a10 ?l10 ?c10 ?k10 ?a11 ?l11 ?c11 ?k11 ?a12 ?l12 ?c12 ?k12 ?a13 ?l13 ?c13 ?k13 ?a14 ?l14 ?c14 ?k14 ?a15 ?l15 ?c15 ?k15 ?a16 ?l16 ?c16 ?k16 ?a17 ?l17 ?c17 ?k17 ?a18 ?l18 ?c18 ?k18 ?a19 ?l19 ?c19 ?k19 ?a20 ?l20 ?c20 ?k20 ?a21 ?l21 ?c21 ?k21 ?a22 ?l22 ?c22 ?k22 ?a23 ?l23 ?c23 ?k23 ?a24 ?l24 ?c24 ?k24 ?a25 ?l25 ?c25 ?k25 ?a26 ?l26 ?c26 ?k26 ?a27 ?l27 ?c27 ?k27 ?a28 ?l28 ?c28 ?k28 ?a29 ?l29 ?c29 ?k29 ?a30 ?l30 ?c30 ?k30 ?a31 ?l31 ?c31 ?k31 ?a32 ?l32 ?c32 ?k32 ?a33 ?l33 ?c33 ?k33 ?a34 ?l34 ?c34 ?k34 ?a35 ?l35 ?c35 ?k35 ?a36 ?l36 ?c36 ?k36 ?a37 ?l37 ?c37 ?k37 ?a38 ?l38 ?c38 ?k38 ?a39 ?l39 ?c39 ?k39 ?a40 ?l40 ?c40 ?k40 ?a41 ?l41 ?c41 ?k41 ?a42 ?l42 ?c42 ?k42 ?a43 ?l43 ?c43 ?k43 ?a44 ?l44 ?c44 ?k44 ?e8 ?e9v ?gZERO ?tZERO ?vZEROv ?sZEROs ?gONE ?tONE ?vONEv ?sONEs ?gP ?lP ?kPl ?g_slanted ?t_slanted ?v_slantedr ?s_slanteds ?t_slanted0 ?v_slanted0v ?s_slanted0s ?t_slanted1 ?v_slanted1v ?s_slanted1s ?t_slanted2 ?v_slanted2v ?s_slanted2s ?t_slanted3 ?v_slanted3v ?s_slanted3s ?g_turned ?t_turned ?v_turnedr ?s_turneds ?t_turned0 ?v_turned0v ?s_turned0s ?t_turned1 ?v_turned1v ?s_turned1s ?t_turned2 ?v_turned2v ?s_turned2s ?t_turned3 ?v_turned3v ?s_turned3s ?g_mirrored ?t_mirrored ?v_mirroredr ?s_mirroreds ?t_mirrored0 ?v_mirrored0v ?s_mirrored0s ?t_mirrored1 ?v_mirrored1v ?s_mirrored1s ?t_mirrored2 ?v_mirrored2v ?s_mirrored2s ?t_mirrored3 ?v_mirrored3v ?s_mirrored3s ?g_stretched ?t_stretched ?v_stretchedr ?s_stretcheds ?t_stretched0 ?v_stretched0v ?s_stretched0s ?t_stretched1 ?v_stretched1v ?s_stretched1s ?t_stretched2 ?v_stretched2v ?s_stretched2s ?t_stretched3 ?v_stretched3v ?s_stretched3s ?g_sized ?t_sized ?v_sizedr ?s_sizeds ?t_sized0 ?v_sized0v ?s_sized0s ?t_sized1 ?v_sized1v ?s_sized1s ?t_sized2 ?v_sized2v ?s_sized2s ?t_sized3 ?v_sized3v ?s_sized3s ?g_even ?t_even ?v_evenr ?s_evens ?t_even0 ?v_even0v ?s_even0s ?t_even1 ?v_even1v ?s_even1s ?t_even2 ?v_even2v ?s_even2s ?t_even3 ?v_even3v ?s_even3s ?gcd ?b_len ?b_abs ?b_int ?b_isinstance ?b_list ?b_tuple ?b_str ?b_all ?b_zip ?b_range ?b_bool ?b_max ?gC ?cpg ?chd ?cpo ?csa ?nA ?nB ?nC ?nD ?sf ?mk ?kC ?ih ?inn ?itk ?ihm ?rd ?sga ?sty ?aM0 ?iM0 ?lM0 ?cM0 ?kM0 ?aM1 ?iM1 ?lM1 ?cM1 ?kM1 ?aM2 ?iM2 ?lM2 ?cM2 ?kM2 ?aM3 ?iM3 ?lM3 ?cM3 ?kM3 ?aS0 ?rrS0 ?lS0 ?cS0 ?kS0 ?aS1 ?rrS1 ?lS1 ?cS1 ?kS1
    (case a0 => k_is)
    (case l0 => k_is)
    (case c0 => k_is)
    (case k0 => k_is)
    (case a1 => k_is)
    (case l1 => k_is)
    (case c1 => k_is)
    (case k1 => k_is)
    (case a2 => k_is)
    (case l2 => k_is)
    (case c2 => k_is)
    (case k2 => k_is)
    (case a3 => k_is)
    (case l3 => k_is)
    (case c3 => k_is)
    (case k3 => k_is)
    (case a4 => k_is)
    (case l4 => k_is)
    (case c4 => k_is)
    (case k4 => k_is)
    (case a5 => k_is)
    (case l5 => k_is)
    (case c5 => k_is)
    (case k5 => k_is)
    (case a6 => k_is)
    (case l6 => k_is)
    (case c6 => k_is)
    (case k6 => k_is)
    (case a7 => k_is)
    (case l7 => k_is)
    (case c7 => k_is)
    (case k7 => k_is)
    (case a8 => k_is)
    (case l8 => k_is)
    (case c8 => k_is)
    (case k8 => k_is)
    (case a9 => k_is)
    (case l9 => k_is)
    (case c9 => k_is)
    (case k9 => k_is)
    (case a10 => k_is)
    (case l10 => k_is)
    (case c10 => k_is)
    (case k10 => k_is)
    (case a11 => k_is)
    (case l11 => k_is)
    (case c11 => k_is)
    (case k11 => k_is)
    (case a12 => k_is)
    (case l12 => k_is)
    (case c12 => k_is)
    (case k12 => k_is)
    (case a13 => k_is)
    (case l13 => k_is)
    (case c13 => k_is)
    (case k13 => k_is)
    (case a14 => k_is)
    (case l14 => k_is)
    (case c14 => k_is)
    (case k14 => k_is)
    (case a15 => k_is)
    (case l15 => k_is)
    (case c15 => k_is)
    (case k15 => k_is)
    (case a16 => k_is)
    (case l16 => k_is)
    (case c16 => k_is)
    (case k16 => k_is)
    (case a17 => k_is)
    (case l17 => k_is)
    (case c17 => k_is)
    (case k17 => k_is)
    (case a18 => k_is)
    (case l18 => k_is)
    (case c18 => k_is)
    (case k18 => k_is)
    (case a19 => k_is)
    (case l19 => k_is)
    (case c19 => k_is)
    (case k19 => k_is)
    (case a20 => k_is)
    (case l20 => k_is)
    (case c20 => k_is)
    (case k20 => k_is)
    (case a21 => k_is)
    (case l21 => k_is)
    (case c21 => k_is)
    (case k21 => k_is)
    (case a22 => k_is)
    (case l22 => k_is)
    (case c22 => k_is)
    (case k22 => k_is)
    (case a23 => k_is)
    (case l23 => k_is)
    (case c23 => k_is)
    (case k23 => k_is)
    (case a24 => k_is)
    (case l24 => k_is)
    (case c24 => k_is)
    (case k24 => k_is)
    (case a25 => k_is)
    (case l25 => k_is)
    (case c25 => k_is)
    (case k25 => k_is)
    (case a26 => k_is)
    (case l26 => k_is)
    (case c26 => k_is)
    (case k26 => k_is)
    (case a27 => k_is)
    (case l27 => k_is)
    (case c27 => k_is)
    (case k27 => k_is)
    (case a28 => k_is)
    (case l28 => k_is)
    (case c28 => k_is)
    (case k28 => k_is)
    (case a29 => k_is)
    (case l29 => k_is)
    (case c29 => k_is)
    (case k29 => k_is)
    (case a30 => k_is)
    (case l30 => k_is)
    (case c30 => k_is)
    (case k30 => k_is)
    (case a31 => k_is)
    (case l31 => k_is)
    (case c31 => k_is)
    (case k31 => k_is)
    (case a32 => k_is)
    (case l32 => k_is)
    (case c32 => k_is)
    (case k32 => k_is)
    (case a33 => k_is)
    (case l33 => k_is)
    (case c33 => k_is)
    (case k33 => k_is)
    (case a34 => k_is)
    (case l34 => k_is)
    (case c34 => k_is)
    (case k34 => k_is)
    (case a35 => k_is)
    (case l35 => k_is)
    (case c35 => k_is)
    (case k35 => k_is)
    (case a36 => k_is)
    (case l36 => k_is)
    (case c36 => k_is)
    (case k36 => k_is)
    (case a37 => k_is)
    (case l37 => k_is)
    (case c37 => k_is)
    (case k37 => k_is)
    (case a38 => k_is)
    (case l38 => k_is)
    (case c38 => k_is)
    (case k38 => k_is)
    (case a39 => k_is)
    (case l39 => k_is)
    (case c39 => k_is)
    (case k39 => k_is)
    (case a40 => k_is)
    (case l40 => k_is)
    (case c40 => k_is)
    (case k40 => k_is)
    (case a41 => k_is)
    (case l41 => k_is)
    (case c41 => k_is)
    (case k41 => k_is)
    (case a42 => k_is)
    (case l42 => k_is)
    (case c42 => k_is)
    (case k42 => k_is)
    (case a43 => k_is)
    (case l43 => k_is)
    (case c43 => k_is)
    (case k43 => k_is)
    (case a44 => k_is)
    (case l44 => k_is)
    (case c44 => k_is)
    (case k44 => k_is)
    (case e8 => k_is)
    (case e9v => first | exact Px.vals1 | exact Px.vals2 | exact Px.vals4)
    (case gZERO => k_is)
    (case tZERO => k_is)
    (case vZEROv => first | exact Px.vals1 | exact Px.vals2 | exact Px.vals4)
    (case sZEROs => decide)
    (case gONE => k_is)
    (case tONE => k_is)
    (case vONEv => first | exact Px.vals1 | exact Px.vals2 | exact Px.vals4)
    (case sONEs => decide)
    (case gP => k_is)
    (case lP => k_is)
    (case kPl => exact Px.keys6)
    (case g_slanted => k_is)
    (case t_slanted => k_is)
    (case v_slantedr => exact Px.vals4r)
    (case s_slanteds => decide)
    (case t_slanted0 => k_is)
    (case v_slanted0v => first | exact Px.vals1 | exact Px.vals2 | exact Px.vals4)
    (case s_slanted0s => decide)
    (case t_slanted1 => k_is)
    (case v_slanted1v => first | exact Px.vals1 | exact Px.vals2 | exact Px.vals4)
    (case s_slanted1s => decide)
    (case t_slanted2 => k_is)
    (case v_slanted2v => first | exact Px.vals1 | exact Px.vals2 | exact Px.vals4)
    (case s_slanted2s => decide)
    (case t_slanted3 => k_is)
    (case v_slanted3v => first | exact Px.vals1 | exact Px.vals2 | exact Px.vals4)
    (case s_slanted3s => decide)
    (case g_turned => k_is)
    (case t_turned => k_is)
    (case v_turnedr => exact Px.vals4r)
    (case s_turneds => decide)
    (case t_turned0 => k_is)
    (case v_turned0v => first | exact Px.vals1 | exact Px.vals2 | exact Px.vals4)
    (case s_turned0s => decide)
    (case t_turned1 => k_is)
    (case v_turned1v => first | exact Px.vals1 | exact Px.vals2 | exact Px.vals4)
    (case s_turned1s => decide)
    (case t_turned2 => k_is)
    (case v_turned2v => first | exact Px.vals1 | exact Px.vals2 | exact Px.vals4)
    (case s_turned2s => decide)
    (case t_turned3 => k_is)
    (case v_turned3v => first | exact Px.vals1 | exact Px.vals2 | exact Px.vals4)
    (case s_turned3s => decide)
    (case g_mirrored => k_is)
    (case t_mirrored => k_is)
    (case v_mirroredr => exact Px.vals4r)
    (case s_mirroreds => decide)
    (case t_mirrored0 => k_is)
    (case v_mirrored0v => first | exact Px.vals1 | exact Px.vals2 | exact Px.vals4)
    (case s_mirrored0s => decide)
    (case t_mirrored1 => k_is)
    (case v_mirrored1v => first | exact Px.vals1 | exact Px.vals2 | exact Px.vals4)
    (case s_mirrored1s => decide)
    (case t_mirrored2 => k_is)
    (case v_mirrored2v => first | exact Px.vals1 | exact Px.vals2 | exact Px.vals4)
    (case s_mirrored2s => decide)
    (case t_mirrored3 => k_is)
    (case v_mirrored3v => first | exact Px.vals1 | exact Px.vals2 | exact Px.vals4)
    (case s_mirrored3s => decide)
    (case g_stretched => k_is)
    (case t_stretched => k_is)
    (case v_stretchedr => exact Px.vals4r)
    (case s_stretcheds => decide)
    (case t_stretched0 => k_is)
    (case v_stretched0v => first | exact Px.vals1 | exact Px.vals2 | exact Px.vals4)
    (case s_stretched0s => decide)
    (case t_stretched1 => k_is)
    (case v_stretched1v => first | exact Px.vals1 | exact Px.vals2 | exact Px.vals4)
    (case s_stretched1s => decide)
    (case t_stretched2 => k_is)
    (case v_stretched2v => first | exact Px.vals1 | exact Px.vals2 | exact Px.vals4)
    (case s_stretched2s => decide)
    (case t_stretched3 => k_is)
    (case v_stretched3v => first | exact Px.vals1 | exact Px.vals2 | exact Px.vals4)
    (case s_stretched3s => decide)
    (case g_sized => k_is)
    (case t_sized => k_is)
    (case v_sizedr => exact Px.vals4r)
    (case s_sizeds => decide)
    (case t_sized0 => k_is)
    (case v_sized0v => first | exact Px.vals1 | exact Px.vals2 | exact Px.vals4)
    (case s_sized0s => decide)
    (case t_sized1 => k_is)
    (case v_sized1v => first | exact Px.vals1 | exact Px.vals2 | exact Px.vals4)
    (case s_sized1s => decide)
    (case t_sized2 => k_is)
    (case v_sized2v => first | exact Px.vals1 | exact Px.vals2 | exact Px.vals4)
    (case s_sized2s => decide)
    (case t_sized3 => k_is)
    (case v_sized3v => first | exact Px.vals1 | exact Px.vals2 | exact Px.vals4)
    (case s_sized3s => decide)
    (case g_even => k_is)
    (case t_even => k_is)
    (case v_evenr => exact Px.vals4r)
    (case s_evens => decide)
    (case t_even0 => k_is)
    (case v_even0v => first | exact Px.vals1 | exact Px.vals2 | exact Px.vals4)
    (case s_even0s => decide)
    (case t_even1 => k_is)
    (case v_even1v => first | exact Px.vals1 | exact Px.vals2 | exact Px.vals4)
    (case s_even1s => decide)
    (case t_even2 => k_is)
    (case v_even2v => first | exact Px.vals1 | exact Px.vals2 | exact Px.vals4)
    (case s_even2s => decide)
    (case t_even3 => k_is)
    (case v_even3v => first | exact Px.vals1 | exact Px.vals2 | exact Px.vals4)
    (case s_even3s => decide)
    (case gcd => k_is)
    (case b_len => k_is)
    (case b_abs => k_is)
    (case b_int => k_is)
    (case b_isinstance => k_is)
    (case b_list => k_is)
    (case b_tuple => k_is)
    (case b_str => k_is)
    (case b_all => k_is)
    (case b_zip => k_is)
    (case b_range => k_is)
    (case b_bool => k_is)
    (case b_max => k_is)
    (case gC => k_is)
    (case cpg => k_is)
    (case chd => k_is)
    (case cpo => k_is)
    (case csa => k_is)
    (case nA => k_is)
    (case nB => k_is)
    (case nC => k_is)
    (case nD => k_is)
    (case sf => k_is)
    (case mk => k_is)
    (case kC => k_is)
    (case ih => k_is)
    (case inn => k_is)
    (case itk => k_is)
    (case ihm => k_is)
    (case rd => k_is)
    (case sga => k_is)
    (case sty => k_is)
    (case aM0 => k_is)
    (case iM0 => k_is)
    (case lM0 => k_is)
    (case cM0 => k_is)
    (case kM0 => k_is)
    (case aM1 => k_is)
    (case iM1 => k_is)
    (case lM1 => k_is)
    (case cM1 => k_is)
    (case kM1 => k_is)
    (case aM2 => k_is)
    (case iM2 => k_is)
    (case lM2 => k_is)
    (case cM2 => k_is)
    (case kM2 => k_is)
    (case aM3 => k_is)
    (case iM3 => k_is)
    (case lM3 => k_is)
    (case cM3 => k_is)
    (case kM3 => k_is)
    (case aS0 => k_is)
    (case rrS0 => k_is)
    (case lS0 => k_is)
    (case cS0 => k_is)
    (case kS0 => k_is)
    (case aS1 => k_is)
    (case rrS1 => k_is)
    (case lS1 => k_is)
    (case cS1 => k_is)
    (case kS1 => k_is)
