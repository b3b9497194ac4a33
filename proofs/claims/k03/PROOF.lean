import PyProof.Rows.All
import Wide.All
import OpenK.AllK
import Wide.FinOn
import HandS.ForMost
import HandS.Steps
import HandS.Wide
import HandS.Gcd
import HandS.Defaults
import HandS.ForExc
import HandS.IsInst
import HandS.Style
import HandS.ClsMeth
import HandS.NoneIn
import HandS.TryOnly
import HandS.More
import HandS.Zip
import HandS.TupAny
import HandS.ExcInit
import KE.KExcSuper
import KE.KSuper
import HandS.Lambda
import HandS.HotCalls
import HandS.ExcField
import KE.KTryMore
import HandS.HeadHook4
import HandS.HeadWalk
import HandS.Head3
import PySem.Challenge.RW_lostland_k03_vectors_and_directions
set_option Elab.async false
set_option linter.all false
set_option maxRecDepth 100000
set_option exponentiation.threshold 20000
namespace Px
open PySem PySem.Spec PyProof.Rows L2

/-! ### values as data -/
inductive D where
  | non
  | bl (b : Bool)
  | int (i : Int)
  | str (s : Str)
  | tup (xs : List D)
  | lst (xs : List D)
  | ins (C : Addr) (ns : List Str) (ds : List D)

section
variable (K : PySem.W.Frag) (M : Addr → Prop) (H : Hp)
mutual
/-- the value v stands for the datum -/
def Rep : D → V → Prop
  | .non, v => v = .non
  | .bl b, v => v = .bl b
  | .int i, v => v = .int i
  | .str s, v => v = .str s
  | .tup ds, v => ∃ a xs, v = .ref a ∧ SqT K H a xs ∧ Reps ds xs
  | .lst ds, v => ∃ a xs, v = .ref a ∧ ¬ M a ∧ Rd H a (.lst xs) ∧ Reps ds xs
  | .ins C ns ds, v => ∃ a dx fs, v = .ref a ∧ ¬ M a ∧ H a = some (.ins C dx fs) ∧ fs.map (·.1) = ns ∧ Reps ds (fs.map (·.2))
def Reps : List D → List V → Prop
  | [], xs => xs = []
  | d :: ds, xs => ∃ v r, xs = v :: r ∧ Rep d v ∧ Reps ds r
end
end

/-- all but the changing ones stays -/
def Ex (M : Addr → Prop) (H H' : Hp) : Prop := ∀ a o, H a = some o → ¬ M a → H' a = some o
theorem Ex.of {M : Addr → Prop} {H H' : Hp} (e : Same H H') : Ex M H H' := fun a o h _ => e a o h
theorem Ex.refl (M : Addr → Prop) (H : Hp) : Ex M H H := fun _ _ h _ => h
theorem Ex.trans {M : Addr → Prop} {H H1 H2 : Hp} (a : Ex M H H1) (b : Ex M H1 H2) : Ex M H H2 := fun c o h n => b c o (a c o h n) n

/-- what changes (lists alone), and what is known of it -/
structure Bg where
  M : Addr → Prop
  B : Hp → Prop
  isl : ∀ H a, B H → M a → (∃ xs, H a = some (.lst xs)) ∨ (∃ C dx fs, H a = some (.ins C dx fs)) ∨ ∃ ps, H a = some (.tbl ps)
  st : ∀ H H', B H → Same H H' → B H'
  fr : ∀ H d, B H → H d = none → ∀ H1 H2, B H1 → (∃ xs, H1 d = some (.lst xs)) → Ex (fun a => a = d) H1 H2 → B H2

section
variable {K : PySem.W.Frag} {G : Bg} {H H' : Hp}
/-- no tuple changes -/
def NoTup (M : Addr → Prop) (H : Hp) : Prop := ∀ a xs, M a → ¬ Rd H a (.tup xs)
theorem Bg.nt (b : G.B H) : NoTup G.M H := fun a xs m h => by
  rcases G.isl H a b m with ⟨ys, hy⟩ | ⟨C, dx, fs, hy⟩ | ⟨tb, hy⟩ <;> rcases h with h | ⟨o, h⟩ <;> (rw [hy] at h; cases h)
theorem rd_up {M : Addr → Prop} {a : Addr} {u : HO} (nm : ¬ M a) (e : Ex M H H') (h : Rd H a u) : Rd H' a u := by
  rcases h with h | ⟨o, h⟩
  · exact .inl (e _ _ h nm)
  · exact .inr ⟨o, e _ _ h nm⟩
theorem sqT_upC {M : Addr → Prop} {a : Addr} {xs : List V} (c : NoTup M H) (e : Ex M H H') (h : SqT K H a xs) : SqT K H' a xs := by
  rcases h with h | h
  · exact .inl (rd_up (fun m => c a xs m h) e h)
  · exact .inr h
section
variable {M : Addr → Prop}
mutual
theorem Rep.upC (b : NoTup M H) (e : Ex M H H') : ∀ {d : D} {v : V}, Rep K M H d v → Rep K M H' d v
  | .non, _, h => by unfold Rep at *; exact h
  | .bl _, _, h => by unfold Rep at *; exact h
  | .int _, _, h => by unfold Rep at *; exact h
  | .str _, _, h => by unfold Rep at *; exact h
  | .tup ds, v, h => by
    unfold Rep at *
    obtain ⟨a, xs, e1, e2, e3⟩ := h
    exact ⟨a, xs, e1, sqT_upC b e e2, Reps.upC b e e3⟩
  | .lst ds, v, h => by
    unfold Rep at *
    obtain ⟨a, xs, e1, n, e2, e3⟩ := h
    exact ⟨a, xs, e1, n, rd_up n e e2, Reps.upC b e e3⟩
  | .ins C ns ds, v, h => by
    unfold Rep at *
    obtain ⟨a, dx, fs, e1, n, e2, e3, e4⟩ := h
    exact ⟨a, dx, fs, e1, n, e _ _ e2 n, e3, Reps.upC b e e4⟩
theorem Reps.upC (b : NoTup M H) (e : Ex M H H') : ∀ {ds : List D} {xs : List V}, Reps K M H ds xs → Reps K M H' ds xs
  | [], _, h => by unfold Reps at *; exact h
  | d :: ds, xs, h => by
    unfold Reps at *
    obtain ⟨v, r, e1, e2, e3⟩ := h
    exact ⟨v, r, e1, Rep.upC b e e2, Reps.upC b e e3⟩
end
end
theorem Rep.up (b : G.B H) (e : Ex G.M H H') {d : D} {v : V} (r : Rep K G.M H d v) : Rep K G.M H' d v := r.upC (Bg.nt b) e
theorem Reps.up (b : G.B H) (e : Ex G.M H H') {ds : List D} {xs : List V} (r : Reps K G.M H ds xs) : Reps K G.M H' ds xs := r.upC (Bg.nt b) e
variable {M : Addr → Prop}
theorem rint (i : Int) : Rep K M H (.int i) (.int i) := by unfold Rep; rfl
theorem rbl (b : Bool) : Rep K M H (.bl b) (.bl b) := by unfold Rep; rfl
theorem rstr (s : Str) : Rep K M H (.str s) (.str s) := by unfold Rep; rfl
theorem rnon : Rep K M H .non .non := by unfold Rep; rfl
theorem rtup {ds : List D} {a : Addr} {xs : List V} (h : SqT K H a xs) (r : Reps K M H ds xs) : Rep K M H (.tup ds) (.ref a) := by unfold Rep; exact ⟨a, xs, rfl, h, r⟩
theorem rlst {ds : List D} {a : Addr} {xs : List V} (n : ¬ M a) (h : Rd H a (.lst xs)) (r : Reps K M H ds xs) : Rep K M H (.lst ds) (.ref a) := by unfold Rep; exact ⟨a, xs, rfl, n, h, r⟩
theorem rnil : Reps K M H [] [] := by unfold Reps; rfl
theorem rcons {d : D} {ds : List D} {v : V} {r : List V} (h : Rep K M H d v) (t : Reps K M H ds r) : Reps K M H (d :: ds) (v :: r) := by unfold Reps; exact ⟨v, r, rfl, h, t⟩
theorem int_of {i : Int} {v : V} (h : Rep K M H (.int i) v) : v = .int i := by unfold Rep at h; exact h
theorem bl_of {b : Bool} {v : V} (h : Rep K M H (.bl b) v) : v = .bl b := by unfold Rep at h; exact h
theorem str_of {s : Str} {v : V} (h : Rep K M H (.str s) v) : v = .str s := by unfold Rep at h; exact h
theorem non_of {v : V} (h : Rep K M H .non v) : v = .non := by unfold Rep at h; exact h
theorem tup_of {ds : List D} {v : V} (h : Rep K M H (.tup ds) v) : ∃ a xs, v = .ref a ∧ SqT K H a xs ∧ Reps K M H ds xs := by unfold Rep at h; exact h
theorem lst_of {ds : List D} {v : V} (h : Rep K M H (.lst ds) v) : ∃ a xs, v = .ref a ∧ ¬ M a ∧ Rd H a (.lst xs) ∧ Reps K M H ds xs := by unfold Rep at h; exact h
theorem ins_of {C : Addr} {ns : List Str} {ds : List D} {v : V} (h : Rep K M H (.ins C ns ds) v) : ∃ a dx fs, v = .ref a ∧ ¬ M a ∧ H a = some (.ins C dx fs) ∧ fs.map (·.1) = ns ∧ Reps K M H ds (fs.map (·.2)) := by unfold Rep at h; exact h
theorem rins {C a dx : Addr} {ns : List Str} {ds : List D} {fs : List (Str × V)} (n : ¬ M a) (h : H a = some (.ins C dx fs)) (e : fs.map (·.1) = ns) (r : Reps K M H ds (fs.map (·.2))) : Rep K M H (.ins C ns ds) (.ref a) := by unfold Rep; exact ⟨a, dx, fs, rfl, n, h, e, r⟩
theorem nil_of {xs : List V} (h : Reps K M H [] xs) : xs = [] := by unfold Reps at h; exact h
theorem cons_of {d : D} {ds : List D} {xs : List V} (h : Reps K M H (d :: ds) xs) : ∃ v r, xs = v :: r ∧ Rep K M H d v ∧ Reps K M H ds r := by unfold Reps at h; exact h
theorem Reps.len : ∀ {ds : List D} {xs : List V}, Reps K M H ds xs → xs.length = ds.length
  | [], _, h => by rw [nil_of h]; rfl
  | d :: ds, _, h => by
    obtain ⟨v, r, rfl, _, h⟩ := cons_of h
    simp [Reps.len h]
theorem Reps.at : ∀ {ds : List D} {xs : List V} {k : Nat} {d : D}, Reps K M H ds xs → ds[k]? = some d → ∃ v, xs[k]? = some v ∧ Rep K M H d v
  | [], _, _, _, _, e => by simp at e
  | d :: ds, _, 0, _, h, e => by
    obtain ⟨v, r, rfl, h1, _⟩ := cons_of h
    simp at e; subst e
    exact ⟨v, rfl, h1⟩
  | d :: ds, _, k + 1, _, h, e => by
    obtain ⟨v, r, rfl, _, h2⟩ := cons_of h
    obtain ⟨w, e1, e2⟩ := Reps.at (k := k) h2 (by simpa using e)
    exact ⟨w, by simpa using e1, e2⟩
theorem Reps.snoc {d : D} {v : V} : ∀ {ds : List D} {xs : List V}, Reps K M H ds xs → Rep K M H d v → Reps K M H (ds ++ [d]) (xs ++ [v])
  | [], _, h, r => by rw [nil_of h]; exact rcons r rnil
  | d0 :: ds, _, h, r => by
    obtain ⟨w, t, rfl, h1, h2⟩ := cons_of h
    exact rcons h1 (Reps.snoc h2 r)
theorem Reps.look : ∀ {fs : List (Str × V)} {ns : List Str} {ds : List D} {f : Str} {d : D}, fs.map (·.1) = ns → Reps K M H ds (fs.map (·.2)) → (ns.zip ds).lookup f = some d → ∃ v, fs.lookup f = some v ∧ Rep K M H d v
  | [], ns, ds, f, d, e, r, l => by
    subst e
    simp at l
  | (g, v) :: fs, ns, ds, f, d, e, r, l => by
    cases ds with
    | nil => simp at l
    | cons d0 ds =>
      obtain ⟨v', r', e', r1, r2⟩ := cons_of r
      cases e'
      subst e
      simp only [List.map_cons, List.zip_cons_cons, List.lookup_cons] at l ⊢
      by_cases hfg : (f == g) = true
      · rw [hfg] at l ⊢
        cases l
        exact ⟨v, rfl, r1⟩
      · have hfg' : (f == g) = false := by simpa using hfg
        rw [hfg'] at l ⊢
        exact Reps.look rfl r2 l
end

/-! ### fractions -/
abbrev fr (x : Rat) : D := .tup [.int x.num, .int (x.den : Int)]
def Sz (n : Nat) (i : Int) : Prop := i.natAbs < 2 ^ n
theorem Sz.mono {a b : Nat} {i : Int} (h : Sz a i) (l : a ≤ b) : Sz b i := Nat.lt_of_lt_of_le h (Nat.pow_le_pow_right (by decide) l)
theorem Sz.mul {a b : Nat} {i j : Int} (h : Sz a i) (k : Sz b j) : Sz (a + b) (i * j) := L2.wide_lt h k
theorem Sz.add {a b : Nat} {i j : Int} (h : Sz a i) (k : Sz b j) : Sz (max a b + 1) (i + j) := by
  have h1 := h.mono (Nat.le_max_left a b)
  have h2 := k.mono (Nat.le_max_right a b)
  unfold Sz at *
  rw [Nat.pow_succ]
  have := Int.natAbs_add_le i j
  omega
theorem Sz.neg {a : Nat} {i : Int} (h : Sz a i) : Sz a (-i) := by unfold Sz at *; rwa [Int.natAbs_neg]
theorem Sz.sub {a b : Nat} {i j : Int} (h : Sz a i) (k : Sz b j) : Sz (max a b + 1) (i - j) := by
  rw [Int.sub_eq_add_neg]; exact h.add k.neg
def SzR (n : Nat) (x : Rat) : Prop := Sz n x.num ∧ Sz n (x.den : Int)
/-! ### promises -/
/-- a display is laid -/
def TupEnd (Q : VK) (xs : List V) (H : Hp) : Prop := xs.length ≤ sizeLine ∧ ∀ p, H p = none → Q (.ref p) (upd H p (.tup xs))
def LstEnd (Q : VK) (xs : List V) (H : Hp) : Prop := xs.length ≤ sizeLine ∧ ∀ p, H p = none → Q (.ref p) (upd H p (.lst xs))
/-- called with data, hands back a datum; all stays as it was -/
def spT (K : PySem.W.Frag) {α : Type} (enc : α → List D) (pre : α → Prop) (post : α → D → Prop) : Sp := fun vs H Q _ =>
  ∃ (G : Bg) (x : α), G.B H ∧ Reps K G.M H (enc x) vs ∧ pre x ∧ ∀ d v H', post x d → Rep K G.M H' d v → Same H H' → G.B H' → Q v H'
section
variable {K : PySem.W.Frag} {G : Bg} {H : Hp} {σ : L2.St} {te ta tb : TE} {Q : VK} {D' : Ends} {t u : TS}
theorem k_val {v : V} (h : Val te σ H v) (q : Q v H) : te σ H Q := h Q q
theorem k_arg {v : V} {tr : TA} {Q : List V → Hp → Prop} (h : Val te σ H v) (q : tr σ H fun xs H2 => Q (v :: xs) H2) : tCons te tr σ H Q := h _ q
theorem k_argX {tr : TA} {Q : List V → Hp → Prop} (q : te σ H fun x H1 => tr σ H1 fun xs H2 => Q (x :: xs) H2) : tCons te tr σ H Q := q
theorem k_nil {Q : List V → Hp → Prop} (q : Q [] H) : tNil σ H Q := q
theorem k_call {sp : Sp} {dvs : List V} {E : XK} {t : TA} (q : t σ H fun vs H1 => sp (vs ++ dvs) H1 Q E) : tCall sp dvs E t σ H Q := q
theorem k_cb {r : List V → Hp → VK → Prop} {t : TA} (q : t σ H fun vs H1 => r vs H1 Q) : tCB r t σ H Q := q
theorem k_tup {t : TA} (q : t σ H fun xs H1 => TupEnd Q xs H1) : tTup t σ H Q := q
theorem k_lst {t : TA} (q : t σ H fun xs H1 => LstEnd Q xs H1) : tLst t σ H Q := q
theorem same_upd {H : Hp} {p : Addr} {o : HO} (h : H p = none) : Same H (upd H p o) := fun b x e => by
  rw [upd_ne (ne_of_none e h)]; exact e
/-- a new tuple -/
theorem k_tup_end {xs : List V} {ds : List D} (hB : G.B H) (r : Reps K G.M H ds xs) (q : ∀ v H', Rep K G.M H' (.tup ds) v → Same H H' → G.B H' → Q v H') (hl : Nat.ble ds.length 1000 = true := by rfl) :
    TupEnd Q xs H := by
  refine ⟨by rw [r.len]; exact Nat.le_trans (Nat.le_of_ble_eq_true hl) (by decide), fun p hp => ?_⟩
  have s := same_upd (o := .tup xs) hp
  have hB' := G.st _ _ hB s
  exact q _ _ (rtup (.inl (.inl upd_same)) (r.up hB (Ex.of s))) s hB'
/-- a new list, that is not going to change -/
theorem k_lst_end {xs : List V} {ds : List D} (hB : G.B H) (r : Reps K G.M H ds xs) (q : ∀ v H', Rep K G.M H' (.lst ds) v → Same H H' → G.B H' → Q v H') (hl : Nat.ble ds.length 1000 = true := by rfl) :
    LstEnd Q xs H := by
  refine ⟨by rw [r.len]; exact Nat.le_trans (Nat.le_of_ble_eq_true hl) (by decide), fun p hp => ?_⟩
  have s := same_upd (o := .lst xs) hp
  have hB' := G.st _ _ hB s
  have nm : ¬ G.M p := fun m => by
    rcases G.isl H p hB m with ⟨ys, hy⟩ | ⟨C, dx, fs, hy⟩ | ⟨tb, hy⟩ <;> (rw [hp] at hy; cases hy)
  exact q _ _ (rlst nm (.inl upd_same) (r.up hB (Ex.of s))) s hB'
/-- a promise used -/
theorem k_spT {α : Type} {enc : α → List D} {pre : α → Prop} {post : α → D → Prop} {vs : List V} {E : XK} (x : α) (hB : G.B H) (r : Reps K G.M H (enc x) vs) (hp : pre x)
    (q : ∀ d v H', post x d → Rep K G.M H' d v → Same H H' → G.B H' → Q v H') : spT K enc pre post vs H Q E := ⟨G, x, hB, r, hp, q⟩
/-! ### heap-neutral values -/
theorem v_op0 {g : Int → Int → V} {i j : Int} (ha : Val ta σ H (.int i)) (hb : Val tb σ H (.int j)) : Val (tOp (rI0 g) ta tb) σ H (g i j) := fun _ q => ha _ (hb _ ⟨i, j, rfl, rfl, q⟩)
theorem v_op {C : Int → Int → Prop} {g : Int → Int → V} {i j : Int} (ha : Val ta σ H (.int i)) (hb : Val tb σ H (.int j)) (c : C i j) : Val (tOp (rI C g) ta tb) σ H (g i j) := fun _ q => ha _ (hb _ ⟨i, j, rfl, rfl, c, q⟩)
theorem v_opB {g : Int → Int → Bool} {i j : Int} (ha : Val ta σ H (.int i)) (hb : Val tb σ H (.int j)) : Val (tOp (rI0 fun i j => .bl (g i j)) ta tb) σ H (.bl (g i j)) := fun _ q => ha _ (hb _ ⟨i, j, rfl, rfl, q⟩)
theorem v_un {g : Int → V} {i : Int} (ha : Val ta σ H (.int i)) : Val (tUn (rU g) ta) σ H (g i) := fun _ q => ha _ ⟨i, rfl, q⟩
theorem v_ixT {a : Addr} {xs : List V} {k : Nat} {w : V} (ha : Val ta σ H (.ref a)) (hb : Val tb σ H (.int (k : Int))) (h : SqT K H a xs) (e : xs[k]? = some w) : Val (tOp (rIxT K) ta tb) σ H w := fun _ q => ha _ (hb _ ⟨a, xs, _, w, rfl, rfl, h, atI_nat e, q⟩)
theorem v_eq {x y : V} (ha : Val ta σ H x) (hb : Val tb σ H y) (hs : scal x y = true) : Val (tOp rEq ta tb) σ H (.bl (decide (x = y))) := fun _ q => ha _ (hb _ ⟨hs, q⟩)
theorem a_test {b : Bool} (h : Val te σ H (.bl b)) : Ans (tTest te) σ H b := fun _ q => h _ ⟨b, rfl, q⟩
theorem a_B {b : Bool} (h : Val te σ H (.bl b)) : Ans (tB te) σ H b := fun _ q => h _ ⟨b, rfl, q⟩
theorem v_gcd {i j : Int} {t1 t2 : TE} (h1 : Val t1 σ H (.int i)) (h2 : Val t2 σ H (.int j)) : Val (tCB rGcd (tCons t1 (tCons t2 tNil))) σ H (.int ((Nat.gcd i.natAbs j.natAbs : Nat) : Int)) := fun _ q => h1 _ (h2 _ ⟨i, j, rfl, q⟩)
/-! ### statements -/
theorem k_if {c : TT} {b : Bool} (h : Ans c σ H b) (h1 : b = true → t D' σ H) (h2 : b = false → u D' σ H) : tIfS c t u D' σ H := by
  refine h _ ?_
  cases b with
  | true => rw [if_pos rfl]; exact h1 rfl
  | false => rw [if_neg Bool.false_ne_true]; exact h2 rfl
theorem k_seq (h : t { D' with nx := u D' } σ H) : tSeq t u D' σ H := h
theorem k_set {i : Nat} (h : te σ H fun v H1 => D'.nx (σ.set i (some v)) H1) : tAsg te (gName i) D' σ H := h
theorem k_ret (h : te σ H D'.rt) : tRet te D' σ H := h
theorem k_next (h : D'.nx σ H) : tNext D' σ H := h
end
section
variable {X : Cx}
def CDivU (_ j : Int) : Prop := j ≠ 0 ∧ j.natAbs.log2 < 9000
theorem op_fdivU : OpR X (binaryOp .FloorDiv) (rI CDivU fun i j => .int (i.fdiv j)) := opI fun _ _ _ _ _ _ _ hc q => floordiv_int hc.1 q (.inl (PyProof.noPylong_of_log2 hc.2))
end
theorem divU_of {i j : Int} {n : Nat} (h0 : j ≠ 0) (h : Sz n j) (hn : n ≤ 9000) : CDivU i j := by
  refine ⟨h0, ?_⟩
  have h1 : j.natAbs ≠ 0 := by omega
  rw [Nat.log2_lt h1]
  exact Nat.lt_of_lt_of_le h (Nat.pow_le_pow_right (by decide) hn)

/-- the mathematics: dividing by the signed common divisor -/
theorem frac_pos {p q : Int} (hq : 0 < q) : p.fdiv (Nat.gcd p.natAbs q.natAbs : Nat) = (Rat.divInt p q).num ∧ q.fdiv (Nat.gcd p.natAbs q.natAbs : Nat) = ((Rat.divInt p q).den : Int) := by
  have g0 : 0 < Nat.gcd p.natAbs q.natAbs := Nat.gcd_pos_of_pos_right _ (by omega)
  have eg : Int.gcd q p = Nat.gcd p.natAbs q.natAbs := by rw [Int.gcd_comm]; rfl
  constructor
  · rw [Rat.num_divInt, eg, Int.sign_eq_one_of_pos hq, Int.one_mul, Int.fdiv_eq_ediv_of_nonneg _ (by omega)]
  · rw [Rat.den_divInt, eg, if_neg (by omega), Int.fdiv_eq_ediv_of_nonneg _ (by omega)]
    rw [Int.natCast_ediv]
    congr 1
    omega
theorem frac_neg {p q : Int} (hq : q < 0) : p.fdiv (-(Nat.gcd p.natAbs q.natAbs : Nat)) = (Rat.divInt p q).num ∧ q.fdiv (-(Nat.gcd p.natAbs q.natAbs : Nat)) = ((Rat.divInt p q).den : Int) := by
  have h := @frac_pos (-p) (-q) (by omega)
  rw [Int.natAbs_neg, Int.natAbs_neg, Rat.neg_divInt_neg] at h
  have e1 : p.fdiv (-(Nat.gcd p.natAbs q.natAbs : Nat)) = (-p).fdiv (Nat.gcd p.natAbs q.natAbs : Nat) := by
    rw [← Int.neg_fdiv_neg, Int.neg_neg]
  have e2 : q.fdiv (-(Nat.gcd p.natAbs q.natAbs : Nat)) = (-q).fdiv (Nat.gcd p.natAbs q.natAbs : Nat) := by
    rw [← Int.neg_fdiv_neg, Int.neg_neg]
  rw [e1, e2]
  exact h
theorem gcd_sz {n : Nat} {p q : Int} (h : Sz n q) (hq : q ≠ 0) : Sz n (Nat.gcd p.natAbs q.natAbs : Nat) := by
  have : Nat.gcd p.natAbs q.natAbs ≤ q.natAbs := Nat.le_of_dvd (by omega) (Nat.gcd_dvd_right _ _)
  unfold Sz at *
  rw [Int.natAbs_natCast]
  omega
end Px

namespace Px
open PySem PySem.Spec PyProof.Rows L2

/-! ### what is never reached -/
section
variable {X : Cx} {e : Expr}
theorem pe_false : PE X e (fun _ _ _ => False) := ⟨fun _ _ _ _ _ _ no => no.elim⟩
theorem pt_false : PT X e (fun _ _ _ => False) := ⟨fun _ _ _ _ _ _ no => no.elim⟩
end
/-! ### a call with keywords alone -/
section
variable {X : Cx} {CX : CXT} {k : Nat} {f : Addr} {fd : FuncData} {ps ks : List Str} {sp : Sp} {E : XK} {x : Str} {p pos : Pos} {kws : List Keyword} {tk : TA} {g : List Value → List Value → List Value} {gV : List V → List V → List V}
theorem pe_callN0 (Fo : FnOk X.prog X.w X.K X.mg X.base CX k f fd ps sp) (room : Room k X.A) (glob : Gl X x) (at_ : X.mg x = some (.ref f)) (keep : PySem.W.keepIn X.K (.ref f) = true) (kb : KBn X.K fd ps 0 ks g gV)
    (px : Passes CX X E) (hw : PK X kws tk) (a1 : (backToKw pos (keywordEach kws X.env)).all (·.1.isSome) = true := by rfl) (a2 : (backToKw pos (keywordEach kws X.env)).filterMap (·.1) = ks := by rfl) (a3 : (x == ("__debug__" : Str)) = false := by decide)
    (a4 : ((backTo pos (starEach [] X.env)).any (·.1) || (backToKw pos (keywordEach kws X.env)).any (·.1.isNone)) = false := by rfl) : PE X (.Call (.Name x p) [] kws pos) (tCallN 0 ks.length sp gV E tNil tk) := by
  constructor; intro pins s σ H Q I h
  refine wpAny_Call_Name_kw (ld_glob I glob at_ (PySem.W.callWith_KW0 (h₀ := X.base) I.ok.mod.kin keep a1 (thn (hw.run pos pins s σ H _ I h) ?_) a4) a3)
  rintro ws s2 ⟨zs, H2, I2, rz, l1, l2, q2⟩
  rw [a2]
  exact ⟨I2.kIn, run_fnN (us := []) (vs := []) Fo room kb px I2 .nil rz rfl l2 q2⟩
end
theorem vals_getD {i : Nat} : ∀ {vs : List V} {us : List Value}, Vals vs us → ∀ i, L2.RelV (vs.getD i .non) (us.getD i .none)
  | _, _, .nil, i => by simp [L2.RelV]
  | _, _, .cons r t, 0 => by simpa using r
  | _, _, .cons r t, i + 1 => by simpa using vals_getD (i := i) t i
theorem vals_perm {vs : List V} {us : List Value} (r : Vals vs us) : ∀ perm : List Nat, Vals (perm.map fun i => vs.getD i .non) (perm.map fun i => us.getD i .none)
  | [] => .nil
  | i :: l => .cons (vals_getD (i := i) r i) (vals_perm r l)
def permV (perm : List Nat) : List V → List V → List V := fun vs zs => perm.map fun i => (vs ++ zs).getD i .non
def permU (perm : List Nat) : List Value → List Value → List Value := fun vs zs => perm.map fun i => (vs ++ zs).getD i .none
theorem kbn_of {K : PySem.W.Frag} {fd : FuncData} {ps ks : List Str} {n : Nat} (perm : List Nat) (h : ∀ us ws : List Value, us.length = n → ws.length = ks.length → bindArgs fd ⟨us, ks.zip ws⟩ = pure (ps.zip (permU perm us ws))) :
    KBn K fd ps n ks (permU perm) (permV perm) := ⟨fun _ us ws _ l1 l2 => .of_eq (h us ws l1 l2), fun r1 r2 => vals_perm (r1.append r2) perm⟩

/-! ### promises -/
def spF (K : PySem.W.Frag) {α : Type} (enc : α → List D) (pre : α → Prop) (f : α → D) : Sp := spT K enc pre fun x d => d = f x
section
variable {K : PySem.W.Frag} {G : Bg} {H : Hp} {σ : L2.St} {te ta tb : TE} {Q : VK} {D' : Ends} {t u : TS} {M : Addr → Prop}
theorem k_spF {α : Type} {enc : α → List D} {pre : α → Prop} {f : α → D} {vs : List V} {E : XK} (x : α) (hB : G.B H) (r : Reps K G.M H (enc x) vs) (hp : pre x)
    (q : ∀ v H', Rep K G.M H' (f x) v → Same H H' → G.B H' → Q v H') : spF K enc pre f vs H Q E := ⟨G, x, hB, r, hp, fun d v H' e r' s b => q v H' (e ▸ r') s b⟩
theorem k_opX {r : R2} (q : ta σ H fun x H1 => tb σ H1 fun y H2 => r x y H2 Q) : tOp r ta tb σ H Q := q
theorem k_callN {n m : Nat} {sp : Sp} {gV : List V → List V → List V} {E : XK} {t tk : TA} (q : t σ H fun vs H1 => tk σ H1 fun zs H2 => vs.length = n ∧ zs.length = m ∧ sp (gV vs zs) H2 Q E) : tCallN n m sp gV E t tk σ H Q := q
theorem f_op0 {g : Int → Int → V} {i j : Int} (q : Q (g i j) H) : rI0 g (.int i) (.int j) H Q := ⟨i, j, rfl, rfl, q⟩
theorem f_op {C : Int → Int → Prop} {g : Int → Int → V} {i j : Int} (c : C i j) (q : Q (g i j) H) : rI C g (.int i) (.int j) H Q := ⟨i, j, rfl, rfl, c, q⟩
theorem f_opB {g : Int → Int → Bool} {i j : Int} (q : Q (.bl (g i j)) H) : rI0 (fun i j => .bl (g i j)) (.int i) (.int j) H Q := ⟨i, j, rfl, rfl, q⟩
theorem dec_int (i j : Int) : decide (V.int i = V.int j) = decide (i = j) := by
  by_cases e : i = j
  · subst e; simp
  · rw [decide_eq_false e, decide_eq_false fun z => e (V.int.inj z)]
theorem dec_str (i j : Str) : decide (V.str i = V.str j) = decide (i = j) := by
  by_cases e : i = j
  · subst e; simp
  · rw [decide_eq_false e, decide_eq_false fun z => e (V.str.inj z)]
theorem f_eqI {i j : Int} (q : Q (.bl (decide (i = j))) H) : rEq (.int i) (.int j) H Q := ⟨rfl, by rw [dec_int]; exact q⟩
theorem f_neI {i j : Int} (q : Q (.bl (!decide (i = j))) H) : rNe (.int i) (.int j) H Q := ⟨rfl, by rw [dec_int]; exact q⟩
theorem f_eqS {i j : Str} (q : Q (.bl (decide (i = j))) H) : rEq (.str i) (.str j) H Q := ⟨rfl, by rw [dec_str]; exact q⟩
theorem f_neS {i j : Str} (q : Q (.bl (!decide (i = j))) H) : rNe (.str i) (.str j) H Q := ⟨rfl, by rw [dec_str]; exact q⟩
theorem v_eqI {i j : Int} (ha : Val ta σ H (.int i)) (hb : Val tb σ H (.int j)) : Val (tOp rEq ta tb) σ H (.bl (decide (i = j))) := fun _ q => ha _ (hb _ (f_eqI q))
theorem v_neI {i j : Int} (ha : Val ta σ H (.int i)) (hb : Val tb σ H (.int j)) : Val (tOp rNe ta tb) σ H (.bl (!decide (i = j))) := fun _ q => ha _ (hb _ (f_neI q))
theorem v_eqS {i j : Str} (ha : Val ta σ H (.str i)) (hb : Val tb σ H (.str j)) : Val (tOp rEq ta tb) σ H (.bl (decide (i = j))) := fun _ q => ha _ (hb _ (f_eqS q))
theorem v_neS {i j : Str} (ha : Val ta σ H (.str i)) (hb : Val tb σ H (.str j)) : Val (tOp rNe ta tb) σ H (.bl (!decide (i = j))) := fun _ q => ha _ (hb _ (f_neS q))
theorem v_eqSt {i j : Str} (ha : Val ta σ H (.str i)) (hb : Val tb σ H (.str j)) (e : i = j := by decide +kernel) : Val (tOp rEq ta tb) σ H (.bl true) := by
  have h := v_eqS ha hb
  rwa [decide_eq_true e] at h
theorem v_eqSf {i j : Str} (ha : Val ta σ H (.str i)) (hb : Val tb σ H (.str j)) (e : i ≠ j := by decide +kernel) : Val (tOp rEq ta tb) σ H (.bl false) := by
  have h := v_eqS ha hb
  rwa [decide_eq_false e] at h
theorem v_neSt {i j : Str} (ha : Val ta σ H (.str i)) (hb : Val tb σ H (.str j)) (e : i ≠ j := by decide +kernel) : Val (tOp rNe ta tb) σ H (.bl true) := by
  have h := v_neS ha hb
  rwa [decide_eq_false e] at h
theorem v_neSf {i j : Str} (ha : Val ta σ H (.str i)) (hb : Val tb σ H (.str j)) (e : i = j := by decide +kernel) : Val (tOp rNe ta tb) σ H (.bl false) := by
  have h := v_neS ha hb
  rwa [decide_eq_true e] at h
theorem v_eqIt {i j : Int} (ha : Val ta σ H (.int i)) (hb : Val tb σ H (.int j)) (e : i = j := by decide) : Val (tOp rEq ta tb) σ H (.bl true) := by
  have h := v_eqI ha hb
  rwa [decide_eq_true e] at h
theorem v_eqIf {i j : Int} (ha : Val ta σ H (.int i)) (hb : Val tb σ H (.int j)) (e : i ≠ j := by decide) : Val (tOp rEq ta tb) σ H (.bl false) := by
  have h := v_eqI ha hb
  rwa [decide_eq_false e] at h
theorem v_opBt {g : Int → Int → Bool} {i j : Int} (ha : Val ta σ H (.int i)) (hb : Val tb σ H (.int j)) (e : g i j = true := by decide) : Val (tOp (rI0 fun i j => .bl (g i j)) ta tb) σ H (.bl true) := fun Z q => ha _ (hb _ ⟨i, j, rfl, rfl, (show Z (V.bl (g i j)) H by rw [e]; exact q)⟩)
theorem v_opBf {g : Int → Int → Bool} {i j : Int} (ha : Val ta σ H (.int i)) (hb : Val tb σ H (.int j)) (e : g i j = false := by decide) : Val (tOp (rI0 fun i j => .bl (g i j)) ta tb) σ H (.bl false) := fun Z q => ha _ (hb _ ⟨i, j, rfl, rfl, (show Z (V.bl (g i j)) H by rw [e]; exact q)⟩)
theorem f_eqSt {i j : Str} (q : Q (.bl true) H) (e : i = j := by decide +kernel) : rEq (.str i) (.str j) H Q := f_eqS (by rw [decide_eq_true e]; exact q)
theorem f_eqSf {i j : Str} (q : Q (.bl false) H) (e : i ≠ j := by decide +kernel) : rEq (.str i) (.str j) H Q := f_eqS (by rw [decide_eq_false e]; exact q)
theorem f_eqIt {i j : Int} (q : Q (.bl true) H) (e : i = j := by decide) : rEq (.int i) (.int j) H Q := f_eqI (by rw [decide_eq_true e]; exact q)
theorem f_eqIf {i j : Int} (q : Q (.bl false) H) (e : i ≠ j := by decide) : rEq (.int i) (.int j) H Q := f_eqI (by rw [decide_eq_false e]; exact q)
theorem k_ifE {c : TT} (q : c σ H fun b H1 => if b = true then ta σ H1 Q else tb σ H1 Q) : tIf c ta tb σ H Q := q
theorem f_ixT {ds : List D} {v : V} {k : Nat} {d : D} (r : Rep K M H (.tup ds) v) (e : ds[k]? = some d) (q : ∀ w, Rep K M H d w → Q w H) : rIxT K v (.int (k : Int)) H Q := by
  obtain ⟨a, xs, rfl, h, rs⟩ := tup_of r
  obtain ⟨w, e1, e2⟩ := rs.at e
  exact ⟨a, xs, _, w, rfl, rfl, h, atI_nat e1, q w e2⟩
theorem f_ixL {ds : List D} {v : V} {k : Nat} {d : D} (r : Rep K M H (.lst ds) v) (e : ds[k]? = some d) (q : ∀ w, Rep K M H d w → Q w H) : rIxL K v (.int (k : Int)) H Q := by
  obtain ⟨a, xs, rfl, _, h, rs⟩ := lst_of r
  obtain ⟨w, e1, e2⟩ := rs.at e
  exact ⟨a, xs, _, w, rfl, rfl, .inl h, atI_nat e1, q w e2⟩
theorem v_ixI {ds : List D} {v : V} {k : Nat} {i : Int} (ha : Val ta σ H v) (r : Rep K M H (.tup ds) v) (hb : Val tb σ H (.int (k : Int))) (e : ds[k]? = some (.int i)) : Val (tOp (rIxT K) ta tb) σ H (.int i) :=
  fun _ q => ha _ (hb _ (f_ixT r e fun w hw => by rw [int_of hw]; exact q))
theorem v_ixB {ds : List D} {v : V} {k : Nat} {i : Bool} (ha : Val ta σ H v) (r : Rep K M H (.tup ds) v) (hb : Val tb σ H (.int (k : Int))) (e : ds[k]? = some (.bl i)) : Val (tOp (rIxT K) ta tb) σ H (.bl i) :=
  fun _ q => ha _ (hb _ (f_ixT r e fun w hw => by rw [bl_of hw]; exact q))
theorem v_ixS {ds : List D} {v : V} {k : Nat} {i : Str} (ha : Val ta σ H v) (r : Rep K M H (.tup ds) v) (hb : Val tb σ H (.int (k : Int))) (e : ds[k]? = some (.str i)) : Val (tOp (rIxT K) ta tb) σ H (.str i) :=
  fun _ q => ha _ (hb _ (f_ixT r e fun w hw => by rw [str_of hw]; exact q))
def rAbs : List V → Hp → VK → Prop := fun xs H Q => ∃ i, xs = [.int i] ∧ Q (.int (if i < 0 then -i else i)) H
def rInt : List V → Hp → VK → Prop := fun xs H Q => (∃ i, xs = [.int i] ∧ Q (.int i) H) ∨ ∃ k, xs = [.bl k] ∧ Q (.int (if k then 1 else 0)) H
theorem abs_eq (i : Int) : (if i < 0 then -i else i) = ((i.natAbs : Nat) : Int) := by
  split <;> omega
theorem v_abs {i : Int} (h : Val ta σ H (.int i)) : Val (tCB rAbs (tCons ta tNil)) σ H (.int ((i.natAbs : Nat) : Int)) := fun _ q => h _ ⟨i, rfl, by rw [abs_eq]; exact q⟩
theorem v_int {i : Int} (h : Val ta σ H (.int i)) : Val (tCB rInt (tCons ta tNil)) σ H (.int i) := fun _ q => h _ (.inl ⟨i, rfl, q⟩)
theorem v_intB {i : Bool} (h : Val ta σ H (.bl i)) : Val (tCB rInt (tCons ta tNil)) σ H (.int (b2i i)) := fun _ q => h _ (.inr ⟨i, rfl, by cases i <;> exact q⟩)
theorem f_abs {i : Int} (q : Q (.int ((i.natAbs : Nat) : Int)) H) : rAbs [.int i] H Q := ⟨i, rfl, by rw [abs_eq]; exact q⟩
theorem f_int {i : Int} (q : Q (.int i) H) : rInt [.int i] H Q := .inl ⟨i, rfl, q⟩
/-! tests, statements -/
theorem k_B {Q : Bool → Hp → Prop} (q : te σ H fun x H1 => ∃ c, x = .bl c ∧ Q c H1) : tB te σ H Q := q
theorem k_T {Q : Bool → Hp → Prop} (q : te σ H fun x H1 => ∃ c, x = .bl c ∧ Q c H1) : tTest te σ H Q := q
theorem k_not {t : TT} {Q : Bool → Hp → Prop} (q : t σ H fun c H1 => Q (!c) H1) : tNot t σ H Q := q
theorem k_and {t u : TT} {Q : Bool → Hp → Prop} (q : t σ H fun c H1 => if c = true then u σ H1 Q else Q false H1) : tAnd t u σ H Q := q
theorem k_or {t u : TT} {Q : Bool → Hp → Prop} (q : t σ H fun c H1 => if c = true then Q true H1 else u σ H1 Q) : tOr t u σ H Q := q
theorem k_ifX {c : TT} (q : c σ H fun b H1 => if b = true then t D' σ H1 else u D' σ H1) : tIfS c t u D' σ H := q
theorem k_ite {b : Bool} {A B : Prop} (h1 : b = true → A) (h2 : b = false → B) : if b = true then A else B := by
  cases b with
  | true => rw [if_pos rfl]; exact h1 rfl
  | false => rw [if_neg Bool.false_ne_true]; exact h2 rfl
theorem k_retN (h : D'.rt .non H) : tRetN D' σ H := h
end
/-! ### sizes -/
theorem cmul {a b : Nat} {i j : Int} (h : Sz a i) (k : Sz b j) (l : a + b ≤ 900000) : CMulW i j := wide_mul (h.mono (Nat.le_succ a)) (k.mono (Nat.le_succ b)) (by omega) (by omega) (by omega)
theorem sz_lit (n : Nat) (i : Int) (h : i.natAbs < 2 ^ n := by decide) : Sz n i := h
theorem sz_abs {n : Nat} {i : Int} (h : Sz n i) : Sz n ((i.natAbs : Nat) : Int) := by unfold Sz at *; rwa [Int.natAbs_natCast]
theorem sz_b2i (b : Bool) : Sz 1 (b2i b) := by cases b <;> (unfold Sz; decide)
theorem divInt_sz {n : Nat} {p q : Int} (hp : Sz n p) (hq : Sz n q) (h0 : q ≠ 0) : SzR n (Rat.divInt p q) := by
  have g0 : 0 < Int.gcd q p := Int.gcd_pos_of_ne_zero_left p h0
  constructor
  · rw [Rat.num_divInt]
    unfold Sz at *
    have h1 : (q.sign * p / (Int.gcd q p : Int)).natAbs ≤ (q.sign * p).natAbs := by
      rw [Int.natAbs_ediv_of_dvd]
      · exact Nat.div_le_self _ _
      · exact Int.dvd_mul_of_dvd_right (Int.gcd_dvd_right ..)
    rw [Int.natAbs_mul, Int.natAbs_sign_of_ne_zero h0, Nat.one_mul] at h1
    omega
  · rw [Rat.den_divInt, if_neg h0]
    unfold Sz at *
    rw [Int.natAbs_natCast]
    exact Nat.lt_of_le_of_lt (Nat.div_le_self _ _) hq
theorem den_ne (x : Rat) : ((x.den : Nat) : Int) ≠ 0 := by have := x.den_nz; omega
theorem rat_eq (x : Rat) : x = Rat.divInt x.num x.den := (Rat.num_divInt_den x).symm
theorem add_eq (x y : Rat) : x + y = Rat.divInt (x.num * y.den + y.num * x.den) (x.den * y.den) := by
  conv => lhs; rw [rat_eq x, rat_eq y, Rat.divInt_add_divInt _ _ (den_ne x) (den_ne y)]
theorem mul_eq (x y : Rat) : x * y = Rat.divInt (x.num * y.num) (x.den * y.den) := by
  conv => lhs; rw [rat_eq x, rat_eq y, Rat.divInt_mul_divInt]
theorem div_eq (x y : Rat) : x / y = Rat.divInt (x.num * y.den) (x.den * y.num) := by
  rw [Rat.div_def]
  conv => lhs; rw [rat_eq x, rat_eq y, Rat.inv_divInt, Rat.divInt_mul_divInt]
theorem den_mul_ne (x y : Rat) : ((x.den : Nat) : Int) * (y.den : Int) ≠ 0 := Int.mul_ne_zero (den_ne x) (den_ne y)
theorem SzR.mono {a b : Nat} {x : Rat} (h : SzR a x) (l : a ≤ b) : SzR b x := ⟨h.1.mono l, h.2.mono l⟩
theorem szr_add {a b n : Nat} {x y : Rat} (h : SzR a x) (k : SzR b y) (l : a + b + 1 ≤ n) : SzR n (x + y) := by
  rw [add_eq]
  exact divInt_sz (((h.1.mul k.2).add (k.1.mul h.2)).mono (by omega)) ((h.2.mul k.2).mono (by omega)) (den_mul_ne x y)
theorem szr_lit (n : Nat) (x : Rat) (h : (decide (x.num.natAbs < 2 ^ n) && decide (x.den < 2 ^ n)) = true := by decide +kernel) : SzR n x := by
  simp only [Bool.and_eq_true, decide_eq_true_eq] at h
  exact ⟨h.1, by unfold Sz; rw [Int.natAbs_natCast]; exact h.2⟩
theorem szr_neg {a : Nat} {x : Rat} (h : SzR a x) : SzR a (-x) := ⟨by rw [Rat.neg_num]; exact h.1.neg, by rw [Rat.neg_den]; exact h.2⟩
theorem szr_sub {a b n : Nat} {x y : Rat} (h : SzR a x) (k : SzR b y) (l : a + b + 1 ≤ n) : SzR n (x - y) := by
  rw [Rat.sub_eq_add_neg]; exact szr_add h (szr_neg k) l
theorem szr_mul {a b n : Nat} {x y : Rat} (h : SzR a x) (k : SzR b y) (l : a + b ≤ n) : SzR n (x * y) := by
  rw [mul_eq]
  exact divInt_sz ((h.1.mul k.1).mono l) ((h.2.mul k.2).mono l) (den_mul_ne x y)
theorem num_ne {y : Rat} (h : y ≠ 0) : y.num ≠ 0 := fun e => h (Rat.num_eq_zero.mp e)
theorem szr_div {a b n : Nat} {x y : Rat} (h : SzR a x) (k : SzR b y) (h0 : y ≠ 0) (l : a + b ≤ n) : SzR n (x / y) := by
  rw [div_eq]
  exact divInt_sz ((h.1.mul k.2).mono l) ((h.2.mul k.1).mono l) (Int.mul_ne_zero (den_ne x) (num_ne h0))
theorem is_fr (x : Rat) : (decide ((0 : Int) < (x.den : Int)) && decide (((Nat.gcd x.num.natAbs (x.den : Int).natAbs : Nat) : Int) = (1 : Int))) = true := by
  have h1 : (0 : Int) < (x.den : Int) := by have := x.den_nz; omega
  have h2 : Nat.gcd x.num.natAbs (x.den : Int).natAbs = 1 := by rw [Int.natAbs_natCast]; exact x.reduced
  rw [decide_eq_true h1, h2]; rfl
end Px

namespace Px
open PySem PySem.Spec PyProof.Rows L2

/-! ### a list that is being made -/
/-- nothing changes -/
def noM : Addr → Prop := fun _ => False
theorem same_of {H H' : Hp} (e : Ex noM H H') : Same H H' := fun a o h => e a o h fun z => z
theorem ex_of {M : Addr → Prop} {H H' : Hp} (e : Same H H') : Ex M H H' := Ex.of e
theorem Ex.imp {M M' : Addr → Prop} {H H' : Hp} (e : Ex M H H') (h : ∀ a, M a → M' a) : Ex M' H H' := fun a o q n => e a o q fun z => n (h a z)
def Bg.plus (G : Bg) (d : Addr) : Bg where
  M := fun a => G.M a ∨ a = d
  B := fun H => G.B H ∧ ∃ xs, H d = some (.lst xs)
  isl := fun H a b m => by
    rcases m with m | rfl
    · exact G.isl H a b.1 m
    · obtain ⟨_, xs, h⟩ := b
      exact .inl ⟨xs, h⟩
  st := fun H H' b s => ⟨G.st H H' b.1 s, let ⟨xs, h⟩ := b.2; ⟨xs, s _ _ h⟩⟩
  fr := fun H e b n H1 H2 b1 el x => ⟨G.fr H e b.1 n H1 H2 b1.1 el x, by
    obtain ⟨xs, h⟩ := b.2
    obtain ⟨ys, h1⟩ := b1.2
    exact ⟨ys, x _ _ h1 fun z => by subst z; rw [n] at h; cases h⟩⟩
section
variable {K : PySem.W.Frag} {G : Bg} {H H' : Hp} {M M' : Addr → Prop}
mutual
theorem Rep.widen (h : ∀ a o, H a = some o → M' a → M a) : ∀ {d : D} {v : V}, Rep K M H d v → Rep K M' H d v
  | .non, _, r => by unfold Rep at *; exact r
  | .bl _, _, r => by unfold Rep at *; exact r
  | .int _, _, r => by unfold Rep at *; exact r
  | .str _, _, r => by unfold Rep at *; exact r
  | .tup ds, v, r => by
    unfold Rep at *
    obtain ⟨a, xs, e1, e2, e3⟩ := r
    exact ⟨a, xs, e1, e2, Reps.widen h e3⟩
  | .lst ds, v, r => by
    unfold Rep at *
    obtain ⟨a, xs, e1, n, e2, e3⟩ := r
    have t : ∃ o, H a = some o := by
      rcases e2 with e | ⟨o, e⟩
      · exact ⟨_, e⟩
      · exact ⟨_, e⟩
    exact ⟨a, xs, e1, fun z => n (h _ _ t.choose_spec z), e2, Reps.widen h e3⟩
  | .ins C ns ds, v, r => by
    unfold Rep at *
    obtain ⟨a, dx, fs, e1, n, e2, e3, e4⟩ := r
    exact ⟨a, dx, fs, e1, fun z => n (h _ _ e2 z), e2, e3, Reps.widen h e4⟩
theorem Reps.widen (h : ∀ a o, H a = some o → M' a → M a) : ∀ {ds : List D} {xs : List V}, Reps K M H ds xs → Reps K M' H ds xs
  | [], _, r => by unfold Reps at *; exact r
  | d :: ds, xs, r => by
    unfold Reps at *
    obtain ⟨v, t, e1, e2, e3⟩ := r
    exact ⟨v, t, e1, Rep.widen h e2, Reps.widen h e3⟩
end
/-- a fact of before, within the making of the list at d -/
theorem Rep.enter {d : Addr} {x : D} {v : V} (hB : G.B H) (nd : H d = none) (r : Rep K G.M H x v) : Rep K (G.plus d).M (upd H d (.lst [])) x v := by
  have r1 : Rep K (G.plus d).M H x v := r.widen fun a o e m => by
    rcases m with m | rfl
    · exact m
    · rw [nd] at e; cases e
  refine r1.upC (fun a xs m h => ?_) (Ex.of (same_upd nd))
  rcases m with m | rfl
  · exact Bg.nt hB a xs m h
  · rcases h with h | ⟨o, h⟩ <;> (rw [nd] at h; cases h)
end
/-! ### comprehensions -/
section
variable {K : PySem.W.Frag} {G : Bg} {H : Hp} {σ : L2.St} {te : TE} {Q : VK} {W : Addr → Prop}
/-- what holds while the list at d is being made -/
structure Mk1 (K : PySem.W.Frag) (G : Bg) (W : Addr → Prop) (H : Hp) (P : Nat → D → Prop) (d : Addr) (i : Nat) (H' : Hp) : Prop where
  a : ∃ acc ds, H' d = some (.lst acc) ∧ Reps K (G.plus d).M H' ds acc ∧ ds.length = i ∧ ∀ k x, ds[k]? = some x → P k x
  e : Ex W H H'
  b : G.B H'
theorem Mk1.start {P : Nat → D → Prop} {d : Addr} (hB : G.B H) (nd : H d = none) : Mk1 K G W H P d 0 (upd H d (.lst [])) :=
  ⟨⟨[], [], upd_same, rnil, rfl, fun k x h => by simp at h⟩, Ex.of (same_upd nd), G.st _ _ hB (same_upd nd)⟩
theorem Mk1.bp {P : Nat → D → Prop} {d : Addr} {i : Nat} {H' : Hp} (m : Mk1 K G W H P d i H') : (G.plus d).B H' := ⟨m.b, let ⟨acc, _, h, _⟩ := m.a; ⟨acc, h⟩⟩
theorem Mk1.ep {P : Nat → D → Prop} {d : Addr} {i : Nat} {H' : Hp} (hW : ∀ a, W a → G.M a) (nd : H d = none) (m : Mk1 K G W H P d i H') : Ex (G.plus d).M (upd H d (.lst [])) H' := fun a o h n => by
  have n1 : a ≠ d := fun z => n (.inr z)
  rw [upd_ne n1] at h
  exact m.e a o h fun z => n (.inl (hW a z))
theorem Mk1.step {P : Nat → D → Prop} {d : Addr} {i : Nat} {H' H4 : Hp} {x : D} {v : V} (hW : ∀ a, W a → G.M a) (hB : G.B H) (nd : H d = none) (hi : i < 1000) (m : Mk1 K G W H P d i H') (hp : P i x) (r : Rep K (G.plus d).M H4 x v) (e : Ex W H' H4) (b : (G.plus d).B H4) :
    ∃ acc, H4 d = some (.lst acc) ∧ acc.length < sizeLine ∧ Mk1 K G W H P d (i + 1) (upd H4 d (.lst (acc ++ [v]))) := by
  obtain ⟨acc, ds, h1, h2, h3, h4⟩ := m.a
  have nW : ¬ W d := fun z => by
    rcases G.isl H d hB (hW d z) with ⟨ys, hy⟩ | ⟨C, dx, fs, hy⟩ | ⟨tb, hy⟩ <;> (rw [nd] at hy; cases hy)
  have g1 : H4 d = some (.lst acc) := e _ _ h1 nW
  have hl : acc.length = i := by rw [h2.len, h3]
  have ch : Ex (fun a => a = d) H4 (upd H4 d (.lst (acc ++ [v]))) := fun a o h n => by rw [upd_ne n]; exact h
  have chp : Ex (G.plus d).M H4 (upd H4 d (.lst (acc ++ [v]))) := ch.imp fun a z => .inr z
  have eW : Ex (G.plus d).M H' H4 := e.imp fun a z => .inl (hW a z)
  refine ⟨acc, g1, by rw [hl]; exact Nat.lt_of_lt_of_le hi (by decide), ⟨⟨acc ++ [v], ds ++ [x], upd_same, ?_, by simp [h3], fun k y hk => ?_⟩, fun a o h n => ?_, G.fr H d hB nd _ _ b.1 ⟨_, g1⟩ ch⟩⟩
  · have r1 := (h2.up m.bp eW).up b chp
    have r2 := r.up b chp
    exact r1.snoc r2
  · by_cases hk1 : k < ds.length
    · rw [List.getElem?_append_left hk1] at hk
      exact h4 k y hk
    · rw [List.getElem?_append_right (by omega)] at hk
      cases q : k - ds.length with
      | zero =>
        rw [q] at hk
        have : k = i := by omega
        cases hk
        rw [this]
        exact hp
      | succ j => rw [q] at hk; simp at hk
  · have n1 : a ≠ d := ne_of_none h nd
    rw [upd_ne n1]
    exact e _ _ (m.e a o h n) n
theorem Mk1.done {P : Nat → D → Prop} {d : Addr} {n : Nat} {H' : Hp} (hB : G.B H) (nd : H d = none) (m : Mk1 K G W H P d n H') :
    ∃ ds, ds.length = n ∧ (∀ k x, ds[k]? = some x → P k x) ∧ Rep K G.M H' (.lst ds) (.ref d) ∧ Ex W H H' ∧ G.B H' := by
  obtain ⟨acc, ds, h1, h2, h3, h4⟩ := m.a
  have nm : ¬ G.M d := fun z => by
    rcases G.isl H d hB z with ⟨ys, hy⟩ | ⟨C, dx, fs, hy⟩ | ⟨tb, hy⟩ <;> (rw [nd] at hy; cases hy)
  exact ⟨ds, h3, h4, rlst nm (.inl h1) (h2.widen fun a o e z => .inl z), m.e, m.b⟩
/-- [e for j in range(n)] -/
theorem k_lcR {n j : Nat} {vs : List Nat} (W : Addr → Prop) (hW : ∀ a, W a → G.M a) (hn : n ≤ 1000) (hB : G.B H) (P : Nat → D → Prop) (hw : ∀ x, wipe ((wipe σ vs).set j (some x)) vs = wipe σ vs)
    (body : ∀ d i H', i < n → H d = none → (G.plus d).B H' → Ex (G.plus d).M (upd H d (.lst [])) H' → ∀ Q' : VK, (∀ x v H4, P i x → Rep K (G.plus d).M H4 x v → Ex W H' H4 → (G.plus d).B H4 → Q' v H4) → te ((wipe σ vs).set j (some (.int (i : Int)))) H' Q')
    (fin : ∀ ds v H', ds.length = n → (∀ k x, ds[k]? = some x → P k x) → Rep K G.M H' (.lst ds) v → Ex W H H' → G.B H' → Q v H') {z : Int} (hz : z = (n : Int)) :
    ∃ i : Int, [V.int z] = [V.int i] ∧ -(2 ^ 62) ≤ i ∧ i < 2 ^ 62 ∧ (∀ D, H D = none → ∃ Wi : Nat → Nat → Hp → Prop, (∃ m, Wi 0 m (upd H D (.lst []))) ∧ ∀ i' m H, Wi i' m H →
      ((Itr 0 i.toNat).stop i' H ∧ Q (.ref D) H) ∨ ((Itr 0 i.toNat).go i' H ∧ ∃ Nx : Hp → Prop, (∀ H', Nx H' → ∃ m', m' < m ∧ Wi (i' + 1) m' H') ∧ ∀ x H', (Itr 0 i.toNat).yld i' H x H' → gName j x (wipe σ vs) H' fun σ2 H2 => wipe σ2 vs = wipe σ vs ∧ tYes σ2 H2 fun b H3 =>
        if b = true then te σ2 H3 fun y H4 => ∃ acc, H4 D = some (.lst acc) ∧ acc.length < sizeLine ∧ Nx (upd H4 D (.lst (acc ++ [y]))) else Nx H3)) := by
  subst hz
  refine ⟨(n : Int), rfl, by omega, by omega, fun d nd => ?_⟩
  have e : ((n : Int)).toNat = n := by omega
  rw [e]
  refine lc_range (lo := 0) (n := n) (fun i H' => Mk1 K G W H P d i H') (Mk1.start hB nd) (fun i H' hi m => ?_) (fun H' m => ?_)
  · refine ⟨hw _, ?_⟩
    show (if true = true then _ else Mk1 K G W H P d (i + 1) H')
    rw [if_pos rfl]
    rw [show (0 : Int) + (i : Int) = (i : Int) by omega]
    exact body d i H' hi nd m.bp (m.ep hW nd) _ fun x v H4 hp r ex b => m.step hW hB nd (by omega) hp r ex b
  · obtain ⟨ds, a1, a2, a3, a4, a5⟩ := m.done hB nd
    exact fin ds _ H' a1 a2 a3 a4 a5
/-- [e for j in xs], xs a list -/
theorem k_lcL {j : Nat} {vs : List Nat} {ds0 : List D} {v0 : V} (W : Addr → Prop) (hW : ∀ a, W a → G.M a) (hn : ds0.length ≤ 1000) (hB : G.B H) (r0 : Rep K G.M H (.lst ds0) v0) (P : Nat → D → Prop) (hw : ∀ x, wipe ((wipe σ vs).set j (some x)) vs = wipe σ vs)
    (body : ∀ d i x0 w0 H', ds0[i]? = some x0 → H d = none → (G.plus d).B H' → Ex (G.plus d).M (upd H d (.lst [])) H' → Rep K (G.plus d).M H' x0 w0 → ∀ Q' : VK, (∀ x v H4, P i x → Rep K (G.plus d).M H4 x v → Ex W H' H4 → (G.plus d).B H4 → Q' v H4) → te ((wipe σ vs).set j (some w0)) H' Q')
    (fin : ∀ ds v H', ds.length = ds0.length → (∀ k x, ds[k]? = some x → P k x) → Rep K G.M H' (.lst ds) v → Ex W H H' → G.B H' → Q v H') :
    ∃ a, v0 = .ref a ∧ (∃ xs, SqL K H a xs) ∧ (∀ D, H D = none → ∃ Wi : Nat → Nat → Hp → Prop, (∃ m, Wi 0 m (upd H D (.lst []))) ∧ ∀ i' m H, Wi i' m H →
      ((Itl K a).stop i' H ∧ Q (.ref D) H) ∨ ((Itl K a).go i' H ∧ ∃ Nx : Hp → Prop, (∀ H', Nx H' → ∃ m', m' < m ∧ Wi (i' + 1) m' H') ∧ ∀ x H', (Itl K a).yld i' H x H' → gName j x (wipe σ vs) H' fun σ2 H2 => wipe σ2 vs = wipe σ vs ∧ tYes σ2 H2 fun b H3 =>
        if b = true then te σ2 H3 fun y H4 => ∃ acc, H4 D = some (.lst acc) ∧ acc.length < sizeLine ∧ Nx (upd H4 D (.lst (acc ++ [y]))) else Nx H3)) := by
  obtain ⟨a, xs, rfl, nM, hr, rs⟩ := lst_of r0
  have sq : SqL K H a xs := .inl hr
  refine ⟨a, rfl, ⟨xs, sq⟩, fun d nd => ?_⟩
  refine lc_list (K := K) (a := a) (xs := xs) (fun i H' => Mk1 K G W H P d i H') (Mk1.start hB nd) (fun i H' _ m => ?_) (fun i w H' hi m => ?_) (fun H' m => ?_)
  · exact .inl (rd_up (fun z => nM (hW a z)) m.e hr)
  · have hil : i < ds0.length := by
      rw [← rs.len]
      exact (List.getElem?_eq_some_iff.mp hi).1
    obtain ⟨w', e1, e2⟩ := rs.at (List.getElem?_eq_getElem hil)
    rw [hi] at e1
    cases e1
    have e3 := (e2.enter hB nd).upC (Bg.nt (Mk1.bp (K := K) (W := W) (P := P) (Mk1.start hB nd))) (m.ep hW nd)
    refine ⟨hw _, ?_⟩
    show (if true = true then _ else Mk1 K G W H P d (i + 1) H')
    rw [if_pos rfl]
    exact body d i _ w H' (List.getElem?_eq_getElem hil) nd m.bp (m.ep hW nd) e3 _ fun x v H4 hp r ex b => m.step hW hB nd (by omega) hp r ex b
  · have hl := rs.len
    rw [hl] at m
    obtain ⟨ds, a1, a2, a3, a4, a5⟩ := m.done hB nd
    exact fin ds _ H' a1 a2 a3 a4 a5
/-- [e for j in xs], xs a tuple -/
theorem k_lcT {j : Nat} {vs : List Nat} {ds0 : List D} {v0 : V} (W : Addr → Prop) (hW : ∀ a, W a → G.M a) (hn : ds0.length ≤ 1000) (hB : G.B H) (r0 : Rep K G.M H (.tup ds0) v0) (P : Nat → D → Prop) (hw : ∀ x, wipe ((wipe σ vs).set j (some x)) vs = wipe σ vs)
    (body : ∀ d i x0 w0 H', ds0[i]? = some x0 → H d = none → (G.plus d).B H' → Ex (G.plus d).M (upd H d (.lst [])) H' → Rep K (G.plus d).M H' x0 w0 → ∀ Q' : VK, (∀ x v H4, P i x → Rep K (G.plus d).M H4 x v → Ex W H' H4 → (G.plus d).B H4 → Q' v H4) → te ((wipe σ vs).set j (some w0)) H' Q')
    (fin : ∀ ds v H', ds.length = ds0.length → (∀ k x, ds[k]? = some x → P k x) → Rep K G.M H' (.lst ds) v → Ex W H H' → G.B H' → Q v H') :
    ∃ a, v0 = .ref a ∧ (∃ xs, SqT K H a xs) ∧ (∀ D, H D = none → ∃ Wi : Nat → Nat → Hp → Prop, (∃ m, Wi 0 m (upd H D (.lst []))) ∧ ∀ i' m H, Wi i' m H →
      ((Itt K a).stop i' H ∧ Q (.ref D) H) ∨ ((Itt K a).go i' H ∧ ∃ Nx : Hp → Prop, (∀ H', Nx H' → ∃ m', m' < m ∧ Wi (i' + 1) m' H') ∧ ∀ x H', (Itt K a).yld i' H x H' → gName j x (wipe σ vs) H' fun σ2 H2 => wipe σ2 vs = wipe σ vs ∧ tYes σ2 H2 fun b H3 =>
        if b = true then te σ2 H3 fun y H4 => ∃ acc, H4 D = some (.lst acc) ∧ acc.length < sizeLine ∧ Nx (upd H4 D (.lst (acc ++ [y]))) else Nx H3)) := by
  obtain ⟨a, xs, rfl, sq, rs⟩ := tup_of r0
  refine ⟨a, rfl, ⟨xs, sq⟩, fun d nd => ?_⟩
  refine lc_tup (K := K) (a := a) (xs := xs) (fun i H' => Mk1 K G W H P d i H') (Mk1.start hB nd) (fun i H' _ m => ?_) (fun i w H' hi m => ?_) (fun H' m => ?_)
  · exact sqT_upC (fun b ys z => Bg.nt hB b ys (hW b z)) m.e sq
  · have hil : i < ds0.length := by
      rw [← rs.len]
      exact (List.getElem?_eq_some_iff.mp hi).1
    obtain ⟨w', e1, e2⟩ := rs.at (List.getElem?_eq_getElem hil)
    rw [hi] at e1
    cases e1
    have e3 := (e2.enter hB nd).upC (Bg.nt (Mk1.bp (K := K) (W := W) (P := P) (Mk1.start hB nd))) (m.ep hW nd)
    refine ⟨hw _, ?_⟩
    show (if true = true then _ else Mk1 K G W H P d (i + 1) H')
    rw [if_pos rfl]
    exact body d i _ w H' (List.getElem?_eq_getElem hil) nd m.bp (m.ep hW nd) e3 _ fun x v H4 hp r ex b => m.step hW hB nd (by omega) hp r ex b
  · have hl := rs.len
    rw [hl] at m
    obtain ⟨ds, a1, a2, a3, a4, a5⟩ := m.done hB nd
    exact fin ds _ H' a1 a2 a3 a4 a5
end
end Px

namespace Px
open PySem PySem.Spec PyProof.Rows L2

/-! ### operators that a class of the text's own defines -/
section
variable {X : Cx} {CX : CXT} {k : Nat} {f C : Addr} {fd : FuncData} {ps : List Str} {sp : Sp} {E : XK}
def rOwn (C : Addr) (sp : Sp) (E : XK) : R2 := fun x y H Q => ∃ a dx fs b dy gs, x = .ref a ∧ y = .ref b ∧ H a = some (.ins C dx fs) ∧ H b = some (.ins C dy gs) ∧ sp [x, y] H Q E
theorem not_ni {v : V} {u : Value} (r : L2.RelV v u) : u ≠ .notImplemented := fun z => by
  subst z
  cases v <;> first | exact nomatch (show Value.notImplemented = _ from r) | (obtain ⟨t, e⟩ := (show ∃ t, Value.notImplemented = _ from r); exact nomatch e)
theorem back_of {Q : Value → Shared → Prop} {u : Value} {s : Shared} (n : u ≠ .notImplemented) (q : Q u s) : PySem.W.CmpBack Q u s := by
  unfold PySem.W.CmpBack
  split
  · exact n rfl
  · exact q
theorem op_own {op : Operator} (Fo : FnOk X.prog X.w X.K X.mg X.base CX k f fd ps sp) (room : Room k X.A) (hb : Binds X.K fd ps []) (px : Passes CX X E) (first : PySem.W.selfFirst X.K C = true)
    (at_ : PySem.W.findIn X.K (.ref C) (PySem.dunder op.info.2) = some (some (.ref f))) (isf : PySem.W.isFn X.K (.ref f) = true) : OpR X (binaryOp op) (rOwn C sp E) := by
  rintro pins s σ H x y u v Q I rx ry ⟨a, dx, fs, b, dy, gs, rfl, rfl, ha, hy, q⟩
  obtain rfl : u = Value.ref a := rx
  obtain rfl : v = Value.ref b := ry
  obtain ⟨m, F⟩ := I.fr
  obtain ⟨mA, O, _⟩ := ins_get I.hok ha
  obtain ⟨od, J, _⟩ := O.look
  obtain ⟨mB, O2, _⟩ := ins_get I.hok hy
  obtain ⟨od2, J2, _⟩ := O2.look
  refine PySem.W.binop_K F I.ok.mod.kin J J2.type first at_ isf ?_
  refine wpAny_mono (run_fn (us := [.ref a, .ref b]) (vs := [.ref a, .ref b]) (dvs := []) Fo room hb .nil px I (.cons rfl (.cons rfl .nil)) q) (fun r s' h => ?_) fun _ _ z => z
  obtain ⟨w', H', I', r', q'⟩ := h
  exact back_of (not_ni r') ⟨w', H', I', r', q'⟩
/-- C.m() of a static method -/
structure Stat (K : PySem.W.Frag) (C : Addr) (m : Str) (f : Addr) : Prop where
  rd : PySem.W.readsIn K C (.type "type") = true
  ga : PySem.W.specialIn K (.ref C) "__getattribute__" = some (some (.builtin "type.__getattribute__"))
  ty : PySem.W.typeIn K (.ref C) = some (.type "type")
  at_ : ∃ p rest, PySem.W.findCls K (.ref C) (.type "type") m = some (.get (.builtin "staticmethod.__get__") (.ref p) .none (.ref C)) ∧ PySem.W.recIn K p "staticmethod" = some (.ref f :: rest)
  kp : PySem.W.keepIn K (.ref f) = true
end
section
variable {X : Cx} {CX : CXT} {k : Nat} {f C : Addr} {fd : FuncData} {ps : List Str} {sp : Sp} {E : XK} {o : Expr} {m : Str} {apos pos : Pos} {ta : TE} {pl : Sem Bool}
def tStat0 (C : Addr) (sp : Sp) (E : XK) (ta : TE) : TE := fun σ H Q => ta σ H fun x H1 => x = .ref C ∧ sp [] H1 Q E
theorem pe_static0 (ho : PE X o ta) (st : Stat X.K C m f) (Fo : FnOk X.prog X.w X.K X.mg X.base CX k f fd ps sp) (room : Room k X.A) (hb : Binds X.K fd ps []) (px : Passes CX X E)
    (ht : eval (.Call (.Attribute o m apos) [] [] pos) X.env = (do
      let ov ← eval o X.env; standAt apos.atName; let (f, first) ← holding [ov] (getMethod ov m pl)
      callWith pos f first (backTo pos (starEach [] X.env)) (backToKw pos (keywordEach [] X.env))) := by rfl) :
    PE X (.Call (.Attribute o m apos) [] [] pos) (tStat0 C sp E ta) := by
  constructor; intro pins s σ H Q I h
  refine PySem.W.methodCall_KW (pl := pl) (thn (ho.run pins s σ H _ I h) ?_) ht
  rintro u s1 ⟨x, H1, I1, rx, rfl, q⟩
  obtain rfl : u = Value.ref C := rx
  obtain ⟨mm, F⟩ := I1.fr
  obtain ⟨p, rest, e1, e2⟩ := st.at_
  refine PySem.W.method_of_cls F I1.ok.mod.kin st.ga (PySem.W.cls_sm F I1.ok.mod.kin st.ty st.rd e1 e2 rfl ?_)
  exact PySem.W.callWith_K0 (first := []) I1.kIn st.kp (run_fn (us := []) (vs := []) (dvs := []) Fo room hb .nil px (I1.tok _) .nil q)
end
/-! ### kinds of values -/
def tyN : D → String
  | .non => "NoneType"
  | .bl _ => "bool"
  | .int _ => "int"
  | .str _ => "str"
  | .tup _ => "tuple"
  | .lst _ => "list"
  | .ins _ _ _ => ""
section
variable {K : PySem.W.Frag} {M : Addr → Prop} {H : Hp} {σ : L2.St} {te ta tb : TE} {Q : VK} {v : V} {d : D}
theorem tyx_of (r : Rep K M H d v) (n : ∀ C ns ds, d ≠ .ins C ns ds) : TyX K H v (.type (tyN d)) := by
  cases d with
  | non => rw [non_of r]; exact .base .non
  | bl b => rw [bl_of r]; exact .base (.bl b)
  | int i => rw [int_of r]; exact .base (.int i)
  | str s => rw [str_of r]; exact .base (.str s)
  | tup ds =>
    obtain ⟨a, xs, rfl, h, _⟩ := tup_of r
    rcases h with (h | ⟨o, h⟩) | ⟨o, its, n, h1, h2, _⟩
    · exact .base (.tup h)
    · exact .fTuple h
    · exact .kTuple h1 h2
  | lst ds =>
    obtain ⟨a, xs, rfl, _, h, _⟩ := lst_of r
    rcases h with h | ⟨o, h⟩
    · exact .base (.lst h)
    · exact .base (.frz h)
  | ins C ns ds => exact absurd rfl (n C ns ds)
theorem f_isi {T ty : String} {b : Bool} (r : Rep K M H d v) (hk : kitB ty T = some b) (q : Q (.bl b) H) (ht : tyN d = ty := by rfl) (n : ∀ C ns ds, d ≠ .ins C ns ds := by intro _ _ _ z; cases z) : rIsi K [v, .ty T] H Q :=
  ⟨v, .ty T, _, _, b, rfl, .ty T, tyx_of r n, kit_ty (by rw [ht]; exact hk), q⟩
theorem v_isi {T ty : String} {b : Bool} (ha : Val ta σ H v) (r : Rep K M H d v) (hk : kitB ty T = some b) (ht : tyN d = ty := by rfl) (n : ∀ C ns ds, d ≠ .ins C ns ds := by intro _ _ _ z; cases z) :
    Val (tCB (rIsi K) (tCons ta (tCons (tC (.ty T)) tNil))) σ H (.bl b) := fun _ q => ha _ (f_isi r hk q ht n)
theorem v_andB {a b : Bool} (ha : Val ta σ H (.bl a)) (hb : Val tb σ H (.bl b)) : Val (tAndV ta tb) σ H (.bl (a && b)) := fun _ q => ha _ ⟨a, rfl, by
  cases a with
  | true => rw [if_pos rfl]; exact hb _ q
  | false => rw [if_neg Bool.false_ne_true]; exact q⟩
theorem v_andB0 (ha : Val ta σ H (.bl false)) : Val (tAndV ta tb) σ H (.bl false) := fun _ q => ha _ ⟨false, rfl, by rw [if_neg Bool.false_ne_true]; exact q⟩
theorem v_notB {a : Bool} (ha : Val ta σ H (.bl a)) : Val (tNotV ta) σ H (.bl (!a)) := fun _ q => ha _ ⟨a, rfl, q⟩
theorem v_lenR {ds : List D} (z : Int) (ha : Val ta σ H v) (r : Rep K M H (.tup ds) v) (e : ((ds.length : Nat) : Int) = z := by rfl) : Val (tCB (fun xs H Q => ∃ x n, xs = [x] ∧ LenV K x H n ∧ Q (.int n) H) (tCons ta tNil)) σ H (.int z) := fun _ q => by
  subst e
  obtain ⟨a, xs, rfl, h, rs⟩ := tup_of r
  exact ha _ ⟨_, _, rfl, .inr ⟨xs, h, rs.len.symm⟩, q⟩
theorem v_lenRL {ds : List D} (z : Int) (ha : Val ta σ H v) (r : Rep K M H (.lst ds) v) (e : ((ds.length : Nat) : Int) = z := by rfl) : Val (tCB (fun xs H Q => ∃ x n, xs = [x] ∧ LenV K x H n ∧ Q (.int n) H) (tCons ta tNil)) σ H (.int z) := fun _ q => by
  subst e
  obtain ⟨a, xs, rfl, _, h, rs⟩ := lst_of r
  exact ha _ ⟨_, _, rfl, .inl ⟨xs, .inl h, rs.len.symm⟩, q⟩
/-! ### attributes -/
/-- an attribute is read -/
def FldEnd (K : PySem.W.Frag) (f : Str) (Q : VK) (x : V) (H : Hp) : Prop := ∃ a C dx fs v', x = .ref a ∧ H a = some (.ins C dx fs) ∧ Cls K C ∧ NoAttr K C f ∧ fs.lookup f = some v' ∧ Q v' H
theorem f_fld {C : Addr} {ns : List Str} {ds : List D} {f : Str} {x : D} (r : Rep K M H (.ins C ns ds) v) (cl : Cls K C) (na : NoAttr K C f) (l : (ns.zip ds).lookup f = some x) (q : ∀ w, Rep K M H x w → Q w H) :
    FldEnd K f Q v H := by
  obtain ⟨a, dx, fs, rfl, _, h, e, rs⟩ := ins_of r
  obtain ⟨w, e1, e2⟩ := rs.look e l
  exact ⟨a, C, dx, fs, w, rfl, h, cl, na, e1, q w e2⟩
theorem k_fld {f : Str} (q : ta σ H fun x H1 => FldEnd K f Q x H1) : tFld K ta f σ H Q := q
end
end Px
namespace Px
open PySem PySem.Spec PyProof.Rows L2
/-! ### names from the items of a tuple or a list -/
def gNames : List Nat → TGs
  | [] => gNil
  | i :: is => gCons (gName i) (gNames is)
def setAll : L2.St → List Nat → List V → L2.St
  | σ, i :: is, w :: ws => setAll (σ.set i (some w)) is ws
  | σ, _, _ => σ
theorem f_names : ∀ {is : List Nat} {ws : List V} {σ : L2.St} {H : Hp} {Q : L2.St → Hp → Prop}, ws.length = is.length → Q (setAll σ is ws) H → gNames is ws σ H Q
  | [], [], _, _, _, _, q => ⟨rfl, q⟩
  | i :: is, w :: ws, σ, H, Q, e, q => ⟨w, ws, rfl, f_names (is := is) (ws := ws) (by simpa using e) q⟩
  | [], _ :: _, _, _, _, e, _ => by simp at e
  | _ :: _, [], _, _, _, e, _ => by simp at e
section
variable {K : PySem.W.Frag} {M : Addr → Prop} {H : Hp} {σ : L2.St} {v : V} {ds : List D} {Q : L2.St → Hp → Prop}
theorem f_unpT (is : List Nat) {n : Nat} (r : Rep K M H (.tup ds) v) (e1 : ds.length = n) (e2 : n = is.length) (q : ∀ ws, Reps K M H ds ws → Q (setAll σ is ws) H) : gTup K n (gNames is) v σ H Q := by
  obtain ⟨a, xs, rfl, h, rs⟩ := tup_of r
  exact ⟨a, xs, rfl, h, by rw [rs.len, e1], f_names (by rw [rs.len, e1, e2]) (q xs rs)⟩
theorem f_unpL (is : List Nat) {n : Nat} (r : Rep K M H (.lst ds) v) (e1 : ds.length = n) (e2 : n = is.length) (q : ∀ ws, Reps K M H ds ws → Q (setAll σ is ws) H) : gLst K n (gNames is) v σ H Q := by
  obtain ⟨a, xs, rfl, _, h, rs⟩ := lst_of r
  exact ⟨a, xs, rfl, .inl h, by rw [rs.len, e1], f_names (by rw [rs.len, e1, e2]) (q xs rs)⟩
theorem k_asg {te : TE} {g : TG} {D' : Ends} (q : te σ H fun x H1 => g x σ H1 D'.nx) : tAsg te g D' σ H := q
/-! ### methods -/
theorem look_none {fs : List (Str × V)} {m : Str} (h : m ∉ fs.map (·.1)) : fs.lookup m = none := by
  induction fs with
  | nil => rfl
  | cons p fs ih =>
    obtain ⟨f, x⟩ := p
    simp only [List.map_cons, List.mem_cons, not_or] at h
    rw [List.lookup_cons, show (m == f) = false by simpa using h.1]
    exact ih h.2
theorem f_meth {C : Addr} {ns : List Str} {m : Str} {R : Prop} (r : Rep K M H (.ins C ns ds) v) (hm : m ∉ ns) (q : R) : ∃ a dx fs, v = .ref a ∧ H a = some (.ins C dx fs) ∧ fs.lookup m = none ∧ R := by
  obtain ⟨a, dx, fs, rfl, _, h, e, rs⟩ := ins_of r
  exact ⟨a, dx, fs, rfl, h, look_none (by rw [e]; exact hm), q⟩
theorem k_meth {C : Addr} {m : Str} {sp : Sp} {dvs : List V} {E : XK} {ta : TE} {t : TA} {Q : VK} (q : ta σ H fun x H1 => ∃ a dx fs, x = .ref a ∧ H1 a = some (.ins C dx fs) ∧ fs.lookup m = none ∧ t σ H1 fun vs H2 => sp (x :: (vs ++ dvs)) H2 Q E) : tMeth C m sp dvs E ta t σ H Q := q
theorem f_own {C : Addr} {ns ns' : List Str} {es : List D} {w : V} {sp : Sp} {E : XK} {Q : VK} (r : Rep K M H (.ins C ns ds) v) (r' : Rep K M H (.ins C ns' es) w) (q : sp [v, w] H Q E) : rOwn C sp E v w H Q := by
  obtain ⟨a, dx, fs, rfl, _, h, e, rs⟩ := ins_of r
  obtain ⟨b, dy, gs, rfl, _, h', e', rs'⟩ := ins_of r'
  exact ⟨a, dx, fs, b, dy, gs, rfl, rfl, h, h', q⟩
theorem k_stat {C : Addr} {sp : Sp} {E : XK} {ta : TE} {Q : VK} (q : ta σ H fun x H1 => x = .ref C ∧ sp [] H1 Q E) : tStat0 C sp E ta σ H Q := q
end
end Px

namespace Px
open PySem PySem.Spec PyProof.Rows L2

/-! ### data compared -/
mutual
def toPd : D → PyData
  | .non => .none
  | .bl b => .bool b
  | .int i => .int i
  | .str s => .str s
  | .tup ds => .tuple (toPds ds)
  | .lst ds => .list (toPds ds)
  | .ins _ _ _ => .none
def toPds : List D → List PyData
  | [] => []
  | d :: ds => toPd d :: toPds ds
end
mutual
/-- no instances within -/
def plain : D → Bool
  | .ins _ _ _ => false
  | .tup ds => plains ds
  | .lst ds => plains ds
  | _ => true
def plains : List D → Bool
  | [] => true
  | d :: ds => plain d && plains ds
end
section
variable {K : PySem.W.Frag} {M : Addr → Prop} {H : Hp}
mutual
theorem dp_of : ∀ {d : D} {v : V}, plain d = true → Rep K M H d v → Dp K H v (toPd d)
  | .non, _, _, r => by rw [non_of r]; unfold toPd; exact .non
  | .bl b, _, _, r => by rw [bl_of r]; unfold toPd; exact .bl b
  | .int i, _, _, r => by rw [int_of r]; unfold toPd; exact .int i
  | .str s, _, _, r => by rw [str_of r]; unfold toPd; exact .str s
  | .tup ds, _, p, r => by
    obtain ⟨a, xs, rfl, h, rs⟩ := tup_of r
    unfold toPd
    unfold plain at p
    exact .tup h (dps_of p rs)
  | .lst ds, _, p, r => by
    obtain ⟨a, xs, rfl, _, h, rs⟩ := lst_of r
    unfold toPd
    unfold plain at p
    exact .lst (.inl h) (dps_of p rs)
  | .ins C ns ds, _, p, r => by unfold plain at p; cases p
theorem dps_of : ∀ {ds : List D} {vs : List V}, plains ds = true → Reps K M H ds vs → DpAll K H vs (toPds ds)
  | [], _, _, r => by rw [nil_of r]; unfold toPds; exact .nil
  | d :: ds, _, p, r => by
    obtain ⟨v, vs, rfl, r1, r2⟩ := cons_of r
    unfold toPds
    unfold plains at p
    rw [Bool.and_eq_true] at p
    exact .cons (dp_of p.1 r1) (dps_of p.2 r2)
end
theorem eqv_fr (x y : Rat) : PyData.eqv (toPd (fr x)) (toPd (fr y)) = decide (x = y) := by
  have h : PyData.eqv (toPd (fr x)) (toPd (fr y)) = ((x.num == y.num) && (((x.den : Int) == (y.den : Int)) && true)) := by
    simp only [fr, toPd, toPds, PyData.eqv, PyData.eqvAll]
  rw [h, Bool.and_true]
  by_cases e : x = y
  · subst e; simp
  · rw [decide_eq_false e, Bool.and_eq_false_iff]
    by_cases n : x.num = y.num
    · right
      rw [beq_eq_false_iff_ne]
      intro d
      exact e (Rat.ext n (by omega))
    · left
      rw [beq_eq_false_iff_ne]
      exact n
theorem f_eqD {d e : D} {v w : V} {Q : VK} {b : Bool} (r : Rep K M H d v) (r' : Rep K M H e w) (h : PyData.eqv (toPd d) (toPd e) = b) (q : Q (.bl b) H) (p : plain d = true := by rfl) (p' : plain e = true := by rfl)
    (s : SeqAt.shaped (toPd d) = true := by rfl) (s' : SeqAt.shaped (toPd e) = true := by rfl) : rEqD K v w H Q :=
  ⟨toPd d, toPd e, dp_of p r, dp_of p' r', s, s', by rw [h]; exact q⟩
end
/-! ### own comparisons -/
section
variable {X : Cx} {CX : CXT} {k : Nat} {f C : Addr} {fd : FuncData} {ps : List Str} {sp : Sp} {E : XK}
theorem op_ownEq (Fo : FnOk X.prog X.w X.K X.mg X.base CX k f fd ps sp) (room : Room k X.A) (hb : Binds X.K fd ps []) (px : Passes CX X E) (hn : PySem.W.notFirst X.K C (.ref C) = true)
    (at_ : PySem.W.findIn X.K (.ref C) (PySem.cmpInfo .Eq).2.1 = some (some (.ref f))) (isf : PySem.W.isFn X.K (.ref f) = true) : OpR X (compareOp .Eq) (rOwn C sp E) := by
  rintro pins s σ H x y u v Q I rx ry ⟨a, dx, fs, b, dy, gs, rfl, rfl, ha, hy, q⟩
  obtain rfl : u = Value.ref a := rx
  obtain rfl : v = Value.ref b := ry
  obtain ⟨m, F⟩ := I.fr
  obtain ⟨mA, O, _⟩ := ins_get I.hok ha
  obtain ⟨od, J, _⟩ := O.look
  obtain ⟨mB, O2, _⟩ := ins_get I.hok hy
  obtain ⟨od2, J2, _⟩ := O2.look
  show wpAny _ _ (richCompare .Eq (.ref a) (.ref b)) _ _ _
  refine PySem.W.cmp_K room.units0 F I.ok.mod.kin J J2.type hn at_ isf ?_
  refine wpAny_mono (run_fn (us := [.ref a, .ref b]) (vs := [.ref a, .ref b]) (dvs := []) Fo room hb .nil px I (.cons rfl (.cons rfl .nil)) q) (fun r s' h => ?_) fun _ _ z => z
  obtain ⟨w', H', I', r', q'⟩ := h
  exact back_of (not_ni r') ⟨w', H', I', r', q'⟩
end
/-- what isinstance asks of a class -/
structure IsiC (K : PySem.W.Frag) (C : Addr) : Prop where
  cl : Cls K C
  ha : PySem.W.findIn K (.ref C) "__class__" = some (some (.builtin "object.__class__"))
  hn : PySem.W.specialIn K (.builtin "object.__class__") "__get__" = some (some (.builtin "getset_descriptor.__get__"))
  htk : PySem.W.takesIn K (.builtin "object.__class__") = some true
  hm : PySem.W.mroIn K C (.type "object") = some true
  kit : PySem.W.kitOne K (.ref C) (.ref C) = some true
section
variable {K : PySem.W.Frag} {M : Addr → Prop} {H : Hp} {σ : L2.St} {te ta tb : TE} {Q : VK} {v : V} {d : D}
theorem f_isiC {C : Addr} {ns : List Str} {ds : List D} (i : IsiC K C) (r : Rep K M H (.ins C ns ds) v) (q : Q (.bl true) H) : rIsi K [v, .ref C] H Q := by
  obtain ⟨a, dx, fs, rfl, _, h, e, rs⟩ := ins_of r
  exact ⟨_, _, _, _, true, rfl, .own C, .base (.ins h i.cl i.ha i.hn i.htk i.hm), i.kit, q⟩
theorem v_isiC {C : Addr} {ns : List Str} {ds : List D} (i : IsiC K C) (ha : Val ta σ H v) (hb : Val tb σ H (.ref C)) (r : Rep K M H (.ins C ns ds) v) : Val (tCB (rIsi K) (tCons ta (tCons tb tNil))) σ H (.bl true) := fun _ q => ha _ (hb _ (f_isiC i r q))
theorem k_andV (q : ta σ H fun x H1 => ∃ c, x = .bl c ∧ if c = true then tb σ H1 Q else Q (.bl false) H1) : tAndV ta tb σ H Q := q
theorem k_orV (q : ta σ H fun x H1 => ∃ c, x = .bl c ∧ if c = true then Q (.bl true) H1 else tb σ H1 Q) : tOrV ta tb σ H Q := q
theorem k_notV (q : ta σ H fun x H1 => ∃ c, x = .bl c ∧ Q (.bl (!c)) H1) : tNotV ta σ H Q := q
/-! ### dicts of the module -/
theorem f_ixK {w : World} {p : Addr} {z : Str} {u : V} (h : KDct K w p z u) (q : Q u H) : rIxD K w (.ref p) (.str z) H Q := ⟨p, z, u, rfl, rfl, h, q⟩
/-! ### a text among texts -/
theorem reps_str : ∀ {ss : List Str} {xs : List V}, Reps K M H (ss.map .str) xs → xs = ss.map .str
  | [], _, r => nil_of r
  | s :: ss, _, r => by
    obtain ⟨w, ws, rfl, r1, r2⟩ := cons_of r
    rw [str_of r1, reps_str r2]
    rfl
theorem f_inT {ss : List Str} {s : Str} {b : Bool} (r : Rep K M H (.tup (ss.map .str)) v) (h : inV (.str s) (ss.map V.str) = b) (q : Q (.bl b) H) (hf : (ss.map V.str).all flatV = true := by rfl) : rIn K false (.str s) v H Q := by
  obtain ⟨a, xs, rfl, hs, rs⟩ := tup_of r
  have e : xs = ss.map V.str := by
    exact reps_str rs
  subst e
  exact ⟨a, _, rfl, .inr hs, rfl, hf, by rw [if_neg Bool.false_ne_true, h]; exact q⟩
/-! ### lists -/
theorem eq_mapRange {n : Nat} {e : Nat → D} {ds : List D} (h : ds.length = n) (p : ∀ k x, ds[k]? = some x → x = e k) : ds = (List.range n).map e := by
  apply List.ext_getElem?
  intro k
  by_cases hk : k < n
  · have h1 : ds[k]? = some ds[k] := List.getElem?_eq_getElem (by omega)
    rw [h1, p k _ h1, List.getElem?_map, List.getElem?_range hk]
    rfl
  · rw [List.getElem?_eq_none (by omega), List.getElem?_eq_none (by simp; omega)]
theorem eq_map {α : Type} {xs : List α} {e : α → D} {ds : List D} (h : ds.length = xs.length) (p : ∀ (k : Nat) (x : D), ds[k]? = some x → ∀ a, xs[k]? = some a → x = e a) : ds = xs.map e := by
  apply List.ext_getElem?
  intro k
  by_cases hk : k < xs.length
  · have h1 : ds[k]? = some (ds[k]'(by omega)) := List.getElem?_eq_getElem (by omega)
    have h2 : xs[k]? = some xs[k] := List.getElem?_eq_getElem hk
    rw [h1, p k _ h1 _ h2, List.getElem?_map, h2]
    rfl
  · rw [List.getElem?_eq_none (by omega), List.getElem?_eq_none (by simp; omega)]
theorem eq_list {es ds : List D} (h : ds.length = es.length) (p : ∀ (k : Nat) (x : D), ds[k]? = some x → es[k]? = some x) : ds = es := by
  apply List.ext_getElem?
  intro k
  by_cases hk : k < ds.length
  · have h1 : ds[k]? = some ds[k] := List.getElem?_eq_getElem hk
    rw [h1, p k _ h1]
  · rw [List.getElem?_eq_none (by omega), List.getElem?_eq_none (by omega)]
theorem reps_bl {bs : List Bool} : ∀ {xs : List V}, Reps K M H (bs.map .bl) xs → xs = bs.map .bl := by
  induction bs with
  | nil => exact fun r => nil_of r
  | cons b bs ih =>
    intro xs r
    obtain ⟨w, ws, rfl, r1, r2⟩ := cons_of r
    rw [bl_of r1, ih r2]
    rfl
theorem f_all {bs : List Bool} {b : Bool} (r : Rep K M H (.lst (bs.map .bl)) v) (h : bs.all id = b) (q : Q (.bl b) H) : rAll K [v] H Q := by
  obtain ⟨a, xs, rfl, _, hs, rs⟩ := lst_of r
  rw [reps_bl rs] at hs
  exact ⟨a, bs, rfl, .inl hs, by rw [h]; exact q⟩
theorem f_len {ds : List D} (r : Rep K M H (.tup ds) v) (z : Int) (e : ((ds.length : Nat) : Int) = z) (q : Q (.int z) H) : ∃ x n, [v] = [x] ∧ LenV K x H n ∧ Q (.int n) H := by
  subst e
  obtain ⟨a, xs, rfl, h, rs⟩ := tup_of r
  exact ⟨_, _, rfl, .inr ⟨xs, h, rs.len.symm⟩, q⟩
theorem f_lenL {ds : List D} (r : Rep K M H (.lst ds) v) (z : Int) (e : ((ds.length : Nat) : Int) = z) (q : Q (.int z) H) : ∃ x n, [v] = [x] ∧ LenV K x H n ∧ Q (.int n) H := by
  subst e
  obtain ⟨a, xs, rfl, _, h, rs⟩ := lst_of r
  exact ⟨_, _, rfl, .inl ⟨xs, .inl h, rs.len.symm⟩, q⟩
def noneD : D → Bool
  | .non => true
  | _ => false
/-- is None, is not None: of what stands for a datum -/
theorem is_non (r : Rep K M H d v) : decide (v = .non) = noneD d := by
  cases d with
  | non => have e := non_of r; subst e; rfl
  | bl b => have e := bl_of r; subst e; rfl
  | int i => have e := int_of r; subst e; rfl
  | str s => have e := str_of r; subst e; rfl
  | tup ds => obtain ⟨a, xs, rfl, _⟩ := tup_of r; rfl
  | lst ds => obtain ⟨a, xs, rfl, _⟩ := lst_of r; rfl
  | ins C ns ds => obtain ⟨a, dx, fs, rfl, _⟩ := ins_of r; rfl
theorem f_notN {b : Bool} (r : Rep K M H d v) (h : (!noneD d) = b) (q : Q (.bl b) H) : rNotN v .non H Q := ⟨rfl, by rw [is_non r, h]; exact q⟩
theorem f_isN {b : Bool} (r : Rep K M H d v) (h : noneD d = b) (q : Q (.bl b) H) : rIsN v .non H Q := ⟨rfl, by rw [is_non r, h]; exact q⟩
/-! ### the walk of a comprehension, a slice -/
/-- what is left once the iterable is known -/
def LcEnd (g : TG) (tt : TT) (te : TE) (vs : List Nat) (σ : L2.St) (Q : VK) (J : It) (H1 : Hp) : Prop := ∀ D, H1 D = none → ∃ W : Nat → Nat → Hp → Prop, (∃ m, W 0 m (upd H1 D (.lst []))) ∧ ∀ i m H, W i m H →
  (J.stop i H ∧ Q (.ref D) H) ∨ (J.go i H ∧ ∃ Nx : Hp → Prop, (∀ H', Nx H' → ∃ m', m' < m ∧ W (i + 1) m' H') ∧ ∀ x H', J.yld i H x H' → g x (wipe σ vs) H' fun σ2 H2 => wipe σ2 vs = wipe σ vs ∧ tt σ2 H2 fun b H3 =>
    if b = true then te σ2 H3 fun y H4 => ∃ acc, H4 D = some (.lst acc) ∧ acc.length < sizeLine ∧ Nx (upd H4 D (.lst (acc ++ [y]))) else Nx H3)
section
variable {g : TG} {tt : TT} {vs : List Nat} {tr : TA}
theorem k_lcr (q : tr σ H fun xs H1 => ∃ j : Int, xs = [V.int j] ∧ -(2 ^ 62) ≤ j ∧ j < 2 ^ 62 ∧ LcEnd g tt te vs σ Q (Itr 0 j.toNat) H1) : tLc (iRng1 tr) g tt te vs σ H Q := q
theorem k_lcl (q : ta σ H fun x H1 => ∃ a, x = V.ref a ∧ (∃ xs, SqL K H1 a xs) ∧ LcEnd g tt te vs σ Q (Itl K a) H1) : tLc (iList K ta) g tt te vs σ H Q := q
theorem k_lct (q : ta σ H fun x H1 => ∃ a, x = V.ref a ∧ (∃ xs, SqT K H1 a xs) ∧ LcEnd g tt te vs σ Q (Itt K a) H1) : tLc (iTup K ta) g tt te vs σ H Q := q
end
variable {G : Bg}
theorem Bg.enterB {d : Addr} (hB : G.B H) (nd : H d = none) : (G.plus d).B (upd H d (.lst [])) := ⟨G.st _ _ hB (same_upd nd), [], upd_same⟩
theorem k_sl {r : V → Option Int → Option Int → Hp → VK → Prop} {tl th : TO} (q : te σ H fun x H1 => tl σ H1 fun l H2 => th σ H2 fun u H3 => r x l u H3 Q) : tSl r te tl th σ H Q := q
theorem k_noPart {R : Option Int → Hp → Prop} (q : R none H) : tNoPart σ H R := q
theorem k_part {R : Option Int → Hp → Prop} (q : te σ H fun x H1 => ∃ i, x = .int i ∧ R (some i) H1) : tPart te σ H R := q
theorem Reps.take : ∀ {ds : List D} {xs : List V} (n : Nat), Reps K M H ds xs → Reps K M H (ds.take n) (xs.take n)
  | _, _, 0, _ => by rw [List.take_zero, List.take_zero]; exact rnil
  | [], _, n + 1, r => by rw [nil_of r]; exact rnil
  | d :: ds, _, n + 1, r => by
    obtain ⟨w, ws, rfl, r1, r2⟩ := cons_of r
    exact rcons r1 (Reps.take n r2)
theorem cutV_take (xs : List V) (n : Nat) : cutV xs none (some (n : Int)) = xs.take n := by
  unfold cutV
  rw [HT.sIx_none, HT.sIx_nat, List.drop_zero, Nat.sub_zero, List.take_eq_take_iff]
  omega
theorem nm_new {p : Addr} (hB : G.B H) (hp : H p = none) : ¬ G.M p := fun m => by
  rcases G.isl H p hB m with ⟨ys, hy⟩ | ⟨C, dx, fs, hy⟩ | ⟨tb, hy⟩ <;> (rw [hp] at hy; cases hy)
theorem f_slL {n : Nat} {ds : List D} (hB : G.B H) (r : Rep K G.M H (.lst ds) v) (q : ∀ w H', Rep K G.M H' (.lst (ds.take n)) w → Same H H' → G.B H' → Q w H') : rSlL K v none (some (n : Int)) H Q := by
  obtain ⟨a, xs, rfl, _, h, rs⟩ := lst_of r
  refine ⟨a, xs, rfl, .inl h, fun p hp => ?_⟩
  rw [cutV_take]
  have s := same_upd (o := .lst (xs.take n)) hp
  exact q _ _ (rlst (nm_new hB hp) (.inl upd_same) ((rs.take n).up hB (Ex.of s))) s (G.st _ _ hB s)
def LstOf (K : PySem.W.Frag) (Q : VK) (xs : List V) (H : Hp) : Prop := ∃ p ys, xs = [V.ref p] ∧ (SqL K H p ys ∨ SqT K H p ys) ∧ ∀ l, H l = none → Q (.ref l) (upd H l (.lst ys))
theorem call_listK {X : Cx} {K : PySem.W.Frag} (h : X.K = K := by rfl) : CallR X (.type "list") (fun xs H Q => LstOf K Q xs H) := h ▸ call_list_of
theorem f_listT {ds : List D} (hB : G.B H) (r : Rep K G.M H (.tup ds) v) (q : ∀ w H', Rep K G.M H' (.lst ds) w → Same H H' → G.B H' → Q w H') : LstOf K Q [v] H := by
  obtain ⟨a, xs, rfl, h, rs⟩ := tup_of r
  refine ⟨a, xs, rfl, .inr h, fun p hp => ?_⟩
  have s := same_upd (o := .lst xs) hp
  exact q _ _ (rlst (nm_new hB hp) (.inl upd_same) (rs.up hB (Ex.of s))) s (G.st _ _ hB s)
theorem atI_neg {xs : List V} {k : Nat} {w : V} {i : Int} (h : xs[k]? = some w) (e : i + xs.length = (k : Int)) (n : i < 0) : atI xs i = some w := by
  have hk : k < xs.length := (List.getElem?_eq_some_iff.mp h).1
  unfold atI ixN
  rw [if_neg (by omega), if_pos (by omega), e]
  exact h
theorem f_ixNegL {ds : List D} {k : Nat} {d : D} {i : Int} (r : Rep K M H (.lst ds) v) (e : ds[k]? = some d) (e2 : i + (ds.length : Int) = (k : Int)) (q : ∀ w, Rep K M H d w → Q w H) (n : i < 0 := by decide) : rIxL K v (.int i) H Q := by
  obtain ⟨a, xs, rfl, _, h, rs⟩ := lst_of r
  obtain ⟨w, e1, e3⟩ := rs.at e
  exact ⟨a, xs, _, w, rfl, rfl, .inl h, atI_neg e1 (by rw [rs.len]; exact e2) n, q w e3⟩
/-! ### within a comprehension: the written part by its own name -/
theorem ix_tupK {X : Cx} {K : PySem.W.Frag} (h : X.K = K := by rfl) : IxR X (rIxT K) := h ▸ ix_tup
theorem ix_listK {X : Cx} {K : PySem.W.Frag} (h : X.K = K := by rfl) : IxR X (rIxL K) := h ▸ ix_list
theorem pi_listK {X : Cx} {tg l : Expr} {tl : TE} {K : PySem.W.Frag} (hl : PE X l tl) (h : X.K = K := by rfl) : PI X tg l (iList K tl) := h ▸ pi_list hl
theorem pi_tupK {X : Cx} {tg l : Expr} {tl : TE} {K : PySem.W.Frag} (hl : PE X l tl) (h : X.K = K := by rfl) : PI X tg l (iTup K tl) := h ▸ pi_tup hl
section
variable {W : Addr → Prop}
theorem k_lcRE {n j : Nat} {vs : List Nat} (W : Addr → Prop) (hW : ∀ a, W a → G.M a) (hn : n ≤ 1000) (hB : G.B H) (P : Nat → D → Prop) (hw : ∀ x, wipe ((wipe σ vs).set j (some x)) vs = wipe σ vs)
    (body : ∀ d i H', i < n → H d = none → (G.plus d).B H' → Ex (G.plus d).M (upd H d (.lst [])) H' → ∀ Q' : VK, (∀ x v H4, P i x → Rep K (G.plus d).M H4 x v → Ex W H' H4 → (G.plus d).B H4 → Q' v H4) → te ((wipe σ vs).set j (some (.int (i : Int)))) H' Q')
    (fin : ∀ ds v H', ds.length = n → (∀ k x, ds[k]? = some x → P k x) → Rep K G.M H' (.lst ds) v → Ex W H H' → G.B H' → Q v H') {z : Int} (hz : z = (n : Int)) :
    ∃ i : Int, [V.int z] = [V.int i] ∧ -(2 ^ 62) ≤ i ∧ i < 2 ^ 62 ∧ LcEnd (gName j) tYes te vs σ Q (Itr 0 i.toNat) H := k_lcR W hW hn hB P hw body fin hz
theorem k_lcLE {j : Nat} {vs : List Nat} {ds0 : List D} {v0 : V} (W : Addr → Prop) (hW : ∀ a, W a → G.M a) (hn : ds0.length ≤ 1000) (hB : G.B H) (r0 : Rep K G.M H (.lst ds0) v0) (P : Nat → D → Prop) (hw : ∀ x, wipe ((wipe σ vs).set j (some x)) vs = wipe σ vs)
    (body : ∀ d i x0 w0 H', ds0[i]? = some x0 → H d = none → (G.plus d).B H' → Ex (G.plus d).M (upd H d (.lst [])) H' → Rep K (G.plus d).M H' x0 w0 → ∀ Q' : VK, (∀ x v H4, P i x → Rep K (G.plus d).M H4 x v → Ex W H' H4 → (G.plus d).B H4 → Q' v H4) → te ((wipe σ vs).set j (some w0)) H' Q')
    (fin : ∀ ds v H', ds.length = ds0.length → (∀ k x, ds[k]? = some x → P k x) → Rep K G.M H' (.lst ds) v → Ex W H H' → G.B H' → Q v H') :
    ∃ a, v0 = .ref a ∧ (∃ xs, SqL K H a xs) ∧ LcEnd (gName j) tYes te vs σ Q (Itl K a) H := k_lcL W hW hn hB r0 P hw body fin
theorem k_lcTE {j : Nat} {vs : List Nat} {ds0 : List D} {v0 : V} (W : Addr → Prop) (hW : ∀ a, W a → G.M a) (hn : ds0.length ≤ 1000) (hB : G.B H) (r0 : Rep K G.M H (.tup ds0) v0) (P : Nat → D → Prop) (hw : ∀ x, wipe ((wipe σ vs).set j (some x)) vs = wipe σ vs)
    (body : ∀ d i x0 w0 H', ds0[i]? = some x0 → H d = none → (G.plus d).B H' → Ex (G.plus d).M (upd H d (.lst [])) H' → Rep K (G.plus d).M H' x0 w0 → ∀ Q' : VK, (∀ x v H4, P i x → Rep K (G.plus d).M H4 x v → Ex W H' H4 → (G.plus d).B H4 → Q' v H4) → te ((wipe σ vs).set j (some w0)) H' Q')
    (fin : ∀ ds v H', ds.length = ds0.length → (∀ k x, ds[k]? = some x → P k x) → Rep K G.M H' (.lst ds) v → Ex W H H' → G.B H' → Q v H') :
    ∃ a, v0 = .ref a ∧ (∃ xs, SqT K H a xs) ∧ LcEnd (gName j) tYes te vs σ Q (Itt K a) H := k_lcT W hW hn hB r0 P hw body fin
end
theorem k_par3 {i j l : Nat} {tr : TA} {D' : Ends} (q : tr σ H fun vs H1 => ∃ u v w, vs = [u, v, w] ∧ D'.nx (((σ.set i (some u)).set j (some v)).set l (some w)) H1) : tPar3 i j l tr D' σ H := q
end
end Px

namespace Px
open PySem PySem.Spec PyProof.Rows L2 RZ
/-! ### two at once -/
section
variable {K : PySem.W.Frag} {G : Bg} {H : Hp} {σ : L2.St} {te ta tb : TE} {Q : VK} {W : Addr → Prop}
abbrev gPair (K : PySem.W.Frag) (i j : Nat) : TG := gTup K 2 (gCons (gName i) (gCons (gName j) gNil))
theorem k_lcz {g : TG} {tt : TT} {vs : List Nat} {tr : TA} (q : tr σ H fun ws H1 => ∃ a b xs ys, ws = [V.ref a, V.ref b] ∧ ((SqL K H1 a xs ∧ SqL K H1 b ys ∧ LcEnd g tt te vs σ Q (Itz K a b) H1) ∨ (SqT K H1 a xs ∧ SqT K H1 b ys ∧ LcEnd g tt te vs σ Q (ItzT K a b) H1))) : tLc (iZipA K tr) g tt te vs σ H Q := q
theorem k_lcZT {i j : Nat} {vs : List Nat} {ds0 : List D} {v0 w0 : V} (W : Addr → Prop) (hW : ∀ a, W a → G.M a) (hn : ds0.length ≤ 1000) (hB : G.B H) (r0 : Rep K G.M H (.tup ds0) v0) (r1 : Rep K G.M H (.tup ds0) w0) (P : Nat → D → Prop)
    (hw : ∀ x y, wipe (((wipe σ vs).set i (some x)).set j (some y)) vs = wipe σ vs)
    (body : ∀ d k x0 a b H', ds0[k]? = some x0 → H d = none → (G.plus d).B H' → Ex (G.plus d).M (upd H d (.lst [])) H' → Rep K (G.plus d).M H' x0 a → Rep K (G.plus d).M H' x0 b → ∀ Q' : VK, (∀ x v H4, P k x → Rep K (G.plus d).M H4 x v → Ex W H' H4 → (G.plus d).B H4 → Q' v H4) → te (((wipe σ vs).set i (some a)).set j (some b)) H' Q')
    (fin : ∀ ds v H', ds.length = ds0.length → (∀ k x, ds[k]? = some x → P k x) → Rep K G.M H' (.lst ds) v → Ex W H H' → G.B H' → Q v H') :
    ∃ a b xs ys, [v0, w0] = [V.ref a, V.ref b] ∧ ((SqL K H a xs ∧ SqL K H b ys ∧ LcEnd (gPair K i j) tYes te vs σ Q (Itz K a b) H) ∨ (SqT K H a xs ∧ SqT K H b ys ∧ LcEnd (gPair K i j) tYes te vs σ Q (ItzT K a b) H)) := by
  obtain ⟨a, xs, rfl, sq, rs⟩ := tup_of r0
  obtain ⟨b, ys, rfl, sq', rs'⟩ := tup_of r1
  refine ⟨a, b, xs, ys, rfl, .inr ⟨sq, sq', fun d nd => ?_⟩⟩
  refine ⟨fun k m H' => m = ds0.length - k ∧ k ≤ ds0.length ∧ Mk1 K G W H P d k H', ⟨ds0.length, by simp, Nat.zero_le _, Mk1.start hB nd⟩, ?_⟩
  rintro k m H' ⟨rfl, hi, mk⟩
  have nt : NoTup W H := fun c zs z => Bg.nt hB c zs (hW c z)
  have q : SqT K H' a xs := sqT_upC nt mk.e sq
  have q' : SqT K H' b ys := sqT_upC nt mk.e sq'
  by_cases hlt : k < ds0.length
  · obtain ⟨x, e1, e2⟩ := rs.at (List.getElem?_eq_getElem hlt)
    obtain ⟨y, e1', e2'⟩ := rs'.at (List.getElem?_eq_getElem hlt)
    refine .inr ⟨⟨xs, ys, x, y, q, q', e1, e1'⟩, fun H2 => Mk1 K G W H P d (k + 1) H2, fun H2 p' => ⟨ds0.length - (k + 1), by omega, rfl, hlt, p'⟩, ?_⟩
    rintro v H2 ⟨T, x', y', rfl, nT, rfl, hx, hy⟩
    obtain rfl : x' = x := Option.some.inj ((hx xs q).symm.trans e1)
    obtain rfl : y' = y := Option.some.inj ((hy ys q').symm.trans e1')
    refine ⟨T, [x', y'], rfl, .inl (.inl upd_same), rfl, x', [y'], rfl, y', [], rfl, rfl, hw _ _, ?_⟩
    show (if true = true then _ else Mk1 K G W H P d (k + 1) (upd H' T (.tup [x', y'])))
    rw [if_pos rfl]
    have s := same_upd (o := .tup [x', y']) nT
    have b2 := (G.plus d).st _ _ mk.bp s
    have ep := (mk.ep hW nd).trans (Ex.of s)
    have nts := Bg.nt (Mk1.bp (K := K) (W := W) (P := P) (Mk1.start hB nd))
    have e3 := (e2.enter hB nd).upC nts ep
    have e3' := (e2'.enter hB nd).upC nts ep
    exact body d k _ x' y' _ (List.getElem?_eq_getElem hlt) nd b2 ep e3 e3' _ fun z v H4 hp r ex b => mk.step hW hB nd (by omega) hp r ((Ex.of s).trans ex) b
  · have hk : k = ds0.length := by omega
    subst hk
    obtain ⟨ds, a1, a2, a3, a4, a5⟩ := mk.done hB nd
    exact .inl ⟨⟨xs, ys, q, q', .inl (by rw [rs.len]; exact Nat.le_refl _)⟩, fin ds _ H' a1 a2 a3 a4 a5⟩
theorem k_lcZL {i j : Nat} {vs : List Nat} {ds0 : List D} {v0 w0 : V} (W : Addr → Prop) (hW : ∀ a, W a → G.M a) (hn : ds0.length ≤ 1000) (hB : G.B H) (r0 : Rep K G.M H (.lst ds0) v0) (r1 : Rep K G.M H (.lst ds0) w0) (P : Nat → D → Prop)
    (hw : ∀ x y, wipe (((wipe σ vs).set i (some x)).set j (some y)) vs = wipe σ vs)
    (body : ∀ d k x0 a b H', ds0[k]? = some x0 → H d = none → (G.plus d).B H' → Ex (G.plus d).M (upd H d (.lst [])) H' → Rep K (G.plus d).M H' x0 a → Rep K (G.plus d).M H' x0 b → ∀ Q' : VK, (∀ x v H4, P k x → Rep K (G.plus d).M H4 x v → Ex W H' H4 → (G.plus d).B H4 → Q' v H4) → te (((wipe σ vs).set i (some a)).set j (some b)) H' Q')
    (fin : ∀ ds v H', ds.length = ds0.length → (∀ k x, ds[k]? = some x → P k x) → Rep K G.M H' (.lst ds) v → Ex W H H' → G.B H' → Q v H') :
    ∃ a b xs ys, [v0, w0] = [V.ref a, V.ref b] ∧ ((SqL K H a xs ∧ SqL K H b ys ∧ LcEnd (gPair K i j) tYes te vs σ Q (Itz K a b) H) ∨ (SqT K H a xs ∧ SqT K H b ys ∧ LcEnd (gPair K i j) tYes te vs σ Q (ItzT K a b) H)) := by
  obtain ⟨a, xs, rfl, nm, hr, rs⟩ := lst_of r0
  obtain ⟨b, ys, rfl, nm', hr', rs'⟩ := lst_of r1
  refine ⟨a, b, xs, ys, rfl, .inl ⟨.inl hr, .inl hr', fun d nd => ?_⟩⟩
  refine ⟨fun k m H' => m = ds0.length - k ∧ k ≤ ds0.length ∧ Mk1 K G W H P d k H', ⟨ds0.length, by simp, Nat.zero_le _, Mk1.start hB nd⟩, ?_⟩
  rintro k m H' ⟨rfl, hi, mk⟩
  have q : SqL K H' a xs := .inl (rd_up (fun z => nm (hW a z)) mk.e hr)
  have q' : SqL K H' b ys := .inl (rd_up (fun z => nm' (hW b z)) mk.e hr')
  by_cases hlt : k < ds0.length
  · obtain ⟨x, e1, e2⟩ := rs.at (List.getElem?_eq_getElem hlt)
    obtain ⟨y, e1', e2'⟩ := rs'.at (List.getElem?_eq_getElem hlt)
    refine .inr ⟨⟨xs, ys, x, y, q, q', e1, e1'⟩, fun H2 => Mk1 K G W H P d (k + 1) H2, fun H2 p' => ⟨ds0.length - (k + 1), by omega, rfl, hlt, p'⟩, ?_⟩
    rintro v H2 ⟨T, x', y', rfl, nT, rfl, hx, hy⟩
    obtain rfl : x' = x := Option.some.inj ((hx xs q).symm.trans e1)
    obtain rfl : y' = y := Option.some.inj ((hy ys q').symm.trans e1')
    refine ⟨T, [x', y'], rfl, .inl (.inl upd_same), rfl, x', [y'], rfl, y', [], rfl, rfl, hw _ _, ?_⟩
    show (if true = true then _ else Mk1 K G W H P d (k + 1) (upd H' T (.tup [x', y'])))
    rw [if_pos rfl]
    have s := same_upd (o := .tup [x', y']) nT
    have b2 := (G.plus d).st _ _ mk.bp s
    have ep := (mk.ep hW nd).trans (Ex.of s)
    have nts := Bg.nt (Mk1.bp (K := K) (W := W) (P := P) (Mk1.start hB nd))
    have e3 := (e2.enter hB nd).upC nts ep
    have e3' := (e2'.enter hB nd).upC nts ep
    exact body d k _ x' y' _ (List.getElem?_eq_getElem hlt) nd b2 ep e3 e3' _ fun z v H4 hp r ex b => mk.step hW hB nd (by omega) hp r ((Ex.of s).trans ex) b
  · have hk : k = ds0.length := by omega
    subst hk
    obtain ⟨ds, a1, a2, a3, a4, a5⟩ := mk.done hB nd
    exact .inl ⟨⟨xs, ys, q, q', .inl (by rw [rs.len]; exact Nat.le_refl _)⟩, fin ds _ H' a1 a2 a3 a4 a5⟩
end
/-! ### data that _law_same may be asked of: so deep at most, no instances within -/
def okD : Nat → D → Bool
  | 0, _ => false
  | n + 1, .tup ds => decide (ds.length ≤ 1000) && ds.all (okD n)
  | n + 1, .lst ds => decide (ds.length ≤ 1000) && ds.all (okD n)
  | _ + 1, .ins _ _ _ => false
  | _ + 1, _ => true
theorem okD_at {n : Nat} {ds : List D} {i : Nat} {x : D} (h : ds.all (okD n) = true) (e : ds[i]? = some x) : okD n x = true := List.all_eq_true.mp h x (List.mem_of_getElem? e)
theorem all_true {ds : List D} (p : ∀ (k : Nat) (x : D), ds[k]? = some x → x = .bl true) : ds = (List.replicate ds.length true).map .bl := by
  apply List.ext_getElem?
  intro k
  by_cases hk : k < ds.length
  · have h1 : ds[k]? = some ds[k] := List.getElem?_eq_getElem hk
    rw [h1, p k _ h1, List.getElem?_map, List.getElem?_replicate, if_pos hk]
    rfl
  · rw [List.getElem?_eq_none (by omega), List.getElem?_eq_none (by simp; omega)]
theorem rep_all (n : Nat) : (List.replicate n true).all id = true := by
  rw [List.all_eq_true]
  intro x h
  rw [(List.mem_replicate.mp h).2]
  rfl
section
variable {K : PySem.W.Frag} {M : Addr → Prop} {H : Hp} {σ : L2.St} {ta tb : TE} {Q : VK} {v : V} {d : D}
theorem v_eqV (ha : Val ta σ H v) (hb : Val tb σ H v) (hs : scal v v = true := by rfl) : Val (tOp rEq ta tb) σ H (.bl true) := fun _ q => ha _ (hb _ ⟨hs, by rw [decide_eq_true rfl]; exact q⟩)
theorem v_neV (ha : Val ta σ H v) (hb : Val tb σ H v) (hs : scal v v = true := by rfl) : Val (tOp rNe ta tb) σ H (.bl false) := fun _ q => ha _ (hb _ ⟨hs, by rw [decide_eq_true rfl]; exact q⟩)
def kitB2 (t a b : String) : Option Bool := match kitB t a with
  | some true => some true
  | some false => kitB t b
  | none => none
theorem kitB2_any {K : PySem.W.Frag} {t a b : String} {r : Bool} (h : kitB2 t a b = some r) : PySem.W.kitAny K (.type t) [.type a, .type b] = some r := by
  unfold kitB2 at h
  unfold PySem.W.kitAny
  cases e : kitB t a with
  | none => rw [e] at h; cases h
  | some x =>
    rw [e] at h
    rw [kit_ty e]
    cases x with
    | true => exact h
    | false =>
      unfold PySem.W.kitAny
      cases e2 : kitB t b with
      | none =>
        have h' : kitB t b = some r := h
        rw [e2] at h'; cases h'
      | some y =>
        have h' : kitB t b = some r := h
        rw [e2] at h'
        cases h'
        rw [kit_ty e2]
        cases r <;> rfl
/-- isinstance(x, (a, b)): two built-in types -/
theorem f_isi2 {A B ty : String} {b : Bool} (r : Rep K M H d v) (hk : kitB2 ty A B = some b) (q : ∀ p, H p = none → Q (.bl b) (upd H p (.tup [.ty A, .ty B]))) (ht : tyN d = ty := by rfl) (n : ∀ C ns ds, d ≠ .ins C ns ds := by intro _ _ _ z; cases z) :
    (∀ p, H p = none → rIsiT K [v, .ref p] (upd H p (.tup [.ty A, .ty B])) Q) := fun p hp => by
  have s := same_upd (o := .tup [.ty A, .ty B]) hp
  subst ht
  refine ⟨v, p, [.ty A, .ty B], _, [.type A, .type B], b, rfl, upd_same, .cons (.ty A) (.cons (.ty B) .nil), ?_, kitB2_any hk, q p hp⟩
  have r' : Rep K noM H d v := r.widen fun _ _ _ m => m.elim
  exact tyx_of (r'.upC (fun _ _ m => m.elim) (Ex.of s)) n
theorem k_isi2 {A B ty : String} {b : Bool} (ha : Val ta σ H v) (r : Rep K M H d v) (hk : kitB2 ty A B = some b) (q : ∀ p, H p = none → Q (.bl b) (upd H p (.tup [.ty A, .ty B]))) (ht : tyN d = ty := by rfl) (n : ∀ C ns ds, d ≠ .ins C ns ds := by intro _ _ _ z; cases z) :
    tCB (rIsiT K) (tCons ta (tCons (tTup (tCons (tC (.ty A)) (tCons (tC (.ty B)) tNil))) tNil)) σ H Q := ha _ ⟨by show 2 ≤ sizeLine; decide, fun p hp => f_isi2 r hk q ht n p hp⟩
theorem pg_tupK {X : Cx} {es : List Expr} {k : Nat} {t : TGs} {n : Nat} {pos : Pos} {K : PySem.W.Frag} (hc : X.calm = true) (h : PGs X es t) (hK : X.K = K := by rfl) (hn : (assignEach es X.env).length = n := by rfl) (hst : (assignEach es X.env).findIdx? (·.1) = none := by rfl) : PG X (.Tuple es k pos) (gTup K n t) := hK ▸ pg_tup hc h hn hst
end
/-! ### loops -/
section
variable {K : PySem.W.Frag} {G : Bg} {H : Hp} {σ : L2.St} {tb : TS} {D' : Ends}
def ForEnd (g : TG) (tb : TS) (D' : Ends) (σ : L2.St) (J : It) (H1 : Hp) : Prop := ∃ W : Nat → Nat → L2.St → Hp → Prop, (∃ m, W 0 m σ H1) ∧ ∀ i m σ H, W i m σ H →
  (J.stop i H ∧ D'.nx σ H) ∨ (J.go i H ∧ ∃ N : L2.St → Hp → Prop, (∀ σ' H', N σ' H' → ∃ m', m' < m ∧ W (i + 1) m' σ' H') ∧ ∀ x H', J.yld i H x H' → g x σ H' fun σ2 H2 => tb { D' with nx := N, ct := N, bk := D'.nx } σ2 H2)
theorem k_for_l {g : TG} {ta : TE} (q : ta σ H fun x H1 => ∃ a, x = V.ref a ∧ (∃ xs, SqL K H1 a xs) ∧ ForEnd g tb D' σ (Itl K a) H1) : tFor (iList K ta) g tb D' σ H := q
theorem k_for_r {g : TG} {tr : TA} (q : tr σ H fun xs H1 => ∃ j : Int, xs = [V.int j] ∧ -(2 ^ 62) ≤ j ∧ j < 2 ^ 62 ∧ ForEnd g tb D' σ (Itr 0 j.toNat) H1) : tFor (iRng1 tr) g tb D' σ H := q
theorem k_forL {j : Nat} {ds0 : List D} {v0 : V} (W : Addr → Prop) (hW : ∀ a, W a → G.M a) (hB : G.B H) (r0 : Rep K G.M H (.lst ds0) v0) (I : Nat → L2.St → Prop) (h0 : I 0 σ)
    (body : ∀ (i : Nat) (x0 : D) (w0 : V) (σ1 : L2.St) (H1 : Hp), ds0[i]? = some x0 → I i σ1 → G.B H1 → Ex W H H1 → Rep K G.M H1 x0 w0 → ∀ D2 : Ends, (∀ σ2 H2, I (i + 1) σ2 → Ex W H1 H2 → G.B H2 → D2.nx σ2 H2) → tb D2 (σ1.set j (some w0)) H1)
    (fin : ∀ σ1 H1, I ds0.length σ1 → Ex W H H1 → G.B H1 → D'.nx σ1 H1) : ∃ a, v0 = .ref a ∧ (∃ xs, SqL K H a xs) ∧ ForEnd (gName j) tb D' σ (Itl K a) H := by
  obtain ⟨a, xs, rfl, nm, hr, rs⟩ := lst_of r0
  refine ⟨a, rfl, ⟨xs, .inl hr⟩, ?_⟩
  refine for_list (K := K) (a := a) (xs := xs) (fun i σ1 H1 => I i σ1 ∧ Ex W H H1 ∧ G.B H1) ⟨h0, Ex.refl _ _, hB⟩ (fun i σ1 H1 _ ⟨_, e, _⟩ => .inl (rd_up (fun z => nm (hW a z)) e hr)) (fun i w σ1 H1 hi ⟨hI, e, b⟩ => ?_) (fun σ1 H1 ⟨hI, e, b⟩ => fin σ1 H1 (by rw [rs.len] at hI; exact hI) e b)
  have hl : i < ds0.length := by
    rw [← rs.len]
    exact (List.getElem?_eq_some_iff.mp hi).1
  obtain ⟨w', e1, e2⟩ := (rs.up hB (e.imp hW)).at (List.getElem?_eq_getElem hl)
  rw [hi] at e1
  cases e1
  exact body i _ w σ1 H1 (List.getElem?_eq_getElem hl) hI b e e2 _ fun σ2 H2 hI2 e3 b2 => ⟨hI2, e.trans e3, b2⟩
theorem k_forR {j n : Nat} (W : Addr → Prop) (hW : ∀ a, W a → G.M a) (hB : G.B H) (I : Nat → L2.St → Prop) (h0 : I 0 σ) (hn : n ≤ 1000)
    (body : ∀ (i : Nat) (σ1 : L2.St) (H1 : Hp), i < n → I i σ1 → G.B H1 → Ex W H H1 → ∀ D2 : Ends, (∀ σ2 H2, I (i + 1) σ2 → Ex W H1 H2 → G.B H2 → D2.nx σ2 H2) → tb D2 (σ1.set j (some (.int (i : Int)))) H1)
    (fin : ∀ σ1 H1, I n σ1 → Ex W H H1 → G.B H1 → D'.nx σ1 H1) {z : Int} (hz : z = (n : Int)) : ∃ i : Int, [V.int z] = [V.int i] ∧ -(2 ^ 62) ≤ i ∧ i < 2 ^ 62 ∧ ForEnd (gName j) tb D' σ (Itr 0 i.toNat) H := by
  subst hz
  refine ⟨(n : Int), rfl, by omega, by omega, ?_⟩
  have e : ((n : Int)).toNat = n := by omega
  rw [e]
  refine for_range (lo := 0) (n := n) (fun i σ1 H1 => I i σ1 ∧ Ex W H H1 ∧ G.B H1) ⟨h0, Ex.refl _ _, hB⟩ (fun i σ1 H1 hi ⟨hI, e, b⟩ => ?_) (fun σ1 H1 ⟨hI, e, b⟩ => fin σ1 H1 hI e b)
  rw [show (0 : Int) + (i : Int) = (i : Int) by omega]
  exact body i σ1 H1 hi hI b e _ fun σ2 H2 hI2 e3 b2 => ⟨hI2, e.trans e3, b2⟩
end
end Px

namespace Px
open PySem PySem.Spec PyProof.Rows L2
/-! ### -x of an own class -/
section
variable {X : Cx} {CX : CXT} {k : Nat} {f C : Addr} {fd : FuncData} {ps : List Str} {sp : Sp} {E : XK}
def rOwn1 (C : Addr) (sp : Sp) (E : XK) : V → Hp → VK → Prop := fun x H Q => ∃ a dx fs, x = .ref a ∧ H a = some (.ins C dx fs) ∧ sp [x] H Q E
theorem special_K {prog : Program} {w : World} {A : Around} {E : Value → Shared → Prop} {s : Shared} {K : PySem.W.Frag} {x C f : Addr} {ox : Obj} {od : Option Obj} {name : Str} {Q : Option Value → Shared → Prop} (X : K.In s.heap) (I : PySem.W.InstAt s.heap x ox C od) (hs : PySem.W.findIn K (.ref C) name = some (some (.ref f))) (hf : PySem.W.isFn K (.ref f) = true)
    (h : wpAny (model prog w) A (call (.ref f) [.ref x]) (fun v => Q (some v)) E s) : wpAny (model prog w) A (callSpecial? (.ref x) name) Q E s := by
  unfold callSpecial?
  refine wpAny_bind (wpAny_bind (I.type.here ((PySem.W.looks_findIn X hs).here ?_)))
  refine wpAny_holding (wpAny_bind ((PySem.W.bind_fn X _ (beq_iff_eq.mp hf)).here ?_))
  refine wpAny_bind (wpAny_mono h (fun v s' h' => ?_) fun _ _ h' => h')
  exact wpAny_pure h'
theorem un_own (Fo : FnOk X.prog X.w X.K X.mg X.base CX k f fd ps sp) (room : Room k X.A) (hb : Binds X.K fd ps []) (px : Passes CX X E)
    (at_ : PySem.W.findIn X.K (.ref C) "__neg__" = some (some (.ref f))) (isf : PySem.W.isFn X.K (.ref f) = true) : UnR X (unaryOp .USub) (rOwn1 C sp E) := by
  rintro pins s σ H x v Q I rx ⟨a, dx, fs, rfl, ha, q⟩
  obtain rfl : v = Value.ref a := rx
  obtain ⟨m, F⟩ := I.fr
  obtain ⟨mA, O, _⟩ := ins_get I.hok ha
  obtain ⟨od, J, _⟩ := O.look
  unfold unaryOp
  refine wpAny_holding ?_
  show wpAny _ _ (do
    match ← callSpecial? (.ref a) "__neg__" with
    | some r => pure r
    | none => raiseError "TypeError" s!"bad operand type for unary {"-"}: '{← typeNameOf (.ref a)}'") _ _ _
  refine wpAny_bind (special_K I.kIn J at_ isf ?_)
  refine wpAny_mono (run_fn (us := [.ref a]) (vs := [.ref a]) (dvs := []) Fo room hb .nil px I (.cons rfl .nil) q) (fun r s' h => ?_) fun _ _ z => z
  exact wpAny_pure h
end
section
variable {K : PySem.W.Frag} {M : Addr → Prop} {H : Hp} {σ : L2.St} {te ta tb : TE} {Q : VK} {v : V} {d : D}
theorem k_un {r : V → Hp → VK → Prop} (q : ta σ H fun x H1 => r x H1 Q) : tUn r ta σ H Q := q
theorem f_own1 {C : Addr} {ns : List Str} {ds : List D} {sp : Sp} {E : XK} (r : Rep K M H (.ins C ns ds) v) (q : sp [v] H Q E) : rOwn1 C sp E v H Q := by
  obtain ⟨a, dx, fs, rfl, _, h, e, rs⟩ := ins_of r
  exact ⟨a, dx, fs, rfl, h, q⟩
variable {G : Bg}
/-! ### tuples put together and cut -/
theorem Reps.app {M : Addr → Prop} {H : Hp} : ∀ {ds es : List D} {xs ys : List V}, Reps K M H ds xs → Reps K M H es ys → Reps K M H (ds ++ es) (xs ++ ys)
  | [], _, _, _, h, r => by rw [nil_of h]; exact r
  | d :: ds, _, _, _, h, r => by
    obtain ⟨w, t, rfl, h1, h2⟩ := cons_of h
    exact rcons h1 (Reps.app h2 r)
theorem Reps.drop {M : Addr → Prop} {H : Hp} : ∀ {ds : List D} {xs : List V} (n : Nat), Reps K M H ds xs → Reps K M H (ds.drop n) (xs.drop n)
  | _, _, 0, r => by rw [List.drop_zero, List.drop_zero]; exact r
  | [], _, n + 1, r => by rw [nil_of r]; exact rnil
  | d :: ds, _, n + 1, r => by
    obtain ⟨w, ws, rfl, r1, r2⟩ := cons_of r
    exact Reps.drop n r2
theorem f_catT {ds es : List D} {v w : V} (hB : G.B H) (r : Rep K G.M H (.tup ds) v) (r' : Rep K G.M H (.tup es) w) (q : ∀ u H', Rep K G.M H' (.tup (ds ++ es)) u → Same H H' → G.B H' → Q u H') (hl : Nat.ble (ds.length + es.length) 1000 = true := by rfl) : rCatA K v w H Q := by
  obtain ⟨a, xs, rfl, h, rs⟩ := tup_of r
  obtain ⟨b, ys, rfl, h', rs'⟩ := tup_of r'
  have l1 := rs.len
  have l2 := rs'.len
  have ll := Nat.le_of_ble_eq_true hl
  refine ⟨a, b, xs, ys, rfl, rfl, h, h', Nat.le_trans (by omega : xs.length + ys.length ≤ 1000) (by decide), fun e => ?_, fun _ e => ?_, fun _ _ p hp => ?_⟩
  · subst e
    have : ds = [] := by
      cases ds with
      | nil => rfl
      | cons _ _ => simp at l1
    subst this
    exact q _ _ r' (Same.refl _) hB
  · subst e
    have : es = [] := by
      cases es with
      | nil => rfl
      | cons _ _ => simp at l2
    subst this
    rw [List.append_nil] at q
    exact q _ _ r (Same.refl _) hB
  · have s := same_upd (o := .tup (xs ++ ys)) hp
    exact q _ _ (rtup (.inl (.inl upd_same)) ((rs.app rs').up hB (Ex.of s))) s (G.st _ _ hB s)
theorem f_slTt {n : Nat} {ds : List D} {v : V} (hB : G.B H) (r : Rep K G.M H (.tup ds) v) (q : ∀ u H', Rep K G.M H' (.tup (ds.take n)) u → Same H H' → G.B H' → Q u H') : rSlA K v none (some (n : Int)) H Q := by
  obtain ⟨a, xs, rfl, h, rs⟩ := tup_of r
  have l1 := rs.len
  refine ⟨a, xs, rfl, h, fun e => ?_, fun _ p hp => ?_⟩
  · rw [HT.sIx_nat] at e
    have e2 := e.2
    have : ds.take n = ds := List.take_of_length_le (by omega)
    rw [this] at q
    exact q _ _ r (Same.refl _) hB
  · rw [cutV_take]
    have s := same_upd (o := .tup (xs.take n)) hp
    exact q _ _ (rtup (.inl (.inl upd_same)) ((rs.take n).up hB (Ex.of s))) s (G.st _ _ hB s)
theorem f_slTd {n : Nat} {ds : List D} {v : V} (hB : G.B H) (r : Rep K G.M H (.tup ds) v) (q : ∀ u H', Rep K G.M H' (.tup (ds.drop n)) u → Same H H' → G.B H' → Q u H') (hnb : Nat.ble n ds.length = true := by rfl) : rSlA K v (some (n : Int)) none H Q := by
  have hn := Nat.le_of_ble_eq_true hnb
  obtain ⟨a, xs, rfl, h, rs⟩ := tup_of r
  have l1 := rs.len
  refine ⟨a, xs, rfl, h, fun e => ?_, fun _ p hp => ?_⟩
  · rw [HT.sIx_nat] at e
    have e1 := e.1
    have : ds.drop n = ds := by
      by_cases z : n = 0
      · subst z; exact List.drop_zero
      · have : ds.length = 0 := by omega
        cases ds with
        | nil => exact List.drop_nil
        | cons _ _ => simp at this
    rw [this] at q
    exact q _ _ r (Same.refl _) hB
  · have e : cutV xs (some (n : Int)) none = xs.drop n := by
      unfold cutV
      rw [HT.sIx_none, HT.sIx_nat, Nat.min_eq_left (by omega)]
      exact List.take_of_length_le (by rw [List.length_drop]; omega)
    rw [e]
    have s := same_upd (o := .tup (xs.drop n)) hp
    exact q _ _ (rtup (.inl (.inl upd_same)) ((rs.drop n).up hB (Ex.of s))) s (G.st _ _ hB s)
end
end Px

namespace Px
open PySem PySem.Spec PyProof.Rows L2
/-! ### lists that change -/
/-- the value is a list made between the two heaps (or no address) -/
def Own (H H' : Hp) (v : V) : Prop := ∀ p, v = .ref p → H p = none ∧ ∃ xs, H' p = some (.lst xs)
theorem own_ref {H H' : Hp} {p : Addr} {xs : List V} (h : H p = none) (h' : H' p = some (.lst xs)) : Own H H' (.ref p) := fun q e => by cases e; exact ⟨h, xs, h'⟩
theorem own_non {H H' : Hp} : Own H H' .non := fun q e => by cases e
theorem none_back {H0 H : Hp} {p : Addr} (s : Same H0 H) (n : H p = none) : H0 p = none := by
  cases h : H0 p with
  | none => rfl
  | some o =>
    have h1 := s _ _ h
    rw [n] at h1
    cases h1
theorem Own.at {H0 H H' H2 : Hp} {v : V} (f : Own H H' v) (s : Same H0 H) (s' : Same H' H2) : Own H0 H2 v := fun p e => by
  obtain ⟨n, xs, h⟩ := f p e
  exact ⟨none_back s n, xs, s' _ _ h⟩
theorem same_changed {H0 H : Hp} {p : Addr} {o : HO} (s : Same H0 H) (n : H0 p = none) : Same H0 (upd H p o) := fun a u e => by
  rw [upd_ne (ne_of_none e n)]
  exact s _ _ e
mutual
/-- no list within -/
def noList : D → Bool
  | .lst _ => false
  | .tup ds => noLists ds
  | .ins _ _ ds => noLists ds
  | _ => true
def noLists : List D → Bool
  | [] => true
  | d :: ds => noList d && noLists ds
end
section
variable {K : PySem.W.Frag} {G : Bg} {H : Hp} {p : Addr}
mutual
theorem Rep.lf {ys : List V} (hp : H p = some (.lst ys)) : ∀ {d : D} {v : V}, noList d = true → Rep K G.M H d v → Rep K (G.plus p).M H d v
  | .non, _, _, r => by unfold Rep at *; exact r
  | .bl _, _, _, r => by unfold Rep at *; exact r
  | .int _, _, _, r => by unfold Rep at *; exact r
  | .str _, _, _, r => by unfold Rep at *; exact r
  | .tup ds, v, n, r => by
    unfold noList at n
    obtain ⟨a, xs, rfl, h, rs⟩ := tup_of r
    exact rtup h (Reps.lf hp n rs)
  | .lst ds, v, n, r => by unfold noList at n; cases n
  | .ins C ns ds, v, n, r => by
    unfold noList at n
    obtain ⟨a, dx, fs, rfl, nm, h, e, rs⟩ := ins_of r
    refine rins (fun m => ?_) h e (Reps.lf hp n rs)
    rcases m with m | m
    · exact nm m
    · subst m; rw [hp] at h; cases h
theorem Reps.lf {ys : List V} (hp : H p = some (.lst ys)) : ∀ {ds : List D} {xs : List V}, noLists ds = true → Reps K G.M H ds xs → Reps K (G.plus p).M H ds xs
  | [], _, _, r => by rw [nil_of r]; exact rnil
  | d :: ds, _, n, r => by
    unfold noLists at n
    rw [Bool.and_eq_true] at n
    obtain ⟨w, ws, rfl, r1, r2⟩ := cons_of r
    exact rcons (Rep.lf hp n.1 r1) (Reps.lf hp n.2 r2)
end
/-- what stood ahead of the list at p -/
theorem Rep.past {d : D} {v : V} (n : H p = none) (r : Rep K G.M H d v) : Rep K (G.plus p).M H d v := r.widen fun a o e m => by
  rcases m with m | m
  · exact m
  · subst m; rw [n] at e; cases e
theorem Rep.pastUp {H0 : Hp} {d : D} {v : V} (b : G.B H0) (n : H0 p = none) (r : Rep K G.M H0 d v) (s : Same H0 H) : Rep K (G.plus p).M H d v := by
  refine (r.past n).upC (fun a xs m h => ?_) (Ex.of s)
  rcases m with m | m
  · exact Bg.nt b a xs m h
  · subst m
    rcases h with h | ⟨o, h⟩ <;> (rw [n] at h; cases h)
theorem own_at {H0 H : Hp} {v : V} {ds : List D} (f : Own H0 H v) (r : Rep K G.M H (.lst ds) v) : ∃ q xs, v = .ref q ∧ H0 q = none ∧ H q = some (.lst xs) ∧ xs.length = ds.length := by
  obtain ⟨q, xs, rfl, _, h, rs⟩ := lst_of r
  obtain ⟨n, ys, hy⟩ := f q rfl
  refine ⟨q, ys, rfl, n, hy, ?_⟩
  rcases h with h | ⟨o, h⟩ <;> rw [hy] at h <;> cases h
  exact rs.len
theorem Bg.plusB {ys : List V} (b : G.B H) (hp : H p = some (.lst ys)) : (G.plus p).B H := ⟨b, ys, hp⟩
theorem Bg.changed {H0 : Hp} {ys : List V} (b0 : G.B H0) (n0 : H0 p = none) (b : (G.plus p).B H) : (G.plus p).B (upd H p (.lst ys)) :=
  ⟨G.fr H0 p b0 n0 H _ b.1 b.2 fun a o h z => by rw [upd_ne z]; exact h, ys, upd_same⟩
theorem ex_changed {ys : List V} : Ex (G.plus p).M H (upd H p (.lst ys)) := fun a o h z => by rw [upd_ne fun e => z (.inr e)]; exact h
end
section
variable {K : PySem.W.Frag} {G : Bg} {H : Hp} {σ : L2.St} {te ta tb : TE} {Q : VK} {W : Addr → Prop} {v : V}
theorem k_lcTF {j : Nat} {vs : List Nat} {ds0 : List D} {v0 : V} (W : Addr → Prop) (hW : ∀ a, W a → G.M a) (hn : ds0.length ≤ 1000) (hB : G.B H) (r0 : Rep K G.M H (.tup ds0) v0) (P : Nat → D → Prop) (hw : ∀ x, wipe ((wipe σ vs).set j (some x)) vs = wipe σ vs)
    (body : ∀ d i x0 w0 H', ds0[i]? = some x0 → H d = none → (G.plus d).B H' → Ex (G.plus d).M (upd H d (.lst [])) H' → Rep K (G.plus d).M H' x0 w0 → ∀ Q' : VK, (∀ x v H4, P i x → Rep K (G.plus d).M H4 x v → Ex W H' H4 → (G.plus d).B H4 → Q' v H4) → te ((wipe σ vs).set j (some w0)) H' Q')
    (fin : ∀ ds v H', ds.length = ds0.length → (∀ k x, ds[k]? = some x → P k x) → Rep K G.M H' (.lst ds) v → Ex W H H' → G.B H' → Own H H' v → Q v H') :
    ∃ a, v0 = .ref a ∧ (∃ xs, SqT K H a xs) ∧ (∀ D, H D = none → ∃ Wi : Nat → Nat → Hp → Prop, (∃ m, Wi 0 m (upd H D (.lst []))) ∧ ∀ i' m H, Wi i' m H →
      ((Itt K a).stop i' H ∧ Q (.ref D) H) ∨ ((Itt K a).go i' H ∧ ∃ Nx : Hp → Prop, (∀ H', Nx H' → ∃ m', m' < m ∧ Wi (i' + 1) m' H') ∧ ∀ x H', (Itt K a).yld i' H x H' → gName j x (wipe σ vs) H' fun σ2 H2 => wipe σ2 vs = wipe σ vs ∧ tYes σ2 H2 fun b H3 =>
        if b = true then te σ2 H3 fun y H4 => ∃ acc, H4 D = some (.lst acc) ∧ acc.length < sizeLine ∧ Nx (upd H4 D (.lst (acc ++ [y]))) else Nx H3)) := by
  obtain ⟨a, xs, rfl, sq, rs⟩ := tup_of r0
  refine ⟨a, rfl, ⟨xs, sq⟩, fun d nd => ?_⟩
  refine lc_tup (K := K) (a := a) (xs := xs) (fun i H' => Mk1 K G W H P d i H') (Mk1.start hB nd) (fun i H' _ m => ?_) (fun i w H' hi m => ?_) (fun H' m => ?_)
  · exact sqT_upC (fun b ys z => Bg.nt hB b ys (hW b z)) m.e sq
  · have hil : i < ds0.length := by
      rw [← rs.len]
      exact (List.getElem?_eq_some_iff.mp hi).1
    obtain ⟨w', e1, e2⟩ := rs.at (List.getElem?_eq_getElem hil)
    rw [hi] at e1
    cases e1
    have e3 := (e2.enter hB nd).upC (Bg.nt (Mk1.bp (K := K) (W := W) (P := P) (Mk1.start hB nd))) (m.ep hW nd)
    refine ⟨hw _, ?_⟩
    show (if true = true then _ else Mk1 K G W H P d (i + 1) H')
    rw [if_pos rfl]
    exact body d i _ w H' (List.getElem?_eq_getElem hil) nd m.bp (m.ep hW nd) e3 _ fun x v H4 hp r ex b => m.step hW hB nd (by omega) hp r ex b
  · have hl := rs.len
    rw [hl] at m
    obtain ⟨ds, a1, a2, a3, a4, a5⟩ := m.done hB nd
    exact fin ds _ H' a1 a2 a3 a4 a5 (own_ref nd m.a.choose_spec.choose_spec.1)
theorem k_lcTFE {j : Nat} {vs : List Nat} {ds0 : List D} {v0 : V} (W : Addr → Prop) (hW : ∀ a, W a → G.M a) (hn : ds0.length ≤ 1000) (hB : G.B H) (r0 : Rep K G.M H (.tup ds0) v0) (P : Nat → D → Prop) (hw : ∀ x, wipe ((wipe σ vs).set j (some x)) vs = wipe σ vs)
    (body : ∀ d i x0 w0 H', ds0[i]? = some x0 → H d = none → (G.plus d).B H' → Ex (G.plus d).M (upd H d (.lst [])) H' → Rep K (G.plus d).M H' x0 w0 → ∀ Q' : VK, (∀ x v H4, P i x → Rep K (G.plus d).M H4 x v → Ex W H' H4 → (G.plus d).B H4 → Q' v H4) → te ((wipe σ vs).set j (some w0)) H' Q')
    (fin : ∀ ds v H', ds.length = ds0.length → (∀ k x, ds[k]? = some x → P k x) → Rep K G.M H' (.lst ds) v → Ex W H H' → G.B H' → Own H H' v → Q v H') :
    ∃ a, v0 = .ref a ∧ (∃ xs, SqT K H a xs) ∧ LcEnd (gName j) tYes te vs σ Q (Itt K a) H := k_lcTF W hW hn hB r0 P hw body fin
theorem f_listTF {ds : List D} (hB : G.B H) (r : Rep K G.M H (.tup ds) v) (q : ∀ w H', Rep K G.M H' (.lst ds) w → Same H H' → G.B H' → Own H H' w → Q w H') : LstOf K Q [v] H := by
  obtain ⟨a, xs, rfl, h, rs⟩ := tup_of r
  refine ⟨a, xs, rfl, .inr h, fun p hp => ?_⟩
  have s := same_upd (o := .lst xs) hp
  exact q _ _ (rlst (nm_new hB hp) (.inl upd_same) (rs.up hB (Ex.of s))) s (G.st _ _ hB s) (own_ref hp upd_same)
theorem f_listLF {ds : List D} (hB : G.B H) (r : Rep K G.M H (.lst ds) v) (q : ∀ w H', Rep K G.M H' (.lst ds) w → Same H H' → G.B H' → Own H H' w → Q w H') : LstOf K Q [v] H := by
  obtain ⟨a, xs, rfl, _, h, rs⟩ := lst_of r
  refine ⟨a, xs, rfl, .inl (.inl h), fun p hp => ?_⟩
  have s := same_upd (o := .lst xs) hp
  exact q _ _ (rlst (nm_new hB hp) (.inl upd_same) (rs.up hB (Ex.of s))) s (G.st _ _ hB s) (own_ref hp upd_same)
end
end Px

namespace Px
open PySem PySem.Spec PyProof.Rows L2
/-! ### over a tuple of pairs; lists that a loop makes; max, index -/
theorem k_drop {te : TE} {D' : Ends} {σ : L2.St} {H : Hp} (q : te σ H fun _ H1 => D'.nx σ H1) : tDrop te D' σ H := q
section
variable {K : PySem.W.Frag} {G : Bg} {H : Hp} {σ : L2.St} {te ta tb : TE} {Q : VK} {W : Addr → Prop} {v : V}
theorem k_bm {T : String} {r : V → List V → Hp → VK → Prop} {to : TE} {t : TA} (q : to σ H fun x H1 => tyV K T x H1 ∧ t σ H1 fun xs H2 => r x xs H2 Q) : tBM K T r to t σ H Q := q
theorem ints_of {M : Addr → Prop} : ∀ {ns : List Int} {xs : List V}, Reps K M H (ns.map D.int) xs → xs = ns.map V.int
  | [], _, r => nil_of r
  | n :: ns, _, r => by
    obtain ⟨w, ws, rfl, r1, r2⟩ := cons_of r
    rw [int_of r1, ints_of r2]
    rfl
theorem f_max {M : Addr → Prop} {ns : List Int} (m : Int) (r : Rep K M H (.lst (ns.map D.int)) v) (hm : m ∈ ns) (h : ∀ y, y ∈ ns → y ≤ m) (q : Q (.int m) H) : rMax K [v] H Q := by
  obtain ⟨a, xs, rfl, _, hs, rs⟩ := lst_of r
  rw [ints_of rs] at hs
  refine ⟨a, ns, rfl, .inl hs, List.length_pos_of_mem hm, fun m' h1 h2 => ?_⟩
  have e : m' = m := Int.le_antisymm (h m' h1) (h2 m hm)
  subst e
  exact q
theorem cr_maxK {X : Cx} {K : PySem.W.Frag} (hc : X.calm = true) (h : X.K = K := by rfl) : CallR X (.builtin "max") (rMax K) := h ▸ cr_max hc
theorem mt_indexK {X : Cx} {K : PySem.W.Frag} (h : X.K = K := by rfl) : MtR X "list.index" (rIndex K) := h ▸ mt_index
theorem flat_ints (ns : List Int) : (ns.map V.int).all flatV = true := by
  rw [List.all_eq_true]
  intro x h
  obtain ⟨i, _, rfl⟩ := List.mem_map.mp h
  rfl
theorem f_index {M : Addr → Prop} {ns : List Int} {i : Int} (j : Nat) (r : Rep K M H (.lst (ns.map D.int)) v) (hj : ns[j]? = some i) (hno : ∀ m : Nat, m < j → ns[m]? ≠ some i) (q : Q (.int (j : Nat)) H) : rIndex K v [.int i] H Q := by
  obtain ⟨a, xs, rfl, _, hs, rs⟩ := lst_of r
  rw [ints_of rs] at hs
  refine ⟨a, ns.map V.int, .int i, j, .int i, rfl, rfl, .inl hs, rfl, flat_ints ns, by rw [List.getElem?_map, hj]; rfl, by show (i == i) = true; exact beq_self_eq_true i, fun m z' hm hz => ?_, q⟩
  rw [List.getElem?_map, Option.map_eq_some_iff] at hz
  obtain ⟨k, h1, rfl⟩ := hz
  show (k == i) = false
  rw [beq_eq_false_iff_ne]
  intro e
  subst e
  exact hno m hm h1
theorem ty_list {M : Addr → Prop} {ds : List D} (r : Rep K M H (.lst ds) v) : tyV K "list" v H := by
  obtain ⟨a, xs, rfl, _, hs, rs⟩ := lst_of r
  exact .inl ⟨rfl, xs, .inl hs⟩
theorem ty_at {p : Addr} {xs : List V} (h : H p = some (.lst xs)) : tyV K "list" (.ref p) H := .inl ⟨rfl, xs, .inl (.inl h)⟩
/-- [e for i, j in xs], xs a tuple of pairs of ints -/
theorem k_lcTP {i j : Nat} {vs : List Nat} {ps : List (Int × Int)} {v0 : V} (hn : ps.length ≤ 1000) (hB : G.B H) (r0 : Rep K G.M H (.tup (ps.map fun p => .tup [.int p.1, .int p.2])) v0) (P : Nat → D → Prop)
    (hw : ∀ x y, wipe (((wipe σ vs).set i (some x)).set j (some y)) vs = wipe σ vs)
    (body : ∀ d k p q H', ps[k]? = some (p, q) → H d = none → (G.plus d).B H' → Ex (G.plus d).M (upd H d (.lst [])) H' → ∀ Q' : VK, (∀ x v H4, P k x → Rep K (G.plus d).M H4 x v → Ex noM H' H4 → (G.plus d).B H4 → Q' v H4) → te (((wipe σ vs).set i (some (.int p))).set j (some (.int q))) H' Q')
    (fin : ∀ ds v H', ds.length = ps.length → (∀ k x, ds[k]? = some x → P k x) → Rep K G.M H' (.lst ds) v → Ex noM H H' → G.B H' → Q v H') :
    ∃ a, v0 = .ref a ∧ (∃ xs, SqT K H a xs) ∧ LcEnd (gTup K 2 (gCons (gName i) (gCons (gName j) gNil))) tYes te vs σ Q (Itt K a) H := by
  obtain ⟨a, xs, rfl, sq, rs⟩ := tup_of r0
  have hW : ∀ a, noM a → G.M a := fun _ m => m.elim
  refine ⟨a, rfl, ⟨xs, sq⟩, fun d nd => ?_⟩
  refine lc_tup (K := K) (a := a) (xs := xs) (fun i H' => Mk1 K G noM H P d i H') (Mk1.start hB nd) (fun i H' _ m => ?_) (fun k w H' hi m => ?_) (fun H' m => ?_)
  · exact sqT_upC (fun b ys z => z.elim) m.e sq
  · have hil : k < ps.length := by
      have h1 := (List.getElem?_eq_some_iff.mp hi).1
      rw [rs.len, List.length_map] at h1
      exact h1
    have e0 : (ps.map fun p => D.tup [.int p.1, .int p.2])[k]? = some (.tup [.int ps[k].1, .int ps[k].2]) := by rw [List.getElem?_map, List.getElem?_eq_getElem hil]; rfl
    obtain ⟨w', e1, e2⟩ := rs.at e0
    rw [hi] at e1
    cases e1
    have e3 := (e2.enter hB nd).upC (Bg.nt (Mk1.bp (K := K) (W := noM) (P := P) (Mk1.start hB nd))) (m.ep hW nd)
    obtain ⟨b, ys, rfl, sq2, rs2⟩ := tup_of e3
    obtain ⟨x1, t1, rfl, rx1, rt1⟩ := cons_of rs2
    obtain ⟨y1, t2, rfl, ry1, rt2⟩ := cons_of rt1
    cases nil_of rt2
    cases int_of rx1
    cases int_of ry1
    refine ⟨b, _, rfl, sq2, rfl, _, _, rfl, _, _, rfl, rfl, hw _ _, ?_⟩
    show (if true = true then _ else Mk1 K G noM H P d (k + 1) H')
    rw [if_pos rfl]
    exact body d k _ _ H' (List.getElem?_eq_getElem hil) nd m.bp (m.ep hW nd) _ fun x v H4 hp r ex b => m.step hW hB nd (by omega) hp r ex b
  · have hl := rs.len
    rw [hl, List.length_map] at m
    obtain ⟨ds, a1, a2, a3, a4, a5⟩ := m.done hB nd
    exact fin ds _ H' a1 a2 a3 a4 a5
variable {D' : Ends} {tbs : TS}
/-- a list that a loop over a range appends to, once a turn -/
theorem k_forMk {j n : Nat} {H0 : Hp} {d : Addr} (hB : G.B H0) (nd : H0 d = none) (P : Nat → D → Prop) (m0 : Mk1 K G noM H0 P d 0 H) (I : Nat → L2.St → Prop) (h0 : I 0 σ) (hn : n ≤ 1000)
    (body : ∀ (i : Nat) (zi : Int) (σ1 : L2.St) (H1 : Hp), i < n → zi = (i : Int) → I i σ1 → (G.plus d).B H1 → Ex (G.plus d).M (upd H0 d (.lst [])) H1 → ∀ D2 : Ends,
      (∀ σ2 x v H4, I (i + 1) σ2 → P i x → Rep K (G.plus d).M H4 x v → Ex noM H1 H4 → (G.plus d).B H4 → ∃ acc, H4 d = some (.lst acc) ∧ acc.length < sizeLine ∧ D2.nx σ2 (upd H4 d (.lst (acc ++ [v])))) → tbs D2 (σ1.set j (some (.int zi))) H1)
    (fin : ∀ σ1 ds H1, I n σ1 → ds.length = n → (∀ k x, ds[k]? = some x → P k x) → Rep K G.M H1 (.lst ds) (.ref d) → Ex noM H0 H1 → G.B H1 → Own H0 H1 (.ref d) → D'.nx σ1 H1) {z : Int} (hz : z = (n : Int)) :
    ∃ i : Int, [V.int z] = [V.int i] ∧ -(2 ^ 62) ≤ i ∧ i < 2 ^ 62 ∧ ForEnd (gName j) tbs D' σ (Itr 0 i.toNat) H := by
  subst hz
  refine ⟨(n : Int), rfl, by omega, by omega, ?_⟩
  have e : ((n : Int)).toNat = n := by omega
  rw [e]
  have hW : ∀ a, noM a → G.M a := fun _ m => m.elim
  refine for_range (lo := 0) (n := n) (fun i σ1 H1 => I i σ1 ∧ Mk1 K G noM H0 P d i H1) ⟨h0, m0⟩ (fun i σ1 H1 hi ⟨hI, m⟩ => ?_) (fun σ1 H1 ⟨hI, m⟩ => ?_)
  · rw [show (0 : Int) + (i : Int) = (i : Int) by omega]
    refine body i _ σ1 H1 hi rfl hI m.bp (m.ep hW nd) _ fun σ2 x v H4 hI2 hp r ex b => ?_
    obtain ⟨acc, h1, h2, h3⟩ := m.step hW hB nd (by omega) hp r ex b
    exact ⟨acc, h1, h2, hI2, h3⟩
  · obtain ⟨ds, a1, a2, a3, a4, a5⟩ := m.done hB nd
    exact fin σ1 ds H1 hI a1 a2 a3 a4 a5 (own_ref nd m.a.choose_spec.choose_spec.1)
/-- the list at d is new and still empty -/
theorem Mk1.still {P : Nat → D → Prop} {d : Addr} {H0 H1 : Hp} (hB : G.B H0) (nd : H0 d = none) (s : Same (upd H0 d (.lst [])) H1) (b : G.B H1) : Mk1 K G noM H0 P d 0 H1 :=
  ⟨⟨[], [], s _ _ upd_same, rnil, rfl, fun k x h => by simp at h⟩, (Ex.of (same_upd nd)).trans (Ex.of s), b⟩
end
theorem pair_of {a b c d : Int} (h : some (a, b) = some (c, d)) : c = a ∧ d = b := by
  cases h
  exact ⟨rfl, rfl⟩
theorem app_at {D2 : Ends} {σ2 : L2.St} {H4 : Hp} {d : Addr} {v : V} (h : ∃ acc, H4 d = some (.lst acc) ∧ acc.length < sizeLine ∧ D2.nx σ2 (upd H4 d (.lst (acc ++ [v])))) :
    ∃ l xs w, V.ref d = .ref l ∧ [v] = [w] ∧ H4 l = some (.lst xs) ∧ xs.length < sizeLine ∧ D2.nx σ2 (upd H4 l (.lst (xs ++ [w]))) := by
  obtain ⟨acc, h1, h2, h3⟩ := h
  exact ⟨d, acc, v, rfl, rfl, h1, h2, h3⟩
end Px

namespace Px
open PySem PySem.Spec PyProof.Rows L2
/-! ### tables made of four -/
abbrev tbD (C : Addr) (a b c d : Rat) : D := .ins C ["a", "b", "c", "d"] [fr a, fr b, fr c, fr d]
/-! ### kinds -/
inductive Kd where
  | slanted | turned | mirrored | stretched | sized | even
  deriving DecidableEq
def kdS : Kd → Str
  | .slanted => "slanted"
  | .turned => "turned"
  | .mirrored => "mirrored"
  | .stretched => "stretched"
  | .sized => "sized"
  | .even => "even"
def ownN : Kd → Nat
  | .slanted => 4
  | .turned => 2
  | .mirrored => 2
  | .stretched => 2
  | .sized => 1
  | .even => 1
/-- for each entry of a kind's tables: which own number, times what -/
def entsK : Kd → List (Int × Int)
  | .slanted => [(0, 1), (1, 1), (2, 1), (3, 1)]
  | .turned => [(0, 1), (1, -1), (1, 1), (0, 1)]
  | .mirrored => [(0, 1), (1, 1), (1, 1), (0, -1)]
  | .stretched => [(0, 1), (0, 0), (0, 0), (1, 1)]
  | .sized => [(0, 1), (0, 0), (0, 0), (0, 1)]
  | .even => [(0, 1), (0, 0), (0, 0), (0, 1)]
def plcD (k : Kd) : D := .tup ((entsK k).map fun p => .tup [.int p.1, .int p.2])
/-- a table's four entries -/
structure Tb where
  a : Rat
  b : Rat
  c : Rat
  d : Rat
  deriving DecidableEq
abbrev tbT (t : Tb) : D := .tup [fr t.a, fr t.b, fr t.c, fr t.d]
abbrev tbI (C : Addr) (t : Tb) : D := tbD C t.a t.b t.c t.d
/-- the own numbers, as a list of so many of four -/
def nums : Kd → Rat → Rat → Rat → Rat → List Rat
  | .slanted, a, b, c, d => [a, b, c, d]
  | .turned, a, b, _, _ => [a, b]
  | .mirrored, a, b, _, _ => [a, b]
  | .stretched, a, b, _, _ => [a, b]
  | .sized, a, _, _, _ => [a]
  | .even, a, _, _, _ => [a]
def filled : Kd → Rat → Rat → Rat → Rat → Tb
  | .slanted, a, b, c, d => ⟨a, b, c, d⟩
  | .turned, a, b, _, _ => ⟨a, -b, b, a⟩
  | .mirrored, a, b, _, _ => ⟨a, b, b, -a⟩
  | .stretched, a, b, _, _ => ⟨a, 0, 0, b⟩
  | .sized, a, _, _, _ => ⟨a, 0, 0, a⟩
  | .even, a, _, _, _ => ⟨a, 0, 0, a⟩
/-- the own numbers, read off -/
def offA : Kd → Tb → Rat := fun _ t => t.a
def offB : Kd → Tb → Rat
  | .slanted, t => t.b
  | .turned, t => t.c
  | .mirrored, t => t.c
  | .stretched, t => t.d
  | _, t => t.d
def read (k : Kd) (t : Tb) : Tb := filled k (offA k t) (offB k t) t.c t.d
def fitsB (k : Kd) (t : Tb) : Bool := decide (read k t = t)
abbrev numsD (k : Kd) (a b c d : Rat) : D := .lst ((nums k a b c d).map fr)
def mulT (s t : Tb) : Tb := ⟨s.a * t.a + s.b * t.c, s.a * t.b + s.b * t.d, s.c * t.a + s.d * t.c, s.c * t.b + s.d * t.d⟩
def dlt (i j : Nat) : Rat := if i = j then 1 else 0
def unitT (k : Kd) (i : Nat) : Tb := filled k (dlt 0 i) (dlt 1 i) (dlt 2 i) (dlt 3 i)
def units (k : Kd) : List Tb := (List.range (ownN k)).map (unitT k)
def staysB (k : Kd) (t : Tb) (f : Kd) : Bool := (units k).all fun u => fitsB f (mulT u t)
/-- every table of a kind is the sum of its units' multiples -/
theorem stays_all {k f : Kd} {t : Tb} (h : staysB k t f = true) (a b c d : Rat) : fitsB f (mulT (filled k a b c d) t) = true := by
  cases k <;> cases f <;> simp only [staysB, units, ownN, List.range, List.range.loop, List.map, List.all_cons, List.all_nil, Bool.and_true, Bool.and_eq_true, fitsB, decide_eq_true_eq, unitT, filled, dlt, mulT, read, offA, offB, Tb.mk.injEq] at h ⊢ <;> grind
theorem mul_assocT (u t s : Tb) : mulT (mulT u t) s = mulT u (mulT t s) := by
  simp only [mulT, Tb.mk.injEq]
  grind
theorem chain_ok {k f l : Kd} {t s : Tb} (h1 : staysB k t f = true) (h2 : staysB f s l = true) : staysB k (mulT t s) l = true := by
  unfold staysB at h1 ⊢
  rw [List.all_eq_true] at h1 ⊢
  intro u hu
  have e : read f (mulT u t) = mulT u t := of_decide_eq_true (h1 u hu)
  have h4 := stays_all h2 (offA f (mulT u t)) (offB f (mulT u t)) (mulT u t).c (mulT u t).d
  have e' : filled f (offA f (mulT u t)) (offB f (mulT u t)) (mulT u t).c (mulT u t).d = mulT u t := e
  rw [e', mul_assocT] at h4
  exact h4
def oneT : Tb := ⟨1, 0, 0, 1⟩
def zeroT : Tb := ⟨0, 0, 0, 0⟩
def narrowP (k o : Kd) : Bool := if k = .sized ∧ o = .even then false else staysB k oneT o
def narrowL (k o : Kd) : Bool := if o = .even then decide (k = .even) else staysB k oneT o
theorem narrow_eq (k o : Kd) : narrowP k o = narrowL k o := by
  cases k <;> cases o <;> decide +kernel
theorem stays_zero (k o : Kd) : staysB k zeroT o = true := by
  cases k <;> cases o <;> decide +kernel
theorem stays_one_even (k : Kd) : staysB k oneT .even = decide (k = .sized ∨ k = .even) := by
  cases k <;> decide +kernel
/-- a sized table, times the table -/
theorem stays_sized (t : Tb) (k : Kd) : staysB .sized t k = fitsB k t := by
  have e : mulT (unitT .sized 0) t = t := by
    simp only [mulT, unitT, filled, dlt]
    cases t
    simp only [Tb.mk.injEq]
    grind
  show ((List.range 1).map (unitT .sized)).all (fun u => fitsB k (mulT u t)) = _
  show (fitsB k (mulT (unitT .sized 0) t) && true) = _
  rw [e, Bool.and_true]
/-- what own_numbers answers -/
def ownD (k : Kd) (t : Tb) : D := if fitsB k t = true then numsD k (offA k t) (offB k t) t.c t.d else .non
theorem own_none (k : Kd) (t : Tb) : (!noneD (ownD k t)) = fitsB k t := by
  unfold ownD
  cases h : fitsB k t with
  | true => rw [if_pos rfl]; rfl
  | false => rw [if_neg Bool.false_ne_true]; rfl
def SzT (n : Nat) (t : Tb) : Prop := SzR n t.a ∧ SzR n t.b ∧ SzR n t.c ∧ SzR n t.d
theorem SzT.mono {a b : Nat} {t : Tb} (h : SzT a t) (l : a ≤ b) : SzT b t := ⟨h.1.mono l, h.2.1.mono l, h.2.2.1.mono l, h.2.2.2.mono l⟩
theorem szr_dlt (i j : Nat) : SzR 1 (dlt i j) := by
  unfold dlt
  split
  · exact szr_lit 1 1
  · exact szr_lit 1 0
theorem szr_zero {n : Nat} (h : 1 ≤ n) : SzR n 0 := (szr_lit 1 0).mono h
theorem szT_filled {n : Nat} {a b c d : Rat} (k : Kd) (h : 1 ≤ n) (ha : SzR n a) (hb : SzR n b) (hc : SzR n c) (hd : SzR n d) : SzT n (filled k a b c d) := by
  cases k <;> refine ⟨?_, ?_, ?_, ?_⟩ <;> first | assumption | exact szr_neg (by assumption) | exact szr_zero h
theorem szT_mul {n m r : Nat} {s t : Tb} (h : SzT n s) (k : SzT m t) (l : 2 * n + 2 * m + 1 ≤ r) : SzT r (mulT s t) :=
  ⟨szr_add (szr_mul h.1 k.1 (Nat.le_refl _)) (szr_mul h.2.1 k.2.2.1 (Nat.le_refl _)) (by omega), szr_add (szr_mul h.1 k.2.1 (Nat.le_refl _)) (szr_mul h.2.1 k.2.2.2 (Nat.le_refl _)) (by omega),
    szr_add (szr_mul h.2.2.1 k.1 (Nat.le_refl _)) (szr_mul h.2.2.2 k.2.2.1 (Nat.le_refl _)) (by omega), szr_add (szr_mul h.2.2.1 k.2.1 (Nat.le_refl _)) (szr_mul h.2.2.2 k.2.2.2 (Nat.le_refl _)) (by omega)⟩
theorem szT_unit {k : Kd} {u : Tb} (h : u ∈ units k) : SzT 1 u := by
  unfold units at h
  rw [List.mem_map] at h
  obtain ⟨i, _, rfl⟩ := h
  exact szT_filled k (Nat.le_refl 1) (szr_dlt 0 i) (szr_dlt 1 i) (szr_dlt 2 i) (szr_dlt 3 i)
theorem eqv_tb (t u : Tb) : PyData.eqv (toPd (tbT t)) (toPd (tbT u)) = decide (t = u) := by
  have h : PyData.eqv (toPd (tbT t)) (toPd (tbT u)) = (PyData.eqv (toPd (fr t.a)) (toPd (fr u.a)) && (PyData.eqv (toPd (fr t.b)) (toPd (fr u.b)) && (PyData.eqv (toPd (fr t.c)) (toPd (fr u.c)) && (PyData.eqv (toPd (fr t.d)) (toPd (fr u.d)) && true)))) := by
    rw [tbT, tbT]
    conv => lhs; rw [toPd, toPd, toPds, toPds, toPds, toPds, toPds, toPds, toPds, toPds, toPds, toPds]
    rw [PyData.eqv, PyData.eqvAll, PyData.eqvAll, PyData.eqvAll, PyData.eqvAll, PyData.eqvAll]
  rw [h, eqv_fr, eqv_fr, eqv_fr, eqv_fr]
  cases t; cases u
  simp only [Tb.mk.injEq, Bool.and_true, Bool.decide_and]
theorem mul_m1 (y : Rat) : y * (-1) = -y := by grind
theorem units_len (k : Kd) : (units k).length ≤ 1000 := by
  unfold units
  rw [List.length_map, List.length_range]
  cases k <;> decide
theorem units_get {α : Type} {k : Kd} {e : Tb → α} {i : Nat} {x : α} (h : ((units k).map e)[i]? = some x) : ∃ u, (units k)[i]? = some u ∧ x = e u ∧ SzT 1 u := by
  rw [List.getElem?_map, Option.map_eq_some_iff] at h
  obtain ⟨u, h1, rfl⟩ := h
  exact ⟨u, h1, rfl, szT_unit (List.mem_of_getElem? h1)⟩
theorem all_units {k : Kd} {p : Tb → Bool} : ((units k).map p).all id = (units k).all p := by
  rw [List.all_map]
  rfl
theorem even_of {o : Kd} (h : decide (kdS o = ("even" : Str)) = true) : o = .even := by
  have e := of_decide_eq_true h
  cases o <;> first | rfl | exact absurd e (by decide +kernel)
theorem not_even {o : Kd} (h : decide (kdS o = ("even" : Str)) = false) (e : o = .even) : False := by
  subst e
  exact of_decide_eq_false h rfl
theorem fr_b2i (i j : Nat) : (.tup [.int (b2i (decide ((i : Int) = (j : Int)))), .int 1] : D) = fr (dlt i j) := by
  unfold dlt
  by_cases e : i = j
  · subst e
    rw [if_pos rfl, decide_eq_true rfl]
    rfl
  · rw [if_neg e, decide_eq_false (by omega)]
    rfl
theorem narrowL_even {k o : Kd} (h : decide (kdS o = ("even" : Str)) = true) : decide (kdS k = ("even" : Str)) = narrowL k o := by
  unfold narrowL
  rw [if_pos (even_of h)]
  cases k <;> decide +kernel
theorem narrowL_not {k o : Kd} (h : decide (kdS o = ("even" : Str)) = false) : staysB k oneT o = narrowL k o := by
  unfold narrowL
  rw [if_neg (not_even h)]
def kinds : List Kd := [.slanted, .turned, .mirrored, .stretched, .sized, .even]
theorem ownN_le (k : Kd) : ownN k ≤ 1000 := by cases k <;> decide
theorem nums_of {k : Kd} {n : Nat} {ds : List D} (h1 : 1 ≤ n) (h : ds.length = ownN k) (p : ∀ (i : Nat) (x : D), ds[i]? = some x → ∃ q, x = fr q ∧ SzR n q) :
    ∃ ra rb rc rd : Rat, D.lst ds = numsD k ra rb rc rd ∧ SzR n ra ∧ SzR n rb ∧ SzR n rc ∧ SzR n rd := by
  have z : SzR n 0 := szr_zero h1
  match ds, h, p with
  | [], h, p => cases k <;> cases h
  | [x], h, p =>
    obtain ⟨a, rfl, ha⟩ := p 0 x rfl
    cases k <;> first | exact ⟨a, 0, 0, 0, rfl, ha, z, z, z⟩ | cases h
  | [x, y], h, p =>
    obtain ⟨a, rfl, ha⟩ := p 0 x rfl
    obtain ⟨b, rfl, hb⟩ := p 1 y rfl
    cases k <;> first | exact ⟨a, b, 0, 0, rfl, ha, hb, z, z⟩ | cases h
  | [x, y, u], h, p => cases k <;> cases h
  | [x, y, u, v], h, p =>
    obtain ⟨a, rfl, ha⟩ := p 0 x rfl
    obtain ⟨b, rfl, hb⟩ := p 1 y rfl
    obtain ⟨c, rfl, hc⟩ := p 2 u rfl
    obtain ⟨d, rfl, hd⟩ := p 3 v rfl
    cases k <;> first | exact ⟨a, b, c, d, rfl, ha, hb, hc, hd⟩ | cases h
  | _ :: _ :: _ :: _ :: _ :: _, h, p => cases k <;> simp [ownN] at h
/-! ### a kind's table by its entries -/
theorem own_yes {k : Kd} {t : Tb} {x y z u : Rat} (e : decide (filled k x y z u = t) = true) : D.lst ((nums k x y z u).map fr) = ownD k t := by
  have e' := of_decide_eq_true e
  subst e'
  have h : fitsB k (filled k x y z u) = true := by cases k <;> exact decide_eq_true rfl
  unfold ownD
  rw [if_pos h]
  cases k <;> rfl
theorem own_no {k : Kd} {t : Tb} {x y z u : Rat} (g : fitsB k t = true → filled k x y z u = t) (e : decide (filled k x y z u = t) = false) : D.non = ownD k t := by
  unfold ownD
  rw [if_neg]
  intro h
  exact of_decide_eq_false e (g h)
theorem fits_eq {k : Kd} {t : Tb} (h : fitsB k t = true) : read k t = t := of_decide_eq_true h
theorem back_slanted {t : Tb} : fitsB .slanted t = true → filled .slanted t.a t.b t.c t.d = t := fun _ => rfl
theorem back_turned {t : Tb} {z u : Rat} : fitsB .turned t = true → filled .turned t.a (-t.b) z u = t := fun h => by
  have e := fits_eq h
  cases t
  simp only [read, filled, offA, offB, Tb.mk.injEq] at e ⊢
  grind
theorem back_mirrored {t : Tb} {z u : Rat} : fitsB .mirrored t = true → filled .mirrored t.a t.b z u = t := fun h => by
  have e := fits_eq h
  cases t
  simp only [read, filled, offA, offB, Tb.mk.injEq] at e ⊢
  grind
theorem back_stretched {t : Tb} {z u : Rat} : fitsB .stretched t = true → filled .stretched t.a t.d z u = t := fun h => by
  have e := fits_eq h
  cases t
  simp only [read, filled, offA, offB, Tb.mk.injEq] at e ⊢
  grind
theorem back_sized {t : Tb} {y z u : Rat} : fitsB .sized t = true → filled .sized t.a y z u = t := fun h => by
  have e := fits_eq h
  cases t
  simp only [read, filled, offA, offB, Tb.mk.injEq] at e ⊢
  grind
theorem back_even {t : Tb} {y z u : Rat} : fitsB .even t = true → filled .even t.a y z u = t := fun h => by
  have e := fits_eq h
  cases t
  simp only [read, filled, offA, offB, Tb.mk.injEq] at e ⊢
  grind
theorem mul_1 (y : Rat) : y * (1 : Rat) = y := Rat.mul_one y
theorem mul_0 (y : Rat) : y * (0 : Rat) = 0 := Rat.mul_zero y
end Px

namespace Px
open PySem PySem.Spec PyProof.Rows L2
/-! ### an own error without parameters: super().__init__(..), self.code = .. -/
/-- what the written part says of the class x at C, whose __init__ is the def at fI; cc: its class cell -/
structure ErrC (prog : Program) (w : World) (K : PySem.W.Frag) (C fI : Addr) (body : List Stmt) (scope : Scope) : Prop where
  cls : ∃ nm q N bs bm sn sub ab col dd k0 k1 k2 k3 k5, K.lookup C = some (excClassObj nm q C N bs bm true sn sub ab col dd k0 k1 k2 k3 k5 "ValueError.__new__") ∧ PySem.HandSPX.refsVE bm = true
  fn : ∃ oc od qual params dV kV doc pm an cda ct osl cc ccl cdd vs ccs file tf cl cld csl, K.lookup fI = some ⟨oc, od, .func (PySem.W.ksFn "__init__" qual params body scope dV kV doc pm an (.ref cda) ct cc), osl⟩ ∧ PySem.W.codeIn K (.ref cda) qual = true ∧
    K.lookup cda = some ⟨ccl, cdd, .fields vs, ccs⟩ ∧ vs[2]? = some (.str file tf) ∧ ((prog.main.file : Str) == file) = true ∧ K.lookup cc = some ⟨cl, cld, .cell (some (.ref C)), csl⟩ ∧
    (params.posonlyargs ++ params.args).head?.map (·.arg) = some "self" ∧ ∀ (s : Shared) (v : Value), BindsTo s (PySem.W.ksFn "__init__" qual params body scope dV kV doc pm an (.ref cda) ct cc) ⟨[v], []⟩ [("self", v)]
  iC : PySem.W.findIn K (.ref C) "__init__" = some (some (.ref fI))
  tI : PySem.W.typeIn K (.ref fI) = some (.type "function")
  sup : PySem.W.ks_superIn K C C "__init__" = some (some (.builtin "ValueError.__init__"))
  sub : PySem.W.subIn K (.ref C) (.type "ValueError") = some true
  own : PySem.W.mroIn K C (.ref C) = some true
  opq : PySem.W.nsIn K PySem.cStatics "thirdparty.any" = some none
  sa : PySem.W.findIn K (.ref C) "__setattr__" = some (some (.builtin "object.__setattr__"))
  ex1 : PySem.W.excInitIn K C PySem.HandSPX.veTail "ValueError.__new__" = true
  ex2 : PySem.W.excOver K C PySem.HandSPX.veTail = true
  tk : PySem.W.takerIn K C "code" = some none
  hd : PySem.W.hasDictIn K C = true
  exC : PySem.W.subIn K (.ref C) (.type "BaseException") = some true
  tyC : PySem.W.typeIn K (.ref C) = some (.type "type")
  kC : PySem.W.keepIn K (.ref C) = true
  kind : scope.kind = .function
  co : scope.isCoroutine = false
  gen : scope.isGenerator = false
  nocell : ∀ x ∈ scope.names, x.2 ≠ .cell
  nself : scope.names.lookup ("self" : Str) = some .local
  nsup : scope.names.lookup ("super" : Str) = some .globalImplicit
  ncls : scope.names.lookup ("__class__" : Str) = some .free
  top : (prog.main.scope.names.lookup ("super" : Str)).isSome = false
section
open PySem.W
variable {prog : Program} {w : World} {A : Around} {R : Result → Shared → Prop} {K : Frag} {C fI e t0 : Addr} {scope : Scope} {hp h2 : Heap} {g : Array GenState} {d : Drawn} {t : Nat} {os : OsState} {mg mb : Str → Option Value}
theorem dict1 {h : Heap} {dx : Addr} {n : Str} {t1 t2 : Tok} {hs : Int} {z : Str} {k : Nat} (e : h.get? dx = some (dictOf [⟨hs, .str n t1, .str z t2⟩] k)) : h.Ns1 dx (fun y => if y = n then some (.str z t2) else none) := by
  refine ⟨_, _, _, e, rfl, ?_, ?_, fun y => ?_⟩
  · intro x hx
    simp only [List.mem_toArray, List.mem_cons, List.not_mem_nil, or_false] at hx
    subst hx
    exact ⟨n, t1, rfl⟩
  · exact List.pairwise_singleton _ _
  · show nsFind _ y = if y = n then some (.str z t2) else none
    by_cases h : y = n
    · subst h
      rw [if_pos rfl]
      simp [nsFind, findBy, Value.isStr]
    · rw [if_neg h]
      have h' : ¬ n = y := fun z => h z.symm
      simp [nsFind, findBy, Value.isStr, h, h']
theorem err_init {m cs : Str} {p0 p1 p2 p3 p4 p5 p6 p7 p8 p9 : Pos} {j1 j2 : Nat}
    (T : ErrC prog w K C fI [.Expr (.Call (.Attribute (.Call (.Name "super" p0) [] [] p1) "__init__" p2) [.Constant (.str m) j1 p3] [] p4) p5, .Assign [.Attribute (.Name "self" p6) "code" p7] (.Constant (.str cs) j2 p8) p9] scope)
    (hev : ∀ env : Env, ∃ pl : Sem Bool, eval (.Call (.Attribute (.Call (.Name "super" p0) [] [] p1) "__init__" p2) [.Constant (.str m) j1 p3] [] p4) env = (do
      let ov ← attributeBase (.Call (.Name "super" p0) [] [] p1) "__init__" env (eval (.Call (.Name "super" p0) [] [] p1) env)
      standAt p2.atName
      let (f, first) ← holding [ov] (getMethod ov "__init__" pl)
      callWith p4 f first (backTo p4 (starEach [.Constant (.str m) j1 p3] env)) []))
    (hcw : ∀ env : Env, backTo p4 (starEach [.Constant (.str m) j1 p3] env) = [(false, eval (.Constant (.str m) j1 p3) env)])
    (KX : K.In hp) (hg : hp.Ns mainGlobals mg) (hs0 : mg "super" = none) (hb : hp.Ns builtinsNs mb) (hb0 : mb "super" = bootBuiltins "super") (lim : hp.NoLimit) (room : A.depth < recursionLimit)
    (k2 : ∀ b o, hp.get? b = some o → h2.get? b = some o) (le : hp.objs.size ≤ h2.objs.size) (he : h2.get? e = some (excObj C t0 none .none)) (hne : hp.get? e = none)
    (hq : ∀ h' tk tk' dx t1, (∀ b o, hp.get? b = some o → h'.get? b = some o) → h'.get? e = some (excObj C t1 (some dx) .none) → hp.get? dx = none → e < dx → h'.Ns1 dx (fun y => if y = "code" then some (.str cs tk') else none) → R (.ok (.ret .none)) ⟨h', g, d, tk, os⟩) :
    codeAny (model prog w) A (.call (.ref fI) ⟨[.ref e], []⟩) R ⟨h2, g, d, t, os⟩ := by
  obtain ⟨oc, od, qual, params, dV, kV, doc, pm, an, cda, ct, osl, cc, ccl, cdd, vs, ccs, file, tf, cl, cld, csl, lI, hcd, lc, hvs, hfile, lcc, hpar, hbind⟩ := T.fn
  obtain ⟨ar, har, hself⟩ := Option.map_eq_some_iff.mp hpar
  obtain ⟨nm, q, N0, bs, bm, sn, sub, ab, col, dd, k0, k1, k20, k3, k5, hC, hbm⟩ := T.cls
  have KX2 : K.In h2 := KX.keeps k2
  refine ks_codeAny_call_defAt (binds := [("self", Value.ref e)]) room (KX2 _ _ lI) rfl (lim.keeps k2) (codeRec_of KX2 hcd) rfl (hbind _ _) T.nocell (fun x hx => ?_) (fun h1 hns hk1 => ?_) T.co T.gen T.kind
  · simp only [List.mem_cons, List.not_mem_nil, or_false] at hx
    subst hx
    exact T.nself
  have F1 : Fr hp h2.objs.size h1 (fun y => [(("self" : Str), Value.ref e)].reverse.lookup y) := ⟨hns, fun b o q => hk1 _ _ (k2 b o q), le⟩
  have N1 : News hp h2.objs.size h1 [(e, excObj C t0 none .none)] := fun p hm => by
    simp only [List.mem_cons, List.not_mem_nil, or_false] at hm
    subst hm
    exact ⟨hk1 _ _ he, Nat.ne_of_lt (Heap.lt_size he), hne⟩
  have X1 : K.In h1 := KX.keeps F1.keep
  have look : (fun y => [(("self" : Str), Value.ref e)].reverse.lookup y) ("self" : Str) = some (.ref e) := rfl
  obtain ⟨pl, hpl⟩ := hev (ksEnv qual scope h2.objs.size fI (.ref cda) cc)
  have hint : interactive (ksEnv qual scope h2.objs.size fI (.ref cda) cc) = false := by
    have z : (ksEnv qual scope h2.objs.size fI (.ref cda) cc).scope.kind = .function := T.kind
    unfold interactive
    rw [z]
    rfl
  refine ks_wpAt_execs_cons (ks_wpAt_Expr_any (env := ksEnv qual scope h2.objs.size fI (.ref cda) cc) (ks_wpAt_MethodCall (pl := pl) ?_ hpl) hint)
  refine ks_wpAt_super_base (env := ksEnv qual scope h2.objs.size fI (.ref cda) cc) T.nsup T.ncls rfl rfl (X1 _ _ lI) rfl har rfl (X1 _ _ lc) rfl hvs hfile T.top ?_
  refine ks_loadName_global T.kind T.nsup (PySem.Calls.loadGlobal_builtin (env := ksEnv qual scope h2.objs.size fI (.ref cda) cc) (hg.keeps F1.keep) hs0 (hb.keeps F1.keep) (hb0.trans PyProof.Rows.Boot.«super») ⟨rfl, ?_⟩)
  refine wpAny_loadName_free T.kind T.ncls rfl ⟨_, X1 _ _ lcc, rfl⟩ ?_
  rw [hself]
  refine wpAny_loadName_local T.kind T.nself F1.ns look ?_
  refine ks_wpAny_isType_cls (X1 _ _ hC) rfl ⟨rfl, ?_⟩
  have hx1 : h1.get? e = some (excObj C t0 none .none) := (N1 (e, excObj C t0 none .none) (List.mem_singleton.mpr rfl)).1
  refine ks_wpAny_call_super (X1 _ _ hC) rfl hx1 rfl (fun c z => by cases z) (looks_mroIn X1 T.own) (fun h3 e3 k3 => ?_)
  obtain ⟨F3, N3, l3⟩ := ks_newsPush (s := ⟨h1, g, d, t + 1, os⟩) F1 N1 rfl e3 k3
  have m3 : (e, excObj C t0 none .none) ∈ (h1.objs.size, ks_superObj C e C) :: [(e, excObj C t0 none .none)] := List.mem_cons_of_mem _ (List.mem_singleton.mpr rfl)
  refine kxs_method (i := "ValueError.__init__") kxs_ValueError F3 KX N3 (List.mem_cons_self ..) (InstAt.of_exc0 N3 m3) T.opq T.sup T.sub rfl (fun q4 h4 F4 N4 l4 => ?_)
  have n1 : q4 ≠ e := Nat.ne_of_gt (l4 _ m3)
  have n2 : h1.objs.size ≠ e := Nat.ne_of_gt (l3 _ (List.mem_singleton.mpr rfl))
  rw [hcw]
  refine kxs_callWith (i := "ValueError.__init__") (x := e) rfl (PySem.Calls.evalArgs_plain (PySem.Calls.spliced_cons (PySem.Calls.Constant_str (PySem.Calls.spliced_nil ⟨kxs_at N4 (List.mem_cons_self ..), ?_⟩))))
  refine kxs_call (bmB := PySem.HandSPX.veTail) (newId := "ValueError.__new__") (i := "ValueError.__init__") F4 KX N4 F.excBase_ValueError T.ex1 (List.mem_cons_self ..) (.tail n1 (.tail n2 (.head fun p h => nomatch h))) (by show 1 ≤ sizeLine; decide) (fun t5 h5 F5 N5 l5 => ?_)
  have n5 : t5 ≠ e := Nat.ne_of_gt (l5 _ (List.mem_cons_of_mem _ (List.mem_cons_of_mem _ (List.mem_singleton.mpr rfl))))
  refine ks_wpAt_execs_cons (ks_wpAt_Assign_Attr (wpAt_of_wpAny (PySem.Calls.Constant_str ?_)) rfl)
  refine wpAny_Name (wpAny_loadName_local T.kind T.nself F5.ns look ?_) (by decide)
  refine set_exc0 (bmB := PySem.HandSPX.veTail) F.store_ValueError F5 KX N5 (List.mem_cons_of_mem _ (List.mem_cons_of_mem _ (List.mem_cons_of_mem _ (List.mem_singleton.mpr rfl)))) T.sa T.ex2 T.tk T.hd rfl (.tail n5 (.tail n1 (.tail n2 (.head fun p h => nomatch h)))) (Nat.le_of_ble_eq_true rfl) (fun dx h6 F6 N6 l6 => ?_)
  refine wpAt_of_wpAny (wpAny_execs_nil ?_)
  have d6 := N6 (dx, _) (List.mem_cons_self ..)
  have e6 := N6 (e, excObj C t5 (some dx) .none) (List.mem_cons_of_mem _ (List.mem_cons_of_mem _ (List.mem_cons_of_mem _ (List.mem_cons_of_mem _ (List.mem_singleton.mpr rfl)))))
  exact hq h6 _ _ dx t5 F6.keep e6.1 d6.2.2 (l6 _ (List.mem_cons_of_mem _ (List.mem_cons_of_mem _ (List.mem_cons_of_mem _ (List.mem_singleton.mpr rfl))))) (dict1 d6.1)
end
/-- X() of such a class -/
def tErr0 (C : Addr) (cs : Str) : L2.St → Hp → XK → Prop := fun _ H Q => ∀ d, H d = none → Q (.ref C) (some d) (upd H d (.xd [("code", .str cs)]))
theorem pmk_err0 {X : Cx} {x m cs : Str} {C fI : Addr} {scope : Scope} {p pos p0 p1 p2 p3 p4 p5 p6 p7 p8 p9 : Pos} {j1 j2 k : Nat}
    (T : ErrC X.prog X.w X.K C fI [.Expr (.Call (.Attribute (.Call (.Name "super" p0) [] [] p1) "__init__" p2) [.Constant (.str m) j1 p3] [] p4) p5, .Assign [.Attribute (.Name "self" p6) "code" p7] (.Constant (.str cs) j2 p8) p9] scope)
    (hev : ∀ env : Env, ∃ pl : Sem Bool, eval (.Call (.Attribute (.Call (.Name "super" p0) [] [] p1) "__init__" p2) [.Constant (.str m) j1 p3] [] p4) env = (do
      let ov ← attributeBase (.Call (.Name "super" p0) [] [] p1) "__init__" env (eval (.Call (.Name "super" p0) [] [] p1) env)
      standAt p2.atName
      let (f, first) ← holding [ov] (getMethod ov "__init__" pl)
      callWith p4 f first (backTo p4 (starEach [.Constant (.str m) j1 p3] env)) []))
    (hcw : ∀ env : Env, backTo p4 (starEach [.Constant (.str m) j1 p3] env) = [(false, eval (.Constant (.str m) j1 p3) env)])
    (hr : Room (k + 1) X.A) (hg : Gl X x) (hm : X.mg x = some (.ref C)) (hs : X.mg "super" = none) (hdb : (x == ("__debug__" : Str)) = false := by decide) :
    PMk X (.Call (.Name x p) [] [] pos) (tErr0 C cs) := by
  intro pins s σ H Q I h
  obtain ⟨nm, q, N, bs, bm, sn, sub, ab, col, dd, k0, k1, k2, k3, k5, hC, hbm⟩ := T.cls
  obtain ⟨mb, hb, hb0⟩ := I.mod.blt
  refine wpAny_Call_Name_kw (ld_glob I hg hm ?_ hdb)
  refine PySem.W.callWith_K0 (first := []) I.kIn T.kC ?_
  obtain ⟨hp, g, dr, tk, os⟩ := s
  refine wpAny_call (PySem.HandSPX.call_own F.excBase_ValueError (fun Y => PySem.HandSPX.refsVE_contains Y bm hbm) (I.kIn _ _ hC) (PySem.W.looks_findIn I.kIn T.iC) (fun self => PySem.W.bind_fn I.kIn self T.tI) (Nat.zero_le _) ?_)
  have kk : ∀ b o, hp.get? b = some o → ((hp.push (PySem.W.kdv_tup [])).push (PySem.HandSPX.excO C hp.objs.size)).get? b = some o := fun b o e => Heap.get?_push_of_some _ (Heap.get?_push_of_some _ e)
  have hget : ((hp.push (PySem.W.kdv_tup [])).push (PySem.HandSPX.excO C hp.objs.size)).get? (hp.objs.size + 1) = some (PySem.HandSPX.excO C hp.objs.size) := by heap_get
  have hno : hp.get? (hp.objs.size + 1) = none := by
    cases z : hp.get? (hp.objs.size + 1) with
    | none => rfl
    | some o => exact absurd (Heap.lt_size z) (Nat.not_lt_of_le (Nat.le_succ _))
  refine err_init (hp := hp) (t0 := hp.objs.size) T hev hcw I.kIn (I.mod.glob.keeps I.bk) hs (hb.keeps I.bk) (hb0 _ (by decide)) I.nolimit (hr.make C [] []).depth kk (by rw [Heap.size_push, Heap.size_push]; omega) hget hno (fun h' tk1 tk' dx t1 keep hx hd hlt hn => ?_)
  obtain ⟨G, g1, g2⟩ := restrict h' fun b => decide (b ≠ hp.objs.size + 1)
  have gk : ∀ b, b ≠ hp.objs.size + 1 → G.get? b = h'.get? b := fun b hb => g1 b (decide_eq_true hb)
  have ge : G.get? (hp.objs.size + 1) = none := g2 _ (by simp)
  have old : ∀ b o, hp.get? b = some o → b ≠ hp.objs.size + 1 := fun b o z => Nat.ne_of_lt (Nat.lt_succ_of_lt (Heap.lt_size z))
  have ld : hp.objs.size ≤ dx := Nat.le_of_lt (Nat.lt_of_le_of_lt (Nat.le_succ _) hlt)
  have nd : dx ≠ hp.objs.size + 1 := Nat.ne_of_gt hlt
  have hnd : H dx = none := I.hok.fresh ld
  have ox : ObjOk X.prog X.w (upd H dx (.xd [("code", V.str cs)])) G dx (.xd [("code", V.str cs)]) := ⟨_, hn.at fun o z => (gk dx nd).trans z, fun f => relO_put (fs := []) (mA := fun _ => none) (show RelV (V.str cs) (.str cs tk') from ⟨tk', rfl⟩) (fun _ => True.intro) f⟩
  have J : Inv X pins σ (upd H dx (.xd [("code", V.str cs)])) ⟨G, g, dr, tk1, os⟩ := I.laid (t' := tk1) (a := dx) (o := .xd [("code", V.str cs)]) (h' := G) (fun b o z => (gk b (old b o z)).trans (keep b o z)) ld ox
  refine ⟨rfl, hp.objs.size + 1, _, _, ⟨G, g, dr, tk1, os⟩, _, .ref C, some dx, rfl, J, fun b o z => ?_, ge, hx, ⟨rfl, rfl⟩, rfl, rfl, ?_, rfl, I.bare, raises_own T.exC T.tyC, h dx hnd⟩
  · by_cases hb : b = hp.objs.size + 1
    · rw [hb, ge] at z
      cases z
    · exact (gk b hb).symm.trans z
  · rw [upd_ne (Ne.symm nd)]
    exact I.hok.fresh (Nat.le_succ _)
end Px

namespace Px
open PySem PySem.Spec PyProof.Rows L2
/-! ### try: body / except (A, B) as n: suite -/
theorem flying_up {B h h' : Heap} {l : List Env} {e : Addr} {Z : Obj → Prop} (x : HandSPX.FlyingZ B l e Z h) (k : ∀ b o, h.get? b = some o → h'.get? b = some o) : HandSPX.FlyingZ B l e Z h' := by
  obtain ⟨x1, x2, x3, oe, vs, T, oT, ts, y1, y2, y3, y4, y5, y6, y7, y8, y9⟩ := x
  exact ⟨fun b o q => k _ _ (x1 b o q), x2, Heap.FunFrames.of_keeps (fun b o q _ => ⟨o, k b o q, rfl⟩) x3, oe, vs, T, oT, ts, k _ _ y1, y2, y3, y4, y5, y6, k _ _ y7, y8, y9⟩
/-- what the clause wishes of an exception: it is one of the classes, and the suite runs, slot i the exception -/
def wTup (K : PySem.W.Frag) (m : Nat) (cs : List Value) (i : Nat) (ts : Addr → Value → Option Addr → TS) (D : Ends) : WX := fun cls d σ H =>
  PySem.W.exmAny K cls cs = some true ∧ ∀ a, H a = none → σ.length = m → ts a cls d ⟨fun σ' H' => D.nx (σ'.set i none) H', D.rt, fun σ' H' => D.bk (σ'.set i none) H', fun σ' H' => D.ct (σ'.set i none) H'⟩ (σ.set i (some (.ref a))) H
section
variable {X : Cx} {x1 x2 n : Str} {c1 c2 : Value} {i kk : Nat} {body suite : List Stmt} {b₀ : Stmt} {p1 p2 np pos pos' : Pos} {tb : WX → TS} {ts : Addr → Value → Option Addr → TS}
theorem ps_tryT (e1 : X.stack = X.env :: X.outer) (e2 : X.env.frame = some X.env.locals) (nd : X.N.Nodup) (at_ : X.N[i]? = some n) (isl : X.env.kindOf n = some .local) (n1 : Gl X x1) (m1 : X.mg x1 = some c1) (n2 : Gl X x2) (m2 : X.mg x2 = some c2)
    (pb : ∀ (W : WX) (pn : List (Addr × Obj)) (xe : Value → Shared → Prop), Takes (X.tr pn xe) W → PassesOwn (model X.prog X.w) X.A X.env xe → PSs (X.tr pn xe) body (tb W))
    (psu : ∀ (a : Addr) (oe : Obj) (cls : Value) (d : Option Addr) (pn : List (Addr × Obj)), Zc cls d oe → (∃ vs, oe.data = .fields vs) → PSs (X.suite a ((a, oe) :: pn)) (b₀ :: suite) (ts a cls d))
    (d1 : (x1 == ("__debug__" : Str)) = false := by decide) (d2 : (x2 == ("__debug__" : Str)) = false := by decide) :
    PS X (.Try body [.ExceptHandler (some (.Tuple [.Name x1 p1, .Name x2 p2] kk np)) (some n) (b₀ :: suite) pos'] [] [] pos) (fun D σ H => tb (wTup X.K X.N.length [c1, c2] i ts D) D σ H) := by
  constructor; intro pins s σ H D I h
  have O := I.ok
  have fr : X.A.frames = some (X.env :: X.outer) := by rw [O.frames, e1]
  have lc : Loc X.env.scope n := .inl isl
  refine wpAny_Try_except ?_
  refine wpAny_mono ((pb (wTup X.K X.N.length [c1, c2] i ts D) (X.pn ++ pins) (fun u t => wpAny (model X.prog X.w) X.A (noteFrame u X.env) (fun _ t2 => wpAny (model X.prog X.w) X.A (setFlight u none) (fun _ t3 =>
    wpAny (model X.prog X.w) X.A (handleBy u X.env [.ExceptHandler (some (.Tuple [.Name x1 p1, .Name x2 p2] kk np)) (some n) (b₀ :: suite) pos']) (SP X pins D) X.xe t3) X.xe t2) X.xe t) ?_ PassesOwn.looking).run [] s σ H D (I.toTry _) h) (fun fl s1 hsp => ?_) (fun _ _ z => z)
  · rintro u s' ⟨a, B, sI, pins', σ', H', cls, d, rfl, J', nb, up, sky, na, os, ag, hx, go⟩
    have J : Inv X pins σ' H' sI := J'.ofTry O
    have sk : Sky B (X.env :: X.outer) a (Zc cls d) X.env.locals s'.heap := by rw [← e1]; exact sky
    refine Sky.land Zc.steady fr e2 sk fun h3 F3 u3 => ?_
    have J3 : Inv X pins σ' H' { s' with heap := h3 } := J.landed nb F3.1 (up.trans u3) os ag
    obtain ⟨oe, vs, he, hz, hd⟩ := F3.there
    have off : a ∉ frs (X.env :: X.outer) := fun hm => by
      obtain ⟨_, o', e', nf⟩ := F3.2.2.1.mem hm
      rw [he] at e'
      cases e'
      exact nf _ hd
    have nl : a ≠ X.env.locals := fun z => off (List.mem_filterMap.mpr ⟨X.env, List.mem_cons_self, by rw [e2, z]⟩)
    have nf : a ∉ X.fs := fun hm => by
      obtain ⟨ev, q1, q2⟩ := List.mem_filterMap.mp hm
      exact off (List.mem_filterMap.mpr ⟨ev, List.mem_cons_of_mem _ q1, q2⟩)
    have S3 := J3.suite he hd na nl nf
    refine wpAny_handleBy_cons (codeAny_handlers_test ?_) (by intro q; cases q)
    refine wpAny_Tuple (wpAny_items_cons (ld_glob (X := X.suite a ((a, oe) :: (X.pn ++ pins))) S3 n1 m1 ?_ d1))
    refine wpAny_items_cons (ld_glob (X := X.suite a ((a, oe) :: (X.pn ++ pins))) S3 n2 m2 ?_ d2)
    refine wpAny_items_nil ⟨by size_fits, ?_⟩
    have kp : ∀ q o, h3.get? q = some o → (h3.push { cls := .type "tuple", data := .seq [c1, c2].toArray }).get? q = some o := fun _ _ z => Heap.get?_push_of_some _ z
    have look : PySem.W.Looks (model X.prog X.w) (h3.push { cls := .type "tuple", data := .seq [c1, c2].toArray }) (typeOf (.ref a)) cls := fun A Q E s k q => wpAny_typeOf_ref (k _ _ (kp _ _ he)) (by rw [hz.1]; exact q)
    refine (PySem.W.exm_tup2 (M := model X.prog X.w) (J3.kIn.keeps kp) look (Heap.get?_push_size h3 rfl) hx).here ?_
    refine codeAny_handlers_suite_as (HandSPX.lands_againZ (s := { s' with heap := h3.push _ }) (flying_up F3 kp) fun h4 F4 u4 => ?_)
    have J4 : Inv X pins σ' H' { s' with heap := h4 } := J.landed nb F4.1 ((up.trans u3).trans ((Heap.UpToSlots.of_keeps kp).trans u4)) os ag
    obtain ⟨oe4, vs4, he4, hz4, hd4⟩ := F4.there
    refine store_ok (X := X.suite a ((a, oe4) :: (X.pn ++ pins))) (v := .ref a) (J4.suite he4 hd4 na nl nf) nd at_ lc rfl (fun s5 S5 => ?_) (.inr isl)
    refine wpAny_mono ((psu a oe4 cls d (X.pn ++ pins) hz4 ⟨_, hd4⟩).run [] s5 _ H' _ S5 (go a na J.len)) (fun f s6 hsp => ?_) (fun _ _ z => False.elim z)
    have off6 : ∀ {σ6 : L2.St} {H6 : Hp} {Q : Shared → Prop}, Inv (X.suite a ((a, oe4) :: (X.pn ++ pins))) [] σ6 H6 s6 → (∀ s7, Inv X pins (σ6.set i none) H6 s7 → Q s7) →
        wpAny (model X.prog X.w) X.A (do bindName X.env n .none; unbindBehindTheSuite X.env n pos') (fun _ s7 => Q s7) X.xe s6 := fun S6 hq => gone_ok (S6.unsuite O) nd at_ isl hq
    cases f with
    | ret u =>
      obtain ⟨v6, σ6, H6, S6, r6, q6⟩ := hsp
      exact off6 S6 fun s7 J7 => ⟨_, _, _, J7, r6, q6⟩
    | next | brk | cont =>
      obtain ⟨σ6, H6, S6, q6⟩ := hsp
      exact off6 S6 fun s7 J7 => ⟨_, _, J7, q6⟩
  · cases fl with
    | next =>
      obtain ⟨σ', H', J', q⟩ := hsp
      exact wpAny_execs_nil ⟨σ', H', J'.ofTry O, q⟩
    | brk | cont =>
      obtain ⟨σ', H', J', q⟩ := hsp
      exact ⟨σ', H', J'.ofTry O, q⟩
    | ret u =>
      obtain ⟨v, σ', H', J', r, q⟩ := hsp
      exact ⟨v, σ', H', J'.ofTry O, r, q⟩
end
end Px

namespace Px
open PySem PySem.Spec PyProof.Rows L2
/-! ### err.f of a pinned exception -/
def tXp (K : PySem.W.Frag) (a : Addr) (cls : Value) (d : Option Addr) (n : Str) (te : TE) : TE := fun σ H Q => te σ H fun x H1 => x = .ref a ∧
  ∃ (C dd : Addr) (fs : List (Str × V)) (v : V), cls = .ref C ∧ XfC K C ∧ PySem.W.findIn K (.ref C) n = some none ∧ d = some dd ∧ H1 dd = some (.xd fs) ∧ fs.lookup n = some v ∧ Q v H1
theorem pe_xfP {X : Cx} {a : Addr} {oe : Obj} {cls : Value} {d : Option Addr} {e : Expr} {te : TE} {pos : Pos} {n : Str} (hin : (a, oe) ∈ X.pn) (hz : Zc cls d oe) (hf : ∃ vs, oe.data = .fields vs) (he : PE X e te)
    (hb : attributeBase e n X.env (eval e X.env) = eval e X.env := by rfl) : PE X (.Attribute e n pos) (tXp X.K a cls d n te) := by
  constructor; intro pins s σ H Q I h
  refine attr_of hb (thn (he.run pins s σ H _ I h) ?_)
  rintro u s1 ⟨x, H1, I1, rx, rfl, C, dd, fs, v, rfl, T, hno, rfl, ea, l, q⟩
  obtain rfl : u = Value.ref a := rx
  obtain ⟨ha, _⟩ := I1.pin (a, oe) (List.mem_append_left _ hin)
  obtain ⟨vs, hd⟩ := hf
  obtain ⟨mA, hns, hr⟩ := (show ObjOk X.prog X.w H1 s1.heap dd (.xd fs) from I1.hok dd _ ea)
  obtain ⟨od, ho, hl⟩ := lookIn_ns hns
  obtain ⟨u, hu, ru⟩ := RelO.some_of (v := v) (o := mA n) (by rw [← l]; exact hr n)
  have J : PySem.W.InstAt s1.heap a oe C (some od) := ⟨ha, hz.1, by unfold PySem.W.notCls; rw [hd] <;> rfl, by rw [hz.2]; exact ho⟩
  exact HandSPX.exc_get I1.kIn J T.ga T.gg T.exC (PySem.W.findObj_own T.hdC hno rfl (by rw [hl, hu])) (handed_of ru) ⟨v, H1, I1.tok _, ru, q⟩
/-! ### a def that is called while an exception is handled, and raises nothing -/
structure FnP (P : Program) (w : World) (K : PySem.W.Frag) (mg : Str → Option Value) (base : Heap) (k : Nat) (f : Addr) (fd : FuncData) (ps : List Str) (sp : Addr → Value → Option Addr → Sp) : Prop where
  len : ∀ a cls d vs H Q E, sp a cls d vs H Q E → vs.length = ps.length
  run : ∀ (A : Around) (outer : List Env) (s : Shared) (H : Hp) (args : Args) (us : List Value) (vs : List V) (Q : VK) (a : Addr) (oe : Obj) (cls : Value) (d : Option Addr), L2H.RoomH k A → L2H.PinOk outer H s (a, oe) → Zc cls d oe → (∃ fv, oe.data = .fields fv) →
    Env0 P w K mg base A outer s H → BindsTo s fd args (ps.zip us) → Vals vs us → sp a cls d vs H Q E0 → codeAny (model P w) A (.call (.ref f) args) (CR CX0 outer P w H s Q E0) s
section
variable {P : Program} {w : World} {K : PySem.W.Frag} {mg : Str → Option Value} {base : Heap}
theorem fun_okP {x qual : Str} {st : Stmt} {f : Addr} {fd : FuncData} {N ps : List Str} {k : Nat} {sp : Addr → Value → Option Addr → Sp} (F : Fun K x qual st f fd) (S : FnScope N ps (defScope st)) (len : ∀ a cls d vs H Q E, sp a cls d vs H Q E → vs.length = ps.length)
    (hbody : ∀ (cdv : Value) (A : Around) (outer : List Env) (s : Shared) (H : Hp) (vs : List V) (Q : VK) (a : Addr) (oe : Obj) (cls : Value) (d : Option Addr), Zc cls d oe → (∃ fv, oe.data = .fields fv) → L2H.RoomH k (A.deeper (envOfC qual (defScope st) s.heap.objs.size f cdv)) → sp a cls d vs H Q E0 →
      ∃ t, PSs (L2H.cxH CX0 P w K mg base N qual (defScope st) f cdv A outer s H E0 (a, oe)) (defBody st) t ∧ t { nx := fun _ H' => Q .non H', rt := Q } (start N vs) H) : FnP P w K mg base (k + 1) f fd ps sp := by
  obtain ⟨oc, od, kV, doc, pm, an, cdv, ct, osl, rfl, lk, hcd⟩ := F.ex
  refine ⟨len, fun A outer s H args us vs Q a oe cls d hr hp hz hf e0 hb r hsp => ?_⟩
  have hl := len _ _ _ _ _ _ _ hsp
  have KX : K.In s.heap := e0.mod.kin.keeps fun b o e => (e0.bs b o e).1
  have lim : s.heap.NoLimit := e0.mod.nolimit.keeps fun b o e => (e0.bs b o e).1
  have kinds : ∀ y ∈ ps.zip us, (defScope st).names.lookup y.1 = some .local ∨ ((defScope st).names.lookup y.1 = some .cell ∧ ((cellsFrom (s.heap.objs.size + 1) (defScope st).names []).lookup y.1).isSome = true) := by
    rintro ⟨n, v⟩ hy
    rcases S.par n (List.of_mem_zip hy).1 with q | q
    · exact .inl q
    · exact .inr ⟨q, PySem.W.cellsFrom_some _ _ _ (.inl q)⟩
  refine codeAny_call_function hr.depth (KX _ _ lk) rfl S.co S.gen rfl (PySem.W.codeRec_of KX hcd) (hb _ _ _ _ ?_)
  refine wpAny_newFunctionEnv_cells S.kind kinds ?_
  rintro env rfl s1 x
  refine ⟨lim.keeps x.toInCall.keep, codeAny_func ?_⟩
  obtain ⟨t, ht, hq⟩ := hbody cdv A outer s H vs Q a oe cls d hz hf (hr.deeper _) hsp
  have I : Inv (L2H.cxH CX0 P w K mg base N qual (defScope st) f cdv A outer s H E0 (a, oe)) [] (L2.start N vs) H s1 := L2H.inv_startH S hp e0 hl r x
  refine wpAny_mono (ht.run [] s1 (L2.start N vs) H _ I hq) (fun fl s' hs => ?_) fun _ _ z => z
  have fin : ∀ {σ' : L2.St} {H' : Hp} {v : V} {u : Value}, Inv (L2H.cxH CX0 P w K mg base N qual (defScope st) f cdv A outer s H E0 (a, oe)) [] σ' H' s' → L2.RelV v u → Q v H' → CE outer P w H s Q u s' :=
    fun J rv q => ⟨_, _, J.os, J.bare, J.base, J.hok, rv, q⟩
  cases fl with
  | ret u =>
    obtain ⟨v, σ', H', J, rv, q⟩ := hs
    exact fin J rv q
  | next =>
    obtain ⟨σ', H', J, q⟩ := hs
    exact fin (v := V.non) (u := Value.none) J rfl q
  | brk | cont =>
    obtain ⟨_, _, _, q⟩ := hs
    exact False.elim q
end
section
variable {X : Cx} {k : Nat} {f a : Addr} {oe : Obj} {cls : Value} {d : Option Addr} {fd : FuncData} {ps : List Str} {sp : Addr → Value → Option Addr → Sp} {x : Str} {p pos : Pos} {e : Expr} {es : List Expr} {t : TA}
theorem pe_callP (F : FnP X.prog X.w X.K X.mg X.base k f fd ps sp) (hin : (a, oe) ∈ X.pn) (hz : Zc cls d oe) (hf : ∃ fv, oe.data = .fields fv) (hr : L2H.RoomH k X.A) (hg : Gl X x) (hm : X.mg x = some (.ref f)) (hk : PySem.W.keepIn X.K (.ref f) = true) (hb : Binds X.K fd ps [])
    (ha : PA X (e :: es) t) (hdb : (x == ("__debug__" : Str)) = false := by decide) (he : starEach (e :: es) X.env = (false, eval e X.env) :: starEach es X.env := by rfl) (hpl : (backTo pos (starEach es X.env)).any (·.1) = false := by rfl) :
    PE X (.Call (.Name x p) (e :: es) [] pos) (tCall (sp a cls d) [] E0 t) := by
  constructor; intro pins s σ H Q I h
  refine wpAny_Call_Name_kw (ld_glob I hg hm ?_ hdb)
  refine PySem.W.callWith_K (h₀ := X.base) I.ok.mod.kin hk (thn (ha.run pos pins s σ H _ I h) ?_) he hpl
  rintro us s1 ⟨vs, H1, I1, r, q⟩
  refine ⟨I1.kIn, ?_⟩
  rw [List.append_nil] at q
  have l : us.length = ps.length := by rw [← r.length]; exact F.len _ _ _ _ _ _ _ q
  have b := hb s1 us I1.kIn (by rw [List.append_nil]; exact l)
  rw [List.append_nil] at b
  have P1 := I1.pin (a, oe) (List.mem_append_left _ hin)
  have pk : L2H.PinOk X.stack H1 s1 (a, oe) := ⟨P1.1, P1.2.1, fun hm => (List.mem_cons.mp (I1.stkSub a hm)).elim P1.2.2.1 P1.2.2.2.1, P1.2.2.2.2⟩
  refine wpAny_call (codeAny_mono (F.run X.A X.stack s1 H1 ⟨us, []⟩ us vs Q a oe cls d hr pk hz hf I1.env0 b r q) fun r s' hq => ?_)
  cases r with
  | error _ => exact False.elim hq
  | ok fl =>
    cases fl with
    | ret _ => exact I1.after hq
    | next | brk | cont => exact False.elim hq
end
end Px

set_option maxHeartbeats 2000000
namespace Px
open PySem PySem.Spec PyProof.Rows L2 LamX
/-! ### a lambda with one default, which is a number that is written -/
abbrev lamD (qual : Str) (params : Arguments) (body : Expr) (scope : Scope) (cl : List (Str × Addr)) (pm cdv ct dV : Value) : FuncData :=
  { PySem.W.kla_fn "<lambda>" qual params body scope cl pm cdv ct with defaults := dV }
abbrev lamDO (qual : Str) (params : Arguments) (body : Expr) (scope : Scope) (cl : List (Str × Addr)) (pm : Value) (c' : Addr) (ct dV : Value) : Obj :=
  { cls := .type "function", data := .func (lamD qual params body scope cl pm (.ref c') ct dV) }
section
variable {M : Model} {A : Around} {E : Value → Shared → Prop} {s : Shared} {qual : Str} {params : Arguments} {body : Expr} {scope : Scope} {env : Env} {c P : Addr} {ps : Array Value} {pos : Pos} {mg : Str → Option Value} {clos : List (Str × Addr)} {Q : Value → Shared → Prop} {dV : Value}
open PySem.W
theorem tail_new (e1 : closureFor scope env = pure clos) (e2 : env.globals = mainGlobals) (ns : s.heap.Ns mainGlobals mg) (e3 : env.code = .ref c) (hd : CodeHd s.heap c P) (tab : s.heap.get? P = some (tabObj ps)) (tri : TriplesOk ps.toList)
    (no : codeAmong pos ps.toList = none) (ne : mainGlobals ≠ P) (bl : s.heap.BuiltinsAt mg P)
    (k : ∀ c' ctv h' tk, Heap.ExtBut P s.heap h' → s.heap.objs.size ≤ c' → c' < h'.objs.size → h'.CodeRec (.ref c') qual → h'.get? P = some (tabObj (ps ++ #[rawInt pos.line, rawInt pos.col, .ref c'])) →
      Q (.ref h'.objs.size) { s with heap := h'.push (lamDO qual params body scope clos ((mg "__name__").getD .none) c' ctv dV), toks := tk }) :
    wpAny M A (makeTail "<lambda>" qual params (.expr body) scope env dV .none none pos pos.line) Q E s := by
  obtain ⟨bm, ob, b1, b2, _, b3, b4, b5, b6, b7⟩ := bl
  unfold makeTail
  rw [e1, e2]
  refine wpAny_bind (wpAny_pure ?_)
  have go : ∀ (h1 : Heap) (ctv : Value), (∀ b o, s.heap.get? b = some o → h1.get? b = some o) → s.heap.objs.size ≤ h1.objs.size →
      wpAny M A (functionCode env pos pos.line "<lambda>" qual params scope (.expr body)) (fun cv s1 => wpAny M A (builtinsFor mainGlobals env.builtins) (fun bv s2 => wpAny M A (nsGet mainGlobals "__name__") (fun nv s3 =>
        wpAny M A (newObj (.type "function") (.func { name := "<lambda>", qualname := qual, params, body := .expr body, scope, globals := mainGlobals, closure := clos, closureTuple := ctv, code := cv, builtins := bv, defaults := dV, kwdefaults := .none, annotations := none, pyModule := nv.getD .none, doc := .none })) Q E s3) E s2) E s1) E { s with heap := h1 } := fun h1 ctv kp sz => by
    refine wpAny_functionCodeX e3 ((hd.keeps kp).code (kp _ _ tab) tri) ((hd.keeps kp).tab (kp _ _ tab)) no fun c' h' tk hx hge hlt _ hrec htb _ => ?_
    have hx' : Heap.ExtBut P s.heap h' := fun b o hb z => hx b o hb (kp _ _ z)
    refine wpAny_builtinsFor (ns.extBut hx' ne) b1 b2 (hx' _ _ b3 b4) b5 b6 b7 ?_
    exact wpAny_nsGet (ns.extBut hx' ne) (wpAny_newObj_type (k c' ctv h' tk hx' (Nat.le_trans sz hge) hlt hrec htb.2) (by size_fits))
  cases clos with
  | nil =>
    rw [if_pos (show ([] : List (Str × Addr)).isEmpty = true from rfl)]
    refine wpAny_bind (wpAny_pure (wpAny_bind (wpAny_mono (go s.heap .none (fun _ _ z => z) (Nat.le_refl _)) (fun _ _ h1 => wpAny_bind (wpAny_mono h1 (fun _ _ h2 => wpAny_bind (wpAny_mono h2 (fun _ _ h3 => wpAny_bind (wpAny_pure h3)) fun _ _ z => z)) fun _ _ z => z)) fun _ _ z => z)))
  | cons q r =>
    rw [if_neg (show ¬ ((q :: r).isEmpty = true) from Bool.false_ne_true)]
    refine wpAny_bind (wpAny_newTextTuple (wpAny_bind (wpAny_mono (go (s.heap.push _) _ (fun _ _ z => Heap.get?_push_of_some _ z) (by rw [Heap.size_push]; omega)) (fun _ _ h1 => wpAny_bind (wpAny_mono h1 (fun _ _ h2 => wpAny_bind (wpAny_mono h2 (fun _ _ h3 => wpAny_bind (wpAny_pure h3)) fun _ _ z => z)) fun _ _ z => z)) fun _ _ z => z)))
theorem tail_hit {cv : Value} (e1 : closureFor scope env = pure clos) (e2 : env.globals = mainGlobals) (ns : s.heap.Ns mainGlobals mg) (e3 : env.code = .ref c) (hd : CodeHd s.heap c P) (tab : s.heap.get? P = some (tabObj ps)) (tri : TriplesOk ps.toList)
    (yes : codeAmong pos ps.toList = some cv) (bl : s.heap.BuiltinsAt mg P)
    (k : ∀ (ctv : Value) (h' : Heap) (tk : Tok), (∀ b o, s.heap.get? b = some o → h'.get? b = some o) → s.heap.objs.size ≤ h'.objs.size →
      Q (.ref h'.objs.size) { s with heap := h'.push { cls := .type "function", data := .func (lamD qual params body scope clos ((mg "__name__").getD .none) cv ctv dV) }, toks := tk }) :
    wpAny M A (makeTail "<lambda>" qual params (.expr body) scope env dV .none none pos pos.line) Q E s := by
  obtain ⟨bm, ob, b1, b2, _, b3, b4, b5, b6, b7⟩ := bl
  unfold makeTail
  rw [e1, e2]
  refine wpAny_bind (wpAny_pure ?_)
  have go : ∀ (h1 : Heap) (ctv : Value), (∀ b o, s.heap.get? b = some o → h1.get? b = some o) → s.heap.objs.size ≤ h1.objs.size →
      wpAny M A (functionCode env pos pos.line "<lambda>" qual params scope (.expr body)) (fun cv s1 => wpAny M A (builtinsFor mainGlobals env.builtins) (fun bv s2 => wpAny M A (nsGet mainGlobals "__name__") (fun nv s3 =>
        wpAny M A (newObj (.type "function") (.func { name := "<lambda>", qualname := qual, params, body := .expr body, scope, globals := mainGlobals, closure := clos, closureTuple := ctv, code := cv, builtins := bv, defaults := dV, kwdefaults := .none, annotations := none, pyModule := nv.getD .none, doc := .none })) Q E s3) E s2) E s1) E { s with heap := h1 } := fun h1 ctv kp sz => by
    refine wpAny_functionCode_hit e3 ((hd.keeps kp).code (kp _ _ tab) tri) yes ?_
    refine wpAny_builtinsFor (ns.keeps kp) b1 b2 (kp _ _ b4) b5 b6 b7 ?_
    exact wpAny_nsGet (ns.keeps kp) (wpAny_newObj_type (k ctv h1 s.toks kp sz) (by size_fits))
  cases clos with
  | nil =>
    rw [if_pos (show ([] : List (Str × Addr)).isEmpty = true from rfl)]
    refine wpAny_bind (wpAny_pure (wpAny_bind (wpAny_mono (go s.heap .none (fun _ _ z => z) (Nat.le_refl _)) (fun _ _ h1 => wpAny_bind (wpAny_mono h1 (fun _ _ h2 => wpAny_bind (wpAny_mono h2 (fun _ _ h3 => wpAny_bind (wpAny_pure h3)) fun _ _ z => z)) fun _ _ z => z)) fun _ _ z => z)))
  | cons q r =>
    rw [if_neg (show ¬ ((q :: r).isEmpty = true) from Bool.false_ne_true)]
    refine wpAny_bind (wpAny_newTextTuple (wpAny_bind (wpAny_mono (go (s.heap.push _) _ (fun _ _ z => Heap.get?_push_of_some _ z) (by rw [Heap.size_push]; omega)) (fun _ _ h1 => wpAny_bind (wpAny_mono h1 (fun _ _ h2 => wpAny_bind (wpAny_mono h2 (fun _ _ h3 => wpAny_bind (wpAny_pure h3)) fun _ _ z => z)) fun _ _ z => z)) fun _ _ z => z)))
end
end Px

set_option maxHeartbeats 2000000
namespace Px
open PySem PySem.Spec PyProof.Rows L2 LamX
section
variable {X : Cx} {pins : List (Addr × Obj)} {σ : L2.St} {H : Hp} {s : Shared}
/-- all but the tables of T stays -/
def ExtT (T : List (Addr × Str)) (H H' : Hp) : Prop := ∀ b o, H b = some o → (∀ q, (b, q) ∉ T) → H' b = some o
theorem ExtT.refl (T : List (Addr × Str)) (H : Hp) : ExtT T H H := fun _ _ h _ => h
/-- the tuple of the one default -/
def OneDef (h : Heap) (T : Addr) (i : Int) : Prop := ∃ t : Tok, h.get? T = some { cls := .type "tuple", data := .seq #[.int i t] }
theorem lam_makeD {T : List (Addr × Str)} {c P : Addr} {params : Arguments} {body : Expr} {scope : Scope} {pos dpos : Pos} {j : Nat} {i : Int} {E : Value → Shared → Prop} {Q : Value → Shared → Prop} (I : Inv X pins σ H s) (TB : TabB X.base X.mg c P) (isc : X.env.code = .ref c)
    (mem : (P, X.env.qual ++ "<lambda>") ∈ T) (uni : ∀ p ∈ T, p.1 = P → p.2 = X.env.qual ++ "<lambda>") (tabs : Tabs T H) (dfl : defaultsOf params X.env = ([eval (.Constant (.int i) j dpos) X.env], [])) (nokw : params.kwonlyargs = [])
    (fre : ∀ y ∈ scope.names, y.2 = .free → ∃ c, X.env.cells.lookup y.1 = some c)
    (k : ∀ (f c' tA : Addr) (pm ctv : Value) (H1 : Hp) (s' : Shared), Inv X pins σ H1 s' → ExtT T H H1 → Tabs T H1 → s'.heap.get? f = some (lamDO (X.env.qual ++ "<lambda>") params body scope (cloFrom X.env.cells scope.names []) pm c' ctv (.ref tA)) → H1 f = none → f ∉ frs X.stack →
      OneDef s'.heap tA i → H1 tA = none → tA ∉ frs X.stack → H1 c' = some (CodeO c' (X.env.qual ++ "<lambda>")) → Q (.ref f) s') :
    wpAny (model X.prog X.w) X.A (eval (.Lambda params body scope pos) X.env) Q E s := by
  obtain ⟨ps, hP, tri, am⟩ := tabs _ mem
  rw [arm_eval_Lambda, dfl]
  show wpAny _ _ (do let dv ← evalAll [eval (.Constant (.int i) j dpos) X.env]; let kdv ← holding dv (evalAllOpt []); makeFunction "<lambda>" (X.env.qual ++ "<lambda>") params (.expr body) scope X.env dv kdv [] pos pos.line) _ _ _
  refine wpAny_bind ?_
  unfold evalAll
  refine wpAny_bind (wpAny_Constant_int ?_)
  refine wpAny_bind (wpAny_holding ?_)
  unfold evalAll
  refine wpAny_pure (wpAny_pure ?_)
  refine wpAny_bind (wpAny_holding (wpAny_pure ?_))
  rw [makeFunction_eq, nokw]
  simp only [List.zip_nil_left, List.filterMap_nil, List.isEmpty_nil, List.isEmpty_cons, Bool.false_eq_true, if_true, if_false, pure_bind]
  refine wpAny_bind (wpAny_newTextTuple ?_)
  have kp0 : ∀ b o, s.heap.get? b = some o → (s.heap.push { cls := .type "tuple", data := .seq [Value.int i s.toks].toArray }).get? b = some o := fun b o e => Heap.get?_push_of_some _ e
  have I2 : Inv X pins σ H { s with heap := s.heap.push { cls := .type "tuple", data := .seq [Value.int i s.toks].toArray }, toks := s.toks + 1 } := I.kept kp0
  have sz0 : s.heap.objs.size < (s.heap.push { cls := .type "tuple", data := .seq [Value.int i s.toks].toArray }).objs.size := by rw [Heap.size_push]; omega
  have one0 : OneDef (s.heap.push { cls := .type "tuple", data := .seq [Value.int i s.toks].toArray }) s.heap.objs.size i := ⟨s.toks, Heap.get?_push_size _ rfl⟩
  have nT : H s.heap.objs.size = none := I.hok.fresh (Nat.le_refl _)
  have nofr : ∀ f, s.heap.objs.size ≤ f → f ∉ frs X.stack := fun f hf z => by
    rcases List.mem_cons.mp (I.stkSub _ z) with e | e
    · have h1 := I.lt
      rw [← e] at h1
      exact absurd (Nat.lt_of_lt_of_le h1 hf) (Nat.lt_irrefl _)
    · exact I.nofs hf e
  have bP : (s.heap.push { cls := .type "tuple", data := .seq [Value.int i s.toks].toArray }).BuiltinsAt X.mg P := TB.bm.keeps I2.bk
  have aP := I2.hok P _ hP
  cases hc : codeAmong pos ps.toList with
  | none =>
    refine tail_new (mg := X.mg) (c := c) (P := P) (ps := ps) (closure_ok fre) I.ok.glob (I2.mod.glob.keeps I2.bk) isc (TB.code.keeps I2.bk) aP tri hc TB.gP bP fun c' ctv h' tk hx hge hlt hrec htb => ?_
    obtain ⟨c2, oc, vs, t, e2, hoc, hd, hv⟩ := hrec
    cases e2
    have ge0 : s.heap.objs.size < c' := Nat.lt_of_lt_of_le sz0 hge
    have ge1 : s.heap.objs.size ≤ h'.objs.size := Nat.le_trans (Nat.le_of_lt ge0) (Nat.le_of_lt hlt)
    have nC : H c' = none := I2.hok.fresh hge
    have nPT : s.heap.objs.size ≠ P := fun z => by
      rw [z, hP] at nT
      cases nT
    have J := inv_table (t' := tk) (more := #[rawInt pos.line, rawInt pos.col, .ref c']) (q := X.env.qual ++ "<lambda>") (h' := h'.push (lamDO (X.env.qual ++ "<lambda>") params body scope (cloFrom X.env.cells scope.names []) ((X.mg "__name__").getD .none) c' ctv (.ref s.heap.objs.size))) I2 hP
      (fun b o hb e => Heap.get?_push_of_some _ (hx b o hb e)) (Heap.get?_push_of_some _ htb) hge ⟨oc, vs, t, Heap.get?_push_of_some _ hoc, hd, hv⟩
    have eN : ExtN H (upd (upd H P (.tbl (ps ++ #[rawInt pos.line, rawInt pos.col, .ref c']))) c' (CodeO c' (X.env.qual ++ "<lambda>"))) := fun b o e n => by
      rw [upd_ne (ne_of_none e nC), upd_ne (fun z => n ps (Option.some.inj (e.symm.trans (by rw [z]; exact hP))))]
      exact e
    have aL : (ps ++ #[rawInt pos.line, rawInt pos.col, .ref c']).toList = ps.toList ++ [rawInt pos.line, rawInt pos.col, .ref c'] := by simp
    have new_ : ∀ b, s.heap.objs.size ≤ b → b ≠ c' → upd (upd H P (.tbl (ps ++ #[rawInt pos.line, rawInt pos.col, .ref c']))) c' (CodeO c' (X.env.qual ++ "<lambda>")) b = none := fun b hb n => by
      have nb : H b = none := I.hok.fresh hb
      have n2 : b ≠ P := fun z => by
        rw [z, hP] at nb
        cases nb
      rw [upd_ne n, upd_ne n2]
      exact nb
    have eT : ExtT T H (upd (upd H P (.tbl (ps ++ #[rawInt pos.line, rawInt pos.col, .ref c']))) c' (CodeO c' (X.env.qual ++ "<lambda>"))) := fun b o e n => by
      rw [upd_ne (ne_of_none e nC), upd_ne (fun z => n _ (z ▸ mem))]
      exact e
    refine k h'.objs.size c' s.heap.objs.size ((X.mg "__name__").getD .none) ctv _ _ J eT (fun p hp => ?_) (Heap.get?_push_size _ rfl) (new_ _ ge1 (Nat.ne_of_gt hlt)) (nofr _ ge1) ⟨s.toks, Heap.get?_push_of_some _ (hx _ _ nPT (Heap.get?_push_size _ rfl))⟩ (new_ _ (Nat.le_refl _) (Nat.ne_of_lt ge0)) (nofr _ (Nat.le_refl _)) upd_same
    by_cases hb : p.1 = P
    · rw [uni p hp hb, hb]
      refine ⟨_, by rw [upd_ne (ne_of_none hP nC), upd_same], by rw [aL]; exact PySem.TriplesOk_snoc _ _ _ _ tri, fun p' cv hcv => ?_⟩
      rw [aL] at hcv
      rcases among_app _ tri hcv with z | z
      · obtain ⟨c0, q1, q2⟩ := am p' cv z
        exact ⟨c0, q1, eN _ _ q2 codeO_ne⟩
      · exact ⟨c', z, upd_same⟩
    · obtain ⟨ps', a1, a2, a3⟩ := tabs p hp
      refine ⟨ps', by rw [upd_ne (ne_of_none a1 nC), upd_ne hb]; exact a1, a2, fun p' cv hcv => ?_⟩
      obtain ⟨c0, q1, q2⟩ := a3 p' cv hcv
      exact ⟨c0, q1, eN _ _ q2 codeO_ne⟩
  | some cv =>
    obtain ⟨c', rfl, hco⟩ := am pos cv hc
    refine tail_hit (mg := X.mg) (c := c) (P := P) (ps := ps) (closure_ok fre) I.ok.glob (I2.mod.glob.keeps I2.bk) isc (TB.code.keeps I2.bk) aP tri hc bP fun ctv h' tk hx hsz => ?_
    have ge1 : s.heap.objs.size ≤ h'.objs.size := Nat.le_trans (Nat.le_of_lt sz0) hsz
    have J : Inv X pins σ H { s with heap := h'.push (lamDO (X.env.qual ++ "<lambda>") params body scope (cloFrom X.env.cells scope.names []) ((X.mg "__name__").getD .none) c' ctv (.ref s.heap.objs.size)), toks := tk } := I2.kept fun b o e => Heap.get?_push_of_some _ (hx b o e)
    exact k h'.objs.size c' s.heap.objs.size ((X.mg "__name__").getD .none) ctv H _ J (ExtT.refl T H) tabs (Heap.get?_push_size _ rfl) (I.hok.fresh ge1) (nofr _ ge1) ⟨s.toks, Heap.get?_push_of_some _ (hx _ _ (Heap.get?_push_size _ rfl))⟩ nT (nofr _ (Nat.le_refl _)) hco
theorem lam_makeT {T : List (Addr × Str)} {c P : Addr} {params : Arguments} {body : Expr} {scope : Scope} {pos : Pos} {E : Value → Shared → Prop} {Q : Value → Shared → Prop} (I : Inv X pins σ H s) (TB : TabB X.base X.mg c P) (isc : X.env.code = .ref c)
    (mem : (P, X.env.qual ++ "<lambda>") ∈ T) (uni : ∀ p ∈ T, p.1 = P → p.2 = X.env.qual ++ "<lambda>") (tabs : Tabs T H) (dfl : defaultsOf params X.env = ([], []))
    (fre : ∀ y ∈ scope.names, y.2 = .free → ∃ c, X.env.cells.lookup y.1 = some c)
    (k : ∀ (f c' : Addr) (pm ctv : Value) (H1 : Hp) (s' : Shared), Inv X pins σ H1 s' → ExtT T H H1 → Tabs T H1 → s'.heap.get? f = some (PySem.W.kla_obj "<lambda>" (X.env.qual ++ "<lambda>") params body scope (cloFrom X.env.cells scope.names []) pm c' ctv) → H1 f = none → f ∉ frs X.stack → H1 c' = some (CodeO c' (X.env.qual ++ "<lambda>")) → Q (.ref f) s') :
    wpAny (model X.prog X.w) X.A (eval (.Lambda params body scope pos) X.env) Q E s := by
  obtain ⟨ps, hP, tri, am⟩ := tabs _ mem
  refine PySem.W.kla_eval dfl ?_
  have nofr : ∀ f, s.heap.objs.size ≤ f → f ∉ frs X.stack := fun f hf z => by
    rcases List.mem_cons.mp (I.stkSub _ z) with e | e
    · have h1 := I.lt
      rw [← e] at h1
      exact absurd (Nat.lt_of_lt_of_le h1 hf) (Nat.lt_irrefl _)
    · exact I.nofs hf e
  have bP : s.heap.BuiltinsAt X.mg P := TB.bm.keeps I.bk
  have aP := I.hok P _ hP
  cases hc : codeAmong pos ps.toList with
  | none =>
    refine PySem.W.kla_makeFunction (mg := X.mg) (c := c) (P := P) (ps := ps) (closure_ok fre) I.ok.glob (I.mod.glob.keeps I.bk) isc (TB.code.keeps I.bk) aP tri hc TB.gP bP fun c' ctv h' tk hx hge hlt hrec htb => ?_
    obtain ⟨c2, oc, vs, t, e2, hoc, hd, hv⟩ := hrec
    cases e2
    have ge1 : s.heap.objs.size ≤ h'.objs.size := Nat.le_trans hge (Nat.le_of_lt hlt)
    have nC : H c' = none := I.hok.fresh hge
    have J := inv_table (t' := tk) (more := #[rawInt pos.line, rawInt pos.col, .ref c']) (q := X.env.qual ++ "<lambda>") (h' := h'.push (PySem.W.kla_obj "<lambda>" (X.env.qual ++ "<lambda>") params body scope (cloFrom X.env.cells scope.names []) ((X.mg "__name__").getD .none) c' ctv)) I hP
      (fun b o hb e => Heap.get?_push_of_some _ (hx b o hb e)) (Heap.get?_push_of_some _ htb) hge ⟨oc, vs, t, Heap.get?_push_of_some _ hoc, hd, hv⟩
    have eN : ExtN H (upd (upd H P (.tbl (ps ++ #[rawInt pos.line, rawInt pos.col, .ref c']))) c' (CodeO c' (X.env.qual ++ "<lambda>"))) := fun b o e n => by
      rw [upd_ne (ne_of_none e nC), upd_ne (fun z => n ps (Option.some.inj (e.symm.trans (by rw [z]; exact hP))))]
      exact e
    have aL : (ps ++ #[rawInt pos.line, rawInt pos.col, .ref c']).toList = ps.toList ++ [rawInt pos.line, rawInt pos.col, .ref c'] := by simp
    have new_ : ∀ b, s.heap.objs.size ≤ b → b ≠ c' → upd (upd H P (.tbl (ps ++ #[rawInt pos.line, rawInt pos.col, .ref c']))) c' (CodeO c' (X.env.qual ++ "<lambda>")) b = none := fun b hb n => by
      have nb : H b = none := I.hok.fresh hb
      have n2 : b ≠ P := fun z => by
        rw [z, hP] at nb
        cases nb
      rw [upd_ne n, upd_ne n2]
      exact nb
    have eT : ExtT T H (upd (upd H P (.tbl (ps ++ #[rawInt pos.line, rawInt pos.col, .ref c']))) c' (CodeO c' (X.env.qual ++ "<lambda>"))) := fun b o e n => by
      rw [upd_ne (ne_of_none e nC), upd_ne (fun z => n _ (z ▸ mem))]
      exact e
    refine k h'.objs.size c' ((X.mg "__name__").getD .none) ctv _ _ J eT (fun p hp => ?_) (Heap.get?_push_size _ rfl) (new_ _ ge1 (Nat.ne_of_gt hlt)) (nofr _ ge1) upd_same
    by_cases hb : p.1 = P
    · rw [uni p hp hb, hb]
      refine ⟨_, by rw [upd_ne (ne_of_none hP nC), upd_same], by rw [aL]; exact PySem.TriplesOk_snoc _ _ _ _ tri, fun p' cv hcv => ?_⟩
      rw [aL] at hcv
      rcases among_app _ tri hcv with z | z
      · obtain ⟨c0, q1, q2⟩ := am p' cv z
        exact ⟨c0, q1, eN _ _ q2 codeO_ne⟩
      · exact ⟨c', z, upd_same⟩
    · obtain ⟨ps', a1, a2, a3⟩ := tabs p hp
      refine ⟨ps', by rw [upd_ne (ne_of_none a1 nC), upd_ne hb]; exact a1, a2, fun p' cv hcv => ?_⟩
      obtain ⟨c0, q1, q2⟩ := a3 p' cv hcv
      exact ⟨c0, q1, eN _ _ q2 codeO_ne⟩
  | some cv =>
    obtain ⟨c', rfl, hco⟩ := am pos cv hc
    refine PySem.W.kla_makeFunctionHit (mg := X.mg) (c := c) (P := P) (ps := ps) (closure_ok fre) I.ok.glob (I.mod.glob.keeps I.bk) isc (TB.code.keeps I.bk) aP tri hc bP fun ctv h' tk hx hsz => ?_
    have ge1 : s.heap.objs.size ≤ h'.objs.size := hsz
    have J : Inv X pins σ H { s with heap := h'.push (PySem.W.kla_obj "<lambda>" (X.env.qual ++ "<lambda>") params body scope (cloFrom X.env.cells scope.names []) ((X.mg "__name__").getD .none) c' ctv), toks := tk } := I.kept fun b o e => Heap.get?_push_of_some _ (hx b o e)
    exact k h'.objs.size c' ((X.mg "__name__").getD .none) ctv H _ J (ExtT.refl T H) tabs (Heap.get?_push_size _ rfl) (I.hok.fresh ge1) (nofr _ ge1) hco
end
end Px

set_option maxHeartbeats 2000000
namespace Px
open PySem PySem.Spec PyProof.Rows L2 LamX
/-- the names of a lambda with one parameter kn, which none of the maker's names N is -/
structure LamSD (N : List Str) (kn : Str) (sc scope : Scope) : Prop where
  kind : scope.kind = .function
  co : scope.isCoroutine = false
  gen : scope.isGenerator = false
  nocell : ∀ y ∈ scope.names, y.2 ≠ .cell
  mine : ∀ y ∈ scope.names, y.2 = .local → y.1 ∉ N
  free : ∀ y ∈ scope.names, y.2 = .free → sc.names.lookup y.1 = some .cell ∨ sc.names.lookup y.1 = some .free
  par : scope.names.lookup kn = some .local
def lamSDB (N : List Str) (kn : Str) (sc scope : Scope) : Bool :=
  decide (scope.kind = .function) && (!scope.isCoroutine && (!scope.isGenerator && (decide (scope.names.lookup kn = some .local) &&
    scope.names.all fun y => !decide (y.2 = .cell) && ((!decide (y.2 = .local) || !decide (y.1 ∈ N)) && (!decide (y.2 = .free) || (decide (sc.names.lookup y.1 = some .cell) || decide (sc.names.lookup y.1 = some .free)))))))
theorem lamSD_by {N : List Str} {kn : Str} {sc scope : Scope} (h : lamSDB N kn sc scope = true) : LamSD N kn sc scope := by
  unfold lamSDB at h
  simp only [Bool.and_eq_true, Bool.or_eq_true, Bool.not_eq_true', decide_eq_true_eq, decide_eq_false_iff_not, List.all_eq_true] at h
  obtain ⟨h1, h2, h3, h4, h5⟩ := h
  exact ⟨h1, h2, h3, fun y hy => (h5 y hy).1, fun y hy e => ((h5 y hy).2.1).elim (fun n => absurd e n) id, fun y hy e => ((h5 y hy).2.2).elim (fun n => absurd e n) id, h4⟩
section
variable {X : Cx} {pins : List (Addr × Obj)} {σ : L2.St} {H HZ : Hp} {s s1 : Shared}
theorem LamSD.has {N : List Str} {kn : Str} {scope : Scope} (L : LamSD N kn X.env.scope scope) (ok : X.Ok) : ∀ y ∈ scope.names, y.2 = .free → ∃ c, X.env.cells.lookup y.1 = some c := fun y hy e =>
  (L.free y hy e).elim (fun k => ok.has _ (.inl k)) fun k => ok.has _ (.inr k)
theorem lamD_start {A : Around} {outer : List Env} {E : XK} {scope : Scope} {f c' : Addr} {h₁ : Heap} {tk : Nat} {kn : Str} {bs : List (Str × Value)} (I : Inv X pins σ H s) (L : LamSD X.N kn X.env.scope scope) (e0 : Env0 X.prog X.w X.K X.mg X.base A outer s1 HZ) (hd : A.handled = none)
    (un : Un (frs X.stack) [] H HZ s.heap s1.heap) (hns : h₁.Ns s1.heap.objs.size fun y => bs.reverse.lookup y) (kp : ∀ b o, s1.heap.get? b = some o → h₁.get? b = some o) :
    Inv (lamCx X A outer s1 HZ E scope f c') [] σ HZ { s1 with heap := h₁, toks := tk } := by
  have fre := L.has I.ok
  have back : ∀ {y c}, (cloFrom X.env.cells scope.names []).lookup y = some c → X.env.cells.lookup y = some c := by
    intro y c e
    rcases cloFrom_mem (PySem.mem_of_lookup e) with hm | ⟨h1, h2⟩
    · cases hm
    · obtain ⟨c1, hc⟩ := fre _ h1 rfl
      have hc' : X.env.cells.lookup y = some c1 := hc
      have z : c = c1 := by
        rw [h2, hc'] <;> rfl
      rw [z]
      exact hc'
  have there : ∀ {y}, scope.names.lookup y = some .free → ∃ c, (cloFrom X.env.cells scope.names []).lookup y = some c := by
    intro y hl
    have hy : (y, NameKind.free) ∈ scope.names := PySem.mem_of_lookup hl
    exact mem_lookup (cloFrom_has (cells := X.env.cells) (acc := []) hy)
  have cellK : ∀ {c : Addr} {v : Option Value}, H c = none → s.heap.IsCell c v → h₁.IsCell c v := by
    rintro c v n ⟨o, ho, hd⟩
    obtain ⟨sl, q⟩ := un.any ho n (by simp)
    exact ⟨_, kp _ _ q, hd⟩
  have noA : ∀ b : Addr, b ∉ (lamCx X A outer s1 HZ E scope f c').ex := fun b z => by
    have z' : b ∈ ([] : List Addr) := z
    cases z'
  constructor
  · constructor
    · exact e0.mod
    · exact L.kind
    · rfl
    · rfl
    · exact Nat.le_refl _
    · exact fun y z c e1 e2 => I.ok.inj y z c (back e1) (back e2)
    · intro y hy
      have hy' : scope.names.lookup y = some .cell ∨ scope.names.lookup y = some .free := hy
      rcases hy' with q | q
      · exact absurd rfl (L.nocell _ (PySem.mem_of_lookup q))
      · exact there q
    · intro y c z _
      have z' : false = true := z
      cases z'
    · exact fun _ => hd
    · exact Around.frames_deeper e0.frames
    · exact .inr ⟨rfl, rfl⟩
    · exact fun b z => absurd z (noA b)
    · exact e0.bs
    · exact e0.bsz
    · exact fun b _ _ => noA b
    · exact fun b z => absurd z (noA b)
    · exact e0.funs
    · exact e0.frf
  · rfl
  · exact e0.bare
  · exact Un.kept kp
  · refine ⟨_, hns, fun i y v e1 e2 e3 => ?_⟩
    have e3' : Vis scope y := e3
    have yN : y ∈ X.N := List.mem_of_getElem? e1
    rcases e3' with q | q | q
    · exact absurd yN (L.mine _ (PySem.mem_of_lookup q) rfl)
    · exact absurd rfl (L.nocell _ (PySem.mem_of_lookup q))
    · obtain ⟨m, hn, hl⟩ := I.loc
      have vis : Vis X.env.scope y := (L.free _ (PySem.mem_of_lookup q) rfl).elim (fun k => .inr (.inl k)) fun k => .inr (.inr k)
      obtain ⟨w', r, z⟩ := hl i y v e1 e2 vis
      obtain ⟨c2, h2⟩ := there q
      refine ⟨w', r, .inr ⟨.inr q, c2, h2, ?_⟩⟩
      have c1 := back h2
      rcases z with ⟨k', _⟩ | ⟨_, c3, e', z⟩
      · have k2 : X.env.scope.names.lookup y = some .local := k'
        rcases L.free _ (PySem.mem_of_lookup q) rfl with k | k
        · rw [show X.env.scope.names.lookup y = some .cell from k] at k2
          cases k2
        · rw [show X.env.scope.names.lookup y = some .free from k] at k2
          cases k2
      · rw [c1] at e'
        cases e'
        exact cellK (I.freeC y _ c1) z
  · intro y c e
    obtain ⟨w', z⟩ := I.cell y c (back e)
    exact ⟨w', cellK (I.freeC y c (back e)) z⟩
  · exact e0.hok.fresh (Nat.le_refl _)
  · intro y c e
    obtain ⟨v, o, ho, hd⟩ := I.cell y c (back e)
    exact un.free c o ho (I.freeC y c (back e)) (by simp)
  · intro q hq
    have hq' : q ∈ ([] : List (Addr × Obj)) ++ [] := hq
    cases hq'
  · exact e0.hok.kept kp
  · exact I.len
end
end Px

set_option maxHeartbeats 2000000
namespace Px
open PySem PySem.Spec PyProof.Rows L2 LamX
section
variable {X : Cx} {pins : List (Addr × Obj)} {σ : L2.St} {H : Hp} {s : Shared}
/-- how the one default is bound -/
def BindD (params : Arguments) (body : Expr) (scope : Scope) (kn : Str) : Prop := ∀ (q : Str) (cl : List (Str × Addr)) (pm cv ctv : Value) (tA : Addr) (v : Value), ∃ k, bindArgs (lamD q params body scope cl pm cv ctv (.ref tA)) ⟨[], []⟩ = seqItems? (.ref tA) >>= k ∧ k (some #[v]) = pure [(kn, v)]
/-- x(), in the def that got such a lambda -/
theorem pe_actD {CXg : CXT} {Eg : XK} {Ng : List Str} {qg : Str} {sg : Scope} {g f c' tA : Addr} {cdg pm ctv : Value} {params : Arguments} {body : Expr} {scope : Scope} {k i : Nat} {a kn : Str} {n : Int} {pn : List (Addr × Obj)} {xe : Value → Shared → Prop} {W : WX} {E : XK} {tb : TE} {p1 p2 : Pos}
    (I : Inv X pins σ H s) (L : LamSD X.N kn X.env.scope scope) (lies : s.heap.get? f = some (lamDO (X.env.qual ++ "<lambda>") params body scope (cloFrom X.env.cells scope.names []) pm c' ctv (.ref tA))) (nf : H f = none) (nfr : f ∉ frs X.stack) (dT : OneDef s.heap tA n) (nT : H tA = none) (nTr : tA ∉ frs X.stack)
    (bnd : BindD params body scope kn) (tk : Takes ((cxOf CXg X.prog X.w X.K X.mg X.base Ng qg sg g cdg X.A X.stack s H Eg).tr pn xe) W) (hW : ∀ cls d σ' H', E cls d H' → W cls d σ' H') (hr : Room (k + 1) (X.A.deeper (envOfC qg sg s.heap.objs.size g cdg)))
    (pb : ∀ (A : Around) (outer : List Env) (s : Shared) (H : Hp), Room k (A.deeper (lamEnv X scope s.heap.objs.size f c')) → PE (lamCx X A outer s H E scope f c') body tb)
    (at_ : Ng[i]? = some a) (vis : Vis sg a) (d1 : (a == ("__debug__" : Str)) = false := by decide) (d2 : (a == ("__classdict__" : Str)) = false := by decide) :
    PE ((cxOf CXg X.prog X.w X.K X.mg X.base Ng qg sg g cdg X.A X.stack s H Eg).tr pn xe) (.Call (.Name a p1) [] [] p2)
      (fun σZ HZ Q => σZ[i]? = some (some (.ref f)) ∧ HZ c' = some (CodeO c' (X.env.qual ++ "<lambda>")) ∧ tb σ HZ Q) := by
  constructor
  rintro pinsZ sZ σZ HZ Q IZ ⟨hs, hc, ht⟩
  refine wpAny_Call_Name_kw (thn ((pe_var (pos := p1) (i := i) at_ vis d1 d2).run pinsZ sZ σZ HZ (fun v H1 => v = .ref f ∧ H1 = HZ) IZ ⟨.ref f, hs, rfl, rfl⟩) ?_)
  rintro u s1 ⟨v, H1, I1, r1, rfl, rfl⟩
  obtain rfl : u = Value.ref f := r1
  have lies1 := I1.base.keep f _ lies nf nfr (fun z => nomatch (show f ∈ ([] : List Addr) from z))
  obtain ⟨tt, dT'⟩ := dT
  have dT1 := I1.base.keep tA _ dT' nT nTr (fun z => nomatch (show tA ∈ ([] : List Addr) from z))
  refine PySem.W.callWith_F0 ⟨_, _, _, _, lies1⟩ ?_
  have un : Un (frs X.stack) [] H H1 s.heap s1.heap := I1.base
  obtain ⟨⟨oc, vs, t, hoc, hdc, hvc⟩, _, _⟩ := I1.hok c' _ hc
  have rc : codeAny (model X.prog X.w) (X.A.deeper (envOfC qg sg s.heap.objs.size g cdg)) (.call (.ref f) ⟨[], []⟩) (CR (L2.CX X.prog X.w) (envOfC qg sg s.heap.objs.size g cdg :: X.stack) X.prog X.w H1 s1 Q E) s1 := by
    refine PySem.W.kla_callFunE hr.depth lies1 rfl L.co L.gen rfl ⟨c', oc, vs, t, rfl, hoc, hdc, hvc⟩ ?_
    obtain ⟨kk, e1, e2⟩ := bnd (X.env.qual ++ "<lambda>") (cloFrom X.env.cells scope.names []) pm (.ref c') ctv tA (.int n tt)
    refine (BindsTo.of_defaults (s := s1) (T := tA) (items := #[.int n tt]) rfl dT1 rfl e1 e2) _ _ _ _ ?_
    refine wpAny_newFunctionEnv L.nocell (fun y hy => ?_) (fun h₁ hns hsb => ⟨I1.nolimit.fresh _ hsb, ?_⟩) L.kind
    · rw [List.mem_singleton.mp hy]
      exact L.par
    show codeAny _ _ (.expr body (lamEnv X scope s1.heap.objs.size f c')) _ _
    have kp : ∀ b o, s1.heap.get? b = some o → h₁.get? b = some o := fun b o e => hsb.extBut b o (Nat.ne_of_lt (Heap.lt_size e)) (Heap.get?_push_of_some _ e)
    have J : Inv (lamCx X (X.A.deeper (envOfC qg sg s.heap.objs.size g cdg)) (envOfC qg sg s.heap.objs.size g cdg :: X.stack) s1 H1 E scope f c') [] σ H1 { s1 with heap := h₁, toks := s1.toks + [(kn, Value.int n tt)].length } := lamD_start I L I1.env0 hr.hd un hns kp
    refine PySem.W.kla_codeExpr (wpAny_mono ((pb _ _ s1 H1 (hr.deeper _)).run [] _ _ H1 Q J ht) ?_ fun _ _ z => z)
    rintro v s' ⟨w', H', J', rv, q⟩
    exact ⟨w', H', J'.os, J'.bare, J'.base, J'.hok, rv, q⟩
  have px : Passes (L2.CX X.prog X.w) ((cxOf CXg X.prog X.w X.K X.mg X.base Ng qg sg g cdg X.A X.stack s H Eg).tr pn xe) E := passes_call tk hW
  refine wpAny_call (codeAny_mono rc fun r s' hq => ?_)
  cases r with
  | error e => exact px pinsZ σZ H1 s1 e s' I1 hq
  | ok fl =>
    cases fl with
    | ret u => exact I1.after hq
    | next | brk | cont => exact False.elim hq
end
section
variable {X : Cx}
/-- the reading of x(lambda ..: body): the table may have changed -/
def tLamT (T : List (Addr × Str)) (TT : (XK → Hp → VK → Prop) → Hp → VK → Prop) (t : XK → TE) : TE := fun σ H Q => Tabs T H ∧ ∀ H1, ExtT T H H1 → Tabs T H1 → TT (fun E H' Q' => t E σ H' Q') H1 Q
/-- x(lambda k=0: body) -/
theorem pe_lamcallD {T : List (Addr × Str)} {TT : (XK → Hp → VK → Prop) → Hp → VK → Prop} {x a kn : Str} {g c P : Addr} {k j : Nat} {n : Int} {pg : Arguments} {bg : List Stmt} {sg : Scope} {dV kV doc pm cdv ct oc : Value} {an od : Option Addr} {osl : Array (Option Value)} {Ng : List Str}
    {params : Arguments} {body : Expr} {scope : Scope} {t : XK → TE} {p lpos dpos pos : Pos} (glob : Gl X x) (at_ : X.mg x = some (.ref g)) (keep : PySem.W.keepIn X.K (.ref g) = true)
    (lies : X.K.lookup g = some ⟨oc, od, .func (PySem.W.fnOf x x pg bg sg dV kV doc pm an cdv ct), osl⟩) (code : PySem.W.codeIn X.K cdv x = true) (bnd : L2.Binds X.K (PySem.W.fnOf x x pg bg sg dV kV doc pm an cdv ct) [a] []) (Sg : FnScope Ng [a] sg) (n0 : Ng[0]? = some a) (va : Vis sg a)
    (gives : GivesTo X Ng x sg g cdv bg a (X.env.qual ++ "<lambda>") TT)
    (TB : TabB X.base X.mg c P) (isc : X.env.code = .ref c) (mem : (P, X.env.qual ++ "<lambda>") ∈ T) (uni : ∀ p ∈ T, p.1 = P → p.2 = X.env.qual ++ "<lambda>") (room : Room (k + 2) X.A) (L : LamSD X.N kn X.env.scope scope) (dfl : defaultsOf params X.env = ([eval (.Constant (.int n) j dpos) X.env], [])) (nokw : params.kwonlyargs = [])
    (bd : BindD params body scope kn)
    (pb : ∀ (A : Around) (outer : List Env) (s : Shared) (H : Hp) (E : XK) (f c' : Addr), Room k (A.deeper (lamEnv X scope s.heap.objs.size f c')) → PE (lamCx X A outer s H E scope f c') body (t E))
    (d0 : (x == ("__debug__" : Str)) = false := by decide) (d1 : (a == ("__debug__" : Str)) = false := by decide) (d2 : (a == ("__classdict__" : Str)) = false := by decide) :
    PE X (.Call (.Name x p) [.Lambda params body scope lpos] [] pos) (tLamT T TT t) := by
  constructor
  rintro pins s σ H Q I ⟨tabs, h⟩
  refine wpAny_Call_Name_kw (ld_glob I glob at_ ?_ d0)
  refine PySem.W.callWith_K (h₀ := X.base) I.ok.mod.kin keep ?_ (by rfl) (by rfl)
  show wpAny _ _ (spliced ((false, eval (.Lambda params body scope lpos) X.env) :: backTo pos (starEach [] X.env))) _ _ s
  refine Calls.spliced_cons (lam_makeD I TB isc mem uni tabs dfl nokw (L.has I.ok) fun f c' tA pm' ctv H1 s' I1 eN T1 hf hfn hfr hT hTn hTr hco => ?_)
  refine Calls.spliced_nil ⟨I1.kIn, ?_⟩
  have rc : codeAny (model X.prog X.w) X.A (.call (.ref g) ⟨[.ref f], []⟩) (CR C8.CX0 X.stack X.prog X.w H1 s' Q C8.E0) s' := by
    refine run_ofS (N := Ng) (ps := [a]) (us := [.ref f]) (vs := [.ref f]) lies code Sg room I1.env0 (bnd s' [.ref f] I1.kIn rfl) (.cons rfl .nil) rfl fun hr' => ?_
    obtain ⟨t', ht', hq'⟩ := gives f c' s' H1 Q (fun E H' Q' => t E σ H' Q') (fun W pn xe E p1 p2 tk hW => pe_actD (i := 0) I1 L hf hfn hfr hT hTn hTr bd tk hW hr' (fun A outer s H hr2 => pb A outer s H E f c' hr2) n0 va d1 d2) hco (h H1 eN T1)
    exact ⟨t', ht'.nox, hq'⟩
  refine wpAny_call (codeAny_mono rc fun r s2 hq => ?_)
  cases r with
  | error e => exact (show False from hq).elim
  | ok fl =>
    cases fl with
    | ret u => exact I1.after hq
    | next | brk | cont => exact False.elim hq
/-- x(lambda: body) -/
theorem pe_lamcallT {T : List (Addr × Str)} {TT : (XK → Hp → VK → Prop) → Hp → VK → Prop} {x a : Str} {g c P : Addr} {k : Nat} {pg : Arguments} {bg : List Stmt} {sg : Scope} {dV kV doc pm cdv ct oc : Value} {an od : Option Addr} {osl : Array (Option Value)} {Ng : List Str}
    {params : Arguments} {body : Expr} {scope : Scope} {t : XK → TE} {p lpos pos : Pos} (glob : Gl X x) (at_ : X.mg x = some (.ref g)) (keep : PySem.W.keepIn X.K (.ref g) = true)
    (lies : X.K.lookup g = some ⟨oc, od, .func (PySem.W.fnOf x x pg bg sg dV kV doc pm an cdv ct), osl⟩) (code : PySem.W.codeIn X.K cdv x = true) (bnd : L2.Binds X.K (PySem.W.fnOf x x pg bg sg dV kV doc pm an cdv ct) [a] []) (Sg : FnScope Ng [a] sg) (n0 : Ng[0]? = some a) (va : Vis sg a)
    (gives : GivesTo X Ng x sg g cdv bg a (X.env.qual ++ "<lambda>") TT)
    (TB : TabB X.base X.mg c P) (isc : X.env.code = .ref c) (mem : (P, X.env.qual ++ "<lambda>") ∈ T) (uni : ∀ p ∈ T, p.1 = P → p.2 = X.env.qual ++ "<lambda>") (room : Room (k + 2) X.A) (L : LamS X.env.scope scope) (dfl : defaultsOf params X.env = ([], []))
    (bd : ∀ (q : Str) (cl : List (Str × Addr)) (pm cv ctv : Value), bindArgs (PySem.W.kla_fn "<lambda>" q params body scope cl pm cv ctv) ⟨[], []⟩ = pure [])
    (pb : ∀ (A : Around) (outer : List Env) (s : Shared) (H : Hp) (E : XK) (f c' : Addr), Room k (A.deeper (lamEnv X scope s.heap.objs.size f c')) → PE (lamCx X A outer s H E scope f c') body (t E))
    (d0 : (x == ("__debug__" : Str)) = false := by decide) (d1 : (a == ("__debug__" : Str)) = false := by decide) (d2 : (a == ("__classdict__" : Str)) = false := by decide) :
    PE X (.Call (.Name x p) [.Lambda params body scope lpos] [] pos) (tLamT T TT t) := by
  constructor
  rintro pins s σ H Q I ⟨tabs, h⟩
  refine wpAny_Call_Name_kw (ld_glob I glob at_ ?_ d0)
  refine PySem.W.callWith_K (h₀ := X.base) I.ok.mod.kin keep ?_ (by rfl) (by rfl)
  show wpAny _ _ (spliced ((false, eval (.Lambda params body scope lpos) X.env) :: backTo pos (starEach [] X.env))) _ _ s
  refine Calls.spliced_cons (lam_makeT I TB isc mem uni tabs dfl (L.has I.ok) fun f c' pm' ctv H1 s' I1 eN T1 hf hfn hfr hco => ?_)
  refine Calls.spliced_nil ⟨I1.kIn, ?_⟩
  have rc : codeAny (model X.prog X.w) X.A (.call (.ref g) ⟨[.ref f], []⟩) (CR C8.CX0 X.stack X.prog X.w H1 s' Q C8.E0) s' := by
    refine run_ofS (N := Ng) (ps := [a]) (us := [.ref f]) (vs := [.ref f]) lies code Sg room I1.env0 (bnd s' [.ref f] I1.kIn rfl) (.cons rfl .nil) rfl fun hr' => ?_
    obtain ⟨t', ht', hq'⟩ := gives f c' s' H1 Q (fun E H' Q' => t E σ H' Q') (fun W pn xe E p1 p2 tk hW => pe_act (i := 0) I1 L hf hfn hfr (bd _ _ _ _ _) tk hW hr' (fun A outer s H hr2 => pb A outer s H E f c' hr2) n0 va d1 d2) hco (h H1 eN T1)
    exact ⟨t', ht'.nox, hq'⟩
  refine wpAny_call (codeAny_mono rc fun r s2 hq => ?_)
  cases r with
  | error e => exact (show False from hq).elim
  | ok fl =>
    cases fl with
    | ret u => exact I1.after hq
    | next | brk | cont => exact False.elim hq
end
end Px

set_option maxHeartbeats 2000000
namespace Px
open PySem PySem.Spec PyProof.Rows L2 LamX
/-! ### tables among what changes -/
structure TabG (T : List (Addr × Str)) (G : Bg) : Prop where
  m : ∀ p ∈ T, G.M p.1
  ok : ∀ H, G.B H → Tabs T H
  stb : ∀ H H', G.B H → ExtT T H H' → Tabs T H' → G.B H'
section
variable {T : List (Addr × Str)} {G : Bg} {H H' : Hp} {K : PySem.W.Frag}
theorem TabG.ex (t : TabG T G) (e : ExtT T H H') : Ex G.M H H' := fun a o h n => e a o h fun q hm => n (t.m _ hm)
theorem TabG.plus {d : Addr} (t : TabG T G) (hB : G.B H) (nd : H d = none) : TabG T (G.plus d) where
  m := fun p hp => .inl (t.m p hp)
  ok := fun H' b => t.ok H' b.1
  stb := fun H1 H2 b e tb => ⟨t.stb H1 H2 b.1 e tb, by
    obtain ⟨xs, h⟩ := b.2
    exact ⟨xs, e _ _ h fun q hm => by
      obtain ⟨ps, hP, _⟩ := t.ok H hB _ hm
      rw [nd] at hP
      cases hP⟩⟩
/-- all but the tables stays -/
def onT (T : List (Addr × Str)) : Addr → Prop := fun a => ∃ q, (a, q) ∈ T
theorem ExtT.on (e : ExtT T H H') : Ex (onT T) H H' := fun a o h n => e a o h fun q hm => n ⟨q, hm⟩
theorem Ex.ext (e : Ex (onT T) H H') : ExtT T H H' := fun a o h n => e a o h fun ⟨q, hm⟩ => n q hm
theorem TabG.on (t : TabG T G) : ∀ a, onT T a → G.M a := fun a ⟨q, hm⟩ => t.m _ hm
end
section
variable {H : Hp} {σ : L2.St} {ta tb : TE} {Q : VK}
theorem v_neIt {i j : Int} (ha : Val ta σ H (.int i)) (hb : Val tb σ H (.int j)) (e : i ≠ j := by decide) : Val (tOp rNe ta tb) σ H (.bl true) := by
  have h := v_neI ha hb
  rwa [decide_eq_false e] at h
theorem v_neIf {i j : Int} (ha : Val ta σ H (.int i)) (hb : Val tb σ H (.int j)) (e : i = j := by decide) : Val (tOp rNe ta tb) σ H (.bl false) := by
  have h := v_neI ha hb
  rwa [decide_eq_true e] at h
end
end Px

set_option maxHeartbeats 2000000
namespace Px
open PySem PySem.Spec PyProof.Rows L2 He
/-! ### classes of errors with an own __init__ that says super() -/
structure ErrD where
  cls : Str
  params : Arguments
  body : List Stmt
  scope : Scope
abbrev FnC : Type := Option (Str × Str × Arguments × FuncBody × Scope × Addr × List Str × Addr)
def fnC (K : PySem.W.Frag) (x : Str) : FnC := match K.lookup (ma K (ga K x) "__init__") with
  | some ⟨_, _, .func fd, _⟩ => some (fd.name, fd.qualname, fd.params, fd.body, fd.scope, fd.globals, fd.closure.map (·.1), fd.builtins)
  | _ => none
def ErrD.val (d : ErrD) : FnC := some ("__init__", d.cls ++ ".__init__", d.params, .stmts d.body, d.scope, mainGlobals, ["__class__"], builtinsNs)
def fileLook (K : PySem.W.Frag) (file : Str) (cd : Value) : Bool := match cd with
  | .ref cda => (match K.lookup cda with
    | some ⟨_, _, .fields vs, _⟩ => (match (vs[2]? : Option Value) with
      | some (.str z _) => (file == z)
      | _ => false)
    | _ => false)
  | _ => false
def cellLook (K : PySem.W.Frag) (C : Addr) : List (Str × Addr) → Bool
  | [(_, cc)] => (match K.lookup cc with
    | some ⟨_, _, .cell (some (.ref C')), _⟩ => decide (C' = C)
    | _ => false)
  | _ => false
def noDfl : Value → Bool
  | .none => true
  | _ => false
theorem noDfl_ok {v : Value} (h : noDfl v = true) : v = .none := by
  unfold noDfl at h
  split at h
  · rfl
  · cases h
/-- what is looked at besides -/
def errLook (K : PySem.W.Frag) (file x : Str) : Bool := match K.lookup (ma K (ga K x) "__init__") with
  | some ⟨_, _, .func fd, _⟩ => PySem.W.codeIn K fd.code fd.qualname && (fileLook K file fd.code && (cellLook K (ga K x) fd.closure && noDfl fd.defaults))
  | _ => false
def clsLook (K : PySem.W.Frag) (C : Addr) : Bool := match K.lookup C with
  | some ⟨.type "type", _, .cls cd, sl⟩ => (match cd.mro, sl.toList with
    | .ref C' :: bm, [_, _, _, _, some (.builtin n), _] => decide (C' = C) && (n == "ValueError.__new__" && (!cd.hasDel && (cd.hasDict && PySem.HandSPX.refsVE bm)))
    | _, _ => false)
  | _ => false
theorem clsLook_ok {K : PySem.W.Frag} {C : Addr} (h : clsLook K C = true) : ∃ nm q N bs bm sn sub ab col dd k0 k1 k2 k3 k5, K.lookup C = some (excClassObj nm q C N bs bm true sn sub ab col dd k0 k1 k2 k3 k5 "ValueError.__new__") ∧ PySem.HandSPX.refsVE bm = true := by
  unfold clsLook at h
  split at h
  · rename_i dd cd sl ho
    split at h
    · rename_i C' bm k0 k1 k2 k3 n k5 hm hs
      obtain ⟨nm, bs, mro, ns, qn, hd, sn, sub, ab, col, del⟩ := cd
      simp only [Bool.and_eq_true, decide_eq_true_eq, beq_iff_eq, Bool.not_eq_true'] at h hm
      obtain ⟨rfl, rfl, rfl, rfl, hv⟩ := h
      subst hm
      obtain ⟨l⟩ := sl
      simp only at hs
      subst hs
      exact ⟨nm, qn, ns, bs, bm, sn, sub, ab, col, dd, k0, k1, k2, k3, k5, ho, hv⟩
    · cases h
  · cases h
theorem fileLook_ok {K : PySem.W.Frag} {file : Str} {cd : Value} (h : fileLook K file cd = true) : ∃ cda ccl cdd vs ccs z tf, cd = .ref cda ∧ K.lookup cda = some ⟨ccl, cdd, .fields vs, ccs⟩ ∧ vs[2]? = some (.str z tf) ∧ (file == z) = true := by
  unfold fileLook at h
  split at h
  · rename_i cda
    split at h
    · rename_i ccl cdd vs ccs ho
      split at h
      · rename_i z tf hv
        exact ⟨cda, ccl, cdd, vs, ccs, z, tf, rfl, ho, hv, h⟩
      · cases h
    · cases h
  · cases h
theorem cellLook_ok {K : PySem.W.Frag} {C : Addr} {l : List (Str × Addr)} (h : cellLook K C l = true) : ∃ n cc cl cld csl, l = [(n, cc)] ∧ K.lookup cc = some ⟨cl, cld, .cell (some (.ref C)), csl⟩ := by
  unfold cellLook at h
  split at h
  · rename_i n cc
    split at h
    · rename_i cl cld C' csl ho
      obtain rfl : C' = C := of_decide_eq_true h
      exact ⟨n, cc, cl, cld, csl, rfl, ho⟩
    · cases h
  · cases h
theorem errFn_ok {K : PySem.W.Frag} {file : Str} {d : ErrD} (e : fnC K d.cls = d.val) (h : errLook K file d.cls = true) :
    ∃ oc od kV doc pm an cda ct osl cc ccl cdd vs ccs z tf cl cld csl, K.lookup (ma K (ga K d.cls) "__init__") = some ⟨oc, od, .func (PySem.W.ksFn "__init__" (d.cls ++ ".__init__") d.params d.body d.scope .none kV doc pm an (.ref cda) ct cc), osl⟩ ∧ PySem.W.codeIn K (.ref cda) (d.cls ++ ".__init__") = true ∧
      K.lookup cda = some ⟨ccl, cdd, .fields vs, ccs⟩ ∧ vs[2]? = some (.str z tf) ∧ (file == z) = true ∧ K.lookup cc = some ⟨cl, cld, .cell (some (.ref (ga K d.cls))), csl⟩ := by
  unfold fnC ErrD.val at e
  unfold errLook at h
  split at h
  · rename_i oc od fd osl ho
    rw [ho] at e
    obtain ⟨h1, h2⟩ := ba h
    obtain ⟨h3, h4'⟩ := ba h2
    obtain ⟨h4, h5⟩ := ba h4'
    have h6 := noDfl_ok h5
    obtain ⟨n1, n2, n3, n4, n5, n6, n7, n8, n9, n10, n11, n12, n13, n14, n15⟩ := fd
    obtain ⟨cda, ccl, cdd, vs, ccs, z, tf, hc, a1, a2, a3⟩ := fileLook_ok h3
    obtain ⟨n, cc, cl, cld, csl, hl, b1⟩ := cellLook_ok h4
    simp only [Option.some.injEq, Prod.mk.injEq] at e hc hl h6
    obtain ⟨e1, e2, e3, e4, e5, e6, e7, e8⟩ := e
    subst e1 e2 e3 e4 e5 e6 e8 hc hl h6
    have en : n = "__class__" := by simpa using e7
    subst en
    exact ⟨oc, od, _, _, _, _, cda, _, osl, cc, ccl, cdd, vs, ccs, z, tf, cl, cld, csl, ho, h1, a1, a2, a3, b1⟩
  · cases h
end Px

set_option maxHeartbeats 2000000
namespace Px
open PySem PySem.Spec PyProof.Rows L2 He
/-! ### what the head tells: facts, defs, tables of code objects, classes of errors -/
def errB (K : PySem.W.Frag) (file x a b : Str) : Bool :=
  let C := ga K x
  clsLook K C && (errLook K file x && (decide (PySem.W.findIn K (.ref C) "__init__" = some (some (.ref (ma K C "__init__")))) && (decide (PySem.W.typeIn K (.ref (ma K C "__init__")) = some (.type "function")) && (decide (PySem.W.ks_superIn K C C "__init__" = some (some (.builtin "ValueError.__init__"))) &&
  (decide (PySem.W.subIn K (.ref C) (.type "ValueError") = some true) && (decide (PySem.W.mroIn K C (.ref C) = some true) && (decide (PySem.W.nsIn K PySem.cStatics "thirdparty.any" = some none) && (decide (PySem.W.findIn K (.ref C) "__setattr__" = some (some (.builtin "object.__setattr__"))) &&
  (PySem.W.excInitIn K C PySem.HandSPX.veTail "ValueError.__new__" && (PySem.W.excOver K C PySem.HandSPX.veTail && (decide (PySem.W.takerIn K C "code" = some none) && (PySem.W.hasDictIn K C && (decide (PySem.W.subIn K (.ref C) (.type "BaseException") = some true) &&
  (decide (PySem.W.typeIn K (.ref C) = some (.type "type")) && (PySem.W.keepIn K (.ref C) && (xfB K C && (decide (PySem.W.findIn K (.ref C) "code" = some none) && decide (PySem.W.exmAny K (.ref C) [.ref (ga K a), .ref (ga K b)] = some true))))))))))))))))))
def KZ (g : Addr → Option Obj) (n : Nat) : PySem.W.Frag := frT g (asD g n ++ [PySem.cStatics])
abbrev AlZ : Type := AlD × Bool × List FnC
def obsK (fa : List Fa) (fn : List DefD) (tf : List Defn) (ex : PySem.W.Frag → Bool) (es : List ErrD) (g : Addr → Option Obj) (K : PySem.W.Frag) : AlZ := (obsD fa fn K, ex K && tabsB g tf K, es.map fun d => fnC K d.cls)
def obsZ (n : Nat) (fa : List Fa) (fn : List DefD) (tf : List Defn) (ex : PySem.W.Frag → Bool) (es : List ErrD) (g : Addr → Option Obj) : AlZ := obsK fa fn tf ex es g (KZ g n)
def valZ (fn : List DefD) (es : List ErrD) : AlZ := (valD fn, true, es.map ErrD.val)
structure SaysZ (fa : List Fa) (fn : List DefD) (tf : List Defn) (ex : PySem.W.Frag → Bool) (es : List ErrD) (h : Heap) (K : PySem.W.Frag) : Prop where
  d : SaysD fa fn K
  more : ex K = true
  hd : ∀ p ∈ tf, PySem.W.codeHdIn K (cT K p).1 (cT K p).2 = true
  out : ∀ p ∈ tf, K.lookup (cT K p).2 = none
  empty : ∀ p ∈ tf, h.get? (cT K p).2 = some { cls := .none, data := .fields #[] }
  errs : ∀ d ∈ es, fnC K d.cls = d.val
theorem saysZ_of {n : Nat} {fa : List Fa} {fn : List DefD} {tf : List Defn} {ex : PySem.W.Frag → Bool} {es : List ErrD} {h : Heap} (e : obsZ n fa fn tf ex es h.get? = valZ fn es) : SaysZ fa fn tf ex es h (KZ h.get? n) := by
  have e1 : obsD fa fn (KZ h.get? n) = valD fn := congrArg (fun z : AlZ => z.1) e
  have e2 : (ex (KZ h.get? n) && tabsB h.get? tf (KZ h.get? n)) = true := congrArg (fun z : AlZ => z.2.1) e
  have e3 : (es.map fun d => fnC (KZ h.get? n) d.cls) = es.map ErrD.val := congrArg (fun z : AlZ => z.2.2) e
  obtain ⟨x1, x2⟩ := ba e2
  have at_ : ∀ p ∈ tf, PySem.W.codeHdIn (KZ h.get? n) (cT (KZ h.get? n) p).1 (cT (KZ h.get? n) p).2 = true ∧ ∃ o, h.get? (cT (KZ h.get? n) p).2 = some o ∧ emptyTab o = true := by
    intro p hp
    obtain ⟨y1, y2⟩ := ba (List.all_eq_true.mp x2 p hp)
    refine ⟨y1, ?_⟩
    split at y2
    · rename_i o q
      exact ⟨o, q, y2⟩
    · cases y2
  constructor
  · exact e1
  · exact x1
  · exact fun p hp => (at_ p hp).1
  · intro p hp
    obtain ⟨_, o, q, z⟩ := at_ p hp
    exact frT_none q z
  · intro p hp
    obtain ⟨_, o, q, z⟩ := at_ p hp
    rw [q, emptyTab_eq z]
  · intro d hd
    obtain ⟨i, hi, rfl⟩ := List.mem_iff_getElem.mp hd
    have e4 : (es.map fun d => fnC (KZ h.get? n) d.cls)[i]? = (es.map ErrD.val)[i]? := by rw [e3]
    rw [List.getElem?_map, List.getElem?_map, List.getElem?_eq_getElem hi] at e4
    exact Option.some.inj e4
def hookZ (n : Nat) (fa : List Fa) (fn : List DefD) (tf : List Defn) (ex : PySem.W.Frag → Bool) (es : List ErrD) : PySem.W.Hook where
  α := AlZ
  obs := fun s => obsZ n fa fn tf ex es s.heap.get?
  val := fun _ => valZ fn es
  says := fun _ h => ∃ K : PySem.W.Frag, K.In h ∧ SaysZ fa fn tf ex es h K
  of := fun _ _ e => ⟨_, frT_in, saysZ_of e⟩
  keeps := fun _ _ _ ⟨K, hK, c⟩ k => ⟨K, PySem.W.Frag.In.keeps hK k, ⟨c.d, c.more, c.hd, c.out, fun p hp => k _ _ (c.empty p hp), c.errs⟩⟩
theorem obsZ_eq {n : Nat} {fa : List Fa} {fn : List DefD} {tf : List Defn} {ex : PySem.W.Frag → Bool} {es : List ErrD} {g : Addr → Option Obj} {s : Shared} (h : ∀ a, g a = s.heap.get? a) : obsZ n fa fn tf ex es g = (hookZ n fa fn tf ex es).obs s := by
  rw [show g = s.heap.get? from funext h]
  rfl
/-! ### the facts, as the promises want them -/
theorem fun_of {K : PySem.W.Frag} {x qual : Str} {st : Stmt} {f : Addr} {fd : FuncData} {ks : List (Str × V)} (F : FunD K x qual (defArgs st) (defBody st) (defScope st) [] ks f fd) : Fun K x qual st f fd := by
  obtain ⟨oc, od, dV, kV, doc, pm, an, cdv, ct, osl, e, lk, hc, hD, _⟩ := F.ex
  rcases hD with ⟨_, rfl⟩ | ⟨h, _⟩
  · exact ⟨⟨oc, od, kV, doc, pm, an, cdv, ct, osl, e, lk, hc⟩, F.kp⟩
  · exact absurd rfl h
theorem fun_code {K : PySem.W.Frag} {x qual : Str} {st : Stmt} {fd : FuncData} (F : Fun K x qual st (ga K x) fd) : fd.code = .ref (codeOf K (x, none)) := by
  obtain ⟨oc, od, kV, doc, pm, an, cdv, ct, osl, rfl, lk, hc⟩ := F.ex
  obtain ⟨c, rfl⟩ := codeIn_ref hc
  rw [codeOf_eq (p := (x, none)) lk rfl]
theorem err_of {P : Program} {w : World} {K : PySem.W.Frag} {x a b : Str} {st : Stmt} {d : ErrD} (hd : d.cls = x) (hp : d.params = defArgs st) (hb : d.body = defBody st) (hs : d.scope = defScope st) (e : fnC K d.cls = d.val) (h : errB K P.main.file x a b = true)
    (hk : (defScope st).kind = .function ∧ (defScope st).isCoroutine = false ∧ (defScope st).isGenerator = false ∧ (∀ y ∈ (defScope st).names, y.2 ≠ .cell) ∧ (defScope st).names.lookup ("self" : Str) = some .local ∧ (defScope st).names.lookup ("super" : Str) = some .globalImplicit ∧ (defScope st).names.lookup ("__class__" : Str) = some .free ∧ (P.main.scope.names.lookup ("super" : Str)).isSome = false)
    (ha : ((defArgs st).posonlyargs ++ (defArgs st).args).head?.map (·.arg) = some "self" ∧ ∀ (qual : Str) (body : List Stmt) (scope : Scope) (kV doc pm : Value) (an : Option Addr) (cdv ct : Value) (cc : Addr) (s : Shared) (v : Value), BindsTo s (PySem.W.ksFn "__init__" qual (defArgs st) body scope .none kV doc pm an cdv ct cc) ⟨[v], []⟩ [("self", v)]) :
    ErrC P w K (ga K x) (ma K (ga K x) "__init__") (defBody st) (defScope st) ∧ XfC K (ga K x) ∧ PySem.W.findIn K (.ref (ga K x)) "code" = some none ∧ PySem.W.exmAny K (.ref (ga K x)) [.ref (ga K a), .ref (ga K b)] = some true := by
  subst hd
  unfold errB at h
  simp only [Bool.and_eq_true, decide_eq_true_eq] at h
  obtain ⟨h1, h2, h3, h4, h5, h6, h7, h8, h9, h10, h11, h12, h13, h14, h15, h16, h17, h18, h19⟩ := h
  obtain ⟨oc, od, kV, doc, pm, an, cda, ct, osl, cc, ccl, cdd, vs, ccs, z, tf, cl, cld, csl, f1, f2, f3, f4, f5, f6⟩ := errFn_ok e h2
  rw [hp, hb, hs] at f1
  obtain ⟨nm, q, N, bs, bm, sn, sub, ab, col, dd, k0, k1, k2, k3, k5, c1, c2⟩ := clsLook_ok h1
  refine ⟨⟨⟨nm, q, N, bs, bm, sn, sub, ab, col, dd, k0, k1, k2, k3, k5, c1, c2⟩, ⟨oc, od, _, _, .none, kV, doc, pm, an, cda, ct, osl, cc, ccl, cdd, vs, ccs, z, tf, cl, cld, csl, f1, f2, f3, f4, f5, f6, ha.1, fun s v => ha.2 _ _ _ _ _ _ _ _ _ _ s v⟩, h3, h4, h5, h6, h7, h8, h9, h10, h11, h12, h13, h14, h15, h16,
    hk.1, hk.2.1, hk.2.2.1, hk.2.2.2.1, hk.2.2.2.2.1, hk.2.2.2.2.2.1, hk.2.2.2.2.2.2.1, hk.2.2.2.2.2.2.2⟩, xfB_ok h17, h18, h19⟩
end Px

namespace Px
open PySem PySem.Spec PyProof.Rows L2
def topS (i : Nat) : Stmt := PySem.Challenge.pw_lostland_k03_vectors_and_directions.main.body.getD i (.Pass ⟨0, 0, 0, 0⟩)
abbrev s_fraction : Stmt := topS 6
theorem sc_fraction : FnScope ["over", "under", "shared"] ["over", "under"] (defScope s_fraction) := ⟨rfl, rfl, rfl, by decide +kernel, rfl, by decide +kernel, by decide +kernel⟩
abbrev s_plus : Stmt := topS 7
theorem sc_plus : FnScope ["one", "other"] ["one", "other"] (defScope s_plus) := ⟨rfl, rfl, rfl, by decide +kernel, rfl, by decide +kernel, by decide +kernel⟩
abbrev s_minus : Stmt := topS 8
theorem sc_minus : FnScope ["one", "other"] ["one", "other"] (defScope s_minus) := ⟨rfl, rfl, rfl, by decide +kernel, rfl, by decide +kernel, by decide +kernel⟩
abbrev s_times : Stmt := topS 9
theorem sc_times : FnScope ["one", "other"] ["one", "other"] (defScope s_times) := ⟨rfl, rfl, rfl, by decide +kernel, rfl, by decide +kernel, by decide +kernel⟩
abbrev s_divided : Stmt := topS 10
theorem sc_divided : FnScope ["one", "other"] ["one", "other"] (defScope s_divided) := ⟨rfl, rfl, rfl, by decide +kernel, rfl, by decide +kernel, by decide +kernel⟩
abbrev s_negative : Stmt := topS 11
theorem sc_negative : FnScope ["one"] ["one"] (defScope s_negative) := ⟨rfl, rfl, rfl, by decide +kernel, rfl, by decide +kernel, by decide +kernel⟩
abbrev s_direction : Stmt := topS 12
theorem sc_direction : FnScope ["vector", "across", "along", "shared"] ["vector"] (defScope s_direction) := ⟨rfl, rfl, rfl, by decide +kernel, rfl, by decide +kernel, by decide +kernel⟩
abbrev s_vector_plus : Stmt := topS 13
theorem sc_vector_plus : FnScope ["one", "other"] ["one", "other"] (defScope s_vector_plus) := ⟨rfl, rfl, rfl, by decide +kernel, rfl, by decide +kernel, by decide +kernel⟩
abbrev s_vector_minus : Stmt := topS 14
theorem sc_vector_minus : FnScope ["one", "other"] ["one", "other"] (defScope s_vector_minus) := ⟨rfl, rfl, rfl, by decide +kernel, rfl, by decide +kernel, by decide +kernel⟩
abbrev s_vector_times : Stmt := topS 15
theorem sc_vector_times : FnScope ["vector", "weight"] ["vector", "weight"] (defScope s_vector_times) := ⟨rfl, rfl, rfl, by decide +kernel, rfl, by decide +kernel, by decide +kernel⟩
abbrev s__law_bag : Stmt := topS 17
theorem sc__law_bag : FnScope ["_law_script", "_law_cells"] ["_law_script"] (defScope s__law_bag) := ⟨rfl, rfl, rfl, by decide +kernel, rfl, by decide +kernel, by decide +kernel⟩
abbrev s__law_draw : Stmt := topS 18
theorem sc__law_draw : FnScope ["_law_bag_here", "_law_many", "_law_cell", "_law_digit", "_law_seed"] ["_law_bag_here", "_law_many"] (defScope s__law_draw) := ⟨rfl, rfl, rfl, by decide +kernel, rfl, by decide +kernel, by decide +kernel⟩
abbrev s__law_pick : Stmt := topS 19
theorem sc__law_pick : FnScope ["_law_bag_here", "_law_some"] ["_law_bag_here", "_law_some"] (defScope s__law_pick) := ⟨rfl, rfl, rfl, by decide +kernel, rfl, by decide +kernel, by decide +kernel⟩
abbrev s__law_same : Stmt := topS 20
theorem sc__law_same : FnScope ["_law_found", "_law_due", "_law_x", "_law_y"] ["_law_found", "_law_due"] (defScope s__law_same) := ⟨rfl, rfl, rfl, by decide +kernel, rfl, by decide +kernel, by decide +kernel⟩
abbrev s__law_fields : Stmt := topS 21
theorem sc__law_fields : FnScope ["_law_e"] ["_law_e"] (defScope s__law_fields) := ⟨rfl, rfl, rfl, by decide +kernel, rfl, by decide +kernel, by decide +kernel⟩
abbrev s__law_got : Stmt := topS 22
theorem sc__law_got : FnScope ["_law_ask", "_law_e"] ["_law_ask"] (defScope s__law_got) := ⟨rfl, rfl, rfl, by decide +kernel, rfl, by decide +kernel, by decide +kernel⟩
abbrev s__law_is_whole : Stmt := topS 23
theorem sc__law_is_whole : FnScope ["_law_v"] ["_law_v"] (defScope s__law_is_whole) := ⟨rfl, rfl, rfl, by decide +kernel, rfl, by decide +kernel, by decide +kernel⟩
abbrev s__law_common : Stmt := topS 24
theorem sc__law_common : FnScope ["_law_p", "_law_q", "_law_x", "_law_y"] ["_law_p", "_law_q"] (defScope s__law_common) := ⟨rfl, rfl, rfl, by decide +kernel, rfl, by decide +kernel, by decide +kernel⟩
abbrev s__law_low : Stmt := topS 25
theorem sc__law_low : FnScope ["_law_p", "_law_q", "_law_part"] ["_law_p", "_law_q"] (defScope s__law_low) := ⟨rfl, rfl, rfl, by decide +kernel, rfl, by decide +kernel, by decide +kernel⟩
abbrev s__law_is_fraction : Stmt := topS 26
theorem sc__law_is_fraction : FnScope ["_law_v"] ["_law_v"] (defScope s__law_is_fraction) := ⟨rfl, rfl, rfl, by decide +kernel, rfl, by decide +kernel, by decide +kernel⟩
abbrev s__law_fraction : Stmt := topS 27
theorem sc__law_fraction : FnScope ["_law_bag_here", "_law_size", "_law_top"] ["_law_bag_here"] (defScope s__law_fraction) := ⟨rfl, rfl, rfl, by decide +kernel, rfl, by decide +kernel, by decide +kernel⟩
abbrev s__law_right : Stmt := topS 28
theorem sc__law_right : FnScope ["_law_found", "_law_p", "_law_q"] ["_law_found", "_law_p", "_law_q"] (defScope s__law_right) := ⟨rfl, rfl, rfl, by decide +kernel, rfl, by decide +kernel, by decide +kernel⟩
abbrev s__law_pair : Stmt := topS 29
theorem sc__law_pair : FnScope ["_law_v"] ["_law_v"] (defScope s__law_pair) := ⟨rfl, rfl, rfl, by decide +kernel, rfl, by decide +kernel, by decide +kernel⟩
abbrev s__law_vector : Stmt := topS 30
theorem sc__law_vector : FnScope ["_law_bag_here", "_law_x", "_law_y"] ["_law_bag_here"] (defScope s__law_vector) := ⟨rfl, rfl, rfl, by decide +kernel, rfl, by decide +kernel, by decide +kernel⟩
abbrev s__law_is_direction : Stmt := topS 31
theorem sc__law_is_direction : FnScope ["_law_d", "_law_v"] ["_law_d", "_law_v"] (defScope s__law_is_direction) := ⟨rfl, rfl, rfl, by decide +kernel, rfl, by decide +kernel, by decide +kernel⟩
abbrev s__law_direction_so : Stmt := topS 32
theorem sc__law_direction_so : FnScope ["_law_v", "_law_w", "_law_first", "_law_later", "_law_d", "_law_unit", "_law_part", "_law_long"] ["_law_v", "_law_w"] (defScope s__law_direction_so) := ⟨rfl, rfl, rfl, by decide +kernel, rfl, by decide +kernel, by decide +kernel⟩
abbrev s__law_sums_so : Stmt := topS 33
theorem sc__law_sums_so : FnScope ["_law_u", "_law_v", "_law_w", "_law_told", "_law_k", "_law_x", "_law_y", "_law_low_here", "_law_up", "_law_down", "_law_due", "_law_back", "_law_r", "_law_p"] ["_law_u", "_law_v", "_law_w"] (defScope s__law_sums_so) := ⟨rfl, rfl, rfl, by decide +kernel, rfl, by decide +kernel, by decide +kernel⟩
abbrev s_law : Stmt := topS 34
theorem sc_law : FnScope ["_law_script", "_law_bag_here", "_law_turn", "_law_u", "_law_v", "_law_w", "_law_gap"] ["_law_script"] (defScope s_law) := ⟨rfl, rfl, rfl, by decide +kernel, rfl, by decide +kernel, by decide +kernel⟩
/-- what the top has written -/
structure Tx (K : PySem.W.Frag) (mg : Str → Option Value) : Prop where
  len : mg "len" = none
  abs : mg "abs" = none
  int : mg "int" = none
  isinstance : mg "isinstance" = none
  list : mg "list" = none
  tuple : mg "tuple" = none
  str : mg "str" = none
  all : mg "all" = none
  zip : mg "zip" = none
  range : mg "range" = none
  bool : mg "bool" = none
  fraction : ∃ f fd, FunD K "fraction" "fraction" (defArgs s_fraction) (defBody s_fraction) (defScope s_fraction) [.int 1] [] f fd ∧ mg "fraction" = some (.ref f)
  plus : ∃ f fd, Fun K "plus" "plus" s_plus f fd ∧ mg "plus" = some (.ref f)
  minus : ∃ f fd, Fun K "minus" "minus" s_minus f fd ∧ mg "minus" = some (.ref f)
  times : ∃ f fd, Fun K "times" "times" s_times f fd ∧ mg "times" = some (.ref f)
  divided : ∃ f fd, Fun K "divided" "divided" s_divided f fd ∧ mg "divided" = some (.ref f)
  negative : ∃ f fd, Fun K "negative" "negative" s_negative f fd ∧ mg "negative" = some (.ref f)
  direction : ∃ f fd, Fun K "direction" "direction" s_direction f fd ∧ mg "direction" = some (.ref f)
  vector_plus : ∃ f fd, Fun K "vector_plus" "vector_plus" s_vector_plus f fd ∧ mg "vector_plus" = some (.ref f)
  vector_minus : ∃ f fd, Fun K "vector_minus" "vector_minus" s_vector_minus f fd ∧ mg "vector_minus" = some (.ref f)
  vector_times : ∃ f fd, Fun K "vector_times" "vector_times" s_vector_times f fd ∧ mg "vector_times" = some (.ref f)
  _law_bag : ∃ f fd, Fun K "_law_bag" "_law_bag" s__law_bag f fd ∧ mg "_law_bag" = some (.ref f)
  _law_draw : ∃ f fd, Fun K "_law_draw" "_law_draw" s__law_draw f fd ∧ mg "_law_draw" = some (.ref f)
  _law_pick : ∃ f fd, Fun K "_law_pick" "_law_pick" s__law_pick f fd ∧ mg "_law_pick" = some (.ref f)
  _law_same : ∃ f fd, Fun K "_law_same" "_law_same" s__law_same f fd ∧ mg "_law_same" = some (.ref f)
  _law_fields : ∃ f fd, Fun K "_law_fields" "_law_fields" s__law_fields f fd ∧ mg "_law_fields" = some (.ref f)
  _law_got : ∃ f fd, Fun K "_law_got" "_law_got" s__law_got f fd ∧ mg "_law_got" = some (.ref f)
  _law_is_whole : ∃ f fd, Fun K "_law_is_whole" "_law_is_whole" s__law_is_whole f fd ∧ mg "_law_is_whole" = some (.ref f)
  _law_common : ∃ f fd, Fun K "_law_common" "_law_common" s__law_common f fd ∧ mg "_law_common" = some (.ref f)
  _law_low : ∃ f fd, Fun K "_law_low" "_law_low" s__law_low f fd ∧ mg "_law_low" = some (.ref f)
  _law_is_fraction : ∃ f fd, Fun K "_law_is_fraction" "_law_is_fraction" s__law_is_fraction f fd ∧ mg "_law_is_fraction" = some (.ref f)
  _law_fraction : ∃ f fd, Fun K "_law_fraction" "_law_fraction" s__law_fraction f fd ∧ mg "_law_fraction" = some (.ref f)
  _law_right : ∃ f fd, Fun K "_law_right" "_law_right" s__law_right f fd ∧ mg "_law_right" = some (.ref f)
  _law_pair : ∃ f fd, Fun K "_law_pair" "_law_pair" s__law_pair f fd ∧ mg "_law_pair" = some (.ref f)
  _law_vector : ∃ f fd, Fun K "_law_vector" "_law_vector" s__law_vector f fd ∧ mg "_law_vector" = some (.ref f)
  _law_is_direction : ∃ f fd, Fun K "_law_is_direction" "_law_is_direction" s__law_is_direction f fd ∧ mg "_law_is_direction" = some (.ref f)
  _law_direction_so : ∃ f fd, Fun K "_law_direction_so" "_law_direction_so" s__law_direction_so f fd ∧ mg "_law_direction_so" = some (.ref f)
  _law_sums_so : ∃ f fd, Fun K "_law_sums_so" "_law_sums_so" s__law_sums_so f fd ∧ mg "_law_sums_so" = some (.ref f)
  law : ∃ f fd, Fun K "law" "law" s_law f fd ∧ mg "law" = some (.ref f)
  gcd : mg "gcd" = some (.builtin "math.gcd")
section
variable {P : Program} {w : World} {K : PySem.W.Frag} {mg : Str → Option Value} {base : Heap}
def Has (P : Program) (w : World) (K : PySem.W.Frag) (mg : Str → Option Value) (base : Heap) (CX : CXT) (x : Str) (st : Stmt) (ps : List Str) (lv : Nat) (sp : Sp) : Prop :=
  ∃ f fd, Fun K x x st f fd ∧ mg x = some (.ref f) ∧ Binds K fd ps [] ∧ FnOk P w K mg base CX lv f fd ps sp
/-! ### the bag -/
def bagL (c : Addr) (i x y z : Int) : List V := [.ref c, .int i, .int x, .int y, .int z]
structure BagAt (K : PySem.W.Frag) (b c : Addr) (ns : List Int) (i x y z : Int) (H : Hp) : Prop where
  ne : c ≠ b
  cells : SqL K H c (ns.map V.int)
  i0 : 0 ≤ i
  x0 : 0 ≤ x
  y0 : 0 ≤ y
  y1 : y < 2147483423
def BagOk (K : PySem.W.Frag) (b c : Addr) (ns : List Int) (H : Hp) : Prop := ∃ i x y z, H b = some (.lst (bagL c i x y z)) ∧ BagAt K b c ns i x y z H
theorem upd_self {H : Hp} {b : Addr} {o : HO} (h : H b = some o) : upd H b o = H := by
  funext a
  unfold upd
  split
  · subst_vars; exact h.symm
  · rfl
theorem sqL_upd {H : Hp} {b c : Addr} {o : HO} {xs : List V} (n : c ≠ b) (h : SqL K H c xs) : SqL K (upd H b o) c xs := by
  rcases h with (h | ⟨u, h⟩) | h
  · exact .inl (.inl (by rw [upd_ne n]; exact h))
  · exact .inl (.inr ⟨u, by rw [upd_ne n]; exact h⟩)
  · exact .inr h
def onB (b : Addr) : Addr → Prop := fun a => a = b
theorem ex_upd {H : Hp} {b : Addr} {o : HO} : Ex (onB b) H (upd H b o) := fun a u h n => by
  rw [upd_ne (show a ≠ b from n)]; exact h
theorem bag_end {H : Hp} {b c : Addr} {ns : List Int} {i x y z : Int} (A : BagAt K b c ns i x y z H) {i' x' y' z' : Int} (hi : 0 ≤ i') (hx : 0 ≤ x') (hy : 0 ≤ y') (hy1 : y' < 2147483423) : BagOk K b c ns (upd H b (.lst (bagL c i' x' y' z'))) :=
  ⟨i', x', y', z', upd_same, A.ne, sqL_upd A.ne A.cells, hi, hx, hy, hy1⟩
theorem v_ixL {σ : L2.St} {H : Hp} {ta tb : TE} {a : Addr} {xs : List V} {k : Nat} {w : V} (ha : Val ta σ H (.ref a)) (hb : Val tb σ H (.int (k : Int))) (h : SqL K H a xs) (e : xs[k]? = some w) : Val (tOp (rIxL K) ta tb) σ H w := fun _ q => ha _ (hb _ ⟨a, xs, _, w, rfl, rfl, h, atI_nat e, q⟩)
theorem v_bag {σ : L2.St} {H : Hp} {ta tb : TE} {b : Addr} {xs : List V} {k : Nat} {w : V} (ha : Val ta σ (upd H b (.lst xs)) (.ref b)) (hb : Val tb σ (upd H b (.lst xs)) (.int (k : Int))) (e : xs[k]? = some w) : Val (tOp (rIxL K) ta tb) σ (upd H b (.lst xs)) w :=
  v_ixL ha hb (.inl (.inl upd_same)) e
theorem a_use {c : TT} {σ : L2.St} {H : Hp} {b : Bool} {Q : Bool → Hp → Prop} (h : Ans c σ H b) (q : Q b H) : c σ H Q := h Q q
theorem v_cell {σ : L2.St} {H : Hp} {ta tb : TE} {a : Addr} {ns : List Int} {i : Int} (ha : Val ta σ H (.ref a)) (hb : Val tb σ H (.int i)) (h : SqL K H a (ns.map V.int)) (i0 : 0 ≤ i) (i1 : i < ((ns.map V.int).length : Int)) : Val (tOp (rIxL K) ta tb) σ H (.int (ns.getD i.toNat 0)) := by
  rw [List.length_map] at i1
  have e : i = ((i.toNat : Nat) : Int) := by omega
  have l : i.toNat < ns.length := by omega
  rw [e] at hb
  have q := v_ixL (k := i.toNat) ha hb h (w := .int (ns.getD i.toNat 0)) (by rw [List.getElem?_map, List.getElem?_eq_getElem l, List.getD_eq_getElem?_getD, List.getElem?_eq_getElem l]; rfl)
  exact q
theorem ixN_lt {n k : Nat} (h : k < n) : ixN n (k : Int) = some k := by
  unfold ixN
  rw [if_pos (by omega), if_pos (by omega)]
  rfl
theorem k_seti {σ : L2.St} {H : Hp} {te to ti : TE} {D' : Ends} {b : Addr} {xs ys : List V} {v : V} {k : Nat} (h : Val te σ (upd H b (.lst xs)) v) (ho : Val to σ (upd H b (.lst xs)) (.ref b)) (hi : Val ti σ (upd H b (.lst xs)) (.int (k : Int))) (hk : k < xs.length) (e : xs.set k v = ys)
    (q : D'.nx σ (upd H b (.lst ys))) : tAsg te (gSub to ti rSetL) D' σ (upd H b (.lst xs)) := by
  refine h _ (ho _ (hi _ ⟨b, xs, _, k, rfl, rfl, upd_same, ixN_lt hk, ?_⟩))
  rw [upd_upd, e]
  exact q
def rLen (K : PySem.W.Frag) : List V → Hp → VK → Prop := fun xs H Q => ∃ x n, xs = [x] ∧ LenV K x H n ∧ Q (.int n) H
theorem v_lenL {σ : L2.St} {H : Hp} {ta : TE} {a : Addr} {xs : List V} (ha : Val ta σ H (.ref a)) (h : SqL K H a xs) : Val (tCB (rLen K) (tCons ta tNil)) σ H (.int (xs.length : Nat)) := fun _ q => ha _ ⟨_, _, rfl, .inl ⟨xs, h, rfl⟩, q⟩
theorem v_lenT {σ : L2.St} {H : Hp} {ta : TE} {a : Addr} {xs : List V} (ha : Val ta σ H (.ref a)) (h : SqT K H a xs) : Val (tCB (rLen K) (tCons ta tNil)) σ H (.int (xs.length : Nat)) := fun _ q => ha _ ⟨_, _, rfl, .inr ⟨xs, h, rfl⟩, q⟩
def sp__law_draw (K : PySem.W.Frag) : Sp := fun vs H Q _ => ∃ (b c : Addr) (ns : List Int) (n : Int), vs = [.ref b, .int n] ∧ BagOk K b c ns H ∧ 0 < n ∧ n < 1073741824 ∧ ∀ r H', 0 ≤ r → r < n → BagOk K b c ns H' → Ex (onB b) H H' → Q (.int r) H'
theorem has__law_draw (T : Tx K mg) : Has P w K mg base CX0 "_law_draw" s__law_draw ["_law_bag_here", "_law_many"] 1 (sp__law_draw K) := by
  obtain ⟨f, fd, F, M⟩ := T._law_draw
  refine ⟨f, fd, F, M, F.binds (ps := ["_law_bag_here", "_law_many"]) (fun _ _ _ _ _ _ us hl => match us, hl with | [_, _], _ => rfl), F.ok sc__law_draw (fun vs H Q E h => ?_) (fun cdv A outer s H vs Q E hr h => ?_)⟩
  · obtain ⟨b, c, ns, n, rfl, _⟩ := h
    rfl
  obtain ⟨b, c, ns, n, rfl, ⟨i, x, y, z, hb, A⟩, h0, h1, k⟩ := h
  have i0 := A.i0
  have x0 := A.x0
  have y0 := A.y0
  have y1 := A.y1
  have fin : ∀ (r i' x' y' z' : Int), 0 ≤ r → r < n → 0 ≤ i' → 0 ≤ x' → 0 ≤ y' → y' < 2147483423 → Q (.int r) (upd H b (.lst (bagL c i' x' y' z'))) := fun r i' x' y' z' a1 a2 a3 a4 a5 a6 => k r _ a1 a2 (bag_end A a3 a4 a5 a6) ex_upd
  rw [← upd_self hb]
  refine ⟨_, (pss_cons (ps_asg (pe_op op_add (pe_ix ix_list (pv 0) pe_int (fun _ _ => rfl)) pe_int) (pg_sub (pv 0) pe_int set_list)) (pss_cons (ps_if (PW.pt (pw_and (pt_cmpR op_eq (pe_ix ix_list (pv 0) pe_int (fun _ _ => rfl)) pe_int (nomark _)) (pw_and1 (pt_cmpR op_lt (pe_ix ix_list (pv 0) pe_int (fun _ _ => rfl)) (pe_callB call_len (by rfl) T.len (by decide +kernel) (pa_cons (pe_ix ix_list (pv 0) pe_int (fun _ _ => rfl)) pa_nil)) (nomark _))))) (pss_cons (ps_set (i := 2) sc__law_draw.nd rfl (.inl rfl) (pe_callB call_abs (by rfl) T.abs (by decide +kernel) (pa_cons (pe_ix ix_list (pe_ix ix_list (pv 0) pe_int (fun _ _ => rfl)) (pe_ix ix_list (pv 0) pe_int (fun _ _ => rfl)) (fun _ _ => rfl)) pa_nil))) (pss_cons (ps_asg (pe_op op_add (pe_ix ix_list (pv 0) pe_int (fun _ _ => rfl)) pe_int) (pg_sub (pv 0) pe_int set_list)) (pss_one (ps_if (pt_cmpR op_ge (pv 2) (pe_op op_pow pe_int pe_int) (nomark _)) (pss_one (ps_asg (pv 2) (pg_sub (pv 0) pe_int set_list))) (pss_one (ps_asg (pe_op op_mod (pe_callTy call_int1 (by rfl) T.int (by decide +kernel) (pa_cons (pe_op op_add (pe_op op_add (pe_op op_mul (pe_ix ix_list (pv 0) pe_int (fun _ _ => rfl)) pe_int) (pe_op op_mul (pe_op op_mod (pe_callTy call_int1 (by rfl) T.int (by decide +kernel) (pa_cons (pv 2) pa_nil)) pe_int) pe_int)) pe_int) pa_nil)) pe_int) (pg_sub (pv 0) pe_int set_list))))))) pss_nil) (pss_cons (ps_if (pt_cmpR op_gt (pe_ix ix_list (pv 0) pe_int (fun _ _ => rfl)) pe_int (nomark _)) (pss_cons (ps_set (i := 3) sc__law_draw.nd rfl (.inl rfl) (pe_op op_mod (pe_callTy call_int1 (by rfl) T.int (by decide +kernel) (pa_cons (pe_ix ix_list (pv 0) pe_int (fun _ _ => rfl)) pa_nil)) (pv 1))) (pss_cons (ps_asg (pe_op op_fdiv (pe_ix ix_list (pv 0) pe_int (fun _ _ => rfl)) (pv 1)) (pg_sub (pv 0) pe_int set_list)) (pss_one (ps_ret (pv 3))))) pss_nil) (pss_cons (ps_set (i := 4) sc__law_draw.nd rfl (.inl rfl) (pe_ix ix_list (pv 0) pe_int (fun _ _ => rfl))) (pss_cons (ps_asg (pe_op op_mod (pe_callTy call_int1 (by rfl) T.int (by decide +kernel) (pa_cons (pe_op op_add (pe_op op_add (pe_op op_add (pe_op op_pow (pv 4) pe_int) (pe_op op_mul (pv 4) pe_int)) (pe_op op_mul (pe_ix ix_list (pv 0) pe_int (fun _ _ => rfl)) pe_int)) pe_int) pa_nil)) pe_int) (pg_sub (pv 0) pe_int set_list)) (pss_one (ps_ret (pe_op op_mod (pe_callTy call_int1 (by rfl) T.int (by decide +kernel) (pa_cons (pe_op op_add (pe_op op_fdiv (pe_ix ix_list (pv 0) pe_int (fun _ _ => rfl)) pe_int) (pe_op op_mul (pe_op op_mod (pe_callTy call_int1 (by rfl) T.int (by decide +kernel) (pa_cons (pe_ix ix_list (pv 0) pe_int (fun _ _ => rfl)) pa_nil)) pe_int) pe_int)) pa_nil)) (pv 1))))))))), ?_⟩
  with_reducible refine k_seq ?_
  refine k_seti (k := 4) (v_op0 (v_bag (k := 4) (val_var rfl) val_c rfl) val_c) (val_var rfl) val_c (by show 4 < 5; decide) (ys := bagL c (i) (x) (y) ((z + (1 : Int)))) rfl ?_
  with_reducible refine k_seq ?_
  with_reducible refine k_ifX ?_
  refine a_use (ans_and2 (a_test (v_eqI (v_bag (k := 2) (val_var rfl) val_c rfl) val_c)) (a_test (v_opB (v_bag (k := 1) (val_var rfl) val_c rfl) (v_lenL (v_bag (k := 0) (val_var rfl) val_c rfl) (sqL_upd A.ne A.cells))))) ?_
  refine k_ite (fun c1 => ?_) (fun c1 => ?_)
  · have hlt : i < ((ns.map V.int).length : Int) := by simp only [Bool.and_eq_true, decide_eq_true_eq] at c1; exact c1.2
    with_reducible refine k_seq ?_
    with_reducible refine k_set ?_
    refine k_val (v_abs (v_cell (v_bag (k := 0) (val_var rfl) val_c rfl) (v_bag (k := 1) (val_var rfl) val_c rfl) (sqL_upd A.ne A.cells) i0 hlt)) ?_
    with_reducible refine k_seq ?_
    refine k_seti (k := 1) (v_op0 (v_bag (k := 1) (val_var rfl) val_c rfl) val_c) (val_var rfl) val_c (by show 1 < 5; decide) (ys := bagL c ((i + (1 : Int))) (x) (y) ((z + (1 : Int)))) rfl ?_
    with_reducible refine k_ifX ?_
    with_reducible refine k_T ?_
    refine k_val (v_opB (val_var rfl) (v_op val_c val_c ⟨(by decide : (0 : Int) ≤ (18 : Int)), (by decide : (18 : Int) ≤ 1000000), (by decide : ((10 : Int)).natAbs < 2 ^ 64)⟩)) ?_
    refine ⟨_, rfl, ?_⟩
    refine k_ite (fun c2 => ?_) (fun c2 => ?_)
    · try simp only [decide_eq_true_eq, decide_eq_false_iff_not] at c2
      refine k_seti (k := 2) (val_var rfl) (val_var rfl) val_c (by show 2 < 5; decide) (ys := bagL c ((i + (1 : Int))) (((((ns.getD i.toNat 0)).natAbs : Nat) : Int)) (y) ((z + (1 : Int)))) rfl ?_
      with_reducible refine k_seq ?_
      with_reducible refine k_ifX ?_
      with_reducible refine k_T ?_
      refine k_val (v_opB (v_bag (k := 2) (val_var rfl) val_c rfl) val_c) ?_
      refine ⟨_, rfl, ?_⟩
      refine k_ite (fun c3 => ?_) (fun c3 => ?_)
      · try simp only [decide_eq_true_eq, decide_eq_false_iff_not] at c3
        with_reducible refine k_seq ?_
        with_reducible refine k_set ?_
        refine k_val (v_op (v_int (v_bag (k := 2) (val_var rfl) val_c rfl)) (val_var rfl) h0) ?_
        with_reducible refine k_seq ?_
        refine k_seti (k := 2) (v_op (v_bag (k := 2) (val_var rfl) val_c rfl) (val_var rfl) ⟨h0, h1⟩) (val_var rfl) val_c (by show 2 < 5; decide) (ys := bagL c ((i + (1 : Int))) ((((((ns.getD i.toNat 0)).natAbs : Nat) : Int) / n)) (y) ((z + (1 : Int)))) rfl ?_
        with_reducible refine k_ret ?_
        refine k_val (val_var rfl) ?_
        exact fin _ _ _ _ _ (by first | omega | exact Int.emod_nonneg _ (by omega)) (by first | omega | exact Int.emod_lt_of_pos _ h0) (by omega) (by first | omega | exact Int.ediv_nonneg (by omega) (by omega)) (by omega) (by omega)
      · try simp only [decide_eq_true_eq, decide_eq_false_iff_not] at c3
        with_reducible refine k_next ?_
        with_reducible refine k_seq ?_
        with_reducible refine k_set ?_
        refine k_val (v_bag (k := 3) (val_var rfl) val_c rfl) ?_
        with_reducible refine k_seq ?_
        refine k_seti (k := 3) (v_op (v_int (v_op0 (v_op0 (v_op0 (v_op (val_var rfl) val_c ⟨(by decide : (0 : Int) ≤ (3 : Int)), (by decide : (3 : Int) ≤ 1000000), (show (y).natAbs < 2 ^ 64 by omega)⟩) (v_op (val_var rfl) val_c (Or.inr (by decide : -(2 ^ 64) < (27617 : Int) ∧ (27617 : Int) < 2 ^ 64)))) (v_op (v_bag (k := 4) (val_var rfl) val_c rfl) val_c (Or.inr (by decide : -(2 ^ 64) < (1299721 : Int) ∧ (1299721 : Int) < 2 ^ 64)))) val_c)) val_c (by decide : (0 : Int) < (2147483423 : Int))) (val_var rfl) val_c (by show 3 < 5; decide) (ys := bagL c ((i + (1 : Int))) (((((ns.getD i.toNat 0)).natAbs : Nat) : Int)) ((((((y ^ ((3 : Int)).toNat) + (y * (27617 : Int))) + ((z + (1 : Int)) * (1299721 : Int))) + (52363 : Int)) % (2147483423 : Int))) ((z + (1 : Int)))) rfl ?_
        with_reducible refine k_ret ?_
        refine k_val (v_op (v_int (v_op0 (v_op (v_bag (k := 3) (val_var rfl) val_c rfl) val_c (by decide : (0 : Int) < (67 : Int) ∧ (67 : Int) < 1073741824)) (v_op (v_op (v_int (v_bag (k := 3) (val_var rfl) val_c rfl)) val_c (by decide : (0 : Int) < (7919 : Int))) val_c (Or.inr (by decide : -(2 ^ 64) < (53 : Int) ∧ (53 : Int) < 2 ^ 64))))) (val_var rfl) h0) ?_
        exact fin _ _ _ _ _ (by first | omega | exact Int.emod_nonneg _ (by omega)) (by first | omega | exact Int.emod_lt_of_pos _ h0) (by omega) (by first | omega | exact Int.ediv_nonneg (by omega) (by omega)) (by omega) (by omega)
    · try simp only [decide_eq_true_eq, decide_eq_false_iff_not] at c2
      refine k_seti (k := 3) (v_op (v_int (v_op0 (v_op0 (v_op (v_bag (k := 3) (val_var rfl) val_c rfl) val_c (Or.inr (by decide : -(2 ^ 64) < (40961 : Int) ∧ (40961 : Int) < 2 ^ 64))) (v_op (v_op (v_int (val_var rfl)) val_c (by decide : (0 : Int) < (2147483029 : Int))) val_c (Or.inr (by decide : -(2 ^ 64) < (773 : Int) ∧ (773 : Int) < 2 ^ 64)))) val_c)) val_c (by decide : (0 : Int) < (2147483423 : Int))) (val_var rfl) val_c (by show 3 < 5; decide) (ys := bagL c ((i + (1 : Int))) (x) (((((y * (40961 : Int)) + ((((((ns.getD i.toNat 0)).natAbs : Nat) : Int) % (2147483029 : Int)) * (773 : Int))) + (43 : Int)) % (2147483423 : Int))) ((z + (1 : Int)))) rfl ?_
      with_reducible refine k_seq ?_
      with_reducible refine k_ifX ?_
      with_reducible refine k_T ?_
      refine k_val (v_opB (v_bag (k := 2) (val_var rfl) val_c rfl) val_c) ?_
      refine ⟨_, rfl, ?_⟩
      refine k_ite (fun c4 => ?_) (fun c4 => ?_)
      · try simp only [decide_eq_true_eq, decide_eq_false_iff_not] at c4
        with_reducible refine k_seq ?_
        with_reducible refine k_set ?_
        refine k_val (v_op (v_int (v_bag (k := 2) (val_var rfl) val_c rfl)) (val_var rfl) h0) ?_
        with_reducible refine k_seq ?_
        refine k_seti (k := 2) (v_op (v_bag (k := 2) (val_var rfl) val_c rfl) (val_var rfl) ⟨h0, h1⟩) (val_var rfl) val_c (by show 2 < 5; decide) (ys := bagL c ((i + (1 : Int))) ((x / n)) (((((y * (40961 : Int)) + ((((((ns.getD i.toNat 0)).natAbs : Nat) : Int) % (2147483029 : Int)) * (773 : Int))) + (43 : Int)) % (2147483423 : Int))) ((z + (1 : Int)))) rfl ?_
        with_reducible refine k_ret ?_
        refine k_val (val_var rfl) ?_
        exact fin _ _ _ _ _ (by first | omega | exact Int.emod_nonneg _ (by omega)) (by first | omega | exact Int.emod_lt_of_pos _ h0) (by omega) (by first | omega | exact Int.ediv_nonneg (by omega) (by omega)) (by omega) (by omega)
      · try simp only [decide_eq_true_eq, decide_eq_false_iff_not] at c4
        with_reducible refine k_next ?_
        with_reducible refine k_seq ?_
        with_reducible refine k_set ?_
        refine k_val (v_bag (k := 3) (val_var rfl) val_c rfl) ?_
        with_reducible refine k_seq ?_
        refine k_seti (k := 3) (v_op (v_int (v_op0 (v_op0 (v_op0 (v_op (val_var rfl) val_c ⟨(by decide : (0 : Int) ≤ (3 : Int)), (by decide : (3 : Int) ≤ 1000000), (show (((((y * (40961 : Int)) + ((((((ns.getD i.toNat 0)).natAbs : Nat) : Int) % (2147483029 : Int)) * (773 : Int))) + (43 : Int)) % (2147483423 : Int))).natAbs < 2 ^ 64 by omega)⟩) (v_op (val_var rfl) val_c (Or.inr (by decide : -(2 ^ 64) < (27617 : Int) ∧ (27617 : Int) < 2 ^ 64)))) (v_op (v_bag (k := 4) (val_var rfl) val_c rfl) val_c (Or.inr (by decide : -(2 ^ 64) < (1299721 : Int) ∧ (1299721 : Int) < 2 ^ 64)))) val_c)) val_c (by decide : (0 : Int) < (2147483423 : Int))) (val_var rfl) val_c (by show 3 < 5; decide) (ys := bagL c ((i + (1 : Int))) (x) ((((((((((y * (40961 : Int)) + ((((((ns.getD i.toNat 0)).natAbs : Nat) : Int) % (2147483029 : Int)) * (773 : Int))) + (43 : Int)) % (2147483423 : Int)) ^ ((3 : Int)).toNat) + (((((y * (40961 : Int)) + ((((((ns.getD i.toNat 0)).natAbs : Nat) : Int) % (2147483029 : Int)) * (773 : Int))) + (43 : Int)) % (2147483423 : Int)) * (27617 : Int))) + ((z + (1 : Int)) * (1299721 : Int))) + (52363 : Int)) % (2147483423 : Int))) ((z + (1 : Int)))) rfl ?_
        with_reducible refine k_ret ?_
        refine k_val (v_op (v_int (v_op0 (v_op (v_bag (k := 3) (val_var rfl) val_c rfl) val_c (by decide : (0 : Int) < (67 : Int) ∧ (67 : Int) < 1073741824)) (v_op (v_op (v_int (v_bag (k := 3) (val_var rfl) val_c rfl)) val_c (by decide : (0 : Int) < (7919 : Int))) val_c (Or.inr (by decide : -(2 ^ 64) < (53 : Int) ∧ (53 : Int) < 2 ^ 64))))) (val_var rfl) h0) ?_
        exact fin _ _ _ _ _ (by first | omega | exact Int.emod_nonneg _ (by omega)) (by first | omega | exact Int.emod_lt_of_pos _ h0) (by omega) (by first | omega | exact Int.ediv_nonneg (by omega) (by omega)) (by omega) (by omega)
  · try simp only [decide_eq_true_eq, decide_eq_false_iff_not] at c1
    with_reducible refine k_next ?_
    with_reducible refine k_seq ?_
    with_reducible refine k_ifX ?_
    with_reducible refine k_T ?_
    refine k_val (v_opB (v_bag (k := 2) (val_var rfl) val_c rfl) val_c) ?_
    refine ⟨_, rfl, ?_⟩
    refine k_ite (fun c5 => ?_) (fun c5 => ?_)
    · try simp only [decide_eq_true_eq, decide_eq_false_iff_not] at c5
      with_reducible refine k_seq ?_
      with_reducible refine k_set ?_
      refine k_val (v_op (v_int (v_bag (k := 2) (val_var rfl) val_c rfl)) (val_var rfl) h0) ?_
      with_reducible refine k_seq ?_
      refine k_seti (k := 2) (v_op (v_bag (k := 2) (val_var rfl) val_c rfl) (val_var rfl) ⟨h0, h1⟩) (val_var rfl) val_c (by show 2 < 5; decide) (ys := bagL c (i) ((x / n)) (y) ((z + (1 : Int)))) rfl ?_
      with_reducible refine k_ret ?_
      refine k_val (val_var rfl) ?_
      exact fin _ _ _ _ _ (by first | omega | exact Int.emod_nonneg _ (by omega)) (by first | omega | exact Int.emod_lt_of_pos _ h0) (by omega) (by first | omega | exact Int.ediv_nonneg (by omega) (by omega)) (by omega) (by omega)
    · try simp only [decide_eq_true_eq, decide_eq_false_iff_not] at c5
      with_reducible refine k_next ?_
      with_reducible refine k_seq ?_
      with_reducible refine k_set ?_
      refine k_val (v_bag (k := 3) (val_var rfl) val_c rfl) ?_
      with_reducible refine k_seq ?_
      refine k_seti (k := 3) (v_op (v_int (v_op0 (v_op0 (v_op0 (v_op (val_var rfl) val_c ⟨(by decide : (0 : Int) ≤ (3 : Int)), (by decide : (3 : Int) ≤ 1000000), (show (y).natAbs < 2 ^ 64 by omega)⟩) (v_op (val_var rfl) val_c (Or.inr (by decide : -(2 ^ 64) < (27617 : Int) ∧ (27617 : Int) < 2 ^ 64)))) (v_op (v_bag (k := 4) (val_var rfl) val_c rfl) val_c (Or.inr (by decide : -(2 ^ 64) < (1299721 : Int) ∧ (1299721 : Int) < 2 ^ 64)))) val_c)) val_c (by decide : (0 : Int) < (2147483423 : Int))) (val_var rfl) val_c (by show 3 < 5; decide) (ys := bagL c (i) (x) ((((((y ^ ((3 : Int)).toNat) + (y * (27617 : Int))) + ((z + (1 : Int)) * (1299721 : Int))) + (52363 : Int)) % (2147483423 : Int))) ((z + (1 : Int)))) rfl ?_
      with_reducible refine k_ret ?_
      refine k_val (v_op (v_int (v_op0 (v_op (v_bag (k := 3) (val_var rfl) val_c rfl) val_c (by decide : (0 : Int) < (67 : Int) ∧ (67 : Int) < 1073741824)) (v_op (v_op (v_int (v_bag (k := 3) (val_var rfl) val_c rfl)) val_c (by decide : (0 : Int) < (7919 : Int))) val_c (Or.inr (by decide : -(2 ^ 64) < (53 : Int) ∧ (53 : Int) < 2 ^ 64))))) (val_var rfl) h0) ?_
      exact fin _ _ _ _ _ (by first | omega | exact Int.emod_nonneg _ (by omega)) (by first | omega | exact Int.emod_lt_of_pos _ h0) (by omega) (by first | omega | exact Int.ediv_nonneg (by omega) (by omega)) (by omega) (by omega)
/-- the bag is among what changes -/
structure BagG (K : PySem.W.Frag) (b c : Addr) (ns : List Int) (G : Bg) : Prop where
  m : G.M b
  ok : ∀ H, G.B H → BagOk K b c ns H
  stb : ∀ H H', G.B H → Ex (onB b) H H' → BagOk K b c ns H' → G.B H'
theorem BagG.up {b c : Addr} {ns : List Int} {G : Bg} {H H' : Hp} (g : BagG K b c ns G) (e : Ex (onB b) H H') : Ex G.M H H' := e.imp fun a z => by
  rw [show a = b from z]; exact g.m
theorem BagG.on {b c : Addr} {ns : List Int} {G : Bg} (g : BagG K b c ns G) : ∀ a, onB b a → G.M a := fun a z => by
  rw [show a = b from z]; exact g.m
theorem BagG.plus {b c d : Addr} {ns : List Int} {G : Bg} {H : Hp} (g : BagG K b c ns G) (hB : G.B H) (nd : H d = none) : BagG K b c ns (G.plus d) where
  m := .inl g.m
  ok := fun H' q => g.ok H' q.1
  stb := fun H1 H2 q e k => ⟨g.stb H1 H2 q.1 e k, by
    obtain ⟨xs, h⟩ := q.2
    obtain ⟨i, x, y, z, hb, _⟩ := g.ok H hB
    exact ⟨xs, e _ _ h fun z => by rw [show d = b from z, hb] at nd; cases nd⟩⟩
def bagG (K : PySem.W.Frag) (b c : Addr) (ns : List Int) : Bg where
  M := onB b
  B := BagOk K b c ns
  isl := fun H a q m => by
    obtain ⟨i, x, y, z, hb, _⟩ := q
    rw [show a = b from m]
    exact .inl ⟨_, hb⟩
  st := fun H H' q s => by
    obtain ⟨i, x, y, z, hb, A⟩ := q
    exact ⟨i, x, y, z, s _ _ hb, A.ne, s.seq A.cells, A.i0, A.x0, A.y0, A.y1⟩
  fr := fun H d q nd H1 H2 q1 _ e => by
    obtain ⟨i, x, y, z, hb, A⟩ := q
    obtain ⟨i1, x1, y1, z1, hb1, A1⟩ := q1
    have n1 : b ≠ d := fun z => by subst z; rw [nd] at hb; cases hb
    refine ⟨i1, x1, y1, z1, e _ _ hb1 n1, A1.ne, ?_, A1.i0, A1.x0, A1.y0, A1.y1⟩
    rcases A.cells with h | h
    · have n2 : c ≠ d := fun z => by
        subst z
        rcases h with h | ⟨o, h⟩ <;> (rw [nd] at h; cases h)
      rcases A1.cells with k | k
      · exact .inl (rd_up (M := fun a => a = d) n2 e k)
      · exact .inr k
    · exact .inr h
theorem bagG_ok {b c : Addr} {ns : List Int} : BagG K b c ns (bagG K b c ns) := ⟨rfl, fun _ q => q, fun _ _ _ _ q => q⟩
def spB (K : PySem.W.Frag) {α : Type} (enc : α → List D) (pre : α → Prop) (post : α → D → Prop) : Sp := fun vs H Q _ =>
  ∃ (b c : Addr) (ns : List Int) (G : Bg) (x : α) (vs' : List V), vs = .ref b :: vs' ∧ BagG K b c ns G ∧ G.B H ∧ Reps K G.M H (enc x) vs' ∧ pre x ∧ ∀ d v H', post x d → Rep K G.M H' d v → Ex (onB b) H H' → G.B H' → Q v H'
theorem k_spB {b c : Addr} {ns : List Int} {G : Bg} {H : Hp} {Q : VK} {α : Type} {enc : α → List D} {pre : α → Prop} {post : α → D → Prop} {vs : List V} {E : XK} (x : α) (hg : BagG K b c ns G) (hB : G.B H) (r : Reps K G.M H (enc x) vs) (hp : pre x)
    (q : ∀ d v H', post x d → Rep K G.M H' d v → Ex (onB b) H H' → G.B H' → Q v H') : spB K enc pre post (.ref b :: vs) H Q E := ⟨b, c, ns, G, x, vs, rfl, hg, hB, r, hp, q⟩
theorem k_draw {b c : Addr} {ns : List Int} {G : Bg} {H : Hp} {Q : VK} {E : XK} {n : Int} (hg : BagG K b c ns G) (hB : G.B H) (h0 : 0 < n) (h1 : n < 1073741824)
    (q : ∀ r H', 0 ≤ r → r < n → Ex (onB b) H H' → G.B H' → Q (.int r) H') : sp__law_draw K [.ref b, .int n] H Q E := ⟨b, c, ns, n, rfl, hg.ok _ hB, h0, h1, fun r H' l u k e => q r H' l u e (hg.stb _ _ hB e k)⟩
theorem sz_lt (n : Nat) (N : Nat) {r m : Int} (h0 : 0 ≤ r) (h1 : r < m) (h2 : m ≤ (N : Int)) (h3 : N ≤ 2 ^ n := by decide) : Sz n r := by unfold Sz; omega

end
end Px

namespace Px
open PySem PySem.Spec PyProof.Rows L2
section
variable {P : Program} {w : World} {K : PySem.W.Frag} {mg : Str → Option Value} {base : Heap}
def sp__law_pick (K : PySem.W.Frag) : Sp := spB K (α := List D) (fun ds => [.lst ds]) (fun ds => 0 < ds.length ∧ ds.length ≤ 1000) (fun ds d => d ∈ ds)
theorem has__law_pick (T : Tx K mg) : Has P w K mg base CX0 "_law_pick" s__law_pick ["_law_bag_here", "_law_some"] 2 (sp__law_pick K) := by
  obtain ⟨f, fd, F, M⟩ := T._law_pick
  obtain ⟨f_d, fd_d, F_d, M_d, B_d, G_d⟩ := has__law_draw (P := P) (w := w) (base := base) T
  refine ⟨f, fd, F, M, F.binds (ps := ["_law_bag_here", "_law_some"]) (fun _ _ _ _ _ _ us hl => match us, hl with | [_, _], _ => rfl), F.ok sc__law_pick (fun vs H Q E h => ?_) (fun cdv A outer s H vs Q E hr h => ?_)⟩
  · obtain ⟨b, c, ns, G, x, vs', rfl, hg, hB, r, hp, q⟩ := h
    rw [List.length_cons, r.len]; rfl
  · obtain ⟨b, c, ns, G, ds, vs', rfl, hg, hB, r, ⟨hp, hp2⟩, k⟩ := h
    obtain ⟨v0, _, rfl, r0, r⟩ := cons_of r
    obtain rfl := nil_of r
    obtain ⟨a, xs, rfl, nM, hr0, rs⟩ := lst_of r0
    have hl := rs.len
    refine ⟨_, pss_one (ps_ret (pe_ix ix_list (pv 1) (pe_call G_d (hr.mono (by decide)) (by rfl) M_d F_d.kp B_d .nil pass0 (pa_cons (pv 0) (pa_cons (pe_callB call_len (by rfl) T.len (by decide +kernel) (pa_cons (pv 1) pa_nil)) pa_nil))) (fun _ _ => rfl))), ?_⟩
    refine k_ret (k_opX (k_val (val_var rfl) (k_call (k_arg (val_var rfl) (k_arg (v_lenL (val_var rfl) (.inl hr0)) (k_nil ?_))))))
    refine k_draw hg hB (by omega) (by omega) (fun j H1 l u e hB1 => ?_)
    have r1 := rs.up hB (hg.up e)
    have hj : j.toNat < ds.length := by omega
    obtain ⟨v, e1, e2⟩ := r1.at (List.getElem?_eq_getElem hj)
    refine ⟨a, xs, j, v, rfl, rfl, .inl (rd_up nM (hg.up e) hr0), at_of (by omega) e1, ?_⟩
    exact k _ _ _ (List.getElem_mem hj) e2 e hB1
/-! ### common divisors -/
theorem k_while {α : Type} {c : TT} {tb : TS} {D' : Ends} {H : Hp} (st : α → L2.St) (μ : α → Nat) (inv : α → Prop) (a0 : α) (h0 : inv a0)
    (hs : ∀ a, inv a → ∃ b, Ans c (st a) H b ∧ (b = true → tb { D' with nx := fun σ' H' => H' = H ∧ ∃ a', inv a' ∧ μ a' < μ a ∧ σ' = st a', ct := fun σ' H' => H' = H ∧ ∃ a', inv a' ∧ μ a' < μ a ∧ σ' = st a', bk := D'.nx } (st a) H) ∧ (b = false → D'.nx (st a) H)) :
    tWhile c tb D' (st a0) H := by
  refine ⟨fun m σ' H' => H' = H ∧ ∃ a, inv a ∧ μ a = m ∧ σ' = st a, ⟨μ a0, rfl, a0, h0, rfl, rfl⟩, ?_⟩
  rintro m σ' H' ⟨rfl, a, ha, rfl, rfl⟩
  obtain ⟨b, h1, h2, h3⟩ := hs a ha
  refine h1 _ ?_
  cases b with
  | true =>
    rw [if_pos rfl]
    exact ⟨_, fun σ2 H2 ⟨e, a', i', l, s'⟩ => ⟨_, l, e, a', i', rfl, s'⟩, h2 rfl⟩
  | false => rw [if_neg Bool.false_ne_true]; exact h3 rfl
theorem k_par {σ : L2.St} {H : Hp} {i j : Nat} {ta : TA} {D' : Ends} (q : ta σ H fun vs H1 => ∃ v w, vs = [v, w] ∧ D'.nx ((σ.set i (some v)).set j (some w)) H1) : tPar i j ta D' σ H := q
def sp__law_common (K : PySem.W.Frag) : Sp := spF K (α := Int × Int) (fun x => [.int x.1, .int x.2]) (fun x => True) (fun x => .int (Nat.gcd x.1.natAbs x.2.natAbs : Nat))
theorem has__law_common (T : Tx K mg) : Has P w K mg base CX0 "_law_common" s__law_common ["_law_p", "_law_q"] 1 (sp__law_common K) := by
  obtain ⟨f, fd, F, M⟩ := T._law_common
  refine ⟨f, fd, F, M, F.binds (ps := ["_law_p", "_law_q"]) (fun _ _ _ _ _ _ us hl => match us, hl with | [_, _], _ => rfl), F.ok sc__law_common (fun vs H Q E h => ?_) (fun cdv A outer s H vs Q E hr h => ?_)⟩
  · obtain ⟨G, x, hB, r, hp, q⟩ := h; rw [r.len]; rfl
  · obtain ⟨G, ⟨p, q⟩, hB, r, _, k⟩ := h
    obtain ⟨v0, _, rfl, r0, r⟩ := cons_of r
    obtain ⟨v1, _, rfl, r1, r⟩ := cons_of r
    obtain rfl := nil_of r
    obtain rfl := int_of (i := p) r0
    obtain rfl := int_of (i := q) r1
    refine ⟨_, pss_cons (ps_par (i := 2) (j := 3) (by rfl) sc__law_common.nd rfl rfl (by decide) rfl rfl (pa_cons (pe_callB call_abs (by rfl) T.abs (by decide +kernel) (pa_cons (pv 0) pa_nil)) (pa_cons (pe_callB call_abs (by rfl) T.abs (by decide +kernel) (pa_cons (pv 1) pa_nil)) pa_nil)) (by rfl))
      (pss_cons (ps_while PassesOwn.never (pt_cmpR op_gt (pv 3) pe_int (nomark _)) (pss_one (ps_par (i := 2) (j := 3) (by rfl) sc__law_common.nd rfl rfl (by decide) rfl rfl (pa_cons (pv 3) (pa_cons (pe_op op_mod (pe_callTy call_int1 (by rfl) T.int (by decide +kernel) (pa_cons (pv 2) pa_nil)) (pv 3)) pa_nil)) (by rfl))))
      (pss_one (ps_ret (pv 2)))), ?_⟩
    with_reducible refine k_seq ?_
    refine k_par (k_arg (v_abs (val_var rfl)) (k_arg (v_abs (val_var rfl)) (k_nil ⟨_, _, rfl, ?_⟩)))
    with_reducible refine k_seq ?_
    refine k_while (α := Nat × Nat) (fun a => [some (.int p), some (.int q), some (.int (a.1 : Int)), some (.int (a.2 : Int))]) (fun a => a.2) (fun a => Nat.gcd a.1 a.2 = Nat.gcd p.natAbs q.natAbs) (p.natAbs, q.natAbs) rfl fun a ha => ?_
    obtain ⟨m, n⟩ := a
    replace ha : Nat.gcd m n = Nat.gcd p.natAbs q.natAbs := ha
    refine ⟨_, a_test (v_opB (val_var rfl) val_c), fun e => ?_, fun e => ?_⟩
    · have hn : 0 < (n : Int) := of_decide_eq_true e
      refine k_par (k_arg (val_var rfl) (k_arg (v_op (v_int (val_var rfl)) (val_var rfl) hn) (k_nil ⟨_, _, rfl, ?_⟩)))
      refine ⟨rfl, (n, m % n), ?_, Nat.mod_lt _ (by omega), rfl⟩
      show Nat.gcd n (m % n) = _
      rw [← ha, Nat.gcd_comm m n, Nat.gcd_rec n m, Nat.gcd_comm]
    · have hn : n = 0 := by
        have := of_decide_eq_false e
        omega
      subst hn
      refine k_ret (k_val (val_var rfl) ?_)
      rw [Nat.gcd_zero_right] at ha
      show Q (.int (m : Int)) H
      rw [ha]
      exact k _ _ _ rfl (rint _) (Same.refl _) hB
def sp__law_low (K : PySem.W.Frag) : Sp := spF K (α := Int × Int × Nat) (fun x => [.int x.1, .int x.2.1]) (fun x => x.2.1 ≠ 0 ∧ Sz x.2.2 x.2.1 ∧ x.2.2 ≤ 9000) (fun x => fr (Rat.divInt x.1 x.2.1))
theorem has__law_low (T : Tx K mg) : Has P w K mg base CX0 "_law_low" s__law_low ["_law_p", "_law_q"] 2 (sp__law_low K) := by
  obtain ⟨f, fd, F, M⟩ := T._law_low
  obtain ⟨f_c, fd_c, F_c, M_c, B_c, G_c⟩ := has__law_common (P := P) (w := w) (base := base) T
  refine ⟨f, fd, F, M, F.binds (ps := ["_law_p", "_law_q"]) (fun _ _ _ _ _ _ us hl => match us, hl with | [_, _], _ => rfl), F.ok sc__law_low (fun vs H Q E h => ?_) (fun cdv A outer s H vs Q E hr h => ?_)⟩
  · obtain ⟨G, x, hB, r, hp, q⟩ := h; rw [r.len]; rfl
  · obtain ⟨G, ⟨p, q, n⟩, hB, r, ⟨hq, hz, hn⟩, k⟩ := h
    obtain ⟨v0, _, rfl, r0, r⟩ := cons_of r
    obtain ⟨v1, _, rfl, r1, r⟩ := cons_of r
    obtain rfl := nil_of r
    obtain rfl := int_of (i := p) r0
    obtain rfl := int_of (i := q) r1
    replace hq : q ≠ 0 := hq
    replace hz : Sz n q := hz
    replace hn : n ≤ 9000 := hn
    have hgz := gcd_sz (p := p) hz hq
    refine ⟨_, pss_cons (ps_set (i := 2) sc__law_low.nd rfl (.inl rfl) (pe_call G_c (hr.mono (by decide)) (by rfl) M_c F_c.kp B_c .nil pass0 (pa_cons (pv 0) (pa_cons (pv 1) pa_nil))))
      (pss_cons (ps_if (pt_cmpR op_lt (pv 1) pe_int (nomark _)) (pss_one (ps_set (i := 2) sc__law_low.nd rfl (.inl rfl) (pe_op op_sub pe_int (pv 2)))) pss_nil)
      (pss_one (ps_ret (pe_tup (pa_cons (pe_op op_fdivU (pv 0) (pv 2)) (pa_cons (pe_op op_fdivU (pv 1) (pv 2)) pa_nil)))))), ?_⟩
    with_reducible refine k_seq ?_
    refine k_set (k_call (k_arg (val_var rfl) (k_arg (val_var rfl) (k_nil ?_))))
    refine k_spF (p, q) hB (rcons (rint _) (rcons (rint _) (rnil (K := K)))) trivial (fun v H1 rv s1 hB1 => ?_)
    obtain rfl := int_of (i := ((Nat.gcd p.natAbs q.natAbs : Nat) : Int)) rv
    with_reducible refine k_seq ?_
    refine k_if (a_test (v_opB (val_var rfl) val_c)) (fun e => ?_) (fun e => ?_)
    · have hlt : q < 0 := of_decide_eq_true e
      refine k_set (k_val (v_op0 val_c (val_var rfl)) ?_)
      have g0 : -(Nat.gcd p.natAbs q.natAbs : Nat) ≠ (0 : Int) := by
        have : 0 < Nat.gcd p.natAbs q.natAbs := Nat.gcd_pos_of_pos_right _ (by omega)
        omega
      have e0 : (0 : Int) - ((Nat.gcd p.natAbs q.natAbs : Nat) : Int) = -(Nat.gcd p.natAbs q.natAbs : Nat) := by omega
      refine k_ret (k_tup (k_arg (v_op (val_var rfl) (val_var rfl) (by rw [e0]; exact divU_of g0 hgz.neg hn)) (k_arg (v_op (val_var rfl) (val_var rfl) (by rw [e0]; exact divU_of g0 hgz.neg hn)) (k_nil ?_))))
      rw [e0, (frac_neg hlt).1, (frac_neg hlt).2]
      exact k_tup_end hB1 (rcons (rint _) (rcons (rint _) (rnil (K := K)))) fun v H' r s b => k _ v H' rfl r (s1.trans s) b
    · have hgt : 0 < q := by
        have := of_decide_eq_false e
        omega
      have g0 : ((Nat.gcd p.natAbs q.natAbs : Nat) : Int) ≠ 0 := by
        have : 0 < Nat.gcd p.natAbs q.natAbs := Nat.gcd_pos_of_pos_right _ (by omega)
        omega
      refine k_ret (k_tup (k_arg (v_op (val_var rfl) (val_var rfl) (divU_of g0 hgz hn)) (k_arg (v_op (val_var rfl) (val_var rfl) (divU_of g0 hgz hn)) (k_nil ?_))))
      rw [(frac_pos hgt).1, (frac_pos hgt).2]
      exact k_tup_end hB1 (rcons (rint _) (rcons (rint _) (rnil (K := K)))) fun v H' r s b => k _ v H' rfl r (s1.trans s) b
def sp_fraction (K : PySem.W.Frag) : Sp := spF K (α := Int × Int × Nat) (fun x => [.int x.1, .int x.2.1]) (fun x => x.2.1 ≠ 0 ∧ Sz x.2.2 x.2.1 ∧ x.2.2 ≤ 9000) (fun x => fr (Rat.divInt x.1 x.2.1))
theorem has_fraction (T : Tx K mg) : ∃ f fd, FunD K "fraction" "fraction" (defArgs s_fraction) (defBody s_fraction) (defScope s_fraction) [.int 1] [] f fd ∧ mg "fraction" = some (.ref f) ∧
    (Binds K fd ["over", "under"] [] ∧ ∃ ds, Vals [.int 1] ds ∧ Binds K fd ["over", "under"] ds) ∧ FnOk P w K mg base CX0 1 f fd ["over", "under"] (sp_fraction K) := by
  obtain ⟨f, fd, F, M⟩ := T.fraction
  refine ⟨f, fd, F, M, ⟨?_, ?_⟩, F.ok sc_fraction (fun vs H Q E h => ?_) (fun cdv A outer s H vs Q E hr h => ?_)⟩
  · obtain ⟨ds, r, hb⟩ := F.binds1 (ps := ["over", "under"]) 2 1 (by simp) rfl fun T kV doc pm an cdv ct us its l1 l2 => match us, l1, its, l2 with | [_, _], _, [_], _ => ⟨_, rfl, by first | rfl | with_unfolding_all rfl | kernel_rfl⟩
    cases r
    exact hb
  · exact F.binds1 1 0 (by simp) rfl fun T kV doc pm an cdv ct us its l1 l2 => match us, l1, its, l2 with | [_], _, [_], _ => ⟨_, rfl, rfl⟩
  · obtain ⟨G, x, hB, r, hp, q⟩ := h
    rw [r.len]; rfl
  · obtain ⟨G, ⟨p, q, n⟩, hB, r, ⟨hq, hz, hn⟩, k⟩ := h
    obtain ⟨v0, _, rfl, r0, r⟩ := cons_of r
    obtain ⟨v1, _, rfl, r1, r⟩ := cons_of r
    obtain rfl := nil_of r
    obtain rfl := int_of (i := p) r0
    obtain rfl := int_of (i := q) r1
    replace hq : q ≠ 0 := hq
    replace hz : Sz n q := hz
    replace hn : n ≤ 9000 := hn
    have hg := gcd_sz (p := p) hz hq
    refine ⟨_, pss_cons (ps_if (pt_cmpR op_eq (pv 1) pe_int (nomark _)) (pss_one ps_never) pss_nil)
      (pss_cons (ps_set (i := 2) sc_fraction.nd rfl (.inl rfl) (pe_callBfun cr_gcd rfl T.gcd (pa_cons (pv 0) (pa_cons (pv 1) pa_nil))))
      (pss_cons (ps_if (pt_cmpR op_lt (pv 1) pe_int (nomark _)) (pss_one (ps_set (i := 2) sc_fraction.nd rfl (.inl rfl) (pe_un un_neg (pv 2)))) pss_nil)
      (pss_one (ps_ret (pe_tup (pa_cons (pe_op op_fdivU (pv 0) (pv 2)) (pa_cons (pe_op op_fdivU (pv 1) (pv 2)) pa_nil))))))), ?_⟩
    refine k_if (a_test (v_eq (val_var rfl) val_c rfl)) (fun e => ?_) (fun _ => ?_)
    · exact absurd (V.int.inj (of_decide_eq_true e)) hq
    refine k_set (k_val (v_gcd (val_var rfl) (val_var rfl)) ?_)
    refine k_if (a_test (v_opB (val_var rfl) val_c)) (fun e => ?_) (fun e => ?_)
    · have hlt : q < 0 := of_decide_eq_true e
      refine k_set (k_val (v_un (val_var rfl)) ?_)
      have g0 : -(Nat.gcd p.natAbs q.natAbs : Nat) ≠ (0 : Int) := by
        have : 0 < Nat.gcd p.natAbs q.natAbs := Nat.gcd_pos_of_pos_right _ (by omega)
        omega
      refine k_ret (k_tup (k_arg (v_op (val_var rfl) (val_var rfl) (divU_of g0 hg.neg hn)) (k_arg (v_op (val_var rfl) (val_var rfl) (divU_of g0 hg.neg hn)) (k_nil ?_))))
      rw [(frac_neg hlt).1, (frac_neg hlt).2]
      exact k_tup_end hB (rcons (rint _) (rcons (rint _) rnil)) fun v H' r s b => k _ v H' rfl r s b
    · have hgt : 0 < q := by
        have := of_decide_eq_false e
        omega
      have g0 : ((Nat.gcd p.natAbs q.natAbs : Nat) : Int) ≠ 0 := by
        have : 0 < Nat.gcd p.natAbs q.natAbs := Nat.gcd_pos_of_pos_right _ (by omega)
        omega
      refine k_ret (k_tup (k_arg (v_op (val_var rfl) (val_var rfl) (divU_of g0 hg hn)) (k_arg (v_op (val_var rfl) (val_var rfl) (divU_of g0 hg hn)) (k_nil ?_))))
      rw [(frac_pos hgt).1, (frac_pos hgt).2]
      exact k_tup_end hB (rcons (rint _) (rcons (rint _) rnil)) fun v H' r s b => k _ v H' rfl r s b
def sp_plus (K : PySem.W.Frag) : Sp := spF K (α := Rat × Rat × Nat × Nat) (fun x => [(fr (x.1)), (fr (x.2.1))]) (fun x => SzR x.2.2.1 x.1 ∧ SzR x.2.2.2 x.2.1 ∧ x.2.2.1 + x.2.2.2 ≤ 8000) (fun x => (fr ((x.1 + x.2.1))))
theorem has_plus (T : Tx K mg) : Has P w K mg base CX0 "plus" s_plus ["one", "other"] 2 (sp_plus K) := by
  obtain ⟨f, fd, F, M⟩ := T.plus
  obtain ⟨f_fraction, fd_fraction, F_fraction, M_fraction, B_fraction, G_fraction⟩ := has_fraction (P := P) (w := w) (base := base) T
  refine ⟨f, fd, F, M, F.binds (ps := ["one", "other"]) (fun _ _ _ _ _ _ us hl => match us, hl with | [_, _], _ => rfl), F.ok sc_plus (fun vs H Q E h => ?_) (fun cdv A outer s H vs Q E hr h => ?_)⟩
  · obtain ⟨G, x, hB, r, hp, q⟩ := h; rw [r.len]; rfl
  · obtain ⟨G, ⟨x, y, a, b⟩, hB, r, ⟨hx, hy, hn⟩, k⟩ := h
    replace hx : SzR a x := hx
    replace hy : SzR b y := hy
    replace hn : a + b ≤ 8000 := hn
    replace k : ∀ d v H', d = ((fr ((x + y))) : D) → Rep K G.M H' d v → Same H H' → G.B H' → Q v H' := k
    obtain ⟨v0_0, _, rfl, r0_0, rt0⟩ := cons_of r
    replace r0_0 : Rep K G.M H ((fr (x))) v0_0 := r0_0
    obtain ⟨v0_1, _, rfl, r0_1, rt1⟩ := cons_of rt0
    replace r0_1 : Rep K G.M H ((fr (y))) v0_1 := r0_1
    obtain rfl := nil_of rt1
    refine ⟨_, (pss_one (ps_ret (pe_call G_fraction (hr.mono (by decide)) (by rfl) M_fraction F_fraction.kp B_fraction.1 .nil pass0 (pa_cons (pe_op op_add (pe_op op_mulW (pe_ix (ix_tupK (K := K)) (pv 0) pe_int (fun _ _ => rfl)) (pe_ix (ix_tupK (K := K)) (pv 1) pe_int (fun _ _ => rfl))) (pe_op op_mulW (pe_ix (ix_tupK (K := K)) (pv 1) pe_int (fun _ _ => rfl)) (pe_ix (ix_tupK (K := K)) (pv 0) pe_int (fun _ _ => rfl)))) (pa_cons (pe_op op_mulW (pe_ix (ix_tupK (K := K)) (pv 0) pe_int (fun _ _ => rfl)) (pe_ix (ix_tupK (K := K)) (pv 1) pe_int (fun _ _ => rfl))) pa_nil))))), ?_⟩
    with_reducible refine k_ret ?_
    with_reducible refine k_call ?_
    refine k_arg (v_op0 (v_op (v_ixI (k := 0) (val_var rfl) (r0_0) val_c rfl) (v_ixI (k := 1) (val_var rfl) (r0_1) val_c rfl) (cmul (hx).1 (hy).2 (by omega))) (v_op (v_ixI (k := 0) (val_var rfl) (r0_1) val_c rfl) (v_ixI (k := 1) (val_var rfl) (r0_0) val_c rfl) (cmul (hy).1 (hx).2 (by omega)))) ?_
    refine k_arg (v_op (v_ixI (k := 1) (val_var rfl) (r0_0) val_c rfl) (v_ixI (k := 1) (val_var rfl) (r0_1) val_c rfl) (cmul (hx).2 (hy).2 (by omega))) ?_
    with_reducible refine k_nil ?_
    have zp1 : Sz (max (a + b) (b + a) + 1) ((((x).num * ((y).den : Int)) + ((y).num * ((x).den : Int)))) := (Sz.add (Sz.mul (hx).1 (hy).2) (Sz.mul (hy).1 (hx).2))
    have zq1 : Sz (a + b) ((((x).den : Int) * ((y).den : Int))) := (Sz.mul (hx).2 (hy).2)
    have nq1 : ((((x).den : Int) * ((y).den : Int))) ≠ 0 := (Int.mul_ne_zero (den_ne (x)) (den_ne (y)))
    refine k_spF ((((x).num * ((y).den : Int)) + ((y).num * ((x).den : Int))), (((x).den : Int) * ((y).den : Int)), (a + b)) hB (rcons (rint _) (rcons (rint _) (rnil (K := K)))) ⟨nq1, zq1, by first | omega | (dsimp only; omega)⟩ (fun v1 H1 r1 s1 hB1 => ?_)
    replace r1 : Rep K G.M H1 ((fr (Rat.divInt ((((x).num * ((y).den : Int)) + ((y).num * ((x).den : Int)))) ((((x).den : Int) * ((y).den : Int)))))) v1 := r1
    have z1 : SzR (max (max (a + b) (b + a) + 1) (a + b) + 1) (Rat.divInt ((((x).num * ((y).den : Int)) + ((y).num * ((x).den : Int)))) ((((x).den : Int) * ((y).den : Int)))) := (divInt_sz (zp1.mono (by omega)) (zq1.mono (by omega)) nq1)
    exact k _ _ _ (by rw [add_eq]) (r1) s1 hB1
def sp_times (K : PySem.W.Frag) : Sp := spF K (α := Rat × Rat × Nat × Nat) (fun x => [(fr (x.1)), (fr (x.2.1))]) (fun x => SzR x.2.2.1 x.1 ∧ SzR x.2.2.2 x.2.1 ∧ x.2.2.1 + x.2.2.2 ≤ 8000) (fun x => (fr ((x.1 * x.2.1))))
theorem has_times (T : Tx K mg) : Has P w K mg base CX0 "times" s_times ["one", "other"] 2 (sp_times K) := by
  obtain ⟨f, fd, F, M⟩ := T.times
  obtain ⟨f_fraction, fd_fraction, F_fraction, M_fraction, B_fraction, G_fraction⟩ := has_fraction (P := P) (w := w) (base := base) T
  refine ⟨f, fd, F, M, F.binds (ps := ["one", "other"]) (fun _ _ _ _ _ _ us hl => match us, hl with | [_, _], _ => rfl), F.ok sc_times (fun vs H Q E h => ?_) (fun cdv A outer s H vs Q E hr h => ?_)⟩
  · obtain ⟨G, x, hB, r, hp, q⟩ := h; rw [r.len]; rfl
  · obtain ⟨G, ⟨x, y, a, b⟩, hB, r, ⟨hx, hy, hn⟩, k⟩ := h
    replace hx : SzR a x := hx
    replace hy : SzR b y := hy
    replace hn : a + b ≤ 8000 := hn
    replace k : ∀ d v H', d = ((fr ((x * y))) : D) → Rep K G.M H' d v → Same H H' → G.B H' → Q v H' := k
    obtain ⟨v0_0, _, rfl, r0_0, rt0⟩ := cons_of r
    replace r0_0 : Rep K G.M H ((fr (x))) v0_0 := r0_0
    obtain ⟨v0_1, _, rfl, r0_1, rt1⟩ := cons_of rt0
    replace r0_1 : Rep K G.M H ((fr (y))) v0_1 := r0_1
    obtain rfl := nil_of rt1
    refine ⟨_, (pss_one (ps_ret (pe_call G_fraction (hr.mono (by decide)) (by rfl) M_fraction F_fraction.kp B_fraction.1 .nil pass0 (pa_cons (pe_op op_mulW (pe_ix (ix_tupK (K := K)) (pv 0) pe_int (fun _ _ => rfl)) (pe_ix (ix_tupK (K := K)) (pv 1) pe_int (fun _ _ => rfl))) (pa_cons (pe_op op_mulW (pe_ix (ix_tupK (K := K)) (pv 0) pe_int (fun _ _ => rfl)) (pe_ix (ix_tupK (K := K)) (pv 1) pe_int (fun _ _ => rfl))) pa_nil))))), ?_⟩
    with_reducible refine k_ret ?_
    with_reducible refine k_call ?_
    refine k_arg (v_op (v_ixI (k := 0) (val_var rfl) (r0_0) val_c rfl) (v_ixI (k := 0) (val_var rfl) (r0_1) val_c rfl) (cmul (hx).1 (hy).1 (by omega))) ?_
    refine k_arg (v_op (v_ixI (k := 1) (val_var rfl) (r0_0) val_c rfl) (v_ixI (k := 1) (val_var rfl) (r0_1) val_c rfl) (cmul (hx).2 (hy).2 (by omega))) ?_
    with_reducible refine k_nil ?_
    have zp1 : Sz (a + b) (((x).num * (y).num)) := (Sz.mul (hx).1 (hy).1)
    have zq1 : Sz (a + b) ((((x).den : Int) * ((y).den : Int))) := (Sz.mul (hx).2 (hy).2)
    have nq1 : ((((x).den : Int) * ((y).den : Int))) ≠ 0 := (Int.mul_ne_zero (den_ne (x)) (den_ne (y)))
    refine k_spF (((x).num * (y).num), (((x).den : Int) * ((y).den : Int)), (a + b)) hB (rcons (rint _) (rcons (rint _) (rnil (K := K)))) ⟨nq1, zq1, by first | omega | (dsimp only; omega)⟩ (fun v1 H1 r1 s1 hB1 => ?_)
    replace r1 : Rep K G.M H1 ((fr (Rat.divInt (((x).num * (y).num)) ((((x).den : Int) * ((y).den : Int)))))) v1 := r1
    have z1 : SzR (a + b) (Rat.divInt (((x).num * (y).num)) ((((x).den : Int) * ((y).den : Int)))) := (divInt_sz (zp1.mono (by omega)) (zq1.mono (by omega)) nq1)
    exact k _ _ _ (by rw [mul_eq]) (r1) s1 hB1
def sp_divided (K : PySem.W.Frag) : Sp := spF K (α := Rat × Rat × Nat × Nat) (fun x => [(fr (x.1)), (fr (x.2.1))]) (fun x => SzR x.2.2.1 x.1 ∧ SzR x.2.2.2 x.2.1 ∧ x.2.2.1 + x.2.2.2 ≤ 8000 ∧ x.2.1 ≠ 0) (fun x => (fr ((x.1 / x.2.1))))
theorem has_divided (T : Tx K mg) : Has P w K mg base CX0 "divided" s_divided ["one", "other"] 2 (sp_divided K) := by
  obtain ⟨f, fd, F, M⟩ := T.divided
  obtain ⟨f_fraction, fd_fraction, F_fraction, M_fraction, B_fraction, G_fraction⟩ := has_fraction (P := P) (w := w) (base := base) T
  refine ⟨f, fd, F, M, F.binds (ps := ["one", "other"]) (fun _ _ _ _ _ _ us hl => match us, hl with | [_, _], _ => rfl), F.ok sc_divided (fun vs H Q E h => ?_) (fun cdv A outer s H vs Q E hr h => ?_)⟩
  · obtain ⟨G, x, hB, r, hp, q⟩ := h; rw [r.len]; rfl
  · obtain ⟨G, ⟨x, y, a, b⟩, hB, r, ⟨hx, hy, hn, h0⟩, k⟩ := h
    replace hx : SzR a x := hx
    replace hy : SzR b y := hy
    replace hn : a + b ≤ 8000 := hn
    replace h0 : y ≠ 0 := h0
    replace k : ∀ d v H', d = ((fr ((x / y))) : D) → Rep K G.M H' d v → Same H H' → G.B H' → Q v H' := k
    obtain ⟨v0_0, _, rfl, r0_0, rt0⟩ := cons_of r
    replace r0_0 : Rep K G.M H ((fr (x))) v0_0 := r0_0
    obtain ⟨v0_1, _, rfl, r0_1, rt1⟩ := cons_of rt0
    replace r0_1 : Rep K G.M H ((fr (y))) v0_1 := r0_1
    obtain rfl := nil_of rt1
    refine ⟨_, (pss_one (ps_ret (pe_call G_fraction (hr.mono (by decide)) (by rfl) M_fraction F_fraction.kp B_fraction.1 .nil pass0 (pa_cons (pe_op op_mulW (pe_ix (ix_tupK (K := K)) (pv 0) pe_int (fun _ _ => rfl)) (pe_ix (ix_tupK (K := K)) (pv 1) pe_int (fun _ _ => rfl))) (pa_cons (pe_op op_mulW (pe_ix (ix_tupK (K := K)) (pv 0) pe_int (fun _ _ => rfl)) (pe_ix (ix_tupK (K := K)) (pv 1) pe_int (fun _ _ => rfl))) pa_nil))))), ?_⟩
    with_reducible refine k_ret ?_
    with_reducible refine k_call ?_
    refine k_arg (v_op (v_ixI (k := 0) (val_var rfl) (r0_0) val_c rfl) (v_ixI (k := 1) (val_var rfl) (r0_1) val_c rfl) (cmul (hx).1 (hy).2 (by omega))) ?_
    refine k_arg (v_op (v_ixI (k := 1) (val_var rfl) (r0_0) val_c rfl) (v_ixI (k := 0) (val_var rfl) (r0_1) val_c rfl) (cmul (hx).2 (hy).1 (by omega))) ?_
    with_reducible refine k_nil ?_
    have zp1 : Sz (a + b) (((x).num * ((y).den : Int))) := (Sz.mul (hx).1 (hy).2)
    have zq1 : Sz (a + b) ((((x).den : Int) * (y).num)) := (Sz.mul (hx).2 (hy).1)
    have nq1 : ((((x).den : Int) * (y).num)) ≠ 0 := (Int.mul_ne_zero (den_ne (x)) (num_ne h0))
    refine k_spF (((x).num * ((y).den : Int)), (((x).den : Int) * (y).num), (a + b)) hB (rcons (rint _) (rcons (rint _) (rnil (K := K)))) ⟨nq1, zq1, by first | omega | (dsimp only; omega)⟩ (fun v1 H1 r1 s1 hB1 => ?_)
    replace r1 : Rep K G.M H1 ((fr (Rat.divInt (((x).num * ((y).den : Int))) ((((x).den : Int) * (y).num))))) v1 := r1
    have z1 : SzR (a + b) (Rat.divInt (((x).num * ((y).den : Int))) ((((x).den : Int) * (y).num))) := (divInt_sz (zp1.mono (by omega)) (zq1.mono (by omega)) nq1)
    exact k _ _ _ (by rw [div_eq]) (r1) s1 hB1
def sp_negative (K : PySem.W.Frag) : Sp := spF K (α := Rat × Nat) (fun x => [(fr (x.1))]) (fun x => SzR x.2 x.1) (fun x => (fr ((-x.1))))
theorem has_negative (T : Tx K mg) : Has P w K mg base CX0 "negative" s_negative ["one"] 1 (sp_negative K) := by
  obtain ⟨f, fd, F, M⟩ := T.negative
  refine ⟨f, fd, F, M, F.binds (ps := ["one"]) (fun _ _ _ _ _ _ us hl => match us, hl with | [_], _ => rfl), F.ok sc_negative (fun vs H Q E h => ?_) (fun cdv A outer s H vs Q E hr h => ?_)⟩
  · obtain ⟨G, x, hB, r, hp, q⟩ := h; rw [r.len]; rfl
  · obtain ⟨G, ⟨x, a⟩, hB, r, hx, k⟩ := h
    replace hx : SzR a x := hx
    replace k : ∀ d v H', d = ((fr ((-x))) : D) → Rep K G.M H' d v → Same H H' → G.B H' → Q v H' := k
    obtain ⟨v0_0, _, rfl, r0_0, rt0⟩ := cons_of r
    replace r0_0 : Rep K G.M H ((fr (x))) v0_0 := r0_0
    obtain rfl := nil_of rt0
    refine ⟨_, (pss_one (ps_ret (pe_tup (pa_cons (pe_un un_neg (pe_ix (ix_tupK (K := K)) (pv 0) pe_int (fun _ _ => rfl))) (pa_cons (pe_ix (ix_tupK (K := K)) (pv 0) pe_int (fun _ _ => rfl)) pa_nil))))), ?_⟩
    with_reducible refine k_ret ?_
    with_reducible refine k_tup ?_
    refine k_arg (v_un (v_ixI (k := 0) (val_var rfl) (r0_0) val_c rfl)) ?_
    refine k_arg (v_ixI (k := 1) (val_var rfl) (r0_0) val_c rfl) ?_
    with_reducible refine k_nil ?_
    refine k_tup_end hB (rcons (rint _) (rcons (rint _) (rnil (K := K)))) (fun v1 H1 r1 s1 hB1 => ?_)
    exact k _ _ _ rfl (r1) s1 hB1
def sp_minus (K : PySem.W.Frag) : Sp := spF K (α := Rat × Rat × Nat × Nat) (fun x => [(fr (x.1)), (fr (x.2.1))]) (fun x => SzR x.2.2.1 x.1 ∧ SzR x.2.2.2 x.2.1 ∧ x.2.2.1 + x.2.2.2 ≤ 8000) (fun x => (fr ((x.1 - x.2.1))))
theorem has_minus (T : Tx K mg) : Has P w K mg base CX0 "minus" s_minus ["one", "other"] 3 (sp_minus K) := by
  obtain ⟨f, fd, F, M⟩ := T.minus
  obtain ⟨f_plus, fd_plus, F_plus, M_plus, B_plus, G_plus⟩ := has_plus (P := P) (w := w) (base := base) T
  obtain ⟨f_negative, fd_negative, F_negative, M_negative, B_negative, G_negative⟩ := has_negative (P := P) (w := w) (base := base) T
  refine ⟨f, fd, F, M, F.binds (ps := ["one", "other"]) (fun _ _ _ _ _ _ us hl => match us, hl with | [_, _], _ => rfl), F.ok sc_minus (fun vs H Q E h => ?_) (fun cdv A outer s H vs Q E hr h => ?_)⟩
  · obtain ⟨G, x, hB, r, hp, q⟩ := h; rw [r.len]; rfl
  · obtain ⟨G, ⟨x, y, a, b⟩, hB, r, ⟨hx, hy, hn⟩, k⟩ := h
    replace hx : SzR a x := hx
    replace hy : SzR b y := hy
    replace hn : a + b ≤ 8000 := hn
    replace k : ∀ d v H', d = ((fr ((x - y))) : D) → Rep K G.M H' d v → Same H H' → G.B H' → Q v H' := k
    obtain ⟨v0_0, _, rfl, r0_0, rt0⟩ := cons_of r
    replace r0_0 : Rep K G.M H ((fr (x))) v0_0 := r0_0
    obtain ⟨v0_1, _, rfl, r0_1, rt1⟩ := cons_of rt0
    replace r0_1 : Rep K G.M H ((fr (y))) v0_1 := r0_1
    obtain rfl := nil_of rt1
    refine ⟨_, (pss_one (ps_ret (pe_call G_plus (hr.mono (by decide)) (by rfl) M_plus F_plus.kp B_plus .nil pass0 (pa_cons (pv 0) (pa_cons (pe_call G_negative (hr.mono (by decide)) (by rfl) M_negative F_negative.kp B_negative .nil pass0 (pa_cons (pv 1) pa_nil)) pa_nil))))), ?_⟩
    with_reducible refine k_ret ?_
    with_reducible refine k_call ?_
    refine k_arg (val_var rfl) ?_
    with_reducible refine k_argX ?_
    with_reducible refine k_call ?_
    refine k_arg (val_var rfl) ?_
    with_reducible refine k_nil ?_
    refine k_spF (y, b) hB (rcons (r0_1) (rnil (K := K))) hy (fun v1 H1 r1 s1 hB1 => ?_)
    replace r1 : Rep K G.M H1 ((fr ((-(y))))) v1 := r1
    have z1 : SzR b ((-(y))) := (szr_neg hy)
    with_reducible refine k_nil ?_
    refine k_spF (x, (-(y)), a, b) hB1 (rcons ((r0_0.up hB (Ex.of s1))) (rcons (r1) (rnil (K := K)))) ⟨hx, z1, (by first | omega | (dsimp only; omega))⟩ (fun v2 H2 r2 s2 hB2 => ?_)
    replace r2 : Rep K G.M H2 ((fr ((x + (-(y)))))) v2 := r2
    have z2 : SzR ((a + b) + 1) ((x + (-(y)))) := (szr_add hx z1 (by omega))
    exact k _ _ _ (by rw [Rat.sub_eq_add_neg]) (r2) (s1.trans s2) hB2
end
end Px

namespace Px
open PySem PySem.Spec PyProof.Rows L2
section
variable {P : Program} {w : World} {K : PySem.W.Frag} {mg : Str → Option Value} {base : Heap}
def sp__law_fraction (K : PySem.W.Frag) : Sp := spB K (α := Unit) (fun x => []) (fun x => True) (fun x d => ∃ (y0 : Rat), d = ((fr (y0)) : D) ∧ SzR 24 y0)
theorem has__law_fraction (T : Tx K mg) : Has P w K mg base CX0 "_law_fraction" s__law_fraction ["_law_bag_here"] 3 (sp__law_fraction K) := by
  obtain ⟨f, fd, F, M⟩ := T._law_fraction
  obtain ⟨f__law_low, fd__law_low, F__law_low, M__law_low, B__law_low, G__law_low⟩ := has__law_low (P := P) (w := w) (base := base) T
  obtain ⟨f__law_draw, fd__law_draw, F__law_draw, M__law_draw, B__law_draw, G__law_draw⟩ := has__law_draw (P := P) (w := w) (base := base) T
  obtain ⟨f__law_pick, fd__law_pick, F__law_pick, M__law_pick, B__law_pick, G__law_pick⟩ := has__law_pick (P := P) (w := w) (base := base) T
  refine ⟨f, fd, F, M, F.binds (ps := ["_law_bag_here"]) (fun _ _ _ _ _ _ us hl => match us, hl with | [_], _ => rfl), F.ok sc__law_fraction (fun vs H Q E h => ?_) (fun cdv A outer s H vs Q E hr h => ?_)⟩
  · obtain ⟨b, c, ns, G, x, vs', rfl, hg, hB, r, hp, q⟩ := h; rw [List.length_cons, r.len]; rfl
  · obtain ⟨b, c, ns, G, _, vs', rfl, hg, hB, r, _, k⟩ := h
    replace k : ∀ d v H', (∃ (y0 : Rat), d = ((fr (y0)) : D) ∧ SzR 24 y0) → Rep K G.M H' d v → Ex (onB b) H H' → G.B H' → Q v H' := k
    obtain rfl := nil_of r
    refine ⟨_, (pss_cons (ps_set (i := 1) sc__law_fraction.nd rfl (.inl rfl) (pe_call G__law_pick (hr.mono (by decide)) (by rfl) M__law_pick F__law_pick.kp B__law_pick .nil pass0 (pa_cons (pv 0) (pa_cons (pe_lst (pa_cons pe_int (pa_cons pe_int (pa_cons pe_int (pa_cons pe_int (pa_cons pe_int (pa_cons pe_int (pa_cons pe_int pa_nil)))))))) pa_nil)))) (pss_cons (ps_set (i := 2) sc__law_fraction.nd rfl (.inl rfl) (pe_op op_sub (pe_call G__law_draw (hr.mono (by decide)) (by rfl) M__law_draw F__law_draw.kp B__law_draw .nil pass0 (pa_cons (pv 0) (pa_cons (pe_op op_add (pe_op op_mulW pe_int (pv 1)) pe_int) pa_nil))) (pv 1))) (pss_one (ps_ret (pe_call G__law_low (hr.mono (by decide)) (by rfl) M__law_low F__law_low.kp B__law_low .nil pass0 (pa_cons (pv 2) (pa_cons (pe_op op_add pe_int (pe_call G__law_draw (hr.mono (by decide)) (by rfl) M__law_draw F__law_draw.kp B__law_draw .nil pass0 (pa_cons (pv 0) (pa_cons (pe_call G__law_pick (hr.mono (by decide)) (by rfl) M__law_pick F__law_pick.kp B__law_pick .nil pass0 (pa_cons (pv 0) (pa_cons (pe_lst (pa_cons pe_int (pa_cons pe_int (pa_cons pe_int (pa_cons pe_int (pa_cons pe_int (pa_cons (pv 1) pa_nil))))))) pa_nil))) pa_nil)))) pa_nil))))))), ?_⟩
    with_reducible refine k_seq ?_
    with_reducible refine k_set ?_
    with_reducible refine k_call ?_
    refine k_arg (val_var rfl) ?_
    with_reducible refine k_argX ?_
    with_reducible refine k_lst ?_
    refine k_arg val_c ?_
    refine k_arg val_c ?_
    refine k_arg val_c ?_
    refine k_arg val_c ?_
    refine k_arg val_c ?_
    refine k_arg val_c ?_
    refine k_arg val_c ?_
    with_reducible refine k_nil ?_
    refine k_lst_end hB (rcons (rint _) (rcons (rint _) (rcons (rint _) (rcons (rint _) (rcons (rint _) (rcons (rint _) (rcons (rint _) (rnil (K := K))))))))) (fun v1 H1 r1 s1 hB1 => ?_)
    with_reducible refine k_nil ?_
    refine k_spB [.int ((1 : Int)), .int ((2 : Int)), .int ((3 : Int)), .int ((5 : Int)), .int ((9 : Int)), .int ((30 : Int)), .int ((999999 : Int))] hg hB1 (rcons (r1) (rnil (K := K))) ⟨Nat.succ_pos _, Nat.le_of_ble_eq_true rfl⟩ (fun d2 v2 H2 m2 r2 e2 hB2 => ?_)
    obtain ⟨i2, rfl, z2⟩ : ∃ (i2 : Int), d2 = (.int (i2) : D) ∧ (1 ≤ i2 ∧ i2 ≤ 999999) := by
      simp only [List.mem_cons, List.not_mem_nil, or_false] at m2
      rcases m2 with rfl | rfl | rfl | rfl | rfl | rfl | rfl
      · exact ⟨(1 : Int), rfl, (by omega)⟩
      · exact ⟨(2 : Int), rfl, (by omega)⟩
      · exact ⟨(3 : Int), rfl, (by omega)⟩
      · exact ⟨(5 : Int), rfl, (by omega)⟩
      · exact ⟨(9 : Int), rfl, (by omega)⟩
      · exact ⟨(30 : Int), rfl, (by omega)⟩
      · exact ⟨(999999 : Int), rfl, (by omega)⟩
    obtain rfl := int_of r2
    with_reducible refine k_seq ?_
    with_reducible refine k_set ?_
    with_reducible refine k_opX ?_
    with_reducible refine k_call ?_
    refine k_arg (val_var rfl) ?_
    refine k_arg (v_op0 (v_op val_c (val_var rfl) (cmul (sz_lit 2 (2 : Int)) (sz_lt 20 1000000 (m := i2 + 1) (by omega) (by omega) (by omega)) (by omega))) val_c) ?_
    with_reducible refine k_nil ?_
    refine k_draw hg hB2 (by omega) (by omega) (fun r3 H3 l3 u3 e3 hB3 => ?_)
    refine k_val (val_var rfl) ?_
    refine f_op0 ?_
    with_reducible refine k_ret ?_
    with_reducible refine k_call ?_
    refine k_arg (val_var rfl) ?_
    with_reducible refine k_argX ?_
    with_reducible refine k_opX ?_
    refine k_val val_c ?_
    with_reducible refine k_call ?_
    refine k_arg (val_var rfl) ?_
    with_reducible refine k_argX ?_
    with_reducible refine k_call ?_
    refine k_arg (val_var rfl) ?_
    with_reducible refine k_argX ?_
    with_reducible refine k_lst ?_
    refine k_arg val_c ?_
    refine k_arg val_c ?_
    refine k_arg val_c ?_
    refine k_arg val_c ?_
    refine k_arg val_c ?_
    refine k_arg (val_var rfl) ?_
    with_reducible refine k_nil ?_
    refine k_lst_end hB3 (rcons (rint _) (rcons (rint _) (rcons (rint _) (rcons (rint _) (rcons (rint _) (rcons (rint _) (rnil (K := K)))))))) (fun v4 H4 r4 s4 hB4 => ?_)
    with_reducible refine k_nil ?_
    refine k_spB [.int ((1 : Int)), .int ((1 : Int)), .int ((1 : Int)), .int ((2 : Int)), .int ((3 : Int)), .int (i2)] hg hB4 (rcons (r4) (rnil (K := K))) ⟨Nat.succ_pos _, Nat.le_of_ble_eq_true rfl⟩ (fun d5 v5 H5 m5 r5 e5 hB5 => ?_)
    obtain ⟨i5, rfl, z5⟩ : ∃ (i5 : Int), d5 = (.int (i5) : D) ∧ (1 ≤ i5 ∧ i5 ≤ 999999) := by
      simp only [List.mem_cons, List.not_mem_nil, or_false] at m5
      rcases m5 with rfl | rfl | rfl | rfl | rfl | rfl
      · exact ⟨(1 : Int), rfl, (by omega)⟩
      · exact ⟨(1 : Int), rfl, (by omega)⟩
      · exact ⟨(1 : Int), rfl, (by omega)⟩
      · exact ⟨(2 : Int), rfl, (by omega)⟩
      · exact ⟨(3 : Int), rfl, (by omega)⟩
      · exact ⟨i2, rfl, (by omega)⟩
    obtain rfl := int_of r5
    with_reducible refine k_nil ?_
    refine k_draw hg hB5 (by omega) (by omega) (fun r6 H6 l6 u6 e6 hB6 => ?_)
    refine f_op0 ?_
    with_reducible refine k_nil ?_
    have zp1 : Sz 22 ((r3 - i2)) := (Sz.sub (sz_lt 21 1999999 l3 u3 (by omega)) (sz_lt 20 1000000 (m := i2 + 1) (by omega) (by omega) (by omega)))
    have zq1 : Sz 21 (((1 : Int) + r6)) := (Sz.add (sz_lit 1 (1 : Int)) (sz_lt 20 999999 l6 u6 (by omega)))
    have nq1 : (((1 : Int) + r6)) ≠ 0 := (by omega)
    refine k_spF ((r3 - i2), ((1 : Int) + r6), 21) hB6 (rcons (rint _) (rcons (rint _) (rnil (K := K)))) ⟨nq1, zq1, by first | omega | (dsimp only; omega)⟩ (fun v7 H7 r7 s7 hB7 => ?_)
    replace r7 : Rep K G.M H7 ((fr (Rat.divInt ((r3 - i2)) (((1 : Int) + r6))))) v7 := r7
    have z7 : SzR 23 (Rat.divInt ((r3 - i2)) (((1 : Int) + r6))) := (divInt_sz (zp1.mono (by omega)) (zq1.mono (by omega)) nq1)
    exact k _ _ _ ⟨Rat.divInt ((r3 - i2)) (((1 : Int) + r6)), rfl, (z7.mono (by omega))⟩ (r7) ((Ex.of s1).trans (e2.trans (e3.trans ((Ex.of s4).trans (e5.trans (e6.trans (Ex.of s7))))))) hB7
end
end Px

namespace Px
open PySem PySem.Spec PyProof.Rows L2
section
variable {P : Program} {w : World} {K : PySem.W.Frag} {mg : Str → Option Value} {base : Heap}
def sp__law_same (K : PySem.W.Frag) (n : Nat) : Sp := spF K (α := D) (fun x => [x, x]) (fun x => okD n x = true) (fun x => (.bl true : D))
theorem has__law_same_S (T : Tx K mg) (n : Nat) (ih : Has P w K mg base CX0 "_law_same" s__law_same ["_law_found", "_law_due"] (n + 1) (sp__law_same K n)) : Has P w K mg base CX0 "_law_same" s__law_same ["_law_found", "_law_due"] (n + 1 + 1) (sp__law_same K (n + 1)) := by
  obtain ⟨f, fd, F, M⟩ := T._law_same
  obtain ⟨f__law_same, fd__law_same, F__law_same, M__law_same, B__law_same, G__law_same⟩ := ih
  refine ⟨f, fd, F, M, F.binds (ps := ["_law_found", "_law_due"]) (fun _ _ _ _ _ _ us hl => match us, hl with | [_, _], _ => rfl), F.ok sc__law_same (fun vs H Q E h => ?_) (fun cdv A outer s H vs Q E hr h => ?_)⟩
  · obtain ⟨G, x, hB, r, hp, q⟩ := h; rw [r.len]; rfl
  · obtain ⟨G, x, hB, r, hp, k⟩ := h
    refine ⟨_, (pss_cons (ps_if (pt_val (pe_callB call_isiT (by rfl) T.isinstance (by decide +kernel) (pa_cons (pv 1) (pa_cons (pe_tup (pa_cons (pe_bltn (v := .ty "list") (u := .type "list") (by rfl) T.list (by decide +kernel) rfl) (pa_cons (pe_bltn (v := .ty "tuple") (u := .type "tuple") (by rfl) T.tuple (by decide +kernel) rfl) pa_nil))) pa_nil)))) (pss_cons (ps_if (PW.pt (pw_or (pt_cmpR op_ne (pe_callB call_isi (by rfl) T.isinstance (by decide +kernel) (pa_cons (pv 0) (pa_cons (pe_bltn (v := .ty "list") (u := .type "list") (by rfl) T.list (by decide +kernel) rfl) pa_nil))) (pe_callB call_isi (by rfl) T.isinstance (by decide +kernel) (pa_cons (pv 1) (pa_cons (pe_bltn (v := .ty "list") (u := .type "list") (by rfl) T.list (by decide +kernel) rfl) pa_nil))) (nomark _)) (pw_or1 (pt_cmpR op_ne (pe_callB call_isi (by rfl) T.isinstance (by decide +kernel) (pa_cons (pv 0) (pa_cons (pe_bltn (v := .ty "tuple") (u := .type "tuple") (by rfl) T.tuple (by decide +kernel) rfl) pa_nil))) (pe_callB call_isi (by rfl) T.isinstance (by decide +kernel) (pa_cons (pv 1) (pa_cons (pe_bltn (v := .ty "tuple") (u := .type "tuple") (by rfl) T.tuple (by decide +kernel) rfl) pa_nil))) (nomark _))))) (pss_one ps_never) pss_nil) (pss_one (ps_ret (pe_and (pe_cmpR op_eq (pe_callB call_len (by rfl) T.len (by decide +kernel) (pa_cons (pv 0) pa_nil)) (pe_callB call_len (by rfl) T.len (by decide +kernel) (pa_cons (pv 1) pa_nil)) (nomark _)) (pe_one (pe_callB (cr_all (by rfl)) (by rfl) T.all (by decide +kernel) (pa_cons (pe_lc (own := [("_law_x", 2), ("_law_y", 3)]) (g := gPair K 2 3) (tt := tYes) (by rfl) sc__law_same.nd (RZ.pi_zipA (by rfl) T.zip (pa_cons (pv 0) (pa_cons (pv 1) pa_nil))) (blkOk_by (own := [("_law_x", 2), ("_law_y", 3)]) (N := ["_law_found", "_law_due", "_law_x", "_law_y"]) (sc := (defScope s__law_same)) (by decide +kernel)) (fun _ _ _ _ _ => pg_tupK (K := K) rfl (pgs_cons (pg_name (i := 2) sc__law_same.nd rfl (.inl rfl)) (pgs_cons (pg_name (i := 3) sc__law_same.nd rfl (.inl rfl)) pgs_nil))) (fun _ _ _ _ _ => pts_nil) (fun _ _ _ _ _ => (pe_call G__law_same (hr.mono (by omega)) (by rfl) M__law_same F__law_same.kp B__law_same .nil pass0 (pa_cons (pv 2) (pa_cons (pv 3) pa_nil))))) pa_nil))))))) pss_nil) (pss_cons (ps_if (pt_val (pe_callB call_isiT (by rfl) T.isinstance (by decide +kernel) (pa_cons (pv 0) (pa_cons (pe_tup (pa_cons (pe_bltn (v := .ty "list") (u := .type "list") (by rfl) T.list (by decide +kernel) rfl) (pa_cons (pe_bltn (v := .ty "tuple") (u := .type "tuple") (by rfl) T.tuple (by decide +kernel) rfl) pa_nil))) pa_nil)))) (pss_one ps_never) pss_nil) (pss_cons (ps_if (PW.pt (pw_or (pt_cmpR op_isN1 (pv 1) pe_non (nomark _)) (pw_or1 (pt_cmpR op_isN1 (pv 0) pe_non (nomark _))))) (pss_one (ps_ret (pe_and (pe_cmpR op_isN1 (pv 1) pe_non (nomark _)) (pe_one (pe_cmpR op_isN1 (pv 0) pe_non (nomark _)))))) pss_nil) (pss_cons (ps_if (PW.pt (pw_or (pt_val (pe_callB call_isi (by rfl) T.isinstance (by decide +kernel) (pa_cons (pv 1) (pa_cons (pe_bltn (v := .ty "bool") (u := .type "bool") (by rfl) T.bool (by decide +kernel) rfl) pa_nil)))) (pw_or1 (pt_val (pe_callB call_isi (by rfl) T.isinstance (by decide +kernel) (pa_cons (pv 0) (pa_cons (pe_bltn (v := .ty "bool") (u := .type "bool") (by rfl) T.bool (by decide +kernel) rfl) pa_nil))))))) (pss_one (ps_ret (pe_and (pe_callB call_isi (by rfl) T.isinstance (by decide +kernel) (pa_cons (pv 1) (pa_cons (pe_bltn (v := .ty "bool") (u := .type "bool") (by rfl) T.bool (by decide +kernel) rfl) pa_nil))) (pe_and (pe_callB call_isi (by rfl) T.isinstance (by decide +kernel) (pa_cons (pv 0) (pa_cons (pe_bltn (v := .ty "bool") (u := .type "bool") (by rfl) T.bool (by decide +kernel) rfl) pa_nil))) (pe_one (pe_cmpR op_eq (pv 0) (pv 1) (nomark _))))))) pss_nil) (pss_cons (ps_if (PW.pt (pw_or (pt_val (pe_callB call_isi (by rfl) T.isinstance (by decide +kernel) (pa_cons (pv 1) (pa_cons (pe_bltn (v := .ty "int") (u := .type "int") (by rfl) T.int (by decide +kernel) rfl) pa_nil)))) (pw_or1 (pt_val (pe_callB call_isi (by rfl) T.isinstance (by decide +kernel) (pa_cons (pv 0) (pa_cons (pe_bltn (v := .ty "int") (u := .type "int") (by rfl) T.int (by decide +kernel) rfl) pa_nil))))))) (pss_one (ps_ret (pe_and (pe_callB call_isi (by rfl) T.isinstance (by decide +kernel) (pa_cons (pv 1) (pa_cons (pe_bltn (v := .ty "int") (u := .type "int") (by rfl) T.int (by decide +kernel) rfl) pa_nil))) (pe_and (pe_callB call_isi (by rfl) T.isinstance (by decide +kernel) (pa_cons (pv 0) (pa_cons (pe_bltn (v := .ty "int") (u := .type "int") (by rfl) T.int (by decide +kernel) rfl) pa_nil))) (pe_one (pe_cmpR op_eq (pv 0) (pv 1) (nomark _))))))) pss_nil) (pss_cons (ps_if (PW.pt (pw_or (pt_val (pe_callB call_isi (by rfl) T.isinstance (by decide +kernel) (pa_cons (pv 1) (pa_cons (pe_bltn (v := .ty "str") (u := .type "str") (by rfl) T.str (by decide +kernel) rfl) pa_nil)))) (pw_or1 pt_false))) (pss_one (ps_ret (pe_and (pe_callB call_isi (by rfl) T.isinstance (by decide +kernel) (pa_cons (pv 1) (pa_cons (pe_bltn (v := .ty "str") (u := .type "str") (by rfl) T.str (by decide +kernel) rfl) pa_nil))) (pe_and (pe_callB call_isi (by rfl) T.isinstance (by decide +kernel) (pa_cons (pv 0) (pa_cons (pe_bltn (v := .ty "str") (u := .type "str") (by rfl) T.str (by decide +kernel) rfl) pa_nil))) (pe_one (pe_cmpR op_eq (pv 0) (pv 1) (nomark _))))))) pss_nil) (pss_one ps_never))))))), ?_⟩
    rcases x with _ | b | i | z | ds | ds | ⟨C', ns, ds⟩
    · replace k : ∀ d v H', d = (.bl (true) : D) → Rep K G.M H' d v → Same H H' → G.B H' → Q v H' := k
      obtain ⟨v0_0, _, rfl, r0_0, rt0⟩ := cons_of r
      replace r0_0 : Rep K G.M H (.non) v0_0 := r0_0
      obtain rfl := non_of r0_0
      obtain ⟨v0_1, _, rfl, r0_1, rt1⟩ := cons_of rt0
      replace r0_1 : Rep K G.M H (.non) v0_1 := r0_1
      obtain rfl := non_of r0_1
      obtain rfl := nil_of rt1
      with_reducible refine k_seq ?_
      with_reducible refine k_ifX ?_
      with_reducible refine k_B ?_
      refine k_isi2 (M := noM) (A := "list") (B := "tuple") (ty := "NoneType") (b := false) (val_var rfl) (rnon) (by decide +kernel) (fun p1 n1 => ?_)
      have s1 := same_upd (o := .tup [.ty "list", .ty "tuple"]) n1
      have hB1 := Bg.st G _ _ hB s1
      refine ⟨_, rfl, ?_⟩
      refine iteF ?_
      with_reducible refine k_next ?_
      with_reducible refine k_seq ?_
      with_reducible refine k_ifX ?_
      with_reducible refine k_B ?_
      refine k_isi2 (M := noM) (A := "list") (B := "tuple") (ty := "NoneType") (b := false) (val_var rfl) (rnon) (by decide +kernel) (fun p2 n2 => ?_)
      have s2 := same_upd (o := .tup [.ty "list", .ty "tuple"]) n2
      have hB2 := Bg.st G _ _ hB1 s2
      refine ⟨_, rfl, ?_⟩
      refine iteF ?_
      with_reducible refine k_next ?_
      with_reducible refine k_seq ?_
      with_reducible refine k_ifX ?_
      with_reducible refine k_or ?_
      with_reducible refine k_T ?_
      with_reducible refine k_opX ?_
      refine k_val (val_var rfl) ?_
      refine k_val val_c ?_
      refine f_isN (K := K) (M := noM) (b := true) (rnon) rfl ?_
      refine ⟨_, rfl, ?_⟩
      refine iteT ?_
      refine iteT ?_
      with_reducible refine k_ret ?_
      with_reducible refine k_andV ?_
      with_reducible refine k_opX ?_
      refine k_val (val_var rfl) ?_
      refine k_val val_c ?_
      refine f_isN (K := K) (M := noM) (b := true) (rnon) rfl ?_
      refine ⟨_, rfl, ?_⟩
      refine iteT ?_
      with_reducible refine k_opX ?_
      refine k_val (val_var rfl) ?_
      refine k_val val_c ?_
      refine f_isN (K := K) (M := noM) (b := true) (rnon) rfl ?_
      exact k _ _ _ rfl (rbl _) (s1.trans s2) hB2
    · replace k : ∀ d v H', d = (.bl (true) : D) → Rep K G.M H' d v → Same H H' → G.B H' → Q v H' := k
      obtain ⟨v0_0, _, rfl, r0_0, rt0⟩ := cons_of r
      replace r0_0 : Rep K G.M H (.bl (b)) v0_0 := r0_0
      obtain rfl := bl_of r0_0
      obtain ⟨v0_1, _, rfl, r0_1, rt1⟩ := cons_of rt0
      replace r0_1 : Rep K G.M H (.bl (b)) v0_1 := r0_1
      obtain rfl := bl_of r0_1
      obtain rfl := nil_of rt1
      with_reducible refine k_seq ?_
      with_reducible refine k_ifX ?_
      with_reducible refine k_B ?_
      refine k_isi2 (M := noM) (A := "list") (B := "tuple") (ty := "bool") (b := false) (val_var rfl) (rbl _) (by decide +kernel) (fun p3 n3 => ?_)
      have s3 := same_upd (o := .tup [.ty "list", .ty "tuple"]) n3
      have hB3 := Bg.st G _ _ hB s3
      refine ⟨_, rfl, ?_⟩
      refine iteF ?_
      with_reducible refine k_next ?_
      with_reducible refine k_seq ?_
      with_reducible refine k_ifX ?_
      with_reducible refine k_B ?_
      refine k_isi2 (M := noM) (A := "list") (B := "tuple") (ty := "bool") (b := false) (val_var rfl) (rbl _) (by decide +kernel) (fun p4 n4 => ?_)
      have s4 := same_upd (o := .tup [.ty "list", .ty "tuple"]) n4
      have hB4 := Bg.st G _ _ hB3 s4
      refine ⟨_, rfl, ?_⟩
      refine iteF ?_
      with_reducible refine k_next ?_
      with_reducible refine k_seq ?_
      with_reducible refine k_ifX ?_
      with_reducible refine k_or ?_
      with_reducible refine k_T ?_
      with_reducible refine k_opX ?_
      refine k_val (val_var rfl) ?_
      refine k_val val_c ?_
      refine f_isN (K := K) (M := noM) (b := false) (rbl _) rfl ?_
      refine ⟨_, rfl, ?_⟩
      refine iteF ?_
      with_reducible refine k_T ?_
      with_reducible refine k_opX ?_
      refine k_val (val_var rfl) ?_
      refine k_val val_c ?_
      refine f_isN (K := K) (M := noM) (b := false) (rbl _) rfl ?_
      refine ⟨_, rfl, ?_⟩
      refine iteF ?_
      with_reducible refine k_next ?_
      with_reducible refine k_seq ?_
      with_reducible refine k_ifX ?_
      with_reducible refine k_or ?_
      with_reducible refine k_B ?_
      refine k_val (v_isi (M := noM) (T := "bool") (ty := "bool") (b := true) (val_var rfl) (rbl _) (by decide +kernel)) ?_
      refine ⟨_, rfl, ?_⟩
      refine iteT ?_
      refine iteT ?_
      with_reducible refine k_ret ?_
      refine k_val (v_andB (v_isi (M := noM) (T := "bool") (ty := "bool") (b := true) (val_var rfl) (rbl _) (by decide +kernel)) (v_andB (v_isi (M := noM) (T := "bool") (ty := "bool") (b := true) (val_var rfl) (rbl _) (by decide +kernel)) (v_eqV (val_var rfl) (val_var rfl)))) ?_
      exact k _ _ _ rfl (rbl _) (s3.trans s4) hB4
    · replace k : ∀ d v H', d = (.bl (true) : D) → Rep K G.M H' d v → Same H H' → G.B H' → Q v H' := k
      obtain ⟨v0_0, _, rfl, r0_0, rt0⟩ := cons_of r
      replace r0_0 : Rep K G.M H (.int (i)) v0_0 := r0_0
      obtain rfl := int_of r0_0
      obtain ⟨v0_1, _, rfl, r0_1, rt1⟩ := cons_of rt0
      replace r0_1 : Rep K G.M H (.int (i)) v0_1 := r0_1
      obtain rfl := int_of r0_1
      obtain rfl := nil_of rt1
      with_reducible refine k_seq ?_
      with_reducible refine k_ifX ?_
      with_reducible refine k_B ?_
      refine k_isi2 (M := noM) (A := "list") (B := "tuple") (ty := "int") (b := false) (val_var rfl) (rint _) (by decide +kernel) (fun p5 n5 => ?_)
      have s5 := same_upd (o := .tup [.ty "list", .ty "tuple"]) n5
      have hB5 := Bg.st G _ _ hB s5
      refine ⟨_, rfl, ?_⟩
      refine iteF ?_
      with_reducible refine k_next ?_
      with_reducible refine k_seq ?_
      with_reducible refine k_ifX ?_
      with_reducible refine k_B ?_
      refine k_isi2 (M := noM) (A := "list") (B := "tuple") (ty := "int") (b := false) (val_var rfl) (rint _) (by decide +kernel) (fun p6 n6 => ?_)
      have s6 := same_upd (o := .tup [.ty "list", .ty "tuple"]) n6
      have hB6 := Bg.st G _ _ hB5 s6
      refine ⟨_, rfl, ?_⟩
      refine iteF ?_
      with_reducible refine k_next ?_
      with_reducible refine k_seq ?_
      with_reducible refine k_ifX ?_
      with_reducible refine k_or ?_
      with_reducible refine k_T ?_
      with_reducible refine k_opX ?_
      refine k_val (val_var rfl) ?_
      refine k_val val_c ?_
      refine f_isN (K := K) (M := noM) (b := false) (rint _) rfl ?_
      refine ⟨_, rfl, ?_⟩
      refine iteF ?_
      with_reducible refine k_T ?_
      with_reducible refine k_opX ?_
      refine k_val (val_var rfl) ?_
      refine k_val val_c ?_
      refine f_isN (K := K) (M := noM) (b := false) (rint _) rfl ?_
      refine ⟨_, rfl, ?_⟩
      refine iteF ?_
      with_reducible refine k_next ?_
      with_reducible refine k_seq ?_
      with_reducible refine k_ifX ?_
      with_reducible refine k_or ?_
      with_reducible refine k_B ?_
      refine k_val (v_isi (M := noM) (T := "bool") (ty := "int") (b := false) (val_var rfl) (rint _) (by decide +kernel)) ?_
      refine ⟨_, rfl, ?_⟩
      refine iteF ?_
      with_reducible refine k_B ?_
      refine k_val (v_isi (M := noM) (T := "bool") (ty := "int") (b := false) (val_var rfl) (rint _) (by decide +kernel)) ?_
      refine ⟨_, rfl, ?_⟩
      refine iteF ?_
      with_reducible refine k_next ?_
      with_reducible refine k_seq ?_
      with_reducible refine k_ifX ?_
      with_reducible refine k_or ?_
      with_reducible refine k_B ?_
      refine k_val (v_isi (M := noM) (T := "int") (ty := "int") (b := true) (val_var rfl) (rint _) (by decide +kernel)) ?_
      refine ⟨_, rfl, ?_⟩
      refine iteT ?_
      refine iteT ?_
      with_reducible refine k_ret ?_
      refine k_val (v_andB (v_isi (M := noM) (T := "int") (ty := "int") (b := true) (val_var rfl) (rint _) (by decide +kernel)) (v_andB (v_isi (M := noM) (T := "int") (ty := "int") (b := true) (val_var rfl) (rint _) (by decide +kernel)) (v_eqV (val_var rfl) (val_var rfl)))) ?_
      exact k _ _ _ rfl (rbl _) (s5.trans s6) hB6
    · replace k : ∀ d v H', d = (.bl (true) : D) → Rep K G.M H' d v → Same H H' → G.B H' → Q v H' := k
      obtain ⟨v0_0, _, rfl, r0_0, rt0⟩ := cons_of r
      replace r0_0 : Rep K G.M H (.str (z)) v0_0 := r0_0
      obtain rfl := str_of r0_0
      obtain ⟨v0_1, _, rfl, r0_1, rt1⟩ := cons_of rt0
      replace r0_1 : Rep K G.M H (.str (z)) v0_1 := r0_1
      obtain rfl := str_of r0_1
      obtain rfl := nil_of rt1
      with_reducible refine k_seq ?_
      with_reducible refine k_ifX ?_
      with_reducible refine k_B ?_
      refine k_isi2 (M := noM) (A := "list") (B := "tuple") (ty := "str") (b := false) (val_var rfl) (rstr _) (by decide +kernel) (fun p7 n7 => ?_)
      have s7 := same_upd (o := .tup [.ty "list", .ty "tuple"]) n7
      have hB7 := Bg.st G _ _ hB s7
      refine ⟨_, rfl, ?_⟩
      refine iteF ?_
      with_reducible refine k_next ?_
      with_reducible refine k_seq ?_
      with_reducible refine k_ifX ?_
      with_reducible refine k_B ?_
      refine k_isi2 (M := noM) (A := "list") (B := "tuple") (ty := "str") (b := false) (val_var rfl) (rstr _) (by decide +kernel) (fun p8 n8 => ?_)
      have s8 := same_upd (o := .tup [.ty "list", .ty "tuple"]) n8
      have hB8 := Bg.st G _ _ hB7 s8
      refine ⟨_, rfl, ?_⟩
      refine iteF ?_
      with_reducible refine k_next ?_
      with_reducible refine k_seq ?_
      with_reducible refine k_ifX ?_
      with_reducible refine k_or ?_
      with_reducible refine k_T ?_
      with_reducible refine k_opX ?_
      refine k_val (val_var rfl) ?_
      refine k_val val_c ?_
      refine f_isN (K := K) (M := noM) (b := false) (rstr _) rfl ?_
      refine ⟨_, rfl, ?_⟩
      refine iteF ?_
      with_reducible refine k_T ?_
      with_reducible refine k_opX ?_
      refine k_val (val_var rfl) ?_
      refine k_val val_c ?_
      refine f_isN (K := K) (M := noM) (b := false) (rstr _) rfl ?_
      refine ⟨_, rfl, ?_⟩
      refine iteF ?_
      with_reducible refine k_next ?_
      with_reducible refine k_seq ?_
      with_reducible refine k_ifX ?_
      with_reducible refine k_or ?_
      with_reducible refine k_B ?_
      refine k_val (v_isi (M := noM) (T := "bool") (ty := "str") (b := false) (val_var rfl) (rstr _) (by decide +kernel)) ?_
      refine ⟨_, rfl, ?_⟩
      refine iteF ?_
      with_reducible refine k_B ?_
      refine k_val (v_isi (M := noM) (T := "bool") (ty := "str") (b := false) (val_var rfl) (rstr _) (by decide +kernel)) ?_
      refine ⟨_, rfl, ?_⟩
      refine iteF ?_
      with_reducible refine k_next ?_
      with_reducible refine k_seq ?_
      with_reducible refine k_ifX ?_
      with_reducible refine k_or ?_
      with_reducible refine k_B ?_
      refine k_val (v_isi (M := noM) (T := "int") (ty := "str") (b := false) (val_var rfl) (rstr _) (by decide +kernel)) ?_
      refine ⟨_, rfl, ?_⟩
      refine iteF ?_
      with_reducible refine k_B ?_
      refine k_val (v_isi (M := noM) (T := "int") (ty := "str") (b := false) (val_var rfl) (rstr _) (by decide +kernel)) ?_
      refine ⟨_, rfl, ?_⟩
      refine iteF ?_
      with_reducible refine k_next ?_
      with_reducible refine k_seq ?_
      with_reducible refine k_ifX ?_
      with_reducible refine k_or ?_
      with_reducible refine k_B ?_
      refine k_val (v_isi (M := noM) (T := "str") (ty := "str") (b := true) (val_var rfl) (rstr _) (by decide +kernel)) ?_
      refine ⟨_, rfl, ?_⟩
      refine iteT ?_
      refine iteT ?_
      with_reducible refine k_ret ?_
      refine k_val (v_andB (v_isi (M := noM) (T := "str") (ty := "str") (b := true) (val_var rfl) (rstr _) (by decide +kernel)) (v_andB (v_isi (M := noM) (T := "str") (ty := "str") (b := true) (val_var rfl) (rstr _) (by decide +kernel)) (v_eqV (val_var rfl) (val_var rfl)))) ?_
      exact k _ _ _ rfl (rbl _) (s7.trans s8) hB8
    · obtain ⟨hlen, hall⟩ : ds.length ≤ 1000 ∧ ds.all (okD n) = true := ⟨of_decide_eq_true (Bool.and_eq_true_iff.mp hp).1, (Bool.and_eq_true_iff.mp hp).2⟩
      replace k : ∀ d v H', d = (.bl (true) : D) → Rep K G.M H' d v → Same H H' → G.B H' → Q v H' := k
      obtain ⟨v0_0, _, rfl, r0_0, rt0⟩ := cons_of r
      replace r0_0 : Rep K G.M H (.tup ds) v0_0 := r0_0
      obtain ⟨v0_1, _, rfl, r0_1, rt1⟩ := cons_of rt0
      replace r0_1 : Rep K G.M H (.tup ds) v0_1 := r0_1
      obtain rfl := nil_of rt1
      with_reducible refine k_seq ?_
      with_reducible refine k_ifX ?_
      with_reducible refine k_B ?_
      refine k_isi2 (A := "list") (B := "tuple") (ty := "tuple") (b := true) (val_var rfl) (r0_1) (by decide +kernel) (fun p9 n9 => ?_)
      have s9 := same_upd (o := .tup [.ty "list", .ty "tuple"]) n9
      have hB9 := Bg.st G _ _ hB s9
      refine ⟨_, rfl, ?_⟩
      refine iteT ?_
      with_reducible refine k_seq ?_
      with_reducible refine k_ifX ?_
      with_reducible refine k_or ?_
      with_reducible refine k_T ?_
      refine k_val (v_neV (v_isi (T := "list") (ty := "tuple") (b := false) (val_var rfl) ((r0_0.up hB (Ex.of s9))) (by decide +kernel)) (v_isi (T := "list") (ty := "tuple") (b := false) (val_var rfl) ((r0_1.up hB (Ex.of s9))) (by decide +kernel))) ?_
      refine ⟨_, rfl, ?_⟩
      refine iteF ?_
      with_reducible refine k_T ?_
      refine k_val (v_neV (v_isi (T := "tuple") (ty := "tuple") (b := true) (val_var rfl) ((r0_0.up hB (Ex.of s9))) (by decide +kernel)) (v_isi (T := "tuple") (ty := "tuple") (b := true) (val_var rfl) ((r0_1.up hB (Ex.of s9))) (by decide +kernel))) ?_
      refine ⟨_, rfl, ?_⟩
      refine iteF ?_
      with_reducible refine k_next ?_
      with_reducible refine k_ret ?_
      with_reducible refine k_andV ?_
      refine k_val (v_eqV (v_lenR ((ds.length : Nat) : Int) (val_var rfl) ((r0_0.up hB (Ex.of s9)))) (v_lenR ((ds.length : Nat) : Int) (val_var rfl) ((r0_1.up hB (Ex.of s9))))) ?_
      refine ⟨_, rfl, ?_⟩
      refine iteT ?_
      with_reducible refine k_cb ?_
      with_reducible refine k_argX ?_
      refine k_lcz ?_
      refine k_arg (val_var rfl) ?_
      refine k_arg (val_var rfl) ?_
      with_reducible refine k_nil ?_
      refine k_lcZT (K := K) (i := 2) (j := 3) (vs := [2, 3]) (noM) (fun _ m => m.elim) hlen hB9 ((r0_0.up hB (Ex.of s9))) ((r0_1.up hB (Ex.of s9))) (fun _ x => x = .bl true) (by intro _ _; rfl) (fun dc1 ic1 x1 w1 y1 Hc1 hic1 nc1 hBc1 ec1 rx1 ry1 Qc1 kc1 => ?_) (fun ds1 vd1 He1 l1 p1 r1 e1 be1 => ?_)
      · have hB10 := Bg.enterB hB9 nc1
        have nd10 := nc1
        have hB11 := hBc1
        have e11 := ec1
        with_reducible refine k_call ?_
        refine k_arg (val_var rfl) ?_
        refine k_arg (val_var rfl) ?_
        with_reducible refine k_nil ?_
        refine k_spF x1 hB11 (rcons (rx1) (rcons (ry1) (rnil (K := K)))) (okD_at hall hic1) (fun v12 H12 r12 s12 hB12 => ?_)
        obtain rfl := bl_of (b := true) r12
        exact kc1 _ _ _ rfl (rbl _) (Ex.of s12) hB12
      · have s13 := same_of e1
        have hB13 := be1
        have q1 := all_true p1
        have r13 : Rep K G.M He1 (.lst ((List.replicate ds1.length true).map .bl)) vd1 := by rw [← q1]; exact r1
        with_reducible refine k_nil ?_
        refine f_all (bs := (List.replicate ds1.length true)) (r13) (rep_all _) ?_
        exact k _ _ _ rfl (rbl _) (s9.trans s13) hB13
    · obtain ⟨hlen, hall⟩ : ds.length ≤ 1000 ∧ ds.all (okD n) = true := ⟨of_decide_eq_true (Bool.and_eq_true_iff.mp hp).1, (Bool.and_eq_true_iff.mp hp).2⟩
      replace k : ∀ d v H', d = (.bl (true) : D) → Rep K G.M H' d v → Same H H' → G.B H' → Q v H' := k
      obtain ⟨v0_0, _, rfl, r0_0, rt0⟩ := cons_of r
      replace r0_0 : Rep K G.M H (.lst ds) v0_0 := r0_0
      obtain ⟨v0_1, _, rfl, r0_1, rt1⟩ := cons_of rt0
      replace r0_1 : Rep K G.M H (.lst ds) v0_1 := r0_1
      obtain rfl := nil_of rt1
      with_reducible refine k_seq ?_
      with_reducible refine k_ifX ?_
      with_reducible refine k_B ?_
      refine k_isi2 (A := "list") (B := "tuple") (ty := "list") (b := true) (val_var rfl) (r0_1) (by decide +kernel) (fun p14 n14 => ?_)
      have s14 := same_upd (o := .tup [.ty "list", .ty "tuple"]) n14
      have hB14 := Bg.st G _ _ hB s14
      refine ⟨_, rfl, ?_⟩
      refine iteT ?_
      with_reducible refine k_seq ?_
      with_reducible refine k_ifX ?_
      with_reducible refine k_or ?_
      with_reducible refine k_T ?_
      refine k_val (v_neV (v_isi (T := "list") (ty := "list") (b := true) (val_var rfl) ((r0_0.up hB (Ex.of s14))) (by decide +kernel)) (v_isi (T := "list") (ty := "list") (b := true) (val_var rfl) ((r0_1.up hB (Ex.of s14))) (by decide +kernel))) ?_
      refine ⟨_, rfl, ?_⟩
      refine iteF ?_
      with_reducible refine k_T ?_
      refine k_val (v_neV (v_isi (T := "tuple") (ty := "list") (b := false) (val_var rfl) ((r0_0.up hB (Ex.of s14))) (by decide +kernel)) (v_isi (T := "tuple") (ty := "list") (b := false) (val_var rfl) ((r0_1.up hB (Ex.of s14))) (by decide +kernel))) ?_
      refine ⟨_, rfl, ?_⟩
      refine iteF ?_
      with_reducible refine k_next ?_
      with_reducible refine k_ret ?_
      with_reducible refine k_andV ?_
      refine k_val (v_eqV (v_lenRL ((ds.length : Nat) : Int) (val_var rfl) ((r0_0.up hB (Ex.of s14)))) (v_lenRL ((ds.length : Nat) : Int) (val_var rfl) ((r0_1.up hB (Ex.of s14))))) ?_
      refine ⟨_, rfl, ?_⟩
      refine iteT ?_
      with_reducible refine k_cb ?_
      with_reducible refine k_argX ?_
      refine k_lcz ?_
      refine k_arg (val_var rfl) ?_
      refine k_arg (val_var rfl) ?_
      with_reducible refine k_nil ?_
      refine k_lcZL (K := K) (i := 2) (j := 3) (vs := [2, 3]) (noM) (fun _ m => m.elim) hlen hB14 ((r0_0.up hB (Ex.of s14))) ((r0_1.up hB (Ex.of s14))) (fun _ x => x = .bl true) (by intro _ _; rfl) (fun dc2 ic2 x2 w2 y2 Hc2 hic2 nc2 hBc2 ec2 rx2 ry2 Qc2 kc2 => ?_) (fun ds2 vd2 He2 l2 p2 r2 e2 be2 => ?_)
      · have hB15 := Bg.enterB hB14 nc2
        have nd15 := nc2
        have hB16 := hBc2
        have e16 := ec2
        with_reducible refine k_call ?_
        refine k_arg (val_var rfl) ?_
        refine k_arg (val_var rfl) ?_
        with_reducible refine k_nil ?_
        refine k_spF x2 hB16 (rcons (rx2) (rcons (ry2) (rnil (K := K)))) (okD_at hall hic2) (fun v17 H17 r17 s17 hB17 => ?_)
        obtain rfl := bl_of (b := true) r17
        exact kc2 _ _ _ rfl (rbl _) (Ex.of s17) hB17
      · have s18 := same_of e2
        have hB18 := be2
        have q2 := all_true p2
        have r18 : Rep K G.M He2 (.lst ((List.replicate ds2.length true).map .bl)) vd2 := by rw [← q2]; exact r2
        with_reducible refine k_nil ?_
        refine f_all (bs := (List.replicate ds2.length true)) (r18) (rep_all _) ?_
        exact k _ _ _ rfl (rbl _) (s14.trans s18) hB18
    · cases hp
theorem has__law_same_n (T : Tx K mg) : ∀ n : Nat, Has P w K mg base CX0 "_law_same" s__law_same ["_law_found", "_law_due"] (n + 1) (sp__law_same K n)
  | 0 => by
    obtain ⟨f, fd, F, M⟩ := T._law_same
    refine ⟨f, fd, F, M, F.binds (ps := ["_law_found", "_law_due"]) (fun _ _ _ _ _ _ us hl => match us, hl with | [_, _], _ => rfl), F.ok sc__law_same (fun vs H Q E h => ?_) (fun cdv A outer s H vs Q E hr h => ?_)⟩
    · obtain ⟨G, x, hB, r, hp, q⟩ := h; rw [r.len]; rfl
    · obtain ⟨G, x, hB, r, hp, k⟩ := h
      exact absurd hp (by unfold okD; exact Bool.false_ne_true)
  | n + 1 => has__law_same_S T n (has__law_same_n T n)
theorem has__law_same (T : Tx K mg) : Has P w K mg base CX0 "_law_same" s__law_same ["_law_found", "_law_due"] 6 (sp__law_same K 5) := has__law_same_n T 5
end
end Px

namespace Px
open PySem PySem.Spec PyProof.Rows L2
section
variable {P : Program} {w : World} {K : PySem.W.Frag} {mg : Str → Option Value} {base : Heap}
/-! ### the attributes of an error, told while it is handled -/
def tStrs : List Str → TA
  | [] => tNil
  | s :: l => tCons (tC (.str s)) (tStrs l)
theorem strs_end {σ : L2.St} {H : Hp} : ∀ {L : List Str} {Q : List V → Hp → Prop}, Q (L.map .str) H → tStrs L σ H Q
  | [], _, q => q
  | s :: l, Q, q => k_arg (v := .str s) val_c (strs_end (L := l) (Q := fun xs H2 => Q (.str s :: xs) H2) q)
theorem t_in {σ : L2.St} {H : Hp} {te : TE} {cs : Str} {Q : Bool → Hp → Prop} (L : List Str) (h : Val te σ H (.str cs)) (q : ∀ H1, Same H H1 → Q (inV (.str cs) (L.map V.str)) H1) (hl : Nat.ble L.length 1000 = true := by rfl) (hf : (L.map V.str).all flatV = true := by rfl) :
    tTest (tOp (rIn K false) te (tLst (tStrs L))) σ H Q := by
  refine k_T (k_opX (k_val h (k_lst (strs_end ⟨?_, fun p hp => ?_⟩))))
  · rw [List.length_map]; exact Nat.le_trans (Nat.le_of_ble_eq_true hl) (by decide)
  · exact ⟨p, _, rfl, .inl (.inl (.inl upd_same)), rfl, hf, by rw [if_neg Bool.false_ne_true]; exact ⟨_, rfl, q _ (same_upd hp)⟩⟩
theorem t_eqS {σ : L2.St} {H : Hp} {te : TE} {cs z : Str} {Q : Bool → Hp → Prop} (h : Val te σ H (.str cs)) (q : Q (decide (cs = z)) H) : tTest (tOp rEq te (tC (.str z))) σ H Q :=
  k_T (k_opX (k_val h (k_val val_c (f_eqS ⟨_, rfl, q⟩))))
theorem end_tup {Q : VK} {H : Hp} {us : List V} (l : us.length ≤ 1000) (q : ∀ a H', SqT K H' a us → Same H H' → Q (.ref a) H') : TupEnd Q us H :=
  ⟨Nat.le_trans l (by decide), fun p hp => q p _ (.inl (.inl upd_same)) (same_upd hp)⟩
theorem v_xf {σ : L2.St} {H : Hp} {a C dd : Addr} {n : Str} {fs : List (Str × V)} {v : V} {te : TE} (h : Val te σ H (.ref a)) (T : XfC K C) (hno : PySem.W.findIn K (.ref C) n = some none) (hx : H dd = some (.xd fs)) (l : fs.lookup n = some v) : Val (tXp K a (.ref C) (some dd) n te) σ H v :=
  fun _ q => h _ ⟨rfl, C, dd, fs, v, rfl, T, hno, rfl, hx, l, q⟩
def fld1 : List Str := ["InvalidFraction", "InvalidSpot", "InvalidName", "InvalidKind", "InvalidPoint"]
def fld2 : List Str := ["InvalidReading", "InvalidSheet", "InvalidMark"]
def fld3 : List Str := ["DuplicateName", "InUse", "UnknownSheet", "UnknownMark"]
/-- which attributes an error of the code has -/
def fldOf (cs : Str) : List Str :=
  if inV (.str cs) (fld1.map V.str) = true then ["value"] else
  if inV (.str cs) (fld2.map V.str) = true then ["at"] else
  if inV (.str cs) (fld3.map V.str) = true then ["name"] else
  if decide (cs = "InvalidText") = true then ["line", "why"] else
  if decide (cs = "InvalidClaim") = true then ["at", "why"] else
  if decide (cs = "UnknownReading") = true then ["name", "mark"] else
  if decide (cs = "TooMany") = true then ["most"] else []
/-- what is known of the error of class cls, its dict d -/
structure ErrAt (K : PySem.W.Frag) (cls : Value) (d : Option Addr) (H : Hp) (cs : Str) (us : List V) : Prop where
  ex : ∃ (C dd : Addr) (fs : List (Str × V)), cls = .ref C ∧ XfC K C ∧ (∀ n ∈ ("code" : Str) :: fldOf cs, PySem.W.findIn K (.ref C) n = some none) ∧ d = some dd ∧ H dd = some (.xd fs) ∧ fs.lookup ("code" : Str) = some (V.str cs) ∧ (fldOf cs).map (fun n => fs.lookup n) = us.map some
theorem ErrAt.same {cls : Value} {d : Option Addr} {H H' : Hp} {cs : Str} {us : List V} (e : ErrAt K cls d H cs us) (s : Same H H') : ErrAt K cls d H' cs us := by
  obtain ⟨C, dd, fs, h1, h2, h3, h4, h5, h6, h7⟩ := e.ex
  exact ⟨C, dd, fs, h1, h2, h3, h4, s _ _ h5, h6, h7⟩
def sp__law_fields (K : PySem.W.Frag) (a : Addr) (cls : Value) (d : Option Addr) : Sp := fun vs H Q _ => vs = [.ref a] ∧ ∃ cs us, ErrAt K cls d H cs us ∧ ∀ p H', SqT K H' p us → Same H H' → Q (.ref p) H'
def HasP (P : Program) (w : World) (K : PySem.W.Frag) (mg : Str → Option Value) (base : Heap) (x : Str) (st : Stmt) (ps : List Str) (lv : Nat) (sp : Addr → Value → Option Addr → Sp) : Prop :=
  ∃ f fd, Fun K x x st f fd ∧ mg x = some (.ref f) ∧ Binds K fd ps [] ∧ FnP P w K mg base lv f fd ps sp
theorem has__law_fields (T : Tx K mg) : HasP P w K mg base "_law_fields" s__law_fields ["_law_e"] 1 (sp__law_fields K) := by
  obtain ⟨f, fd, F, M⟩ := T._law_fields
  refine ⟨f, fd, F, M, F.binds (ps := ["_law_e"]) (fun _ _ _ _ _ _ us hl => match us, hl with | [_], _ => rfl), fun_okP F sc__law_fields (fun a cls d vs H Q E h => ?_) (fun cdv A outer s H vs Q a oe cls d hz hf hr h => ?_)⟩
  · obtain ⟨rfl, _⟩ := h
    rfl
  obtain ⟨rfl, cs, us, er, k⟩ := h
  obtain ⟨C, dd, fs, rfl, T', hno, rfl, hx, lc, lu⟩ := er.ex
  have zi := List.mem_cons_self (a := (a, oe)) (l := ([] : List (Addr × Obj)))
  have at_ : ∀ {n : Str} {v : V} {H1 : Hp}, Same H H1 → n ∈ ("code" : Str) :: fldOf cs → fs.lookup n = some v → Val (tXp K a (.ref C) (some dd) n (tVar 0)) (start ["_law_e"] [.ref a]) H1 v := fun {n v H1} s hn l => v_xf (val_var rfl) T' (hno n hn) (s _ _ hx) l
  have cd : ∀ {H1 : Hp}, Same H H1 → Val (tXp K a (.ref C) (some dd) "code" (tVar 0)) (start ["_law_e"] [.ref a]) H1 (.str cs) := fun s => at_ s (List.mem_cons_self ..) lc
  have one : ∀ {n : Str} {H1 : Hp}, Same H H1 → fldOf cs = [n] → tTup (tCons (tXp K a (.ref C) (some dd) n (tVar 0)) tNil) (start ["_law_e"] [.ref a]) H1 Q := fun {n H1} s e => by
    rw [e] at lu
    match us, lu with
    | [u], lu =>
      have l : fs.lookup n = some u := List.head_eq_of_cons_eq lu
      exact k_tup (k_arg (at_ s (by rw [e]; simp) l) (k_nil (end_tup (Nat.le_of_ble_eq_true rfl) fun p H' h z => k p H' h (s.trans z))))
    | [], lu => cases lu
    | _ :: _ :: _, lu => simp at lu
  have two : ∀ {n m : Str} {H1 : Hp}, Same H H1 → fldOf cs = [n, m] → tTup (tCons (tXp K a (.ref C) (some dd) n (tVar 0)) (tCons (tXp K a (.ref C) (some dd) m (tVar 0)) tNil)) (start ["_law_e"] [.ref a]) H1 Q := fun {n m H1} s e => by
    rw [e] at lu
    match us, lu with
    | [u, v], lu =>
      have l1 : fs.lookup n = some u := List.head_eq_of_cons_eq lu
      have l2 : fs.lookup m = some v := List.head_eq_of_cons_eq (List.tail_eq_of_cons_eq lu)
      exact k_tup (k_arg (at_ s (by rw [e]; simp) l1) (k_arg (at_ s (by rw [e]; simp) l2) (k_nil (end_tup (Nat.le_of_ble_eq_true rfl) fun p H' h z => k p H' h (s.trans z)))))
    | [], lu => cases lu
    | [_], lu => simp at lu
    | _ :: _ :: _ :: _, lu => simp at lu
  refine ⟨_, (pss_cons (ps_if (pt_cmpR op_in_seq (pe_xfP zi hz hf (pv 0)) (pe_lst (pa_cons pe_str (pa_cons pe_str (pa_cons pe_str (pa_cons pe_str (pa_cons pe_str pa_nil)))))) (by rfl)) (pss_one (ps_ret (pe_tup (pa_cons (pe_xfP zi hz hf (pv 0)) pa_nil)))) pss_nil)
    (pss_cons (ps_if (pt_cmpR op_in_seq (pe_xfP zi hz hf (pv 0)) (pe_lst (pa_cons pe_str (pa_cons pe_str (pa_cons pe_str pa_nil)))) (by rfl)) (pss_one (ps_ret (pe_tup (pa_cons (pe_xfP zi hz hf (pv 0)) pa_nil)))) pss_nil)
    (pss_cons (ps_if (pt_cmpR op_in_seq (pe_xfP zi hz hf (pv 0)) (pe_lst (pa_cons pe_str (pa_cons pe_str (pa_cons pe_str (pa_cons pe_str pa_nil))))) (by rfl)) (pss_one (ps_ret (pe_tup (pa_cons (pe_xfP zi hz hf (pv 0)) pa_nil)))) pss_nil)
    (pss_cons (ps_if (pt_cmpR op_eq (pe_xfP zi hz hf (pv 0)) pe_str (nomark _)) (pss_one (ps_ret (pe_tup (pa_cons (pe_xfP zi hz hf (pv 0)) (pa_cons (pe_xfP zi hz hf (pv 0)) pa_nil))))) pss_nil)
    (pss_cons (ps_if (pt_cmpR op_eq (pe_xfP zi hz hf (pv 0)) pe_str (nomark _)) (pss_one (ps_ret (pe_tup (pa_cons (pe_xfP zi hz hf (pv 0)) (pa_cons (pe_xfP zi hz hf (pv 0)) pa_nil))))) pss_nil)
    (pss_cons (ps_if (pt_cmpR op_eq (pe_xfP zi hz hf (pv 0)) pe_str (nomark _)) (pss_one (ps_ret (pe_tup (pa_cons (pe_xfP zi hz hf (pv 0)) (pa_cons (pe_xfP zi hz hf (pv 0)) pa_nil))))) pss_nil)
    (pss_one (ps_ret (pe_ifExp (pt_cmpR op_eq (pe_xfP zi hz hf (pv 0)) pe_str (nomark _)) (pe_tup (pa_cons (pe_xfP zi hz hf (pv 0)) pa_nil)) (pe_tup pa_nil)))))))))), ?_⟩
  with_reducible refine k_seq ?_
  with_reducible refine k_ifX ?_
  refine t_in fld1 (cd (Same.refl _)) (fun H1 s1 => k_ite (fun c1 => ?_) (fun c1 => ?_))
  · exact k_ret (one s1 (by unfold fldOf; rw [if_pos c1]))
  with_reducible refine k_next ?_
  with_reducible refine k_seq ?_
  with_reducible refine k_ifX ?_
  refine t_in fld2 (cd s1) (fun H2 s2 => k_ite (fun c2 => ?_) (fun c2 => ?_))
  · exact k_ret (one (s1.trans s2) (by unfold fldOf; rw [c1, if_neg Bool.false_ne_true, if_pos c2]))
  with_reducible refine k_next ?_
  with_reducible refine k_seq ?_
  with_reducible refine k_ifX ?_
  refine t_in fld3 (cd (s1.trans s2)) (fun H3 s3 => k_ite (fun c3 => ?_) (fun c3 => ?_))
  · exact k_ret (one ((s1.trans s2).trans s3) (by unfold fldOf; rw [c1, if_neg Bool.false_ne_true, c2, if_neg Bool.false_ne_true, if_pos c3]))
  have s4 := (s1.trans s2).trans s3
  have f4 : fldOf cs = if decide (cs = "InvalidText") = true then (["line", "why"] : List Str) else if decide (cs = "InvalidClaim") = true then ["at", "why"] else if decide (cs = "UnknownReading") = true then ["name", "mark"] else if decide (cs = "TooMany") = true then ["most"] else ([] : List Str) := by
    unfold fldOf
    rw [c1, if_neg Bool.false_ne_true, c2, if_neg Bool.false_ne_true, c3, if_neg Bool.false_ne_true]
  with_reducible refine k_next ?_
  with_reducible refine k_seq ?_
  with_reducible refine k_ifX ?_
  refine t_eqS (cd s4) (k_ite (fun c4 => ?_) (fun c4 => ?_))
  · exact k_ret (two s4 (by rw [f4, if_pos c4]))
  with_reducible refine k_next ?_
  with_reducible refine k_seq ?_
  with_reducible refine k_ifX ?_
  refine t_eqS (cd s4) (k_ite (fun c5 => ?_) (fun c5 => ?_))
  · exact k_ret (two s4 (by rw [f4, c4, if_neg Bool.false_ne_true, if_pos c5]))
  with_reducible refine k_next ?_
  with_reducible refine k_seq ?_
  with_reducible refine k_ifX ?_
  refine t_eqS (cd s4) (k_ite (fun c6 => ?_) (fun c6 => ?_))
  · exact k_ret (two s4 (by rw [f4, c4, if_neg Bool.false_ne_true, c5, if_neg Bool.false_ne_true, if_pos c6]))
  with_reducible refine k_next ?_
  with_reducible refine k_ret ?_
  with_reducible refine k_ifE ?_
  refine t_eqS (cd s4) (k_ite (fun c7 => ?_) (fun c7 => ?_))
  · exact one s4 (by rw [f4, c4, if_neg Bool.false_ne_true, c5, if_neg Bool.false_ne_true, c6, if_neg Bool.false_ne_true, if_pos c7])
  · have e : fldOf cs = [] := by rw [f4, c4, if_neg Bool.false_ne_true, c5, if_neg Bool.false_ne_true, c6, if_neg Bool.false_ne_true, c7, if_neg Bool.false_ne_true]
    rw [e] at lu
    match us, lu with
    | [], _ => exact k_tup (k_nil (end_tup (Nat.le_of_ble_eq_true rfl) fun p H' h z => k p H' h (s4.trans z)))
    | _ :: _, lu => simp at lu

end
end Px

namespace Px
open PySem PySem.Spec PyProof.Rows L2
section
variable {P : Program} {w : World} {K : PySem.W.Frag} {mg : Str → Option Value} {base : Heap}
/-! ### _law_got: what a lambda hands back, or the error's code and attributes -/
theorem cat_sq {H : Hp} {Q : VK} {a b : Addr} {xs ys : List V} (h : SqT K H a xs) (h' : SqT K H b ys) (l : xs.length + ys.length ≤ 1000) (q : ∀ u H', SqT K H' u (xs ++ ys) → Same H H' → Q (.ref u) H') : rCatA K (.ref a) (.ref b) H Q := by
  refine ⟨a, b, xs, ys, rfl, rfl, h, h', Nat.le_trans l (by decide), fun e => ?_, fun _ e => ?_, fun _ _ p hp => q _ _ (.inl (.inl upd_same)) (same_upd hp)⟩
  · subst e
    exact q _ _ h' (Same.refl _)
  · subst e
    rw [List.append_nil] at q
    exact q _ _ h (Same.refl _)
/-- what it asks of an error of the lambda -/
def EGot (K : PySem.W.Frag) (A B : Addr) (Q : VK) : XK := fun cls d H' => PySem.W.exmAny K cls [.ref A, .ref B] = some true ∧ ∃ cs us, ErrAt K cls d H' cs us ∧ us.length ≤ 10 ∧ ∀ p H2, SqT K H2 p (.str cs :: us) → Same H' H2 → Q (.ref p) H2
/-- its reading, of the lambda's reading tl -/
def TGot (K : PySem.W.Frag) (A B : Addr) : (XK → Hp → VK → Prop) → Hp → VK → Prop := fun tl H Q => tl (EGot K A B Q) H (fun v H' => TupEnd Q [.str ("" : Str), v] H')
theorem sqT_same {H H' : Hp} {a : Addr} {xs : List V} (s : Same H H') (h : SqT K H a xs) : SqT K H' a xs := by
  rcases h with (h | ⟨o, h⟩) | h
  · exact .inl (.inl (s _ _ h))
  · exact .inl (.inr ⟨o, s _ _ h⟩)
  · exact .inr h
theorem set_at {σ : L2.St} {i : Nat} {v : Option V} (h : i < σ.length) : (σ.set i v)[i]? = some v := by
  rw [List.getElem?_set_self h]
theorem got_gives {X : Cx} {A B g f1 : Addr} {fd1 : FuncData} {cdg : Value} {q : Str} {k : Nat} (hA : X.mg "MapError" = some (.ref A)) (hB : X.mg "Missing" = some (.ref B)) (M1 : X.mg "_law_fields" = some (.ref f1)) (kp1 : PySem.W.keepIn X.K (.ref f1) = true) (B1 : Binds X.K fd1 ["_law_e"] [])
    (F1 : FnP X.prog X.w X.K X.mg X.base 1 f1 fd1 ["_law_e"] (sp__law_fields X.K)) (hr : Room (k + 2) X.A) :
    LamX.GivesTo X ["_law_ask", "_law_e"] "_law_got" (defScope s__law_got) g cdg (defBody s__law_got) "_law_ask" q (TGot X.K A B) := by
  intro f c' s H Q tl act hc h
  have hR : Room 1 (X.A.deeper (envOfC "_law_got" (defScope s__law_got) s.heap.objs.size g cdg)) := (hr.deeper _).mono (by omega)
  refine ⟨_, pss_one (ps_tryT (X := (cxOf C8.CX0 X.prog X.w X.K X.mg X.base ["_law_ask", "_law_e"] "_law_got" (defScope s__law_got) g cdg X.A X.stack s H C8.E0).nox) (i := 1) (c1 := .ref A) (c2 := .ref B)
      (tb := fun W D σ H => ∃ Ech : XK, (∀ cls d σ' H', Ech cls d H' → W cls d σ' H') ∧ σ[0]? = some (some (.ref f)) ∧ H c' = some (LamX.CodeO c' q) ∧ tl Ech H (fun v H' => TupEnd D.rt [.str ("" : Str), v] H'))
      (ts := fun a cls d => tRet (tOp (rCatA X.K) (tTup (tCons (tXp X.K a cls d "code" (tVar 1)) tNil)) (tCall (sp__law_fields X.K a cls d) [] E0 (tCons (tVar 1) tNil))))
      rfl rfl sc__law_got.nd rfl rfl (by rfl) hA (by rfl) hB (fun W pn xe tk _ => ?_) (fun a oe cls d pn hz hf => ?_)), ?_⟩
  · refine ⟨fun pins s' σ H' D I h' => ?_⟩
    obtain ⟨Ech, hW, h1, h2, h3⟩ := h'
    have hq := fun p1 p2 p3 p4 p5 => pss_one (ps_ret (pos := p3) (pe_tup (x1 := 0) (pos := p4) (pa_cons (pe_str (x := ("" : Str)) (j := 0) (pos := p5)) (pa_cons (act W pn xe Ech p1 p2 tk hW) pa_nil))))
    exact (hq _ _ _ _ _).run pins s' σ H' D I (k_ret (k_tup (k_arg val_c ⟨h1, h2, h3⟩)))
  · exact pss_one (ps_ret (pe_op op_catA (pe_tup (pa_cons (pe_xfP (List.mem_cons_self ..) hz hf (pv 1)) pa_nil)) (pe_callP F1 (List.mem_cons_self ..) hz hf ⟨hR.dp, hR.un⟩ (by rfl) M1 kp1 B1 (pa_cons (pv 1) pa_nil))))
  · show ∃ Ech : XK, _
    refine ⟨EGot X.K A B Q, ?_, rfl, hc, h⟩
    rintro cls d σ' H' ⟨e1, cs, us, er, hl, kq⟩
    refine ⟨e1, fun a na hσ => ?_⟩
    have hv : (σ'.set 1 (some (V.ref a)))[1]? = some (some (V.ref a)) := set_at (by rw [hσ]; show 1 < 2; decide)
    obtain ⟨C, dd, fs, rfl, T', hno, rfl, hx, lc, lu⟩ := id er.ex
    refine k_ret (k_opX (k_tup (k_arg (v_xf (val_var hv) T' (hno _ (List.mem_cons_self ..)) hx lc) (k_nil (end_tup (K := X.K) (Nat.le_of_ble_eq_true rfl) fun p1 H1 sq1 s1 => ?_)))))
    refine k_call (k_arg (val_var hv) (k_nil ⟨rfl, cs, us, er.same s1, fun p2 H2 sq2 s2 => ?_⟩))
    exact cat_sq (xs := [.str cs]) (sqT_same s2 sq1) sq2 (by simp only [List.length_cons, List.length_nil]; omega) fun u H3 sq s3 => kq u H3 sq ((s1.trans s2).trans s3)

end
end Px

namespace Px
open PySem PySem.Spec PyProof.Rows L2
section
variable {P : Program} {w : World} {K : PySem.W.Frag} {mg : Str → Option Value} {base : Heap}
abbrev s_ZeroDivisor___init__ : Stmt := inClass (topS 3) 0
/-! ### the bag and the tables -/
theorem tabs_but {T : List (Addr × Str)} {H H' : Hp} {d : Addr} {xs : List V} (t : LamX.Tabs T H) (h : H d = some (.lst xs)) (e : Ex (fun a => a = d) H H') : LamX.Tabs T H' := fun p hp => by
  obtain ⟨ps, h1, h2, h3⟩ := t p hp
  refine ⟨ps, e _ _ h1 fun z => ?_, h2, fun pos cv hc => ?_⟩
  · rw [z, h] at h1
    cases h1
  · obtain ⟨c, e1, e2⟩ := h3 pos cv hc
    refine ⟨c, e1, e _ _ e2 fun z => ?_⟩
    rw [z, h] at e2
    unfold LamX.CodeO at e2
    cases e2
def bagTG (K : PySem.W.Frag) (b c : Addr) (ns : List Int) (T : List (Addr × Str)) : Bg where
  M := fun a => a = b ∨ onT T a
  B := fun H => BagOk K b c ns H ∧ LamX.Tabs T H
  isl := fun H a q m => by
    rcases m with m | ⟨x, hm⟩
    · exact (bagG K b c ns).isl H a q.1 m
    · obtain ⟨ps, hP, _⟩ := q.2 _ hm
      exact .inr (.inr ⟨ps, hP⟩)
  st := fun H H' q s => ⟨(bagG K b c ns).st H H' q.1 s, q.2.ext s⟩
  fr := fun H d q nd H1 H2 q1 el e => ⟨(bagG K b c ns).fr H d q.1 nd H1 H2 q1.1 el e, let ⟨xs, h⟩ := el; tabs_but q1.2 h e⟩
theorem bagTG_ok {b c : Addr} {ns : List Int} {T : List (Addr × Str)} : BagG K b c ns (bagTG K b c ns T) := ⟨.inl rfl, fun _ q => q.1, fun H H' q e k => ⟨k, by
  obtain ⟨i, x, y, z, hb, _⟩ := q.1
  exact tabs_but q.2 hb e⟩⟩
theorem bagTG_tab {b c : Addr} {ns : List Int} {T : List (Addr × Str)} : TabG T (bagTG K b c ns T) := ⟨fun p hp => .inr ⟨p.2, hp⟩, fun _ q => q.2, fun H H' q e tb => ⟨by
  obtain ⟨i, x, y, z, hb, A⟩ := q.1
  have off : ∀ {a : Addr} {o : HO}, H a = some o → (∀ ps, o ≠ .tbl ps) → ∀ q', (a, q') ∉ T := fun {a o} h n q' hm => by
    obtain ⟨ps, hP, _⟩ := q.2 _ hm
    rw [h] at hP
    exact n ps (Option.some.inj hP)
  refine ⟨i, x, y, z, e _ _ hb (off hb fun ps z => by cases z), A.ne, ?_, A.i0, A.x0, A.y0, A.y1⟩
  rcases A.cells with (h | ⟨o, h⟩) | h
  · exact .inl (.inl (e _ _ h (off h fun ps z => by cases z)))
  · exact .inl (.inr ⟨o, e _ _ h (off h fun ps z => by cases z)⟩)
  · exact .inr h, tb⟩⟩
/-! ### promises of defs that make lambdas, and of defs that raise -/
def spL (K : PySem.W.Frag) (T : List (Addr × Str)) {α : Type} (enc : α → List D) (pre : α → Prop) (f : α → D) : Sp := fun vs H Q _ =>
  ∃ (G : Bg) (x : α), TabG T G ∧ G.B H ∧ Reps K G.M H (enc x) vs ∧ pre x ∧ ∀ d v H', d = f x → Rep K G.M H' d v → Ex (onT T) H H' → G.B H' → Q v H'
theorem k_spL {T : List (Addr × Str)} {G : Bg} {H : Hp} {Q : VK} {α : Type} {enc : α → List D} {pre : α → Prop} {f : α → D} {vs : List V} {E : XK} (x : α) (tg : TabG T G) (hB : G.B H) (r : Reps K G.M H (enc x) vs) (hp : pre x)
    (q : ∀ v H', Rep K G.M H' (f x) v → Ex (onT T) H H' → G.B H' → Q v H') : spL K T enc pre f vs H Q E := ⟨G, x, tg, hB, r, hp, fun d v H' e r' s b => q v H' (e ▸ r') s b⟩
def spE (K : PySem.W.Frag) {α : Type} (enc : α → List D) (pre : α → Prop) (C : Addr) (cs : Str) : Sp := fun vs H _ E =>
  ∃ (G : Bg) (x : α), G.B H ∧ Reps K G.M H (enc x) vs ∧ pre x ∧ ∀ dd H', Same H H' → G.B H' → H' dd = some (.xd [("code", .str cs)]) → E (.ref C) (some dd) H'
theorem k_spE {G : Bg} {H : Hp} {Q : VK} {α : Type} {enc : α → List D} {pre : α → Prop} {C : Addr} {cs : Str} {vs : List V} {E : XK} (x : α) (hB : G.B H) (r : Reps K G.M H (enc x) vs) (hp : pre x)
    (q : ∀ dd H', Same H H' → G.B H' → H' dd = some (.xd [("code", .str cs)]) → E (.ref C) (some dd) H') : spE K enc pre C cs vs H Q E := ⟨G, x, hB, r, hp, q⟩
theorem fnok_cx {CX : CXT} {k : Nat} {f : Addr} {fd : FuncData} {ps : List Str} {sp : Sp} (F : FnOk P w K mg base CX0 k f fd ps sp) : FnOk P w K mg base CX k f fd ps sp :=
  ⟨F.len, fun A outer s H args us vs Q E hr e0 hb r h => codeAny_mono (F.run A outer s H args us vs Q E hr e0 hb r h) fun res s' hq => by
    cases res with
    | error _ => exact False.elim hq
    | ok fl =>
      cases fl with
      | ret _ => exact hq
      | next | brk | cont => exact False.elim hq⟩
theorem fnok_or {CX : CXT} {k : Nat} {f : Addr} {fd : FuncData} {ps : List Str} {sp sp' : Sp} (F : FnOk P w K mg base CX k f fd ps sp) (F' : FnOk P w K mg base CX k f fd ps sp') : FnOk P w K mg base CX k f fd ps (fun vs H Q E => sp vs H Q E ∨ sp' vs H Q E) :=
  ⟨fun vs H Q E h => h.elim (F.len _ _ _ _) (F'.len _ _ _ _), fun A outer s H args us vs Q E hr e0 hb r h => h.elim (F.run A outer s H args us vs Q E hr e0 hb r) (F'.run A outer s H args us vs Q E hr e0 hb r)⟩
/-- the class of an error of the text without parameters: st its __init__ -/
structure ErrTx (P : Program) (w : World) (K : PySem.W.Frag) (mg : Str → Option Value) (x : Str) (st : Stmt) (C A B : Addr) : Prop where
  at_ : mg x = some (.ref C)
  exm : PySem.W.exmAny K (.ref C) [.ref A, .ref B] = some true
  xf : XfC K C
  code : PySem.W.findIn K (.ref C) "code" = some none
  err : ∃ fI, ErrC P w K C fI (defBody st) (defScope st)
  sup : mg "super" = none
/-! ### what _law_got hands back -/
theorem k_got {T : List (Addr × Str)} {A B : Addr} {G : Bg} {σ : L2.St} {H : Hp} {Q : VK} {t : XK → TE} (tg : TabG T G) (hB : G.B H) (body : ∀ H1, Ex (onT T) H H1 → G.B H1 → t (EGot K A B Q) σ H1 (fun v H' => TupEnd Q [.str ("" : Str), v] H')) : tLamT T (TGot K A B) t σ H Q :=
  ⟨tg.ok H hB, fun H1 e tb => body H1 e.on (tg.stb H H1 hB e tb)⟩
theorem got_val {G : Bg} {H : Hp} {Q : VK} {d : D} {v : V} (hB : G.B H) (r : Rep K G.M H d v) (q : ∀ u H', Rep K G.M H' (.tup [.str ("" : Str), d]) u → Same H H' → G.B H' → Q u H') : TupEnd Q [.str ("" : Str), v] H :=
  k_tup_end hB (rcons (rstr _) (rcons r rnil)) q
theorem got_err {G : Bg} {H : Hp} {Q : VK} {x cs : Str} {C A B dd : Addr} {st : Stmt} (e : ErrTx P w K mg x st C A B) (hB : G.B H) (hx : H dd = some (.xd [("code", .str cs)])) (hf : fldOf cs = []) (q : ∀ u H', Rep K G.M H' (.tup [.str cs]) u → Same H H' → G.B H' → Q u H') : EGot K A B Q (.ref C) (some dd) H := by
  refine ⟨e.exm, cs, [], ⟨C, dd, _, rfl, e.xf, fun n hn => ?_, rfl, hx, by simp [List.lookup], by rw [hf]; rfl⟩, by simp, fun p H2 sq s => q _ _ (rtup sq (rcons (rstr _) rnil)) s (G.st _ _ hB s)⟩
  rw [hf] at hn
  rw [List.mem_singleton.mp hn]
  exact e.code

end
end Px

namespace Px
open PySem PySem.Spec PyProof.Rows L2
section
variable {P : Program} {w : World} {K : PySem.W.Frag} {mg : Str → Option Value} {base : Heap}
/-! ### direction -/
def sg (p q : Int) : Int := if (decide (p < 0) || (decide (p = 0) && decide (q < 0))) = true then -(Nat.gcd p.natAbs q.natAbs : Nat) else (Nat.gcd p.natAbs q.natAbs : Nat)
def dirD (p q : Int) : D := .tup [.int (p.fdiv (sg p q)), .int (q.fdiv (sg p q))]
def ax (x y : Rat) : Int := x.num * (y.den : Int)
def ay (x y : Rat) : Int := y.num * (x.den : Int)
theorem v_ixR {M : Addr → Prop} {σ : L2.St} {H : Hp} {ta tb : TE} {ds : List D} {v : V} {k : Nat} {d : D} (ha : Val ta σ H v) (r : Rep K M H (.tup ds) v) (hb : Val tb σ H (.int (k : Int))) (e : ds[k]? = some d) : ∃ w, Rep K M H d w ∧ Val (tOp (rIxT K) ta tb) σ H w := by
  obtain ⟨a, xs, rfl, h, rs⟩ := tup_of r
  obtain ⟨w, e1, e2⟩ := rs.at e
  exact ⟨w, e2, v_ixT ha hb h e1⟩
theorem gcd0 {p q : Int} (h : (p, q) ≠ (0, 0)) : ((Nat.gcd p.natAbs q.natAbs : Nat) : Int) ≠ 0 := fun z => by
  have z' : Nat.gcd p.natAbs q.natAbs = 0 := by omega
  obtain ⟨a, b⟩ := Nat.gcd_eq_zero_iff.mp z'
  exact h (by rw [show p = 0 by omega, show q = 0 by omega])
theorem gcd_szm {n : Nat} {p q : Int} (hp : Sz n p) (hq : Sz n q) (h : (p, q) ≠ (0, 0)) : Sz n (Nat.gcd p.natAbs q.natAbs : Nat) := by
  by_cases z : q = 0
  · subst z
    have hp0 : p ≠ 0 := fun e => h (by rw [e])
    rw [Nat.gcd_comm]
    exact gcd_sz hp hp0
  · exact gcd_sz hq z
def sp_direction (K : PySem.W.Frag) : Sp := spF K (α := Rat × Rat × Nat) (fun x => [.tup [fr x.1, fr x.2.1]]) (fun x => SzR x.2.2 x.1 ∧ SzR x.2.2 x.2.1 ∧ x.2.2 ≤ 4000 ∧ (ax x.1 x.2.1, ay x.1 x.2.1) ≠ (0, 0)) (fun x => dirD (ax x.1 x.2.1) (ay x.1 x.2.1))
theorem has_direction (T : Tx K mg) : Has P w K mg base CX0 "direction" s_direction ["vector"] 1 (sp_direction K) := by
  obtain ⟨f, fd, F, M⟩ := T.direction
  refine ⟨f, fd, F, M, F.binds (ps := ["vector"]) (fun _ _ _ _ _ _ us hl => match us, hl with | [_], _ => rfl), F.ok sc_direction (fun vs H Q E h => ?_) (fun cdv A outer s H vs Q E hr h => ?_)⟩
  · obtain ⟨G, x, hB, r, hp, q⟩ := h
    rw [r.len]; rfl
  · obtain ⟨G, ⟨x, y, n⟩, hB, r, ⟨hx, hy, hn, h0⟩, k⟩ := h
    obtain ⟨v0, _, rfl, r0, r⟩ := cons_of r
    obtain rfl := nil_of r
    replace r0 : Rep K G.M H (.tup [fr x, fr y]) v0 := r0
    replace hx : SzR n x := hx
    replace hy : SzR n y := hy
    replace hn : n ≤ 4000 := hn
    replace h0 : (ax x y, ay x y) ≠ (0, 0) := h0
    have za : Sz (n + n) (ax x y) := hx.1.mul hy.2
    have zb : Sz (n + n) (ay x y) := hy.1.mul hx.2
    have zg := gcd_szm za zb h0
    have g0 := gcd0 h0
    refine ⟨_, pss_cons (ps_set (i := 1) sc_direction.nd rfl (.inl rfl) (pe_op op_mulW (pe_ix (ix_tupK (K := K)) (pe_ix (ix_tupK (K := K)) (pv 0) pe_int (fun _ _ => rfl)) pe_int (fun _ _ => rfl)) (pe_ix (ix_tupK (K := K)) (pe_ix (ix_tupK (K := K)) (pv 0) pe_int (fun _ _ => rfl)) pe_int (fun _ _ => rfl))))
      (pss_cons (ps_set (i := 2) sc_direction.nd rfl (.inl rfl) (pe_op op_mulW (pe_ix (ix_tupK (K := K)) (pe_ix (ix_tupK (K := K)) (pv 0) pe_int (fun _ _ => rfl)) pe_int (fun _ _ => rfl)) (pe_ix (ix_tupK (K := K)) (pe_ix (ix_tupK (K := K)) (pv 0) pe_int (fun _ _ => rfl)) pe_int (fun _ _ => rfl))))
      (pss_cons (ps_set (i := 3) sc_direction.nd rfl (.inl rfl) (pe_callBfun cr_gcd rfl T.gcd (pa_cons (pv 1) (pa_cons (pv 2) pa_nil))))
      (pss_cons (ps_if (pt_cmpR op_eq (pv 3) pe_int (nomark _)) (pss_one ps_never) pss_nil)
      (pss_cons (ps_if (PW.pt (pw_or (pt_cmpR op_lt (pv 1) pe_int (nomark _)) (pw_or1 (PW.pt (pw_and (pt_cmpR op_eq (pv 1) pe_int (nomark _)) (pw_and1 (pt_cmpR op_lt (pv 2) pe_int (nomark _)))))))) (pss_one (ps_set (i := 3) sc_direction.nd rfl (.inl rfl) (pe_un un_neg (pv 3)))) pss_nil)
      (pss_one (ps_ret (pe_tup (pa_cons (pe_op op_fdivU (pv 1) (pv 3)) (pa_cons (pe_op op_fdivU (pv 2) (pv 3)) pa_nil))))))))), ?_⟩
    obtain ⟨w0, ra, e0⟩ := v_ixR (σ := start ["vector", "across", "along", "shared"] [v0]) (ta := tVar 0) (tb := tC (.int ((0 : Nat) : Int))) (k := 0) (val_var rfl) r0 val_c rfl
    obtain ⟨w1, rb, e1⟩ := v_ixR (σ := start ["vector", "across", "along", "shared"] [v0]) (ta := tVar 0) (tb := tC (.int ((1 : Nat) : Int))) (k := 1) (val_var rfl) r0 val_c rfl
    refine k_seq (k_set (k_val (v_op (v_ixI (k := 0) e0 ra val_c rfl) (v_ixI (k := 1) e1 rb val_c rfl) (cmul hx.1 hy.2 (by omega))) ?_))
    obtain ⟨w0', ra', e0'⟩ := v_ixR (σ := (start ["vector", "across", "along", "shared"] [v0]).set 1 (some (V.int (ax x y)))) (ta := tVar 0) (tb := tC (.int ((0 : Nat) : Int))) (k := 0) (val_var rfl) r0 val_c rfl
    obtain ⟨w1', rb', e1'⟩ := v_ixR (σ := (start ["vector", "across", "along", "shared"] [v0]).set 1 (some (V.int (ax x y)))) (ta := tVar 0) (tb := tC (.int ((1 : Nat) : Int))) (k := 1) (val_var rfl) r0 val_c rfl
    refine k_seq (k_set (k_val (v_op (v_ixI (k := 0) e1' rb' val_c rfl) (v_ixI (k := 1) e0' ra' val_c rfl) (cmul hy.1 hx.2 (by omega))) ?_))
    refine k_seq (k_set (k_val (v_gcd (i := ax x y) (j := ay x y) (val_var rfl) (val_var rfl)) ?_))
    refine k_seq (k_if (a_test (v_eq (val_var rfl) val_c rfl)) (fun e => ?_) (fun _ => ?_))
    · exact absurd (V.int.inj (of_decide_eq_true e)) g0
    with_reducible refine k_next ?_
    with_reducible refine k_seq ?_
    refine k_if (b := (decide (ax x y < 0) || (decide (ax x y = 0) && decide (ay x y < 0)))) ?_ (fun e => ?_) (fun e => ?_)
    · have h1 : Ans (tTest (tOp (rI0 fun i j => .bl (decide (i < j))) (tVar 1) (tC (.int 0)))) ((((start ["vector", "across", "along", "shared"] [v0]).set 1 (some (V.int (ax x y)))).set 2 (some (V.int (ay x y)))).set 3 (some (V.int ((Nat.gcd (ax x y).natAbs (ay x y).natAbs : Nat) : Int)))) H (decide (ax x y < 0)) := a_test (v_opB (val_var rfl) val_c)
      cases c1 : decide (ax x y < 0) with
      | true =>
        rw [c1] at h1
        exact ans_or1 h1
      | false =>
        rw [c1] at h1
        exact ans_or h1 (ans_and2 (a_test (v_eqI (val_var rfl) val_c)) (a_test (v_opB (val_var rfl) val_c)))
    · refine k_set (k_val (v_un (val_var rfl)) ?_)
      have es : sg (ax x y) (ay x y) = -(Nat.gcd (ax x y).natAbs (ay x y).natAbs : Nat) := if_pos e
      have g1 : -(Nat.gcd (ax x y).natAbs (ay x y).natAbs : Nat) ≠ (0 : Int) := by omega
      refine k_ret (k_tup (k_arg (v_op (val_var rfl) (val_var rfl) (divU_of g1 zg.neg (by omega))) (k_arg (v_op (val_var rfl) (val_var rfl) (divU_of g1 zg.neg (by omega))) (k_nil ?_))))
      rw [← es]
      exact k_tup_end hB (rcons (rint _) (rcons (rint _) rnil)) fun v H' r s b => k _ v H' rfl r s b
    · have es : sg (ax x y) (ay x y) = (Nat.gcd (ax x y).natAbs (ay x y).natAbs : Nat) := if_neg (by rw [e]; exact Bool.false_ne_true)
      with_reducible refine k_next ?_
      refine k_ret (k_tup (k_arg (v_op (val_var rfl) (val_var rfl) (divU_of g0 zg (by omega))) (k_arg (v_op (val_var rfl) (val_var rfl) (divU_of g0 zg (by omega))) (k_nil ?_))))
      rw [← es]
      exact k_tup_end hB (rcons (rint _) (rcons (rint _) rnil)) fun v H' r s b => k _ v H' rfl r s b

end
end Px

namespace Px
open PySem PySem.Spec PyProof.Rows L2
section
variable {P : Program} {w : World} {K : PySem.W.Frag} {mg : Str → Option Value} {base : Heap}
/-! ### direction of the zero vector -/
def spE_direction (K : PySem.W.Frag) (C : Addr) : Sp := spE K (α := Rat × Rat × Nat) (fun x => [.tup [fr x.1, fr x.2.1]]) (fun x => SzR x.2.2 x.1 ∧ SzR x.2.2 x.2.1 ∧ x.2.2 ≤ 4000 ∧ (ax x.1 x.2.1, ay x.1 x.2.1) = (0, 0)) C "ZeroDivisor"
theorem err_direction {C A B f : Addr} {fd : FuncData} (T : Tx K mg) (Z : ErrTx P w K mg "ZeroDivisor" s_ZeroDivisor___init__ C A B) (F : Fun K "direction" "direction" s_direction f fd) : FnOk P w K mg base (L2.CX P w) 3 f fd ["vector"] (spE_direction K C) := by
  refine F.okX sc_direction (fun vs H Q E h => ?_) (fun cdv A' outer s H vs Q E hr h => ?_)
  · obtain ⟨G, x, hB, r, hp, q⟩ := h
    rw [r.len]; rfl
  · obtain ⟨G, ⟨x, y, n⟩, hB, r, ⟨hx, hy, hn, h0⟩, k⟩ := h
    obtain ⟨v0, _, rfl, r0, r⟩ := cons_of r
    obtain rfl := nil_of r
    replace r0 : Rep K G.M H (.tup [fr x, fr y]) v0 := r0
    replace hx : SzR n x := hx
    replace hy : SzR n y := hy
    replace hn : n ≤ 4000 := hn
    replace h0 : (ax x y, ay x y) = (0, 0) := h0
    obtain ⟨fI, Te⟩ := Z.err
    refine ⟨_, pss_cons (ps_set (i := 1) sc_direction.nd rfl (.inl rfl) (pe_op op_mulW (pe_ix (ix_tupK (K := K)) (pe_ix (ix_tupK (K := K)) (pv 0) pe_int (fun _ _ => rfl)) pe_int (fun _ _ => rfl)) (pe_ix (ix_tupK (K := K)) (pe_ix (ix_tupK (K := K)) (pv 0) pe_int (fun _ _ => rfl)) pe_int (fun _ _ => rfl))))
      (pss_cons (ps_set (i := 2) sc_direction.nd rfl (.inl rfl) (pe_op op_mulW (pe_ix (ix_tupK (K := K)) (pe_ix (ix_tupK (K := K)) (pv 0) pe_int (fun _ _ => rfl)) pe_int (fun _ _ => rfl)) (pe_ix (ix_tupK (K := K)) (pe_ix (ix_tupK (K := K)) (pv 0) pe_int (fun _ _ => rfl)) pe_int (fun _ _ => rfl))))
      (pss_cons (ps_set (i := 3) sc_direction.nd rfl (.inl rfl) (pe_callBfun cr_gcd rfl T.gcd (pa_cons (pv 1) (pa_cons (pv 2) pa_nil))))
      (pss_cons (ps_if (pt_cmpR op_eq (pv 3) pe_int (nomark _)) (pss_one (ps_raise rfl (takes_of rfl rfl rfl rfl) (pmk_err0 (k := 1) Te (fun _ => ⟨_, rfl⟩) (fun _ => rfl) hr (by rfl) Z.at_ Z.sup))) pss_nil)
      pss_never))), ?_⟩
    obtain ⟨w0, ra, e0⟩ := v_ixR (σ := start ["vector", "across", "along", "shared"] [v0]) (ta := tVar 0) (tb := tC (.int ((0 : Nat) : Int))) (k := 0) (val_var rfl) r0 val_c rfl
    obtain ⟨w1, rb, e1⟩ := v_ixR (σ := start ["vector", "across", "along", "shared"] [v0]) (ta := tVar 0) (tb := tC (.int ((1 : Nat) : Int))) (k := 1) (val_var rfl) r0 val_c rfl
    refine k_seq (k_set (k_val (v_op (v_ixI (k := 0) e0 ra val_c rfl) (v_ixI (k := 1) e1 rb val_c rfl) (cmul hx.1 hy.2 (by omega))) ?_))
    obtain ⟨w0', ra', e0'⟩ := v_ixR (σ := (start ["vector", "across", "along", "shared"] [v0]).set 1 (some (V.int (ax x y)))) (ta := tVar 0) (tb := tC (.int ((0 : Nat) : Int))) (k := 0) (val_var rfl) r0 val_c rfl
    obtain ⟨w1', rb', e1'⟩ := v_ixR (σ := (start ["vector", "across", "along", "shared"] [v0]).set 1 (some (V.int (ax x y)))) (ta := tVar 0) (tb := tC (.int ((1 : Nat) : Int))) (k := 1) (val_var rfl) r0 val_c rfl
    refine k_seq (k_set (k_val (v_op (v_ixI (k := 0) e1' rb' val_c rfl) (v_ixI (k := 1) e0' ra' val_c rfl) (cmul hy.1 hx.2 (by omega))) ?_))
    refine k_seq (k_set (k_val (v_gcd (i := ax x y) (j := ay x y) (val_var rfl) (val_var rfl)) ?_))
    have gz : ((Nat.gcd (ax x y).natAbs (ay x y).natAbs : Nat) : Int) = 0 := by
      rw [show ax x y = 0 from congrArg Prod.fst h0, show ay x y = 0 from congrArg Prod.snd h0]; rfl
    with_reducible refine k_seq ?_
    refine k_if (a_test (v_eqI (i := ((Nat.gcd (ax x y).natAbs (ay x y).natAbs : Nat) : Int)) (j := 0) (val_var rfl) val_c)) (fun _ => ?_) (fun e => ?_)
    · exact fun d hd => k d _ (same_upd hd) (G.st _ _ hB (same_upd hd)) upd_same
    · exact absurd gz (of_decide_eq_false e)

end
end Px

namespace Px
open PySem PySem.Spec PyProof.Rows L2
section
variable {P : Program} {w : World} {K : PySem.W.Frag} {mg : Str → Option Value} {base : Heap}
theorem fr_neg (x : Rat) : fr (-x) = .tup [.int (0 - x.num), .int (x.den : Int)] := by
  show D.tup [.int (-x).num, .int ((-x).den : Int)] = _
  rw [Rat.neg_num, Rat.neg_den, Int.zero_sub]
theorem den_pos (x : Rat) : (0 : Int) < (x.den : Int) := by
  have := x.den_nz
  omega
def sp_vector_plus (K : PySem.W.Frag) : Sp := spF K (α := Rat × Rat × Rat × Rat × Nat) (fun x => [.tup [(fr (x.1)), (fr (x.2.1))], .tup [(fr (x.2.2.1)), (fr (x.2.2.2.1))]]) (fun x => SzR x.2.2.2.2 x.1 ∧ SzR x.2.2.2.2 x.2.1 ∧ SzR x.2.2.2.2 x.2.2.1 ∧ SzR x.2.2.2.2 x.2.2.2.1 ∧ x.2.2.2.2 + x.2.2.2.2 ≤ 7000) (fun x => .tup [(fr ((x.1 + x.2.2.1))), (fr ((x.2.1 + x.2.2.2.1)))])
theorem has_vector_plus (T : Tx K mg) : Has P w K mg base CX0 "vector_plus" s_vector_plus ["one", "other"] 4 (sp_vector_plus K) := by
  obtain ⟨f, fd, F, M⟩ := T.vector_plus
  obtain ⟨f_plus, fd_plus, F_plus, M_plus, B_plus, G_plus⟩ := has_plus (P := P) (w := w) (base := base) T
  refine ⟨f, fd, F, M, F.binds (ps := ["one", "other"]) (fun _ _ _ _ _ _ us hl => match us, hl with | [_, _], _ => rfl), F.ok sc_vector_plus (fun vs H Q E h => ?_) (fun cdv A outer s H vs Q E hr h => ?_)⟩
  · obtain ⟨G, x, hB, r, hp, q⟩ := h; rw [r.len]; rfl
  · obtain ⟨G, ⟨x, y, p, q, a⟩, hB, r, ⟨hx, hy, hp, hq, hn⟩, k⟩ := h
    replace hx : SzR a x := hx
    replace hy : SzR a y := hy
    replace hp : SzR a p := hp
    replace hq : SzR a q := hq
    replace hn : a + a ≤ 7000 := hn
    replace k : ∀ d v H', d = (.tup [(fr ((x + p))), (fr ((y + q)))] : D) → Rep K G.M H' d v → Same H H' → G.B H' → Q v H' := k
    obtain ⟨v0_0, _, rfl, r0_0, rt0⟩ := cons_of r
    replace r0_0 : Rep K G.M H (.tup [(fr (x)), (fr (y))]) v0_0 := r0_0
    obtain ⟨v0_1, _, rfl, r0_1, rt1⟩ := cons_of rt0
    replace r0_1 : Rep K G.M H (.tup [(fr (p)), (fr (q))]) v0_1 := r0_1
    obtain rfl := nil_of rt1
    refine ⟨_, (pss_one (ps_ret (pe_tup (pa_cons (pe_call G_plus (hr.mono (by decide)) (by rfl) M_plus F_plus.kp B_plus .nil pass0 (pa_cons (pe_ix (ix_tupK (K := K)) (pv 0) pe_int (fun _ _ => rfl)) (pa_cons (pe_ix (ix_tupK (K := K)) (pv 1) pe_int (fun _ _ => rfl)) pa_nil))) (pa_cons (pe_call G_plus (hr.mono (by decide)) (by rfl) M_plus F_plus.kp B_plus .nil pass0 (pa_cons (pe_ix (ix_tupK (K := K)) (pv 0) pe_int (fun _ _ => rfl)) (pa_cons (pe_ix (ix_tupK (K := K)) (pv 1) pe_int (fun _ _ => rfl)) pa_nil))) pa_nil))))), ?_⟩
    with_reducible refine k_ret ?_
    with_reducible refine k_tup ?_
    with_reducible refine k_argX ?_
    with_reducible refine k_call ?_
    with_reducible refine k_argX ?_
    with_reducible refine k_opX ?_
    refine k_val (val_var rfl) ?_
    refine k_val val_c ?_
    refine f_ixT (k := 0) (r0_0) rfl (fun w1 rw1 => ?_)
    with_reducible refine k_argX ?_
    with_reducible refine k_opX ?_
    refine k_val (val_var rfl) ?_
    refine k_val val_c ?_
    refine f_ixT (k := 0) (r0_1) rfl (fun w2 rw2 => ?_)
    with_reducible refine k_nil ?_
    refine k_spF (x, p, a, a) hB (rcons (rw1) (rcons (rw2) (rnil (K := K)))) ⟨hx, hp, (by first | omega | (dsimp only; omega))⟩ (fun v1 H1 r1 s1 hB1 => ?_)
    replace r1 : Rep K G.M H1 ((fr ((x + p)))) v1 := r1
    have z1 : SzR ((a + a) + 1) ((x + p)) := (szr_add hx hp (by omega))
    with_reducible refine k_argX ?_
    with_reducible refine k_call ?_
    with_reducible refine k_argX ?_
    with_reducible refine k_opX ?_
    refine k_val (val_var rfl) ?_
    refine k_val val_c ?_
    refine f_ixT (k := 1) ((r0_0.up hB (Ex.of s1))) rfl (fun w3 rw3 => ?_)
    with_reducible refine k_argX ?_
    with_reducible refine k_opX ?_
    refine k_val (val_var rfl) ?_
    refine k_val val_c ?_
    refine f_ixT (k := 1) ((r0_1.up hB (Ex.of s1))) rfl (fun w4 rw4 => ?_)
    with_reducible refine k_nil ?_
    refine k_spF (y, q, a, a) hB1 (rcons (rw3) (rcons (rw4) (rnil (K := K)))) ⟨hy, hq, (by first | omega | (dsimp only; omega))⟩ (fun v2 H2 r2 s2 hB2 => ?_)
    replace r2 : Rep K G.M H2 ((fr ((y + q)))) v2 := r2
    have z2 : SzR ((a + a) + 1) ((y + q)) := (szr_add hy hq (by omega))
    with_reducible refine k_nil ?_
    refine k_tup_end hB2 (rcons ((r1.up hB1 (Ex.of s2))) (rcons (r2) (rnil (K := K)))) (fun v3 H3 r3 s3 hB3 => ?_)
    exact k _ _ _ rfl (r3) ((s1.trans s2).trans s3) hB3
def sp_vector_minus (K : PySem.W.Frag) : Sp := spF K (α := Rat × Rat × Rat × Rat × Nat) (fun x => [.tup [(fr (x.1)), (fr (x.2.1))], .tup [(fr (x.2.2.1)), (fr (x.2.2.2.1))]]) (fun x => SzR x.2.2.2.2 x.1 ∧ SzR x.2.2.2.2 x.2.1 ∧ SzR x.2.2.2.2 x.2.2.1 ∧ SzR x.2.2.2.2 x.2.2.2.1 ∧ x.2.2.2.2 + x.2.2.2.2 ≤ 7000) (fun x => .tup [(fr ((x.1 - x.2.2.1))), (fr ((x.2.1 - x.2.2.2.1)))])
theorem has_vector_minus (T : Tx K mg) : Has P w K mg base CX0 "vector_minus" s_vector_minus ["one", "other"] 4 (sp_vector_minus K) := by
  obtain ⟨f, fd, F, M⟩ := T.vector_minus
  obtain ⟨f_minus, fd_minus, F_minus, M_minus, B_minus, G_minus⟩ := has_minus (P := P) (w := w) (base := base) T
  refine ⟨f, fd, F, M, F.binds (ps := ["one", "other"]) (fun _ _ _ _ _ _ us hl => match us, hl with | [_, _], _ => rfl), F.ok sc_vector_minus (fun vs H Q E h => ?_) (fun cdv A outer s H vs Q E hr h => ?_)⟩
  · obtain ⟨G, x, hB, r, hp, q⟩ := h; rw [r.len]; rfl
  · obtain ⟨G, ⟨x, y, p, q, a⟩, hB, r, ⟨hx, hy, hp, hq, hn⟩, k⟩ := h
    replace hx : SzR a x := hx
    replace hy : SzR a y := hy
    replace hp : SzR a p := hp
    replace hq : SzR a q := hq
    replace hn : a + a ≤ 7000 := hn
    replace k : ∀ d v H', d = (.tup [(fr ((x - p))), (fr ((y - q)))] : D) → Rep K G.M H' d v → Same H H' → G.B H' → Q v H' := k
    obtain ⟨v0_0, _, rfl, r0_0, rt0⟩ := cons_of r
    replace r0_0 : Rep K G.M H (.tup [(fr (x)), (fr (y))]) v0_0 := r0_0
    obtain ⟨v0_1, _, rfl, r0_1, rt1⟩ := cons_of rt0
    replace r0_1 : Rep K G.M H (.tup [(fr (p)), (fr (q))]) v0_1 := r0_1
    obtain rfl := nil_of rt1
    refine ⟨_, (pss_one (ps_ret (pe_tup (pa_cons (pe_call G_minus (hr.mono (by decide)) (by rfl) M_minus F_minus.kp B_minus .nil pass0 (pa_cons (pe_ix (ix_tupK (K := K)) (pv 0) pe_int (fun _ _ => rfl)) (pa_cons (pe_ix (ix_tupK (K := K)) (pv 1) pe_int (fun _ _ => rfl)) pa_nil))) (pa_cons (pe_call G_minus (hr.mono (by decide)) (by rfl) M_minus F_minus.kp B_minus .nil pass0 (pa_cons (pe_ix (ix_tupK (K := K)) (pv 0) pe_int (fun _ _ => rfl)) (pa_cons (pe_ix (ix_tupK (K := K)) (pv 1) pe_int (fun _ _ => rfl)) pa_nil))) pa_nil))))), ?_⟩
    with_reducible refine k_ret ?_
    with_reducible refine k_tup ?_
    with_reducible refine k_argX ?_
    with_reducible refine k_call ?_
    with_reducible refine k_argX ?_
    with_reducible refine k_opX ?_
    refine k_val (val_var rfl) ?_
    refine k_val val_c ?_
    refine f_ixT (k := 0) (r0_0) rfl (fun w1 rw1 => ?_)
    with_reducible refine k_argX ?_
    with_reducible refine k_opX ?_
    refine k_val (val_var rfl) ?_
    refine k_val val_c ?_
    refine f_ixT (k := 0) (r0_1) rfl (fun w2 rw2 => ?_)
    with_reducible refine k_nil ?_
    refine k_spF (x, p, a, a) hB (rcons (rw1) (rcons (rw2) (rnil (K := K)))) ⟨hx, hp, (by first | omega | (dsimp only; omega))⟩ (fun v1 H1 r1 s1 hB1 => ?_)
    replace r1 : Rep K G.M H1 ((fr ((x - p)))) v1 := r1
    have z1 : SzR ((a + a) + 1) ((x - p)) := (szr_sub hx hp (by omega))
    with_reducible refine k_argX ?_
    with_reducible refine k_call ?_
    with_reducible refine k_argX ?_
    with_reducible refine k_opX ?_
    refine k_val (val_var rfl) ?_
    refine k_val val_c ?_
    refine f_ixT (k := 1) ((r0_0.up hB (Ex.of s1))) rfl (fun w3 rw3 => ?_)
    with_reducible refine k_argX ?_
    with_reducible refine k_opX ?_
    refine k_val (val_var rfl) ?_
    refine k_val val_c ?_
    refine f_ixT (k := 1) ((r0_1.up hB (Ex.of s1))) rfl (fun w4 rw4 => ?_)
    with_reducible refine k_nil ?_
    refine k_spF (y, q, a, a) hB1 (rcons (rw3) (rcons (rw4) (rnil (K := K)))) ⟨hy, hq, (by first | omega | (dsimp only; omega))⟩ (fun v2 H2 r2 s2 hB2 => ?_)
    replace r2 : Rep K G.M H2 ((fr ((y - q)))) v2 := r2
    have z2 : SzR ((a + a) + 1) ((y - q)) := (szr_sub hy hq (by omega))
    with_reducible refine k_nil ?_
    refine k_tup_end hB2 (rcons ((r1.up hB1 (Ex.of s2))) (rcons (r2) (rnil (K := K)))) (fun v3 H3 r3 s3 hB3 => ?_)
    exact k _ _ _ rfl (r3) ((s1.trans s2).trans s3) hB3
def sp_vector_times (K : PySem.W.Frag) : Sp := spF K (α := Rat × Rat × Rat × Nat) (fun x => [.tup [(fr (x.1)), (fr (x.2.1))], (fr (x.2.2.1))]) (fun x => SzR x.2.2.2 x.1 ∧ SzR x.2.2.2 x.2.1 ∧ SzR x.2.2.2 x.2.2.1 ∧ x.2.2.2 + x.2.2.2 ≤ 7000) (fun x => .tup [(fr ((x.1 * x.2.2.1))), (fr ((x.2.1 * x.2.2.1)))])
theorem has_vector_times (T : Tx K mg) : Has P w K mg base CX0 "vector_times" s_vector_times ["vector", "weight"] 4 (sp_vector_times K) := by
  obtain ⟨f, fd, F, M⟩ := T.vector_times
  obtain ⟨f_times, fd_times, F_times, M_times, B_times, G_times⟩ := has_times (P := P) (w := w) (base := base) T
  refine ⟨f, fd, F, M, F.binds (ps := ["vector", "weight"]) (fun _ _ _ _ _ _ us hl => match us, hl with | [_, _], _ => rfl), F.ok sc_vector_times (fun vs H Q E h => ?_) (fun cdv A outer s H vs Q E hr h => ?_)⟩
  · obtain ⟨G, x, hB, r, hp, q⟩ := h; rw [r.len]; rfl
  · obtain ⟨G, ⟨x, y, p, a⟩, hB, r, ⟨hx, hy, hp, hn⟩, k⟩ := h
    replace hx : SzR a x := hx
    replace hy : SzR a y := hy
    replace hp : SzR a p := hp
    replace hn : a + a ≤ 7000 := hn
    replace k : ∀ d v H', d = (.tup [(fr ((x * p))), (fr ((y * p)))] : D) → Rep K G.M H' d v → Same H H' → G.B H' → Q v H' := k
    obtain ⟨v0_0, _, rfl, r0_0, rt0⟩ := cons_of r
    replace r0_0 : Rep K G.M H (.tup [(fr (x)), (fr (y))]) v0_0 := r0_0
    obtain ⟨v0_1, _, rfl, r0_1, rt1⟩ := cons_of rt0
    replace r0_1 : Rep K G.M H ((fr (p))) v0_1 := r0_1
    obtain rfl := nil_of rt1
    refine ⟨_, (pss_one (ps_ret (pe_tup (pa_cons (pe_call G_times (hr.mono (by decide)) (by rfl) M_times F_times.kp B_times .nil pass0 (pa_cons (pe_ix (ix_tupK (K := K)) (pv 0) pe_int (fun _ _ => rfl)) (pa_cons (pv 1) pa_nil))) (pa_cons (pe_call G_times (hr.mono (by decide)) (by rfl) M_times F_times.kp B_times .nil pass0 (pa_cons (pe_ix (ix_tupK (K := K)) (pv 0) pe_int (fun _ _ => rfl)) (pa_cons (pv 1) pa_nil))) pa_nil))))), ?_⟩
    with_reducible refine k_ret ?_
    with_reducible refine k_tup ?_
    with_reducible refine k_argX ?_
    with_reducible refine k_call ?_
    with_reducible refine k_argX ?_
    with_reducible refine k_opX ?_
    refine k_val (val_var rfl) ?_
    refine k_val val_c ?_
    refine f_ixT (k := 0) (r0_0) rfl (fun w1 rw1 => ?_)
    refine k_arg (val_var rfl) ?_
    with_reducible refine k_nil ?_
    refine k_spF (x, p, a, a) hB (rcons (rw1) (rcons (r0_1) (rnil (K := K)))) ⟨hx, hp, (by first | omega | (dsimp only; omega))⟩ (fun v1 H1 r1 s1 hB1 => ?_)
    replace r1 : Rep K G.M H1 ((fr ((x * p)))) v1 := r1
    have z1 : SzR ((a + a) + 0) ((x * p)) := (szr_mul hx hp (by omega))
    with_reducible refine k_argX ?_
    with_reducible refine k_call ?_
    with_reducible refine k_argX ?_
    with_reducible refine k_opX ?_
    refine k_val (val_var rfl) ?_
    refine k_val val_c ?_
    refine f_ixT (k := 1) ((r0_0.up hB (Ex.of s1))) rfl (fun w2 rw2 => ?_)
    refine k_arg (val_var rfl) ?_
    with_reducible refine k_nil ?_
    refine k_spF (y, p, a, a) hB1 (rcons (rw2) (rcons ((r0_1.up hB (Ex.of s1))) (rnil (K := K)))) ⟨hy, hp, (by first | omega | (dsimp only; omega))⟩ (fun v2 H2 r2 s2 hB2 => ?_)
    replace r2 : Rep K G.M H2 ((fr ((y * p)))) v2 := r2
    have z2 : SzR ((a + a) + 0) ((y * p)) := (szr_mul hy hp (by omega))
    with_reducible refine k_nil ?_
    refine k_tup_end hB2 (rcons ((r1.up hB1 (Ex.of s2))) (rcons (r2) (rnil (K := K)))) (fun v3 H3 r3 s3 hB3 => ?_)
    exact k _ _ _ rfl (r3) ((s1.trans s2).trans s3) hB3
def sp__law_is_whole (K : PySem.W.Frag) : Sp := spF K (α := Int) (fun x => [.int (x)]) (fun x => True) (fun x => .bl (true))
theorem has__law_is_whole (T : Tx K mg) : Has P w K mg base CX0 "_law_is_whole" s__law_is_whole ["_law_v"] 1 (sp__law_is_whole K) := by
  obtain ⟨f, fd, F, M⟩ := T._law_is_whole
  refine ⟨f, fd, F, M, F.binds (ps := ["_law_v"]) (fun _ _ _ _ _ _ us hl => match us, hl with | [_], _ => rfl), F.ok sc__law_is_whole (fun vs H Q E h => ?_) (fun cdv A outer s H vs Q E hr h => ?_)⟩
  · obtain ⟨G, x, hB, r, hp, q⟩ := h; rw [r.len]; rfl
  · obtain ⟨G, i, hB, r, _, k⟩ := h
    replace k : ∀ d v H', d = (.bl (true) : D) → Rep K G.M H' d v → Same H H' → G.B H' → Q v H' := k
    obtain ⟨v0_0, _, rfl, r0_0, rt0⟩ := cons_of r
    replace r0_0 : Rep K G.M H (.int (i)) v0_0 := r0_0
    obtain rfl := int_of r0_0
    obtain rfl := nil_of rt0
    refine ⟨_, (pss_one (ps_ret (pe_and (pe_callB call_isi (by rfl) T.isinstance (by decide +kernel) (pa_cons (pv 0) (pa_cons (pe_bltn (v := .ty "int") (u := .type "int") (by rfl) T.int (by decide +kernel) rfl) pa_nil))) (pe_one (pe_not (pe_callB call_isi (by rfl) T.isinstance (by decide +kernel) (pa_cons (pv 0) (pa_cons (pe_bltn (v := .ty "bool") (u := .type "bool") (by rfl) T.bool (by decide +kernel) rfl) pa_nil)))))))), ?_⟩
    with_reducible refine k_ret ?_
    refine k_val (v_andB (v_isi (M := noM) (T := "int") (ty := "int") (b := true) (val_var rfl) (rint _) (by decide +kernel)) (v_notB (v_isi (M := noM) (T := "bool") (ty := "int") (b := false) (val_var rfl) (rint _) (by decide +kernel)))) ?_
    exact k _ _ _ rfl (rbl _) (Same.refl _) hB
def sp__law_is_fraction (K : PySem.W.Frag) : Sp := spF K (α := Rat) (fun x => [(fr (x))]) (fun x => True) (fun x => .bl (true))
theorem has__law_is_fraction (T : Tx K mg) : Has P w K mg base CX0 "_law_is_fraction" s__law_is_fraction ["_law_v"] 2 (sp__law_is_fraction K) := by
  obtain ⟨f, fd, F, M⟩ := T._law_is_fraction
  obtain ⟨f__law_is_whole, fd__law_is_whole, F__law_is_whole, M__law_is_whole, B__law_is_whole, G__law_is_whole⟩ := has__law_is_whole (P := P) (w := w) (base := base) T
  obtain ⟨f__law_common, fd__law_common, F__law_common, M__law_common, B__law_common, G__law_common⟩ := has__law_common (P := P) (w := w) (base := base) T
  refine ⟨f, fd, F, M, F.binds (ps := ["_law_v"]) (fun _ _ _ _ _ _ us hl => match us, hl with | [_], _ => rfl), F.ok sc__law_is_fraction (fun vs H Q E h => ?_) (fun cdv A outer s H vs Q E hr h => ?_)⟩
  · obtain ⟨G, x, hB, r, hp, q⟩ := h; rw [r.len]; rfl
  · obtain ⟨G, x, hB, r, _, k⟩ := h
    replace k : ∀ d v H', d = (.bl (true) : D) → Rep K G.M H' d v → Same H H' → G.B H' → Q v H' := k
    obtain ⟨v0_0, _, rfl, r0_0, rt0⟩ := cons_of r
    replace r0_0 : Rep K G.M H ((fr (x))) v0_0 := r0_0
    obtain rfl := nil_of rt0
    refine ⟨_, (pss_cons (ps_if (PW.pt (pw_or (pt_not (pt_val (pe_callB call_isi (by rfl) T.isinstance (by decide +kernel) (pa_cons (pv 0) (pa_cons (pe_bltn (v := .ty "tuple") (u := .type "tuple") (by rfl) T.tuple (by decide +kernel) rfl) pa_nil))))) (pw_or1 (pt_cmpR op_ne (pe_callB call_len (by rfl) T.len (by decide +kernel) (pa_cons (pv 0) pa_nil)) pe_int (nomark _))))) (pss_one ps_never) pss_nil) (pss_cons (ps_if (PW.pt (pw_or (pt_not (pt_val (pe_call G__law_is_whole (hr.mono (by decide)) (by rfl) M__law_is_whole F__law_is_whole.kp B__law_is_whole .nil pass0 (pa_cons (pe_ix (ix_tupK (K := K)) (pv 0) pe_int (fun _ _ => rfl)) pa_nil)))) (pw_or1 (pt_not (pt_val (pe_call G__law_is_whole (hr.mono (by decide)) (by rfl) M__law_is_whole F__law_is_whole.kp B__law_is_whole .nil pass0 (pa_cons (pe_ix (ix_tupK (K := K)) (pv 0) pe_int (fun _ _ => rfl)) pa_nil))))))) (pss_one ps_never) pss_nil) (pss_one (ps_ret (pe_and (pe_cmpR op_gt (pe_ix (ix_tupK (K := K)) (pv 0) pe_int (fun _ _ => rfl)) pe_int (nomark _)) (pe_one (pe_cmpR op_eq (pe_call G__law_common (hr.mono (by decide)) (by rfl) M__law_common F__law_common.kp B__law_common .nil pass0 (pa_cons (pe_ix (ix_tupK (K := K)) (pv 0) pe_int (fun _ _ => rfl)) (pa_cons (pe_ix (ix_tupK (K := K)) (pv 0) pe_int (fun _ _ => rfl)) pa_nil))) pe_int (nomark _)))))))), ?_⟩
    with_reducible refine k_seq ?_
    with_reducible refine k_ifX ?_
    with_reducible refine k_or ?_
    with_reducible refine k_not ?_
    with_reducible refine k_B ?_
    refine k_val (v_isi (T := "tuple") (ty := "tuple") (b := true) (val_var rfl) (r0_0) (by decide +kernel)) ?_
    refine ⟨_, rfl, ?_⟩
    refine iteF ?_
    with_reducible refine k_T ?_
    refine k_val (v_neIf (v_lenR 2 (val_var rfl) (r0_0)) val_c) ?_
    refine ⟨_, rfl, ?_⟩
    refine iteF ?_
    with_reducible refine k_next ?_
    with_reducible refine k_seq ?_
    with_reducible refine k_ifX ?_
    with_reducible refine k_or ?_
    with_reducible refine k_not ?_
    with_reducible refine k_B ?_
    with_reducible refine k_call ?_
    refine k_arg (v_ixI (k := 0) (val_var rfl) (r0_0) val_c rfl) ?_
    with_reducible refine k_nil ?_
    refine k_spF (x).num hB (rcons (rint _) (rnil (K := K))) trivial (fun v1 H1 r1 s1 hB1 => ?_)
    obtain rfl := bl_of (b := true) r1
    refine ⟨_, rfl, ?_⟩
    refine iteF ?_
    with_reducible refine k_not ?_
    with_reducible refine k_B ?_
    with_reducible refine k_call ?_
    refine k_arg (v_ixI (k := 1) (val_var rfl) ((r0_0.up hB (Ex.of s1))) val_c rfl) ?_
    with_reducible refine k_nil ?_
    refine k_spF ((x).den : Int) hB1 (rcons (rint _) (rnil (K := K))) trivial (fun v2 H2 r2 s2 hB2 => ?_)
    obtain rfl := bl_of (b := true) r2
    refine ⟨_, rfl, ?_⟩
    refine iteF ?_
    with_reducible refine k_next ?_
    with_reducible refine k_ret ?_
    have q1 := ((r0_0.up hB (Ex.of s1)).up hB1 (Ex.of s2))
    with_reducible refine k_andV ?_
    refine k_val (v_opB (v_ixI (k := 1) (val_var rfl) (q1) val_c rfl) val_c) ?_
    refine ⟨_, rfl, ?_⟩
    rw [show (decide ((0 : Int) < ((x).den : Int))) = true from (decide_eq_true (den_pos (x)))]
    refine iteT ?_
    with_reducible refine k_opX ?_
    with_reducible refine k_call ?_
    refine k_arg (v_ixI (k := 0) (val_var rfl) (q1) val_c rfl) ?_
    refine k_arg (v_ixI (k := 1) (val_var rfl) (q1) val_c rfl) ?_
    with_reducible refine k_nil ?_
    refine k_spF ((x).num, ((x).den : Int)) hB2 (rcons (rint _) (rcons (rint _) (rnil (K := K)))) trivial (fun v3 H3 r3 s3 hB3 => ?_)
    obtain rfl := int_of (i := ((Nat.gcd ((x).num).natAbs (((x).den : Int)).natAbs : Nat) : Int)) r3
    refine k_val val_c ?_
    refine f_eqI ?_
    exact k _ _ _ (congrArg D.bl (Bool.and_eq_true_iff.mp (is_fr x)).2) (rbl _) ((s1.trans s2).trans s3) hB3
theorem right_ok {p q : Int} (h : q ≠ 0) : decide ((Rat.divInt p q).num * q = p * ((Rat.divInt p q).den : Int)) = true := by
  have e := (Rat.divInt_eq_divInt_iff h (den_ne (Rat.divInt p q))).mp (Rat.num_divInt_den (Rat.divInt p q)).symm
  exact decide_eq_true (by rw [e])
def sp__law_right (K : PySem.W.Frag) : Sp := spF K (α := Int × Int × Nat) (fun x => [(fr ((Rat.divInt x.1 x.2.1))), .int (x.1), .int (x.2.1)]) (fun x => SzR x.2.2 (Rat.divInt x.1 x.2.1) ∧ Sz x.2.2 x.1 ∧ Sz x.2.2 x.2.1 ∧ x.2.1 ≠ 0 ∧ x.2.2 + x.2.2 ≤ 8000) (fun x => .bl (true))
theorem has__law_right (T : Tx K mg) : Has P w K mg base CX0 "_law_right" s__law_right ["_law_found", "_law_p", "_law_q"] 3 (sp__law_right K) := by
  obtain ⟨f, fd, F, M⟩ := T._law_right
  obtain ⟨f__law_is_fraction, fd__law_is_fraction, F__law_is_fraction, M__law_is_fraction, B__law_is_fraction, G__law_is_fraction⟩ := has__law_is_fraction (P := P) (w := w) (base := base) T
  refine ⟨f, fd, F, M, F.binds (ps := ["_law_found", "_law_p", "_law_q"]) (fun _ _ _ _ _ _ us hl => match us, hl with | [_, _, _], _ => rfl), F.ok sc__law_right (fun vs H Q E h => ?_) (fun cdv A outer s H vs Q E hr h => ?_)⟩
  · obtain ⟨G, x, hB, r, hp, q⟩ := h; rw [r.len]; rfl
  · obtain ⟨G, ⟨p, q, a⟩, hB, r, ⟨hx, hp, hq, h0, hn⟩, k⟩ := h
    replace hx : SzR a (Rat.divInt p q) := hx
    replace hp : Sz a p := hp
    replace hq : Sz a q := hq
    replace h0 : q ≠ 0 := h0
    replace hn : a + a ≤ 8000 := hn
    replace k : ∀ d v H', d = (.bl (true) : D) → Rep K G.M H' d v → Same H H' → G.B H' → Q v H' := k
    obtain ⟨v0_0, _, rfl, r0_0, rt0⟩ := cons_of r
    replace r0_0 : Rep K G.M H ((fr ((Rat.divInt p q)))) v0_0 := r0_0
    obtain ⟨v0_1, _, rfl, r0_1, rt1⟩ := cons_of rt0
    replace r0_1 : Rep K G.M H (.int (p)) v0_1 := r0_1
    obtain rfl := int_of r0_1
    obtain ⟨v0_2, _, rfl, r0_2, rt2⟩ := cons_of rt1
    replace r0_2 : Rep K G.M H (.int (q)) v0_2 := r0_2
    obtain rfl := int_of r0_2
    obtain rfl := nil_of rt2
    refine ⟨_, (pss_one (ps_ret (pe_and (pe_call G__law_is_fraction (hr.mono (by decide)) (by rfl) M__law_is_fraction F__law_is_fraction.kp B__law_is_fraction .nil pass0 (pa_cons (pv 0) pa_nil)) (pe_one (pe_cmpR op_eq (pe_op op_mulW (pe_ix (ix_tupK (K := K)) (pv 0) pe_int (fun _ _ => rfl)) (pv 2)) (pe_op op_mulW (pv 1) (pe_ix (ix_tupK (K := K)) (pv 0) pe_int (fun _ _ => rfl))) (nomark _)))))), ?_⟩
    with_reducible refine k_ret ?_
    with_reducible refine k_andV ?_
    with_reducible refine k_call ?_
    refine k_arg (val_var rfl) ?_
    with_reducible refine k_nil ?_
    refine k_spF (Rat.divInt p q) hB (rcons (r0_0) (rnil (K := K))) trivial (fun v1 H1 r1 s1 hB1 => ?_)
    obtain rfl := bl_of (b := true) r1
    refine ⟨_, rfl, ?_⟩
    refine iteT ?_
    refine k_val (v_eqI (v_op (v_ixI (k := 0) (val_var rfl) ((r0_0.up hB (Ex.of s1))) val_c rfl) (val_var rfl) (cmul (hx).1 hq (by omega))) (v_op (val_var rfl) (v_ixI (k := 1) (val_var rfl) ((r0_0.up hB (Ex.of s1))) val_c rfl) (cmul hp (hx).2 (by omega)))) ?_
    exact k _ _ _ (congrArg D.bl (right_ok h0)) (rbl _) s1 hB1
def sp__law_pair (K : PySem.W.Frag) : Sp := spF K (α := D × D) (fun x => [.tup [x.1, x.2]]) (fun x => True) (fun x => .bl (true))
theorem has__law_pair (T : Tx K mg) : Has P w K mg base CX0 "_law_pair" s__law_pair ["_law_v"] 1 (sp__law_pair K) := by
  obtain ⟨f, fd, F, M⟩ := T._law_pair
  refine ⟨f, fd, F, M, F.binds (ps := ["_law_v"]) (fun _ _ _ _ _ _ us hl => match us, hl with | [_], _ => rfl), F.ok sc__law_pair (fun vs H Q E h => ?_) (fun cdv A outer s H vs Q E hr h => ?_)⟩
  · obtain ⟨G, x, hB, r, hp, q⟩ := h; rw [r.len]; rfl
  · obtain ⟨G, ⟨x, y⟩, hB, r, _, k⟩ := h
    replace k : ∀ d v H', d = (.bl (true) : D) → Rep K G.M H' d v → Same H H' → G.B H' → Q v H' := k
    obtain ⟨v0_0, _, rfl, r0_0, rt0⟩ := cons_of r
    replace r0_0 : Rep K G.M H (.tup [x, y]) v0_0 := r0_0
    obtain rfl := nil_of rt0
    refine ⟨_, (pss_one (ps_ret (pe_and (pe_callB call_isi (by rfl) T.isinstance (by decide +kernel) (pa_cons (pv 0) (pa_cons (pe_bltn (v := .ty "tuple") (u := .type "tuple") (by rfl) T.tuple (by decide +kernel) rfl) pa_nil))) (pe_one (pe_cmpR op_eq (pe_callB call_len (by rfl) T.len (by decide +kernel) (pa_cons (pv 0) pa_nil)) pe_int (nomark _)))))), ?_⟩
    with_reducible refine k_ret ?_
    refine k_val (v_andB (v_isi (T := "tuple") (ty := "tuple") (b := true) (val_var rfl) (r0_0) (by decide +kernel)) (v_eqIt (v_lenR 2 (val_var rfl) (r0_0)) val_c)) ?_
    exact k _ _ _ rfl (rbl _) (Same.refl _) hB
def sp__law_vector (K : PySem.W.Frag) : Sp := spB K (α := Unit) (fun x => []) (fun x => True) (fun x d => ∃ (y0 : Rat) (y1 : Rat), d = (.tup [(fr (y0)), (fr (y1))] : D) ∧ SzR 24 y0 ∧ SzR 24 y1)
theorem has__law_vector (T : Tx K mg) : Has P w K mg base CX0 "_law_vector" s__law_vector ["_law_bag_here"] 5 (sp__law_vector K) := by
  obtain ⟨f, fd, F, M⟩ := T._law_vector
  obtain ⟨f__law_fraction, fd__law_fraction, F__law_fraction, M__law_fraction, B__law_fraction, G__law_fraction⟩ := has__law_fraction (P := P) (w := w) (base := base) T
  obtain ⟨f__law_pick, fd__law_pick, F__law_pick, M__law_pick, B__law_pick, G__law_pick⟩ := has__law_pick (P := P) (w := w) (base := base) T
  refine ⟨f, fd, F, M, F.binds (ps := ["_law_bag_here"]) (fun _ _ _ _ _ _ us hl => match us, hl with | [_], _ => rfl), F.ok sc__law_vector (fun vs H Q E h => ?_) (fun cdv A outer s H vs Q E hr h => ?_)⟩
  · obtain ⟨b, c, ns, G, x, vs', rfl, hg, hB, r, hp, q⟩ := h; rw [List.length_cons, r.len]; rfl
  · obtain ⟨b, c, ns, G, _, vs', rfl, hg, hB, r, _, k⟩ := h
    replace k : ∀ d v H', (∃ (y0 : Rat) (y1 : Rat), d = (.tup [(fr (y0)), (fr (y1))] : D) ∧ SzR 24 y0 ∧ SzR 24 y1) → Rep K G.M H' d v → Ex (onB b) H H' → G.B H' → Q v H' := k
    obtain rfl := nil_of r
    refine ⟨_, (pss_cons (ps_par (i := 1) (j := 2) (by rfl) sc__law_vector.nd rfl rfl (by decide) rfl rfl (pa_cons (pe_call G__law_fraction (hr.mono (by decide)) (by rfl) M__law_fraction F__law_fraction.kp B__law_fraction .nil pass0 (pa_cons (pv 0) pa_nil)) (pa_cons (pe_call G__law_fraction (hr.mono (by decide)) (by rfl) M__law_fraction F__law_fraction.kp B__law_fraction .nil pass0 (pa_cons (pv 0) pa_nil)) pa_nil)) (by rfl)) (pss_one (ps_ret (pe_call G__law_pick (hr.mono (by decide)) (by rfl) M__law_pick F__law_pick.kp B__law_pick .nil pass0 (pa_cons (pv 0) (pa_cons (pe_lst (pa_cons (pe_tup (pa_cons (pv 1) (pa_cons (pv 2) pa_nil))) (pa_cons (pe_tup (pa_cons (pv 1) (pa_cons (pv 2) pa_nil))) (pa_cons (pe_tup (pa_cons (pv 1) (pa_cons (pv 2) pa_nil))) (pa_cons (pe_tup (pa_cons (pv 1) (pa_cons (pe_tup (pa_cons pe_int (pa_cons pe_int pa_nil))) pa_nil))) (pa_cons (pe_tup (pa_cons (pe_tup (pa_cons pe_int (pa_cons pe_int pa_nil))) (pa_cons (pv 2) pa_nil))) (pa_cons (pe_tup (pa_cons (pe_tup (pa_cons pe_int (pa_cons pe_int pa_nil))) (pa_cons (pe_tup (pa_cons pe_int (pa_cons pe_int pa_nil))) pa_nil))) (pa_cons (pe_tup (pa_cons (pv 1) (pa_cons (pv 1) pa_nil))) (pa_cons (pe_tup (pa_cons (pv 1) (pa_cons (pe_tup (pa_cons (pe_op op_sub pe_int (pe_ix (ix_tupK (K := K)) (pv 1) pe_int (fun _ _ => rfl))) (pa_cons (pe_ix (ix_tupK (K := K)) (pv 1) pe_int (fun _ _ => rfl)) pa_nil))) pa_nil))) pa_nil))))))))) pa_nil)))))), ?_⟩
    with_reducible refine k_seq ?_
    with_reducible refine k_par ?_
    with_reducible refine k_argX ?_
    with_reducible refine k_call ?_
    refine k_arg (val_var rfl) ?_
    with_reducible refine k_nil ?_
    refine k_spB () hg hB (rnil (K := K)) trivial (fun d1 v1 H1 p1 r1 e1 hB1 => ?_)
    obtain ⟨y0_1, rfl, z0_1⟩ := p1
    with_reducible refine k_argX ?_
    with_reducible refine k_call ?_
    refine k_arg (val_var rfl) ?_
    with_reducible refine k_nil ?_
    refine k_spB () hg hB1 (rnil (K := K)) trivial (fun d2 v2 H2 p2 r2 e2 hB2 => ?_)
    obtain ⟨y0_2, rfl, z0_2⟩ := p2
    with_reducible refine k_nil ?_
    refine ⟨_, _, rfl, ?_⟩
    with_reducible refine k_ret ?_
    with_reducible refine k_call ?_
    refine k_arg (val_var rfl) ?_
    with_reducible refine k_argX ?_
    with_reducible refine k_lst ?_
    with_reducible refine k_argX ?_
    with_reducible refine k_tup ?_
    refine k_arg (val_var rfl) ?_
    refine k_arg (val_var rfl) ?_
    with_reducible refine k_nil ?_
    refine k_tup_end hB2 (rcons ((r1.up hB1 (hg.up e2))) (rcons (r2) (rnil (K := K)))) (fun v3 H3 r3 s3 hB3 => ?_)
    with_reducible refine k_argX ?_
    with_reducible refine k_tup ?_
    refine k_arg (val_var rfl) ?_
    refine k_arg (val_var rfl) ?_
    with_reducible refine k_nil ?_
    have q1 := ((r1.up hB1 (hg.up e2)).up hB2 (Ex.of s3))
    refine k_tup_end hB3 (rcons (q1) (rcons ((r2.up hB2 (Ex.of s3))) (rnil (K := K)))) (fun v4 H4 r4 s4 hB4 => ?_)
    with_reducible refine k_argX ?_
    with_reducible refine k_tup ?_
    refine k_arg (val_var rfl) ?_
    refine k_arg (val_var rfl) ?_
    with_reducible refine k_nil ?_
    have q2 := ((r2.up hB2 (Ex.of s3)).up hB3 (Ex.of s4))
    refine k_tup_end hB4 (rcons ((q1.up hB3 (Ex.of s4))) (rcons (q2) (rnil (K := K)))) (fun v5 H5 r5 s5 hB5 => ?_)
    with_reducible refine k_argX ?_
    with_reducible refine k_tup ?_
    refine k_arg (val_var rfl) ?_
    with_reducible refine k_argX ?_
    with_reducible refine k_tup ?_
    refine k_arg val_c ?_
    refine k_arg val_c ?_
    with_reducible refine k_nil ?_
    refine k_tup_end hB5 (rcons (rint _) (rcons (rint _) (rnil (K := K)))) (fun v6 H6 r6 s6 hB6 => ?_)
    replace r6 : Rep K G.M H6 (fr (0 : Rat)) v6 := r6
    with_reducible refine k_nil ?_
    have q3 := (((q1.up hB3 (Ex.of s4)).up hB4 (Ex.of s5)).up hB5 (Ex.of s6))
    refine k_tup_end hB6 (rcons (q3) (rcons (r6) (rnil (K := K)))) (fun v7 H7 r7 s7 hB7 => ?_)
    with_reducible refine k_argX ?_
    with_reducible refine k_tup ?_
    with_reducible refine k_argX ?_
    with_reducible refine k_tup ?_
    refine k_arg val_c ?_
    refine k_arg val_c ?_
    with_reducible refine k_nil ?_
    refine k_tup_end hB7 (rcons (rint _) (rcons (rint _) (rnil (K := K)))) (fun v8 H8 r8 s8 hB8 => ?_)
    replace r8 : Rep K G.M H8 (fr (0 : Rat)) v8 := r8
    refine k_arg (val_var rfl) ?_
    with_reducible refine k_nil ?_
    have q4 := ((((q2.up hB4 (Ex.of s5)).up hB5 (Ex.of s6)).up hB6 (Ex.of s7)).up hB7 (Ex.of s8))
    refine k_tup_end hB8 (rcons (r8) (rcons (q4) (rnil (K := K)))) (fun v9 H9 r9 s9 hB9 => ?_)
    with_reducible refine k_argX ?_
    with_reducible refine k_tup ?_
    with_reducible refine k_argX ?_
    with_reducible refine k_tup ?_
    refine k_arg val_c ?_
    refine k_arg val_c ?_
    with_reducible refine k_nil ?_
    refine k_tup_end hB9 (rcons (rint _) (rcons (rint _) (rnil (K := K)))) (fun v10 H10 r10 s10 hB10 => ?_)
    replace r10 : Rep K G.M H10 (fr (0 : Rat)) v10 := r10
    with_reducible refine k_argX ?_
    with_reducible refine k_tup ?_
    refine k_arg val_c ?_
    refine k_arg val_c ?_
    with_reducible refine k_nil ?_
    refine k_tup_end hB10 (rcons (rint _) (rcons (rint _) (rnil (K := K)))) (fun v11 H11 r11 s11 hB11 => ?_)
    replace r11 : Rep K G.M H11 (fr (0 : Rat)) v11 := r11
    with_reducible refine k_nil ?_
    refine k_tup_end hB11 (rcons ((r10.up hB10 (Ex.of s11))) (rcons (r11) (rnil (K := K)))) (fun v12 H12 r12 s12 hB12 => ?_)
    with_reducible refine k_argX ?_
    with_reducible refine k_tup ?_
    refine k_arg (val_var rfl) ?_
    refine k_arg (val_var rfl) ?_
    with_reducible refine k_nil ?_
    have q5 := ((((((q3.up hB6 (Ex.of s7)).up hB7 (Ex.of s8)).up hB8 (Ex.of s9)).up hB9 (Ex.of s10)).up hB10 (Ex.of s11)).up hB11 (Ex.of s12))
    refine k_tup_end hB12 (rcons (q5) (rcons (q5) (rnil (K := K)))) (fun v13 H13 r13 s13 hB13 => ?_)
    with_reducible refine k_argX ?_
    with_reducible refine k_tup ?_
    refine k_arg (val_var rfl) ?_
    with_reducible refine k_argX ?_
    with_reducible refine k_tup ?_
    refine k_arg (v_op0 val_c (v_ixI (k := 0) (val_var rfl) ((q5.up hB12 (Ex.of s13))) val_c rfl)) ?_
    refine k_arg (v_ixI (k := 1) (val_var rfl) ((q5.up hB12 (Ex.of s13))) val_c rfl) ?_
    with_reducible refine k_nil ?_
    refine k_tup_end hB13 (rcons (rint _) (rcons (rint _) (rnil (K := K)))) (fun v14 H14 r14 s14 hB14 => ?_)
    replace r14 : Rep K G.M H14 (fr (-(y0_1))) v14 := by rw [fr_neg]; exact r14
    with_reducible refine k_nil ?_
    have q6 := ((q5.up hB12 (Ex.of s13)).up hB13 (Ex.of s14))
    refine k_tup_end hB14 (rcons (q6) (rcons (r14) (rnil (K := K)))) (fun v15 H15 r15 s15 hB15 => ?_)
    with_reducible refine k_nil ?_
    have q7 := ((r13.up hB13 (Ex.of s14)).up hB14 (Ex.of s15))
    have q8 := (((r12.up hB12 (Ex.of s13)).up hB13 (Ex.of s14)).up hB14 (Ex.of s15))
    have q9 := ((((((r9.up hB9 (Ex.of s10)).up hB10 (Ex.of s11)).up hB11 (Ex.of s12)).up hB12 (Ex.of s13)).up hB13 (Ex.of s14)).up hB14 (Ex.of s15))
    have q10 := ((((((((r7.up hB7 (Ex.of s8)).up hB8 (Ex.of s9)).up hB9 (Ex.of s10)).up hB10 (Ex.of s11)).up hB11 (Ex.of s12)).up hB12 (Ex.of s13)).up hB13 (Ex.of s14)).up hB14 (Ex.of s15))
    have q11 := ((((((((((r5.up hB5 (Ex.of s6)).up hB6 (Ex.of s7)).up hB7 (Ex.of s8)).up hB8 (Ex.of s9)).up hB9 (Ex.of s10)).up hB10 (Ex.of s11)).up hB11 (Ex.of s12)).up hB12 (Ex.of s13)).up hB13 (Ex.of s14)).up hB14 (Ex.of s15))
    have q12 := (((((((((((r4.up hB4 (Ex.of s5)).up hB5 (Ex.of s6)).up hB6 (Ex.of s7)).up hB7 (Ex.of s8)).up hB8 (Ex.of s9)).up hB9 (Ex.of s10)).up hB10 (Ex.of s11)).up hB11 (Ex.of s12)).up hB12 (Ex.of s13)).up hB13 (Ex.of s14)).up hB14 (Ex.of s15))
    have q13 := ((((((((((((r3.up hB3 (Ex.of s4)).up hB4 (Ex.of s5)).up hB5 (Ex.of s6)).up hB6 (Ex.of s7)).up hB7 (Ex.of s8)).up hB8 (Ex.of s9)).up hB9 (Ex.of s10)).up hB10 (Ex.of s11)).up hB11 (Ex.of s12)).up hB12 (Ex.of s13)).up hB13 (Ex.of s14)).up hB14 (Ex.of s15))
    refine k_lst_end hB15 (rcons (q13) (rcons (q12) (rcons (q11) (rcons (q10) (rcons (q9) (rcons (q8) (rcons (q7) (rcons (r15) (rnil (K := K)))))))))) (fun v16 H16 r16 s16 hB16 => ?_)
    with_reducible refine k_nil ?_
    refine k_spB [.tup [(fr (y0_1)), (fr (y0_2))], .tup [(fr (y0_1)), (fr (y0_2))], .tup [(fr (y0_1)), (fr (y0_2))], .tup [(fr (y0_1)), (fr ((0 : Rat)))], .tup [(fr ((0 : Rat))), (fr (y0_2))], .tup [(fr ((0 : Rat))), (fr ((0 : Rat)))], .tup [(fr (y0_1)), (fr (y0_1))], .tup [(fr (y0_1)), (fr ((-(y0_1))))]] hg hB16 (rcons (r16) (rnil (K := K))) ⟨Nat.succ_pos _, Nat.le_of_ble_eq_true rfl⟩ (fun d17 v17 H17 m17 r17 e17 hB17 => ?_)
    obtain ⟨x17_0, x17_1, rfl, z17_0, z17_1⟩ : ∃ (x17_0 : Rat) (x17_1 : Rat), d17 = (.tup [(fr (x17_0)), (fr (x17_1))] : D) ∧ (SzR 24 x17_0) ∧ (SzR 24 x17_1) := by
      simp only [List.mem_cons, List.not_mem_nil, or_false] at m17
      rcases m17 with rfl | rfl | rfl | rfl | rfl | rfl | rfl | rfl
      · exact ⟨y0_1, y0_2, rfl, ((z0_1).mono (by omega)), ((z0_2).mono (by omega))⟩
      · exact ⟨y0_1, y0_2, rfl, ((z0_1).mono (by omega)), ((z0_2).mono (by omega))⟩
      · exact ⟨y0_1, y0_2, rfl, ((z0_1).mono (by omega)), ((z0_2).mono (by omega))⟩
      · exact ⟨y0_1, (0 : Rat), rfl, ((z0_1).mono (by omega)), (((szr_lit 1 (0 : Rat))).mono (by omega))⟩
      · exact ⟨(0 : Rat), y0_2, rfl, (((szr_lit 1 (0 : Rat))).mono (by omega)), ((z0_2).mono (by omega))⟩
      · exact ⟨(0 : Rat), (0 : Rat), rfl, (((szr_lit 1 (0 : Rat))).mono (by omega)), (((szr_lit 1 (0 : Rat))).mono (by omega))⟩
      · exact ⟨y0_1, y0_1, rfl, ((z0_1).mono (by omega)), ((z0_1).mono (by omega))⟩
      · exact ⟨y0_1, (-(y0_1)), rfl, ((z0_1).mono (by omega)), (((szr_neg (show SzR 24 (y0_1) from z0_1))).mono (by omega))⟩
    exact k _ _ _ ⟨x17_0, x17_1, rfl, (z17_0.mono (by omega)), (z17_1.mono (by omega))⟩ (r17) (e1.trans (e2.trans ((Ex.of s3).trans ((Ex.of s4).trans ((Ex.of s5).trans ((Ex.of s6).trans ((Ex.of s7).trans ((Ex.of s8).trans ((Ex.of s9).trans ((Ex.of s10).trans ((Ex.of s11).trans ((Ex.of s12).trans ((Ex.of s13).trans ((Ex.of s14).trans ((Ex.of s15).trans ((Ex.of s16).trans e17)))))))))))))))) hB17
end
end Px

namespace Px
open PySem PySem.Spec PyProof.Rows L2
/-! ### what a direction is -/
def Prim (d e : Int) : Prop := Nat.gcd d.natAbs e.natAbs = 1 ∧ (0 < d ∨ (d = 0 ∧ 0 < e))
theorem sg_abs (p q : Int) : (sg p q).natAbs = Nat.gcd p.natAbs q.natAbs := by
  unfold sg
  split
  · rw [Int.natAbs_neg, Int.natAbs_natCast]
  · rw [Int.natAbs_natCast]
theorem sg_ne {p q : Int} (h : (p, q) ≠ (0, 0)) : sg p q ≠ 0 := fun z => by
  have e := sg_abs p q
  rw [z] at e
  exact gcd0 h (by rw [← e]; rfl)
theorem sg_dvd1 (p q : Int) : sg p q ∣ p := Int.natAbs_dvd_natAbs.mp (by rw [sg_abs]; exact Nat.gcd_dvd_left _ _)
theorem sg_dvd2 (p q : Int) : sg p q ∣ q := Int.natAbs_dvd_natAbs.mp (by rw [sg_abs]; exact Nat.gcd_dvd_right _ _)
def d0 (x y : Rat) : Int := (ax x y).fdiv (sg (ax x y) (ay x y))
def d1 (x y : Rat) : Int := (ay x y).fdiv (sg (ax x y) (ay x y))
theorem fd_mul {a b : Int} (h : b ∣ a) : b * a.fdiv b = a := by
  rw [Int.fdiv_eq_ediv_of_dvd h]
  exact Int.mul_ediv_cancel' h
theorem prim_of {p q : Int} (h : (p, q) ≠ (0, 0)) : Prim (p.fdiv (sg p q)) (q.fdiv (sg p q)) := by
  have e1 := fd_mul (sg_dvd1 p q)
  have e2 := fd_mul (sg_dvd2 p q)
  have n0 := sg_ne h
  generalize p.fdiv (sg p q) = d at *
  generalize q.fdiv (sg p q) = e at *
  have g0 : 0 < Nat.gcd p.natAbs q.natAbs := by
    have := gcd0 h
    omega
  constructor
  · have a1 : Nat.gcd p.natAbs q.natAbs * d.natAbs = p.natAbs := by rw [← sg_abs, ← Int.natAbs_mul, e1]
    have a2 : Nat.gcd p.natAbs q.natAbs * e.natAbs = q.natAbs := by rw [← sg_abs, ← Int.natAbs_mul, e2]
    have k := Nat.gcd_mul_left (Nat.gcd p.natAbs q.natAbs) d.natAbs e.natAbs
    rw [a1, a2] at k
    exact Nat.eq_of_mul_eq_mul_left g0 (by omega)
  · have hs : sg p q < 0 ∧ (p < 0 ∨ (p = 0 ∧ q < 0)) ∨ 0 < sg p q ∧ ¬ (p < 0 ∨ (p = 0 ∧ q < 0)) := by
      unfold sg
      by_cases c : p < 0 ∨ (p = 0 ∧ q < 0)
      · left
        rw [if_pos (by simpa using c)]
        exact ⟨by omega, c⟩
      · right
        rw [if_neg (by simpa using c)]
        exact ⟨by omega, c⟩
    rcases hs with ⟨s0, c⟩ | ⟨s0, c⟩
    · rcases c with c | ⟨c, c2⟩
      · left
        rcases Int.lt_trichotomy d 0 with z | z | z
        · have := Int.mul_pos_of_neg_of_neg s0 z
          omega
        · rw [z, Int.mul_zero] at e1
          omega
        · exact z
      · right
        have dz : d = 0 := by
          rcases Int.mul_eq_zero.mp (e1.trans c) with z | z
          · exact absurd z n0
          · exact z
        refine ⟨dz, ?_⟩
        rcases Int.lt_trichotomy e 0 with z | z | z
        · have := Int.mul_pos_of_neg_of_neg s0 z
          omega
        · rw [z, Int.mul_zero] at e2
          omega
        · exact z
    · rcases Int.lt_trichotomy d 0 with z | z | z
      · have := Int.mul_neg_of_pos_of_neg s0 z
        omega
      · right
        refine ⟨z, ?_⟩
        rw [z, Int.mul_zero] at e1
        have q0 : q ≠ 0 := fun z2 => h (by rw [← e1, z2])
        rcases Int.lt_trichotomy e 0 with y | y | y
        · have := Int.mul_neg_of_pos_of_neg s0 y
          omega
        · rw [y, Int.mul_zero] at e2
          omega
        · exact y
      · left
        exact z
theorem prim_uniq {d e d' e' : Int} (h : Prim d e) (h' : Prim d' e') (k : d * e' = e * d') : d = d' ∧ e = e' := by
  have a1 : d.natAbs ∣ d'.natAbs := by
    have : d.natAbs ∣ e.natAbs * d'.natAbs := by rw [← Int.natAbs_mul, ← k, Int.natAbs_mul]; exact Nat.dvd_mul_right _ _
    exact Nat.Coprime.dvd_of_dvd_mul_left h.1 this
  have a2 : d'.natAbs ∣ d.natAbs := by
    have : d'.natAbs ∣ e'.natAbs * d.natAbs := by
      rw [Nat.mul_comm, ← Int.natAbs_mul, k, Int.natAbs_mul]; exact Nat.dvd_mul_left _ _
    exact Nat.Coprime.dvd_of_dvd_mul_left h'.1 this
  have a3 := Nat.dvd_antisymm a1 a2
  have b1 : e.natAbs ∣ e'.natAbs := by
    have : e.natAbs ∣ d.natAbs * e'.natAbs := by rw [← Int.natAbs_mul, k, Int.natAbs_mul]; exact Nat.dvd_mul_right _ _
    exact Nat.Coprime.dvd_of_dvd_mul_left ((Nat.gcd_comm e.natAbs d.natAbs).trans h.1) this
  have b2 : e'.natAbs ∣ e.natAbs := by
    have : e'.natAbs ∣ d'.natAbs * e.natAbs := by
      rw [Nat.mul_comm, ← Int.natAbs_mul, ← k, Int.natAbs_mul]; exact Nat.dvd_mul_left _ _
    exact Nat.Coprime.dvd_of_dvd_mul_left ((Nat.gcd_comm e'.natAbs d'.natAbs).trans h'.1) this
  have b3 := Nat.dvd_antisymm b1 b2
  have s1 := h.2
  have s2 := h'.2
  have dd : d = d' := by omega
  refine ⟨dd, ?_⟩
  subst dd
  rcases s1 with s1 | ⟨s1, s3⟩
  · rw [Int.mul_comm e d] at k
    exact (Int.eq_of_mul_eq_mul_left (by omega) k).symm
  · omega
theorem num_rat (x : Rat) : ((x.num : Int) : Rat) = x * ((x.den : Int) : Rat) := by
  have e := Rat.num_divInt_den x
  rw [Rat.divInt_eq_div] at e
  have h : ((x.den : Int) : Rat) ≠ 0 := fun z => den_ne x (Rat.intCast_inj.mp z)
  generalize (x.num : Rat) = n at *
  generalize ((x.den : Int) : Rat) = d at *
  subst e
  grind
theorem den_rat (x : Rat) : ((x.den : Int) : Rat) ≠ 0 := fun z => den_ne x (Rat.intCast_inj.mp z)
/-- parallel, by whole numbers and by fractions -/
theorem par_iff {d e : Int} {x y : Rat} : d * ay x y = e * ax x y ↔ (d : Rat) * y = (e : Rat) * x := by
  rw [← Rat.intCast_inj, Rat.intCast_mul, Rat.intCast_mul]
  unfold ax ay
  rw [Rat.intCast_mul, Rat.intCast_mul, num_rat x, num_rat y]
  have h1 := den_rat x
  have h2 := den_rat y
  generalize ((x.den : Int) : Rat) = u at *
  generalize ((y.den : Int) : Rat) = v at *
  constructor
  · intro h
    have h3 : (u * v) * ((d : Rat) * y) = (u * v) * ((e : Rat) * x) := by grind
    have h4 : u * v ≠ 0 := by grind
    grind
  · intro h
    grind
theorem nz_iff {x y : Rat} : (ax x y, ay x y) ≠ (0, 0) ↔ ¬ (x = 0 ∧ y = 0) := by
  constructor
  · rintro h ⟨rfl, rfl⟩
    exact h rfl
  · intro h z
    have z1 : ax x y = 0 := congrArg Prod.fst z
    have z2 : ay x y = 0 := congrArg Prod.snd z
    refine h ⟨?_, ?_⟩
    · rcases Int.mul_eq_zero.mp z1 with a | a
      · exact Rat.num_eq_zero.mp a
      · exact absurd a (den_ne y)
    · rcases Int.mul_eq_zero.mp z2 with a | a
      · exact Rat.num_eq_zero.mp a
      · exact absurd a (den_ne x)
theorem dir_par {x y : Rat} : (d0 x y : Rat) * y = (d1 x y : Rat) * x := par_iff.mp (by
  have e1 := fd_mul (sg_dvd1 (ax x y) (ay x y))
  have e2 := fd_mul (sg_dvd2 (ax x y) (ay x y))
  unfold d0 d1
  generalize hs : sg (ax x y) (ay x y) = s at *
  generalize (ax x y).fdiv s = d at *
  generalize (ay x y).fdiv s = e at *
  rw [← e1, ← e2, Int.mul_left_comm d, Int.mul_left_comm e, Int.mul_comm d e])
theorem dir_prim {x y : Rat} (h : ¬ (x = 0 ∧ y = 0)) : Prim (d0 x y) (d1 x y) := prim_of (nz_iff.mpr h)
theorem dir_uniq {x y : Rat} {d e : Int} (h : ¬ (x = 0 ∧ y = 0)) (p : Prim d e) (k : (d : Rat) * y = (e : Rat) * x) : d0 x y = d ∧ d1 x y = e := by
  refine prim_uniq (dir_prim h) p ?_
  have a := @dir_par x y
  have b := k
  rw [← Rat.intCast_inj, Rat.intCast_mul, Rat.intCast_mul]
  generalize (d0 x y : Rat) = s at *
  generalize (d1 x y : Rat) = t at *
  generalize (d : Rat) = u at *
  generalize (e : Rat) = v at *
  by_cases hx : x = 0
  · have hy : y ≠ 0 := fun z => h ⟨hx, z⟩
    grind
  · grind
theorem fd_le {a b : Int} (h : b ∣ a) (h0 : b ≠ 0) : (a.fdiv b).natAbs ≤ a.natAbs := by
  have e := fd_mul h
  conv => rhs; rw [← e, Int.natAbs_mul]
  exact Nat.le_mul_of_pos_left _ (by omega)
theorem sz_dir {n : Nat} {x y : Rat} (hx : SzR n x) (hy : SzR n y) (h : ¬ (x = 0 ∧ y = 0)) : Sz (n + n) (d0 x y) ∧ Sz (n + n) (d1 x y) := by
  have s0 := sg_ne (nz_iff.mpr h)
  have za : Sz (n + n) (ax x y) := hx.1.mul hy.2
  have zb : Sz (n + n) (ay x y) := hy.1.mul hx.2
  exact ⟨Nat.lt_of_le_of_lt (fd_le (sg_dvd1 _ _) s0) za, Nat.lt_of_le_of_lt (fd_le (sg_dvd2 _ _) s0) zb⟩
theorem par_test {d e : Int} {x y : Rat} (h : (d : Rat) * y = (e : Rat) * x) : decide (((d * y.num) * (x.den : Int)) = ((e * x.num) * (y.den : Int))) = true := decide_eq_true (by
  have k := par_iff.mpr h
  unfold ax ay at k
  rw [Int.mul_assoc, Int.mul_assoc]
  exact k)
theorem prim_test {d e : Int} (h : Prim d e) : (!decide (((Nat.gcd d.natAbs e.natAbs : Nat) : Int) = (1 : Int))) = false := by
  rw [h.1]; rfl


end Px

namespace Px
open PySem PySem.Spec PyProof.Rows L2
section
variable {P : Program} {w : World} {K : PySem.W.Frag} {mg : Str → Option Value} {base : Heap}
def sp__law_is_direction (K : PySem.W.Frag) : Sp := spF K (α := Rat × Rat × Int × Int × Nat) (fun x => [.tup [.int (x.2.2.1), .int (x.2.2.2.1)], .tup [(fr (x.1)), (fr (x.2.1))]]) (fun x => SzR x.2.2.2.2 x.1 ∧ SzR x.2.2.2.2 x.2.1 ∧ Sz x.2.2.2.2 x.2.2.1 ∧ Sz x.2.2.2.2 x.2.2.2.1 ∧ Prim x.2.2.1 x.2.2.2.1 ∧ (x.2.2.1 : Rat) * x.2.1 = (x.2.2.2.1 : Rat) * x.1 ∧ x.2.2.2.2 + x.2.2.2.2 + x.2.2.2.2 ≤ 8000) (fun x => .bl (true))
theorem has__law_is_direction (T : Tx K mg) : Has P w K mg base CX0 "_law_is_direction" s__law_is_direction ["_law_d", "_law_v"] 3 (sp__law_is_direction K) := by
  obtain ⟨f, fd, F, M⟩ := T._law_is_direction
  obtain ⟨f__law_pair, fd__law_pair, F__law_pair, M__law_pair, B__law_pair, G__law_pair⟩ := has__law_pair (P := P) (w := w) (base := base) T
  obtain ⟨f__law_is_whole, fd__law_is_whole, F__law_is_whole, M__law_is_whole, B__law_is_whole, G__law_is_whole⟩ := has__law_is_whole (P := P) (w := w) (base := base) T
  obtain ⟨f__law_common, fd__law_common, F__law_common, M__law_common, B__law_common, G__law_common⟩ := has__law_common (P := P) (w := w) (base := base) T
  refine ⟨f, fd, F, M, F.binds (ps := ["_law_d", "_law_v"]) (fun _ _ _ _ _ _ us hl => match us, hl with | [_, _], _ => rfl), F.ok sc__law_is_direction (fun vs H Q E h => ?_) (fun cdv A outer s H vs Q E hr h => ?_)⟩
  · obtain ⟨G, x, hB, r, hp, q⟩ := h; rw [r.len]; rfl
  · obtain ⟨G, ⟨x, y, di, dj, a⟩, hB, r, ⟨hx, hy, hd, he, hpr, hpa, hn⟩, k⟩ := h
    replace hx : SzR a x := hx
    replace hy : SzR a y := hy
    replace hd : Sz a di := hd
    replace he : Sz a dj := he
    replace hpr : Prim di dj := hpr
    replace hpa : (di : Rat) * y = (dj : Rat) * x := hpa
    replace hn : a + a + a ≤ 8000 := hn
    replace k : ∀ d v H', d = (.bl (true) : D) → Rep K G.M H' d v → Same H H' → G.B H' → Q v H' := k
    obtain ⟨v0_0, _, rfl, r0_0, rt0⟩ := cons_of r
    replace r0_0 : Rep K G.M H (.tup [.int (di), .int (dj)]) v0_0 := r0_0
    obtain ⟨v0_1, _, rfl, r0_1, rt1⟩ := cons_of rt0
    replace r0_1 : Rep K G.M H (.tup [(fr (x)), (fr (y))]) v0_1 := r0_1
    obtain rfl := nil_of rt1
    rcases hpr.2 with hs | ⟨hs, hs2⟩
    · refine ⟨_, (pss_cons (ps_if (PW.pt (pw_or (pt_not (pt_val (pe_call G__law_pair (hr.mono (by decide)) (by rfl) M__law_pair F__law_pair.kp B__law_pair .nil pass0 (pa_cons (pv 0) pa_nil)))) (pw_or (pt_not (pt_val (pe_call G__law_is_whole (hr.mono (by decide)) (by rfl) M__law_is_whole F__law_is_whole.kp B__law_is_whole .nil pass0 (pa_cons (pe_ix (ix_tupK (K := K)) (pv 0) pe_int (fun _ _ => rfl)) pa_nil)))) (pw_or1 (pt_not (pt_val (pe_call G__law_is_whole (hr.mono (by decide)) (by rfl) M__law_is_whole F__law_is_whole.kp B__law_is_whole .nil pass0 (pa_cons (pe_ix (ix_tupK (K := K)) (pv 0) pe_int (fun _ _ => rfl)) pa_nil)))))))) (pss_one ps_never) pss_nil) (pss_cons (ps_if (PW.pt (pw_or (pt_cmpR op_ne (pe_call G__law_common (hr.mono (by decide)) (by rfl) M__law_common F__law_common.kp B__law_common .nil pass0 (pa_cons (pe_ix (ix_tupK (K := K)) (pv 0) pe_int (fun _ _ => rfl)) (pa_cons (pe_ix (ix_tupK (K := K)) (pv 0) pe_int (fun _ _ => rfl)) pa_nil))) pe_int (nomark _)) (pw_or1 (pt_not (PW.pt (pw_or (pt_cmpR op_gt (pe_ix (ix_tupK (K := K)) (pv 0) pe_int (fun _ _ => rfl)) pe_int (nomark _)) (pw_or1 pt_false))))))) (pss_one ps_never) pss_nil) (pss_one (ps_ret (pe_cmpR op_eq (pe_op op_mulW (pe_op op_mulW (pe_ix (ix_tupK (K := K)) (pv 0) pe_int (fun _ _ => rfl)) (pe_ix (ix_tupK (K := K)) (pe_ix (ix_tupK (K := K)) (pv 1) pe_int (fun _ _ => rfl)) pe_int (fun _ _ => rfl))) (pe_ix (ix_tupK (K := K)) (pe_ix (ix_tupK (K := K)) (pv 1) pe_int (fun _ _ => rfl)) pe_int (fun _ _ => rfl))) (pe_op op_mulW (pe_op op_mulW (pe_ix (ix_tupK (K := K)) (pv 0) pe_int (fun _ _ => rfl)) (pe_ix (ix_tupK (K := K)) (pe_ix (ix_tupK (K := K)) (pv 1) pe_int (fun _ _ => rfl)) pe_int (fun _ _ => rfl))) (pe_ix (ix_tupK (K := K)) (pe_ix (ix_tupK (K := K)) (pv 1) pe_int (fun _ _ => rfl)) pe_int (fun _ _ => rfl))) (nomark _)))))), ?_⟩
      with_reducible refine k_seq ?_
      with_reducible refine k_ifX ?_
      with_reducible refine k_or ?_
      with_reducible refine k_not ?_
      with_reducible refine k_B ?_
      with_reducible refine k_call ?_
      refine k_arg (val_var rfl) ?_
      with_reducible refine k_nil ?_
      refine k_spF (.int (di), .int (dj)) hB (rcons (r0_0) (rnil (K := K))) trivial (fun v1 H1 r1 s1 hB1 => ?_)
      obtain rfl := bl_of (b := true) r1
      refine ⟨_, rfl, ?_⟩
      refine iteF ?_
      with_reducible refine k_or ?_
      with_reducible refine k_not ?_
      with_reducible refine k_B ?_
      with_reducible refine k_call ?_
      refine k_arg (v_ixI (k := 0) (val_var rfl) ((r0_0.up hB (Ex.of s1))) val_c rfl) ?_
      with_reducible refine k_nil ?_
      refine k_spF di hB1 (rcons (rint _) (rnil (K := K))) trivial (fun v2 H2 r2 s2 hB2 => ?_)
      obtain rfl := bl_of (b := true) r2
      refine ⟨_, rfl, ?_⟩
      refine iteF ?_
      with_reducible refine k_not ?_
      with_reducible refine k_B ?_
      with_reducible refine k_call ?_
      have q1 := ((r0_0.up hB (Ex.of s1)).up hB1 (Ex.of s2))
      refine k_arg (v_ixI (k := 1) (val_var rfl) (q1) val_c rfl) ?_
      with_reducible refine k_nil ?_
      refine k_spF dj hB2 (rcons (rint _) (rnil (K := K))) trivial (fun v3 H3 r3 s3 hB3 => ?_)
      obtain rfl := bl_of (b := true) r3
      refine ⟨_, rfl, ?_⟩
      refine iteF ?_
      with_reducible refine k_next ?_
      with_reducible refine k_seq ?_
      with_reducible refine k_ifX ?_
      with_reducible refine k_or ?_
      with_reducible refine k_T ?_
      with_reducible refine k_opX ?_
      with_reducible refine k_call ?_
      refine k_arg (v_ixI (k := 0) (val_var rfl) ((q1.up hB2 (Ex.of s3))) val_c rfl) ?_
      refine k_arg (v_ixI (k := 1) (val_var rfl) ((q1.up hB2 (Ex.of s3))) val_c rfl) ?_
      with_reducible refine k_nil ?_
      refine k_spF (di, dj) hB3 (rcons (rint _) (rcons (rint _) (rnil (K := K)))) trivial (fun v4 H4 r4 s4 hB4 => ?_)
      obtain rfl := int_of (i := ((Nat.gcd (di).natAbs (dj).natAbs : Nat) : Int)) r4
      refine k_val val_c ?_
      refine f_neI ?_
      refine ⟨false, congrArg V.bl (show ((!decide (((Nat.gcd (di).natAbs (dj).natAbs : Nat) : Int) = (1 : Int)))) = false from prim_test hpr), ?_⟩
      refine iteF ?_
      with_reducible refine k_not ?_
      with_reducible refine k_or ?_
      with_reducible refine k_T ?_
      have q2 := ((q1.up hB2 (Ex.of s3)).up hB3 (Ex.of s4))
      refine k_val (v_opB (v_ixI (k := 0) (val_var rfl) (q2) val_c rfl) val_c) ?_
      refine ⟨true, congrArg V.bl (show ((decide ((0 : Int) < di))) = true from decide_eq_true hs), ?_⟩
      refine iteT ?_
      refine iteF ?_
      with_reducible refine k_next ?_
      with_reducible refine k_ret ?_
      with_reducible refine k_opX ?_
      with_reducible refine k_opX ?_
      with_reducible refine k_opX ?_
      refine k_val (v_ixI (k := 0) (val_var rfl) (q2) val_c rfl) ?_
      with_reducible refine k_opX ?_
      with_reducible refine k_opX ?_
      refine k_val (val_var rfl) ?_
      refine k_val val_c ?_
      have q4 := ((((r0_1.up hB (Ex.of s1)).up hB1 (Ex.of s2)).up hB2 (Ex.of s3)).up hB3 (Ex.of s4))
      refine f_ixT (k := 1) (q4) rfl (fun w3 rw3 => ?_)
      refine k_val val_c ?_
      refine f_ixT (k := 0) (rw3) rfl (fun w5 rw5 => ?_)
      obtain rfl := int_of rw5
      refine f_op (cmul hd (hy).1 (by omega)) ?_
      with_reducible refine k_opX ?_
      with_reducible refine k_opX ?_
      refine k_val (val_var rfl) ?_
      refine k_val val_c ?_
      refine f_ixT (k := 0) (q4) rfl (fun w6 rw6 => ?_)
      refine k_val val_c ?_
      refine f_ixT (k := 1) (rw6) rfl (fun w7 rw7 => ?_)
      obtain rfl := int_of rw7
      refine f_op (cmul (Sz.mul hd (hy).1) (hx).2 (by omega)) ?_
      with_reducible refine k_opX ?_
      with_reducible refine k_opX ?_
      refine k_val (v_ixI (k := 1) (val_var rfl) (q2) val_c rfl) ?_
      with_reducible refine k_opX ?_
      with_reducible refine k_opX ?_
      refine k_val (val_var rfl) ?_
      refine k_val val_c ?_
      refine f_ixT (k := 0) (q4) rfl (fun w8 rw8 => ?_)
      refine k_val val_c ?_
      refine f_ixT (k := 0) (rw8) rfl (fun w9 rw9 => ?_)
      obtain rfl := int_of rw9
      refine f_op (cmul he (hx).1 (by omega)) ?_
      with_reducible refine k_opX ?_
      with_reducible refine k_opX ?_
      refine k_val (val_var rfl) ?_
      refine k_val val_c ?_
      refine f_ixT (k := 1) (q4) rfl (fun w10 rw10 => ?_)
      refine k_val val_c ?_
      refine f_ixT (k := 1) (rw10) rfl (fun w11 rw11 => ?_)
      obtain rfl := int_of rw11
      refine f_op (cmul (Sz.mul he (hx).1) (hy).2 (by omega)) ?_
      refine f_eqI ?_
      exact k _ _ _ (congrArg D.bl (par_test hpa)) (rbl _) (((s1.trans s2).trans s3).trans s4) hB4
    · refine ⟨_, (pss_cons (ps_if (PW.pt (pw_or (pt_not (pt_val (pe_call G__law_pair (hr.mono (by decide)) (by rfl) M__law_pair F__law_pair.kp B__law_pair .nil pass0 (pa_cons (pv 0) pa_nil)))) (pw_or (pt_not (pt_val (pe_call G__law_is_whole (hr.mono (by decide)) (by rfl) M__law_is_whole F__law_is_whole.kp B__law_is_whole .nil pass0 (pa_cons (pe_ix (ix_tupK (K := K)) (pv 0) pe_int (fun _ _ => rfl)) pa_nil)))) (pw_or1 (pt_not (pt_val (pe_call G__law_is_whole (hr.mono (by decide)) (by rfl) M__law_is_whole F__law_is_whole.kp B__law_is_whole .nil pass0 (pa_cons (pe_ix (ix_tupK (K := K)) (pv 0) pe_int (fun _ _ => rfl)) pa_nil)))))))) (pss_one ps_never) pss_nil) (pss_cons (ps_if (PW.pt (pw_or (pt_cmpR op_ne (pe_call G__law_common (hr.mono (by decide)) (by rfl) M__law_common F__law_common.kp B__law_common .nil pass0 (pa_cons (pe_ix (ix_tupK (K := K)) (pv 0) pe_int (fun _ _ => rfl)) (pa_cons (pe_ix (ix_tupK (K := K)) (pv 0) pe_int (fun _ _ => rfl)) pa_nil))) pe_int (nomark _)) (pw_or1 (pt_not (PW.pt (pw_or (pt_cmpR op_gt (pe_ix (ix_tupK (K := K)) (pv 0) pe_int (fun _ _ => rfl)) pe_int (nomark _)) (pw_or1 (PW.pt (pw_and (pt_cmpR op_eq (pe_ix (ix_tupK (K := K)) (pv 0) pe_int (fun _ _ => rfl)) pe_int (nomark _)) (pw_and1 (pt_cmpR op_gt (pe_ix (ix_tupK (K := K)) (pv 0) pe_int (fun _ _ => rfl)) pe_int (nomark _)))))))))))) (pss_one ps_never) pss_nil) (pss_one (ps_ret (pe_cmpR op_eq (pe_op op_mulW (pe_op op_mulW (pe_ix (ix_tupK (K := K)) (pv 0) pe_int (fun _ _ => rfl)) (pe_ix (ix_tupK (K := K)) (pe_ix (ix_tupK (K := K)) (pv 1) pe_int (fun _ _ => rfl)) pe_int (fun _ _ => rfl))) (pe_ix (ix_tupK (K := K)) (pe_ix (ix_tupK (K := K)) (pv 1) pe_int (fun _ _ => rfl)) pe_int (fun _ _ => rfl))) (pe_op op_mulW (pe_op op_mulW (pe_ix (ix_tupK (K := K)) (pv 0) pe_int (fun _ _ => rfl)) (pe_ix (ix_tupK (K := K)) (pe_ix (ix_tupK (K := K)) (pv 1) pe_int (fun _ _ => rfl)) pe_int (fun _ _ => rfl))) (pe_ix (ix_tupK (K := K)) (pe_ix (ix_tupK (K := K)) (pv 1) pe_int (fun _ _ => rfl)) pe_int (fun _ _ => rfl))) (nomark _)))))), ?_⟩
      with_reducible refine k_seq ?_
      with_reducible refine k_ifX ?_
      with_reducible refine k_or ?_
      with_reducible refine k_not ?_
      with_reducible refine k_B ?_
      with_reducible refine k_call ?_
      refine k_arg (val_var rfl) ?_
      with_reducible refine k_nil ?_
      refine k_spF (.int (di), .int (dj)) hB (rcons (r0_0) (rnil (K := K))) trivial (fun v1 H1 r1 s1 hB1 => ?_)
      obtain rfl := bl_of (b := true) r1
      refine ⟨_, rfl, ?_⟩
      refine iteF ?_
      with_reducible refine k_or ?_
      with_reducible refine k_not ?_
      with_reducible refine k_B ?_
      with_reducible refine k_call ?_
      refine k_arg (v_ixI (k := 0) (val_var rfl) ((r0_0.up hB (Ex.of s1))) val_c rfl) ?_
      with_reducible refine k_nil ?_
      refine k_spF di hB1 (rcons (rint _) (rnil (K := K))) trivial (fun v2 H2 r2 s2 hB2 => ?_)
      obtain rfl := bl_of (b := true) r2
      refine ⟨_, rfl, ?_⟩
      refine iteF ?_
      with_reducible refine k_not ?_
      with_reducible refine k_B ?_
      with_reducible refine k_call ?_
      have q1 := ((r0_0.up hB (Ex.of s1)).up hB1 (Ex.of s2))
      refine k_arg (v_ixI (k := 1) (val_var rfl) (q1) val_c rfl) ?_
      with_reducible refine k_nil ?_
      refine k_spF dj hB2 (rcons (rint _) (rnil (K := K))) trivial (fun v3 H3 r3 s3 hB3 => ?_)
      obtain rfl := bl_of (b := true) r3
      refine ⟨_, rfl, ?_⟩
      refine iteF ?_
      with_reducible refine k_next ?_
      with_reducible refine k_seq ?_
      with_reducible refine k_ifX ?_
      with_reducible refine k_or ?_
      with_reducible refine k_T ?_
      with_reducible refine k_opX ?_
      with_reducible refine k_call ?_
      refine k_arg (v_ixI (k := 0) (val_var rfl) ((q1.up hB2 (Ex.of s3))) val_c rfl) ?_
      refine k_arg (v_ixI (k := 1) (val_var rfl) ((q1.up hB2 (Ex.of s3))) val_c rfl) ?_
      with_reducible refine k_nil ?_
      refine k_spF (di, dj) hB3 (rcons (rint _) (rcons (rint _) (rnil (K := K)))) trivial (fun v4 H4 r4 s4 hB4 => ?_)
      obtain rfl := int_of (i := ((Nat.gcd (di).natAbs (dj).natAbs : Nat) : Int)) r4
      refine k_val val_c ?_
      refine f_neI ?_
      refine ⟨false, congrArg V.bl (show ((!decide (((Nat.gcd (di).natAbs (dj).natAbs : Nat) : Int) = (1 : Int)))) = false from prim_test hpr), ?_⟩
      refine iteF ?_
      with_reducible refine k_not ?_
      with_reducible refine k_or ?_
      with_reducible refine k_T ?_
      have q2 := ((q1.up hB2 (Ex.of s3)).up hB3 (Ex.of s4))
      refine k_val (v_opB (v_ixI (k := 0) (val_var rfl) (q2) val_c rfl) val_c) ?_
      refine ⟨false, congrArg V.bl (show ((decide ((0 : Int) < di))) = false from decide_eq_false (by omega)), ?_⟩
      refine iteF ?_
      with_reducible refine k_and ?_
      with_reducible refine k_T ?_
      refine k_val (v_eqI (v_ixI (k := 0) (val_var rfl) (q2) val_c rfl) val_c) ?_
      refine ⟨true, congrArg V.bl (show ((decide (di = (0 : Int)))) = true from decide_eq_true hs), ?_⟩
      refine iteT ?_
      with_reducible refine k_T ?_
      refine k_val (v_opB (v_ixI (k := 1) (val_var rfl) (q2) val_c rfl) val_c) ?_
      refine ⟨true, congrArg V.bl (show ((decide ((0 : Int) < dj))) = true from decide_eq_true hs2), ?_⟩
      refine iteF ?_
      with_reducible refine k_next ?_
      with_reducible refine k_ret ?_
      with_reducible refine k_opX ?_
      with_reducible refine k_opX ?_
      with_reducible refine k_opX ?_
      refine k_val (v_ixI (k := 0) (val_var rfl) (q2) val_c rfl) ?_
      with_reducible refine k_opX ?_
      with_reducible refine k_opX ?_
      refine k_val (val_var rfl) ?_
      refine k_val val_c ?_
      have q4 := ((((r0_1.up hB (Ex.of s1)).up hB1 (Ex.of s2)).up hB2 (Ex.of s3)).up hB3 (Ex.of s4))
      refine f_ixT (k := 1) (q4) rfl (fun w3 rw3 => ?_)
      refine k_val val_c ?_
      refine f_ixT (k := 0) (rw3) rfl (fun w5 rw5 => ?_)
      obtain rfl := int_of rw5
      refine f_op (cmul hd (hy).1 (by omega)) ?_
      with_reducible refine k_opX ?_
      with_reducible refine k_opX ?_
      refine k_val (val_var rfl) ?_
      refine k_val val_c ?_
      refine f_ixT (k := 0) (q4) rfl (fun w6 rw6 => ?_)
      refine k_val val_c ?_
      refine f_ixT (k := 1) (rw6) rfl (fun w7 rw7 => ?_)
      obtain rfl := int_of rw7
      refine f_op (cmul (Sz.mul hd (hy).1) (hx).2 (by omega)) ?_
      with_reducible refine k_opX ?_
      with_reducible refine k_opX ?_
      refine k_val (v_ixI (k := 1) (val_var rfl) (q2) val_c rfl) ?_
      with_reducible refine k_opX ?_
      with_reducible refine k_opX ?_
      refine k_val (val_var rfl) ?_
      refine k_val val_c ?_
      refine f_ixT (k := 0) (q4) rfl (fun w8 rw8 => ?_)
      refine k_val val_c ?_
      refine f_ixT (k := 0) (rw8) rfl (fun w9 rw9 => ?_)
      obtain rfl := int_of rw9
      refine f_op (cmul he (hx).1 (by omega)) ?_
      with_reducible refine k_opX ?_
      with_reducible refine k_opX ?_
      refine k_val (val_var rfl) ?_
      refine k_val val_c ?_
      refine f_ixT (k := 1) (q4) rfl (fun w10 rw10 => ?_)
      refine k_val val_c ?_
      refine f_ixT (k := 1) (rw10) rfl (fun w11 rw11 => ?_)
      obtain rfl := int_of rw11
      refine f_op (cmul (Sz.mul he (hx).1) (hy).2 (by omega)) ?_
      refine f_eqI ?_
      exact k _ _ _ (congrArg D.bl (par_test hpa)) (rbl _) (((s1.trans s2).trans s3).trans s4) hB4
end
end Px

namespace Px
open PySem PySem.Spec PyProof.Rows L2
/-! ### directions judged -/
theorem dir_cases (x y z : Rat) : (x = 0 ∧ y = 0) ∨ (x ≠ 0 ∧ z ≠ 0) ∨ (x ≠ 0 ∧ z = 0) ∨ (x = 0 ∧ y ≠ 0 ∧ z ≠ 0) ∨ (x = 0 ∧ y ≠ 0 ∧ z = 0) := by
  by_cases hx : x = 0 <;> by_cases hy : y = 0 <;> by_cases hz : z = 0 <;> simp [hx, hy, hz]
theorem ic_ne {d : Int} (h : d ≠ 0) : ((d : Int) : Rat) ≠ 0 := fun z => h (Rat.intCast_inj.mp z)
theorem d0_ne {x y : Rat} (hx : x ≠ 0) : d0 x y ≠ 0 := fun z => by
  have hv : ¬ (x = 0 ∧ y = 0) := fun h => hx h.1
  have p := dir_prim hv
  have k := @dir_par x y
  rw [z] at k p
  have k2 : ((d1 x y : Int) : Rat) * x = 0 := by rw [← k]; exact Rat.zero_mul y
  have k3 : d1 x y = 0 := by
    by_cases e : d1 x y = 0
    · exact e
    · exact absurd k2 (by have := ic_ne e; grind)
  rcases p.2 with q | ⟨_, q⟩
  · omega
  · omega
theorem d0_z {x y : Rat} (hx : x = 0) (hy : y ≠ 0) : d0 x y = 0 := by
  have k := @dir_par x y
  rw [hx, Rat.mul_zero] at k
  by_cases e : d0 0 y = 0
  · rw [hx]; exact e
  · exact absurd k (by have := ic_ne e; grind)
theorem d1_ne {x y : Rat} (hx : x = 0) (hy : y ≠ 0) : d1 x y ≠ 0 := by
  have p := dir_prim (x := x) (y := y) (fun h => hy h.2)
  have z := d0_z hx hy
  rcases p.2 with q | ⟨_, q⟩ <;> omega
theorem unit_nz {d e : Int} (p : Prim d e) : ¬ (((d : Int) : Rat) = 0 ∧ ((e : Int) : Rat) = 0) := fun ⟨a, b⟩ => by
  have a' : d = 0 := Rat.intCast_inj.mp a
  have b' : e = 0 := Rat.intCast_inj.mp b
  rcases p.2 with q | ⟨_, q⟩ <;> omega
theorem unit_dir {d e : Int} (p : Prim d e) : d0 ((d : Int) : Rat) ((e : Int) : Rat) = d ∧ d1 ((d : Int) : Rat) ((e : Int) : Rat) = e := dir_uniq (unit_nz p) p (Rat.mul_comm _ _)
theorem same_unitA {x y : Rat} (hx : x ≠ 0) : (.lst [.tup [fr x, fr y], .tup [.int (d0 x y), .int (d1 x y)]] : D) = .lst [.tup [fr (((d0 x y : Int) : Rat) * (x / ((d0 x y : Int) : Rat))), fr (((d1 x y : Int) : Rat) * (x / ((d0 x y : Int) : Rat)))], .tup [.int (d0 ((d0 x y : Int) : Rat) ((d1 x y : Int) : Rat)), .int (d1 ((d0 x y : Int) : Rat) ((d1 x y : Int) : Rat))]] := by
  have u := unit_dir (dir_prim (x := x) (y := y) fun h => hx h.1)
  have n := ic_ne (d0_ne (y := y) hx)
  have k := @dir_par x y
  rw [u.1, u.2, show ((d0 x y : Int) : Rat) * (x / ((d0 x y : Int) : Rat)) = x by grind, show ((d1 x y : Int) : Rat) * (x / ((d0 x y : Int) : Rat)) = y by grind]
theorem same_unitB {x y : Rat} (hx : x = 0) (hy : y ≠ 0) : (.lst [.tup [fr x, fr y], .tup [.int (d0 x y), .int (d1 x y)]] : D) = .lst [.tup [fr (((d0 x y : Int) : Rat) * (y / ((d1 x y : Int) : Rat))), fr (((d1 x y : Int) : Rat) * (y / ((d1 x y : Int) : Rat)))], .tup [.int (d0 ((d0 x y : Int) : Rat) ((d1 x y : Int) : Rat)), .int (d1 ((d0 x y : Int) : Rat) ((d1 x y : Int) : Rat))]] := by
  have u := unit_dir (dir_prim (x := x) (y := y) fun h => hy h.2)
  have n := ic_ne (d1_ne hx hy)
  have z : ((d0 x y : Int) : Rat) = 0 := by rw [d0_z hx hy]; rfl
  rw [u.1, u.2, show ((d0 x y : Int) : Rat) * (y / ((d1 x y : Int) : Rat)) = x by rw [z, hx]; grind, show ((d1 x y : Int) : Rat) * (y / ((d1 x y : Int) : Rat)) = y by grind]
theorem long_nz {x y z : Rat} (h : ¬ (x = 0 ∧ y = 0)) (hz : z ≠ 0) : ¬ (x * z = 0 ∧ y * z = 0) := fun ⟨a, b⟩ => h ⟨by grind, by grind⟩
theorem same_long {x y z : Rat} (h : ¬ (x = 0 ∧ y = 0)) (hz : z ≠ 0) : (.tup [.str ("" : Str), .tup [.int (d0 x y), .int (d1 x y)]] : D) = .tup [.str ("" : Str), .tup [.int (d0 (x * z) (y * z)), .int (d1 (x * z) (y * z))]] := by
  have k := @dir_par x y
  have u := dir_uniq (long_nz h hz) (dir_prim h) (by grind)
  rw [u.1, u.2]
theorem ax_z {x y : Rat} (hx : x = 0) (hy : y = 0) : (ax x y, ay x y) = (0, 0) := by subst hx; subst hy; rfl
theorem long_z {x y z : Rat} (hz : z = 0) : (ax (x * z) (y * z), ay (x * z) (y * z)) = (0, 0) := ax_z (by rw [hz]; exact Rat.mul_zero _) (by rw [hz]; exact Rat.mul_zero _)
theorem num_t {x : Rat} (h : x = 0) : decide (x.num = (0 : Int)) = true := decide_eq_true (Rat.num_eq_zero.mpr h)
theorem num_f {x : Rat} (h : x ≠ 0) : decide (x.num = (0 : Int)) = false := decide_eq_false fun z => h (Rat.num_eq_zero.mp z)
section
variable {P : Program} {w : World} {K : PySem.W.Frag} {mg : Str → Option Value} {base : Heap}
/-- as F.ok, where the code object is known -/
theorem fun_okC {x qual : Str} {st : Stmt} {f c : Addr} {fd : FuncData} {N ps : List Str} {k : Nat} {sp : Sp} (F : Fun K x qual st f fd) (code : fd.code = .ref c) (S : FnScope N ps (defScope st)) (len : ∀ vs H Q E, sp vs H Q E → vs.length = ps.length)
    (hbody : ∀ (A : Around) (outer : List Env) (s : Shared) (H : Hp) (vs : List V) (Q : VK) (E : XK), Room k (A.deeper (envOfC qual (defScope st) s.heap.objs.size f (.ref c))) → sp vs H Q E →
      ∃ t, PSs (cxOf CX0 P w K mg base N qual (defScope st) f (.ref c) A outer s H E).nox (defBody st) t ∧ t { nx := fun _ H' => Q .non H', rt := Q } (start N vs) H) : FnOk P w K mg base CX0 (k + 1) f fd ps sp := by
  obtain ⟨oc, od, kV, doc, pm, an, cdv, ct, osl, rfl, lk, hcd⟩ := F.ex
  obtain rfl : cdv = .ref c := code
  refine fn_of lk hcd S len fun A outer s H vs Q E hr hsp => ?_
  obtain ⟨t, h, q⟩ := hbody A outer s H vs Q E hr hsp
  exact ⟨t, h.nox, q⟩
end


end Px

namespace Px
open PySem PySem.Spec PyProof.Rows L2
section
variable {P : Program} {w : World} {K : PySem.W.Frag} {mg : Str → Option Value} {base : Heap}
def lamT (Pt : Addr) : List (Addr × Str) := [(Pt, ("_law_direction_so" ++ ".<locals>." ++ "<lambda>" : Str))]
def sp__law_direction_so (K : PySem.W.Frag) (Pt : Addr) : Sp := spL K (lamT Pt) (α := Rat × Rat × Rat) (fun x => [.tup [(fr (x.1)), (fr (x.2.1))], (fr (x.2.2))]) (fun x => SzR 100 x.1 ∧ SzR 100 x.2.1 ∧ SzR 100 x.2.2) (fun x => .bl (true))
set_option maxHeartbeats 8000000 in
theorem has__law_direction_so {C A B c Pt f : Addr} {fd : FuncData} (T : Tx K mg) (Z : ErrTx P w K mg "ZeroDivisor" s_ZeroDivisor___init__ C A B) (hA : mg "MapError" = some (.ref A)) (hB0 : mg "Missing" = some (.ref B)) (F : Fun K "_law_direction_so" "_law_direction_so" s__law_direction_so f fd) (code : fd.code = .ref c) (TB : LamX.TabB base mg c Pt) : FnOk P w K mg base CX0 12 f fd ["_law_v", "_law_w"] (sp__law_direction_so K Pt) := by
  obtain ⟨f__law_same, fd__law_same, F__law_same, M__law_same, B__law_same, G__law_same⟩ := has__law_same (P := P) (w := w) (base := base) T
  obtain ⟨f_direction, fd_direction, F_direction, M_direction, B_direction, G_direction⟩ := has_direction (P := P) (w := w) (base := base) T
  obtain ⟨f__law_is_direction, fd__law_is_direction, F__law_is_direction, M__law_is_direction, B__law_is_direction, G__law_is_direction⟩ := has__law_is_direction (P := P) (w := w) (base := base) T
  obtain ⟨f_divided, fd_divided, F_divided, M_divided, B_divided, G_divided⟩ := has_divided (P := P) (w := w) (base := base) T
  obtain ⟨f_vector_times, fd_vector_times, F_vector_times, M_vector_times, B_vector_times, G_vector_times⟩ := has_vector_times (P := P) (w := w) (base := base) T
  have KB_direction_0_vector : KBn K fd_direction ["vector"] 0 ["vector"] (permU [0]) (permV [0]) := by
    obtain ⟨oc, od, kV, doc, pm, an, cdv, ct, osl, rfl, _, _⟩ := F_direction.ex
    exact kbn_of [0] fun us ws l1 l2 => match us, l1, ws, l2 with | [], _, [_], _ => rfl
  obtain ⟨f__law_got, fd__law_got, F__law_got, M__law_got⟩ := T._law_got
  obtain ⟨f__law_fields, fd__law_fields, F__law_fields, M__law_fields, B__law_fields, G__law_fields⟩ := has__law_fields (P := P) (w := w) (base := base) T
  have B__law_got : Binds K fd__law_got ["_law_ask"] [] := F__law_got.binds (ps := ["_law_ask"]) (fun _ _ _ _ _ _ us hl => match us, hl with | [_], _ => rfl)
  have GX_direction := fnok_or (fnok_cx (CX := L2.CX P w) (G_direction.mono (by decide : 1 ≤ 3))) (err_direction (base := base) T Z F_direction)
  obtain ⟨oc_got, od_got, kV_got, dc_got, pm_got, an_got, cdv_got, ct_got, osl_got, e_got, lk_got, hcd_got⟩ := id F__law_got.ex
  subst e_got
  refine fun_okC F code sc__law_direction_so (fun vs H Q E h => ?_) (fun A' outer s H vs Q E hr h => ?_)
  · obtain ⟨G, x, tg, hB, r, hp, q⟩ := h; rw [r.len]; rfl
  · obtain ⟨G, ⟨x, y, z⟩, tg, hB, r, ⟨hx, hy, hz⟩, k⟩ := h
    replace hx : SzR 100 x := hx
    replace hy : SzR 100 y := hy
    replace hz : SzR 100 z := hz
    replace k : ∀ d v H', d = (.bl (true) : D) → Rep K G.M H' d v → Ex (onT (lamT Pt)) H H' → G.B H' → Q v H' := k
    obtain ⟨v0_0, _, rfl, r0_0, rt0⟩ := cons_of r
    replace r0_0 : Rep K G.M H (.tup [(fr (x)), (fr (y))]) v0_0 := r0_0
    obtain ⟨v0_1, _, rfl, r0_1, rt1⟩ := cons_of rt0
    replace r0_1 : Rep K G.M H ((fr (z))) v0_1 := r0_1
    obtain rfl := nil_of rt1
    rcases dir_cases x y z with ⟨hx0, hy0⟩ | ⟨hx0, hz0⟩ | ⟨hx0, hz0⟩ | ⟨hx0, hy0, hz0⟩ | ⟨hx0, hy0, hz0⟩
    · refine ⟨_, (pss_cons (ps_par (i := 2) (j := 3) (by rfl) sc__law_direction_so.nd rfl rfl (by decide) rfl rfl (pa_cons (pe_lamcallT (T := lamT Pt) (TT := TGot K A B) (Ng := ["_law_ask", "_law_e"]) (a := "_law_ask") (k := 3) (by rfl) M__law_got F__law_got.kp lk_got hcd_got B__law_got sc__law_got rfl (.inl rfl) (got_gives (k := 3) hA hB0 M__law_fields F__law_fields.kp B__law_fields G__law_fields (hr.mono (by decide))) TB rfl (List.mem_singleton.mpr rfl) (fun p hp _ => by rw [List.mem_singleton.mp hp]; rfl) (hr.mono (by decide)) (LamX.lamS_by (by show LamX.lamSB (defScope s__law_direction_so) _ = true; decide +kernel)) rfl (fun _ _ _ _ _ => rfl) (fun _ _ _ _ _ _ _ hr2 => (pe_call GX_direction (hr2.mono (by decide)) (by rfl) M_direction F_direction.kp B_direction .nil (passes_call (takes_of rfl rfl rfl rfl) (fun _ _ _ _ h => h)) (pa_cons (pv 0) pa_nil)))) (pa_cons (pe_lamcallD (T := lamT Pt) (TT := TGot K A B) (Ng := ["_law_ask", "_law_e"]) (a := "_law_ask") (k := 3) (kn := "_law_k") (n := 0) (by rfl) M__law_got F__law_got.kp lk_got hcd_got B__law_got sc__law_got rfl (.inl rfl) (got_gives (k := 3) hA hB0 M__law_fields F__law_fields.kp B__law_fields G__law_fields (hr.mono (by decide))) TB rfl (List.mem_singleton.mpr rfl) (fun p hp _ => by rw [List.mem_singleton.mp hp]; rfl) (hr.mono (by decide)) (lamSD_by (by show lamSDB ["_law_v", "_law_w", "_law_first", "_law_later", "_law_d", "_law_unit", "_law_part", "_law_long"] "_law_k" (defScope s__law_direction_so) _ = true; decide +kernel)) rfl rfl (fun _ _ _ _ _ _ _ => ⟨_, rfl, rfl⟩) (fun _ _ _ _ _ _ _ hr2 => (pe_callN0 GX_direction (hr2.mono (by decide)) (by rfl) M_direction F_direction.kp KB_direction_0_vector (passes_call (takes_of rfl rfl rfl rfl) (fun _ _ _ _ h => h))  (pk_cons (pv 0) pk_nil)))) pa_nil)) (by rfl)) (pss_cons (ps_if (PW.pt (pw_and (pt_cmpR op_eq (pe_ix (ix_tupK (K := K)) (pe_ix (ix_tupK (K := K)) (pv 0) pe_int (fun _ _ => rfl)) pe_int (fun _ _ => rfl)) pe_int (nomark _)) (pw_and1 (pt_cmpR op_eq (pe_ix (ix_tupK (K := K)) (pe_ix (ix_tupK (K := K)) (pv 0) pe_int (fun _ _ => rfl)) pe_int (fun _ _ => rfl)) pe_int (nomark _))))) (pss_one (ps_ret (pe_call G__law_same (hr.mono (by decide)) (by rfl) M__law_same F__law_same.kp B__law_same .nil pass0 (pa_cons (pe_lst (pa_cons (pv 2) (pa_cons (pv 3) pa_nil))) (pa_cons (pe_lst (pa_cons (pe_tup (pa_cons pe_str pa_nil)) (pa_cons (pe_tup (pa_cons pe_str pa_nil)) pa_nil))) pa_nil))))) pss_nil) (pss_cons ps_never (pss_cons ps_never (pss_cons ps_never (pss_cons ps_never (pss_cons ps_never (pss_cons ps_never (pss_one ps_never))))))))), ?_⟩
      with_reducible refine k_seq ?_
      with_reducible refine k_par ?_
      with_reducible refine k_argX ?_
      refine k_got tg hB (fun H1 e1 hB1 => ?_)
      with_reducible refine k_call ?_
      refine k_arg (val_var rfl) ?_
      with_reducible refine k_nil ?_
      refine Or.inr (k_spE (x, y, 100) hB1 (rcons ((r0_0.up hB (e1.imp tg.on))) (rnil (K := K))) ⟨(hx.mono (by first | omega | (dsimp only; omega))), (hy.mono (by first | omega | (dsimp only; omega))), (by first | omega | (dsimp only; omega)), ax_z hx0 hy0⟩ (fun dd2 H2 s2 hB2 hx2 => ?_))
      refine got_err Z hB2 hx2 (by decide +kernel) (fun v3 H3 r3 s3 hB3 => ?_)
      with_reducible refine k_argX ?_
      refine k_got tg hB3 (fun H4 e4 hB4 => ?_)
      with_reducible refine k_callN ?_
      with_reducible refine k_nil ?_
      refine k_arg (val_var rfl) ?_
      with_reducible refine k_nil ?_
      refine ⟨rfl, rfl, ?_⟩
      have q1 := ((((r0_0.up hB (e1.imp tg.on)).up hB1 (Ex.of s2)).up hB2 (Ex.of s3)).up hB3 (e4.imp tg.on))
      refine Or.inr (k_spE (x, y, 100) hB4 (rcons (q1) (rnil (K := K))) ⟨(hx.mono (by first | omega | (dsimp only; omega))), (hy.mono (by first | omega | (dsimp only; omega))), (by first | omega | (dsimp only; omega)), ax_z hx0 hy0⟩ (fun dd5 H5 s5 hB5 hx5 => ?_))
      refine got_err Z hB5 hx5 (by decide +kernel) (fun v6 H6 r6 s6 hB6 => ?_)
      with_reducible refine k_nil ?_
      refine ⟨_, _, rfl, ?_⟩
      with_reducible refine k_seq ?_
      with_reducible refine k_ifX ?_
      with_reducible refine k_and ?_
      with_reducible refine k_T ?_
      with_reducible refine k_opX ?_
      with_reducible refine k_opX ?_
      with_reducible refine k_opX ?_
      refine k_val (val_var rfl) ?_
      refine k_val val_c ?_
      have q3 := ((q1.up hB4 (Ex.of s5)).up hB5 (Ex.of s6))
      refine f_ixT (k := 0) (q3) rfl (fun w2 rw2 => ?_)
      refine k_val val_c ?_
      refine f_ixT (k := 0) (rw2) rfl (fun w4 rw4 => ?_)
      obtain rfl := int_of rw4
      refine k_val val_c ?_
      refine f_eqI ?_
      refine ⟨true, congrArg V.bl (show ((decide ((x).num = (0 : Int)))) = true from num_t hx0), ?_⟩
      refine iteT ?_
      with_reducible refine k_T ?_
      with_reducible refine k_opX ?_
      with_reducible refine k_opX ?_
      with_reducible refine k_opX ?_
      refine k_val (val_var rfl) ?_
      refine k_val val_c ?_
      refine f_ixT (k := 1) (q3) rfl (fun w5 rw5 => ?_)
      refine k_val val_c ?_
      refine f_ixT (k := 0) (rw5) rfl (fun w6 rw6 => ?_)
      obtain rfl := int_of rw6
      refine k_val val_c ?_
      refine f_eqI ?_
      refine ⟨true, congrArg V.bl (show ((decide ((y).num = (0 : Int)))) = true from num_t hy0), ?_⟩
      refine iteT ?_
      with_reducible refine k_ret ?_
      with_reducible refine k_call ?_
      with_reducible refine k_argX ?_
      with_reducible refine k_lst ?_
      refine k_arg (val_var rfl) ?_
      refine k_arg (val_var rfl) ?_
      with_reducible refine k_nil ?_
      have q7 := (((r3.up hB3 (e4.imp tg.on)).up hB4 (Ex.of s5)).up hB5 (Ex.of s6))
      refine k_lst_end hB6 (rcons (q7) (rcons (r6) (rnil (K := K)))) (fun v7 H7 r7 s7 hB7 => ?_)
      with_reducible refine k_argX ?_
      with_reducible refine k_lst ?_
      with_reducible refine k_argX ?_
      with_reducible refine k_tup ?_
      refine k_arg val_c ?_
      with_reducible refine k_nil ?_
      refine k_tup_end hB7 (rcons (rstr _) (rnil (K := K))) (fun v8 H8 r8 s8 hB8 => ?_)
      with_reducible refine k_argX ?_
      with_reducible refine k_tup ?_
      refine k_arg val_c ?_
      with_reducible refine k_nil ?_
      refine k_tup_end hB8 (rcons (rstr _) (rnil (K := K))) (fun v9 H9 r9 s9 hB9 => ?_)
      with_reducible refine k_nil ?_
      refine k_lst_end hB9 (rcons ((r8.up hB8 (Ex.of s9))) (rcons (r9) (rnil (K := K)))) (fun v10 H10 r10 s10 hB10 => ?_)
      with_reducible refine k_nil ?_
      have q8 := (((r7.up hB7 (Ex.of s8)).up hB8 (Ex.of s9)).up hB9 (Ex.of s10))
      refine k_spF (.lst [.tup [.str (("ZeroDivisor" : Str))], .tup [.str (("ZeroDivisor" : Str))]]) hB10 (rcons (q8) (rcons (r10) (rnil (K := K)))) rfl (fun v11 H11 r11 s11 hB11 => ?_)
      obtain rfl := bl_of (b := true) r11
      exact k _ _ _ rfl (rbl _) (e1.trans ((Ex.of s2).trans ((Ex.of s3).trans (e4.trans ((Ex.of s5).trans ((Ex.of s6).trans ((Ex.of s7).trans ((Ex.of s8).trans ((Ex.of s9).trans ((Ex.of s10).trans (Ex.of s11))))))))))) hB11
    · have hv : ¬ (x = 0 ∧ y = 0) := fun q => hx0 q.1
      refine ⟨_, (pss_cons (ps_par (i := 2) (j := 3) (by rfl) sc__law_direction_so.nd rfl rfl (by decide) rfl rfl (pa_cons (pe_lamcallT (T := lamT Pt) (TT := TGot K A B) (Ng := ["_law_ask", "_law_e"]) (a := "_law_ask") (k := 3) (by rfl) M__law_got F__law_got.kp lk_got hcd_got B__law_got sc__law_got rfl (.inl rfl) (got_gives (k := 3) hA hB0 M__law_fields F__law_fields.kp B__law_fields G__law_fields (hr.mono (by decide))) TB rfl (List.mem_singleton.mpr rfl) (fun p hp _ => by rw [List.mem_singleton.mp hp]; rfl) (hr.mono (by decide)) (LamX.lamS_by (by show LamX.lamSB (defScope s__law_direction_so) _ = true; decide +kernel)) rfl (fun _ _ _ _ _ => rfl) (fun _ _ _ _ _ _ _ hr2 => (pe_call GX_direction (hr2.mono (by decide)) (by rfl) M_direction F_direction.kp B_direction .nil (passes_call (takes_of rfl rfl rfl rfl) (fun _ _ _ _ h => h)) (pa_cons (pv 0) pa_nil)))) (pa_cons (pe_lamcallD (T := lamT Pt) (TT := TGot K A B) (Ng := ["_law_ask", "_law_e"]) (a := "_law_ask") (k := 3) (kn := "_law_k") (n := 0) (by rfl) M__law_got F__law_got.kp lk_got hcd_got B__law_got sc__law_got rfl (.inl rfl) (got_gives (k := 3) hA hB0 M__law_fields F__law_fields.kp B__law_fields G__law_fields (hr.mono (by decide))) TB rfl (List.mem_singleton.mpr rfl) (fun p hp _ => by rw [List.mem_singleton.mp hp]; rfl) (hr.mono (by decide)) (lamSD_by (by show lamSDB ["_law_v", "_law_w", "_law_first", "_law_later", "_law_d", "_law_unit", "_law_part", "_law_long"] "_law_k" (defScope s__law_direction_so) _ = true; decide +kernel)) rfl rfl (fun _ _ _ _ _ _ _ => ⟨_, rfl, rfl⟩) (fun _ _ _ _ _ _ _ hr2 => (pe_callN0 GX_direction (hr2.mono (by decide)) (by rfl) M_direction F_direction.kp KB_direction_0_vector (passes_call (takes_of rfl rfl rfl rfl) (fun _ _ _ _ h => h))  (pk_cons (pv 0) pk_nil)))) pa_nil)) (by rfl)) (pss_cons (ps_if (PW.pt (pw_and (pt_cmpR op_eq (pe_ix (ix_tupK (K := K)) (pe_ix (ix_tupK (K := K)) (pv 0) pe_int (fun _ _ => rfl)) pe_int (fun _ _ => rfl)) pe_int (nomark _)) (pw_and1 pt_false))) (pss_one ps_never) pss_nil) (pss_cons (ps_if (PW.pt (pw_or (pt_not (pt_val (pe_call G__law_same (hr.mono (by decide)) (by rfl) M__law_same F__law_same.kp B__law_same .nil pass0 (pa_cons (pv 2) (pa_cons (pv 3) pa_nil))))) (pw_or (pt_cmpR op_ne (pe_ix (ix_tupK (K := K)) (pv 2) pe_int (fun _ _ => rfl)) pe_str (nomark _)) (pw_or1 (pt_not (pt_val (pe_call G__law_is_direction (hr.mono (by decide)) (by rfl) M__law_is_direction F__law_is_direction.kp B__law_is_direction .nil pass0 (pa_cons (pe_ix (ix_tupK (K := K)) (pv 2) pe_int (fun _ _ => rfl)) (pa_cons (pv 0) pa_nil))))))))) (pss_one ps_never) pss_nil) (pss_cons (ps_set (i := 4) sc__law_direction_so.nd rfl (.inl rfl) (pe_ix (ix_tupK (K := K)) (pv 2) pe_int (fun _ _ => rfl))) (pss_cons (ps_set (i := 5) sc__law_direction_so.nd rfl (.inl rfl) (pe_tup (pa_cons (pe_tup (pa_cons (pe_ix (ix_tupK (K := K)) (pv 4) pe_int (fun _ _ => rfl)) (pa_cons pe_int pa_nil))) (pa_cons (pe_tup (pa_cons (pe_ix (ix_tupK (K := K)) (pv 4) pe_int (fun _ _ => rfl)) (pa_cons pe_int pa_nil))) pa_nil)))) (pss_cons (ps_set (i := 6) sc__law_direction_so.nd rfl (.inl rfl) (pe_ifExp (pt_cmpR op_ne (pe_ix (ix_tupK (K := K)) (pv 4) pe_int (fun _ _ => rfl)) pe_int (nomark _)) (pe_call G_divided (hr.mono (by decide)) (by rfl) M_divided F_divided.kp B_divided .nil pass0 (pa_cons (pe_ix (ix_tupK (K := K)) (pv 0) pe_int (fun _ _ => rfl)) (pa_cons (pe_ix (ix_tupK (K := K)) (pv 5) pe_int (fun _ _ => rfl)) pa_nil))) pe_false)) (pss_cons (ps_if (pt_not (pt_val (pe_call G__law_same (hr.mono (by decide)) (by rfl) M__law_same F__law_same.kp B__law_same .nil pass0 (pa_cons (pe_lst (pa_cons (pe_call G_vector_times (hr.mono (by decide)) (by rfl) M_vector_times F_vector_times.kp B_vector_times .nil pass0 (pa_cons (pv 5) (pa_cons (pv 6) pa_nil))) (pa_cons (pe_call G_direction (hr.mono (by decide)) (by rfl) M_direction F_direction.kp B_direction .nil pass0 (pa_cons (pv 5) pa_nil)) pa_nil))) (pa_cons (pe_lst (pa_cons (pv 0) (pa_cons (pv 4) pa_nil))) pa_nil))))) (pss_one ps_never) pss_nil) (pss_cons (ps_set (i := 7) sc__law_direction_so.nd rfl (.inr rfl) (pe_call G_vector_times (hr.mono (by decide)) (by rfl) M_vector_times F_vector_times.kp B_vector_times .nil pass0 (pa_cons (pv 0) (pa_cons (pv 1) pa_nil)))) (pss_one (ps_ret (pe_call G__law_same (hr.mono (by decide)) (by rfl) M__law_same F__law_same.kp B__law_same .nil pass0 (pa_cons (pe_lamcallT (T := lamT Pt) (TT := TGot K A B) (Ng := ["_law_ask", "_law_e"]) (a := "_law_ask") (k := 3) (by rfl) M__law_got F__law_got.kp lk_got hcd_got B__law_got sc__law_got rfl (.inl rfl) (got_gives (k := 3) hA hB0 M__law_fields F__law_fields.kp B__law_fields G__law_fields (hr.mono (by decide))) TB rfl (List.mem_singleton.mpr rfl) (fun p hp _ => by rw [List.mem_singleton.mp hp]; rfl) (hr.mono (by decide)) (LamX.lamS_by (by show LamX.lamSB (defScope s__law_direction_so) _ = true; decide +kernel)) rfl (fun _ _ _ _ _ => rfl) (fun _ _ _ _ _ _ _ hr2 => (pe_call GX_direction (hr2.mono (by decide)) (by rfl) M_direction F_direction.kp B_direction .nil (passes_call (takes_of rfl rfl rfl rfl) (fun _ _ _ _ h => h)) (pa_cons (pv 7) pa_nil)))) (pa_cons (pe_ifExp (pt_cmpR op_eq (pe_ix (ix_tupK (K := K)) (pv 1) pe_int (fun _ _ => rfl)) pe_int (nomark _)) pe_false (pe_tup (pa_cons pe_str (pa_cons (pv 4) pa_nil)))) pa_nil))))))))))))), ?_⟩
      with_reducible refine k_seq ?_
      with_reducible refine k_par ?_
      with_reducible refine k_argX ?_
      refine k_got tg hB (fun H1 e1 hB1 => ?_)
      with_reducible refine k_call ?_
      refine k_arg (val_var rfl) ?_
      with_reducible refine k_nil ?_
      have zd1 : Sz 200 (d0 (x) (y)) ∧ Sz 200 (d1 (x) (y)) := sz_dir (n := 100) (hx.mono (by first | omega | (dsimp only; omega))) (hy.mono (by first | omega | (dsimp only; omega))) hv
      refine Or.inl (k_spF (x, y, 100) hB1 (rcons ((r0_0.up hB (e1.imp tg.on))) (rnil (K := K))) ⟨(hx.mono (by first | omega | (dsimp only; omega))), (hy.mono (by first | omega | (dsimp only; omega))), (by first | omega | (dsimp only; omega)), nz_iff.mpr hv⟩ (fun v2 H2 r2 s2 hB2 => ?_))
      replace r2 : Rep K G.M H2 (.tup [.int ((d0 (x) (y))), .int ((d1 (x) (y)))]) v2 := r2
      refine got_val hB2 (r2) (fun v3 H3 r3 s3 hB3 => ?_)
      with_reducible refine k_argX ?_
      refine k_got tg hB3 (fun H4 e4 hB4 => ?_)
      with_reducible refine k_callN ?_
      with_reducible refine k_nil ?_
      refine k_arg (val_var rfl) ?_
      with_reducible refine k_nil ?_
      refine ⟨rfl, rfl, ?_⟩
      have zd2 : Sz 200 (d0 (x) (y)) ∧ Sz 200 (d1 (x) (y)) := sz_dir (n := 100) (hx.mono (by first | omega | (dsimp only; omega))) (hy.mono (by first | omega | (dsimp only; omega))) hv
      have q3 := ((((r0_0.up hB (e1.imp tg.on)).up hB1 (Ex.of s2)).up hB2 (Ex.of s3)).up hB3 (e4.imp tg.on))
      refine Or.inl (k_spF (x, y, 100) hB4 (rcons (q3) (rnil (K := K))) ⟨(hx.mono (by first | omega | (dsimp only; omega))), (hy.mono (by first | omega | (dsimp only; omega))), (by first | omega | (dsimp only; omega)), nz_iff.mpr hv⟩ (fun v5 H5 r5 s5 hB5 => ?_))
      replace r5 : Rep K G.M H5 (.tup [.int ((d0 (x) (y))), .int ((d1 (x) (y)))]) v5 := r5
      refine got_val hB5 (r5) (fun v6 H6 r6 s6 hB6 => ?_)
      with_reducible refine k_nil ?_
      refine ⟨_, _, rfl, ?_⟩
      with_reducible refine k_seq ?_
      with_reducible refine k_ifX ?_
      with_reducible refine k_and ?_
      with_reducible refine k_T ?_
      with_reducible refine k_opX ?_
      with_reducible refine k_opX ?_
      with_reducible refine k_opX ?_
      refine k_val (val_var rfl) ?_
      refine k_val val_c ?_
      have q5 := ((q3.up hB4 (Ex.of s5)).up hB5 (Ex.of s6))
      refine f_ixT (k := 0) (q5) rfl (fun w4 rw4 => ?_)
      refine k_val val_c ?_
      refine f_ixT (k := 0) (rw4) rfl (fun w6 rw6 => ?_)
      obtain rfl := int_of rw6
      refine k_val val_c ?_
      refine f_eqI ?_
      refine ⟨false, congrArg V.bl (show ((decide ((x).num = (0 : Int)))) = false from num_f hx0), ?_⟩
      refine iteF ?_
      refine iteF ?_
      with_reducible refine k_next ?_
      with_reducible refine k_seq ?_
      with_reducible refine k_ifX ?_
      with_reducible refine k_or ?_
      with_reducible refine k_not ?_
      with_reducible refine k_B ?_
      with_reducible refine k_call ?_
      refine k_arg (val_var rfl) ?_
      refine k_arg (val_var rfl) ?_
      with_reducible refine k_nil ?_
      have q7 := (((r3.up hB3 (e4.imp tg.on)).up hB4 (Ex.of s5)).up hB5 (Ex.of s6))
      refine k_spF (.tup [.str (("" : Str)), .tup [.int ((d0 (x) (y))), .int ((d1 (x) (y)))]]) hB6 (rcons (q7) (rcons (r6) (rnil (K := K)))) rfl (fun v7 H7 r7 s7 hB7 => ?_)
      obtain rfl := bl_of (b := true) r7
      refine ⟨_, rfl, ?_⟩
      refine iteF ?_
      with_reducible refine k_or ?_
      with_reducible refine k_T ?_
      refine k_val (v_neV (v_ixS (k := 0) (val_var rfl) ((q7.up hB6 (Ex.of s7))) val_c rfl) val_c) ?_
      refine ⟨_, rfl, ?_⟩
      refine iteF ?_
      with_reducible refine k_not ?_
      with_reducible refine k_B ?_
      with_reducible refine k_call ?_
      with_reducible refine k_argX ?_
      with_reducible refine k_opX ?_
      refine k_val (val_var rfl) ?_
      refine k_val val_c ?_
      refine f_ixT (k := 1) ((q7.up hB6 (Ex.of s7))) rfl (fun w8 rw8 => ?_)
      refine k_arg (val_var rfl) ?_
      with_reducible refine k_nil ?_
      refine k_spF (x, y, (d0 (x) (y)), (d1 (x) (y)), 200) hB7 (rcons (rw8) (rcons ((q5.up hB6 (Ex.of s7))) (rnil (K := K)))) ⟨(hx.mono (by first | omega | (dsimp only; omega))), (hy.mono (by first | omega | (dsimp only; omega))), (zd1.1.mono (by first | omega | (dsimp only; omega))), (zd1.2.mono (by first | omega | (dsimp only; omega))), dir_prim hv, dir_par, (by first | omega | (dsimp only; omega))⟩ (fun v8 H8 r8 s8 hB8 => ?_)
      obtain rfl := bl_of (b := true) r8
      refine ⟨_, rfl, ?_⟩
      refine iteF ?_
      with_reducible refine k_next ?_
      with_reducible refine k_seq ?_
      with_reducible refine k_set ?_
      with_reducible refine k_opX ?_
      refine k_val (val_var rfl) ?_
      refine k_val val_c ?_
      have q10 := ((q7.up hB6 (Ex.of s7)).up hB7 (Ex.of s8))
      refine f_ixT (k := 1) (q10) rfl (fun w9 rw9 => ?_)
      with_reducible refine k_seq ?_
      with_reducible refine k_set ?_
      with_reducible refine k_tup ?_
      with_reducible refine k_argX ?_
      with_reducible refine k_tup ?_
      refine k_arg (v_ixI (k := 0) (val_var rfl) (rw9) val_c rfl) ?_
      refine k_arg val_c ?_
      with_reducible refine k_nil ?_
      refine k_tup_end hB8 (rcons (rint _) (rcons (rint _) (rnil (K := K)))) (fun v9 H9 r9 s9 hB9 => ?_)
      replace r9 : Rep K G.M H9 (fr (((d0 (x) (y)) : Int) : Rat)) v9 := r9
      with_reducible refine k_argX ?_
      with_reducible refine k_tup ?_
      refine k_arg (v_ixI (k := 1) (val_var rfl) ((rw9.up hB8 (Ex.of s9))) val_c rfl) ?_
      refine k_arg val_c ?_
      with_reducible refine k_nil ?_
      refine k_tup_end hB9 (rcons (rint _) (rcons (rint _) (rnil (K := K)))) (fun v10 H10 r10 s10 hB10 => ?_)
      replace r10 : Rep K G.M H10 (fr (((d1 (x) (y)) : Int) : Rat)) v10 := r10
      with_reducible refine k_nil ?_
      refine k_tup_end hB10 (rcons ((r9.up hB9 (Ex.of s10))) (rcons (r10) (rnil (K := K)))) (fun v11 H11 r11 s11 hB11 => ?_)
      with_reducible refine k_seq ?_
      with_reducible refine k_set ?_
      with_reducible refine k_ifE ?_
      with_reducible refine k_T ?_
      have q11 := (((rw9.up hB8 (Ex.of s9)).up hB9 (Ex.of s10)).up hB10 (Ex.of s11))
      refine k_val (v_neI (v_ixI (k := 0) (val_var rfl) (q11) val_c rfl) val_c) ?_
      refine ⟨true, congrArg V.bl (show ((!decide ((d0 (x) (y)) = (0 : Int)))) = true from by rw [decide_eq_false (d0_ne hx0)]; rfl), ?_⟩
      refine iteT ?_
      with_reducible refine k_call ?_
      with_reducible refine k_argX ?_
      with_reducible refine k_opX ?_
      refine k_val (val_var rfl) ?_
      refine k_val val_c ?_
      have q13 := (((((q5.up hB6 (Ex.of s7)).up hB7 (Ex.of s8)).up hB8 (Ex.of s9)).up hB9 (Ex.of s10)).up hB10 (Ex.of s11))
      refine f_ixT (k := 0) (q13) rfl (fun w12 rw12 => ?_)
      with_reducible refine k_argX ?_
      with_reducible refine k_opX ?_
      refine k_val (val_var rfl) ?_
      refine k_val val_c ?_
      refine f_ixT (k := 0) (r11) rfl (fun w14 rw14 => ?_)
      with_reducible refine k_nil ?_
      refine k_spF (x, (((d0 (x) (y)) : Int) : Rat), 100, 200) hB11 (rcons (rw12) (rcons (rw14) (rnil (K := K)))) ⟨hx, (show SzR 200 (((d0 (x) (y)) : Int) : Rat) from ⟨zd1.1, sz_lit 200 (1 : Int)⟩), (by first | omega | (dsimp only; omega)), (ic_ne (d0_ne hx0))⟩ (fun v12 H12 r12 s12 hB12 => ?_)
      replace r12 : Rep K G.M H12 ((fr ((x / (((d0 (x) (y)) : Int) : Rat))))) v12 := r12
      have z12 : SzR 300 ((x / (((d0 (x) (y)) : Int) : Rat))) := (szr_div hx (show SzR 200 (((d0 (x) (y)) : Int) : Rat) from ⟨zd1.1, sz_lit 200 (1 : Int)⟩) (ic_ne (d0_ne hx0)) (by omega))
      with_reducible refine k_seq ?_
      with_reducible refine k_ifX ?_
      with_reducible refine k_not ?_
      with_reducible refine k_B ?_
      with_reducible refine k_call ?_
      with_reducible refine k_argX ?_
      with_reducible refine k_lst ?_
      with_reducible refine k_argX ?_
      with_reducible refine k_call ?_
      refine k_arg (val_var rfl) ?_
      refine k_arg (val_var rfl) ?_
      with_reducible refine k_nil ?_
      refine k_spF ((((d0 (x) (y)) : Int) : Rat), (((d1 (x) (y)) : Int) : Rat), (x / (((d0 (x) (y)) : Int) : Rat)), 300) hB12 (rcons ((r11.up hB11 (Ex.of s12))) (rcons (r12) (rnil (K := K)))) ⟨((show SzR 200 (((d0 (x) (y)) : Int) : Rat) from ⟨zd1.1, sz_lit 200 (1 : Int)⟩).mono (by first | omega | (dsimp only; omega))), ((show SzR 200 (((d1 (x) (y)) : Int) : Rat) from ⟨zd1.2, sz_lit 200 (1 : Int)⟩).mono (by first | omega | (dsimp only; omega))), (z12.mono (by first | omega | (dsimp only; omega))), (by first | omega | (dsimp only; omega))⟩ (fun v13 H13 r13 s13 hB13 => ?_)
      replace r13 : Rep K G.M H13 (.tup [(fr (((((d0 (x) (y)) : Int) : Rat) * (x / (((d0 (x) (y)) : Int) : Rat))))), (fr (((((d1 (x) (y)) : Int) : Rat) * (x / (((d0 (x) (y)) : Int) : Rat)))))]) v13 := r13
      have z13_0 : SzR 600 (((((d0 (x) (y)) : Int) : Rat) * (x / (((d0 (x) (y)) : Int) : Rat)))) := (szr_mul (show SzR 200 (((d0 (x) (y)) : Int) : Rat) from ⟨zd1.1, sz_lit 200 (1 : Int)⟩) z12 (by omega))
      have z13_1 : SzR 600 (((((d1 (x) (y)) : Int) : Rat) * (x / (((d0 (x) (y)) : Int) : Rat)))) := (szr_mul (show SzR 200 (((d1 (x) (y)) : Int) : Rat) from ⟨zd1.2, sz_lit 200 (1 : Int)⟩) z12 (by omega))
      with_reducible refine k_argX ?_
      with_reducible refine k_call ?_
      refine k_arg (val_var rfl) ?_
      with_reducible refine k_nil ?_
      have zd15 : Sz 400 (d0 ((((d0 (x) (y)) : Int) : Rat)) ((((d1 (x) (y)) : Int) : Rat))) ∧ Sz 400 (d1 ((((d0 (x) (y)) : Int) : Rat)) ((((d1 (x) (y)) : Int) : Rat))) := sz_dir (n := 200) ((show SzR 200 (((d0 (x) (y)) : Int) : Rat) from ⟨zd1.1, sz_lit 200 (1 : Int)⟩).mono (by first | omega | (dsimp only; omega))) ((show SzR 200 (((d1 (x) (y)) : Int) : Rat) from ⟨zd1.2, sz_lit 200 (1 : Int)⟩).mono (by first | omega | (dsimp only; omega))) (unit_nz (dir_prim hv))
      have q16 := ((r11.up hB11 (Ex.of s12)).up hB12 (Ex.of s13))
      refine k_spF ((((d0 (x) (y)) : Int) : Rat), (((d1 (x) (y)) : Int) : Rat), 200) hB13 (rcons (q16) (rnil (K := K))) ⟨((show SzR 200 (((d0 (x) (y)) : Int) : Rat) from ⟨zd1.1, sz_lit 200 (1 : Int)⟩).mono (by first | omega | (dsimp only; omega))), ((show SzR 200 (((d1 (x) (y)) : Int) : Rat) from ⟨zd1.2, sz_lit 200 (1 : Int)⟩).mono (by first | omega | (dsimp only; omega))), (by first | omega | (dsimp only; omega)), nz_iff.mpr (unit_nz (dir_prim hv))⟩ (fun v14 H14 r14 s14 hB14 => ?_)
      replace r14 : Rep K G.M H14 (.tup [.int ((d0 ((((d0 (x) (y)) : Int) : Rat)) ((((d1 (x) (y)) : Int) : Rat)))), .int ((d1 ((((d0 (x) (y)) : Int) : Rat)) ((((d1 (x) (y)) : Int) : Rat))))]) v14 := r14
      with_reducible refine k_nil ?_
      refine k_lst_end hB14 (rcons ((r13.up hB13 (Ex.of s14))) (rcons (r14) (rnil (K := K)))) (fun v15 H15 r15 s15 hB15 => ?_)
      with_reducible refine k_argX ?_
      with_reducible refine k_lst ?_
      refine k_arg (val_var rfl) ?_
      refine k_arg (val_var rfl) ?_
      with_reducible refine k_nil ?_
      have q17 := ((((q11.up hB11 (Ex.of s12)).up hB12 (Ex.of s13)).up hB13 (Ex.of s14)).up hB14 (Ex.of s15))
      have q18 := ((((q13.up hB11 (Ex.of s12)).up hB12 (Ex.of s13)).up hB13 (Ex.of s14)).up hB14 (Ex.of s15))
      refine k_lst_end hB15 (rcons (q18) (rcons (q17) (rnil (K := K)))) (fun v16 H16 r16 s16 hB16 => ?_)
      with_reducible refine k_nil ?_
      have he19 : (.lst [.tup [(fr (x)), (fr (y))], .tup [.int ((d0 (x) (y))), .int ((d1 (x) (y)))]] : D) = .lst [.tup [(fr (((((d0 (x) (y)) : Int) : Rat) * (x / (((d0 (x) (y)) : Int) : Rat))))), (fr (((((d1 (x) (y)) : Int) : Rat) * (x / (((d0 (x) (y)) : Int) : Rat)))))], .tup [.int ((d0 ((((d0 (x) (y)) : Int) : Rat)) ((((d1 (x) (y)) : Int) : Rat)))), .int ((d1 ((((d0 (x) (y)) : Int) : Rat)) ((((d1 (x) (y)) : Int) : Rat))))]] := by first | rfl | exact same_unitA ‹_› | exact same_unitB ‹_› ‹_› | exact same_long ‹_› ‹_›
      have re20 : Rep K G.M H16 (.lst [.tup [(fr (((((d0 (x) (y)) : Int) : Rat) * (x / (((d0 (x) (y)) : Int) : Rat))))), (fr (((((d1 (x) (y)) : Int) : Rat) * (x / (((d0 (x) (y)) : Int) : Rat)))))], .tup [.int ((d0 ((((d0 (x) (y)) : Int) : Rat)) ((((d1 (x) (y)) : Int) : Rat)))), .int ((d1 ((((d0 (x) (y)) : Int) : Rat)) ((((d1 (x) (y)) : Int) : Rat))))]]) v16 := by rw [← he19]; exact (r16)
      refine k_spF (.lst [.tup [(fr (((((d0 (x) (y)) : Int) : Rat) * (x / (((d0 (x) (y)) : Int) : Rat))))), (fr (((((d1 (x) (y)) : Int) : Rat) * (x / (((d0 (x) (y)) : Int) : Rat)))))], .tup [.int ((d0 ((((d0 (x) (y)) : Int) : Rat)) ((((d1 (x) (y)) : Int) : Rat)))), .int ((d1 ((((d0 (x) (y)) : Int) : Rat)) ((((d1 (x) (y)) : Int) : Rat))))]]) hB16 (rcons ((r15.up hB15 (Ex.of s16))) (rcons re20 (rnil (K := K)))) rfl (fun v17 H17 r17 s17 hB17 => ?_)
      obtain rfl := bl_of (b := true) r17
      refine ⟨_, rfl, ?_⟩
      refine iteF ?_
      with_reducible refine k_next ?_
      with_reducible refine k_seq ?_
      with_reducible refine k_set ?_
      with_reducible refine k_call ?_
      refine k_arg (val_var rfl) ?_
      refine k_arg (val_var rfl) ?_
      with_reducible refine k_nil ?_
      have q21 := (((((((((((((((((r0_1.up hB (e1.imp tg.on)).up hB1 (Ex.of s2)).up hB2 (Ex.of s3)).up hB3 (e4.imp tg.on)).up hB4 (Ex.of s5)).up hB5 (Ex.of s6)).up hB6 (Ex.of s7)).up hB7 (Ex.of s8)).up hB8 (Ex.of s9)).up hB9 (Ex.of s10)).up hB10 (Ex.of s11)).up hB11 (Ex.of s12)).up hB12 (Ex.of s13)).up hB13 (Ex.of s14)).up hB14 (Ex.of s15)).up hB15 (Ex.of s16)).up hB16 (Ex.of s17))
      have q22 := ((q18.up hB15 (Ex.of s16)).up hB16 (Ex.of s17))
      refine k_spF (x, y, z, 100) hB17 (rcons (q22) (rcons (q21) (rnil (K := K)))) ⟨(hx.mono (by first | omega | (dsimp only; omega))), (hy.mono (by first | omega | (dsimp only; omega))), (hz.mono (by first | omega | (dsimp only; omega))), (by first | omega | (dsimp only; omega))⟩ (fun v18 H18 r18 s18 hB18 => ?_)
      replace r18 : Rep K G.M H18 (.tup [(fr ((x * z))), (fr ((y * z)))]) v18 := r18
      have z18_0 : SzR 200 ((x * z)) := (szr_mul hx hz (by omega))
      have z18_1 : SzR 200 ((y * z)) := (szr_mul hy hz (by omega))
      with_reducible refine k_ret ?_
      with_reducible refine k_call ?_
      with_reducible refine k_argX ?_
      refine k_got tg hB18 (fun H19 e19 hB19 => ?_)
      with_reducible refine k_call ?_
      refine k_arg (val_var rfl) ?_
      with_reducible refine k_nil ?_
      have zd23 : Sz 400 (d0 ((x * z)) ((y * z))) ∧ Sz 400 (d1 ((x * z)) ((y * z))) := sz_dir (n := 200) (z18_0.mono (by first | omega | (dsimp only; omega))) (z18_1.mono (by first | omega | (dsimp only; omega))) (long_nz hv hz0)
      refine Or.inl (k_spF ((x * z), (y * z), 200) hB19 (rcons ((r18.up hB18 (e19.imp tg.on))) (rnil (K := K))) ⟨(z18_0.mono (by first | omega | (dsimp only; omega))), (z18_1.mono (by first | omega | (dsimp only; omega))), (by first | omega | (dsimp only; omega)), nz_iff.mpr (long_nz hv hz0)⟩ (fun v20 H20 r20 s20 hB20 => ?_))
      replace r20 : Rep K G.M H20 (.tup [.int ((d0 ((x * z)) ((y * z)))), .int ((d1 ((x * z)) ((y * z))))]) v20 := r20
      refine got_val hB20 (r20) (fun v21 H21 r21 s21 hB21 => ?_)
      with_reducible refine k_argX ?_
      with_reducible refine k_ifE ?_
      with_reducible refine k_T ?_
      have q24 := ((((q21.up hB17 (Ex.of s18)).up hB18 (e19.imp tg.on)).up hB19 (Ex.of s20)).up hB20 (Ex.of s21))
      refine k_val (v_eqI (v_ixI (k := 0) (val_var rfl) (q24) val_c rfl) val_c) ?_
      refine ⟨false, congrArg V.bl (show ((decide ((z).num = (0 : Int)))) = false from num_f hz0), ?_⟩
      refine iteF ?_
      with_reducible refine k_tup ?_
      refine k_arg val_c ?_
      refine k_arg (val_var rfl) ?_
      with_reducible refine k_nil ?_
      have q25 := ((((((q17.up hB15 (Ex.of s16)).up hB16 (Ex.of s17)).up hB17 (Ex.of s18)).up hB18 (e19.imp tg.on)).up hB19 (Ex.of s20)).up hB20 (Ex.of s21))
      refine k_tup_end hB21 (rcons (rstr _) (rcons (q25) (rnil (K := K)))) (fun v22 H22 r22 s22 hB22 => ?_)
      with_reducible refine k_nil ?_
      have he26 : (.tup [.str (("" : Str)), .tup [.int ((d0 (x) (y))), .int ((d1 (x) (y)))]] : D) = .tup [.str (("" : Str)), .tup [.int ((d0 ((x * z)) ((y * z)))), .int ((d1 ((x * z)) ((y * z))))]] := by first | rfl | exact same_unitA ‹_› | exact same_unitB ‹_› ‹_› | exact same_long ‹_› ‹_›
      have re27 : Rep K G.M H22 (.tup [.str (("" : Str)), .tup [.int ((d0 ((x * z)) ((y * z)))), .int ((d1 ((x * z)) ((y * z))))]]) v22 := by rw [← he26]; exact (r22)
      refine k_spF (.tup [.str (("" : Str)), .tup [.int ((d0 ((x * z)) ((y * z)))), .int ((d1 ((x * z)) ((y * z))))]]) hB22 (rcons ((r21.up hB21 (Ex.of s22))) (rcons re27 (rnil (K := K)))) rfl (fun v23 H23 r23 s23 hB23 => ?_)
      obtain rfl := bl_of (b := true) r23
      exact k _ _ _ rfl (rbl _) (e1.trans ((Ex.of s2).trans ((Ex.of s3).trans (e4.trans ((Ex.of s5).trans ((Ex.of s6).trans ((Ex.of s7).trans ((Ex.of s8).trans ((Ex.of s9).trans ((Ex.of s10).trans ((Ex.of s11).trans ((Ex.of s12).trans ((Ex.of s13).trans ((Ex.of s14).trans ((Ex.of s15).trans ((Ex.of s16).trans ((Ex.of s17).trans ((Ex.of s18).trans (e19.trans ((Ex.of s20).trans ((Ex.of s21).trans ((Ex.of s22).trans (Ex.of s23))))))))))))))))))))))) hB23
    · have hv : ¬ (x = 0 ∧ y = 0) := fun q => hx0 q.1
      refine ⟨_, (pss_cons (ps_par (i := 2) (j := 3) (by rfl) sc__law_direction_so.nd rfl rfl (by decide) rfl rfl (pa_cons (pe_lamcallT (T := lamT Pt) (TT := TGot K A B) (Ng := ["_law_ask", "_law_e"]) (a := "_law_ask") (k := 3) (by rfl) M__law_got F__law_got.kp lk_got hcd_got B__law_got sc__law_got rfl (.inl rfl) (got_gives (k := 3) hA hB0 M__law_fields F__law_fields.kp B__law_fields G__law_fields (hr.mono (by decide))) TB rfl (List.mem_singleton.mpr rfl) (fun p hp _ => by rw [List.mem_singleton.mp hp]; rfl) (hr.mono (by decide)) (LamX.lamS_by (by show LamX.lamSB (defScope s__law_direction_so) _ = true; decide +kernel)) rfl (fun _ _ _ _ _ => rfl) (fun _ _ _ _ _ _ _ hr2 => (pe_call GX_direction (hr2.mono (by decide)) (by rfl) M_direction F_direction.kp B_direction .nil (passes_call (takes_of rfl rfl rfl rfl) (fun _ _ _ _ h => h)) (pa_cons (pv 0) pa_nil)))) (pa_cons (pe_lamcallD (T := lamT Pt) (TT := TGot K A B) (Ng := ["_law_ask", "_law_e"]) (a := "_law_ask") (k := 3) (kn := "_law_k") (n := 0) (by rfl) M__law_got F__law_got.kp lk_got hcd_got B__law_got sc__law_got rfl (.inl rfl) (got_gives (k := 3) hA hB0 M__law_fields F__law_fields.kp B__law_fields G__law_fields (hr.mono (by decide))) TB rfl (List.mem_singleton.mpr rfl) (fun p hp _ => by rw [List.mem_singleton.mp hp]; rfl) (hr.mono (by decide)) (lamSD_by (by show lamSDB ["_law_v", "_law_w", "_law_first", "_law_later", "_law_d", "_law_unit", "_law_part", "_law_long"] "_law_k" (defScope s__law_direction_so) _ = true; decide +kernel)) rfl rfl (fun _ _ _ _ _ _ _ => ⟨_, rfl, rfl⟩) (fun _ _ _ _ _ _ _ hr2 => (pe_callN0 GX_direction (hr2.mono (by decide)) (by rfl) M_direction F_direction.kp KB_direction_0_vector (passes_call (takes_of rfl rfl rfl rfl) (fun _ _ _ _ h => h))  (pk_cons (pv 0) pk_nil)))) pa_nil)) (by rfl)) (pss_cons (ps_if (PW.pt (pw_and (pt_cmpR op_eq (pe_ix (ix_tupK (K := K)) (pe_ix (ix_tupK (K := K)) (pv 0) pe_int (fun _ _ => rfl)) pe_int (fun _ _ => rfl)) pe_int (nomark _)) (pw_and1 pt_false))) (pss_one ps_never) pss_nil) (pss_cons (ps_if (PW.pt (pw_or (pt_not (pt_val (pe_call G__law_same (hr.mono (by decide)) (by rfl) M__law_same F__law_same.kp B__law_same .nil pass0 (pa_cons (pv 2) (pa_cons (pv 3) pa_nil))))) (pw_or (pt_cmpR op_ne (pe_ix (ix_tupK (K := K)) (pv 2) pe_int (fun _ _ => rfl)) pe_str (nomark _)) (pw_or1 (pt_not (pt_val (pe_call G__law_is_direction (hr.mono (by decide)) (by rfl) M__law_is_direction F__law_is_direction.kp B__law_is_direction .nil pass0 (pa_cons (pe_ix (ix_tupK (K := K)) (pv 2) pe_int (fun _ _ => rfl)) (pa_cons (pv 0) pa_nil))))))))) (pss_one ps_never) pss_nil) (pss_cons (ps_set (i := 4) sc__law_direction_so.nd rfl (.inl rfl) (pe_ix (ix_tupK (K := K)) (pv 2) pe_int (fun _ _ => rfl))) (pss_cons (ps_set (i := 5) sc__law_direction_so.nd rfl (.inl rfl) (pe_tup (pa_cons (pe_tup (pa_cons (pe_ix (ix_tupK (K := K)) (pv 4) pe_int (fun _ _ => rfl)) (pa_cons pe_int pa_nil))) (pa_cons (pe_tup (pa_cons (pe_ix (ix_tupK (K := K)) (pv 4) pe_int (fun _ _ => rfl)) (pa_cons pe_int pa_nil))) pa_nil)))) (pss_cons (ps_set (i := 6) sc__law_direction_so.nd rfl (.inl rfl) (pe_ifExp (pt_cmpR op_ne (pe_ix (ix_tupK (K := K)) (pv 4) pe_int (fun _ _ => rfl)) pe_int (nomark _)) (pe_call G_divided (hr.mono (by decide)) (by rfl) M_divided F_divided.kp B_divided .nil pass0 (pa_cons (pe_ix (ix_tupK (K := K)) (pv 0) pe_int (fun _ _ => rfl)) (pa_cons (pe_ix (ix_tupK (K := K)) (pv 5) pe_int (fun _ _ => rfl)) pa_nil))) pe_false)) (pss_cons (ps_if (pt_not (pt_val (pe_call G__law_same (hr.mono (by decide)) (by rfl) M__law_same F__law_same.kp B__law_same .nil pass0 (pa_cons (pe_lst (pa_cons (pe_call G_vector_times (hr.mono (by decide)) (by rfl) M_vector_times F_vector_times.kp B_vector_times .nil pass0 (pa_cons (pv 5) (pa_cons (pv 6) pa_nil))) (pa_cons (pe_call G_direction (hr.mono (by decide)) (by rfl) M_direction F_direction.kp B_direction .nil pass0 (pa_cons (pv 5) pa_nil)) pa_nil))) (pa_cons (pe_lst (pa_cons (pv 0) (pa_cons (pv 4) pa_nil))) pa_nil))))) (pss_one ps_never) pss_nil) (pss_cons (ps_set (i := 7) sc__law_direction_so.nd rfl (.inr rfl) (pe_call G_vector_times (hr.mono (by decide)) (by rfl) M_vector_times F_vector_times.kp B_vector_times .nil pass0 (pa_cons (pv 0) (pa_cons (pv 1) pa_nil)))) (pss_one (ps_ret (pe_call G__law_same (hr.mono (by decide)) (by rfl) M__law_same F__law_same.kp B__law_same .nil pass0 (pa_cons (pe_lamcallT (T := lamT Pt) (TT := TGot K A B) (Ng := ["_law_ask", "_law_e"]) (a := "_law_ask") (k := 3) (by rfl) M__law_got F__law_got.kp lk_got hcd_got B__law_got sc__law_got rfl (.inl rfl) (got_gives (k := 3) hA hB0 M__law_fields F__law_fields.kp B__law_fields G__law_fields (hr.mono (by decide))) TB rfl (List.mem_singleton.mpr rfl) (fun p hp _ => by rw [List.mem_singleton.mp hp]; rfl) (hr.mono (by decide)) (LamX.lamS_by (by show LamX.lamSB (defScope s__law_direction_so) _ = true; decide +kernel)) rfl (fun _ _ _ _ _ => rfl) (fun _ _ _ _ _ _ _ hr2 => (pe_call GX_direction (hr2.mono (by decide)) (by rfl) M_direction F_direction.kp B_direction .nil (passes_call (takes_of rfl rfl rfl rfl) (fun _ _ _ _ h => h)) (pa_cons (pv 7) pa_nil)))) (pa_cons (pe_ifExp (pt_cmpR op_eq (pe_ix (ix_tupK (K := K)) (pv 1) pe_int (fun _ _ => rfl)) pe_int (nomark _)) (pe_tup (pa_cons pe_str pa_nil)) pe_false) pa_nil))))))))))))), ?_⟩
      with_reducible refine k_seq ?_
      with_reducible refine k_par ?_
      with_reducible refine k_argX ?_
      refine k_got tg hB (fun H1 e1 hB1 => ?_)
      with_reducible refine k_call ?_
      refine k_arg (val_var rfl) ?_
      with_reducible refine k_nil ?_
      have zd1 : Sz 200 (d0 (x) (y)) ∧ Sz 200 (d1 (x) (y)) := sz_dir (n := 100) (hx.mono (by first | omega | (dsimp only; omega))) (hy.mono (by first | omega | (dsimp only; omega))) hv
      refine Or.inl (k_spF (x, y, 100) hB1 (rcons ((r0_0.up hB (e1.imp tg.on))) (rnil (K := K))) ⟨(hx.mono (by first | omega | (dsimp only; omega))), (hy.mono (by first | omega | (dsimp only; omega))), (by first | omega | (dsimp only; omega)), nz_iff.mpr hv⟩ (fun v2 H2 r2 s2 hB2 => ?_))
      replace r2 : Rep K G.M H2 (.tup [.int ((d0 (x) (y))), .int ((d1 (x) (y)))]) v2 := r2
      refine got_val hB2 (r2) (fun v3 H3 r3 s3 hB3 => ?_)
      with_reducible refine k_argX ?_
      refine k_got tg hB3 (fun H4 e4 hB4 => ?_)
      with_reducible refine k_callN ?_
      with_reducible refine k_nil ?_
      refine k_arg (val_var rfl) ?_
      with_reducible refine k_nil ?_
      refine ⟨rfl, rfl, ?_⟩
      have zd2 : Sz 200 (d0 (x) (y)) ∧ Sz 200 (d1 (x) (y)) := sz_dir (n := 100) (hx.mono (by first | omega | (dsimp only; omega))) (hy.mono (by first | omega | (dsimp only; omega))) hv
      have q3 := ((((r0_0.up hB (e1.imp tg.on)).up hB1 (Ex.of s2)).up hB2 (Ex.of s3)).up hB3 (e4.imp tg.on))
      refine Or.inl (k_spF (x, y, 100) hB4 (rcons (q3) (rnil (K := K))) ⟨(hx.mono (by first | omega | (dsimp only; omega))), (hy.mono (by first | omega | (dsimp only; omega))), (by first | omega | (dsimp only; omega)), nz_iff.mpr hv⟩ (fun v5 H5 r5 s5 hB5 => ?_))
      replace r5 : Rep K G.M H5 (.tup [.int ((d0 (x) (y))), .int ((d1 (x) (y)))]) v5 := r5
      refine got_val hB5 (r5) (fun v6 H6 r6 s6 hB6 => ?_)
      with_reducible refine k_nil ?_
      refine ⟨_, _, rfl, ?_⟩
      with_reducible refine k_seq ?_
      with_reducible refine k_ifX ?_
      with_reducible refine k_and ?_
      with_reducible refine k_T ?_
      with_reducible refine k_opX ?_
      with_reducible refine k_opX ?_
      with_reducible refine k_opX ?_
      refine k_val (val_var rfl) ?_
      refine k_val val_c ?_
      have q5 := ((q3.up hB4 (Ex.of s5)).up hB5 (Ex.of s6))
      refine f_ixT (k := 0) (q5) rfl (fun w4 rw4 => ?_)
      refine k_val val_c ?_
      refine f_ixT (k := 0) (rw4) rfl (fun w6 rw6 => ?_)
      obtain rfl := int_of rw6
      refine k_val val_c ?_
      refine f_eqI ?_
      refine ⟨false, congrArg V.bl (show ((decide ((x).num = (0 : Int)))) = false from num_f hx0), ?_⟩
      refine iteF ?_
      refine iteF ?_
      with_reducible refine k_next ?_
      with_reducible refine k_seq ?_
      with_reducible refine k_ifX ?_
      with_reducible refine k_or ?_
      with_reducible refine k_not ?_
      with_reducible refine k_B ?_
      with_reducible refine k_call ?_
      refine k_arg (val_var rfl) ?_
      refine k_arg (val_var rfl) ?_
      with_reducible refine k_nil ?_
      have q7 := (((r3.up hB3 (e4.imp tg.on)).up hB4 (Ex.of s5)).up hB5 (Ex.of s6))
      refine k_spF (.tup [.str (("" : Str)), .tup [.int ((d0 (x) (y))), .int ((d1 (x) (y)))]]) hB6 (rcons (q7) (rcons (r6) (rnil (K := K)))) rfl (fun v7 H7 r7 s7 hB7 => ?_)
      obtain rfl := bl_of (b := true) r7
      refine ⟨_, rfl, ?_⟩
      refine iteF ?_
      with_reducible refine k_or ?_
      with_reducible refine k_T ?_
      refine k_val (v_neV (v_ixS (k := 0) (val_var rfl) ((q7.up hB6 (Ex.of s7))) val_c rfl) val_c) ?_
      refine ⟨_, rfl, ?_⟩
      refine iteF ?_
      with_reducible refine k_not ?_
      with_reducible refine k_B ?_
      with_reducible refine k_call ?_
      with_reducible refine k_argX ?_
      with_reducible refine k_opX ?_
      refine k_val (val_var rfl) ?_
      refine k_val val_c ?_
      refine f_ixT (k := 1) ((q7.up hB6 (Ex.of s7))) rfl (fun w8 rw8 => ?_)
      refine k_arg (val_var rfl) ?_
      with_reducible refine k_nil ?_
      refine k_spF (x, y, (d0 (x) (y)), (d1 (x) (y)), 200) hB7 (rcons (rw8) (rcons ((q5.up hB6 (Ex.of s7))) (rnil (K := K)))) ⟨(hx.mono (by first | omega | (dsimp only; omega))), (hy.mono (by first | omega | (dsimp only; omega))), (zd1.1.mono (by first | omega | (dsimp only; omega))), (zd1.2.mono (by first | omega | (dsimp only; omega))), dir_prim hv, dir_par, (by first | omega | (dsimp only; omega))⟩ (fun v8 H8 r8 s8 hB8 => ?_)
      obtain rfl := bl_of (b := true) r8
      refine ⟨_, rfl, ?_⟩
      refine iteF ?_
      with_reducible refine k_next ?_
      with_reducible refine k_seq ?_
      with_reducible refine k_set ?_
      with_reducible refine k_opX ?_
      refine k_val (val_var rfl) ?_
      refine k_val val_c ?_
      have q10 := ((q7.up hB6 (Ex.of s7)).up hB7 (Ex.of s8))
      refine f_ixT (k := 1) (q10) rfl (fun w9 rw9 => ?_)
      with_reducible refine k_seq ?_
      with_reducible refine k_set ?_
      with_reducible refine k_tup ?_
      with_reducible refine k_argX ?_
      with_reducible refine k_tup ?_
      refine k_arg (v_ixI (k := 0) (val_var rfl) (rw9) val_c rfl) ?_
      refine k_arg val_c ?_
      with_reducible refine k_nil ?_
      refine k_tup_end hB8 (rcons (rint _) (rcons (rint _) (rnil (K := K)))) (fun v9 H9 r9 s9 hB9 => ?_)
      replace r9 : Rep K G.M H9 (fr (((d0 (x) (y)) : Int) : Rat)) v9 := r9
      with_reducible refine k_argX ?_
      with_reducible refine k_tup ?_
      refine k_arg (v_ixI (k := 1) (val_var rfl) ((rw9.up hB8 (Ex.of s9))) val_c rfl) ?_
      refine k_arg val_c ?_
      with_reducible refine k_nil ?_
      refine k_tup_end hB9 (rcons (rint _) (rcons (rint _) (rnil (K := K)))) (fun v10 H10 r10 s10 hB10 => ?_)
      replace r10 : Rep K G.M H10 (fr (((d1 (x) (y)) : Int) : Rat)) v10 := r10
      with_reducible refine k_nil ?_
      refine k_tup_end hB10 (rcons ((r9.up hB9 (Ex.of s10))) (rcons (r10) (rnil (K := K)))) (fun v11 H11 r11 s11 hB11 => ?_)
      with_reducible refine k_seq ?_
      with_reducible refine k_set ?_
      with_reducible refine k_ifE ?_
      with_reducible refine k_T ?_
      have q11 := (((rw9.up hB8 (Ex.of s9)).up hB9 (Ex.of s10)).up hB10 (Ex.of s11))
      refine k_val (v_neI (v_ixI (k := 0) (val_var rfl) (q11) val_c rfl) val_c) ?_
      refine ⟨true, congrArg V.bl (show ((!decide ((d0 (x) (y)) = (0 : Int)))) = true from by rw [decide_eq_false (d0_ne hx0)]; rfl), ?_⟩
      refine iteT ?_
      with_reducible refine k_call ?_
      with_reducible refine k_argX ?_
      with_reducible refine k_opX ?_
      refine k_val (val_var rfl) ?_
      refine k_val val_c ?_
      have q13 := (((((q5.up hB6 (Ex.of s7)).up hB7 (Ex.of s8)).up hB8 (Ex.of s9)).up hB9 (Ex.of s10)).up hB10 (Ex.of s11))
      refine f_ixT (k := 0) (q13) rfl (fun w12 rw12 => ?_)
      with_reducible refine k_argX ?_
      with_reducible refine k_opX ?_
      refine k_val (val_var rfl) ?_
      refine k_val val_c ?_
      refine f_ixT (k := 0) (r11) rfl (fun w14 rw14 => ?_)
      with_reducible refine k_nil ?_
      refine k_spF (x, (((d0 (x) (y)) : Int) : Rat), 100, 200) hB11 (rcons (rw12) (rcons (rw14) (rnil (K := K)))) ⟨hx, (show SzR 200 (((d0 (x) (y)) : Int) : Rat) from ⟨zd1.1, sz_lit 200 (1 : Int)⟩), (by first | omega | (dsimp only; omega)), (ic_ne (d0_ne hx0))⟩ (fun v12 H12 r12 s12 hB12 => ?_)
      replace r12 : Rep K G.M H12 ((fr ((x / (((d0 (x) (y)) : Int) : Rat))))) v12 := r12
      have z12 : SzR 300 ((x / (((d0 (x) (y)) : Int) : Rat))) := (szr_div hx (show SzR 200 (((d0 (x) (y)) : Int) : Rat) from ⟨zd1.1, sz_lit 200 (1 : Int)⟩) (ic_ne (d0_ne hx0)) (by omega))
      with_reducible refine k_seq ?_
      with_reducible refine k_ifX ?_
      with_reducible refine k_not ?_
      with_reducible refine k_B ?_
      with_reducible refine k_call ?_
      with_reducible refine k_argX ?_
      with_reducible refine k_lst ?_
      with_reducible refine k_argX ?_
      with_reducible refine k_call ?_
      refine k_arg (val_var rfl) ?_
      refine k_arg (val_var rfl) ?_
      with_reducible refine k_nil ?_
      refine k_spF ((((d0 (x) (y)) : Int) : Rat), (((d1 (x) (y)) : Int) : Rat), (x / (((d0 (x) (y)) : Int) : Rat)), 300) hB12 (rcons ((r11.up hB11 (Ex.of s12))) (rcons (r12) (rnil (K := K)))) ⟨((show SzR 200 (((d0 (x) (y)) : Int) : Rat) from ⟨zd1.1, sz_lit 200 (1 : Int)⟩).mono (by first | omega | (dsimp only; omega))), ((show SzR 200 (((d1 (x) (y)) : Int) : Rat) from ⟨zd1.2, sz_lit 200 (1 : Int)⟩).mono (by first | omega | (dsimp only; omega))), (z12.mono (by first | omega | (dsimp only; omega))), (by first | omega | (dsimp only; omega))⟩ (fun v13 H13 r13 s13 hB13 => ?_)
      replace r13 : Rep K G.M H13 (.tup [(fr (((((d0 (x) (y)) : Int) : Rat) * (x / (((d0 (x) (y)) : Int) : Rat))))), (fr (((((d1 (x) (y)) : Int) : Rat) * (x / (((d0 (x) (y)) : Int) : Rat)))))]) v13 := r13
      have z13_0 : SzR 600 (((((d0 (x) (y)) : Int) : Rat) * (x / (((d0 (x) (y)) : Int) : Rat)))) := (szr_mul (show SzR 200 (((d0 (x) (y)) : Int) : Rat) from ⟨zd1.1, sz_lit 200 (1 : Int)⟩) z12 (by omega))
      have z13_1 : SzR 600 (((((d1 (x) (y)) : Int) : Rat) * (x / (((d0 (x) (y)) : Int) : Rat)))) := (szr_mul (show SzR 200 (((d1 (x) (y)) : Int) : Rat) from ⟨zd1.2, sz_lit 200 (1 : Int)⟩) z12 (by omega))
      with_reducible refine k_argX ?_
      with_reducible refine k_call ?_
      refine k_arg (val_var rfl) ?_
      with_reducible refine k_nil ?_
      have zd15 : Sz 400 (d0 ((((d0 (x) (y)) : Int) : Rat)) ((((d1 (x) (y)) : Int) : Rat))) ∧ Sz 400 (d1 ((((d0 (x) (y)) : Int) : Rat)) ((((d1 (x) (y)) : Int) : Rat))) := sz_dir (n := 200) ((show SzR 200 (((d0 (x) (y)) : Int) : Rat) from ⟨zd1.1, sz_lit 200 (1 : Int)⟩).mono (by first | omega | (dsimp only; omega))) ((show SzR 200 (((d1 (x) (y)) : Int) : Rat) from ⟨zd1.2, sz_lit 200 (1 : Int)⟩).mono (by first | omega | (dsimp only; omega))) (unit_nz (dir_prim hv))
      have q16 := ((r11.up hB11 (Ex.of s12)).up hB12 (Ex.of s13))
      refine k_spF ((((d0 (x) (y)) : Int) : Rat), (((d1 (x) (y)) : Int) : Rat), 200) hB13 (rcons (q16) (rnil (K := K))) ⟨((show SzR 200 (((d0 (x) (y)) : Int) : Rat) from ⟨zd1.1, sz_lit 200 (1 : Int)⟩).mono (by first | omega | (dsimp only; omega))), ((show SzR 200 (((d1 (x) (y)) : Int) : Rat) from ⟨zd1.2, sz_lit 200 (1 : Int)⟩).mono (by first | omega | (dsimp only; omega))), (by first | omega | (dsimp only; omega)), nz_iff.mpr (unit_nz (dir_prim hv))⟩ (fun v14 H14 r14 s14 hB14 => ?_)
      replace r14 : Rep K G.M H14 (.tup [.int ((d0 ((((d0 (x) (y)) : Int) : Rat)) ((((d1 (x) (y)) : Int) : Rat)))), .int ((d1 ((((d0 (x) (y)) : Int) : Rat)) ((((d1 (x) (y)) : Int) : Rat))))]) v14 := r14
      with_reducible refine k_nil ?_
      refine k_lst_end hB14 (rcons ((r13.up hB13 (Ex.of s14))) (rcons (r14) (rnil (K := K)))) (fun v15 H15 r15 s15 hB15 => ?_)
      with_reducible refine k_argX ?_
      with_reducible refine k_lst ?_
      refine k_arg (val_var rfl) ?_
      refine k_arg (val_var rfl) ?_
      with_reducible refine k_nil ?_
      have q17 := ((((q11.up hB11 (Ex.of s12)).up hB12 (Ex.of s13)).up hB13 (Ex.of s14)).up hB14 (Ex.of s15))
      have q18 := ((((q13.up hB11 (Ex.of s12)).up hB12 (Ex.of s13)).up hB13 (Ex.of s14)).up hB14 (Ex.of s15))
      refine k_lst_end hB15 (rcons (q18) (rcons (q17) (rnil (K := K)))) (fun v16 H16 r16 s16 hB16 => ?_)
      with_reducible refine k_nil ?_
      have he19 : (.lst [.tup [(fr (x)), (fr (y))], .tup [.int ((d0 (x) (y))), .int ((d1 (x) (y)))]] : D) = .lst [.tup [(fr (((((d0 (x) (y)) : Int) : Rat) * (x / (((d0 (x) (y)) : Int) : Rat))))), (fr (((((d1 (x) (y)) : Int) : Rat) * (x / (((d0 (x) (y)) : Int) : Rat)))))], .tup [.int ((d0 ((((d0 (x) (y)) : Int) : Rat)) ((((d1 (x) (y)) : Int) : Rat)))), .int ((d1 ((((d0 (x) (y)) : Int) : Rat)) ((((d1 (x) (y)) : Int) : Rat))))]] := by first | rfl | exact same_unitA ‹_› | exact same_unitB ‹_› ‹_› | exact same_long ‹_› ‹_›
      have re20 : Rep K G.M H16 (.lst [.tup [(fr (((((d0 (x) (y)) : Int) : Rat) * (x / (((d0 (x) (y)) : Int) : Rat))))), (fr (((((d1 (x) (y)) : Int) : Rat) * (x / (((d0 (x) (y)) : Int) : Rat)))))], .tup [.int ((d0 ((((d0 (x) (y)) : Int) : Rat)) ((((d1 (x) (y)) : Int) : Rat)))), .int ((d1 ((((d0 (x) (y)) : Int) : Rat)) ((((d1 (x) (y)) : Int) : Rat))))]]) v16 := by rw [← he19]; exact (r16)
      refine k_spF (.lst [.tup [(fr (((((d0 (x) (y)) : Int) : Rat) * (x / (((d0 (x) (y)) : Int) : Rat))))), (fr (((((d1 (x) (y)) : Int) : Rat) * (x / (((d0 (x) (y)) : Int) : Rat)))))], .tup [.int ((d0 ((((d0 (x) (y)) : Int) : Rat)) ((((d1 (x) (y)) : Int) : Rat)))), .int ((d1 ((((d0 (x) (y)) : Int) : Rat)) ((((d1 (x) (y)) : Int) : Rat))))]]) hB16 (rcons ((r15.up hB15 (Ex.of s16))) (rcons re20 (rnil (K := K)))) rfl (fun v17 H17 r17 s17 hB17 => ?_)
      obtain rfl := bl_of (b := true) r17
      refine ⟨_, rfl, ?_⟩
      refine iteF ?_
      with_reducible refine k_next ?_
      with_reducible refine k_seq ?_
      with_reducible refine k_set ?_
      with_reducible refine k_call ?_
      refine k_arg (val_var rfl) ?_
      refine k_arg (val_var rfl) ?_
      with_reducible refine k_nil ?_
      have q21 := (((((((((((((((((r0_1.up hB (e1.imp tg.on)).up hB1 (Ex.of s2)).up hB2 (Ex.of s3)).up hB3 (e4.imp tg.on)).up hB4 (Ex.of s5)).up hB5 (Ex.of s6)).up hB6 (Ex.of s7)).up hB7 (Ex.of s8)).up hB8 (Ex.of s9)).up hB9 (Ex.of s10)).up hB10 (Ex.of s11)).up hB11 (Ex.of s12)).up hB12 (Ex.of s13)).up hB13 (Ex.of s14)).up hB14 (Ex.of s15)).up hB15 (Ex.of s16)).up hB16 (Ex.of s17))
      have q22 := ((q18.up hB15 (Ex.of s16)).up hB16 (Ex.of s17))
      refine k_spF (x, y, z, 100) hB17 (rcons (q22) (rcons (q21) (rnil (K := K)))) ⟨(hx.mono (by first | omega | (dsimp only; omega))), (hy.mono (by first | omega | (dsimp only; omega))), (hz.mono (by first | omega | (dsimp only; omega))), (by first | omega | (dsimp only; omega))⟩ (fun v18 H18 r18 s18 hB18 => ?_)
      replace r18 : Rep K G.M H18 (.tup [(fr ((x * z))), (fr ((y * z)))]) v18 := r18
      have z18_0 : SzR 200 ((x * z)) := (szr_mul hx hz (by omega))
      have z18_1 : SzR 200 ((y * z)) := (szr_mul hy hz (by omega))
      with_reducible refine k_ret ?_
      with_reducible refine k_call ?_
      with_reducible refine k_argX ?_
      refine k_got tg hB18 (fun H19 e19 hB19 => ?_)
      with_reducible refine k_call ?_
      refine k_arg (val_var rfl) ?_
      with_reducible refine k_nil ?_
      refine Or.inr (k_spE ((x * z), (y * z), 200) hB19 (rcons ((r18.up hB18 (e19.imp tg.on))) (rnil (K := K))) ⟨(z18_0.mono (by first | omega | (dsimp only; omega))), (z18_1.mono (by first | omega | (dsimp only; omega))), (by first | omega | (dsimp only; omega)), long_z hz0⟩ (fun dd20 H20 s20 hB20 hx20 => ?_))
      refine got_err Z hB20 hx20 (by decide +kernel) (fun v21 H21 r21 s21 hB21 => ?_)
      with_reducible refine k_argX ?_
      with_reducible refine k_ifE ?_
      with_reducible refine k_T ?_
      have q23 := ((((q21.up hB17 (Ex.of s18)).up hB18 (e19.imp tg.on)).up hB19 (Ex.of s20)).up hB20 (Ex.of s21))
      refine k_val (v_eqI (v_ixI (k := 0) (val_var rfl) (q23) val_c rfl) val_c) ?_
      refine ⟨true, congrArg V.bl (show ((decide ((z).num = (0 : Int)))) = true from num_t hz0), ?_⟩
      refine iteT ?_
      with_reducible refine k_tup ?_
      refine k_arg val_c ?_
      with_reducible refine k_nil ?_
      refine k_tup_end hB21 (rcons (rstr _) (rnil (K := K))) (fun v22 H22 r22 s22 hB22 => ?_)
      with_reducible refine k_nil ?_
      refine k_spF (.tup [.str (("ZeroDivisor" : Str))]) hB22 (rcons ((r21.up hB21 (Ex.of s22))) (rcons (r22) (rnil (K := K)))) rfl (fun v23 H23 r23 s23 hB23 => ?_)
      obtain rfl := bl_of (b := true) r23
      exact k _ _ _ rfl (rbl _) (e1.trans ((Ex.of s2).trans ((Ex.of s3).trans (e4.trans ((Ex.of s5).trans ((Ex.of s6).trans ((Ex.of s7).trans ((Ex.of s8).trans ((Ex.of s9).trans ((Ex.of s10).trans ((Ex.of s11).trans ((Ex.of s12).trans ((Ex.of s13).trans ((Ex.of s14).trans ((Ex.of s15).trans ((Ex.of s16).trans ((Ex.of s17).trans ((Ex.of s18).trans (e19.trans ((Ex.of s20).trans ((Ex.of s21).trans ((Ex.of s22).trans (Ex.of s23))))))))))))))))))))))) hB23
    · have hv : ¬ (x = 0 ∧ y = 0) := fun q => hy0 q.2
      refine ⟨_, (pss_cons (ps_par (i := 2) (j := 3) (by rfl) sc__law_direction_so.nd rfl rfl (by decide) rfl rfl (pa_cons (pe_lamcallT (T := lamT Pt) (TT := TGot K A B) (Ng := ["_law_ask", "_law_e"]) (a := "_law_ask") (k := 3) (by rfl) M__law_got F__law_got.kp lk_got hcd_got B__law_got sc__law_got rfl (.inl rfl) (got_gives (k := 3) hA hB0 M__law_fields F__law_fields.kp B__law_fields G__law_fields (hr.mono (by decide))) TB rfl (List.mem_singleton.mpr rfl) (fun p hp _ => by rw [List.mem_singleton.mp hp]; rfl) (hr.mono (by decide)) (LamX.lamS_by (by show LamX.lamSB (defScope s__law_direction_so) _ = true; decide +kernel)) rfl (fun _ _ _ _ _ => rfl) (fun _ _ _ _ _ _ _ hr2 => (pe_call GX_direction (hr2.mono (by decide)) (by rfl) M_direction F_direction.kp B_direction .nil (passes_call (takes_of rfl rfl rfl rfl) (fun _ _ _ _ h => h)) (pa_cons (pv 0) pa_nil)))) (pa_cons (pe_lamcallD (T := lamT Pt) (TT := TGot K A B) (Ng := ["_law_ask", "_law_e"]) (a := "_law_ask") (k := 3) (kn := "_law_k") (n := 0) (by rfl) M__law_got F__law_got.kp lk_got hcd_got B__law_got sc__law_got rfl (.inl rfl) (got_gives (k := 3) hA hB0 M__law_fields F__law_fields.kp B__law_fields G__law_fields (hr.mono (by decide))) TB rfl (List.mem_singleton.mpr rfl) (fun p hp _ => by rw [List.mem_singleton.mp hp]; rfl) (hr.mono (by decide)) (lamSD_by (by show lamSDB ["_law_v", "_law_w", "_law_first", "_law_later", "_law_d", "_law_unit", "_law_part", "_law_long"] "_law_k" (defScope s__law_direction_so) _ = true; decide +kernel)) rfl rfl (fun _ _ _ _ _ _ _ => ⟨_, rfl, rfl⟩) (fun _ _ _ _ _ _ _ hr2 => (pe_callN0 GX_direction (hr2.mono (by decide)) (by rfl) M_direction F_direction.kp KB_direction_0_vector (passes_call (takes_of rfl rfl rfl rfl) (fun _ _ _ _ h => h))  (pk_cons (pv 0) pk_nil)))) pa_nil)) (by rfl)) (pss_cons (ps_if (PW.pt (pw_and (pt_cmpR op_eq (pe_ix (ix_tupK (K := K)) (pe_ix (ix_tupK (K := K)) (pv 0) pe_int (fun _ _ => rfl)) pe_int (fun _ _ => rfl)) pe_int (nomark _)) (pw_and1 (pt_cmpR op_eq (pe_ix (ix_tupK (K := K)) (pe_ix (ix_tupK (K := K)) (pv 0) pe_int (fun _ _ => rfl)) pe_int (fun _ _ => rfl)) pe_int (nomark _))))) (pss_one ps_never) pss_nil) (pss_cons (ps_if (PW.pt (pw_or (pt_not (pt_val (pe_call G__law_same (hr.mono (by decide)) (by rfl) M__law_same F__law_same.kp B__law_same .nil pass0 (pa_cons (pv 2) (pa_cons (pv 3) pa_nil))))) (pw_or (pt_cmpR op_ne (pe_ix (ix_tupK (K := K)) (pv 2) pe_int (fun _ _ => rfl)) pe_str (nomark _)) (pw_or1 (pt_not (pt_val (pe_call G__law_is_direction (hr.mono (by decide)) (by rfl) M__law_is_direction F__law_is_direction.kp B__law_is_direction .nil pass0 (pa_cons (pe_ix (ix_tupK (K := K)) (pv 2) pe_int (fun _ _ => rfl)) (pa_cons (pv 0) pa_nil))))))))) (pss_one ps_never) pss_nil) (pss_cons (ps_set (i := 4) sc__law_direction_so.nd rfl (.inl rfl) (pe_ix (ix_tupK (K := K)) (pv 2) pe_int (fun _ _ => rfl))) (pss_cons (ps_set (i := 5) sc__law_direction_so.nd rfl (.inl rfl) (pe_tup (pa_cons (pe_tup (pa_cons (pe_ix (ix_tupK (K := K)) (pv 4) pe_int (fun _ _ => rfl)) (pa_cons pe_int pa_nil))) (pa_cons (pe_tup (pa_cons (pe_ix (ix_tupK (K := K)) (pv 4) pe_int (fun _ _ => rfl)) (pa_cons pe_int pa_nil))) pa_nil)))) (pss_cons (ps_set (i := 6) sc__law_direction_so.nd rfl (.inl rfl) (pe_ifExp (pt_cmpR op_ne (pe_ix (ix_tupK (K := K)) (pv 4) pe_int (fun _ _ => rfl)) pe_int (nomark _)) pe_false (pe_call G_divided (hr.mono (by decide)) (by rfl) M_divided F_divided.kp B_divided .nil pass0 (pa_cons (pe_ix (ix_tupK (K := K)) (pv 0) pe_int (fun _ _ => rfl)) (pa_cons (pe_ix (ix_tupK (K := K)) (pv 5) pe_int (fun _ _ => rfl)) pa_nil))))) (pss_cons (ps_if (pt_not (pt_val (pe_call G__law_same (hr.mono (by decide)) (by rfl) M__law_same F__law_same.kp B__law_same .nil pass0 (pa_cons (pe_lst (pa_cons (pe_call G_vector_times (hr.mono (by decide)) (by rfl) M_vector_times F_vector_times.kp B_vector_times .nil pass0 (pa_cons (pv 5) (pa_cons (pv 6) pa_nil))) (pa_cons (pe_call G_direction (hr.mono (by decide)) (by rfl) M_direction F_direction.kp B_direction .nil pass0 (pa_cons (pv 5) pa_nil)) pa_nil))) (pa_cons (pe_lst (pa_cons (pv 0) (pa_cons (pv 4) pa_nil))) pa_nil))))) (pss_one ps_never) pss_nil) (pss_cons (ps_set (i := 7) sc__law_direction_so.nd rfl (.inr rfl) (pe_call G_vector_times (hr.mono (by decide)) (by rfl) M_vector_times F_vector_times.kp B_vector_times .nil pass0 (pa_cons (pv 0) (pa_cons (pv 1) pa_nil)))) (pss_one (ps_ret (pe_call G__law_same (hr.mono (by decide)) (by rfl) M__law_same F__law_same.kp B__law_same .nil pass0 (pa_cons (pe_lamcallT (T := lamT Pt) (TT := TGot K A B) (Ng := ["_law_ask", "_law_e"]) (a := "_law_ask") (k := 3) (by rfl) M__law_got F__law_got.kp lk_got hcd_got B__law_got sc__law_got rfl (.inl rfl) (got_gives (k := 3) hA hB0 M__law_fields F__law_fields.kp B__law_fields G__law_fields (hr.mono (by decide))) TB rfl (List.mem_singleton.mpr rfl) (fun p hp _ => by rw [List.mem_singleton.mp hp]; rfl) (hr.mono (by decide)) (LamX.lamS_by (by show LamX.lamSB (defScope s__law_direction_so) _ = true; decide +kernel)) rfl (fun _ _ _ _ _ => rfl) (fun _ _ _ _ _ _ _ hr2 => (pe_call GX_direction (hr2.mono (by decide)) (by rfl) M_direction F_direction.kp B_direction .nil (passes_call (takes_of rfl rfl rfl rfl) (fun _ _ _ _ h => h)) (pa_cons (pv 7) pa_nil)))) (pa_cons (pe_ifExp (pt_cmpR op_eq (pe_ix (ix_tupK (K := K)) (pv 1) pe_int (fun _ _ => rfl)) pe_int (nomark _)) pe_false (pe_tup (pa_cons pe_str (pa_cons (pv 4) pa_nil)))) pa_nil))))))))))))), ?_⟩
      with_reducible refine k_seq ?_
      with_reducible refine k_par ?_
      with_reducible refine k_argX ?_
      refine k_got tg hB (fun H1 e1 hB1 => ?_)
      with_reducible refine k_call ?_
      refine k_arg (val_var rfl) ?_
      with_reducible refine k_nil ?_
      have zd1 : Sz 200 (d0 (x) (y)) ∧ Sz 200 (d1 (x) (y)) := sz_dir (n := 100) (hx.mono (by first | omega | (dsimp only; omega))) (hy.mono (by first | omega | (dsimp only; omega))) hv
      refine Or.inl (k_spF (x, y, 100) hB1 (rcons ((r0_0.up hB (e1.imp tg.on))) (rnil (K := K))) ⟨(hx.mono (by first | omega | (dsimp only; omega))), (hy.mono (by first | omega | (dsimp only; omega))), (by first | omega | (dsimp only; omega)), nz_iff.mpr hv⟩ (fun v2 H2 r2 s2 hB2 => ?_))
      replace r2 : Rep K G.M H2 (.tup [.int ((d0 (x) (y))), .int ((d1 (x) (y)))]) v2 := r2
      refine got_val hB2 (r2) (fun v3 H3 r3 s3 hB3 => ?_)
      with_reducible refine k_argX ?_
      refine k_got tg hB3 (fun H4 e4 hB4 => ?_)
      with_reducible refine k_callN ?_
      with_reducible refine k_nil ?_
      refine k_arg (val_var rfl) ?_
      with_reducible refine k_nil ?_
      refine ⟨rfl, rfl, ?_⟩
      have zd2 : Sz 200 (d0 (x) (y)) ∧ Sz 200 (d1 (x) (y)) := sz_dir (n := 100) (hx.mono (by first | omega | (dsimp only; omega))) (hy.mono (by first | omega | (dsimp only; omega))) hv
      have q3 := ((((r0_0.up hB (e1.imp tg.on)).up hB1 (Ex.of s2)).up hB2 (Ex.of s3)).up hB3 (e4.imp tg.on))
      refine Or.inl (k_spF (x, y, 100) hB4 (rcons (q3) (rnil (K := K))) ⟨(hx.mono (by first | omega | (dsimp only; omega))), (hy.mono (by first | omega | (dsimp only; omega))), (by first | omega | (dsimp only; omega)), nz_iff.mpr hv⟩ (fun v5 H5 r5 s5 hB5 => ?_))
      replace r5 : Rep K G.M H5 (.tup [.int ((d0 (x) (y))), .int ((d1 (x) (y)))]) v5 := r5
      refine got_val hB5 (r5) (fun v6 H6 r6 s6 hB6 => ?_)
      with_reducible refine k_nil ?_
      refine ⟨_, _, rfl, ?_⟩
      with_reducible refine k_seq ?_
      with_reducible refine k_ifX ?_
      with_reducible refine k_and ?_
      with_reducible refine k_T ?_
      with_reducible refine k_opX ?_
      with_reducible refine k_opX ?_
      with_reducible refine k_opX ?_
      refine k_val (val_var rfl) ?_
      refine k_val val_c ?_
      have q5 := ((q3.up hB4 (Ex.of s5)).up hB5 (Ex.of s6))
      refine f_ixT (k := 0) (q5) rfl (fun w4 rw4 => ?_)
      refine k_val val_c ?_
      refine f_ixT (k := 0) (rw4) rfl (fun w6 rw6 => ?_)
      obtain rfl := int_of rw6
      refine k_val val_c ?_
      refine f_eqI ?_
      refine ⟨true, congrArg V.bl (show ((decide ((x).num = (0 : Int)))) = true from num_t hx0), ?_⟩
      refine iteT ?_
      with_reducible refine k_T ?_
      with_reducible refine k_opX ?_
      with_reducible refine k_opX ?_
      with_reducible refine k_opX ?_
      refine k_val (val_var rfl) ?_
      refine k_val val_c ?_
      refine f_ixT (k := 1) (q5) rfl (fun w7 rw7 => ?_)
      refine k_val val_c ?_
      refine f_ixT (k := 0) (rw7) rfl (fun w8 rw8 => ?_)
      obtain rfl := int_of rw8
      refine k_val val_c ?_
      refine f_eqI ?_
      refine ⟨false, congrArg V.bl (show ((decide ((y).num = (0 : Int)))) = false from num_f hy0), ?_⟩
      refine iteF ?_
      with_reducible refine k_next ?_
      with_reducible refine k_seq ?_
      with_reducible refine k_ifX ?_
      with_reducible refine k_or ?_
      with_reducible refine k_not ?_
      with_reducible refine k_B ?_
      with_reducible refine k_call ?_
      refine k_arg (val_var rfl) ?_
      refine k_arg (val_var rfl) ?_
      with_reducible refine k_nil ?_
      have q9 := (((r3.up hB3 (e4.imp tg.on)).up hB4 (Ex.of s5)).up hB5 (Ex.of s6))
      refine k_spF (.tup [.str (("" : Str)), .tup [.int ((d0 (x) (y))), .int ((d1 (x) (y)))]]) hB6 (rcons (q9) (rcons (r6) (rnil (K := K)))) rfl (fun v7 H7 r7 s7 hB7 => ?_)
      obtain rfl := bl_of (b := true) r7
      refine ⟨_, rfl, ?_⟩
      refine iteF ?_
      with_reducible refine k_or ?_
      with_reducible refine k_T ?_
      refine k_val (v_neV (v_ixS (k := 0) (val_var rfl) ((q9.up hB6 (Ex.of s7))) val_c rfl) val_c) ?_
      refine ⟨_, rfl, ?_⟩
      refine iteF ?_
      with_reducible refine k_not ?_
      with_reducible refine k_B ?_
      with_reducible refine k_call ?_
      with_reducible refine k_argX ?_
      with_reducible refine k_opX ?_
      refine k_val (val_var rfl) ?_
      refine k_val val_c ?_
      refine f_ixT (k := 1) ((q9.up hB6 (Ex.of s7))) rfl (fun w10 rw10 => ?_)
      refine k_arg (val_var rfl) ?_
      with_reducible refine k_nil ?_
      refine k_spF (x, y, (d0 (x) (y)), (d1 (x) (y)), 200) hB7 (rcons (rw10) (rcons ((q5.up hB6 (Ex.of s7))) (rnil (K := K)))) ⟨(hx.mono (by first | omega | (dsimp only; omega))), (hy.mono (by first | omega | (dsimp only; omega))), (zd1.1.mono (by first | omega | (dsimp only; omega))), (zd1.2.mono (by first | omega | (dsimp only; omega))), dir_prim hv, dir_par, (by first | omega | (dsimp only; omega))⟩ (fun v8 H8 r8 s8 hB8 => ?_)
      obtain rfl := bl_of (b := true) r8
      refine ⟨_, rfl, ?_⟩
      refine iteF ?_
      with_reducible refine k_next ?_
      with_reducible refine k_seq ?_
      with_reducible refine k_set ?_
      with_reducible refine k_opX ?_
      refine k_val (val_var rfl) ?_
      refine k_val val_c ?_
      have q12 := ((q9.up hB6 (Ex.of s7)).up hB7 (Ex.of s8))
      refine f_ixT (k := 1) (q12) rfl (fun w11 rw11 => ?_)
      with_reducible refine k_seq ?_
      with_reducible refine k_set ?_
      with_reducible refine k_tup ?_
      with_reducible refine k_argX ?_
      with_reducible refine k_tup ?_
      refine k_arg (v_ixI (k := 0) (val_var rfl) (rw11) val_c rfl) ?_
      refine k_arg val_c ?_
      with_reducible refine k_nil ?_
      refine k_tup_end hB8 (rcons (rint _) (rcons (rint _) (rnil (K := K)))) (fun v9 H9 r9 s9 hB9 => ?_)
      replace r9 : Rep K G.M H9 (fr (((d0 (x) (y)) : Int) : Rat)) v9 := r9
      with_reducible refine k_argX ?_
      with_reducible refine k_tup ?_
      refine k_arg (v_ixI (k := 1) (val_var rfl) ((rw11.up hB8 (Ex.of s9))) val_c rfl) ?_
      refine k_arg val_c ?_
      with_reducible refine k_nil ?_
      refine k_tup_end hB9 (rcons (rint _) (rcons (rint _) (rnil (K := K)))) (fun v10 H10 r10 s10 hB10 => ?_)
      replace r10 : Rep K G.M H10 (fr (((d1 (x) (y)) : Int) : Rat)) v10 := r10
      with_reducible refine k_nil ?_
      refine k_tup_end hB10 (rcons ((r9.up hB9 (Ex.of s10))) (rcons (r10) (rnil (K := K)))) (fun v11 H11 r11 s11 hB11 => ?_)
      with_reducible refine k_seq ?_
      with_reducible refine k_set ?_
      with_reducible refine k_ifE ?_
      with_reducible refine k_T ?_
      have q13 := (((rw11.up hB8 (Ex.of s9)).up hB9 (Ex.of s10)).up hB10 (Ex.of s11))
      refine k_val (v_neI (v_ixI (k := 0) (val_var rfl) (q13) val_c rfl) val_c) ?_
      refine ⟨false, congrArg V.bl (show ((!decide ((d0 (x) (y)) = (0 : Int)))) = false from by rw [d0_z hx0 hy0]; rfl), ?_⟩
      refine iteF ?_
      with_reducible refine k_call ?_
      with_reducible refine k_argX ?_
      with_reducible refine k_opX ?_
      refine k_val (val_var rfl) ?_
      refine k_val val_c ?_
      have q15 := (((((q5.up hB6 (Ex.of s7)).up hB7 (Ex.of s8)).up hB8 (Ex.of s9)).up hB9 (Ex.of s10)).up hB10 (Ex.of s11))
      refine f_ixT (k := 1) (q15) rfl (fun w14 rw14 => ?_)
      with_reducible refine k_argX ?_
      with_reducible refine k_opX ?_
      refine k_val (val_var rfl) ?_
      refine k_val val_c ?_
      refine f_ixT (k := 1) (r11) rfl (fun w16 rw16 => ?_)
      with_reducible refine k_nil ?_
      refine k_spF (y, (((d1 (x) (y)) : Int) : Rat), 100, 200) hB11 (rcons (rw14) (rcons (rw16) (rnil (K := K)))) ⟨hy, (show SzR 200 (((d1 (x) (y)) : Int) : Rat) from ⟨zd1.2, sz_lit 200 (1 : Int)⟩), (by first | omega | (dsimp only; omega)), (ic_ne (d1_ne hx0 hy0))⟩ (fun v12 H12 r12 s12 hB12 => ?_)
      replace r12 : Rep K G.M H12 ((fr ((y / (((d1 (x) (y)) : Int) : Rat))))) v12 := r12
      have z12 : SzR 300 ((y / (((d1 (x) (y)) : Int) : Rat))) := (szr_div hy (show SzR 200 (((d1 (x) (y)) : Int) : Rat) from ⟨zd1.2, sz_lit 200 (1 : Int)⟩) (ic_ne (d1_ne hx0 hy0)) (by omega))
      with_reducible refine k_seq ?_
      with_reducible refine k_ifX ?_
      with_reducible refine k_not ?_
      with_reducible refine k_B ?_
      with_reducible refine k_call ?_
      with_reducible refine k_argX ?_
      with_reducible refine k_lst ?_
      with_reducible refine k_argX ?_
      with_reducible refine k_call ?_
      refine k_arg (val_var rfl) ?_
      refine k_arg (val_var rfl) ?_
      with_reducible refine k_nil ?_
      refine k_spF ((((d0 (x) (y)) : Int) : Rat), (((d1 (x) (y)) : Int) : Rat), (y / (((d1 (x) (y)) : Int) : Rat)), 300) hB12 (rcons ((r11.up hB11 (Ex.of s12))) (rcons (r12) (rnil (K := K)))) ⟨((show SzR 200 (((d0 (x) (y)) : Int) : Rat) from ⟨zd1.1, sz_lit 200 (1 : Int)⟩).mono (by first | omega | (dsimp only; omega))), ((show SzR 200 (((d1 (x) (y)) : Int) : Rat) from ⟨zd1.2, sz_lit 200 (1 : Int)⟩).mono (by first | omega | (dsimp only; omega))), (z12.mono (by first | omega | (dsimp only; omega))), (by first | omega | (dsimp only; omega))⟩ (fun v13 H13 r13 s13 hB13 => ?_)
      replace r13 : Rep K G.M H13 (.tup [(fr (((((d0 (x) (y)) : Int) : Rat) * (y / (((d1 (x) (y)) : Int) : Rat))))), (fr (((((d1 (x) (y)) : Int) : Rat) * (y / (((d1 (x) (y)) : Int) : Rat)))))]) v13 := r13
      have z13_0 : SzR 600 (((((d0 (x) (y)) : Int) : Rat) * (y / (((d1 (x) (y)) : Int) : Rat)))) := (szr_mul (show SzR 200 (((d0 (x) (y)) : Int) : Rat) from ⟨zd1.1, sz_lit 200 (1 : Int)⟩) z12 (by omega))
      have z13_1 : SzR 600 (((((d1 (x) (y)) : Int) : Rat) * (y / (((d1 (x) (y)) : Int) : Rat)))) := (szr_mul (show SzR 200 (((d1 (x) (y)) : Int) : Rat) from ⟨zd1.2, sz_lit 200 (1 : Int)⟩) z12 (by omega))
      with_reducible refine k_argX ?_
      with_reducible refine k_call ?_
      refine k_arg (val_var rfl) ?_
      with_reducible refine k_nil ?_
      have zd17 : Sz 400 (d0 ((((d0 (x) (y)) : Int) : Rat)) ((((d1 (x) (y)) : Int) : Rat))) ∧ Sz 400 (d1 ((((d0 (x) (y)) : Int) : Rat)) ((((d1 (x) (y)) : Int) : Rat))) := sz_dir (n := 200) ((show SzR 200 (((d0 (x) (y)) : Int) : Rat) from ⟨zd1.1, sz_lit 200 (1 : Int)⟩).mono (by first | omega | (dsimp only; omega))) ((show SzR 200 (((d1 (x) (y)) : Int) : Rat) from ⟨zd1.2, sz_lit 200 (1 : Int)⟩).mono (by first | omega | (dsimp only; omega))) (unit_nz (dir_prim hv))
      have q18 := ((r11.up hB11 (Ex.of s12)).up hB12 (Ex.of s13))
      refine k_spF ((((d0 (x) (y)) : Int) : Rat), (((d1 (x) (y)) : Int) : Rat), 200) hB13 (rcons (q18) (rnil (K := K))) ⟨((show SzR 200 (((d0 (x) (y)) : Int) : Rat) from ⟨zd1.1, sz_lit 200 (1 : Int)⟩).mono (by first | omega | (dsimp only; omega))), ((show SzR 200 (((d1 (x) (y)) : Int) : Rat) from ⟨zd1.2, sz_lit 200 (1 : Int)⟩).mono (by first | omega | (dsimp only; omega))), (by first | omega | (dsimp only; omega)), nz_iff.mpr (unit_nz (dir_prim hv))⟩ (fun v14 H14 r14 s14 hB14 => ?_)
      replace r14 : Rep K G.M H14 (.tup [.int ((d0 ((((d0 (x) (y)) : Int) : Rat)) ((((d1 (x) (y)) : Int) : Rat)))), .int ((d1 ((((d0 (x) (y)) : Int) : Rat)) ((((d1 (x) (y)) : Int) : Rat))))]) v14 := r14
      with_reducible refine k_nil ?_
      refine k_lst_end hB14 (rcons ((r13.up hB13 (Ex.of s14))) (rcons (r14) (rnil (K := K)))) (fun v15 H15 r15 s15 hB15 => ?_)
      with_reducible refine k_argX ?_
      with_reducible refine k_lst ?_
      refine k_arg (val_var rfl) ?_
      refine k_arg (val_var rfl) ?_
      with_reducible refine k_nil ?_
      have q19 := ((((q13.up hB11 (Ex.of s12)).up hB12 (Ex.of s13)).up hB13 (Ex.of s14)).up hB14 (Ex.of s15))
      have q20 := ((((q15.up hB11 (Ex.of s12)).up hB12 (Ex.of s13)).up hB13 (Ex.of s14)).up hB14 (Ex.of s15))
      refine k_lst_end hB15 (rcons (q20) (rcons (q19) (rnil (K := K)))) (fun v16 H16 r16 s16 hB16 => ?_)
      with_reducible refine k_nil ?_
      have he21 : (.lst [.tup [(fr (x)), (fr (y))], .tup [.int ((d0 (x) (y))), .int ((d1 (x) (y)))]] : D) = .lst [.tup [(fr (((((d0 (x) (y)) : Int) : Rat) * (y / (((d1 (x) (y)) : Int) : Rat))))), (fr (((((d1 (x) (y)) : Int) : Rat) * (y / (((d1 (x) (y)) : Int) : Rat)))))], .tup [.int ((d0 ((((d0 (x) (y)) : Int) : Rat)) ((((d1 (x) (y)) : Int) : Rat)))), .int ((d1 ((((d0 (x) (y)) : Int) : Rat)) ((((d1 (x) (y)) : Int) : Rat))))]] := by first | rfl | exact same_unitA ‹_› | exact same_unitB ‹_› ‹_› | exact same_long ‹_› ‹_›
      have re22 : Rep K G.M H16 (.lst [.tup [(fr (((((d0 (x) (y)) : Int) : Rat) * (y / (((d1 (x) (y)) : Int) : Rat))))), (fr (((((d1 (x) (y)) : Int) : Rat) * (y / (((d1 (x) (y)) : Int) : Rat)))))], .tup [.int ((d0 ((((d0 (x) (y)) : Int) : Rat)) ((((d1 (x) (y)) : Int) : Rat)))), .int ((d1 ((((d0 (x) (y)) : Int) : Rat)) ((((d1 (x) (y)) : Int) : Rat))))]]) v16 := by rw [← he21]; exact (r16)
      refine k_spF (.lst [.tup [(fr (((((d0 (x) (y)) : Int) : Rat) * (y / (((d1 (x) (y)) : Int) : Rat))))), (fr (((((d1 (x) (y)) : Int) : Rat) * (y / (((d1 (x) (y)) : Int) : Rat)))))], .tup [.int ((d0 ((((d0 (x) (y)) : Int) : Rat)) ((((d1 (x) (y)) : Int) : Rat)))), .int ((d1 ((((d0 (x) (y)) : Int) : Rat)) ((((d1 (x) (y)) : Int) : Rat))))]]) hB16 (rcons ((r15.up hB15 (Ex.of s16))) (rcons re22 (rnil (K := K)))) rfl (fun v17 H17 r17 s17 hB17 => ?_)
      obtain rfl := bl_of (b := true) r17
      refine ⟨_, rfl, ?_⟩
      refine iteF ?_
      with_reducible refine k_next ?_
      with_reducible refine k_seq ?_
      with_reducible refine k_set ?_
      with_reducible refine k_call ?_
      refine k_arg (val_var rfl) ?_
      refine k_arg (val_var rfl) ?_
      with_reducible refine k_nil ?_
      have q23 := (((((((((((((((((r0_1.up hB (e1.imp tg.on)).up hB1 (Ex.of s2)).up hB2 (Ex.of s3)).up hB3 (e4.imp tg.on)).up hB4 (Ex.of s5)).up hB5 (Ex.of s6)).up hB6 (Ex.of s7)).up hB7 (Ex.of s8)).up hB8 (Ex.of s9)).up hB9 (Ex.of s10)).up hB10 (Ex.of s11)).up hB11 (Ex.of s12)).up hB12 (Ex.of s13)).up hB13 (Ex.of s14)).up hB14 (Ex.of s15)).up hB15 (Ex.of s16)).up hB16 (Ex.of s17))
      have q24 := ((q20.up hB15 (Ex.of s16)).up hB16 (Ex.of s17))
      refine k_spF (x, y, z, 100) hB17 (rcons (q24) (rcons (q23) (rnil (K := K)))) ⟨(hx.mono (by first | omega | (dsimp only; omega))), (hy.mono (by first | omega | (dsimp only; omega))), (hz.mono (by first | omega | (dsimp only; omega))), (by first | omega | (dsimp only; omega))⟩ (fun v18 H18 r18 s18 hB18 => ?_)
      replace r18 : Rep K G.M H18 (.tup [(fr ((x * z))), (fr ((y * z)))]) v18 := r18
      have z18_0 : SzR 200 ((x * z)) := (szr_mul hx hz (by omega))
      have z18_1 : SzR 200 ((y * z)) := (szr_mul hy hz (by omega))
      with_reducible refine k_ret ?_
      with_reducible refine k_call ?_
      with_reducible refine k_argX ?_
      refine k_got tg hB18 (fun H19 e19 hB19 => ?_)
      with_reducible refine k_call ?_
      refine k_arg (val_var rfl) ?_
      with_reducible refine k_nil ?_
      have zd25 : Sz 400 (d0 ((x * z)) ((y * z))) ∧ Sz 400 (d1 ((x * z)) ((y * z))) := sz_dir (n := 200) (z18_0.mono (by first | omega | (dsimp only; omega))) (z18_1.mono (by first | omega | (dsimp only; omega))) (long_nz hv hz0)
      refine Or.inl (k_spF ((x * z), (y * z), 200) hB19 (rcons ((r18.up hB18 (e19.imp tg.on))) (rnil (K := K))) ⟨(z18_0.mono (by first | omega | (dsimp only; omega))), (z18_1.mono (by first | omega | (dsimp only; omega))), (by first | omega | (dsimp only; omega)), nz_iff.mpr (long_nz hv hz0)⟩ (fun v20 H20 r20 s20 hB20 => ?_))
      replace r20 : Rep K G.M H20 (.tup [.int ((d0 ((x * z)) ((y * z)))), .int ((d1 ((x * z)) ((y * z))))]) v20 := r20
      refine got_val hB20 (r20) (fun v21 H21 r21 s21 hB21 => ?_)
      with_reducible refine k_argX ?_
      with_reducible refine k_ifE ?_
      with_reducible refine k_T ?_
      have q26 := ((((q23.up hB17 (Ex.of s18)).up hB18 (e19.imp tg.on)).up hB19 (Ex.of s20)).up hB20 (Ex.of s21))
      refine k_val (v_eqI (v_ixI (k := 0) (val_var rfl) (q26) val_c rfl) val_c) ?_
      refine ⟨false, congrArg V.bl (show ((decide ((z).num = (0 : Int)))) = false from num_f hz0), ?_⟩
      refine iteF ?_
      with_reducible refine k_tup ?_
      refine k_arg val_c ?_
      refine k_arg (val_var rfl) ?_
      with_reducible refine k_nil ?_
      have q27 := ((((((q19.up hB15 (Ex.of s16)).up hB16 (Ex.of s17)).up hB17 (Ex.of s18)).up hB18 (e19.imp tg.on)).up hB19 (Ex.of s20)).up hB20 (Ex.of s21))
      refine k_tup_end hB21 (rcons (rstr _) (rcons (q27) (rnil (K := K)))) (fun v22 H22 r22 s22 hB22 => ?_)
      with_reducible refine k_nil ?_
      have he28 : (.tup [.str (("" : Str)), .tup [.int ((d0 (x) (y))), .int ((d1 (x) (y)))]] : D) = .tup [.str (("" : Str)), .tup [.int ((d0 ((x * z)) ((y * z)))), .int ((d1 ((x * z)) ((y * z))))]] := by first | rfl | exact same_unitA ‹_› | exact same_unitB ‹_› ‹_› | exact same_long ‹_› ‹_›
      have re29 : Rep K G.M H22 (.tup [.str (("" : Str)), .tup [.int ((d0 ((x * z)) ((y * z)))), .int ((d1 ((x * z)) ((y * z))))]]) v22 := by rw [← he28]; exact (r22)
      refine k_spF (.tup [.str (("" : Str)), .tup [.int ((d0 ((x * z)) ((y * z)))), .int ((d1 ((x * z)) ((y * z))))]]) hB22 (rcons ((r21.up hB21 (Ex.of s22))) (rcons re29 (rnil (K := K)))) rfl (fun v23 H23 r23 s23 hB23 => ?_)
      obtain rfl := bl_of (b := true) r23
      exact k _ _ _ rfl (rbl _) (e1.trans ((Ex.of s2).trans ((Ex.of s3).trans (e4.trans ((Ex.of s5).trans ((Ex.of s6).trans ((Ex.of s7).trans ((Ex.of s8).trans ((Ex.of s9).trans ((Ex.of s10).trans ((Ex.of s11).trans ((Ex.of s12).trans ((Ex.of s13).trans ((Ex.of s14).trans ((Ex.of s15).trans ((Ex.of s16).trans ((Ex.of s17).trans ((Ex.of s18).trans (e19.trans ((Ex.of s20).trans ((Ex.of s21).trans ((Ex.of s22).trans (Ex.of s23))))))))))))))))))))))) hB23
    · have hv : ¬ (x = 0 ∧ y = 0) := fun q => hy0 q.2
      refine ⟨_, (pss_cons (ps_par (i := 2) (j := 3) (by rfl) sc__law_direction_so.nd rfl rfl (by decide) rfl rfl (pa_cons (pe_lamcallT (T := lamT Pt) (TT := TGot K A B) (Ng := ["_law_ask", "_law_e"]) (a := "_law_ask") (k := 3) (by rfl) M__law_got F__law_got.kp lk_got hcd_got B__law_got sc__law_got rfl (.inl rfl) (got_gives (k := 3) hA hB0 M__law_fields F__law_fields.kp B__law_fields G__law_fields (hr.mono (by decide))) TB rfl (List.mem_singleton.mpr rfl) (fun p hp _ => by rw [List.mem_singleton.mp hp]; rfl) (hr.mono (by decide)) (LamX.lamS_by (by show LamX.lamSB (defScope s__law_direction_so) _ = true; decide +kernel)) rfl (fun _ _ _ _ _ => rfl) (fun _ _ _ _ _ _ _ hr2 => (pe_call GX_direction (hr2.mono (by decide)) (by rfl) M_direction F_direction.kp B_direction .nil (passes_call (takes_of rfl rfl rfl rfl) (fun _ _ _ _ h => h)) (pa_cons (pv 0) pa_nil)))) (pa_cons (pe_lamcallD (T := lamT Pt) (TT := TGot K A B) (Ng := ["_law_ask", "_law_e"]) (a := "_law_ask") (k := 3) (kn := "_law_k") (n := 0) (by rfl) M__law_got F__law_got.kp lk_got hcd_got B__law_got sc__law_got rfl (.inl rfl) (got_gives (k := 3) hA hB0 M__law_fields F__law_fields.kp B__law_fields G__law_fields (hr.mono (by decide))) TB rfl (List.mem_singleton.mpr rfl) (fun p hp _ => by rw [List.mem_singleton.mp hp]; rfl) (hr.mono (by decide)) (lamSD_by (by show lamSDB ["_law_v", "_law_w", "_law_first", "_law_later", "_law_d", "_law_unit", "_law_part", "_law_long"] "_law_k" (defScope s__law_direction_so) _ = true; decide +kernel)) rfl rfl (fun _ _ _ _ _ _ _ => ⟨_, rfl, rfl⟩) (fun _ _ _ _ _ _ _ hr2 => (pe_callN0 GX_direction (hr2.mono (by decide)) (by rfl) M_direction F_direction.kp KB_direction_0_vector (passes_call (takes_of rfl rfl rfl rfl) (fun _ _ _ _ h => h))  (pk_cons (pv 0) pk_nil)))) pa_nil)) (by rfl)) (pss_cons (ps_if (PW.pt (pw_and (pt_cmpR op_eq (pe_ix (ix_tupK (K := K)) (pe_ix (ix_tupK (K := K)) (pv 0) pe_int (fun _ _ => rfl)) pe_int (fun _ _ => rfl)) pe_int (nomark _)) (pw_and1 (pt_cmpR op_eq (pe_ix (ix_tupK (K := K)) (pe_ix (ix_tupK (K := K)) (pv 0) pe_int (fun _ _ => rfl)) pe_int (fun _ _ => rfl)) pe_int (nomark _))))) (pss_one ps_never) pss_nil) (pss_cons (ps_if (PW.pt (pw_or (pt_not (pt_val (pe_call G__law_same (hr.mono (by decide)) (by rfl) M__law_same F__law_same.kp B__law_same .nil pass0 (pa_cons (pv 2) (pa_cons (pv 3) pa_nil))))) (pw_or (pt_cmpR op_ne (pe_ix (ix_tupK (K := K)) (pv 2) pe_int (fun _ _ => rfl)) pe_str (nomark _)) (pw_or1 (pt_not (pt_val (pe_call G__law_is_direction (hr.mono (by decide)) (by rfl) M__law_is_direction F__law_is_direction.kp B__law_is_direction .nil pass0 (pa_cons (pe_ix (ix_tupK (K := K)) (pv 2) pe_int (fun _ _ => rfl)) (pa_cons (pv 0) pa_nil))))))))) (pss_one ps_never) pss_nil) (pss_cons (ps_set (i := 4) sc__law_direction_so.nd rfl (.inl rfl) (pe_ix (ix_tupK (K := K)) (pv 2) pe_int (fun _ _ => rfl))) (pss_cons (ps_set (i := 5) sc__law_direction_so.nd rfl (.inl rfl) (pe_tup (pa_cons (pe_tup (pa_cons (pe_ix (ix_tupK (K := K)) (pv 4) pe_int (fun _ _ => rfl)) (pa_cons pe_int pa_nil))) (pa_cons (pe_tup (pa_cons (pe_ix (ix_tupK (K := K)) (pv 4) pe_int (fun _ _ => rfl)) (pa_cons pe_int pa_nil))) pa_nil)))) (pss_cons (ps_set (i := 6) sc__law_direction_so.nd rfl (.inl rfl) (pe_ifExp (pt_cmpR op_ne (pe_ix (ix_tupK (K := K)) (pv 4) pe_int (fun _ _ => rfl)) pe_int (nomark _)) pe_false (pe_call G_divided (hr.mono (by decide)) (by rfl) M_divided F_divided.kp B_divided .nil pass0 (pa_cons (pe_ix (ix_tupK (K := K)) (pv 0) pe_int (fun _ _ => rfl)) (pa_cons (pe_ix (ix_tupK (K := K)) (pv 5) pe_int (fun _ _ => rfl)) pa_nil))))) (pss_cons (ps_if (pt_not (pt_val (pe_call G__law_same (hr.mono (by decide)) (by rfl) M__law_same F__law_same.kp B__law_same .nil pass0 (pa_cons (pe_lst (pa_cons (pe_call G_vector_times (hr.mono (by decide)) (by rfl) M_vector_times F_vector_times.kp B_vector_times .nil pass0 (pa_cons (pv 5) (pa_cons (pv 6) pa_nil))) (pa_cons (pe_call G_direction (hr.mono (by decide)) (by rfl) M_direction F_direction.kp B_direction .nil pass0 (pa_cons (pv 5) pa_nil)) pa_nil))) (pa_cons (pe_lst (pa_cons (pv 0) (pa_cons (pv 4) pa_nil))) pa_nil))))) (pss_one ps_never) pss_nil) (pss_cons (ps_set (i := 7) sc__law_direction_so.nd rfl (.inr rfl) (pe_call G_vector_times (hr.mono (by decide)) (by rfl) M_vector_times F_vector_times.kp B_vector_times .nil pass0 (pa_cons (pv 0) (pa_cons (pv 1) pa_nil)))) (pss_one (ps_ret (pe_call G__law_same (hr.mono (by decide)) (by rfl) M__law_same F__law_same.kp B__law_same .nil pass0 (pa_cons (pe_lamcallT (T := lamT Pt) (TT := TGot K A B) (Ng := ["_law_ask", "_law_e"]) (a := "_law_ask") (k := 3) (by rfl) M__law_got F__law_got.kp lk_got hcd_got B__law_got sc__law_got rfl (.inl rfl) (got_gives (k := 3) hA hB0 M__law_fields F__law_fields.kp B__law_fields G__law_fields (hr.mono (by decide))) TB rfl (List.mem_singleton.mpr rfl) (fun p hp _ => by rw [List.mem_singleton.mp hp]; rfl) (hr.mono (by decide)) (LamX.lamS_by (by show LamX.lamSB (defScope s__law_direction_so) _ = true; decide +kernel)) rfl (fun _ _ _ _ _ => rfl) (fun _ _ _ _ _ _ _ hr2 => (pe_call GX_direction (hr2.mono (by decide)) (by rfl) M_direction F_direction.kp B_direction .nil (passes_call (takes_of rfl rfl rfl rfl) (fun _ _ _ _ h => h)) (pa_cons (pv 7) pa_nil)))) (pa_cons (pe_ifExp (pt_cmpR op_eq (pe_ix (ix_tupK (K := K)) (pv 1) pe_int (fun _ _ => rfl)) pe_int (nomark _)) (pe_tup (pa_cons pe_str pa_nil)) pe_false) pa_nil))))))))))))), ?_⟩
      with_reducible refine k_seq ?_
      with_reducible refine k_par ?_
      with_reducible refine k_argX ?_
      refine k_got tg hB (fun H1 e1 hB1 => ?_)
      with_reducible refine k_call ?_
      refine k_arg (val_var rfl) ?_
      with_reducible refine k_nil ?_
      have zd1 : Sz 200 (d0 (x) (y)) ∧ Sz 200 (d1 (x) (y)) := sz_dir (n := 100) (hx.mono (by first | omega | (dsimp only; omega))) (hy.mono (by first | omega | (dsimp only; omega))) hv
      refine Or.inl (k_spF (x, y, 100) hB1 (rcons ((r0_0.up hB (e1.imp tg.on))) (rnil (K := K))) ⟨(hx.mono (by first | omega | (dsimp only; omega))), (hy.mono (by first | omega | (dsimp only; omega))), (by first | omega | (dsimp only; omega)), nz_iff.mpr hv⟩ (fun v2 H2 r2 s2 hB2 => ?_))
      replace r2 : Rep K G.M H2 (.tup [.int ((d0 (x) (y))), .int ((d1 (x) (y)))]) v2 := r2
      refine got_val hB2 (r2) (fun v3 H3 r3 s3 hB3 => ?_)
      with_reducible refine k_argX ?_
      refine k_got tg hB3 (fun H4 e4 hB4 => ?_)
      with_reducible refine k_callN ?_
      with_reducible refine k_nil ?_
      refine k_arg (val_var rfl) ?_
      with_reducible refine k_nil ?_
      refine ⟨rfl, rfl, ?_⟩
      have zd2 : Sz 200 (d0 (x) (y)) ∧ Sz 200 (d1 (x) (y)) := sz_dir (n := 100) (hx.mono (by first | omega | (dsimp only; omega))) (hy.mono (by first | omega | (dsimp only; omega))) hv
      have q3 := ((((r0_0.up hB (e1.imp tg.on)).up hB1 (Ex.of s2)).up hB2 (Ex.of s3)).up hB3 (e4.imp tg.on))
      refine Or.inl (k_spF (x, y, 100) hB4 (rcons (q3) (rnil (K := K))) ⟨(hx.mono (by first | omega | (dsimp only; omega))), (hy.mono (by first | omega | (dsimp only; omega))), (by first | omega | (dsimp only; omega)), nz_iff.mpr hv⟩ (fun v5 H5 r5 s5 hB5 => ?_))
      replace r5 : Rep K G.M H5 (.tup [.int ((d0 (x) (y))), .int ((d1 (x) (y)))]) v5 := r5
      refine got_val hB5 (r5) (fun v6 H6 r6 s6 hB6 => ?_)
      with_reducible refine k_nil ?_
      refine ⟨_, _, rfl, ?_⟩
      with_reducible refine k_seq ?_
      with_reducible refine k_ifX ?_
      with_reducible refine k_and ?_
      with_reducible refine k_T ?_
      with_reducible refine k_opX ?_
      with_reducible refine k_opX ?_
      with_reducible refine k_opX ?_
      refine k_val (val_var rfl) ?_
      refine k_val val_c ?_
      have q5 := ((q3.up hB4 (Ex.of s5)).up hB5 (Ex.of s6))
      refine f_ixT (k := 0) (q5) rfl (fun w4 rw4 => ?_)
      refine k_val val_c ?_
      refine f_ixT (k := 0) (rw4) rfl (fun w6 rw6 => ?_)
      obtain rfl := int_of rw6
      refine k_val val_c ?_
      refine f_eqI ?_
      refine ⟨true, congrArg V.bl (show ((decide ((x).num = (0 : Int)))) = true from num_t hx0), ?_⟩
      refine iteT ?_
      with_reducible refine k_T ?_
      with_reducible refine k_opX ?_
      with_reducible refine k_opX ?_
      with_reducible refine k_opX ?_
      refine k_val (val_var rfl) ?_
      refine k_val val_c ?_
      refine f_ixT (k := 1) (q5) rfl (fun w7 rw7 => ?_)
      refine k_val val_c ?_
      refine f_ixT (k := 0) (rw7) rfl (fun w8 rw8 => ?_)
      obtain rfl := int_of rw8
      refine k_val val_c ?_
      refine f_eqI ?_
      refine ⟨false, congrArg V.bl (show ((decide ((y).num = (0 : Int)))) = false from num_f hy0), ?_⟩
      refine iteF ?_
      with_reducible refine k_next ?_
      with_reducible refine k_seq ?_
      with_reducible refine k_ifX ?_
      with_reducible refine k_or ?_
      with_reducible refine k_not ?_
      with_reducible refine k_B ?_
      with_reducible refine k_call ?_
      refine k_arg (val_var rfl) ?_
      refine k_arg (val_var rfl) ?_
      with_reducible refine k_nil ?_
      have q9 := (((r3.up hB3 (e4.imp tg.on)).up hB4 (Ex.of s5)).up hB5 (Ex.of s6))
      refine k_spF (.tup [.str (("" : Str)), .tup [.int ((d0 (x) (y))), .int ((d1 (x) (y)))]]) hB6 (rcons (q9) (rcons (r6) (rnil (K := K)))) rfl (fun v7 H7 r7 s7 hB7 => ?_)
      obtain rfl := bl_of (b := true) r7
      refine ⟨_, rfl, ?_⟩
      refine iteF ?_
      with_reducible refine k_or ?_
      with_reducible refine k_T ?_
      refine k_val (v_neV (v_ixS (k := 0) (val_var rfl) ((q9.up hB6 (Ex.of s7))) val_c rfl) val_c) ?_
      refine ⟨_, rfl, ?_⟩
      refine iteF ?_
      with_reducible refine k_not ?_
      with_reducible refine k_B ?_
      with_reducible refine k_call ?_
      with_reducible refine k_argX ?_
      with_reducible refine k_opX ?_
      refine k_val (val_var rfl) ?_
      refine k_val val_c ?_
      refine f_ixT (k := 1) ((q9.up hB6 (Ex.of s7))) rfl (fun w10 rw10 => ?_)
      refine k_arg (val_var rfl) ?_
      with_reducible refine k_nil ?_
      refine k_spF (x, y, (d0 (x) (y)), (d1 (x) (y)), 200) hB7 (rcons (rw10) (rcons ((q5.up hB6 (Ex.of s7))) (rnil (K := K)))) ⟨(hx.mono (by first | omega | (dsimp only; omega))), (hy.mono (by first | omega | (dsimp only; omega))), (zd1.1.mono (by first | omega | (dsimp only; omega))), (zd1.2.mono (by first | omega | (dsimp only; omega))), dir_prim hv, dir_par, (by first | omega | (dsimp only; omega))⟩ (fun v8 H8 r8 s8 hB8 => ?_)
      obtain rfl := bl_of (b := true) r8
      refine ⟨_, rfl, ?_⟩
      refine iteF ?_
      with_reducible refine k_next ?_
      with_reducible refine k_seq ?_
      with_reducible refine k_set ?_
      with_reducible refine k_opX ?_
      refine k_val (val_var rfl) ?_
      refine k_val val_c ?_
      have q12 := ((q9.up hB6 (Ex.of s7)).up hB7 (Ex.of s8))
      refine f_ixT (k := 1) (q12) rfl (fun w11 rw11 => ?_)
      with_reducible refine k_seq ?_
      with_reducible refine k_set ?_
      with_reducible refine k_tup ?_
      with_reducible refine k_argX ?_
      with_reducible refine k_tup ?_
      refine k_arg (v_ixI (k := 0) (val_var rfl) (rw11) val_c rfl) ?_
      refine k_arg val_c ?_
      with_reducible refine k_nil ?_
      refine k_tup_end hB8 (rcons (rint _) (rcons (rint _) (rnil (K := K)))) (fun v9 H9 r9 s9 hB9 => ?_)
      replace r9 : Rep K G.M H9 (fr (((d0 (x) (y)) : Int) : Rat)) v9 := r9
      with_reducible refine k_argX ?_
      with_reducible refine k_tup ?_
      refine k_arg (v_ixI (k := 1) (val_var rfl) ((rw11.up hB8 (Ex.of s9))) val_c rfl) ?_
      refine k_arg val_c ?_
      with_reducible refine k_nil ?_
      refine k_tup_end hB9 (rcons (rint _) (rcons (rint _) (rnil (K := K)))) (fun v10 H10 r10 s10 hB10 => ?_)
      replace r10 : Rep K G.M H10 (fr (((d1 (x) (y)) : Int) : Rat)) v10 := r10
      with_reducible refine k_nil ?_
      refine k_tup_end hB10 (rcons ((r9.up hB9 (Ex.of s10))) (rcons (r10) (rnil (K := K)))) (fun v11 H11 r11 s11 hB11 => ?_)
      with_reducible refine k_seq ?_
      with_reducible refine k_set ?_
      with_reducible refine k_ifE ?_
      with_reducible refine k_T ?_
      have q13 := (((rw11.up hB8 (Ex.of s9)).up hB9 (Ex.of s10)).up hB10 (Ex.of s11))
      refine k_val (v_neI (v_ixI (k := 0) (val_var rfl) (q13) val_c rfl) val_c) ?_
      refine ⟨false, congrArg V.bl (show ((!decide ((d0 (x) (y)) = (0 : Int)))) = false from by rw [d0_z hx0 hy0]; rfl), ?_⟩
      refine iteF ?_
      with_reducible refine k_call ?_
      with_reducible refine k_argX ?_
      with_reducible refine k_opX ?_
      refine k_val (val_var rfl) ?_
      refine k_val val_c ?_
      have q15 := (((((q5.up hB6 (Ex.of s7)).up hB7 (Ex.of s8)).up hB8 (Ex.of s9)).up hB9 (Ex.of s10)).up hB10 (Ex.of s11))
      refine f_ixT (k := 1) (q15) rfl (fun w14 rw14 => ?_)
      with_reducible refine k_argX ?_
      with_reducible refine k_opX ?_
      refine k_val (val_var rfl) ?_
      refine k_val val_c ?_
      refine f_ixT (k := 1) (r11) rfl (fun w16 rw16 => ?_)
      with_reducible refine k_nil ?_
      refine k_spF (y, (((d1 (x) (y)) : Int) : Rat), 100, 200) hB11 (rcons (rw14) (rcons (rw16) (rnil (K := K)))) ⟨hy, (show SzR 200 (((d1 (x) (y)) : Int) : Rat) from ⟨zd1.2, sz_lit 200 (1 : Int)⟩), (by first | omega | (dsimp only; omega)), (ic_ne (d1_ne hx0 hy0))⟩ (fun v12 H12 r12 s12 hB12 => ?_)
      replace r12 : Rep K G.M H12 ((fr ((y / (((d1 (x) (y)) : Int) : Rat))))) v12 := r12
      have z12 : SzR 300 ((y / (((d1 (x) (y)) : Int) : Rat))) := (szr_div hy (show SzR 200 (((d1 (x) (y)) : Int) : Rat) from ⟨zd1.2, sz_lit 200 (1 : Int)⟩) (ic_ne (d1_ne hx0 hy0)) (by omega))
      with_reducible refine k_seq ?_
      with_reducible refine k_ifX ?_
      with_reducible refine k_not ?_
      with_reducible refine k_B ?_
      with_reducible refine k_call ?_
      with_reducible refine k_argX ?_
      with_reducible refine k_lst ?_
      with_reducible refine k_argX ?_
      with_reducible refine k_call ?_
      refine k_arg (val_var rfl) ?_
      refine k_arg (val_var rfl) ?_
      with_reducible refine k_nil ?_
      refine k_spF ((((d0 (x) (y)) : Int) : Rat), (((d1 (x) (y)) : Int) : Rat), (y / (((d1 (x) (y)) : Int) : Rat)), 300) hB12 (rcons ((r11.up hB11 (Ex.of s12))) (rcons (r12) (rnil (K := K)))) ⟨((show SzR 200 (((d0 (x) (y)) : Int) : Rat) from ⟨zd1.1, sz_lit 200 (1 : Int)⟩).mono (by first | omega | (dsimp only; omega))), ((show SzR 200 (((d1 (x) (y)) : Int) : Rat) from ⟨zd1.2, sz_lit 200 (1 : Int)⟩).mono (by first | omega | (dsimp only; omega))), (z12.mono (by first | omega | (dsimp only; omega))), (by first | omega | (dsimp only; omega))⟩ (fun v13 H13 r13 s13 hB13 => ?_)
      replace r13 : Rep K G.M H13 (.tup [(fr (((((d0 (x) (y)) : Int) : Rat) * (y / (((d1 (x) (y)) : Int) : Rat))))), (fr (((((d1 (x) (y)) : Int) : Rat) * (y / (((d1 (x) (y)) : Int) : Rat)))))]) v13 := r13
      have z13_0 : SzR 600 (((((d0 (x) (y)) : Int) : Rat) * (y / (((d1 (x) (y)) : Int) : Rat)))) := (szr_mul (show SzR 200 (((d0 (x) (y)) : Int) : Rat) from ⟨zd1.1, sz_lit 200 (1 : Int)⟩) z12 (by omega))
      have z13_1 : SzR 600 (((((d1 (x) (y)) : Int) : Rat) * (y / (((d1 (x) (y)) : Int) : Rat)))) := (szr_mul (show SzR 200 (((d1 (x) (y)) : Int) : Rat) from ⟨zd1.2, sz_lit 200 (1 : Int)⟩) z12 (by omega))
      with_reducible refine k_argX ?_
      with_reducible refine k_call ?_
      refine k_arg (val_var rfl) ?_
      with_reducible refine k_nil ?_
      have zd17 : Sz 400 (d0 ((((d0 (x) (y)) : Int) : Rat)) ((((d1 (x) (y)) : Int) : Rat))) ∧ Sz 400 (d1 ((((d0 (x) (y)) : Int) : Rat)) ((((d1 (x) (y)) : Int) : Rat))) := sz_dir (n := 200) ((show SzR 200 (((d0 (x) (y)) : Int) : Rat) from ⟨zd1.1, sz_lit 200 (1 : Int)⟩).mono (by first | omega | (dsimp only; omega))) ((show SzR 200 (((d1 (x) (y)) : Int) : Rat) from ⟨zd1.2, sz_lit 200 (1 : Int)⟩).mono (by first | omega | (dsimp only; omega))) (unit_nz (dir_prim hv))
      have q18 := ((r11.up hB11 (Ex.of s12)).up hB12 (Ex.of s13))
      refine k_spF ((((d0 (x) (y)) : Int) : Rat), (((d1 (x) (y)) : Int) : Rat), 200) hB13 (rcons (q18) (rnil (K := K))) ⟨((show SzR 200 (((d0 (x) (y)) : Int) : Rat) from ⟨zd1.1, sz_lit 200 (1 : Int)⟩).mono (by first | omega | (dsimp only; omega))), ((show SzR 200 (((d1 (x) (y)) : Int) : Rat) from ⟨zd1.2, sz_lit 200 (1 : Int)⟩).mono (by first | omega | (dsimp only; omega))), (by first | omega | (dsimp only; omega)), nz_iff.mpr (unit_nz (dir_prim hv))⟩ (fun v14 H14 r14 s14 hB14 => ?_)
      replace r14 : Rep K G.M H14 (.tup [.int ((d0 ((((d0 (x) (y)) : Int) : Rat)) ((((d1 (x) (y)) : Int) : Rat)))), .int ((d1 ((((d0 (x) (y)) : Int) : Rat)) ((((d1 (x) (y)) : Int) : Rat))))]) v14 := r14
      with_reducible refine k_nil ?_
      refine k_lst_end hB14 (rcons ((r13.up hB13 (Ex.of s14))) (rcons (r14) (rnil (K := K)))) (fun v15 H15 r15 s15 hB15 => ?_)
      with_reducible refine k_argX ?_
      with_reducible refine k_lst ?_
      refine k_arg (val_var rfl) ?_
      refine k_arg (val_var rfl) ?_
      with_reducible refine k_nil ?_
      have q19 := ((((q13.up hB11 (Ex.of s12)).up hB12 (Ex.of s13)).up hB13 (Ex.of s14)).up hB14 (Ex.of s15))
      have q20 := ((((q15.up hB11 (Ex.of s12)).up hB12 (Ex.of s13)).up hB13 (Ex.of s14)).up hB14 (Ex.of s15))
      refine k_lst_end hB15 (rcons (q20) (rcons (q19) (rnil (K := K)))) (fun v16 H16 r16 s16 hB16 => ?_)
      with_reducible refine k_nil ?_
      have he21 : (.lst [.tup [(fr (x)), (fr (y))], .tup [.int ((d0 (x) (y))), .int ((d1 (x) (y)))]] : D) = .lst [.tup [(fr (((((d0 (x) (y)) : Int) : Rat) * (y / (((d1 (x) (y)) : Int) : Rat))))), (fr (((((d1 (x) (y)) : Int) : Rat) * (y / (((d1 (x) (y)) : Int) : Rat)))))], .tup [.int ((d0 ((((d0 (x) (y)) : Int) : Rat)) ((((d1 (x) (y)) : Int) : Rat)))), .int ((d1 ((((d0 (x) (y)) : Int) : Rat)) ((((d1 (x) (y)) : Int) : Rat))))]] := by first | rfl | exact same_unitA ‹_› | exact same_unitB ‹_› ‹_› | exact same_long ‹_› ‹_›
      have re22 : Rep K G.M H16 (.lst [.tup [(fr (((((d0 (x) (y)) : Int) : Rat) * (y / (((d1 (x) (y)) : Int) : Rat))))), (fr (((((d1 (x) (y)) : Int) : Rat) * (y / (((d1 (x) (y)) : Int) : Rat)))))], .tup [.int ((d0 ((((d0 (x) (y)) : Int) : Rat)) ((((d1 (x) (y)) : Int) : Rat)))), .int ((d1 ((((d0 (x) (y)) : Int) : Rat)) ((((d1 (x) (y)) : Int) : Rat))))]]) v16 := by rw [← he21]; exact (r16)
      refine k_spF (.lst [.tup [(fr (((((d0 (x) (y)) : Int) : Rat) * (y / (((d1 (x) (y)) : Int) : Rat))))), (fr (((((d1 (x) (y)) : Int) : Rat) * (y / (((d1 (x) (y)) : Int) : Rat)))))], .tup [.int ((d0 ((((d0 (x) (y)) : Int) : Rat)) ((((d1 (x) (y)) : Int) : Rat)))), .int ((d1 ((((d0 (x) (y)) : Int) : Rat)) ((((d1 (x) (y)) : Int) : Rat))))]]) hB16 (rcons ((r15.up hB15 (Ex.of s16))) (rcons re22 (rnil (K := K)))) rfl (fun v17 H17 r17 s17 hB17 => ?_)
      obtain rfl := bl_of (b := true) r17
      refine ⟨_, rfl, ?_⟩
      refine iteF ?_
      with_reducible refine k_next ?_
      with_reducible refine k_seq ?_
      with_reducible refine k_set ?_
      with_reducible refine k_call ?_
      refine k_arg (val_var rfl) ?_
      refine k_arg (val_var rfl) ?_
      with_reducible refine k_nil ?_
      have q23 := (((((((((((((((((r0_1.up hB (e1.imp tg.on)).up hB1 (Ex.of s2)).up hB2 (Ex.of s3)).up hB3 (e4.imp tg.on)).up hB4 (Ex.of s5)).up hB5 (Ex.of s6)).up hB6 (Ex.of s7)).up hB7 (Ex.of s8)).up hB8 (Ex.of s9)).up hB9 (Ex.of s10)).up hB10 (Ex.of s11)).up hB11 (Ex.of s12)).up hB12 (Ex.of s13)).up hB13 (Ex.of s14)).up hB14 (Ex.of s15)).up hB15 (Ex.of s16)).up hB16 (Ex.of s17))
      have q24 := ((q20.up hB15 (Ex.of s16)).up hB16 (Ex.of s17))
      refine k_spF (x, y, z, 100) hB17 (rcons (q24) (rcons (q23) (rnil (K := K)))) ⟨(hx.mono (by first | omega | (dsimp only; omega))), (hy.mono (by first | omega | (dsimp only; omega))), (hz.mono (by first | omega | (dsimp only; omega))), (by first | omega | (dsimp only; omega))⟩ (fun v18 H18 r18 s18 hB18 => ?_)
      replace r18 : Rep K G.M H18 (.tup [(fr ((x * z))), (fr ((y * z)))]) v18 := r18
      have z18_0 : SzR 200 ((x * z)) := (szr_mul hx hz (by omega))
      have z18_1 : SzR 200 ((y * z)) := (szr_mul hy hz (by omega))
      with_reducible refine k_ret ?_
      with_reducible refine k_call ?_
      with_reducible refine k_argX ?_
      refine k_got tg hB18 (fun H19 e19 hB19 => ?_)
      with_reducible refine k_call ?_
      refine k_arg (val_var rfl) ?_
      with_reducible refine k_nil ?_
      refine Or.inr (k_spE ((x * z), (y * z), 200) hB19 (rcons ((r18.up hB18 (e19.imp tg.on))) (rnil (K := K))) ⟨(z18_0.mono (by first | omega | (dsimp only; omega))), (z18_1.mono (by first | omega | (dsimp only; omega))), (by first | omega | (dsimp only; omega)), long_z hz0⟩ (fun dd20 H20 s20 hB20 hx20 => ?_))
      refine got_err Z hB20 hx20 (by decide +kernel) (fun v21 H21 r21 s21 hB21 => ?_)
      with_reducible refine k_argX ?_
      with_reducible refine k_ifE ?_
      with_reducible refine k_T ?_
      have q25 := ((((q23.up hB17 (Ex.of s18)).up hB18 (e19.imp tg.on)).up hB19 (Ex.of s20)).up hB20 (Ex.of s21))
      refine k_val (v_eqI (v_ixI (k := 0) (val_var rfl) (q25) val_c rfl) val_c) ?_
      refine ⟨true, congrArg V.bl (show ((decide ((z).num = (0 : Int)))) = true from num_t hz0), ?_⟩
      refine iteT ?_
      with_reducible refine k_tup ?_
      refine k_arg val_c ?_
      with_reducible refine k_nil ?_
      refine k_tup_end hB21 (rcons (rstr _) (rnil (K := K))) (fun v22 H22 r22 s22 hB22 => ?_)
      with_reducible refine k_nil ?_
      refine k_spF (.tup [.str (("ZeroDivisor" : Str))]) hB22 (rcons ((r21.up hB21 (Ex.of s22))) (rcons (r22) (rnil (K := K)))) rfl (fun v23 H23 r23 s23 hB23 => ?_)
      obtain rfl := bl_of (b := true) r23
      exact k _ _ _ rfl (rbl _) (e1.trans ((Ex.of s2).trans ((Ex.of s3).trans (e4.trans ((Ex.of s5).trans ((Ex.of s6).trans ((Ex.of s7).trans ((Ex.of s8).trans ((Ex.of s9).trans ((Ex.of s10).trans ((Ex.of s11).trans ((Ex.of s12).trans ((Ex.of s13).trans ((Ex.of s14).trans ((Ex.of s15).trans ((Ex.of s16).trans ((Ex.of s17).trans ((Ex.of s18).trans (e19.trans ((Ex.of s20).trans ((Ex.of s21).trans ((Ex.of s22).trans (Ex.of s23))))))))))))))))))))))) hB23
end
end Px

namespace Px
open PySem PySem.Spec PyProof.Rows L2
section
variable {P : Program} {w : World} {K : PySem.W.Frag} {mg : Str → Option Value} {base : Heap}
section
open RZ
variable {G : Bg} {H : Hp} {σ : L2.St} {te : TE} {Q : VK}
theorem k_lcZ2 {i j : Nat} {vs : List Nat} {ds0 ds1 : List D} {v0 w0 : V} (W : Addr → Prop) (hW : ∀ a, W a → G.M a) (hn : ds0.length ≤ 1000) (hl2 : ds1.length = ds0.length) (hB : G.B H) (r0 : Rep K G.M H (.lst ds0) v0) (r1 : Rep K G.M H (.lst ds1) w0) (P : Nat → D → Prop)
    (hw : ∀ x y, wipe (((wipe σ vs).set i (some x)).set j (some y)) vs = wipe σ vs)
    (body : ∀ d k x0 y0 a b H', ds0[k]? = some x0 → ds1[k]? = some y0 → H d = none → (G.plus d).B H' → Ex (G.plus d).M (upd H d (.lst [])) H' → Rep K (G.plus d).M H' x0 a → Rep K (G.plus d).M H' y0 b → ∀ Q' : VK, (∀ x v H4, P k x → Rep K (G.plus d).M H4 x v → Ex W H' H4 → (G.plus d).B H4 → Q' v H4) → te (((wipe σ vs).set i (some a)).set j (some b)) H' Q')
    (fin : ∀ ds v H', ds.length = ds0.length → (∀ k x, ds[k]? = some x → P k x) → Rep K G.M H' (.lst ds) v → Ex W H H' → G.B H' → Q v H') :
    ∃ a b xs ys, [v0, w0] = [V.ref a, V.ref b] ∧ ((SqL K H a xs ∧ SqL K H b ys ∧ LcEnd (gPair K i j) tYes te vs σ Q (Itz K a b) H) ∨ (SqT K H a xs ∧ SqT K H b ys ∧ LcEnd (gPair K i j) tYes te vs σ Q (ItzT K a b) H)) := by
  obtain ⟨a, xs, rfl, nm, hr, rs⟩ := lst_of r0
  obtain ⟨b, ys, rfl, nm', hr', rs'⟩ := lst_of r1
  refine ⟨a, b, xs, ys, rfl, .inl ⟨.inl hr, .inl hr', fun d nd => ?_⟩⟩
  refine ⟨fun k m H' => m = ds0.length - k ∧ k ≤ ds0.length ∧ Mk1 K G W H P d k H', ⟨ds0.length, by simp, Nat.zero_le _, Mk1.start hB nd⟩, ?_⟩
  rintro k m H' ⟨rfl, hi, mk⟩
  have q : SqL K H' a xs := .inl (rd_up (fun z => nm (hW a z)) mk.e hr)
  have q' : SqL K H' b ys := .inl (rd_up (fun z => nm' (hW b z)) mk.e hr')
  by_cases hlt : k < ds0.length
  · obtain ⟨x, e1, e2⟩ := rs.at (List.getElem?_eq_getElem hlt)
    obtain ⟨y, e1', e2'⟩ := rs'.at (List.getElem?_eq_getElem (show k < ds1.length by omega))
    refine .inr ⟨⟨xs, ys, x, y, q, q', e1, e1'⟩, fun H2 => Mk1 K G W H P d (k + 1) H2, fun H2 p' => ⟨ds0.length - (k + 1), by omega, rfl, hlt, p'⟩, ?_⟩
    rintro v H2 ⟨T, x', y', rfl, nT, rfl, hx, hy⟩
    obtain rfl : x' = x := Option.some.inj ((hx xs q).symm.trans e1)
    obtain rfl : y' = y := Option.some.inj ((hy ys q').symm.trans e1')
    refine ⟨T, [x', y'], rfl, .inl (.inl upd_same), rfl, x', [y'], rfl, y', [], rfl, rfl, hw _ _, ?_⟩
    show (if true = true then _ else Mk1 K G W H P d (k + 1) (upd H' T (.tup [x', y'])))
    rw [if_pos rfl]
    have s := same_upd (o := .tup [x', y']) nT
    have b2 := (G.plus d).st _ _ mk.bp s
    have ep := (mk.ep hW nd).trans (Ex.of s)
    have nts := Bg.nt (Mk1.bp (K := K) (W := W) (P := P) (Mk1.start hB nd))
    have e3 := (e2.enter hB nd).upC nts ep
    have e3' := (e2'.enter hB nd).upC nts ep
    exact body d k _ _ x' y' _ (List.getElem?_eq_getElem hlt) (List.getElem?_eq_getElem (show k < ds1.length by omega)) nd b2 ep e3 e3' _ fun z v H4 hp r ex b => mk.step hW hB nd (by omega) hp r ((Ex.of s).trans ex) b
  · have hk : k = ds0.length := by omega
    subst hk
    obtain ⟨ds, a1, a2, a3, a4, a5⟩ := mk.done hB nd
    exact .inl ⟨⟨xs, ys, q, q', .inl (by rw [rs.len]; exact Nat.le_refl _)⟩, fin ds _ H' a1 a2 a3 a4 a5⟩
end

end
end Px

namespace Px
open PySem PySem.Spec PyProof.Rows L2
section
variable {P : Program} {w : World} {K : PySem.W.Frag} {mg : Str → Option Value} {base : Heap}
theorem sub_eqd (x y : Rat) : x - y = Rat.divInt (x.num * (y.den : Int) - y.num * (x.den : Int)) ((x.den : Int) * (y.den : Int)) := by
  rw [Rat.sub_eq_add_neg, add_eq, Rat.neg_num, Rat.neg_den, Int.neg_mul, Int.sub_eq_add_neg]
theorem rsub_eqd (x y : Rat) : y - x = Rat.divInt (0 - (x.num * (y.den : Int) - y.num * (x.den : Int))) ((x.den : Int) * (y.den : Int)) := by
  rw [sub_eqd y x, Int.mul_comm (y.den : Int), Int.zero_sub, Int.neg_sub]
theorem same_back (x0 x1 y0 y1 z : Rat) : (.lst [.tup [fr x0, fr x1], .tup [fr x0, fr x1], .tup [fr ((x0 + y0) * z), fr ((x1 + y1) * z)]] : D) = .lst [.tup [fr ((x0 + y0) - y0), fr ((x1 + y1) - y1)], .tup [fr ((x0 - y0) + y0), fr ((x1 - y1) + y1)], .tup [fr ((x0 * z) + (y0 * z)), fr ((x1 * z) + (y1 * z))]] := by
  rw [show x0 + y0 - y0 = x0 by grind, show x1 + y1 - y1 = x1 by grind, show x0 - y0 + y0 = x0 by grind, show x1 - y1 + y1 = x1 by grind, show x0 * z + y0 * z = (x0 + y0) * z by grind, show x1 * z + y1 * z = (x1 + y1) * z by grind]
theorem same_dbl (x0 x1 z : Rat) : (.tup [fr ((x0 * z) + (x0 * z)), fr ((x1 * z) + (x1 * z))] : D) = .tup [fr (x0 * (z + z)), fr (x1 * (z + z))] := by
  rw [show x0 * z + x0 * z = x0 * (z + z) by grind, show x1 * z + x1 * z = x1 * (z + z) by grind]
def sp__law_sums_so (K : PySem.W.Frag) : Sp := spF K (α := Rat × Rat × Rat × Rat × Rat) (fun x => [.tup [(fr (x.1)), (fr (x.2.1))], .tup [(fr (x.2.2.1)), (fr (x.2.2.2.1))], (fr (x.2.2.2.2))]) (fun x => SzR 100 x.1 ∧ SzR 100 x.2.1 ∧ SzR 100 x.2.2.1 ∧ SzR 100 x.2.2.2.1 ∧ SzR 100 x.2.2.2.2) (fun x => .bl (true))
set_option maxHeartbeats 8000000 in
theorem has__law_sums_so (T : Tx K mg) : Has P w K mg base CX0 "_law_sums_so" s__law_sums_so ["_law_u", "_law_v", "_law_w"] 12 (sp__law_sums_so K) := by
  obtain ⟨f, fd, F, M⟩ := T._law_sums_so
  obtain ⟨f__law_same, fd__law_same, F__law_same, M__law_same, B__law_same, G__law_same⟩ := has__law_same (P := P) (w := w) (base := base) T
  obtain ⟨f__law_pair, fd__law_pair, F__law_pair, M__law_pair, B__law_pair, G__law_pair⟩ := has__law_pair (P := P) (w := w) (base := base) T
  obtain ⟨f__law_right, fd__law_right, F__law_right, M__law_right, B__law_right, G__law_right⟩ := has__law_right (P := P) (w := w) (base := base) T
  obtain ⟨f_vector_plus, fd_vector_plus, F_vector_plus, M_vector_plus, B_vector_plus, G_vector_plus⟩ := has_vector_plus (P := P) (w := w) (base := base) T
  obtain ⟨f_vector_minus, fd_vector_minus, F_vector_minus, M_vector_minus, B_vector_minus, G_vector_minus⟩ := has_vector_minus (P := P) (w := w) (base := base) T
  obtain ⟨f_vector_times, fd_vector_times, F_vector_times, M_vector_times, B_vector_times, G_vector_times⟩ := has_vector_times (P := P) (w := w) (base := base) T
  obtain ⟨f_plus, fd_plus, F_plus, M_plus, B_plus, G_plus⟩ := has_plus (P := P) (w := w) (base := base) T
  have KB_vector_minus_0_other_one : KBn K fd_vector_minus ["one", "other"] 0 ["other", "one"] (permU [1, 0]) (permV [1, 0]) := by
    obtain ⟨oc, od, kV, doc, pm, an, cdv, ct, osl, rfl, _, _⟩ := F_vector_minus.ex
    exact kbn_of [1, 0] fun us ws l1 l2 => match us, l1, ws, l2 with | [], _, [_, _], _ => rfl
  have KB_vector_plus_0_other_one : KBn K fd_vector_plus ["one", "other"] 0 ["other", "one"] (permU [1, 0]) (permV [1, 0]) := by
    obtain ⟨oc, od, kV, doc, pm, an, cdv, ct, osl, rfl, _, _⟩ := F_vector_plus.ex
    exact kbn_of [1, 0] fun us ws l1 l2 => match us, l1, ws, l2 with | [], _, [_, _], _ => rfl
  have KB_vector_times_0_weight_vector : KBn K fd_vector_times ["vector", "weight"] 0 ["weight", "vector"] (permU [1, 0]) (permV [1, 0]) := by
    obtain ⟨oc, od, kV, doc, pm, an, cdv, ct, osl, rfl, _, _⟩ := F_vector_times.ex
    exact kbn_of [1, 0] fun us ws l1 l2 => match us, l1, ws, l2 with | [], _, [_, _], _ => rfl
  refine ⟨f, fd, F, M, F.binds (ps := ["_law_u", "_law_v", "_law_w"]) (fun _ _ _ _ _ _ us hl => match us, hl with | [_, _, _], _ => rfl), F.ok sc__law_sums_so (fun vs H Q E h => ?_) (fun cdv A outer s H vs Q E hr h => ?_)⟩
  · obtain ⟨G, x, hB, r, hp, q⟩ := h; rw [r.len]; rfl
  · obtain ⟨G, ⟨x0, x1, y0, y1, z⟩, hB, r, ⟨hx0, hx1, hy0, hy1, hz⟩, k⟩ := h
    replace hx0 : SzR 100 x0 := hx0
    replace hx1 : SzR 100 x1 := hx1
    replace hy0 : SzR 100 y0 := hy0
    replace hy1 : SzR 100 y1 := hy1
    replace hz : SzR 100 z := hz
    replace k : ∀ d v H', d = (.bl (true) : D) → Rep K G.M H' d v → Same H H' → G.B H' → Q v H' := k
    obtain ⟨v0_0, _, rfl, r0_0, rt0⟩ := cons_of r
    replace r0_0 : Rep K G.M H (.tup [(fr (x0)), (fr (x1))]) v0_0 := r0_0
    obtain ⟨v0_1, _, rfl, r0_1, rt1⟩ := cons_of rt0
    replace r0_1 : Rep K G.M H (.tup [(fr (y0)), (fr (y1))]) v0_1 := r0_1
    obtain ⟨v0_2, _, rfl, r0_2, rt2⟩ := cons_of rt1
    replace r0_2 : Rep K G.M H ((fr (z))) v0_2 := r0_2
    obtain rfl := nil_of rt2
    refine ⟨_, (pss_cons (ps_set (i := 3) sc__law_sums_so.nd rfl (.inl rfl) (pe_lst (pa_cons (pe_call G_vector_plus (hr.mono (by decide)) (by rfl) M_vector_plus F_vector_plus.kp B_vector_plus .nil pass0 (pa_cons (pv 0) (pa_cons (pv 1) pa_nil))) (pa_cons (pe_call G_vector_minus (hr.mono (by decide)) (by rfl) M_vector_minus F_vector_minus.kp B_vector_minus .nil pass0 (pa_cons (pv 0) (pa_cons (pv 1) pa_nil))) (pa_cons (pe_call G_vector_times (hr.mono (by decide)) (by rfl) M_vector_times F_vector_times.kp B_vector_times .nil pass0 (pa_cons (pv 0) (pa_cons (pv 2) pa_nil))) (pa_cons (pe_callN0 G_vector_plus (hr.mono (by decide)) (by rfl) M_vector_plus F_vector_plus.kp KB_vector_plus_0_other_one pass0  (pk_cons (pv 1) (pk_cons (pv 0) pk_nil))) (pa_cons (pe_callN0 G_vector_minus (hr.mono (by decide)) (by rfl) M_vector_minus F_vector_minus.kp KB_vector_minus_0_other_one pass0  (pk_cons (pv 0) (pk_cons (pv 1) pk_nil))) (pa_cons (pe_callN0 G_vector_times (hr.mono (by decide)) (by rfl) M_vector_times F_vector_times.kp KB_vector_times_0_weight_vector pass0  (pk_cons (pv 2) (pk_cons (pv 1) pk_nil))) pa_nil)))))))) (pss_cons (ps_if (pt_not (pt_val (pe_callB (cr_all (by rfl)) (by rfl) T.all (by decide +kernel) (pa_cons (pe_lc (own := [("_law_r", 12)]) (g := gName 12) (tt := tYes) (by rfl) sc__law_sums_so.nd (pi_listK (K := K) (pv 3)) (blkOk_by (own := [("_law_r", 12)]) (N := ["_law_u", "_law_v", "_law_w", "_law_told", "_law_k", "_law_x", "_law_y", "_law_low_here", "_law_up", "_law_down", "_law_due", "_law_back", "_law_r", "_law_p"]) (sc := (defScope s__law_sums_so)) (by decide +kernel)) (fun _ _ _ _ _ => pg_name (i := 12) sc__law_sums_so.nd rfl (.inl rfl)) (fun _ _ _ _ _ => pts_nil) (fun _ _ _ _ _ => (pe_call G__law_pair (hr.mono (by decide)) (by rfl) M__law_pair F__law_pair.kp B__law_pair .nil pass0 (pa_cons (pv 12) pa_nil)))) pa_nil)))) (pss_one ps_never) pss_nil) (pss_cons (ps_for PassesOwn.never rfl (pi_range1 (by rfl) T.range (pa_cons pe_int pa_nil)) (pg_name (i := 4) sc__law_sums_so.nd rfl (.inr rfl)) (pss_cons (ps_par (i := 5) (j := 6) (by rfl) sc__law_sums_so.nd rfl rfl (by decide) rfl rfl (pa_cons (pe_ix (ix_tupK (K := K)) (pv 0) (pv 4) (fun _ _ => rfl)) (pa_cons (pe_ix (ix_tupK (K := K)) (pv 1) (pv 4) (fun _ _ => rfl)) pa_nil)) (by rfl)) (pss_cons (ps_par3 (i := 7) (j := 8) (l := 9) (by rfl) sc__law_sums_so.nd rfl rfl rfl (by decide) (by decide) (by decide) rfl rfl rfl (pa_cons (pe_op op_mulW (pe_ix (ix_tupK (K := K)) (pv 5) pe_int (fun _ _ => rfl)) (pe_ix (ix_tupK (K := K)) (pv 6) pe_int (fun _ _ => rfl))) (pa_cons (pe_op op_add (pe_op op_mulW (pe_ix (ix_tupK (K := K)) (pv 5) pe_int (fun _ _ => rfl)) (pe_ix (ix_tupK (K := K)) (pv 6) pe_int (fun _ _ => rfl))) (pe_op op_mulW (pe_ix (ix_tupK (K := K)) (pv 6) pe_int (fun _ _ => rfl)) (pe_ix (ix_tupK (K := K)) (pv 5) pe_int (fun _ _ => rfl)))) (pa_cons (pe_op op_sub (pe_op op_mulW (pe_ix (ix_tupK (K := K)) (pv 5) pe_int (fun _ _ => rfl)) (pe_ix (ix_tupK (K := K)) (pv 6) pe_int (fun _ _ => rfl))) (pe_op op_mulW (pe_ix (ix_tupK (K := K)) (pv 6) pe_int (fun _ _ => rfl)) (pe_ix (ix_tupK (K := K)) (pv 5) pe_int (fun _ _ => rfl)))) pa_nil))) (by rfl)) (pss_cons (ps_set (i := 10) sc__law_sums_so.nd rfl (.inl rfl) (pe_lst (pa_cons (pe_tup (pa_cons (pv 8) (pa_cons (pv 7) pa_nil))) (pa_cons (pe_tup (pa_cons (pv 9) (pa_cons (pv 7) pa_nil))) (pa_cons (pe_tup (pa_cons (pe_op op_mulW (pe_ix (ix_tupK (K := K)) (pv 5) pe_int (fun _ _ => rfl)) (pe_ix (ix_tupK (K := K)) (pv 2) pe_int (fun _ _ => rfl))) (pa_cons (pe_op op_mulW (pe_ix (ix_tupK (K := K)) (pv 5) pe_int (fun _ _ => rfl)) (pe_ix (ix_tupK (K := K)) (pv 2) pe_int (fun _ _ => rfl))) pa_nil))) (pa_cons (pe_tup (pa_cons (pv 8) (pa_cons (pv 7) pa_nil))) (pa_cons (pe_tup (pa_cons (pe_op op_sub pe_int (pv 9)) (pa_cons (pv 7) pa_nil))) (pa_cons (pe_tup (pa_cons (pe_op op_mulW (pe_ix (ix_tupK (K := K)) (pv 6) pe_int (fun _ _ => rfl)) (pe_ix (ix_tupK (K := K)) (pv 2) pe_int (fun _ _ => rfl))) (pa_cons (pe_op op_mulW (pe_ix (ix_tupK (K := K)) (pv 6) pe_int (fun _ _ => rfl)) (pe_ix (ix_tupK (K := K)) (pv 2) pe_int (fun _ _ => rfl))) pa_nil))) pa_nil)))))))) (pss_one (ps_if (pt_not (pt_val (pe_callB (cr_all (by rfl)) (by rfl) T.all (by decide +kernel) (pa_cons (pe_lc (own := [("_law_r", 12), ("_law_p", 13)]) (g := gPair K 12 13) (tt := tYes) (by rfl) sc__law_sums_so.nd (RZ.pi_zipA (by rfl) T.zip (pa_cons (pv 3) (pa_cons (pv 10) pa_nil))) (blkOk_by (own := [("_law_r", 12), ("_law_p", 13)]) (N := ["_law_u", "_law_v", "_law_w", "_law_told", "_law_k", "_law_x", "_law_y", "_law_low_here", "_law_up", "_law_down", "_law_due", "_law_back", "_law_r", "_law_p"]) (sc := (defScope s__law_sums_so)) (by decide +kernel)) (fun _ _ _ _ _ => pg_tupK (K := K) rfl (pgs_cons (pg_name (i := 12) sc__law_sums_so.nd rfl (.inl rfl)) (pgs_cons (pg_name (i := 13) sc__law_sums_so.nd rfl (.inl rfl)) pgs_nil))) (fun _ _ _ _ _ => pts_nil) (fun _ _ _ _ _ => (pe_call G__law_right (hr.mono (by decide)) (by rfl) M__law_right F__law_right.kp B__law_right .nil pass0 (pa_cons (pe_ix (ix_tupK (K := K)) (pv 12) (pv 4) (fun _ _ => rfl)) (pa_cons (pe_ix (ix_tupK (K := K)) (pv 13) pe_int (fun _ _ => rfl)) (pa_cons (pe_ix (ix_tupK (K := K)) (pv 13) pe_int (fun _ _ => rfl)) pa_nil)))))) pa_nil)))) (pss_one ps_never) pss_nil)))))) (pss_cons (ps_set (i := 11) sc__law_sums_so.nd rfl (.inl rfl) (pe_lst (pa_cons (pe_call G_vector_minus (hr.mono (by decide)) (by rfl) M_vector_minus F_vector_minus.kp B_vector_minus .nil pass0 (pa_cons (pe_ix (ix_listK (K := K)) (pv 3) pe_int (fun _ _ => rfl)) (pa_cons (pv 1) pa_nil))) (pa_cons (pe_call G_vector_plus (hr.mono (by decide)) (by rfl) M_vector_plus F_vector_plus.kp B_vector_plus .nil pass0 (pa_cons (pe_ix (ix_listK (K := K)) (pv 3) pe_int (fun _ _ => rfl)) (pa_cons (pv 1) pa_nil))) (pa_cons (pe_call G_vector_plus (hr.mono (by decide)) (by rfl) M_vector_plus F_vector_plus.kp B_vector_plus .nil pass0 (pa_cons (pe_call G_vector_times (hr.mono (by decide)) (by rfl) M_vector_times F_vector_times.kp B_vector_times .nil pass0 (pa_cons (pv 0) (pa_cons (pv 2) pa_nil))) (pa_cons (pe_call G_vector_times (hr.mono (by decide)) (by rfl) M_vector_times F_vector_times.kp B_vector_times .nil pass0 (pa_cons (pv 1) (pa_cons (pv 2) pa_nil))) pa_nil))) pa_nil))))) (pss_cons (ps_if (pt_not (pt_val (pe_call G__law_same (hr.mono (by decide)) (by rfl) M__law_same F__law_same.kp B__law_same .nil pass0 (pa_cons (pv 11) (pa_cons (pe_lst (pa_cons (pv 0) (pa_cons (pv 0) (pa_cons (pe_call G_vector_times (hr.mono (by decide)) (by rfl) M_vector_times F_vector_times.kp B_vector_times .nil pass0 (pa_cons (pe_ix (ix_listK (K := K)) (pv 3) pe_int (fun _ _ => rfl)) (pa_cons (pv 2) pa_nil))) pa_nil)))) pa_nil))))) (pss_one ps_never) pss_nil) (pss_one (ps_ret (pe_call G__law_same (hr.mono (by decide)) (by rfl) M__law_same F__law_same.kp B__law_same .nil pass0 (pa_cons (pe_call G_vector_times (hr.mono (by decide)) (by rfl) M_vector_times F_vector_times.kp B_vector_times .nil pass0 (pa_cons (pv 0) (pa_cons (pe_call G_plus (hr.mono (by decide)) (by rfl) M_plus F_plus.kp B_plus .nil pass0 (pa_cons (pv 2) (pa_cons (pv 2) pa_nil))) pa_nil))) (pa_cons (pe_call G_vector_plus (hr.mono (by decide)) (by rfl) M_vector_plus F_vector_plus.kp B_vector_plus .nil pass0 (pa_cons (pe_ix (ix_listK (K := K)) (pv 3) pe_int (fun _ _ => rfl)) (pa_cons (pe_ix (ix_listK (K := K)) (pv 3) pe_int (fun _ _ => rfl)) pa_nil))) pa_nil)))))))))), ?_⟩
    with_reducible refine k_seq ?_
    with_reducible refine k_set ?_
    with_reducible refine k_lst ?_
    with_reducible refine k_argX ?_
    with_reducible refine k_call ?_
    refine k_arg (val_var rfl) ?_
    refine k_arg (val_var rfl) ?_
    with_reducible refine k_nil ?_
    refine k_spF (x0, x1, y0, y1, 100) hB (rcons (r0_0) (rcons (r0_1) (rnil (K := K)))) ⟨(hx0.mono (by first | omega | (dsimp only; omega))), (hx1.mono (by first | omega | (dsimp only; omega))), (hy0.mono (by first | omega | (dsimp only; omega))), (hy1.mono (by first | omega | (dsimp only; omega))), (by first | omega | (dsimp only; omega))⟩ (fun v1 H1 r1 s1 hB1 => ?_)
    replace r1 : Rep K G.M H1 (.tup [(fr ((x0 + y0))), (fr ((x1 + y1)))]) v1 := r1
    have z1_0 : SzR 201 ((x0 + y0)) := (szr_add hx0 hy0 (by omega))
    have z1_1 : SzR 201 ((x1 + y1)) := (szr_add hx1 hy1 (by omega))
    with_reducible refine k_argX ?_
    with_reducible refine k_call ?_
    refine k_arg (val_var rfl) ?_
    refine k_arg (val_var rfl) ?_
    with_reducible refine k_nil ?_
    refine k_spF (x0, x1, y0, y1, 100) hB1 (rcons ((r0_0.up hB (Ex.of s1))) (rcons ((r0_1.up hB (Ex.of s1))) (rnil (K := K)))) ⟨(hx0.mono (by first | omega | (dsimp only; omega))), (hx1.mono (by first | omega | (dsimp only; omega))), (hy0.mono (by first | omega | (dsimp only; omega))), (hy1.mono (by first | omega | (dsimp only; omega))), (by first | omega | (dsimp only; omega))⟩ (fun v2 H2 r2 s2 hB2 => ?_)
    replace r2 : Rep K G.M H2 (.tup [(fr ((x0 - y0))), (fr ((x1 - y1)))]) v2 := r2
    have z2_0 : SzR 201 ((x0 - y0)) := (szr_sub hx0 hy0 (by omega))
    have z2_1 : SzR 201 ((x1 - y1)) := (szr_sub hx1 hy1 (by omega))
    with_reducible refine k_argX ?_
    with_reducible refine k_call ?_
    refine k_arg (val_var rfl) ?_
    refine k_arg (val_var rfl) ?_
    with_reducible refine k_nil ?_
    have q1 := ((r0_2.up hB (Ex.of s1)).up hB1 (Ex.of s2))
    have q2 := ((r0_0.up hB (Ex.of s1)).up hB1 (Ex.of s2))
    refine k_spF (x0, x1, z, 100) hB2 (rcons (q2) (rcons (q1) (rnil (K := K)))) ⟨(hx0.mono (by first | omega | (dsimp only; omega))), (hx1.mono (by first | omega | (dsimp only; omega))), (hz.mono (by first | omega | (dsimp only; omega))), (by first | omega | (dsimp only; omega))⟩ (fun v3 H3 r3 s3 hB3 => ?_)
    replace r3 : Rep K G.M H3 (.tup [(fr ((x0 * z))), (fr ((x1 * z)))]) v3 := r3
    have z3_0 : SzR 200 ((x0 * z)) := (szr_mul hx0 hz (by omega))
    have z3_1 : SzR 200 ((x1 * z)) := (szr_mul hx1 hz (by omega))
    with_reducible refine k_argX ?_
    with_reducible refine k_callN ?_
    with_reducible refine k_nil ?_
    refine k_arg (val_var rfl) ?_
    refine k_arg (val_var rfl) ?_
    with_reducible refine k_nil ?_
    refine ⟨rfl, rfl, ?_⟩
    have q3 := (((r0_1.up hB (Ex.of s1)).up hB1 (Ex.of s2)).up hB2 (Ex.of s3))
    refine k_spF (x0, x1, y0, y1, 100) hB3 (rcons ((q2.up hB2 (Ex.of s3))) (rcons (q3) (rnil (K := K)))) ⟨(hx0.mono (by first | omega | (dsimp only; omega))), (hx1.mono (by first | omega | (dsimp only; omega))), (hy0.mono (by first | omega | (dsimp only; omega))), (hy1.mono (by first | omega | (dsimp only; omega))), (by first | omega | (dsimp only; omega))⟩ (fun v4 H4 r4 s4 hB4 => ?_)
    replace r4 : Rep K G.M H4 (.tup [(fr ((x0 + y0))), (fr ((x1 + y1)))]) v4 := r4
    have z4_0 : SzR 201 ((x0 + y0)) := (szr_add hx0 hy0 (by omega))
    have z4_1 : SzR 201 ((x1 + y1)) := (szr_add hx1 hy1 (by omega))
    with_reducible refine k_argX ?_
    with_reducible refine k_callN ?_
    with_reducible refine k_nil ?_
    refine k_arg (val_var rfl) ?_
    refine k_arg (val_var rfl) ?_
    with_reducible refine k_nil ?_
    refine ⟨rfl, rfl, ?_⟩
    have q4 := ((q2.up hB2 (Ex.of s3)).up hB3 (Ex.of s4))
    refine k_spF (y0, y1, x0, x1, 100) hB4 (rcons ((q3.up hB3 (Ex.of s4))) (rcons (q4) (rnil (K := K)))) ⟨(hy0.mono (by first | omega | (dsimp only; omega))), (hy1.mono (by first | omega | (dsimp only; omega))), (hx0.mono (by first | omega | (dsimp only; omega))), (hx1.mono (by first | omega | (dsimp only; omega))), (by first | omega | (dsimp only; omega))⟩ (fun v5 H5 r5 s5 hB5 => ?_)
    replace r5 : Rep K G.M H5 (.tup [(fr ((y0 - x0))), (fr ((y1 - x1)))]) v5 := r5
    have z5_0 : SzR 201 ((y0 - x0)) := (szr_sub hy0 hx0 (by omega))
    have z5_1 : SzR 201 ((y1 - x1)) := (szr_sub hy1 hx1 (by omega))
    with_reducible refine k_argX ?_
    with_reducible refine k_callN ?_
    with_reducible refine k_nil ?_
    refine k_arg (val_var rfl) ?_
    refine k_arg (val_var rfl) ?_
    with_reducible refine k_nil ?_
    refine ⟨rfl, rfl, ?_⟩
    have q5 := (((q1.up hB2 (Ex.of s3)).up hB3 (Ex.of s4)).up hB4 (Ex.of s5))
    have q6 := ((q3.up hB3 (Ex.of s4)).up hB4 (Ex.of s5))
    refine k_spF (y0, y1, z, 100) hB5 (rcons (q6) (rcons (q5) (rnil (K := K)))) ⟨(hy0.mono (by first | omega | (dsimp only; omega))), (hy1.mono (by first | omega | (dsimp only; omega))), (hz.mono (by first | omega | (dsimp only; omega))), (by first | omega | (dsimp only; omega))⟩ (fun v6 H6 r6 s6 hB6 => ?_)
    replace r6 : Rep K G.M H6 (.tup [(fr ((y0 * z))), (fr ((y1 * z)))]) v6 := r6
    have z6_0 : SzR 200 ((y0 * z)) := (szr_mul hy0 hz (by omega))
    have z6_1 : SzR 200 ((y1 * z)) := (szr_mul hy1 hz (by omega))
    with_reducible refine k_nil ?_
    have q7 := ((r4.up hB4 (Ex.of s5)).up hB5 (Ex.of s6))
    have q8 := (((r3.up hB3 (Ex.of s4)).up hB4 (Ex.of s5)).up hB5 (Ex.of s6))
    have q9 := ((((r2.up hB2 (Ex.of s3)).up hB3 (Ex.of s4)).up hB4 (Ex.of s5)).up hB5 (Ex.of s6))
    have q10 := (((((r1.up hB1 (Ex.of s2)).up hB2 (Ex.of s3)).up hB3 (Ex.of s4)).up hB4 (Ex.of s5)).up hB5 (Ex.of s6))
    refine k_lst_end hB6 (rcons (q10) (rcons (q9) (rcons (q8) (rcons (q7) (rcons ((r5.up hB5 (Ex.of s6))) (rcons (r6) (rnil (K := K)))))))) (fun v7 H7 r7 s7 hB7 => ?_)
    with_reducible refine k_seq ?_
    with_reducible refine k_ifX ?_
    with_reducible refine k_not ?_
    with_reducible refine k_B ?_
    with_reducible refine k_cb ?_
    with_reducible refine k_argX ?_
    with_reducible refine k_lcl ?_
    refine k_val (val_var rfl) ?_
    refine k_lcLE (K := K) (j := 12) (vs := [12]) (noM) (fun _ m => m.elim) (Nat.le_of_ble_eq_true rfl) hB7 (r7) (fun _ x => x = .bl true) (by intro _; rfl) (fun dc11 ic11 x11 w11 Hc11 hic11 nc11 hBc11 ec11 rx11 Qc11 kc11 => ?_) (fun ds11 vd11 He11 l11 p11 r11 e11 be11 => ?_)
    · have hB8 := Bg.enterB hB7 nc11
      have nd8 := nc11
      have hB9 := hBc11
      have e9 := ec11
      rcases ic11 with _ | _ | _ | _ | _ | _ | ic11
      · cases hic11
        replace rx11 : Rep K (G.plus dc11).M Hc11 (.tup [(fr ((x0 + y0))), (fr ((x1 + y1)))]) w11 := rx11
        with_reducible refine k_call ?_
        refine k_arg (val_var rfl) ?_
        with_reducible refine k_nil ?_
        refine k_spF ((fr ((x0 + y0))), (fr ((x1 + y1)))) hB9 (rcons (rx11) (rnil (K := K))) trivial (fun v10 H10 r10 s10 hB10 => ?_)
        obtain rfl := bl_of (b := true) r10
        exact kc11 _ _ _ rfl (rbl _) (Ex.of s10) hB10
      · cases hic11
        replace rx11 : Rep K (G.plus dc11).M Hc11 (.tup [(fr ((x0 - y0))), (fr ((x1 - y1)))]) w11 := rx11
        with_reducible refine k_call ?_
        refine k_arg (val_var rfl) ?_
        with_reducible refine k_nil ?_
        refine k_spF ((fr ((x0 - y0))), (fr ((x1 - y1)))) hB9 (rcons (rx11) (rnil (K := K))) trivial (fun v11 H11 r11 s11 hB11 => ?_)
        obtain rfl := bl_of (b := true) r11
        exact kc11 _ _ _ rfl (rbl _) (Ex.of s11) hB11
      · cases hic11
        replace rx11 : Rep K (G.plus dc11).M Hc11 (.tup [(fr ((x0 * z))), (fr ((x1 * z)))]) w11 := rx11
        with_reducible refine k_call ?_
        refine k_arg (val_var rfl) ?_
        with_reducible refine k_nil ?_
        refine k_spF ((fr ((x0 * z))), (fr ((x1 * z)))) hB9 (rcons (rx11) (rnil (K := K))) trivial (fun v12 H12 r12 s12 hB12 => ?_)
        obtain rfl := bl_of (b := true) r12
        exact kc11 _ _ _ rfl (rbl _) (Ex.of s12) hB12
      · cases hic11
        replace rx11 : Rep K (G.plus dc11).M Hc11 (.tup [(fr ((x0 + y0))), (fr ((x1 + y1)))]) w11 := rx11
        with_reducible refine k_call ?_
        refine k_arg (val_var rfl) ?_
        with_reducible refine k_nil ?_
        refine k_spF ((fr ((x0 + y0))), (fr ((x1 + y1)))) hB9 (rcons (rx11) (rnil (K := K))) trivial (fun v13 H13 r13 s13 hB13 => ?_)
        obtain rfl := bl_of (b := true) r13
        exact kc11 _ _ _ rfl (rbl _) (Ex.of s13) hB13
      · cases hic11
        replace rx11 : Rep K (G.plus dc11).M Hc11 (.tup [(fr ((y0 - x0))), (fr ((y1 - x1)))]) w11 := rx11
        with_reducible refine k_call ?_
        refine k_arg (val_var rfl) ?_
        with_reducible refine k_nil ?_
        refine k_spF ((fr ((y0 - x0))), (fr ((y1 - x1)))) hB9 (rcons (rx11) (rnil (K := K))) trivial (fun v14 H14 r14 s14 hB14 => ?_)
        obtain rfl := bl_of (b := true) r14
        exact kc11 _ _ _ rfl (rbl _) (Ex.of s14) hB14
      · cases hic11
        replace rx11 : Rep K (G.plus dc11).M Hc11 (.tup [(fr ((y0 * z))), (fr ((y1 * z)))]) w11 := rx11
        with_reducible refine k_call ?_
        refine k_arg (val_var rfl) ?_
        with_reducible refine k_nil ?_
        refine k_spF ((fr ((y0 * z))), (fr ((y1 * z)))) hB9 (rcons (rx11) (rnil (K := K))) trivial (fun v15 H15 r15 s15 hB15 => ?_)
        obtain rfl := bl_of (b := true) r15
        exact kc11 _ _ _ rfl (rbl _) (Ex.of s15) hB15
      · simp at hic11
    · have s16 := same_of e11
      have hB16 := be11
      have q11 := all_true p11
      have r16 : Rep K G.M He11 (.lst ((List.replicate ds11.length true).map .bl)) vd11 := by rw [← q11]; exact r11
      with_reducible refine k_nil ?_
      refine f_all (bs := (List.replicate ds11.length true)) (r16) (rep_all _) ?_
      refine ⟨_, rfl, ?_⟩
      refine iteF ?_
      with_reducible refine k_next ?_
      with_reducible refine k_seq ?_
      refine k_for_r ?_
      refine k_arg val_c ?_
      with_reducible refine k_nil ?_
      refine k_forR (n := 2) (j := 4) noM (fun _ m => m.elim) hB16 (fun _ σ2 => ∃ (o4_12 : Option V) (o5_12 : Option V) (o6_12 : Option V) (o7_12 : Option V) (o8_12 : Option V) (o9_12 : Option V) (o10_12 : Option V), σ2 = [some v0_0, some v0_1, some v0_2, some v7, o4_12, o5_12, o6_12, o7_12, o8_12, o9_12, o10_12, none, none, none]) ⟨_, _, _, _, _, _, _, rfl⟩ (by decide) (fun i12 σ12 Hi12 hi12 Ii12 bi12 ei12 Di12 ki12 => ?_) (fun σ12 Hi12 Ii12 ei12 bi12 => ?_) rfl
      · obtain ⟨o4_12, o5_12, o6_12, o7_12, o8_12, o9_12, o10_12, rfl⟩ := Ii12
        have s17 := same_of ei12
        have hB17 := bi12
        rcases (by omega : i12 = 0 ∨ i12 = 1) with rfl | rfl
        · with_reducible refine k_seq ?_
          with_reducible refine k_par ?_
          with_reducible refine k_argX ?_
          with_reducible refine k_opX ?_
          refine k_val (val_var rfl) ?_
          refine k_val (val_var rfl) ?_
          have q14 := (((((q4.up hB4 (Ex.of s5)).up hB5 (Ex.of s6)).up hB6 (Ex.of s7)).up hB7 (Ex.of s16)).up hB16 (Ex.of s17))
          refine f_ixT (k := 0) (q14) rfl (fun w13 rw13 => ?_)
          with_reducible refine k_argX ?_
          with_reducible refine k_opX ?_
          refine k_val (val_var rfl) ?_
          refine k_val (val_var rfl) ?_
          have q16 := ((((q6.up hB5 (Ex.of s6)).up hB6 (Ex.of s7)).up hB7 (Ex.of s16)).up hB16 (Ex.of s17))
          refine f_ixT (k := 0) (q16) rfl (fun w15 rw15 => ?_)
          with_reducible refine k_nil ?_
          refine ⟨_, _, rfl, ?_⟩
          with_reducible refine k_seq ?_
          with_reducible refine k_par3 ?_
          refine k_arg (v_op (v_ixI (k := 1) (val_var rfl) (rw13) val_c rfl) (v_ixI (k := 1) (val_var rfl) (rw15) val_c rfl) (cmul (hx0).2 (hy0).2 (by omega))) ?_
          refine k_arg (v_op0 (v_op (v_ixI (k := 0) (val_var rfl) (rw13) val_c rfl) (v_ixI (k := 1) (val_var rfl) (rw15) val_c rfl) (cmul (hx0).1 (hy0).2 (by omega))) (v_op (v_ixI (k := 0) (val_var rfl) (rw15) val_c rfl) (v_ixI (k := 1) (val_var rfl) (rw13) val_c rfl) (cmul (hy0).1 (hx0).2 (by omega)))) ?_
          refine k_arg (v_op0 (v_op (v_ixI (k := 0) (val_var rfl) (rw13) val_c rfl) (v_ixI (k := 1) (val_var rfl) (rw15) val_c rfl) (cmul (hx0).1 (hy0).2 (by omega))) (v_op (v_ixI (k := 0) (val_var rfl) (rw15) val_c rfl) (v_ixI (k := 1) (val_var rfl) (rw13) val_c rfl) (cmul (hy0).1 (hx0).2 (by omega)))) ?_
          with_reducible refine k_nil ?_
          refine ⟨_, _, _, rfl, ?_⟩
          with_reducible refine k_seq ?_
          with_reducible refine k_set ?_
          with_reducible refine k_lst ?_
          with_reducible refine k_argX ?_
          with_reducible refine k_tup ?_
          refine k_arg (val_var rfl) ?_
          refine k_arg (val_var rfl) ?_
          with_reducible refine k_nil ?_
          refine k_tup_end hB17 (rcons (rint _) (rcons (rint _) (rnil (K := K)))) (fun v18 H18 r18 s18 hB18 => ?_)
          with_reducible refine k_argX ?_
          with_reducible refine k_tup ?_
          refine k_arg (val_var rfl) ?_
          refine k_arg (val_var rfl) ?_
          with_reducible refine k_nil ?_
          refine k_tup_end hB18 (rcons (rint _) (rcons (rint _) (rnil (K := K)))) (fun v19 H19 r19 s19 hB19 => ?_)
          with_reducible refine k_argX ?_
          with_reducible refine k_tup ?_
          have q17 := ((rw13.up hB17 (Ex.of s18)).up hB18 (Ex.of s19))
          have q18 := ((((((q5.up hB5 (Ex.of s6)).up hB6 (Ex.of s7)).up hB7 (Ex.of s16)).up hB16 (Ex.of s17)).up hB17 (Ex.of s18)).up hB18 (Ex.of s19))
          refine k_arg (v_op (v_ixI (k := 0) (val_var rfl) (q17) val_c rfl) (v_ixI (k := 0) (val_var rfl) (q18) val_c rfl) (cmul (hx0).1 (hz).1 (by omega))) ?_
          refine k_arg (v_op (v_ixI (k := 1) (val_var rfl) (q17) val_c rfl) (v_ixI (k := 1) (val_var rfl) (q18) val_c rfl) (cmul (hx0).2 (hz).2 (by omega))) ?_
          with_reducible refine k_nil ?_
          refine k_tup_end hB19 (rcons (rint _) (rcons (rint _) (rnil (K := K)))) (fun v20 H20 r20 s20 hB20 => ?_)
          with_reducible refine k_argX ?_
          with_reducible refine k_tup ?_
          refine k_arg (val_var rfl) ?_
          refine k_arg (val_var rfl) ?_
          with_reducible refine k_nil ?_
          refine k_tup_end hB20 (rcons (rint _) (rcons (rint _) (rnil (K := K)))) (fun v21 H21 r21 s21 hB21 => ?_)
          with_reducible refine k_argX ?_
          with_reducible refine k_tup ?_
          refine k_arg (v_op0 val_c (val_var rfl)) ?_
          refine k_arg (val_var rfl) ?_
          with_reducible refine k_nil ?_
          refine k_tup_end hB21 (rcons (rint _) (rcons (rint _) (rnil (K := K)))) (fun v22 H22 r22 s22 hB22 => ?_)
          with_reducible refine k_argX ?_
          with_reducible refine k_tup ?_
          have q19 := (((((rw15.up hB17 (Ex.of s18)).up hB18 (Ex.of s19)).up hB19 (Ex.of s20)).up hB20 (Ex.of s21)).up hB21 (Ex.of s22))
          have q20 := (((q18.up hB19 (Ex.of s20)).up hB20 (Ex.of s21)).up hB21 (Ex.of s22))
          refine k_arg (v_op (v_ixI (k := 0) (val_var rfl) (q19) val_c rfl) (v_ixI (k := 0) (val_var rfl) (q20) val_c rfl) (cmul (hy0).1 (hz).1 (by omega))) ?_
          refine k_arg (v_op (v_ixI (k := 1) (val_var rfl) (q19) val_c rfl) (v_ixI (k := 1) (val_var rfl) (q20) val_c rfl) (cmul (hy0).2 (hz).2 (by omega))) ?_
          with_reducible refine k_nil ?_
          refine k_tup_end hB22 (rcons (rint _) (rcons (rint _) (rnil (K := K)))) (fun v23 H23 r23 s23 hB23 => ?_)
          with_reducible refine k_nil ?_
          have q21 := ((r21.up hB21 (Ex.of s22)).up hB22 (Ex.of s23))
          have q22 := (((r20.up hB20 (Ex.of s21)).up hB21 (Ex.of s22)).up hB22 (Ex.of s23))
          have q23 := ((((r19.up hB19 (Ex.of s20)).up hB20 (Ex.of s21)).up hB21 (Ex.of s22)).up hB22 (Ex.of s23))
          have q24 := (((((r18.up hB18 (Ex.of s19)).up hB19 (Ex.of s20)).up hB20 (Ex.of s21)).up hB21 (Ex.of s22)).up hB22 (Ex.of s23))
          refine k_lst_end hB23 (rcons (q24) (rcons (q23) (rcons (q22) (rcons (q21) (rcons ((r22.up hB22 (Ex.of s23))) (rcons (r23) (rnil (K := K)))))))) (fun v24 H24 r24 s24 hB24 => ?_)
          with_reducible refine k_ifX ?_
          with_reducible refine k_not ?_
          with_reducible refine k_B ?_
          with_reducible refine k_cb ?_
          with_reducible refine k_argX ?_
          refine k_lcz ?_
          refine k_arg (val_var rfl) ?_
          refine k_arg (val_var rfl) ?_
          with_reducible refine k_nil ?_
          have q26 := (((((((((r7.up hB7 (Ex.of s16)).up hB16 (Ex.of s17)).up hB17 (Ex.of s18)).up hB18 (Ex.of s19)).up hB19 (Ex.of s20)).up hB20 (Ex.of s21)).up hB21 (Ex.of s22)).up hB22 (Ex.of s23)).up hB23 (Ex.of s24))
          refine k_lcZ2 (K := K) (i := 12) (j := 13) (vs := [12, 13]) (noM) (fun _ m => m.elim) (Nat.le_of_ble_eq_true rfl) (by rfl) hB24 (q26) (r24) (fun _ x => x = .bl true) (by intro _ _; rfl) (fun dc25 ic25 x25 yd25 w25 y25 Hc25 hic25 hjc25 nc25 hBc25 ec25 rx25 ry25 Qc25 kc25 => ?_) (fun ds25 vd25 He25 l25 p25 r25 e25 be25 => ?_)
          · have hB25 := Bg.enterB hB24 nc25
            have nd25 := nc25
            have hB26 := hBc25
            have e26 := ec25
            rcases ic25 with _ | _ | _ | _ | _ | _ | ic25
            · obtain rfl := Option.some.inj (show some (.tup [(fr ((x0 + y0))), (fr ((x1 + y1)))] : D) = some x25 from hic25)
              obtain rfl := Option.some.inj (show some (.tup [.int ((((x0).num * ((y0).den : Int)) + ((y0).num * ((x0).den : Int)))), .int ((((x0).den : Int) * ((y0).den : Int)))] : D) = some yd25 from hjc25)
              with_reducible refine k_call ?_
              with_reducible refine k_argX ?_
              with_reducible refine k_opX ?_
              refine k_val (val_var rfl) ?_
              refine k_val (val_var rfl) ?_
              refine f_ixT (k := 0) (rx25) rfl (fun w27 rw27 => ?_)
              refine k_arg (v_ixI (k := 0) (val_var rfl) (ry25) val_c rfl) ?_
              refine k_arg (v_ixI (k := 1) (val_var rfl) (ry25) val_c rfl) ?_
              with_reducible refine k_nil ?_
              have hq28 : (x0 + y0) = Rat.divInt ((((x0).num * ((y0).den : Int)) + ((y0).num * ((x0).den : Int)))) ((((x0).den : Int) * ((y0).den : Int))) := by first | exact add_eq _ _ | exact mul_eq _ _ | exact sub_eqd _ _ | exact rsub_eqd _ _
              have hq28r : Rep K (G.plus dc25).M Hc25 (fr (Rat.divInt ((((x0).num * ((y0).den : Int)) + ((y0).num * ((x0).den : Int)))) ((((x0).den : Int) * ((y0).den : Int))))) w27 := by rw [← hq28]; exact (rw27)
              have hq28z : SzR 201 (Rat.divInt ((((x0).num * ((y0).den : Int)) + ((y0).num * ((x0).den : Int)))) ((((x0).den : Int) * ((y0).den : Int)))) := by rw [← hq28]; exact (z1_0.mono (by first | omega | (dsimp only; omega)))
              refine k_spF ((((x0).num * ((y0).den : Int)) + ((y0).num * ((x0).den : Int))), (((x0).den : Int) * ((y0).den : Int)), 201) hB26 (rcons hq28r (rcons (rint _) (rcons (rint _) (rnil (K := K))))) ⟨hq28z, ((Sz.add (Sz.mul (hx0).1 (hy0).2) (Sz.mul (hy0).1 (hx0).2)).mono (by first | omega | (dsimp only; omega))), ((Sz.mul (hx0).2 (hy0).2).mono (by first | omega | (dsimp only; omega))), (Int.mul_ne_zero (den_ne (x0)) (den_ne (y0))), (by first | omega | (dsimp only; omega))⟩ (fun v27 H27 r27 s27 hB27 => ?_)
              obtain rfl := bl_of (b := true) r27
              exact kc25 _ _ _ rfl (rbl _) (Ex.of s27) hB27
            · obtain rfl := Option.some.inj (show some (.tup [(fr ((x0 - y0))), (fr ((x1 - y1)))] : D) = some x25 from hic25)
              obtain rfl := Option.some.inj (show some (.tup [.int ((((x0).num * ((y0).den : Int)) - ((y0).num * ((x0).den : Int)))), .int ((((x0).den : Int) * ((y0).den : Int)))] : D) = some yd25 from hjc25)
              with_reducible refine k_call ?_
              with_reducible refine k_argX ?_
              with_reducible refine k_opX ?_
              refine k_val (val_var rfl) ?_
              refine k_val (val_var rfl) ?_
              refine f_ixT (k := 0) (rx25) rfl (fun w29 rw29 => ?_)
              refine k_arg (v_ixI (k := 0) (val_var rfl) (ry25) val_c rfl) ?_
              refine k_arg (v_ixI (k := 1) (val_var rfl) (ry25) val_c rfl) ?_
              with_reducible refine k_nil ?_
              have hq30 : (x0 - y0) = Rat.divInt ((((x0).num * ((y0).den : Int)) - ((y0).num * ((x0).den : Int)))) ((((x0).den : Int) * ((y0).den : Int))) := by first | exact add_eq _ _ | exact mul_eq _ _ | exact sub_eqd _ _ | exact rsub_eqd _ _
              have hq30r : Rep K (G.plus dc25).M Hc25 (fr (Rat.divInt ((((x0).num * ((y0).den : Int)) - ((y0).num * ((x0).den : Int)))) ((((x0).den : Int) * ((y0).den : Int))))) w29 := by rw [← hq30]; exact (rw29)
              have hq30z : SzR 201 (Rat.divInt ((((x0).num * ((y0).den : Int)) - ((y0).num * ((x0).den : Int)))) ((((x0).den : Int) * ((y0).den : Int)))) := by rw [← hq30]; exact (z2_0.mono (by first | omega | (dsimp only; omega)))
              refine k_spF ((((x0).num * ((y0).den : Int)) - ((y0).num * ((x0).den : Int))), (((x0).den : Int) * ((y0).den : Int)), 201) hB26 (rcons hq30r (rcons (rint _) (rcons (rint _) (rnil (K := K))))) ⟨hq30z, ((Sz.sub (Sz.mul (hx0).1 (hy0).2) (Sz.mul (hy0).1 (hx0).2)).mono (by first | omega | (dsimp only; omega))), ((Sz.mul (hx0).2 (hy0).2).mono (by first | omega | (dsimp only; omega))), (Int.mul_ne_zero (den_ne (x0)) (den_ne (y0))), (by first | omega | (dsimp only; omega))⟩ (fun v28 H28 r28 s28 hB28 => ?_)
              obtain rfl := bl_of (b := true) r28
              exact kc25 _ _ _ rfl (rbl _) (Ex.of s28) hB28
            · obtain rfl := Option.some.inj (show some (.tup [(fr ((x0 * z))), (fr ((x1 * z)))] : D) = some x25 from hic25)
              obtain rfl := Option.some.inj (show some (.tup [.int (((x0).num * (z).num)), .int ((((x0).den : Int) * ((z).den : Int)))] : D) = some yd25 from hjc25)
              with_reducible refine k_call ?_
              with_reducible refine k_argX ?_
              with_reducible refine k_opX ?_
              refine k_val (val_var rfl) ?_
              refine k_val (val_var rfl) ?_
              refine f_ixT (k := 0) (rx25) rfl (fun w31 rw31 => ?_)
              refine k_arg (v_ixI (k := 0) (val_var rfl) (ry25) val_c rfl) ?_
              refine k_arg (v_ixI (k := 1) (val_var rfl) (ry25) val_c rfl) ?_
              with_reducible refine k_nil ?_
              have hq32 : (x0 * z) = Rat.divInt (((x0).num * (z).num)) ((((x0).den : Int) * ((z).den : Int))) := by first | exact add_eq _ _ | exact mul_eq _ _ | exact sub_eqd _ _ | exact rsub_eqd _ _
              have hq32r : Rep K (G.plus dc25).M Hc25 (fr (Rat.divInt (((x0).num * (z).num)) ((((x0).den : Int) * ((z).den : Int))))) w31 := by rw [← hq32]; exact (rw31)
              have hq32z : SzR 200 (Rat.divInt (((x0).num * (z).num)) ((((x0).den : Int) * ((z).den : Int)))) := by rw [← hq32]; exact (z3_0.mono (by first | omega | (dsimp only; omega)))
              refine k_spF (((x0).num * (z).num), (((x0).den : Int) * ((z).den : Int)), 200) hB26 (rcons hq32r (rcons (rint _) (rcons (rint _) (rnil (K := K))))) ⟨hq32z, ((Sz.mul (hx0).1 (hz).1).mono (by first | omega | (dsimp only; omega))), ((Sz.mul (hx0).2 (hz).2).mono (by first | omega | (dsimp only; omega))), (Int.mul_ne_zero (den_ne (x0)) (den_ne (z))), (by first | omega | (dsimp only; omega))⟩ (fun v29 H29 r29 s29 hB29 => ?_)
              obtain rfl := bl_of (b := true) r29
              exact kc25 _ _ _ rfl (rbl _) (Ex.of s29) hB29
            · obtain rfl := Option.some.inj (show some (.tup [(fr ((x0 + y0))), (fr ((x1 + y1)))] : D) = some x25 from hic25)
              obtain rfl := Option.some.inj (show some (.tup [.int ((((x0).num * ((y0).den : Int)) + ((y0).num * ((x0).den : Int)))), .int ((((x0).den : Int) * ((y0).den : Int)))] : D) = some yd25 from hjc25)
              with_reducible refine k_call ?_
              with_reducible refine k_argX ?_
              with_reducible refine k_opX ?_
              refine k_val (val_var rfl) ?_
              refine k_val (val_var rfl) ?_
              refine f_ixT (k := 0) (rx25) rfl (fun w33 rw33 => ?_)
              refine k_arg (v_ixI (k := 0) (val_var rfl) (ry25) val_c rfl) ?_
              refine k_arg (v_ixI (k := 1) (val_var rfl) (ry25) val_c rfl) ?_
              with_reducible refine k_nil ?_
              have hq34 : (x0 + y0) = Rat.divInt ((((x0).num * ((y0).den : Int)) + ((y0).num * ((x0).den : Int)))) ((((x0).den : Int) * ((y0).den : Int))) := by first | exact add_eq _ _ | exact mul_eq _ _ | exact sub_eqd _ _ | exact rsub_eqd _ _
              have hq34r : Rep K (G.plus dc25).M Hc25 (fr (Rat.divInt ((((x0).num * ((y0).den : Int)) + ((y0).num * ((x0).den : Int)))) ((((x0).den : Int) * ((y0).den : Int))))) w33 := by rw [← hq34]; exact (rw33)
              have hq34z : SzR 201 (Rat.divInt ((((x0).num * ((y0).den : Int)) + ((y0).num * ((x0).den : Int)))) ((((x0).den : Int) * ((y0).den : Int)))) := by rw [← hq34]; exact (z4_0.mono (by first | omega | (dsimp only; omega)))
              refine k_spF ((((x0).num * ((y0).den : Int)) + ((y0).num * ((x0).den : Int))), (((x0).den : Int) * ((y0).den : Int)), 201) hB26 (rcons hq34r (rcons (rint _) (rcons (rint _) (rnil (K := K))))) ⟨hq34z, ((Sz.add (Sz.mul (hx0).1 (hy0).2) (Sz.mul (hy0).1 (hx0).2)).mono (by first | omega | (dsimp only; omega))), ((Sz.mul (hx0).2 (hy0).2).mono (by first | omega | (dsimp only; omega))), (Int.mul_ne_zero (den_ne (x0)) (den_ne (y0))), (by first | omega | (dsimp only; omega))⟩ (fun v30 H30 r30 s30 hB30 => ?_)
              obtain rfl := bl_of (b := true) r30
              exact kc25 _ _ _ rfl (rbl _) (Ex.of s30) hB30
            · obtain rfl := Option.some.inj (show some (.tup [(fr ((y0 - x0))), (fr ((y1 - x1)))] : D) = some x25 from hic25)
              obtain rfl := Option.some.inj (show some (.tup [.int (((0 : Int) - (((x0).num * ((y0).den : Int)) - ((y0).num * ((x0).den : Int))))), .int ((((x0).den : Int) * ((y0).den : Int)))] : D) = some yd25 from hjc25)
              with_reducible refine k_call ?_
              with_reducible refine k_argX ?_
              with_reducible refine k_opX ?_
              refine k_val (val_var rfl) ?_
              refine k_val (val_var rfl) ?_
              refine f_ixT (k := 0) (rx25) rfl (fun w35 rw35 => ?_)
              refine k_arg (v_ixI (k := 0) (val_var rfl) (ry25) val_c rfl) ?_
              refine k_arg (v_ixI (k := 1) (val_var rfl) (ry25) val_c rfl) ?_
              with_reducible refine k_nil ?_
              have hq36 : (y0 - x0) = Rat.divInt (((0 : Int) - (((x0).num * ((y0).den : Int)) - ((y0).num * ((x0).den : Int))))) ((((x0).den : Int) * ((y0).den : Int))) := by first | exact add_eq _ _ | exact mul_eq _ _ | exact sub_eqd _ _ | exact rsub_eqd _ _
              have hq36r : Rep K (G.plus dc25).M Hc25 (fr (Rat.divInt (((0 : Int) - (((x0).num * ((y0).den : Int)) - ((y0).num * ((x0).den : Int))))) ((((x0).den : Int) * ((y0).den : Int))))) w35 := by rw [← hq36]; exact (rw35)
              have hq36z : SzR 202 (Rat.divInt (((0 : Int) - (((x0).num * ((y0).den : Int)) - ((y0).num * ((x0).den : Int))))) ((((x0).den : Int) * ((y0).den : Int)))) := by rw [← hq36]; exact (z5_0.mono (by first | omega | (dsimp only; omega)))
              refine k_spF (((0 : Int) - (((x0).num * ((y0).den : Int)) - ((y0).num * ((x0).den : Int)))), (((x0).den : Int) * ((y0).den : Int)), 202) hB26 (rcons hq36r (rcons (rint _) (rcons (rint _) (rnil (K := K))))) ⟨hq36z, ((Sz.sub (sz_lit 1 (0 : Int)) (Sz.sub (Sz.mul (hx0).1 (hy0).2) (Sz.mul (hy0).1 (hx0).2))).mono (by first | omega | (dsimp only; omega))), ((Sz.mul (hx0).2 (hy0).2).mono (by first | omega | (dsimp only; omega))), (Int.mul_ne_zero (den_ne (x0)) (den_ne (y0))), (by first | omega | (dsimp only; omega))⟩ (fun v31 H31 r31 s31 hB31 => ?_)
              obtain rfl := bl_of (b := true) r31
              exact kc25 _ _ _ rfl (rbl _) (Ex.of s31) hB31
            · obtain rfl := Option.some.inj (show some (.tup [(fr ((y0 * z))), (fr ((y1 * z)))] : D) = some x25 from hic25)
              obtain rfl := Option.some.inj (show some (.tup [.int (((y0).num * (z).num)), .int ((((y0).den : Int) * ((z).den : Int)))] : D) = some yd25 from hjc25)
              with_reducible refine k_call ?_
              with_reducible refine k_argX ?_
              with_reducible refine k_opX ?_
              refine k_val (val_var rfl) ?_
              refine k_val (val_var rfl) ?_
              refine f_ixT (k := 0) (rx25) rfl (fun w37 rw37 => ?_)
              refine k_arg (v_ixI (k := 0) (val_var rfl) (ry25) val_c rfl) ?_
              refine k_arg (v_ixI (k := 1) (val_var rfl) (ry25) val_c rfl) ?_
              with_reducible refine k_nil ?_
              have hq38 : (y0 * z) = Rat.divInt (((y0).num * (z).num)) ((((y0).den : Int) * ((z).den : Int))) := by first | exact add_eq _ _ | exact mul_eq _ _ | exact sub_eqd _ _ | exact rsub_eqd _ _
              have hq38r : Rep K (G.plus dc25).M Hc25 (fr (Rat.divInt (((y0).num * (z).num)) ((((y0).den : Int) * ((z).den : Int))))) w37 := by rw [← hq38]; exact (rw37)
              have hq38z : SzR 200 (Rat.divInt (((y0).num * (z).num)) ((((y0).den : Int) * ((z).den : Int)))) := by rw [← hq38]; exact (z6_0.mono (by first | omega | (dsimp only; omega)))
              refine k_spF (((y0).num * (z).num), (((y0).den : Int) * ((z).den : Int)), 200) hB26 (rcons hq38r (rcons (rint _) (rcons (rint _) (rnil (K := K))))) ⟨hq38z, ((Sz.mul (hy0).1 (hz).1).mono (by first | omega | (dsimp only; omega))), ((Sz.mul (hy0).2 (hz).2).mono (by first | omega | (dsimp only; omega))), (Int.mul_ne_zero (den_ne (y0)) (den_ne (z))), (by first | omega | (dsimp only; omega))⟩ (fun v32 H32 r32 s32 hB32 => ?_)
              obtain rfl := bl_of (b := true) r32
              exact kc25 _ _ _ rfl (rbl _) (Ex.of s32) hB32
            · simp at hic25
          · have s33 := same_of e25
            have hB33 := be25
            have q25 := all_true p25
            have r33 : Rep K G.M He25 (.lst ((List.replicate ds25.length true).map .bl)) vd25 := by rw [← q25]; exact r25
            with_reducible refine k_nil ?_
            refine f_all (bs := (List.replicate ds25.length true)) (r33) (rep_all _) ?_
            refine ⟨_, rfl, ?_⟩
            refine iteF ?_
            with_reducible refine k_next ?_
            exact ki12 _ _ ⟨_, _, _, _, _, _, _, rfl⟩ (Ex.of (((((((s18.trans s19).trans s20).trans s21).trans s22).trans s23).trans s24).trans s33)) hB33
        · with_reducible refine k_seq ?_
          with_reducible refine k_par ?_
          with_reducible refine k_argX ?_
          with_reducible refine k_opX ?_
          refine k_val (val_var rfl) ?_
          refine k_val (val_var rfl) ?_
          have q40 := (((((q4.up hB4 (Ex.of s5)).up hB5 (Ex.of s6)).up hB6 (Ex.of s7)).up hB7 (Ex.of s16)).up hB16 (Ex.of s17))
          refine f_ixT (k := 1) (q40) rfl (fun w39 rw39 => ?_)
          with_reducible refine k_argX ?_
          with_reducible refine k_opX ?_
          refine k_val (val_var rfl) ?_
          refine k_val (val_var rfl) ?_
          have q42 := ((((q6.up hB5 (Ex.of s6)).up hB6 (Ex.of s7)).up hB7 (Ex.of s16)).up hB16 (Ex.of s17))
          refine f_ixT (k := 1) (q42) rfl (fun w41 rw41 => ?_)
          with_reducible refine k_nil ?_
          refine ⟨_, _, rfl, ?_⟩
          with_reducible refine k_seq ?_
          with_reducible refine k_par3 ?_
          refine k_arg (v_op (v_ixI (k := 1) (val_var rfl) (rw39) val_c rfl) (v_ixI (k := 1) (val_var rfl) (rw41) val_c rfl) (cmul (hx1).2 (hy1).2 (by omega))) ?_
          refine k_arg (v_op0 (v_op (v_ixI (k := 0) (val_var rfl) (rw39) val_c rfl) (v_ixI (k := 1) (val_var rfl) (rw41) val_c rfl) (cmul (hx1).1 (hy1).2 (by omega))) (v_op (v_ixI (k := 0) (val_var rfl) (rw41) val_c rfl) (v_ixI (k := 1) (val_var rfl) (rw39) val_c rfl) (cmul (hy1).1 (hx1).2 (by omega)))) ?_
          refine k_arg (v_op0 (v_op (v_ixI (k := 0) (val_var rfl) (rw39) val_c rfl) (v_ixI (k := 1) (val_var rfl) (rw41) val_c rfl) (cmul (hx1).1 (hy1).2 (by omega))) (v_op (v_ixI (k := 0) (val_var rfl) (rw41) val_c rfl) (v_ixI (k := 1) (val_var rfl) (rw39) val_c rfl) (cmul (hy1).1 (hx1).2 (by omega)))) ?_
          with_reducible refine k_nil ?_
          refine ⟨_, _, _, rfl, ?_⟩
          with_reducible refine k_seq ?_
          with_reducible refine k_set ?_
          with_reducible refine k_lst ?_
          with_reducible refine k_argX ?_
          with_reducible refine k_tup ?_
          refine k_arg (val_var rfl) ?_
          refine k_arg (val_var rfl) ?_
          with_reducible refine k_nil ?_
          refine k_tup_end hB17 (rcons (rint _) (rcons (rint _) (rnil (K := K)))) (fun v34 H34 r34 s34 hB34 => ?_)
          with_reducible refine k_argX ?_
          with_reducible refine k_tup ?_
          refine k_arg (val_var rfl) ?_
          refine k_arg (val_var rfl) ?_
          with_reducible refine k_nil ?_
          refine k_tup_end hB34 (rcons (rint _) (rcons (rint _) (rnil (K := K)))) (fun v35 H35 r35 s35 hB35 => ?_)
          with_reducible refine k_argX ?_
          with_reducible refine k_tup ?_
          have q43 := ((rw39.up hB17 (Ex.of s34)).up hB34 (Ex.of s35))
          have q44 := ((((((q5.up hB5 (Ex.of s6)).up hB6 (Ex.of s7)).up hB7 (Ex.of s16)).up hB16 (Ex.of s17)).up hB17 (Ex.of s34)).up hB34 (Ex.of s35))
          refine k_arg (v_op (v_ixI (k := 0) (val_var rfl) (q43) val_c rfl) (v_ixI (k := 0) (val_var rfl) (q44) val_c rfl) (cmul (hx1).1 (hz).1 (by omega))) ?_
          refine k_arg (v_op (v_ixI (k := 1) (val_var rfl) (q43) val_c rfl) (v_ixI (k := 1) (val_var rfl) (q44) val_c rfl) (cmul (hx1).2 (hz).2 (by omega))) ?_
          with_reducible refine k_nil ?_
          refine k_tup_end hB35 (rcons (rint _) (rcons (rint _) (rnil (K := K)))) (fun v36 H36 r36 s36 hB36 => ?_)
          with_reducible refine k_argX ?_
          with_reducible refine k_tup ?_
          refine k_arg (val_var rfl) ?_
          refine k_arg (val_var rfl) ?_
          with_reducible refine k_nil ?_
          refine k_tup_end hB36 (rcons (rint _) (rcons (rint _) (rnil (K := K)))) (fun v37 H37 r37 s37 hB37 => ?_)
          with_reducible refine k_argX ?_
          with_reducible refine k_tup ?_
          refine k_arg (v_op0 val_c (val_var rfl)) ?_
          refine k_arg (val_var rfl) ?_
          with_reducible refine k_nil ?_
          refine k_tup_end hB37 (rcons (rint _) (rcons (rint _) (rnil (K := K)))) (fun v38 H38 r38 s38 hB38 => ?_)
          with_reducible refine k_argX ?_
          with_reducible refine k_tup ?_
          have q45 := (((((rw41.up hB17 (Ex.of s34)).up hB34 (Ex.of s35)).up hB35 (Ex.of s36)).up hB36 (Ex.of s37)).up hB37 (Ex.of s38))
          have q46 := (((q44.up hB35 (Ex.of s36)).up hB36 (Ex.of s37)).up hB37 (Ex.of s38))
          refine k_arg (v_op (v_ixI (k := 0) (val_var rfl) (q45) val_c rfl) (v_ixI (k := 0) (val_var rfl) (q46) val_c rfl) (cmul (hy1).1 (hz).1 (by omega))) ?_
          refine k_arg (v_op (v_ixI (k := 1) (val_var rfl) (q45) val_c rfl) (v_ixI (k := 1) (val_var rfl) (q46) val_c rfl) (cmul (hy1).2 (hz).2 (by omega))) ?_
          with_reducible refine k_nil ?_
          refine k_tup_end hB38 (rcons (rint _) (rcons (rint _) (rnil (K := K)))) (fun v39 H39 r39 s39 hB39 => ?_)
          with_reducible refine k_nil ?_
          have q47 := ((r37.up hB37 (Ex.of s38)).up hB38 (Ex.of s39))
          have q48 := (((r36.up hB36 (Ex.of s37)).up hB37 (Ex.of s38)).up hB38 (Ex.of s39))
          have q49 := ((((r35.up hB35 (Ex.of s36)).up hB36 (Ex.of s37)).up hB37 (Ex.of s38)).up hB38 (Ex.of s39))
          have q50 := (((((r34.up hB34 (Ex.of s35)).up hB35 (Ex.of s36)).up hB36 (Ex.of s37)).up hB37 (Ex.of s38)).up hB38 (Ex.of s39))
          refine k_lst_end hB39 (rcons (q50) (rcons (q49) (rcons (q48) (rcons (q47) (rcons ((r38.up hB38 (Ex.of s39))) (rcons (r39) (rnil (K := K)))))))) (fun v40 H40 r40 s40 hB40 => ?_)
          with_reducible refine k_ifX ?_
          with_reducible refine k_not ?_
          with_reducible refine k_B ?_
          with_reducible refine k_cb ?_
          with_reducible refine k_argX ?_
          refine k_lcz ?_
          refine k_arg (val_var rfl) ?_
          refine k_arg (val_var rfl) ?_
          with_reducible refine k_nil ?_
          have q52 := (((((((((r7.up hB7 (Ex.of s16)).up hB16 (Ex.of s17)).up hB17 (Ex.of s34)).up hB34 (Ex.of s35)).up hB35 (Ex.of s36)).up hB36 (Ex.of s37)).up hB37 (Ex.of s38)).up hB38 (Ex.of s39)).up hB39 (Ex.of s40))
          refine k_lcZ2 (K := K) (i := 12) (j := 13) (vs := [12, 13]) (noM) (fun _ m => m.elim) (Nat.le_of_ble_eq_true rfl) (by rfl) hB40 (q52) (r40) (fun _ x => x = .bl true) (by intro _ _; rfl) (fun dc51 ic51 x51 yd51 w51 y51 Hc51 hic51 hjc51 nc51 hBc51 ec51 rx51 ry51 Qc51 kc51 => ?_) (fun ds51 vd51 He51 l51 p51 r51 e51 be51 => ?_)
          · have hB41 := Bg.enterB hB40 nc51
            have nd41 := nc51
            have hB42 := hBc51
            have e42 := ec51
            rcases ic51 with _ | _ | _ | _ | _ | _ | ic51
            · obtain rfl := Option.some.inj (show some (.tup [(fr ((x0 + y0))), (fr ((x1 + y1)))] : D) = some x51 from hic51)
              obtain rfl := Option.some.inj (show some (.tup [.int ((((x1).num * ((y1).den : Int)) + ((y1).num * ((x1).den : Int)))), .int ((((x1).den : Int) * ((y1).den : Int)))] : D) = some yd51 from hjc51)
              with_reducible refine k_call ?_
              with_reducible refine k_argX ?_
              with_reducible refine k_opX ?_
              refine k_val (val_var rfl) ?_
              refine k_val (val_var rfl) ?_
              refine f_ixT (k := 1) (rx51) rfl (fun w53 rw53 => ?_)
              refine k_arg (v_ixI (k := 0) (val_var rfl) (ry51) val_c rfl) ?_
              refine k_arg (v_ixI (k := 1) (val_var rfl) (ry51) val_c rfl) ?_
              with_reducible refine k_nil ?_
              have hq54 : (x1 + y1) = Rat.divInt ((((x1).num * ((y1).den : Int)) + ((y1).num * ((x1).den : Int)))) ((((x1).den : Int) * ((y1).den : Int))) := by first | exact add_eq _ _ | exact mul_eq _ _ | exact sub_eqd _ _ | exact rsub_eqd _ _
              have hq54r : Rep K (G.plus dc51).M Hc51 (fr (Rat.divInt ((((x1).num * ((y1).den : Int)) + ((y1).num * ((x1).den : Int)))) ((((x1).den : Int) * ((y1).den : Int))))) w53 := by rw [← hq54]; exact (rw53)
              have hq54z : SzR 201 (Rat.divInt ((((x1).num * ((y1).den : Int)) + ((y1).num * ((x1).den : Int)))) ((((x1).den : Int) * ((y1).den : Int)))) := by rw [← hq54]; exact (z1_1.mono (by first | omega | (dsimp only; omega)))
              refine k_spF ((((x1).num * ((y1).den : Int)) + ((y1).num * ((x1).den : Int))), (((x1).den : Int) * ((y1).den : Int)), 201) hB42 (rcons hq54r (rcons (rint _) (rcons (rint _) (rnil (K := K))))) ⟨hq54z, ((Sz.add (Sz.mul (hx1).1 (hy1).2) (Sz.mul (hy1).1 (hx1).2)).mono (by first | omega | (dsimp only; omega))), ((Sz.mul (hx1).2 (hy1).2).mono (by first | omega | (dsimp only; omega))), (Int.mul_ne_zero (den_ne (x1)) (den_ne (y1))), (by first | omega | (dsimp only; omega))⟩ (fun v43 H43 r43 s43 hB43 => ?_)
              obtain rfl := bl_of (b := true) r43
              exact kc51 _ _ _ rfl (rbl _) (Ex.of s43) hB43
            · obtain rfl := Option.some.inj (show some (.tup [(fr ((x0 - y0))), (fr ((x1 - y1)))] : D) = some x51 from hic51)
              obtain rfl := Option.some.inj (show some (.tup [.int ((((x1).num * ((y1).den : Int)) - ((y1).num * ((x1).den : Int)))), .int ((((x1).den : Int) * ((y1).den : Int)))] : D) = some yd51 from hjc51)
              with_reducible refine k_call ?_
              with_reducible refine k_argX ?_
              with_reducible refine k_opX ?_
              refine k_val (val_var rfl) ?_
              refine k_val (val_var rfl) ?_
              refine f_ixT (k := 1) (rx51) rfl (fun w55 rw55 => ?_)
              refine k_arg (v_ixI (k := 0) (val_var rfl) (ry51) val_c rfl) ?_
              refine k_arg (v_ixI (k := 1) (val_var rfl) (ry51) val_c rfl) ?_
              with_reducible refine k_nil ?_
              have hq56 : (x1 - y1) = Rat.divInt ((((x1).num * ((y1).den : Int)) - ((y1).num * ((x1).den : Int)))) ((((x1).den : Int) * ((y1).den : Int))) := by first | exact add_eq _ _ | exact mul_eq _ _ | exact sub_eqd _ _ | exact rsub_eqd _ _
              have hq56r : Rep K (G.plus dc51).M Hc51 (fr (Rat.divInt ((((x1).num * ((y1).den : Int)) - ((y1).num * ((x1).den : Int)))) ((((x1).den : Int) * ((y1).den : Int))))) w55 := by rw [← hq56]; exact (rw55)
              have hq56z : SzR 201 (Rat.divInt ((((x1).num * ((y1).den : Int)) - ((y1).num * ((x1).den : Int)))) ((((x1).den : Int) * ((y1).den : Int)))) := by rw [← hq56]; exact (z2_1.mono (by first | omega | (dsimp only; omega)))
              refine k_spF ((((x1).num * ((y1).den : Int)) - ((y1).num * ((x1).den : Int))), (((x1).den : Int) * ((y1).den : Int)), 201) hB42 (rcons hq56r (rcons (rint _) (rcons (rint _) (rnil (K := K))))) ⟨hq56z, ((Sz.sub (Sz.mul (hx1).1 (hy1).2) (Sz.mul (hy1).1 (hx1).2)).mono (by first | omega | (dsimp only; omega))), ((Sz.mul (hx1).2 (hy1).2).mono (by first | omega | (dsimp only; omega))), (Int.mul_ne_zero (den_ne (x1)) (den_ne (y1))), (by first | omega | (dsimp only; omega))⟩ (fun v44 H44 r44 s44 hB44 => ?_)
              obtain rfl := bl_of (b := true) r44
              exact kc51 _ _ _ rfl (rbl _) (Ex.of s44) hB44
            · obtain rfl := Option.some.inj (show some (.tup [(fr ((x0 * z))), (fr ((x1 * z)))] : D) = some x51 from hic51)
              obtain rfl := Option.some.inj (show some (.tup [.int (((x1).num * (z).num)), .int ((((x1).den : Int) * ((z).den : Int)))] : D) = some yd51 from hjc51)
              with_reducible refine k_call ?_
              with_reducible refine k_argX ?_
              with_reducible refine k_opX ?_
              refine k_val (val_var rfl) ?_
              refine k_val (val_var rfl) ?_
              refine f_ixT (k := 1) (rx51) rfl (fun w57 rw57 => ?_)
              refine k_arg (v_ixI (k := 0) (val_var rfl) (ry51) val_c rfl) ?_
              refine k_arg (v_ixI (k := 1) (val_var rfl) (ry51) val_c rfl) ?_
              with_reducible refine k_nil ?_
              have hq58 : (x1 * z) = Rat.divInt (((x1).num * (z).num)) ((((x1).den : Int) * ((z).den : Int))) := by first | exact add_eq _ _ | exact mul_eq _ _ | exact sub_eqd _ _ | exact rsub_eqd _ _
              have hq58r : Rep K (G.plus dc51).M Hc51 (fr (Rat.divInt (((x1).num * (z).num)) ((((x1).den : Int) * ((z).den : Int))))) w57 := by rw [← hq58]; exact (rw57)
              have hq58z : SzR 200 (Rat.divInt (((x1).num * (z).num)) ((((x1).den : Int) * ((z).den : Int)))) := by rw [← hq58]; exact (z3_1.mono (by first | omega | (dsimp only; omega)))
              refine k_spF (((x1).num * (z).num), (((x1).den : Int) * ((z).den : Int)), 200) hB42 (rcons hq58r (rcons (rint _) (rcons (rint _) (rnil (K := K))))) ⟨hq58z, ((Sz.mul (hx1).1 (hz).1).mono (by first | omega | (dsimp only; omega))), ((Sz.mul (hx1).2 (hz).2).mono (by first | omega | (dsimp only; omega))), (Int.mul_ne_zero (den_ne (x1)) (den_ne (z))), (by first | omega | (dsimp only; omega))⟩ (fun v45 H45 r45 s45 hB45 => ?_)
              obtain rfl := bl_of (b := true) r45
              exact kc51 _ _ _ rfl (rbl _) (Ex.of s45) hB45
            · obtain rfl := Option.some.inj (show some (.tup [(fr ((x0 + y0))), (fr ((x1 + y1)))] : D) = some x51 from hic51)
              obtain rfl := Option.some.inj (show some (.tup [.int ((((x1).num * ((y1).den : Int)) + ((y1).num * ((x1).den : Int)))), .int ((((x1).den : Int) * ((y1).den : Int)))] : D) = some yd51 from hjc51)
              with_reducible refine k_call ?_
              with_reducible refine k_argX ?_
              with_reducible refine k_opX ?_
              refine k_val (val_var rfl) ?_
              refine k_val (val_var rfl) ?_
              refine f_ixT (k := 1) (rx51) rfl (fun w59 rw59 => ?_)
              refine k_arg (v_ixI (k := 0) (val_var rfl) (ry51) val_c rfl) ?_
              refine k_arg (v_ixI (k := 1) (val_var rfl) (ry51) val_c rfl) ?_
              with_reducible refine k_nil ?_
              have hq60 : (x1 + y1) = Rat.divInt ((((x1).num * ((y1).den : Int)) + ((y1).num * ((x1).den : Int)))) ((((x1).den : Int) * ((y1).den : Int))) := by first | exact add_eq _ _ | exact mul_eq _ _ | exact sub_eqd _ _ | exact rsub_eqd _ _
              have hq60r : Rep K (G.plus dc51).M Hc51 (fr (Rat.divInt ((((x1).num * ((y1).den : Int)) + ((y1).num * ((x1).den : Int)))) ((((x1).den : Int) * ((y1).den : Int))))) w59 := by rw [← hq60]; exact (rw59)
              have hq60z : SzR 201 (Rat.divInt ((((x1).num * ((y1).den : Int)) + ((y1).num * ((x1).den : Int)))) ((((x1).den : Int) * ((y1).den : Int)))) := by rw [← hq60]; exact (z4_1.mono (by first | omega | (dsimp only; omega)))
              refine k_spF ((((x1).num * ((y1).den : Int)) + ((y1).num * ((x1).den : Int))), (((x1).den : Int) * ((y1).den : Int)), 201) hB42 (rcons hq60r (rcons (rint _) (rcons (rint _) (rnil (K := K))))) ⟨hq60z, ((Sz.add (Sz.mul (hx1).1 (hy1).2) (Sz.mul (hy1).1 (hx1).2)).mono (by first | omega | (dsimp only; omega))), ((Sz.mul (hx1).2 (hy1).2).mono (by first | omega | (dsimp only; omega))), (Int.mul_ne_zero (den_ne (x1)) (den_ne (y1))), (by first | omega | (dsimp only; omega))⟩ (fun v46 H46 r46 s46 hB46 => ?_)
              obtain rfl := bl_of (b := true) r46
              exact kc51 _ _ _ rfl (rbl _) (Ex.of s46) hB46
            · obtain rfl := Option.some.inj (show some (.tup [(fr ((y0 - x0))), (fr ((y1 - x1)))] : D) = some x51 from hic51)
              obtain rfl := Option.some.inj (show some (.tup [.int (((0 : Int) - (((x1).num * ((y1).den : Int)) - ((y1).num * ((x1).den : Int))))), .int ((((x1).den : Int) * ((y1).den : Int)))] : D) = some yd51 from hjc51)
              with_reducible refine k_call ?_
              with_reducible refine k_argX ?_
              with_reducible refine k_opX ?_
              refine k_val (val_var rfl) ?_
              refine k_val (val_var rfl) ?_
              refine f_ixT (k := 1) (rx51) rfl (fun w61 rw61 => ?_)
              refine k_arg (v_ixI (k := 0) (val_var rfl) (ry51) val_c rfl) ?_
              refine k_arg (v_ixI (k := 1) (val_var rfl) (ry51) val_c rfl) ?_
              with_reducible refine k_nil ?_
              have hq62 : (y1 - x1) = Rat.divInt (((0 : Int) - (((x1).num * ((y1).den : Int)) - ((y1).num * ((x1).den : Int))))) ((((x1).den : Int) * ((y1).den : Int))) := by first | exact add_eq _ _ | exact mul_eq _ _ | exact sub_eqd _ _ | exact rsub_eqd _ _
              have hq62r : Rep K (G.plus dc51).M Hc51 (fr (Rat.divInt (((0 : Int) - (((x1).num * ((y1).den : Int)) - ((y1).num * ((x1).den : Int))))) ((((x1).den : Int) * ((y1).den : Int))))) w61 := by rw [← hq62]; exact (rw61)
              have hq62z : SzR 202 (Rat.divInt (((0 : Int) - (((x1).num * ((y1).den : Int)) - ((y1).num * ((x1).den : Int))))) ((((x1).den : Int) * ((y1).den : Int)))) := by rw [← hq62]; exact (z5_1.mono (by first | omega | (dsimp only; omega)))
              refine k_spF (((0 : Int) - (((x1).num * ((y1).den : Int)) - ((y1).num * ((x1).den : Int)))), (((x1).den : Int) * ((y1).den : Int)), 202) hB42 (rcons hq62r (rcons (rint _) (rcons (rint _) (rnil (K := K))))) ⟨hq62z, ((Sz.sub (sz_lit 1 (0 : Int)) (Sz.sub (Sz.mul (hx1).1 (hy1).2) (Sz.mul (hy1).1 (hx1).2))).mono (by first | omega | (dsimp only; omega))), ((Sz.mul (hx1).2 (hy1).2).mono (by first | omega | (dsimp only; omega))), (Int.mul_ne_zero (den_ne (x1)) (den_ne (y1))), (by first | omega | (dsimp only; omega))⟩ (fun v47 H47 r47 s47 hB47 => ?_)
              obtain rfl := bl_of (b := true) r47
              exact kc51 _ _ _ rfl (rbl _) (Ex.of s47) hB47
            · obtain rfl := Option.some.inj (show some (.tup [(fr ((y0 * z))), (fr ((y1 * z)))] : D) = some x51 from hic51)
              obtain rfl := Option.some.inj (show some (.tup [.int (((y1).num * (z).num)), .int ((((y1).den : Int) * ((z).den : Int)))] : D) = some yd51 from hjc51)
              with_reducible refine k_call ?_
              with_reducible refine k_argX ?_
              with_reducible refine k_opX ?_
              refine k_val (val_var rfl) ?_
              refine k_val (val_var rfl) ?_
              refine f_ixT (k := 1) (rx51) rfl (fun w63 rw63 => ?_)
              refine k_arg (v_ixI (k := 0) (val_var rfl) (ry51) val_c rfl) ?_
              refine k_arg (v_ixI (k := 1) (val_var rfl) (ry51) val_c rfl) ?_
              with_reducible refine k_nil ?_
              have hq64 : (y1 * z) = Rat.divInt (((y1).num * (z).num)) ((((y1).den : Int) * ((z).den : Int))) := by first | exact add_eq _ _ | exact mul_eq _ _ | exact sub_eqd _ _ | exact rsub_eqd _ _
              have hq64r : Rep K (G.plus dc51).M Hc51 (fr (Rat.divInt (((y1).num * (z).num)) ((((y1).den : Int) * ((z).den : Int))))) w63 := by rw [← hq64]; exact (rw63)
              have hq64z : SzR 200 (Rat.divInt (((y1).num * (z).num)) ((((y1).den : Int) * ((z).den : Int)))) := by rw [← hq64]; exact (z6_1.mono (by first | omega | (dsimp only; omega)))
              refine k_spF (((y1).num * (z).num), (((y1).den : Int) * ((z).den : Int)), 200) hB42 (rcons hq64r (rcons (rint _) (rcons (rint _) (rnil (K := K))))) ⟨hq64z, ((Sz.mul (hy1).1 (hz).1).mono (by first | omega | (dsimp only; omega))), ((Sz.mul (hy1).2 (hz).2).mono (by first | omega | (dsimp only; omega))), (Int.mul_ne_zero (den_ne (y1)) (den_ne (z))), (by first | omega | (dsimp only; omega))⟩ (fun v48 H48 r48 s48 hB48 => ?_)
              obtain rfl := bl_of (b := true) r48
              exact kc51 _ _ _ rfl (rbl _) (Ex.of s48) hB48
            · simp at hic51
          · have s49 := same_of e51
            have hB49 := be51
            have q51 := all_true p51
            have r49 : Rep K G.M He51 (.lst ((List.replicate ds51.length true).map .bl)) vd51 := by rw [← q51]; exact r51
            with_reducible refine k_nil ?_
            refine f_all (bs := (List.replicate ds51.length true)) (r49) (rep_all _) ?_
            refine ⟨_, rfl, ?_⟩
            refine iteF ?_
            with_reducible refine k_next ?_
            exact ki12 _ _ ⟨_, _, _, _, _, _, _, rfl⟩ (Ex.of (((((((s34.trans s35).trans s36).trans s37).trans s38).trans s39).trans s40).trans s49)) hB49
      · obtain ⟨o4_12, o5_12, o6_12, o7_12, o8_12, o9_12, o10_12, rfl⟩ := Ii12
        have s50 := same_of ei12
        have hB50 := bi12
        with_reducible refine k_seq ?_
        with_reducible refine k_set ?_
        with_reducible refine k_lst ?_
        with_reducible refine k_argX ?_
        with_reducible refine k_call ?_
        with_reducible refine k_argX ?_
        with_reducible refine k_opX ?_
        refine k_val (val_var rfl) ?_
        refine k_val val_c ?_
        have q66 := ((r7.up hB7 (Ex.of s16)).up hB16 (Ex.of s50))
        refine f_ixL (k := 0) (q66) rfl (fun w65 rw65 => ?_)
        refine k_arg (val_var rfl) ?_
        with_reducible refine k_nil ?_
        have q67 := ((((q6.up hB5 (Ex.of s6)).up hB6 (Ex.of s7)).up hB7 (Ex.of s16)).up hB16 (Ex.of s50))
        refine k_spF ((x0 + y0), (x1 + y1), y0, y1, 201) hB50 (rcons (rw65) (rcons (q67) (rnil (K := K)))) ⟨(z1_0.mono (by first | omega | (dsimp only; omega))), (z1_1.mono (by first | omega | (dsimp only; omega))), (hy0.mono (by first | omega | (dsimp only; omega))), (hy1.mono (by first | omega | (dsimp only; omega))), (by first | omega | (dsimp only; omega))⟩ (fun v51 H51 r51 s51 hB51 => ?_)
        replace r51 : Rep K G.M H51 (.tup [(fr (((x0 + y0) - y0))), (fr (((x1 + y1) - y1)))]) v51 := r51
        have z51_0 : SzR 403 (((x0 + y0) - y0)) := (szr_sub z1_0 hy0 (by omega))
        have z51_1 : SzR 403 (((x1 + y1) - y1)) := (szr_sub z1_1 hy1 (by omega))
        with_reducible refine k_argX ?_
        with_reducible refine k_call ?_
        with_reducible refine k_argX ?_
        with_reducible refine k_opX ?_
        refine k_val (val_var rfl) ?_
        refine k_val val_c ?_
        refine f_ixL (k := 1) ((q66.up hB50 (Ex.of s51))) rfl (fun w68 rw68 => ?_)
        refine k_arg (val_var rfl) ?_
        with_reducible refine k_nil ?_
        refine k_spF ((x0 - y0), (x1 - y1), y0, y1, 201) hB51 (rcons (rw68) (rcons ((q67.up hB50 (Ex.of s51))) (rnil (K := K)))) ⟨(z2_0.mono (by first | omega | (dsimp only; omega))), (z2_1.mono (by first | omega | (dsimp only; omega))), (hy0.mono (by first | omega | (dsimp only; omega))), (hy1.mono (by first | omega | (dsimp only; omega))), (by first | omega | (dsimp only; omega))⟩ (fun v52 H52 r52 s52 hB52 => ?_)
        replace r52 : Rep K G.M H52 (.tup [(fr (((x0 - y0) + y0))), (fr (((x1 - y1) + y1)))]) v52 := r52
        have z52_0 : SzR 403 (((x0 - y0) + y0)) := (szr_add z2_0 hy0 (by omega))
        have z52_1 : SzR 403 (((x1 - y1) + y1)) := (szr_add z2_1 hy1 (by omega))
        with_reducible refine k_argX ?_
        with_reducible refine k_call ?_
        with_reducible refine k_argX ?_
        with_reducible refine k_call ?_
        refine k_arg (val_var rfl) ?_
        refine k_arg (val_var rfl) ?_
        with_reducible refine k_nil ?_
        have q69 := ((((((q5.up hB5 (Ex.of s6)).up hB6 (Ex.of s7)).up hB7 (Ex.of s16)).up hB16 (Ex.of s50)).up hB50 (Ex.of s51)).up hB51 (Ex.of s52))
        have q70 := (((((((q4.up hB4 (Ex.of s5)).up hB5 (Ex.of s6)).up hB6 (Ex.of s7)).up hB7 (Ex.of s16)).up hB16 (Ex.of s50)).up hB50 (Ex.of s51)).up hB51 (Ex.of s52))
        refine k_spF (x0, x1, z, 100) hB52 (rcons (q70) (rcons (q69) (rnil (K := K)))) ⟨(hx0.mono (by first | omega | (dsimp only; omega))), (hx1.mono (by first | omega | (dsimp only; omega))), (hz.mono (by first | omega | (dsimp only; omega))), (by first | omega | (dsimp only; omega))⟩ (fun v53 H53 r53 s53 hB53 => ?_)
        replace r53 : Rep K G.M H53 (.tup [(fr ((x0 * z))), (fr ((x1 * z)))]) v53 := r53
        have z53_0 : SzR 200 ((x0 * z)) := (szr_mul hx0 hz (by omega))
        have z53_1 : SzR 200 ((x1 * z)) := (szr_mul hx1 hz (by omega))
        with_reducible refine k_argX ?_
        with_reducible refine k_call ?_
        refine k_arg (val_var rfl) ?_
        refine k_arg (val_var rfl) ?_
        with_reducible refine k_nil ?_
        have q71 := (((q67.up hB50 (Ex.of s51)).up hB51 (Ex.of s52)).up hB52 (Ex.of s53))
        refine k_spF (y0, y1, z, 100) hB53 (rcons (q71) (rcons ((q69.up hB52 (Ex.of s53))) (rnil (K := K)))) ⟨(hy0.mono (by first | omega | (dsimp only; omega))), (hy1.mono (by first | omega | (dsimp only; omega))), (hz.mono (by first | omega | (dsimp only; omega))), (by first | omega | (dsimp only; omega))⟩ (fun v54 H54 r54 s54 hB54 => ?_)
        replace r54 : Rep K G.M H54 (.tup [(fr ((y0 * z))), (fr ((y1 * z)))]) v54 := r54
        have z54_0 : SzR 200 ((y0 * z)) := (szr_mul hy0 hz (by omega))
        have z54_1 : SzR 200 ((y1 * z)) := (szr_mul hy1 hz (by omega))
        with_reducible refine k_nil ?_
        refine k_spF ((x0 * z), (x1 * z), (y0 * z), (y1 * z), 200) hB54 (rcons ((r53.up hB53 (Ex.of s54))) (rcons (r54) (rnil (K := K)))) ⟨(z53_0.mono (by first | omega | (dsimp only; omega))), (z53_1.mono (by first | omega | (dsimp only; omega))), (z54_0.mono (by first | omega | (dsimp only; omega))), (z54_1.mono (by first | omega | (dsimp only; omega))), (by first | omega | (dsimp only; omega))⟩ (fun v55 H55 r55 s55 hB55 => ?_)
        replace r55 : Rep K G.M H55 (.tup [(fr (((x0 * z) + (y0 * z)))), (fr (((x1 * z) + (y1 * z))))]) v55 := r55
        have z55_0 : SzR 401 (((x0 * z) + (y0 * z))) := (szr_add z53_0 z54_0 (by omega))
        have z55_1 : SzR 401 (((x1 * z) + (y1 * z))) := (szr_add z53_1 z54_1 (by omega))
        with_reducible refine k_nil ?_
        have q72 := (((r52.up hB52 (Ex.of s53)).up hB53 (Ex.of s54)).up hB54 (Ex.of s55))
        have q73 := ((((r51.up hB51 (Ex.of s52)).up hB52 (Ex.of s53)).up hB53 (Ex.of s54)).up hB54 (Ex.of s55))
        refine k_lst_end hB55 (rcons (q73) (rcons (q72) (rcons (r55) (rnil (K := K))))) (fun v56 H56 r56 s56 hB56 => ?_)
        with_reducible refine k_seq ?_
        with_reducible refine k_ifX ?_
        with_reducible refine k_not ?_
        with_reducible refine k_B ?_
        with_reducible refine k_call ?_
        refine k_arg (val_var rfl) ?_
        with_reducible refine k_argX ?_
        with_reducible refine k_lst ?_
        refine k_arg (val_var rfl) ?_
        refine k_arg (val_var rfl) ?_
        with_reducible refine k_argX ?_
        with_reducible refine k_call ?_
        with_reducible refine k_argX ?_
        with_reducible refine k_opX ?_
        refine k_val (val_var rfl) ?_
        refine k_val val_c ?_
        have q75 := ((((((q66.up hB50 (Ex.of s51)).up hB51 (Ex.of s52)).up hB52 (Ex.of s53)).up hB53 (Ex.of s54)).up hB54 (Ex.of s55)).up hB55 (Ex.of s56))
        refine f_ixL (k := 0) (q75) rfl (fun w74 rw74 => ?_)
        refine k_arg (val_var rfl) ?_
        with_reducible refine k_nil ?_
        have q76 := ((((q69.up hB52 (Ex.of s53)).up hB53 (Ex.of s54)).up hB54 (Ex.of s55)).up hB55 (Ex.of s56))
        refine k_spF ((x0 + y0), (x1 + y1), z, 201) hB56 (rcons (rw74) (rcons (q76) (rnil (K := K)))) ⟨(z1_0.mono (by first | omega | (dsimp only; omega))), (z1_1.mono (by first | omega | (dsimp only; omega))), (hz.mono (by first | omega | (dsimp only; omega))), (by first | omega | (dsimp only; omega))⟩ (fun v57 H57 r57 s57 hB57 => ?_)
        replace r57 : Rep K G.M H57 (.tup [(fr (((x0 + y0) * z))), (fr (((x1 + y1) * z)))]) v57 := r57
        have z57_0 : SzR 402 (((x0 + y0) * z)) := (szr_mul z1_0 hz (by omega))
        have z57_1 : SzR 402 (((x1 + y1) * z)) := (szr_mul z1_1 hz (by omega))
        with_reducible refine k_nil ?_
        have q77 := (((((q70.up hB52 (Ex.of s53)).up hB53 (Ex.of s54)).up hB54 (Ex.of s55)).up hB55 (Ex.of s56)).up hB56 (Ex.of s57))
        refine k_lst_end hB57 (rcons (q77) (rcons (q77) (rcons (r57) (rnil (K := K))))) (fun v58 H58 r58 s58 hB58 => ?_)
        with_reducible refine k_nil ?_
        have q78 := ((r56.up hB56 (Ex.of s57)).up hB57 (Ex.of s58))
        have he79 : (.lst [.tup [(fr (x0)), (fr (x1))], .tup [(fr (x0)), (fr (x1))], .tup [(fr (((x0 + y0) * z))), (fr (((x1 + y1) * z)))]] : D) = .lst [.tup [(fr (((x0 + y0) - y0))), (fr (((x1 + y1) - y1)))], .tup [(fr (((x0 - y0) + y0))), (fr (((x1 - y1) + y1)))], .tup [(fr (((x0 * z) + (y0 * z)))), (fr (((x1 * z) + (y1 * z))))]] := by first | rfl | exact same_back _ _ _ _ _ | exact same_dbl _ _ _
        have re80 : Rep K G.M H58 (.lst [.tup [(fr (((x0 + y0) - y0))), (fr (((x1 + y1) - y1)))], .tup [(fr (((x0 - y0) + y0))), (fr (((x1 - y1) + y1)))], .tup [(fr (((x0 * z) + (y0 * z)))), (fr (((x1 * z) + (y1 * z))))]]) v58 := by rw [← he79]; exact (r58)
        refine k_spF (.lst [.tup [(fr (((x0 + y0) - y0))), (fr (((x1 + y1) - y1)))], .tup [(fr (((x0 - y0) + y0))), (fr (((x1 - y1) + y1)))], .tup [(fr (((x0 * z) + (y0 * z)))), (fr (((x1 * z) + (y1 * z))))]]) hB58 (rcons (q78) (rcons re80 (rnil (K := K)))) rfl (fun v59 H59 r59 s59 hB59 => ?_)
        obtain rfl := bl_of (b := true) r59
        refine ⟨_, rfl, ?_⟩
        refine iteF ?_
        with_reducible refine k_next ?_
        with_reducible refine k_ret ?_
        with_reducible refine k_call ?_
        with_reducible refine k_argX ?_
        with_reducible refine k_call ?_
        refine k_arg (val_var rfl) ?_
        with_reducible refine k_argX ?_
        with_reducible refine k_call ?_
        refine k_arg (val_var rfl) ?_
        refine k_arg (val_var rfl) ?_
        with_reducible refine k_nil ?_
        have q81 := (((q76.up hB56 (Ex.of s57)).up hB57 (Ex.of s58)).up hB58 (Ex.of s59))
        refine k_spF (z, z, 100, 100) hB59 (rcons (q81) (rcons (q81) (rnil (K := K)))) ⟨hz, hz, (by first | omega | (dsimp only; omega))⟩ (fun v60 H60 r60 s60 hB60 => ?_)
        replace r60 : Rep K G.M H60 ((fr ((z + z)))) v60 := r60
        have z60 : SzR 201 ((z + z)) := (szr_add hz hz (by omega))
        with_reducible refine k_nil ?_
        have q82 := (((q77.up hB57 (Ex.of s58)).up hB58 (Ex.of s59)).up hB59 (Ex.of s60))
        refine k_spF (x0, x1, (z + z), 201) hB60 (rcons (q82) (rcons (r60) (rnil (K := K)))) ⟨(hx0.mono (by first | omega | (dsimp only; omega))), (hx1.mono (by first | omega | (dsimp only; omega))), (z60.mono (by first | omega | (dsimp only; omega))), (by first | omega | (dsimp only; omega))⟩ (fun v61 H61 r61 s61 hB61 => ?_)
        replace r61 : Rep K G.M H61 (.tup [(fr ((x0 * (z + z)))), (fr ((x1 * (z + z))))]) v61 := r61
        have z61_0 : SzR 402 ((x0 * (z + z))) := (szr_mul hx0 z60 (by omega))
        have z61_1 : SzR 402 ((x1 * (z + z))) := (szr_mul hx1 z60 (by omega))
        with_reducible refine k_argX ?_
        with_reducible refine k_call ?_
        with_reducible refine k_argX ?_
        with_reducible refine k_opX ?_
        refine k_val (val_var rfl) ?_
        refine k_val val_c ?_
        have q84 := (((((q75.up hB56 (Ex.of s57)).up hB57 (Ex.of s58)).up hB58 (Ex.of s59)).up hB59 (Ex.of s60)).up hB60 (Ex.of s61))
        refine f_ixL (k := 2) (q84) rfl (fun w83 rw83 => ?_)
        with_reducible refine k_argX ?_
        with_reducible refine k_opX ?_
        refine k_val (val_var rfl) ?_
        refine k_val val_c ?_
        refine f_ixL (k := 2) (q84) rfl (fun w85 rw85 => ?_)
        with_reducible refine k_nil ?_
        refine k_spF ((x0 * z), (x1 * z), (x0 * z), (x1 * z), 200) hB61 (rcons (rw83) (rcons (rw85) (rnil (K := K)))) ⟨(z3_0.mono (by first | omega | (dsimp only; omega))), (z3_1.mono (by first | omega | (dsimp only; omega))), (z3_0.mono (by first | omega | (dsimp only; omega))), (z3_1.mono (by first | omega | (dsimp only; omega))), (by first | omega | (dsimp only; omega))⟩ (fun v62 H62 r62 s62 hB62 => ?_)
        replace r62 : Rep K G.M H62 (.tup [(fr (((x0 * z) + (x0 * z)))), (fr (((x1 * z) + (x1 * z))))]) v62 := r62
        have z62_0 : SzR 401 (((x0 * z) + (x0 * z))) := (szr_add z3_0 z3_0 (by omega))
        have z62_1 : SzR 401 (((x1 * z) + (x1 * z))) := (szr_add z3_1 z3_1 (by omega))
        with_reducible refine k_nil ?_
        have he86 : (.tup [(fr (((x0 * z) + (x0 * z)))), (fr (((x1 * z) + (x1 * z))))] : D) = .tup [(fr ((x0 * (z + z)))), (fr ((x1 * (z + z))))] := by first | rfl | exact same_back _ _ _ _ _ | exact same_dbl _ _ _
        have re87 : Rep K G.M H62 (.tup [(fr ((x0 * (z + z)))), (fr ((x1 * (z + z))))]) v62 := by rw [← he86]; exact (r62)
        refine k_spF (.tup [(fr ((x0 * (z + z)))), (fr ((x1 * (z + z))))]) hB62 (rcons ((r61.up hB61 (Ex.of s62))) (rcons re87 (rnil (K := K)))) rfl (fun v63 H63 r63 s63 hB63 => ?_)
        obtain rfl := bl_of (b := true) r63
        exact k _ _ _ rfl (rbl _) (((((((((((((((((((((s1.trans s2).trans s3).trans s4).trans s5).trans s6).trans s7).trans s16).trans s50).trans s51).trans s52).trans s53).trans s54).trans s55).trans s56).trans s57).trans s58).trans s59).trans s60).trans s61).trans s62).trans s63) hB63
end
end Px

namespace Px
open PySem PySem.Spec PyProof.Rows L2
section
variable {P : Program} {w : World} {K : PySem.W.Frag} {mg : Str → Option Value} {base : Heap}
def sp__law_bag (K : PySem.W.Frag) : Sp := fun vs H Q _ => ∃ (a : Addr) (ns : List Int), vs = [.ref a] ∧ SqL K H a (ns.map V.int) ∧ ∀ b c ms H', BagOk K b c ms H' → Same H H' → Q (.ref b) H'
theorem cells_take (ns : List Int) : ∃ ms : List Int, cutV (ns.map V.int) none (some 63) = ms.map V.int ∧ ms.length ≤ 63 := by
  refine ⟨ns.take 63, ?_, ?_⟩
  · rw [show (63 : Int) = ((63 : Nat) : Int) from rfl, cutV_take, List.map_take]
  · rw [List.length_take]; omega
theorem has__law_bag (T : Tx K mg) : Has P w K mg base CX0 "_law_bag" s__law_bag ["_law_script"] 1 (sp__law_bag K) := by
  obtain ⟨f, fd, F, M⟩ := T._law_bag
  refine ⟨f, fd, F, M, F.binds (ps := ["_law_script"]) (fun _ _ _ _ _ _ us hl => match us, hl with | [_], _ => rfl), F.ok sc__law_bag (fun vs H Q E h => ?_) (fun cdv A outer s H vs Q E hr h => ?_)⟩
  · obtain ⟨a, ns, rfl, _⟩ := h
    rfl
  · obtain ⟨a, ns, rfl, hs, k⟩ := h
    refine ⟨_, pss_cons (ps_set (i := 1) sc__law_bag.nd rfl (.inl rfl) (pe_callTy (call_listK (K := K)) (by rfl) T.list (by decide +kernel) (pa_cons (pe_slice sl_list (pv 0) po_none (po_some pe_int)) pa_nil)))
      (pss_one (ps_ret (pe_lst (pa_cons (pv 1) (pa_cons pe_int (pa_cons pe_int (pa_cons (pe_op op_add pe_int (pe_op op_mul pe_int (pe_callB call_len (by rfl) T.len (by decide +kernel) (pa_cons (pv 1) pa_nil)))) (pa_cons pe_int pa_nil)))))))), ?_⟩
    with_reducible refine k_seq ?_
    with_reducible refine k_set ?_
    with_reducible refine k_cb ?_
    with_reducible refine k_argX ?_
    with_reducible refine k_sl ?_
    refine k_val (val_var rfl) ?_
    with_reducible refine k_noPart ?_
    with_reducible refine k_part ?_
    refine k_val val_c ⟨_, rfl, ?_⟩
    refine ⟨a, _, rfl, hs, fun p hp => ?_⟩
    obtain ⟨ms, e, hl⟩ := cells_take ns
    rw [e]
    with_reducible refine k_nil ?_
    refine ⟨p, _, rfl, .inl (.inl (.inl upd_same)), fun c hc => ?_⟩
    have hcs : SqL K (upd (upd H p (.lst (ms.map V.int))) c (.lst (ms.map V.int))) c (ms.map V.int) := .inl (.inl upd_same)
    with_reducible refine k_ret ?_
    with_reducible refine k_lst ?_
    refine k_arg (val_var rfl) (k_arg val_c (k_arg val_c (k_arg (v_op0 val_c (v_op val_c (v_lenL (val_var rfl) hcs) (Or.inl (by decide : -(2 ^ 64) < (37 : Int) ∧ (37 : Int) < 2 ^ 64)))) (k_arg val_c (k_nil ⟨by show 5 ≤ sizeLine; decide, fun b hb => ?_⟩)))))
    have ne : c ≠ b := fun z => by
      subst z
      rw [upd_same] at hb; cases hb
    refine k b c ms _ ⟨0, 0, _, 0, upd_same, ne, sqL_upd ne hcs, Int.le_refl _, Int.le_refl _, ?_, ?_⟩ (((same_upd hp).trans (same_upd hc)).trans (same_upd hb))
    · omega
    · rw [List.length_map]; omega
def sp_lawT (K : PySem.W.Frag) (Pt : Addr) : Sp := fun vs H Q _ => ∃ (a : Addr) (ns : List Int), vs = [.ref a] ∧ SqL K H a (ns.map V.int) ∧ LamX.Tabs (lamT Pt) H ∧ ∀ H', Q (.bl true) H'
set_option maxHeartbeats 8000000 in
theorem has_law {C A B c0 Pt fL : Addr} {fdL : FuncData} (T : Tx K mg) (Z : ErrTx P w K mg "ZeroDivisor" s_ZeroDivisor___init__ C A B) (hA : mg "MapError" = some (.ref A)) (hB0 : mg "Missing" = some (.ref B)) (FL : Fun K "_law_direction_so" "_law_direction_so" s__law_direction_so fL fdL) (ML : mg "_law_direction_so" = some (.ref fL)) (code : fdL.code = .ref c0) (TB : LamX.TabB base mg c0 Pt) : Has P w K mg base CX0 "law" s_law ["_law_script"] 13 (sp_lawT K Pt) := by
  obtain ⟨f, fd, F, M⟩ := T.law
  obtain ⟨f__law_bag, fd__law_bag, F__law_bag, M__law_bag, B__law_bag, G__law_bag⟩ := has__law_bag (P := P) (w := w) (base := base) T
  obtain ⟨f__law_vector, fd__law_vector, F__law_vector, M__law_vector, B__law_vector, G__law_vector⟩ := has__law_vector (P := P) (w := w) (base := base) T
  obtain ⟨f__law_fraction, fd__law_fraction, F__law_fraction, M__law_fraction, B__law_fraction, G__law_fraction⟩ := has__law_fraction (P := P) (w := w) (base := base) T
  obtain ⟨f__law_draw, fd__law_draw, F__law_draw, M__law_draw, B__law_draw, G__law_draw⟩ := has__law_draw (P := P) (w := w) (base := base) T
  obtain ⟨f__law_pick, fd__law_pick, F__law_pick, M__law_pick, B__law_pick, G__law_pick⟩ := has__law_pick (P := P) (w := w) (base := base) T
  obtain ⟨f__law_sums_so, fd__law_sums_so, F__law_sums_so, M__law_sums_so, B__law_sums_so, G__law_sums_so⟩ := has__law_sums_so (P := P) (w := w) (base := base) T
  obtain ⟨f_vector_minus, fd_vector_minus, F_vector_minus, M_vector_minus, B_vector_minus, G_vector_minus⟩ := has_vector_minus (P := P) (w := w) (base := base) T
  obtain ⟨f_vector_plus, fd_vector_plus, F_vector_plus, M_vector_plus, B_vector_plus, G_vector_plus⟩ := has_vector_plus (P := P) (w := w) (base := base) T
  have G__law_direction_so := has__law_direction_so (P := P) (w := w) (base := base) T Z hA hB0 FL code TB
  have B__law_direction_so : Binds K fdL ["_law_v", "_law_w"] [] := FL.binds (ps := ["_law_v", "_law_w"]) (fun _ _ _ _ _ _ us hl => match us, hl with | [_, _], _ => rfl)
  refine ⟨f, fd, F, M, F.binds (ps := ["_law_script"]) (fun _ _ _ _ _ _ us hl => match us, hl with | [_], _ => rfl), F.ok sc_law (fun vs H Q E h => ?_) (fun cdv A outer s H vs Q E hr h => ?_)⟩
  · obtain ⟨a, ns, rfl, _⟩ := h; rfl
  · obtain ⟨a, ns, rfl, hs, hT, k⟩ := h
    refine ⟨_, (pss_cons (ps_set (i := 1) sc_law.nd rfl (.inl rfl) (pe_call G__law_bag (hr.mono (by decide)) (by rfl) M__law_bag F__law_bag.kp B__law_bag .nil pass0 (pa_cons (pv 0) pa_nil))) (pss_cons (ps_for PassesOwn.never rfl (pi_range1 (by rfl) T.range (pa_cons pe_int pa_nil)) (pg_name (i := 2) sc_law.nd rfl (.inl rfl)) (pss_cons (ps_par3 (i := 3) (j := 4) (l := 5) (by rfl) sc_law.nd rfl rfl rfl (by decide) (by decide) (by decide) rfl rfl rfl (pa_cons (pe_call G__law_vector (hr.mono (by decide)) (by rfl) M__law_vector F__law_vector.kp B__law_vector .nil pass0 (pa_cons (pv 1) pa_nil)) (pa_cons (pe_call G__law_vector (hr.mono (by decide)) (by rfl) M__law_vector F__law_vector.kp B__law_vector .nil pass0 (pa_cons (pv 1) pa_nil)) (pa_cons (pe_call G__law_fraction (hr.mono (by decide)) (by rfl) M__law_fraction F__law_fraction.kp B__law_fraction .nil pass0 (pa_cons (pv 1) pa_nil)) pa_nil))) (by rfl)) (pss_cons (ps_if (pt_cmpR op_eq (pe_call G__law_draw (hr.mono (by decide)) (by rfl) M__law_draw F__law_draw.kp B__law_draw .nil pass0 (pa_cons (pv 1) (pa_cons pe_int pa_nil))) pe_int (nomark _)) (pss_one (ps_set (i := 5) sc_law.nd rfl (.inl rfl) (pe_call G__law_pick (hr.mono (by decide)) (by rfl) M__law_pick F__law_pick.kp B__law_pick .nil pass0 (pa_cons (pv 1) (pa_cons (pe_lst (pa_cons (pe_tup (pa_cons pe_int (pa_cons pe_int pa_nil))) (pa_cons (pe_tup (pa_cons (pe_un un_neg pe_int) (pa_cons pe_int pa_nil))) (pa_cons (pe_tup (pa_cons pe_int (pa_cons pe_int pa_nil))) pa_nil)))) pa_nil))))) pss_nil) (pss_cons (ps_if (PW.pt (pw_or (pt_not (pt_val (pe_call G__law_direction_so (hr.mono (by decide)) (by rfl) ML FL.kp B__law_direction_so .nil pass0 (pa_cons (pv 3) (pa_cons (pv 5) pa_nil))))) (pw_or (pt_not (pt_val (pe_call G__law_direction_so (hr.mono (by decide)) (by rfl) ML FL.kp B__law_direction_so .nil pass0 (pa_cons (pv 4) (pa_cons (pv 5) pa_nil))))) (pw_or (pt_not (pt_val (pe_call G__law_sums_so (hr.mono (by decide)) (by rfl) M__law_sums_so F__law_sums_so.kp B__law_sums_so .nil pass0 (pa_cons (pv 3) (pa_cons (pv 4) (pa_cons (pv 5) pa_nil)))))) (pw_or1 (pt_not (pt_val (pe_call G__law_sums_so (hr.mono (by decide)) (by rfl) M__law_sums_so F__law_sums_so.kp B__law_sums_so .nil pass0 (pa_cons (pv 4) (pa_cons (pv 3) (pa_cons (pv 5) pa_nil))))))))))) (pss_one ps_never) pss_nil) (pss_cons (ps_set (i := 6) sc_law.nd rfl (.inl rfl) (pe_call G_vector_minus (hr.mono (by decide)) (by rfl) M_vector_minus F_vector_minus.kp B_vector_minus .nil pass0 (pa_cons (pv 3) (pa_cons (pv 4) pa_nil)))) (pss_one (ps_if (PW.pt (pw_or (pt_not (pt_val (pe_call G__law_direction_so (hr.mono (by decide)) (by rfl) ML FL.kp B__law_direction_so .nil pass0 (pa_cons (pv 6) (pa_cons (pv 5) pa_nil))))) (pw_or1 (pt_not (pt_val (pe_call G__law_direction_so (hr.mono (by decide)) (by rfl) ML FL.kp B__law_direction_so .nil pass0 (pa_cons (pe_call G_vector_plus (hr.mono (by decide)) (by rfl) M_vector_plus F_vector_plus.kp B_vector_plus .nil pass0 (pa_cons (pv 6) (pa_cons (pv 4) pa_nil))) (pa_cons (pe_tup (pa_cons (pe_un un_neg pe_int) (pa_cons pe_int pa_nil))) pa_nil)))))))) (pss_one ps_never) pss_nil))))))) (pss_one (ps_ret pe_bl)))), ?_⟩
    with_reducible refine k_seq ?_
    with_reducible refine k_set ?_
    with_reducible refine k_call ?_
    refine k_arg (val_var rfl) ?_
    with_reducible refine k_nil ?_
    refine ⟨a, ns, rfl, hs, fun b c ms H hB hsm => ?_⟩
    replace hB : (bagTG K b c ms (lamT Pt)).B H := ⟨hB, hT.ext hsm⟩
    have tg : TabG (lamT Pt) (bagTG K b c ms (lamT Pt)) := bagTG_tab
    with_reducible refine k_seq ?_
    refine k_for_r ?_
    refine k_arg val_c ?_
    with_reducible refine k_nil ?_
    refine k_forR (n := 6) (j := 2) (bagTG K b c ms (lamT Pt)).M (fun _ m => m) hB (fun _ σ2 => ∃ (o2_1 : Option V) (o3_1 : Option V) (o4_1 : Option V) (o5_1 : Option V) (o6_1 : Option V), σ2 = [some (.ref a), some (.ref b), o2_1, o3_1, o4_1, o5_1, o6_1]) ⟨_, _, _, _, _, rfl⟩ (by decide) (fun i1 σ1 Hi1 hi1 Ii1 bi1 ei1 Di1 ki1 => ?_) (fun σ1 Hi1 Ii1 ei1 bi1 => ?_) rfl
    · obtain ⟨o2_1, o3_1, o4_1, o5_1, o6_1, rfl⟩ := Ii1
      have e1 := ei1
      have hB1 := bi1
      with_reducible refine k_seq ?_
      with_reducible refine k_par3 ?_
      with_reducible refine k_argX ?_
      with_reducible refine k_call ?_
      refine k_arg (val_var rfl) ?_
      with_reducible refine k_nil ?_
      refine k_spB () bagTG_ok hB1 (rnil (K := K)) trivial (fun d2 v2 H2 p2 r2 e2 hB2 => ?_)
      obtain ⟨y0_2, y1_2, rfl, z0_2, z1_2⟩ := p2
      with_reducible refine k_argX ?_
      with_reducible refine k_call ?_
      refine k_arg (val_var rfl) ?_
      with_reducible refine k_nil ?_
      refine k_spB () bagTG_ok hB2 (rnil (K := K)) trivial (fun d3 v3 H3 p3 r3 e3 hB3 => ?_)
      obtain ⟨y0_3, y1_3, rfl, z0_3, z1_3⟩ := p3
      with_reducible refine k_argX ?_
      with_reducible refine k_call ?_
      refine k_arg (val_var rfl) ?_
      with_reducible refine k_nil ?_
      refine k_spB () bagTG_ok hB3 (rnil (K := K)) trivial (fun d4 v4 H4 p4 r4 e4 hB4 => ?_)
      obtain ⟨y0_4, rfl, z0_4⟩ := p4
      with_reducible refine k_nil ?_
      refine ⟨_, _, _, rfl, ?_⟩
      with_reducible refine k_seq ?_
      with_reducible refine k_ifX ?_
      with_reducible refine k_T ?_
      with_reducible refine k_opX ?_
      with_reducible refine k_call ?_
      refine k_arg (val_var rfl) ?_
      refine k_arg val_c ?_
      with_reducible refine k_nil ?_
      refine k_draw bagTG_ok hB4 (by omega) (by omega) (fun r5 H5 l5 u5 e5 hB5 => ?_)
      refine k_val val_c ?_
      refine f_eqI ?_
      refine ⟨_, rfl, ?_⟩
      refine k_ite (fun c2 => ?_) (fun c2 => ?_)
      · with_reducible refine k_set ?_
        with_reducible refine k_call ?_
        refine k_arg (val_var rfl) ?_
        with_reducible refine k_argX ?_
        with_reducible refine k_lst ?_
        with_reducible refine k_argX ?_
        with_reducible refine k_tup ?_
        refine k_arg val_c ?_
        refine k_arg val_c ?_
        with_reducible refine k_nil ?_
        refine k_tup_end hB5 (rcons (rint _) (rcons (rint _) (rnil (K := K)))) (fun v6 H6 r6 s6 hB6 => ?_)
        replace r6 : Rep K (bagTG K b c ms (lamT Pt)).M H6 (fr (0 : Rat)) v6 := r6
        with_reducible refine k_argX ?_
        with_reducible refine k_tup ?_
        refine k_arg (v_un val_c) ?_
        refine k_arg val_c ?_
        with_reducible refine k_nil ?_
        refine k_tup_end hB6 (rcons (rint _) (rcons (rint _) (rnil (K := K)))) (fun v7 H7 r7 s7 hB7 => ?_)
        replace r7 : Rep K (bagTG K b c ms (lamT Pt)).M H7 (fr (-1 : Rat)) v7 := r7
        with_reducible refine k_argX ?_
        with_reducible refine k_tup ?_
        refine k_arg val_c ?_
        refine k_arg val_c ?_
        with_reducible refine k_nil ?_
        refine k_tup_end hB7 (rcons (rint _) (rcons (rint _) (rnil (K := K)))) (fun v8 H8 r8 s8 hB8 => ?_)
        replace r8 : Rep K (bagTG K b c ms (lamT Pt)).M H8 (fr (1 : Rat)) v8 := r8
        with_reducible refine k_nil ?_
        have q3 := ((r6.up hB6 (Ex.of s7)).up hB7 (Ex.of s8))
        refine k_lst_end hB8 (rcons (q3) (rcons ((r7.up hB7 (Ex.of s8))) (rcons (r8) (rnil (K := K))))) (fun v9 H9 r9 s9 hB9 => ?_)
        with_reducible refine k_nil ?_
        refine k_spB [(fr ((0 : Rat))), (fr ((-1 : Rat))), (fr ((1 : Rat)))] bagTG_ok hB9 (rcons (r9) (rnil (K := K))) ⟨Nat.succ_pos _, Nat.le_of_ble_eq_true rfl⟩ (fun d10 v10 H10 m10 r10 e10 hB10 => ?_)
        obtain ⟨x10, rfl, z10⟩ : ∃ (x10 : Rat), d10 = ((fr (x10)) : D) ∧ (SzR 1 x10) := by
          simp only [List.mem_cons, List.not_mem_nil, or_false] at m10
          rcases m10 with rfl | rfl | rfl
          · exact ⟨(0 : Rat), rfl, (((szr_lit 1 (0 : Rat))).mono (by omega))⟩
          · exact ⟨(-1 : Rat), rfl, (((szr_lit 1 (-1 : Rat))).mono (by omega))⟩
          · exact ⟨(1 : Rat), rfl, (((szr_lit 1 (1 : Rat))).mono (by omega))⟩
        with_reducible refine k_seq ?_
        with_reducible refine k_ifX ?_
        with_reducible refine k_or ?_
        with_reducible refine k_not ?_
        with_reducible refine k_B ?_
        with_reducible refine k_call ?_
        refine k_arg (val_var rfl) ?_
        refine k_arg (val_var rfl) ?_
        with_reducible refine k_nil ?_
        have q4 := ((((((((r2.up hB2 (bagTG_ok.up e3)).up hB3 (bagTG_ok.up e4)).up hB4 (bagTG_ok.up e5)).up hB5 (Ex.of s6)).up hB6 (Ex.of s7)).up hB7 (Ex.of s8)).up hB8 (Ex.of s9)).up hB9 (bagTG_ok.up e10))
        refine k_spL (y0_2, y1_2, x10) tg hB10 (rcons (q4) (rcons (r10) (rnil (K := K)))) ⟨(z0_2.mono (by first | omega | (dsimp only; omega))), (z1_2.mono (by first | omega | (dsimp only; omega))), (z10.mono (by first | omega | (dsimp only; omega)))⟩ (fun v11 H11 r11 e11 hB11 => ?_)
        obtain rfl := bl_of (b := true) r11
        refine ⟨_, rfl, ?_⟩
        refine iteF ?_
        with_reducible refine k_or ?_
        with_reducible refine k_not ?_
        with_reducible refine k_B ?_
        with_reducible refine k_call ?_
        refine k_arg (val_var rfl) ?_
        refine k_arg (val_var rfl) ?_
        with_reducible refine k_nil ?_
        have q5 := ((((((((r3.up hB3 (bagTG_ok.up e4)).up hB4 (bagTG_ok.up e5)).up hB5 (Ex.of s6)).up hB6 (Ex.of s7)).up hB7 (Ex.of s8)).up hB8 (Ex.of s9)).up hB9 (bagTG_ok.up e10)).up hB10 (e11.imp tg.on))
        refine k_spL (y0_3, y1_3, x10) tg hB11 (rcons (q5) (rcons ((r10.up hB10 (e11.imp tg.on))) (rnil (K := K)))) ⟨(z0_3.mono (by first | omega | (dsimp only; omega))), (z1_3.mono (by first | omega | (dsimp only; omega))), (z10.mono (by first | omega | (dsimp only; omega)))⟩ (fun v12 H12 r12 e12 hB12 => ?_)
        obtain rfl := bl_of (b := true) r12
        refine ⟨_, rfl, ?_⟩
        refine iteF ?_
        with_reducible refine k_or ?_
        with_reducible refine k_not ?_
        with_reducible refine k_B ?_
        with_reducible refine k_call ?_
        refine k_arg (val_var rfl) ?_
        refine k_arg (val_var rfl) ?_
        refine k_arg (val_var rfl) ?_
        with_reducible refine k_nil ?_
        have q6 := ((r10.up hB10 (e11.imp tg.on)).up hB11 (e12.imp tg.on))
        have q7 := ((q4.up hB10 (e11.imp tg.on)).up hB11 (e12.imp tg.on))
        refine k_spF (y0_2, y1_2, y0_3, y1_3, x10) hB12 (rcons (q7) (rcons ((q5.up hB11 (e12.imp tg.on))) (rcons (q6) (rnil (K := K))))) ⟨(z0_2.mono (by first | omega | (dsimp only; omega))), (z1_2.mono (by first | omega | (dsimp only; omega))), (z0_3.mono (by first | omega | (dsimp only; omega))), (z1_3.mono (by first | omega | (dsimp only; omega))), (z10.mono (by first | omega | (dsimp only; omega)))⟩ (fun v13 H13 r13 s13 hB13 => ?_)
        obtain rfl := bl_of (b := true) r13
        refine ⟨_, rfl, ?_⟩
        refine iteF ?_
        with_reducible refine k_not ?_
        with_reducible refine k_B ?_
        with_reducible refine k_call ?_
        refine k_arg (val_var rfl) ?_
        refine k_arg (val_var rfl) ?_
        refine k_arg (val_var rfl) ?_
        with_reducible refine k_nil ?_
        have q8 := ((q5.up hB11 (e12.imp tg.on)).up hB12 (Ex.of s13))
        refine k_spF (y0_3, y1_3, y0_2, y1_2, x10) hB13 (rcons (q8) (rcons ((q7.up hB12 (Ex.of s13))) (rcons ((q6.up hB12 (Ex.of s13))) (rnil (K := K))))) ⟨(z0_3.mono (by first | omega | (dsimp only; omega))), (z1_3.mono (by first | omega | (dsimp only; omega))), (z0_2.mono (by first | omega | (dsimp only; omega))), (z1_2.mono (by first | omega | (dsimp only; omega))), (z10.mono (by first | omega | (dsimp only; omega)))⟩ (fun v14 H14 r14 s14 hB14 => ?_)
        obtain rfl := bl_of (b := true) r14
        refine ⟨_, rfl, ?_⟩
        refine iteF ?_
        with_reducible refine k_next ?_
        with_reducible refine k_seq ?_
        with_reducible refine k_set ?_
        with_reducible refine k_call ?_
        refine k_arg (val_var rfl) ?_
        refine k_arg (val_var rfl) ?_
        with_reducible refine k_nil ?_
        have q9 := ((q7.up hB12 (Ex.of s13)).up hB13 (Ex.of s14))
        refine k_spF (y0_2, y1_2, y0_3, y1_3, 24) hB14 (rcons (q9) (rcons ((q8.up hB13 (Ex.of s14))) (rnil (K := K)))) ⟨(z0_2.mono (by first | omega | (dsimp only; omega))), (z1_2.mono (by first | omega | (dsimp only; omega))), (z0_3.mono (by first | omega | (dsimp only; omega))), (z1_3.mono (by first | omega | (dsimp only; omega))), (by first | omega | (dsimp only; omega))⟩ (fun v15 H15 r15 s15 hB15 => ?_)
        replace r15 : Rep K (bagTG K b c ms (lamT Pt)).M H15 (.tup [(fr ((y0_2 - y0_3))), (fr ((y1_2 - y1_3)))]) v15 := r15
        have z15_0 : SzR 49 ((y0_2 - y0_3)) := (szr_sub z0_2 z0_3 (by omega))
        have z15_1 : SzR 49 ((y1_2 - y1_3)) := (szr_sub z1_2 z1_3 (by omega))
        with_reducible refine k_ifX ?_
        with_reducible refine k_or ?_
        with_reducible refine k_not ?_
        with_reducible refine k_B ?_
        with_reducible refine k_call ?_
        refine k_arg (val_var rfl) ?_
        refine k_arg (val_var rfl) ?_
        with_reducible refine k_nil ?_
        have q10 := (((q6.up hB12 (Ex.of s13)).up hB13 (Ex.of s14)).up hB14 (Ex.of s15))
        refine k_spL ((y0_2 - y0_3), (y1_2 - y1_3), x10) tg hB15 (rcons (r15) (rcons (q10) (rnil (K := K)))) ⟨(z15_0.mono (by first | omega | (dsimp only; omega))), (z15_1.mono (by first | omega | (dsimp only; omega))), (z10.mono (by first | omega | (dsimp only; omega)))⟩ (fun v16 H16 r16 e16 hB16 => ?_)
        obtain rfl := bl_of (b := true) r16
        refine ⟨_, rfl, ?_⟩
        refine iteF ?_
        with_reducible refine k_not ?_
        with_reducible refine k_B ?_
        with_reducible refine k_call ?_
        with_reducible refine k_argX ?_
        with_reducible refine k_call ?_
        refine k_arg (val_var rfl) ?_
        refine k_arg (val_var rfl) ?_
        with_reducible refine k_nil ?_
        have q11 := (((q8.up hB13 (Ex.of s14)).up hB14 (Ex.of s15)).up hB15 (e16.imp tg.on))
        refine k_spF ((y0_2 - y0_3), (y1_2 - y1_3), y0_3, y1_3, 49) hB16 (rcons ((r15.up hB15 (e16.imp tg.on))) (rcons (q11) (rnil (K := K)))) ⟨(z15_0.mono (by first | omega | (dsimp only; omega))), (z15_1.mono (by first | omega | (dsimp only; omega))), (z0_3.mono (by first | omega | (dsimp only; omega))), (z1_3.mono (by first | omega | (dsimp only; omega))), (by first | omega | (dsimp only; omega))⟩ (fun v17 H17 r17 s17 hB17 => ?_)
        replace r17 : Rep K (bagTG K b c ms (lamT Pt)).M H17 (.tup [(fr (((y0_2 - y0_3) + y0_3))), (fr (((y1_2 - y1_3) + y1_3)))]) v17 := r17
        have z17_0 : SzR 99 (((y0_2 - y0_3) + y0_3)) := (szr_add z15_0 z0_3 (by omega))
        have z17_1 : SzR 99 (((y1_2 - y1_3) + y1_3)) := (szr_add z15_1 z1_3 (by omega))
        with_reducible refine k_argX ?_
        with_reducible refine k_tup ?_
        refine k_arg (v_un val_c) ?_
        refine k_arg val_c ?_
        with_reducible refine k_nil ?_
        refine k_tup_end hB17 (rcons (rint _) (rcons (rint _) (rnil (K := K)))) (fun v18 H18 r18 s18 hB18 => ?_)
        replace r18 : Rep K (bagTG K b c ms (lamT Pt)).M H18 (fr (⟨-2, 3, by decide, by decide⟩ : Rat)) v18 := r18
        with_reducible refine k_nil ?_
        refine k_spL (((y0_2 - y0_3) + y0_3), ((y1_2 - y1_3) + y1_3), (⟨-2, 3, by decide, by decide⟩ : Rat)) tg hB18 (rcons ((r17.up hB17 (Ex.of s18))) (rcons (r18) (rnil (K := K)))) ⟨(z17_0.mono (by first | omega | (dsimp only; omega))), (z17_1.mono (by first | omega | (dsimp only; omega))), ((szr_lit 2 (⟨-2, 3, by decide, by decide⟩ : Rat)).mono (by first | omega | (dsimp only; omega)))⟩ (fun v19 H19 r19 e19 hB19 => ?_)
        obtain rfl := bl_of (b := true) r19
        refine ⟨_, rfl, ?_⟩
        refine iteF ?_
        with_reducible refine k_next ?_
        exact ki1 _ _ ⟨_, _, _, _, _, rfl⟩ ((e2.imp bagTG_ok.on).trans ((e3.imp bagTG_ok.on).trans ((e4.imp bagTG_ok.on).trans ((e5.imp bagTG_ok.on).trans ((Ex.of s6).trans ((Ex.of s7).trans ((Ex.of s8).trans ((Ex.of s9).trans ((e10.imp bagTG_ok.on).trans ((e11.imp tg.on).trans ((e12.imp tg.on).trans ((Ex.of s13).trans ((Ex.of s14).trans ((Ex.of s15).trans ((e16.imp tg.on).trans ((Ex.of s17).trans ((Ex.of s18).trans (e19.imp tg.on)))))))))))))))))) hB19
      · with_reducible refine k_next ?_
        with_reducible refine k_seq ?_
        with_reducible refine k_ifX ?_
        with_reducible refine k_or ?_
        with_reducible refine k_not ?_
        with_reducible refine k_B ?_
        with_reducible refine k_call ?_
        refine k_arg (val_var rfl) ?_
        refine k_arg (val_var rfl) ?_
        with_reducible refine k_nil ?_
        have q12 := (((r2.up hB2 (bagTG_ok.up e3)).up hB3 (bagTG_ok.up e4)).up hB4 (bagTG_ok.up e5))
        refine k_spL (y0_2, y1_2, y0_4) tg hB5 (rcons (q12) (rcons ((r4.up hB4 (bagTG_ok.up e5))) (rnil (K := K)))) ⟨(z0_2.mono (by first | omega | (dsimp only; omega))), (z1_2.mono (by first | omega | (dsimp only; omega))), (z0_4.mono (by first | omega | (dsimp only; omega)))⟩ (fun v20 H20 r20 e20 hB20 => ?_)
        obtain rfl := bl_of (b := true) r20
        refine ⟨_, rfl, ?_⟩
        refine iteF ?_
        with_reducible refine k_or ?_
        with_reducible refine k_not ?_
        with_reducible refine k_B ?_
        with_reducible refine k_call ?_
        refine k_arg (val_var rfl) ?_
        refine k_arg (val_var rfl) ?_
        with_reducible refine k_nil ?_
        have q13 := ((r4.up hB4 (bagTG_ok.up e5)).up hB5 (e20.imp tg.on))
        have q14 := (((r3.up hB3 (bagTG_ok.up e4)).up hB4 (bagTG_ok.up e5)).up hB5 (e20.imp tg.on))
        refine k_spL (y0_3, y1_3, y0_4) tg hB20 (rcons (q14) (rcons (q13) (rnil (K := K)))) ⟨(z0_3.mono (by first | omega | (dsimp only; omega))), (z1_3.mono (by first | omega | (dsimp only; omega))), (z0_4.mono (by first | omega | (dsimp only; omega)))⟩ (fun v21 H21 r21 e21 hB21 => ?_)
        obtain rfl := bl_of (b := true) r21
        refine ⟨_, rfl, ?_⟩
        refine iteF ?_
        with_reducible refine k_or ?_
        with_reducible refine k_not ?_
        with_reducible refine k_B ?_
        with_reducible refine k_call ?_
        refine k_arg (val_var rfl) ?_
        refine k_arg (val_var rfl) ?_
        refine k_arg (val_var rfl) ?_
        with_reducible refine k_nil ?_
        have q15 := ((q12.up hB5 (e20.imp tg.on)).up hB20 (e21.imp tg.on))
        refine k_spF (y0_2, y1_2, y0_3, y1_3, y0_4) hB21 (rcons (q15) (rcons ((q14.up hB20 (e21.imp tg.on))) (rcons ((q13.up hB20 (e21.imp tg.on))) (rnil (K := K))))) ⟨(z0_2.mono (by first | omega | (dsimp only; omega))), (z1_2.mono (by first | omega | (dsimp only; omega))), (z0_3.mono (by first | omega | (dsimp only; omega))), (z1_3.mono (by first | omega | (dsimp only; omega))), (z0_4.mono (by first | omega | (dsimp only; omega)))⟩ (fun v22 H22 r22 s22 hB22 => ?_)
        obtain rfl := bl_of (b := true) r22
        refine ⟨_, rfl, ?_⟩
        refine iteF ?_
        with_reducible refine k_not ?_
        with_reducible refine k_B ?_
        with_reducible refine k_call ?_
        refine k_arg (val_var rfl) ?_
        refine k_arg (val_var rfl) ?_
        refine k_arg (val_var rfl) ?_
        with_reducible refine k_nil ?_
        have q16 := ((q13.up hB20 (e21.imp tg.on)).up hB21 (Ex.of s22))
        have q17 := ((q14.up hB20 (e21.imp tg.on)).up hB21 (Ex.of s22))
        refine k_spF (y0_3, y1_3, y0_2, y1_2, y0_4) hB22 (rcons (q17) (rcons ((q15.up hB21 (Ex.of s22))) (rcons (q16) (rnil (K := K))))) ⟨(z0_3.mono (by first | omega | (dsimp only; omega))), (z1_3.mono (by first | omega | (dsimp only; omega))), (z0_2.mono (by first | omega | (dsimp only; omega))), (z1_2.mono (by first | omega | (dsimp only; omega))), (z0_4.mono (by first | omega | (dsimp only; omega)))⟩ (fun v23 H23 r23 s23 hB23 => ?_)
        obtain rfl := bl_of (b := true) r23
        refine ⟨_, rfl, ?_⟩
        refine iteF ?_
        with_reducible refine k_next ?_
        with_reducible refine k_seq ?_
        with_reducible refine k_set ?_
        with_reducible refine k_call ?_
        refine k_arg (val_var rfl) ?_
        refine k_arg (val_var rfl) ?_
        with_reducible refine k_nil ?_
        have q18 := ((q15.up hB21 (Ex.of s22)).up hB22 (Ex.of s23))
        refine k_spF (y0_2, y1_2, y0_3, y1_3, 24) hB23 (rcons (q18) (rcons ((q17.up hB22 (Ex.of s23))) (rnil (K := K)))) ⟨(z0_2.mono (by first | omega | (dsimp only; omega))), (z1_2.mono (by first | omega | (dsimp only; omega))), (z0_3.mono (by first | omega | (dsimp only; omega))), (z1_3.mono (by first | omega | (dsimp only; omega))), (by first | omega | (dsimp only; omega))⟩ (fun v24 H24 r24 s24 hB24 => ?_)
        replace r24 : Rep K (bagTG K b c ms (lamT Pt)).M H24 (.tup [(fr ((y0_2 - y0_3))), (fr ((y1_2 - y1_3)))]) v24 := r24
        have z24_0 : SzR 49 ((y0_2 - y0_3)) := (szr_sub z0_2 z0_3 (by omega))
        have z24_1 : SzR 49 ((y1_2 - y1_3)) := (szr_sub z1_2 z1_3 (by omega))
        with_reducible refine k_ifX ?_
        with_reducible refine k_or ?_
        with_reducible refine k_not ?_
        with_reducible refine k_B ?_
        with_reducible refine k_call ?_
        refine k_arg (val_var rfl) ?_
        refine k_arg (val_var rfl) ?_
        with_reducible refine k_nil ?_
        have q19 := ((q16.up hB22 (Ex.of s23)).up hB23 (Ex.of s24))
        refine k_spL ((y0_2 - y0_3), (y1_2 - y1_3), y0_4) tg hB24 (rcons (r24) (rcons (q19) (rnil (K := K)))) ⟨(z24_0.mono (by first | omega | (dsimp only; omega))), (z24_1.mono (by first | omega | (dsimp only; omega))), (z0_4.mono (by first | omega | (dsimp only; omega)))⟩ (fun v25 H25 r25 e25 hB25 => ?_)
        obtain rfl := bl_of (b := true) r25
        refine ⟨_, rfl, ?_⟩
        refine iteF ?_
        with_reducible refine k_not ?_
        with_reducible refine k_B ?_
        with_reducible refine k_call ?_
        with_reducible refine k_argX ?_
        with_reducible refine k_call ?_
        refine k_arg (val_var rfl) ?_
        refine k_arg (val_var rfl) ?_
        with_reducible refine k_nil ?_
        have q20 := (((q17.up hB22 (Ex.of s23)).up hB23 (Ex.of s24)).up hB24 (e25.imp tg.on))
        refine k_spF ((y0_2 - y0_3), (y1_2 - y1_3), y0_3, y1_3, 49) hB25 (rcons ((r24.up hB24 (e25.imp tg.on))) (rcons (q20) (rnil (K := K)))) ⟨(z24_0.mono (by first | omega | (dsimp only; omega))), (z24_1.mono (by first | omega | (dsimp only; omega))), (z0_3.mono (by first | omega | (dsimp only; omega))), (z1_3.mono (by first | omega | (dsimp only; omega))), (by first | omega | (dsimp only; omega))⟩ (fun v26 H26 r26 s26 hB26 => ?_)
        replace r26 : Rep K (bagTG K b c ms (lamT Pt)).M H26 (.tup [(fr (((y0_2 - y0_3) + y0_3))), (fr (((y1_2 - y1_3) + y1_3)))]) v26 := r26
        have z26_0 : SzR 99 (((y0_2 - y0_3) + y0_3)) := (szr_add z24_0 z0_3 (by omega))
        have z26_1 : SzR 99 (((y1_2 - y1_3) + y1_3)) := (szr_add z24_1 z1_3 (by omega))
        with_reducible refine k_argX ?_
        with_reducible refine k_tup ?_
        refine k_arg (v_un val_c) ?_
        refine k_arg val_c ?_
        with_reducible refine k_nil ?_
        refine k_tup_end hB26 (rcons (rint _) (rcons (rint _) (rnil (K := K)))) (fun v27 H27 r27 s27 hB27 => ?_)
        replace r27 : Rep K (bagTG K b c ms (lamT Pt)).M H27 (fr (⟨-2, 3, by decide, by decide⟩ : Rat)) v27 := r27
        with_reducible refine k_nil ?_
        refine k_spL (((y0_2 - y0_3) + y0_3), ((y1_2 - y1_3) + y1_3), (⟨-2, 3, by decide, by decide⟩ : Rat)) tg hB27 (rcons ((r26.up hB26 (Ex.of s27))) (rcons (r27) (rnil (K := K)))) ⟨(z26_0.mono (by first | omega | (dsimp only; omega))), (z26_1.mono (by first | omega | (dsimp only; omega))), ((szr_lit 2 (⟨-2, 3, by decide, by decide⟩ : Rat)).mono (by first | omega | (dsimp only; omega)))⟩ (fun v28 H28 r28 e28 hB28 => ?_)
        obtain rfl := bl_of (b := true) r28
        refine ⟨_, rfl, ?_⟩
        refine iteF ?_
        with_reducible refine k_next ?_
        exact ki1 _ _ ⟨_, _, _, _, _, rfl⟩ ((e2.imp bagTG_ok.on).trans ((e3.imp bagTG_ok.on).trans ((e4.imp bagTG_ok.on).trans ((e5.imp bagTG_ok.on).trans ((e20.imp tg.on).trans ((e21.imp tg.on).trans ((Ex.of s22).trans ((Ex.of s23).trans ((Ex.of s24).trans ((e25.imp tg.on).trans ((Ex.of s26).trans ((Ex.of s27).trans (e28.imp tg.on))))))))))))) hB28
    · obtain ⟨o2_1, o3_1, o4_1, o5_1, o6_1, rfl⟩ := Ii1
      have e29 := ei1
      have hB29 := bi1
      with_reducible refine k_ret ?_
      refine k_val val_c ?_
      exact k _
end
end Px

namespace Px
open PySem PySem.Spec PyProof.Rows L2
def fa03 : List He.Fa := [.free "len", .free "abs", .free "int", .free "isinstance", .free "list", .free "tuple", .free "str", .free "all", .free "zip", .free "range", .free "bool", .free "super", .glo "fraction", .glo "plus", .glo "minus", .glo "times", .glo "divided", .glo "negative", .glo "direction", .glo "vector_plus", .glo "vector_minus", .glo "vector_times", .glo "_law_bag", .glo "_law_draw", .glo "_law_pick", .glo "_law_same", .glo "_law_fields", .glo "_law_got", .glo "_law_is_whole", .glo "_law_common", .glo "_law_low", .glo "_law_is_fraction", .glo "_law_fraction", .glo "_law_right", .glo "_law_pair", .glo "_law_vector", .glo "_law_is_direction", .glo "_law_direction_so", .glo "_law_sums_so", .glo "law", .glo "ZeroDivisor", .glo "MapError", .glo "Missing"]
def fn03 : List He.DefD := [⟨("fraction", none), "fraction", "fraction", defArgs s_fraction, defBody s_fraction, defScope s_fraction, [.int 1], []⟩,
  ⟨("plus", none), "plus", "plus", defArgs s_plus, defBody s_plus, defScope s_plus, [], []⟩,
  ⟨("minus", none), "minus", "minus", defArgs s_minus, defBody s_minus, defScope s_minus, [], []⟩,
  ⟨("times", none), "times", "times", defArgs s_times, defBody s_times, defScope s_times, [], []⟩,
  ⟨("divided", none), "divided", "divided", defArgs s_divided, defBody s_divided, defScope s_divided, [], []⟩,
  ⟨("negative", none), "negative", "negative", defArgs s_negative, defBody s_negative, defScope s_negative, [], []⟩,
  ⟨("direction", none), "direction", "direction", defArgs s_direction, defBody s_direction, defScope s_direction, [], []⟩,
  ⟨("vector_plus", none), "vector_plus", "vector_plus", defArgs s_vector_plus, defBody s_vector_plus, defScope s_vector_plus, [], []⟩,
  ⟨("vector_minus", none), "vector_minus", "vector_minus", defArgs s_vector_minus, defBody s_vector_minus, defScope s_vector_minus, [], []⟩,
  ⟨("vector_times", none), "vector_times", "vector_times", defArgs s_vector_times, defBody s_vector_times, defScope s_vector_times, [], []⟩,
  ⟨("_law_bag", none), "_law_bag", "_law_bag", defArgs s__law_bag, defBody s__law_bag, defScope s__law_bag, [], []⟩,
  ⟨("_law_draw", none), "_law_draw", "_law_draw", defArgs s__law_draw, defBody s__law_draw, defScope s__law_draw, [], []⟩,
  ⟨("_law_pick", none), "_law_pick", "_law_pick", defArgs s__law_pick, defBody s__law_pick, defScope s__law_pick, [], []⟩,
  ⟨("_law_same", none), "_law_same", "_law_same", defArgs s__law_same, defBody s__law_same, defScope s__law_same, [], []⟩,
  ⟨("_law_fields", none), "_law_fields", "_law_fields", defArgs s__law_fields, defBody s__law_fields, defScope s__law_fields, [], []⟩,
  ⟨("_law_got", none), "_law_got", "_law_got", defArgs s__law_got, defBody s__law_got, defScope s__law_got, [], []⟩,
  ⟨("_law_is_whole", none), "_law_is_whole", "_law_is_whole", defArgs s__law_is_whole, defBody s__law_is_whole, defScope s__law_is_whole, [], []⟩,
  ⟨("_law_common", none), "_law_common", "_law_common", defArgs s__law_common, defBody s__law_common, defScope s__law_common, [], []⟩,
  ⟨("_law_low", none), "_law_low", "_law_low", defArgs s__law_low, defBody s__law_low, defScope s__law_low, [], []⟩,
  ⟨("_law_is_fraction", none), "_law_is_fraction", "_law_is_fraction", defArgs s__law_is_fraction, defBody s__law_is_fraction, defScope s__law_is_fraction, [], []⟩,
  ⟨("_law_fraction", none), "_law_fraction", "_law_fraction", defArgs s__law_fraction, defBody s__law_fraction, defScope s__law_fraction, [], []⟩,
  ⟨("_law_right", none), "_law_right", "_law_right", defArgs s__law_right, defBody s__law_right, defScope s__law_right, [], []⟩,
  ⟨("_law_pair", none), "_law_pair", "_law_pair", defArgs s__law_pair, defBody s__law_pair, defScope s__law_pair, [], []⟩,
  ⟨("_law_vector", none), "_law_vector", "_law_vector", defArgs s__law_vector, defBody s__law_vector, defScope s__law_vector, [], []⟩,
  ⟨("_law_is_direction", none), "_law_is_direction", "_law_is_direction", defArgs s__law_is_direction, defBody s__law_is_direction, defScope s__law_is_direction, [], []⟩,
  ⟨("_law_direction_so", none), "_law_direction_so", "_law_direction_so", defArgs s__law_direction_so, defBody s__law_direction_so, defScope s__law_direction_so, [], []⟩,
  ⟨("_law_sums_so", none), "_law_sums_so", "_law_sums_so", defArgs s__law_sums_so, defBody s__law_sums_so, defScope s__law_sums_so, [], []⟩,
  ⟨("law", none), "law", "law", defArgs s_law, defBody s_law, defScope s_law, [], []⟩]
def tf03 : List He.Defn := [("_law_direction_so", none)]
def es03 : List ErrD := [⟨"ZeroDivisor", defArgs s_ZeroDivisor___init__, defBody s_ZeroDivisor___init__, defScope s_ZeroDivisor___init__⟩]
def ex03 : PySem.W.Frag → Bool := fun K => decide (PySem.W.nsIn K mainGlobals "gcd" = some (some (.builtin "math.gcd"))) && errB K PySem.Challenge.pw_lostland_k03_vectors_and_directions.main.file "ZeroDivisor" "MapError" "Missing"
theorem law_at {w : World} {K : PySem.W.Frag} {h : Heap} {mg : Str → Option Value} {fa : Addr} (X : K.In h) (c : SaysZ fa03 fn03 tf03 ex03 es03 h K) (G : h.Ns mainGlobals mg) (hfa : mg "law" = some (.ref fa)) :
    LamX.LawAtS PySem.Challenge.rw_lostland_k03_vectors_and_directions w K CX0 13 63 "_law_script" mg fa h := by
  obtain ⟨fd_fraction, F_fraction⟩ := c.d.def_ (fn := fn03) 0
  have M_fraction : mg "fraction" = some (.ref (He.ga K "fraction")) := He.glo_ok X G (c.d.fact (fa := fa03) 12)
  obtain ⟨fd_plus, F_plus⟩ := c.d.def_ (fn := fn03) 1
  have M_plus : mg "plus" = some (.ref (He.ga K "plus")) := He.glo_ok X G (c.d.fact (fa := fa03) 13)
  obtain ⟨fd_minus, F_minus⟩ := c.d.def_ (fn := fn03) 2
  have M_minus : mg "minus" = some (.ref (He.ga K "minus")) := He.glo_ok X G (c.d.fact (fa := fa03) 14)
  obtain ⟨fd_times, F_times⟩ := c.d.def_ (fn := fn03) 3
  have M_times : mg "times" = some (.ref (He.ga K "times")) := He.glo_ok X G (c.d.fact (fa := fa03) 15)
  obtain ⟨fd_divided, F_divided⟩ := c.d.def_ (fn := fn03) 4
  have M_divided : mg "divided" = some (.ref (He.ga K "divided")) := He.glo_ok X G (c.d.fact (fa := fa03) 16)
  obtain ⟨fd_negative, F_negative⟩ := c.d.def_ (fn := fn03) 5
  have M_negative : mg "negative" = some (.ref (He.ga K "negative")) := He.glo_ok X G (c.d.fact (fa := fa03) 17)
  obtain ⟨fd_direction, F_direction⟩ := c.d.def_ (fn := fn03) 6
  have M_direction : mg "direction" = some (.ref (He.ga K "direction")) := He.glo_ok X G (c.d.fact (fa := fa03) 18)
  obtain ⟨fd_vector_plus, F_vector_plus⟩ := c.d.def_ (fn := fn03) 7
  have M_vector_plus : mg "vector_plus" = some (.ref (He.ga K "vector_plus")) := He.glo_ok X G (c.d.fact (fa := fa03) 19)
  obtain ⟨fd_vector_minus, F_vector_minus⟩ := c.d.def_ (fn := fn03) 8
  have M_vector_minus : mg "vector_minus" = some (.ref (He.ga K "vector_minus")) := He.glo_ok X G (c.d.fact (fa := fa03) 20)
  obtain ⟨fd_vector_times, F_vector_times⟩ := c.d.def_ (fn := fn03) 9
  have M_vector_times : mg "vector_times" = some (.ref (He.ga K "vector_times")) := He.glo_ok X G (c.d.fact (fa := fa03) 21)
  obtain ⟨fd__law_bag, F__law_bag⟩ := c.d.def_ (fn := fn03) 10
  have M__law_bag : mg "_law_bag" = some (.ref (He.ga K "_law_bag")) := He.glo_ok X G (c.d.fact (fa := fa03) 22)
  obtain ⟨fd__law_draw, F__law_draw⟩ := c.d.def_ (fn := fn03) 11
  have M__law_draw : mg "_law_draw" = some (.ref (He.ga K "_law_draw")) := He.glo_ok X G (c.d.fact (fa := fa03) 23)
  obtain ⟨fd__law_pick, F__law_pick⟩ := c.d.def_ (fn := fn03) 12
  have M__law_pick : mg "_law_pick" = some (.ref (He.ga K "_law_pick")) := He.glo_ok X G (c.d.fact (fa := fa03) 24)
  obtain ⟨fd__law_same, F__law_same⟩ := c.d.def_ (fn := fn03) 13
  have M__law_same : mg "_law_same" = some (.ref (He.ga K "_law_same")) := He.glo_ok X G (c.d.fact (fa := fa03) 25)
  obtain ⟨fd__law_fields, F__law_fields⟩ := c.d.def_ (fn := fn03) 14
  have M__law_fields : mg "_law_fields" = some (.ref (He.ga K "_law_fields")) := He.glo_ok X G (c.d.fact (fa := fa03) 26)
  obtain ⟨fd__law_got, F__law_got⟩ := c.d.def_ (fn := fn03) 15
  have M__law_got : mg "_law_got" = some (.ref (He.ga K "_law_got")) := He.glo_ok X G (c.d.fact (fa := fa03) 27)
  obtain ⟨fd__law_is_whole, F__law_is_whole⟩ := c.d.def_ (fn := fn03) 16
  have M__law_is_whole : mg "_law_is_whole" = some (.ref (He.ga K "_law_is_whole")) := He.glo_ok X G (c.d.fact (fa := fa03) 28)
  obtain ⟨fd__law_common, F__law_common⟩ := c.d.def_ (fn := fn03) 17
  have M__law_common : mg "_law_common" = some (.ref (He.ga K "_law_common")) := He.glo_ok X G (c.d.fact (fa := fa03) 29)
  obtain ⟨fd__law_low, F__law_low⟩ := c.d.def_ (fn := fn03) 18
  have M__law_low : mg "_law_low" = some (.ref (He.ga K "_law_low")) := He.glo_ok X G (c.d.fact (fa := fa03) 30)
  obtain ⟨fd__law_is_fraction, F__law_is_fraction⟩ := c.d.def_ (fn := fn03) 19
  have M__law_is_fraction : mg "_law_is_fraction" = some (.ref (He.ga K "_law_is_fraction")) := He.glo_ok X G (c.d.fact (fa := fa03) 31)
  obtain ⟨fd__law_fraction, F__law_fraction⟩ := c.d.def_ (fn := fn03) 20
  have M__law_fraction : mg "_law_fraction" = some (.ref (He.ga K "_law_fraction")) := He.glo_ok X G (c.d.fact (fa := fa03) 32)
  obtain ⟨fd__law_right, F__law_right⟩ := c.d.def_ (fn := fn03) 21
  have M__law_right : mg "_law_right" = some (.ref (He.ga K "_law_right")) := He.glo_ok X G (c.d.fact (fa := fa03) 33)
  obtain ⟨fd__law_pair, F__law_pair⟩ := c.d.def_ (fn := fn03) 22
  have M__law_pair : mg "_law_pair" = some (.ref (He.ga K "_law_pair")) := He.glo_ok X G (c.d.fact (fa := fa03) 34)
  obtain ⟨fd__law_vector, F__law_vector⟩ := c.d.def_ (fn := fn03) 23
  have M__law_vector : mg "_law_vector" = some (.ref (He.ga K "_law_vector")) := He.glo_ok X G (c.d.fact (fa := fa03) 35)
  obtain ⟨fd__law_is_direction, F__law_is_direction⟩ := c.d.def_ (fn := fn03) 24
  have M__law_is_direction : mg "_law_is_direction" = some (.ref (He.ga K "_law_is_direction")) := He.glo_ok X G (c.d.fact (fa := fa03) 36)
  obtain ⟨fd__law_direction_so, F__law_direction_so⟩ := c.d.def_ (fn := fn03) 25
  have M__law_direction_so : mg "_law_direction_so" = some (.ref (He.ga K "_law_direction_so")) := He.glo_ok X G (c.d.fact (fa := fa03) 37)
  obtain ⟨fd__law_sums_so, F__law_sums_so⟩ := c.d.def_ (fn := fn03) 26
  have M__law_sums_so : mg "_law_sums_so" = some (.ref (He.ga K "_law_sums_so")) := He.glo_ok X G (c.d.fact (fa := fa03) 38)
  obtain ⟨fd_law, F_law⟩ := c.d.def_ (fn := fn03) 27
  have M_law : mg "law" = some (.ref (He.ga K "law")) := He.glo_ok X G (c.d.fact (fa := fa03) 39)
  obtain ⟨g1', e1⟩ := He.ba c.more
  have g1 : PySem.W.nsIn K mainGlobals "gcd" = some (some (.builtin "math.gcd")) := of_decide_eq_true g1'
  have T : Tx K mg := { len := He.free_ok X G (c.d.fact (fa := fa03) 0), abs := He.free_ok X G (c.d.fact (fa := fa03) 1), int := He.free_ok X G (c.d.fact (fa := fa03) 2), isinstance := He.free_ok X G (c.d.fact (fa := fa03) 3), list := He.free_ok X G (c.d.fact (fa := fa03) 4), tuple := He.free_ok X G (c.d.fact (fa := fa03) 5), str := He.free_ok X G (c.d.fact (fa := fa03) 6), all := He.free_ok X G (c.d.fact (fa := fa03) 7), zip := He.free_ok X G (c.d.fact (fa := fa03) 8), range := He.free_ok X G (c.d.fact (fa := fa03) 9), bool := He.free_ok X G (c.d.fact (fa := fa03) 10), fraction := ⟨_, _, F_fraction, M_fraction⟩, plus := ⟨_, _, fun_of F_plus, M_plus⟩, minus := ⟨_, _, fun_of F_minus, M_minus⟩, times := ⟨_, _, fun_of F_times, M_times⟩, divided := ⟨_, _, fun_of F_divided, M_divided⟩, negative := ⟨_, _, fun_of F_negative, M_negative⟩, direction := ⟨_, _, fun_of F_direction, M_direction⟩, vector_plus := ⟨_, _, fun_of F_vector_plus, M_vector_plus⟩, vector_minus := ⟨_, _, fun_of F_vector_minus, M_vector_minus⟩, vector_times := ⟨_, _, fun_of F_vector_times, M_vector_times⟩, _law_bag := ⟨_, _, fun_of F__law_bag, M__law_bag⟩, _law_draw := ⟨_, _, fun_of F__law_draw, M__law_draw⟩, _law_pick := ⟨_, _, fun_of F__law_pick, M__law_pick⟩, _law_same := ⟨_, _, fun_of F__law_same, M__law_same⟩, _law_fields := ⟨_, _, fun_of F__law_fields, M__law_fields⟩, _law_got := ⟨_, _, fun_of F__law_got, M__law_got⟩, _law_is_whole := ⟨_, _, fun_of F__law_is_whole, M__law_is_whole⟩, _law_common := ⟨_, _, fun_of F__law_common, M__law_common⟩, _law_low := ⟨_, _, fun_of F__law_low, M__law_low⟩, _law_is_fraction := ⟨_, _, fun_of F__law_is_fraction, M__law_is_fraction⟩, _law_fraction := ⟨_, _, fun_of F__law_fraction, M__law_fraction⟩, _law_right := ⟨_, _, fun_of F__law_right, M__law_right⟩, _law_pair := ⟨_, _, fun_of F__law_pair, M__law_pair⟩, _law_vector := ⟨_, _, fun_of F__law_vector, M__law_vector⟩, _law_is_direction := ⟨_, _, fun_of F__law_is_direction, M__law_is_direction⟩, _law_direction_so := ⟨_, _, fun_of F__law_direction_so, M__law_direction_so⟩, _law_sums_so := ⟨_, _, fun_of F__law_sums_so, M__law_sums_so⟩, law := ⟨_, _, fun_of F_law, M_law⟩, gcd := PySem.W.mg_of X G g1 }
  obtain ⟨z1, z2, z3, z4⟩ := err_of (P := PySem.Challenge.pw_lostland_k03_vectors_and_directions) (w := w) (st := s_ZeroDivisor___init__) (d := ⟨"ZeroDivisor", defArgs s_ZeroDivisor___init__, defBody s_ZeroDivisor___init__, defScope s_ZeroDivisor___init__⟩) rfl rfl rfl rfl (c.errs _ (List.mem_singleton.mpr rfl)) e1 ⟨rfl, rfl, rfl, by decide +kernel, rfl, rfl, rfl, rfl⟩ ⟨rfl, fun _ _ _ _ _ _ _ _ _ _ _ _ => .of_eq rfl⟩
  have Z : ErrTx PySem.Challenge.pw_lostland_k03_vectors_and_directions w K mg "ZeroDivisor" s_ZeroDivisor___init__ (He.ga K "ZeroDivisor") (He.ga K "MapError") (He.ga K "Missing") := ⟨He.glo_ok X G (c.d.fact (fa := fa03) 40), z4, z2, z3, ⟨_, z1⟩, He.free_ok X G (c.d.fact (fa := fa03) 11)⟩
  have hA : mg "MapError" = some (.ref (He.ga K "MapError")) := He.glo_ok X G (c.d.fact (fa := fa03) 41)
  have hB0 : mg "Missing" = some (.ref (He.ga K "Missing")) := He.glo_ok X G (c.d.fact (fa := fa03) 42)
  have e := hfa.symm.trans M_law
  cases e
  have Flaw : Fun K "law" "law" s_law (He.ga K "law") fd_law := fun_of F_law
  have FL : Fun K "_law_direction_so" "_law_direction_so" s__law_direction_so (He.ga K "_law_direction_so") fd__law_direction_so := fun_of F__law_direction_so
  refine ⟨fd_law, [He.cT K ("_law_direction_so", none)], sp_lawT K (He.cT K ("_law_direction_so", none)).2, fun p hp => ?_, fun p hp => ?_, fun p hp => ?_, fun s u => ?_, fun H a ns _ _ hT hS => ?_, fun base _ _ hT => ?_⟩
  · rw [List.mem_singleton.mp hp]
    exact c.empty _ (List.mem_singleton.mpr rfl)
  · rw [List.mem_singleton.mp hp]
    exact c.out _ (List.mem_singleton.mpr rfl)
  · rw [List.mem_singleton.mp hp]
    exact PySem.W.codeHd_of_K X (c.hd _ (List.mem_singleton.mpr rfl))
  · obtain ⟨oc, od, kV, doc, pm, an, cdv, ct, osl, rfl, _, _⟩ := Flaw.ex
    exact .of_eq rfl
  · refine ⟨a, ns, rfl, hS, fun p hp => ?_, fun _ => rfl⟩
    rw [List.mem_singleton.mp hp]
    exact LamX.TabS.nil (hT _ (List.mem_singleton.mpr rfl))
  · obtain ⟨f', fd', F', M', B', G'⟩ := has_law (P := PySem.Challenge.pw_lostland_k03_vectors_and_directions) (w := w) (base := base) T Z hA hB0 FL M__law_direction_so (fun_code FL) (hT _ (List.mem_singleton.mpr rfl))
    have e1 := M'.symm.trans M_law
    cases e1
    obtain ⟨oc', od', kV', dc', pm', an', cd', ct', osl', rfl, lk', _⟩ := F'.ex
    obtain ⟨oc, od, kV, doc, pm, an, cdv, ct, osl, rfl, lk, _⟩ := Flaw.ex
    have e2 := lk'.symm.trans lk
    cases e2
    exact G'

end Px

open PySem PySem.W PyProof.Rows
set_option maxHeartbeats 0 in
theorem PySem.Challenge.cw_lostland_k03_vectors_and_directions_holds : PySem.Challenge.rw_lostland_k03_vectors_and_directions.Holds := by
  w_on; o_law; o_head (Px.hookZ 6 Px.fa03 Px.fn03 Px.tf03 Px.ex03 Px.es03); (case hw => w_witness2)
  refine LamX.walk_ofTsE (l := PySem.Challenge.rw_lostland_k03_vectors_and_directions) (n := 63) (k := 13) (x := "_law_script") (CX := fun _ => L2.CX0) rfl (by decide) rfl ⟨rfl, by decide, by decide⟩ ?F (fun _ _ _ _ _ h => h)
  case F =>
    rintro w mg fa h ⟨K, KX, c⟩ G hmg
    exact ⟨K, KX, Px.law_at KX c G hmg⟩
