import PyProof.Rows.All
import Wide.All
import OpenK.AllK
import Wide.FinOn
import HandS.ForMost
import HandS.Steps
import HandS.Wide
import HandS.Gcd
import HandS.Defaults
import HandS.ForExc
import HandS.IsInst
import HandS.Style
import HandS.ClsMeth
import HandS.NoneIn
import HandS.TryOnly
import HandS.More
import HandS.Zip
import HandS.TupAny
import HandS.ExcInit
import KE.KExcSuper
import KE.KSuper
import HandS.Lambda
import HandS.HotCalls
import HandS.ExcField
import KE.KTryMore
import HandS.HeadHook4
import HandS.HeadWalk
import HandS.Head3
import HandS.CallSlots
import HandS.Property
import HandS.StrMore
import HandS.DeepEq
import HandS.Deep
import HandS.Star
import HandS.RaiseMore
import HandS.MakeKw
import HandS.Small
import HandS.Text
import HandS.HeadHook3
import HandS.FStr
import HandS.RevTup
import HandS.WideBits
import HandS.Rev
import PyProof.JoinWalk
import OpenK.KMeth
import PySem.Challenge.RW_lostland_k08_flats_together_and_moved
set_option Elab.async false
set_option linter.all false
set_option maxRecDepth 100000
set_option exponentiation.threshold 20000
namespace Px
open PySem PySem.Spec PyProof.Rows L2
inductive D where
  | non
  | bl (b : Bool)
  | int (i : Int)
  | str (s : Str)
  | tup (xs : List D)
  | lst (xs : List D)
  | ins (C : Addr) (ns : List Str) (ds : List D)
section
variable (K : PySem.W.Frag) (M : Addr → Prop) (H : Hp)
mutual
/-- the value v stands for the datum -/
def Rep : D → V → Prop
  | .non, v => v = .non
  | .bl b, v => v = .bl b
  | .int i, v => v = .int i
  | .str s, v => v = .str s
  | .tup ds, v => ∃ a xs, v = .ref a ∧ SqT K H a xs ∧ Reps ds xs
  | .lst ds, v => ∃ a xs, v = .ref a ∧ ¬ M a ∧ Rd H a (.lst xs) ∧ Reps ds xs
  | .ins C ns ds, v => ∃ a dx fs, v = .ref a ∧ ¬ M a ∧ H a = some (.ins C dx fs) ∧ fs.map (·.1) = ns ∧ Reps ds (fs.map (·.2))
def Reps : List D → List V → Prop
  | [], xs => xs = []
  | d :: ds, xs => ∃ v r, xs = v :: r ∧ Rep d v ∧ Reps ds r
end
end
/-- all but the changing ones stays -/
def Ex (M : Addr → Prop) (H H' : Hp) : Prop := ∀ a o, H a = some o → ¬ M a → H' a = some o
theorem Ex.of {M : Addr → Prop} {H H' : Hp} (e : Same H H') : Ex M H H' := fun a o h _ => e a o h
theorem Ex.trans {M : Addr → Prop} {H H1 H2 : Hp} (a : Ex M H H1) (b : Ex M H1 H2) : Ex M H H2 := fun c o h n => b c o (a c o h n) n
/-- what changes (lists alone), and what is known of it -/
structure Bg where
  M : Addr → Prop
  B : Hp → Prop
  isl : ∀ H a, B H → M a → (∃ xs, H a = some (.lst xs)) ∨ (∃ C dx fs, H a = some (.ins C dx fs)) ∨ ∃ ps, H a = some (.tbl ps)
  st : ∀ H H', B H → Same H H' → B H'
  fr : ∀ H d, B H → H d = none → ∀ H1 H2, B H1 → (∃ xs, H1 d = some (.lst xs)) → Ex (fun a => a = d) H1 H2 → B H2
section
variable {K : PySem.W.Frag} {G : Bg} {H H' : Hp}
/-- no tuple changes -/
def NoTup (M : Addr → Prop) (H : Hp) : Prop := ∀ a xs, M a → ¬ Rd H a (.tup xs)
theorem Bg.nt (b : G.B H) : NoTup G.M H := fun a xs m h => by
  rcases G.isl H a b m with ⟨ys, hy⟩ | ⟨C, dx, fs, hy⟩ | ⟨tb, hy⟩ <;> rcases h with h | ⟨o, h⟩ <;> (rw [hy] at h; cases h)
theorem rd_up {M : Addr → Prop} {a : Addr} {u : HO} (nm : ¬ M a) (e : Ex M H H') (h : Rd H a u) : Rd H' a u := by
  rcases h with h | ⟨o, h⟩
  · exact .inl (e _ _ h nm)
  · exact .inr ⟨o, e _ _ h nm⟩
theorem sqT_upC {M : Addr → Prop} {a : Addr} {xs : List V} (c : NoTup M H) (e : Ex M H H') (h : SqT K H a xs) : SqT K H' a xs := by
  rcases h with h | h
  · exact .inl (rd_up (fun m => c a xs m h) e h)
  · exact .inr h
section
variable {M : Addr → Prop}
mutual
theorem Rep.upC (b : NoTup M H) (e : Ex M H H') : ∀ {d : D} {v : V}, Rep K M H d v → Rep K M H' d v
  | .non, _, h => by unfold Rep at *; exact h
  | .bl _, _, h => by unfold Rep at *; exact h
  | .int _, _, h => by unfold Rep at *; exact h
  | .str _, _, h => by unfold Rep at *; exact h
  | .tup ds, v, h => by
    unfold Rep at *
    obtain ⟨a, xs, e1, e2, e3⟩ := h
    exact ⟨a, xs, e1, sqT_upC b e e2, Reps.upC b e e3⟩
  | .lst ds, v, h => by
    unfold Rep at *
    obtain ⟨a, xs, e1, n, e2, e3⟩ := h
    exact ⟨a, xs, e1, n, rd_up n e e2, Reps.upC b e e3⟩
  | .ins C ns ds, v, h => by
    unfold Rep at *
    obtain ⟨a, dx, fs, e1, n, e2, e3, e4⟩ := h
    exact ⟨a, dx, fs, e1, n, e _ _ e2 n, e3, Reps.upC b e e4⟩
theorem Reps.upC (b : NoTup M H) (e : Ex M H H') : ∀ {ds : List D} {xs : List V}, Reps K M H ds xs → Reps K M H' ds xs
  | [], _, h => by unfold Reps at *; exact h
  | d :: ds, xs, h => by
    unfold Reps at *
    obtain ⟨v, r, e1, e2, e3⟩ := h
    exact ⟨v, r, e1, Rep.upC b e e2, Reps.upC b e e3⟩
end
end
theorem Rep.up (b : G.B H) (e : Ex G.M H H') {d : D} {v : V} (r : Rep K G.M H d v) : Rep K G.M H' d v := r.upC (Bg.nt b) e
theorem Reps.up (b : G.B H) (e : Ex G.M H H') {ds : List D} {xs : List V} (r : Reps K G.M H ds xs) : Reps K G.M H' ds xs := r.upC (Bg.nt b) e
variable {M : Addr → Prop}
theorem rint (i : Int) : Rep K M H (.int i) (.int i) := by unfold Rep; rfl
theorem rbl (b : Bool) : Rep K M H (.bl b) (.bl b) := by unfold Rep; rfl
theorem rstr (s : Str) : Rep K M H (.str s) (.str s) := by unfold Rep; rfl
theorem rnon : Rep K M H .non .non := by unfold Rep; rfl
theorem rtup {ds : List D} {a : Addr} {xs : List V} (h : SqT K H a xs) (r : Reps K M H ds xs) : Rep K M H (.tup ds) (.ref a) := by unfold Rep; exact ⟨a, xs, rfl, h, r⟩
theorem rlst {ds : List D} {a : Addr} {xs : List V} (n : ¬ M a) (h : Rd H a (.lst xs)) (r : Reps K M H ds xs) : Rep K M H (.lst ds) (.ref a) := by unfold Rep; exact ⟨a, xs, rfl, n, h, r⟩
theorem rnil : Reps K M H [] [] := by unfold Reps; rfl
theorem rcons {d : D} {ds : List D} {v : V} {r : List V} (h : Rep K M H d v) (t : Reps K M H ds r) : Reps K M H (d :: ds) (v :: r) := by unfold Reps; exact ⟨v, r, rfl, h, t⟩
theorem int_of {i : Int} {v : V} (h : Rep K M H (.int i) v) : v = .int i := by unfold Rep at h; exact h
theorem bl_of {b : Bool} {v : V} (h : Rep K M H (.bl b) v) : v = .bl b := by unfold Rep at h; exact h
theorem str_of {s : Str} {v : V} (h : Rep K M H (.str s) v) : v = .str s := by unfold Rep at h; exact h
theorem non_of {v : V} (h : Rep K M H .non v) : v = .non := by unfold Rep at h; exact h
theorem tup_of {ds : List D} {v : V} (h : Rep K M H (.tup ds) v) : ∃ a xs, v = .ref a ∧ SqT K H a xs ∧ Reps K M H ds xs := by unfold Rep at h; exact h
theorem lst_of {ds : List D} {v : V} (h : Rep K M H (.lst ds) v) : ∃ a xs, v = .ref a ∧ ¬ M a ∧ Rd H a (.lst xs) ∧ Reps K M H ds xs := by unfold Rep at h; exact h
theorem ins_of {C : Addr} {ns : List Str} {ds : List D} {v : V} (h : Rep K M H (.ins C ns ds) v) : ∃ a dx fs, v = .ref a ∧ ¬ M a ∧ H a = some (.ins C dx fs) ∧ fs.map (·.1) = ns ∧ Reps K M H ds (fs.map (·.2)) := by unfold Rep at h; exact h
theorem rins {C a dx : Addr} {ns : List Str} {ds : List D} {fs : List (Str × V)} (n : ¬ M a) (h : H a = some (.ins C dx fs)) (e : fs.map (·.1) = ns) (r : Reps K M H ds (fs.map (·.2))) : Rep K M H (.ins C ns ds) (.ref a) := by unfold Rep; exact ⟨a, dx, fs, rfl, n, h, e, r⟩
theorem nil_of {xs : List V} (h : Reps K M H [] xs) : xs = [] := by unfold Reps at h; exact h
theorem cons_of {d : D} {ds : List D} {xs : List V} (h : Reps K M H (d :: ds) xs) : ∃ v r, xs = v :: r ∧ Rep K M H d v ∧ Reps K M H ds r := by unfold Reps at h; exact h
theorem Reps.len : ∀ {ds : List D} {xs : List V}, Reps K M H ds xs → xs.length = ds.length
  | [], _, h => by rw [nil_of h]; rfl
  | d :: ds, _, h => by
    obtain ⟨v, r, rfl, _, h⟩ := cons_of h
    simp [Reps.len h]
theorem Reps.at : ∀ {ds : List D} {xs : List V} {k : Nat} {d : D}, Reps K M H ds xs → ds[k]? = some d → ∃ v, xs[k]? = some v ∧ Rep K M H d v
  | [], _, _, _, _, e => by simp at e
  | d :: ds, _, 0, _, h, e => by
    obtain ⟨v, r, rfl, h1, _⟩ := cons_of h
    simp at e; subst e
    exact ⟨v, rfl, h1⟩
  | d :: ds, _, k + 1, _, h, e => by
    obtain ⟨v, r, rfl, _, h2⟩ := cons_of h
    obtain ⟨w, e1, e2⟩ := Reps.at (k := k) h2 (by simpa using e)
    exact ⟨w, by simpa using e1, e2⟩
theorem Reps.snoc {d : D} {v : V} : ∀ {ds : List D} {xs : List V}, Reps K M H ds xs → Rep K M H d v → Reps K M H (ds ++ [d]) (xs ++ [v])
  | [], _, h, r => by rw [nil_of h]; exact rcons r rnil
  | d0 :: ds, _, h, r => by
    obtain ⟨w, t, rfl, h1, h2⟩ := cons_of h
    exact rcons h1 (Reps.snoc h2 r)
theorem Reps.look : ∀ {fs : List (Str × V)} {ns : List Str} {ds : List D} {f : Str} {d : D}, fs.map (·.1) = ns → Reps K M H ds (fs.map (·.2)) → (ns.zip ds).lookup f = some d → ∃ v, fs.lookup f = some v ∧ Rep K M H d v
  | [], ns, ds, f, d, e, r, l => by
    subst e
    simp at l
  | (g, v) :: fs, ns, ds, f, d, e, r, l => by
    cases ds with
    | nil => simp at l
    | cons d0 ds =>
      obtain ⟨v', r', e', r1, r2⟩ := cons_of r
      cases e'
      subst e
      simp only [List.map_cons, List.zip_cons_cons, List.lookup_cons] at l ⊢
      by_cases hfg : (f == g) = true
      · rw [hfg] at l ⊢
        cases l
        exact ⟨v, rfl, r1⟩
      · have hfg' : (f == g) = false := by simpa using hfg
        rw [hfg'] at l ⊢
        exact Reps.look rfl r2 l
end
abbrev fr (x : Rat) : D := .tup [.int x.num, .int (x.den : Int)]
def Sz (n : Nat) (i : Int) : Prop := i.natAbs < 2 ^ n
theorem Sz.mono {a b : Nat} {i : Int} (h : Sz a i) (l : a ≤ b) : Sz b i := Nat.lt_of_lt_of_le h (Nat.pow_le_pow_right (by decide) l)
theorem Sz.mul {a b : Nat} {i j : Int} (h : Sz a i) (k : Sz b j) : Sz (a + b) (i * j) := L2.wide_lt h k
theorem Sz.add {a b : Nat} {i j : Int} (h : Sz a i) (k : Sz b j) : Sz (max a b + 1) (i + j) := by
  have h1 := h.mono (Nat.le_max_left a b)
  have h2 := k.mono (Nat.le_max_right a b)
  unfold Sz at *
  rw [Nat.pow_succ]
  have := Int.natAbs_add_le i j
  omega
theorem Sz.neg {a : Nat} {i : Int} (h : Sz a i) : Sz a (-i) := by unfold Sz at *; rwa [Int.natAbs_neg]
theorem Sz.sub {a b : Nat} {i j : Int} (h : Sz a i) (k : Sz b j) : Sz (max a b + 1) (i - j) := by
  rw [Int.sub_eq_add_neg]; exact h.add k.neg
def SzR (n : Nat) (x : Rat) : Prop := Sz n x.num ∧ Sz n (x.den : Int)
section
variable {K : PySem.W.Frag} {G : Bg} {H : Hp} {σ : L2.St} {te ta tb : TE} {Q : VK} {D' : Ends} {t u : TS}
theorem k_val {v : V} (h : Val te σ H v) (q : Q v H) : te σ H Q := h Q q
theorem same_upd {H : Hp} {p : Addr} {o : HO} (h : H p = none) : Same H (upd H p o) := fun b x e => by
  rw [upd_ne (ne_of_none e h)]; exact e
theorem v_op0 {g : Int → Int → V} {i j : Int} (ha : Val ta σ H (.int i)) (hb : Val tb σ H (.int j)) : Val (tOp (rI0 g) ta tb) σ H (g i j) := fun _ q => ha _ (hb _ ⟨i, j, rfl, rfl, q⟩)
theorem v_op {C : Int → Int → Prop} {g : Int → Int → V} {i j : Int} (ha : Val ta σ H (.int i)) (hb : Val tb σ H (.int j)) (c : C i j) : Val (tOp (rI C g) ta tb) σ H (g i j) := fun _ q => ha _ (hb _ ⟨i, j, rfl, rfl, c, q⟩)
theorem v_opB {g : Int → Int → Bool} {i j : Int} (ha : Val ta σ H (.int i)) (hb : Val tb σ H (.int j)) : Val (tOp (rI0 fun i j => .bl (g i j)) ta tb) σ H (.bl (g i j)) := fun _ q => ha _ (hb _ ⟨i, j, rfl, rfl, q⟩)
theorem a_test {b : Bool} (h : Val te σ H (.bl b)) : Ans (tTest te) σ H b := fun _ q => h _ ⟨b, rfl, q⟩
theorem k_seq (h : t { D' with nx := u D' } σ H) : tSeq t u D' σ H := h
theorem k_set {i : Nat} (h : te σ H fun v H1 => D'.nx (σ.set i (some v)) H1) : tAsg te (gName i) D' σ H := h
theorem k_ret (h : te σ H D'.rt) : tRet te D' σ H := h
theorem k_next (h : D'.nx σ H) : tNext D' σ H := h
end
section
variable {X : Cx}
def CDivU (_ j : Int) : Prop := j ≠ 0 ∧ j.natAbs.log2 < 9000
theorem op_fdivU : OpR X (binaryOp .FloorDiv) (rI CDivU fun i j => .int (i.fdiv j)) := opI fun _ _ _ _ _ _ _ hc q => floordiv_int hc.1 q (.inl (PyProof.noPylong_of_log2 hc.2))
end
theorem divU_of {i j : Int} {n : Nat} (h0 : j ≠ 0) (h : Sz n j) (hn : n ≤ 9000) : CDivU i j := by
  refine ⟨h0, ?_⟩
  have h1 : j.natAbs ≠ 0 := by omega
  rw [Nat.log2_lt h1]
  exact Nat.lt_of_lt_of_le h (Nat.pow_le_pow_right (by decide) hn)
/-- the mathematics: dividing by the signed common divisor -/
theorem frac_pos {p q : Int} (hq : 0 < q) : p.fdiv (Nat.gcd p.natAbs q.natAbs : Nat) = (Rat.divInt p q).num ∧ q.fdiv (Nat.gcd p.natAbs q.natAbs : Nat) = ((Rat.divInt p q).den : Int) := by
  have g0 : 0 < Nat.gcd p.natAbs q.natAbs := Nat.gcd_pos_of_pos_right _ (by omega)
  have eg : Int.gcd q p = Nat.gcd p.natAbs q.natAbs := by rw [Int.gcd_comm]; rfl
  constructor
  · rw [Rat.num_divInt, eg, Int.sign_eq_one_of_pos hq, Int.one_mul, Int.fdiv_eq_ediv_of_nonneg _ (by omega)]
  · rw [Rat.den_divInt, eg, if_neg (by omega), Int.fdiv_eq_ediv_of_nonneg _ (by omega)]
    rw [Int.natCast_ediv]
    congr 1
    omega
theorem frac_neg {p q : Int} (hq : q < 0) : p.fdiv (-(Nat.gcd p.natAbs q.natAbs : Nat)) = (Rat.divInt p q).num ∧ q.fdiv (-(Nat.gcd p.natAbs q.natAbs : Nat)) = ((Rat.divInt p q).den : Int) := by
  have h := @frac_pos (-p) (-q) (by omega)
  rw [Int.natAbs_neg, Int.natAbs_neg, Rat.neg_divInt_neg] at h
  have e1 : p.fdiv (-(Nat.gcd p.natAbs q.natAbs : Nat)) = (-p).fdiv (Nat.gcd p.natAbs q.natAbs : Nat) := by
    rw [← Int.neg_fdiv_neg, Int.neg_neg]
  have e2 : q.fdiv (-(Nat.gcd p.natAbs q.natAbs : Nat)) = (-q).fdiv (Nat.gcd p.natAbs q.natAbs : Nat) := by
    rw [← Int.neg_fdiv_neg, Int.neg_neg]
  rw [e1, e2]
  exact h
theorem gcd_sz {n : Nat} {p q : Int} (h : Sz n q) (hq : q ≠ 0) : Sz n (Nat.gcd p.natAbs q.natAbs : Nat) := by
  have : Nat.gcd p.natAbs q.natAbs ≤ q.natAbs := Nat.le_of_dvd (by omega) (Nat.gcd_dvd_right _ _)
  unfold Sz at *
  rw [Int.natAbs_natCast]
  omega
end Px
namespace Px
open PySem PySem.Spec PyProof.Rows L2
theorem vals_getD {i : Nat} : ∀ {vs : List V} {us : List Value}, Vals vs us → ∀ i, L2.RelV (vs.getD i .non) (us.getD i .none)
  | _, _, .nil, i => by simp [L2.RelV]
  | _, _, .cons r t, 0 => by simpa using r
  | _, _, .cons r t, i + 1 => by simpa using vals_getD (i := i) t i
theorem vals_perm {vs : List V} {us : List Value} (r : Vals vs us) : ∀ perm : List Nat, Vals (perm.map fun i => vs.getD i .non) (perm.map fun i => us.getD i .none)
  | [] => .nil
  | i :: l => .cons (vals_getD (i := i) r i) (vals_perm r l)
def permV (perm : List Nat) : List V → List V → List V := fun vs zs => perm.map fun i => (vs ++ zs).getD i .non
def permU (perm : List Nat) : List Value → List Value → List Value := fun vs zs => perm.map fun i => (vs ++ zs).getD i .none
theorem kbn_of {K : PySem.W.Frag} {fd : FuncData} {ps ks : List Str} {n : Nat} (perm : List Nat) (h : ∀ us ws : List Value, us.length = n → ws.length = ks.length → bindArgs fd ⟨us, ks.zip ws⟩ = pure (ps.zip (permU perm us ws))) :
    KBn K fd ps n ks (permU perm) (permV perm) := ⟨fun _ us ws _ l1 l2 => .of_eq (h us ws l1 l2), fun r1 r2 => vals_perm (r1.append r2) perm⟩
section
variable {K : PySem.W.Frag} {G : Bg} {H : Hp} {σ : L2.St} {te ta tb : TE} {Q : VK} {D' : Ends} {t u : TS} {M : Addr → Prop}
theorem dec_int (i j : Int) : decide (V.int i = V.int j) = decide (i = j) := by
  by_cases e : i = j
  · subst e; simp
  · rw [decide_eq_false e, decide_eq_false fun z => e (V.int.inj z)]
theorem f_eqI {i j : Int} (q : Q (.bl (decide (i = j))) H) : rEq (.int i) (.int j) H Q := ⟨rfl, by rw [dec_int]; exact q⟩
theorem v_eqI {i j : Int} (ha : Val ta σ H (.int i)) (hb : Val tb σ H (.int j)) : Val (tOp rEq ta tb) σ H (.bl (decide (i = j))) := fun _ q => ha _ (hb _ (f_eqI q))
def rAbs : List V → Hp → VK → Prop := fun xs H Q => ∃ i, xs = [.int i] ∧ Q (.int (if i < 0 then -i else i)) H
def rInt : List V → Hp → VK → Prop := fun xs H Q => (∃ i, xs = [.int i] ∧ Q (.int i) H) ∨ ∃ k, xs = [.bl k] ∧ Q (.int (if k then 1 else 0)) H
theorem abs_eq (i : Int) : (if i < 0 then -i else i) = ((i.natAbs : Nat) : Int) := by
  split <;> omega
theorem v_abs {i : Int} (h : Val ta σ H (.int i)) : Val (tCB rAbs (tCons ta tNil)) σ H (.int ((i.natAbs : Nat) : Int)) := fun _ q => h _ ⟨i, rfl, by rw [abs_eq]; exact q⟩
theorem v_int {i : Int} (h : Val ta σ H (.int i)) : Val (tCB rInt (tCons ta tNil)) σ H (.int i) := fun _ q => h _ (.inl ⟨i, rfl, q⟩)
theorem k_T {Q : Bool → Hp → Prop} (q : te σ H fun x H1 => ∃ c, x = .bl c ∧ Q c H1) : tTest te σ H Q := q
theorem k_ifX {c : TT} (q : c σ H fun b H1 => if b = true then t D' σ H1 else u D' σ H1) : tIfS c t u D' σ H := q
theorem k_ite {b : Bool} {A B : Prop} (h1 : b = true → A) (h2 : b = false → B) : if b = true then A else B := by
  cases b with
  | true => rw [if_pos rfl]; exact h1 rfl
  | false => rw [if_neg Bool.false_ne_true]; exact h2 rfl
end
theorem cmul {a b : Nat} {i j : Int} (h : Sz a i) (k : Sz b j) (l : a + b ≤ 900000) : CMulW i j := wide_mul (h.mono (Nat.le_succ a)) (k.mono (Nat.le_succ b)) (by omega) (by omega) (by omega)
theorem divInt_sz {n : Nat} {p q : Int} (hp : Sz n p) (hq : Sz n q) (h0 : q ≠ 0) : SzR n (Rat.divInt p q) := by
  have g0 : 0 < Int.gcd q p := Int.gcd_pos_of_ne_zero_left p h0
  constructor
  · rw [Rat.num_divInt]
    unfold Sz at *
    have h1 : (q.sign * p / (Int.gcd q p : Int)).natAbs ≤ (q.sign * p).natAbs := by
      rw [Int.natAbs_ediv_of_dvd]
      · exact Nat.div_le_self _ _
      · exact Int.dvd_mul_of_dvd_right (Int.gcd_dvd_right ..)
    rw [Int.natAbs_mul, Int.natAbs_sign_of_ne_zero h0, Nat.one_mul] at h1
    omega
  · rw [Rat.den_divInt, if_neg h0]
    unfold Sz at *
    rw [Int.natAbs_natCast]
    exact Nat.lt_of_le_of_lt (Nat.div_le_self _ _) hq
theorem den_ne (x : Rat) : ((x.den : Nat) : Int) ≠ 0 := by have := x.den_nz; omega
theorem rat_eq (x : Rat) : x = Rat.divInt x.num x.den := (Rat.num_divInt_den x).symm
theorem add_eq (x y : Rat) : x + y = Rat.divInt (x.num * y.den + y.num * x.den) (x.den * y.den) := by
  conv => lhs; rw [rat_eq x, rat_eq y, Rat.divInt_add_divInt _ _ (den_ne x) (den_ne y)]
theorem mul_eq (x y : Rat) : x * y = Rat.divInt (x.num * y.num) (x.den * y.den) := by
  conv => lhs; rw [rat_eq x, rat_eq y, Rat.divInt_mul_divInt]
theorem div_eq (x y : Rat) : x / y = Rat.divInt (x.num * y.den) (x.den * y.num) := by
  rw [Rat.div_def]
  conv => lhs; rw [rat_eq x, rat_eq y, Rat.inv_divInt, Rat.divInt_mul_divInt]
theorem den_mul_ne (x y : Rat) : ((x.den : Nat) : Int) * (y.den : Int) ≠ 0 := Int.mul_ne_zero (den_ne x) (den_ne y)
theorem SzR.mono {a b : Nat} {x : Rat} (h : SzR a x) (l : a ≤ b) : SzR b x := ⟨h.1.mono l, h.2.mono l⟩
theorem szr_add {a b n : Nat} {x y : Rat} (h : SzR a x) (k : SzR b y) (l : a + b + 1 ≤ n) : SzR n (x + y) := by
  rw [add_eq]
  exact divInt_sz (((h.1.mul k.2).add (k.1.mul h.2)).mono (by omega)) ((h.2.mul k.2).mono (by omega)) (den_mul_ne x y)
theorem szr_lit (n : Nat) (x : Rat) (h : (decide (x.num.natAbs < 2 ^ n) && decide (x.den < 2 ^ n)) = true := by decide +kernel) : SzR n x := by
  simp only [Bool.and_eq_true, decide_eq_true_eq] at h
  exact ⟨h.1, by unfold Sz; rw [Int.natAbs_natCast]; exact h.2⟩
theorem szr_neg {a : Nat} {x : Rat} (h : SzR a x) : SzR a (-x) := ⟨by rw [Rat.neg_num]; exact h.1.neg, by rw [Rat.neg_den]; exact h.2⟩
theorem szr_sub {a b n : Nat} {x y : Rat} (h : SzR a x) (k : SzR b y) (l : a + b + 1 ≤ n) : SzR n (x - y) := by
  rw [Rat.sub_eq_add_neg]; exact szr_add h (szr_neg k) l
theorem szr_mul {a b n : Nat} {x y : Rat} (h : SzR a x) (k : SzR b y) (l : a + b ≤ n) : SzR n (x * y) := by
  rw [mul_eq]
  exact divInt_sz ((h.1.mul k.1).mono l) ((h.2.mul k.2).mono l) (den_mul_ne x y)
theorem num_ne {y : Rat} (h : y ≠ 0) : y.num ≠ 0 := fun e => h (Rat.num_eq_zero.mp e)
theorem szr_div {a b n : Nat} {x y : Rat} (h : SzR a x) (k : SzR b y) (h0 : y ≠ 0) (l : a + b ≤ n) : SzR n (x / y) := by
  rw [div_eq]
  exact divInt_sz ((h.1.mul k.2).mono l) ((h.2.mul k.1).mono l) (Int.mul_ne_zero (den_ne x) (num_ne h0))
end Px
namespace Px
open PySem PySem.Spec PyProof.Rows L2
theorem Ex.imp {M M' : Addr → Prop} {H H' : Hp} (e : Ex M H H') (h : ∀ a, M a → M' a) : Ex M' H H' := fun a o q n => e a o q fun z => n (h a z)
def Bg.plus (G : Bg) (d : Addr) : Bg where
  M := fun a => G.M a ∨ a = d
  B := fun H => G.B H ∧ ∃ xs, H d = some (.lst xs)
  isl := fun H a b m => by
    rcases m with m | rfl
    · exact G.isl H a b.1 m
    · obtain ⟨_, xs, h⟩ := b
      exact .inl ⟨xs, h⟩
  st := fun H H' b s => ⟨G.st H H' b.1 s, let ⟨xs, h⟩ := b.2; ⟨xs, s _ _ h⟩⟩
  fr := fun H e b n H1 H2 b1 el x => ⟨G.fr H e b.1 n H1 H2 b1.1 el x, by
    obtain ⟨xs, h⟩ := b.2
    obtain ⟨ys, h1⟩ := b1.2
    exact ⟨ys, x _ _ h1 fun z => by subst z; rw [n] at h; cases h⟩⟩
section
variable {K : PySem.W.Frag} {G : Bg} {H H' : Hp} {M M' : Addr → Prop}
mutual
theorem Rep.widen (h : ∀ a o, H a = some o → M' a → M a) : ∀ {d : D} {v : V}, Rep K M H d v → Rep K M' H d v
  | .non, _, r => by unfold Rep at *; exact r
  | .bl _, _, r => by unfold Rep at *; exact r
  | .int _, _, r => by unfold Rep at *; exact r
  | .str _, _, r => by unfold Rep at *; exact r
  | .tup ds, v, r => by
    unfold Rep at *
    obtain ⟨a, xs, e1, e2, e3⟩ := r
    exact ⟨a, xs, e1, e2, Reps.widen h e3⟩
  | .lst ds, v, r => by
    unfold Rep at *
    obtain ⟨a, xs, e1, n, e2, e3⟩ := r
    have t : ∃ o, H a = some o := by
      rcases e2 with e | ⟨o, e⟩
      · exact ⟨_, e⟩
      · exact ⟨_, e⟩
    exact ⟨a, xs, e1, fun z => n (h _ _ t.choose_spec z), e2, Reps.widen h e3⟩
  | .ins C ns ds, v, r => by
    unfold Rep at *
    obtain ⟨a, dx, fs, e1, n, e2, e3, e4⟩ := r
    exact ⟨a, dx, fs, e1, fun z => n (h _ _ e2 z), e2, e3, Reps.widen h e4⟩
theorem Reps.widen (h : ∀ a o, H a = some o → M' a → M a) : ∀ {ds : List D} {xs : List V}, Reps K M H ds xs → Reps K M' H ds xs
  | [], _, r => by unfold Reps at *; exact r
  | d :: ds, xs, r => by
    unfold Reps at *
    obtain ⟨v, t, e1, e2, e3⟩ := r
    exact ⟨v, t, e1, Rep.widen h e2, Reps.widen h e3⟩
end
/-- a fact of before, within the making of the list at d -/
theorem Rep.enter {d : Addr} {x : D} {v : V} (hB : G.B H) (nd : H d = none) (r : Rep K G.M H x v) : Rep K (G.plus d).M (upd H d (.lst [])) x v := by
  have r1 : Rep K (G.plus d).M H x v := r.widen fun a o e m => by
    rcases m with m | rfl
    · exact m
    · rw [nd] at e; cases e
  refine r1.upC (fun a xs m h => ?_) (Ex.of (same_upd nd))
  rcases m with m | rfl
  · exact Bg.nt hB a xs m h
  · rcases h with h | ⟨o, h⟩ <;> (rw [nd] at h; cases h)
end
section
variable {K : PySem.W.Frag} {G : Bg} {H : Hp} {σ : L2.St} {te : TE} {Q : VK} {W : Addr → Prop}
/-- what holds while the list at d is being made -/
structure Mk1 (K : PySem.W.Frag) (G : Bg) (W : Addr → Prop) (H : Hp) (P : Nat → D → Prop) (d : Addr) (i : Nat) (H' : Hp) : Prop where
  a : ∃ acc ds, H' d = some (.lst acc) ∧ Reps K (G.plus d).M H' ds acc ∧ ds.length = i ∧ ∀ k x, ds[k]? = some x → P k x
  e : Ex W H H'
  b : G.B H'
theorem Mk1.start {P : Nat → D → Prop} {d : Addr} (hB : G.B H) (nd : H d = none) : Mk1 K G W H P d 0 (upd H d (.lst [])) :=
  ⟨⟨[], [], upd_same, rnil, rfl, fun k x h => by simp at h⟩, Ex.of (same_upd nd), G.st _ _ hB (same_upd nd)⟩
theorem Mk1.bp {P : Nat → D → Prop} {d : Addr} {i : Nat} {H' : Hp} (m : Mk1 K G W H P d i H') : (G.plus d).B H' := ⟨m.b, let ⟨acc, _, h, _⟩ := m.a; ⟨acc, h⟩⟩
theorem Mk1.step {P : Nat → D → Prop} {d : Addr} {i : Nat} {H' H4 : Hp} {x : D} {v : V} (hW : ∀ a, W a → G.M a) (hB : G.B H) (nd : H d = none) (hi : i < 1000) (m : Mk1 K G W H P d i H') (hp : P i x) (r : Rep K (G.plus d).M H4 x v) (e : Ex W H' H4) (b : (G.plus d).B H4) :
    ∃ acc, H4 d = some (.lst acc) ∧ acc.length < sizeLine ∧ Mk1 K G W H P d (i + 1) (upd H4 d (.lst (acc ++ [v]))) := by
  obtain ⟨acc, ds, h1, h2, h3, h4⟩ := m.a
  have nW : ¬ W d := fun z => by
    rcases G.isl H d hB (hW d z) with ⟨ys, hy⟩ | ⟨C, dx, fs, hy⟩ | ⟨tb, hy⟩ <;> (rw [nd] at hy; cases hy)
  have g1 : H4 d = some (.lst acc) := e _ _ h1 nW
  have hl : acc.length = i := by rw [h2.len, h3]
  have ch : Ex (fun a => a = d) H4 (upd H4 d (.lst (acc ++ [v]))) := fun a o h n => by rw [upd_ne n]; exact h
  have chp : Ex (G.plus d).M H4 (upd H4 d (.lst (acc ++ [v]))) := ch.imp fun a z => .inr z
  have eW : Ex (G.plus d).M H' H4 := e.imp fun a z => .inl (hW a z)
  refine ⟨acc, g1, by rw [hl]; exact Nat.lt_of_lt_of_le hi (by decide), ⟨⟨acc ++ [v], ds ++ [x], upd_same, ?_, by simp [h3], fun k y hk => ?_⟩, fun a o h n => ?_, G.fr H d hB nd _ _ b.1 ⟨_, g1⟩ ch⟩⟩
  · have r1 := (h2.up m.bp eW).up b chp
    have r2 := r.up b chp
    exact r1.snoc r2
  · by_cases hk1 : k < ds.length
    · rw [List.getElem?_append_left hk1] at hk
      exact h4 k y hk
    · rw [List.getElem?_append_right (by omega)] at hk
      cases q : k - ds.length with
      | zero =>
        rw [q] at hk
        have : k = i := by omega
        cases hk
        rw [this]
        exact hp
      | succ j => rw [q] at hk; simp at hk
  · have n1 : a ≠ d := ne_of_none h nd
    rw [upd_ne n1]
    exact e _ _ (m.e a o h n) n
end
end Px
namespace Px
open PySem PySem.Spec PyProof.Rows L2
section
variable {X : Cx} {CX : CXT} {k : Nat} {f C : Addr} {fd : FuncData} {ps : List Str} {sp : Sp} {E : XK}
def rOwn (C : Addr) (sp : Sp) (E : XK) : R2 := fun x y H Q => ∃ a dx fs b dy gs, x = .ref a ∧ y = .ref b ∧ H a = some (.ins C dx fs) ∧ H b = some (.ins C dy gs) ∧ sp [x, y] H Q E
theorem not_ni {v : V} {u : Value} (r : L2.RelV v u) : u ≠ .notImplemented := fun z => by
  subst z
  cases v <;> first | exact nomatch (show Value.notImplemented = _ from r) | (obtain ⟨t, e⟩ := (show ∃ t, Value.notImplemented = _ from r); exact nomatch e)
theorem back_of {Q : Value → Shared → Prop} {u : Value} {s : Shared} (n : u ≠ .notImplemented) (q : Q u s) : PySem.W.CmpBack Q u s := by
  unfold PySem.W.CmpBack
  split
  · exact n rfl
  · exact q
theorem op_own {op : Operator} (Fo : FnOk X.prog X.w X.K X.mg X.base CX k f fd ps sp) (room : Room k X.A) (hb : Binds X.K fd ps []) (px : Passes CX X E) (first : PySem.W.selfFirst X.K C = true)
    (at_ : PySem.W.findIn X.K (.ref C) (PySem.dunder op.info.2) = some (some (.ref f))) (isf : PySem.W.isFn X.K (.ref f) = true) : OpR X (binaryOp op) (rOwn C sp E) := by
  rintro pins s σ H x y u v Q I rx ry ⟨a, dx, fs, b, dy, gs, rfl, rfl, ha, hy, q⟩
  obtain rfl : u = Value.ref a := rx
  obtain rfl : v = Value.ref b := ry
  obtain ⟨m, F⟩ := I.fr
  obtain ⟨mA, O, _⟩ := ins_get I.hok ha
  obtain ⟨od, J, _⟩ := O.look
  obtain ⟨mB, O2, _⟩ := ins_get I.hok hy
  obtain ⟨od2, J2, _⟩ := O2.look
  refine PySem.W.binop_K F I.ok.mod.kin J J2.type first at_ isf ?_
  refine wpAny_mono (run_fn (us := [.ref a, .ref b]) (vs := [.ref a, .ref b]) (dvs := []) Fo room hb .nil px I (.cons rfl (.cons rfl .nil)) q) (fun r s' h => ?_) fun _ _ z => z
  obtain ⟨w', H', I', r', q'⟩ := h
  exact back_of (not_ni r') ⟨w', H', I', r', q'⟩
/-- C.m() of a static method -/
structure Stat (K : PySem.W.Frag) (C : Addr) (m : Str) (f : Addr) : Prop where
  rd : PySem.W.readsIn K C (.type "type") = true
  ga : PySem.W.specialIn K (.ref C) "__getattribute__" = some (some (.builtin "type.__getattribute__"))
  ty : PySem.W.typeIn K (.ref C) = some (.type "type")
  at_ : ∃ p rest, PySem.W.findCls K (.ref C) (.type "type") m = some (.get (.builtin "staticmethod.__get__") (.ref p) .none (.ref C)) ∧ PySem.W.recIn K p "staticmethod" = some (.ref f :: rest)
  kp : PySem.W.keepIn K (.ref f) = true
end
section
variable {X : Cx} {CX : CXT} {k : Nat} {f C : Addr} {fd : FuncData} {ps : List Str} {sp : Sp} {E : XK} {o : Expr} {m : Str} {apos pos : Pos} {ta : TE} {pl : Sem Bool}
def tStat0 (C : Addr) (sp : Sp) (E : XK) (ta : TE) : TE := fun σ H Q => ta σ H fun x H1 => x = .ref C ∧ sp [] H1 Q E
theorem pe_static0 (ho : PE X o ta) (st : Stat X.K C m f) (Fo : FnOk X.prog X.w X.K X.mg X.base CX k f fd ps sp) (room : Room k X.A) (hb : Binds X.K fd ps []) (px : Passes CX X E)
    (ht : eval (.Call (.Attribute o m apos) [] [] pos) X.env = (do
      let ov ← eval o X.env; standAt apos.atName; let (f, first) ← holding [ov] (getMethod ov m pl)
      callWith pos f first (backTo pos (starEach [] X.env)) (backToKw pos (keywordEach [] X.env))) := by rfl) :
    PE X (.Call (.Attribute o m apos) [] [] pos) (tStat0 C sp E ta) := by
  constructor; intro pins s σ H Q I h
  refine PySem.W.methodCall_KW (pl := pl) (thn (ho.run pins s σ H _ I h) ?_) ht
  rintro u s1 ⟨x, H1, I1, rx, rfl, q⟩
  obtain rfl : u = Value.ref C := rx
  obtain ⟨mm, F⟩ := I1.fr
  obtain ⟨p, rest, e1, e2⟩ := st.at_
  refine PySem.W.method_of_cls F I1.ok.mod.kin st.ga (PySem.W.cls_sm F I1.ok.mod.kin st.ty st.rd e1 e2 rfl ?_)
  exact PySem.W.callWith_K0 (first := []) I1.kIn st.kp (run_fn (us := []) (vs := []) (dvs := []) Fo room hb .nil px (I1.tok _) .nil q)
end
def tyN : D → String
  | .non => "NoneType"
  | .bl _ => "bool"
  | .int _ => "int"
  | .str _ => "str"
  | .tup _ => "tuple"
  | .lst _ => "list"
  | .ins _ _ _ => ""
section
variable {K : PySem.W.Frag} {M : Addr → Prop} {H : Hp} {σ : L2.St} {te ta tb : TE} {Q : VK} {v : V} {d : D}
theorem tyx_of (r : Rep K M H d v) (n : ∀ C ns ds, d ≠ .ins C ns ds) : TyX K H v (.type (tyN d)) := by
  cases d with
  | non => rw [non_of r]; exact .base .non
  | bl b => rw [bl_of r]; exact .base (.bl b)
  | int i => rw [int_of r]; exact .base (.int i)
  | str s => rw [str_of r]; exact .base (.str s)
  | tup ds =>
    obtain ⟨a, xs, rfl, h, _⟩ := tup_of r
    rcases h with (h | ⟨o, h⟩) | ⟨o, its, n, h1, h2, _⟩
    · exact .base (.tup h)
    · exact .fTuple h
    · exact .kTuple h1 h2
  | lst ds =>
    obtain ⟨a, xs, rfl, _, h, _⟩ := lst_of r
    rcases h with h | ⟨o, h⟩
    · exact .base (.lst h)
    · exact .base (.frz h)
  | ins C ns ds => exact absurd rfl (n C ns ds)
end
end Px
namespace Px
open PySem PySem.Spec PyProof.Rows L2
def gNames : List Nat → TGs
  | [] => gNil
  | i :: is => gCons (gName i) (gNames is)
def setAll : L2.St → List Nat → List V → L2.St
  | σ, i :: is, w :: ws => setAll (σ.set i (some w)) is ws
  | σ, _, _ => σ
theorem f_names : ∀ {is : List Nat} {ws : List V} {σ : L2.St} {H : Hp} {Q : L2.St → Hp → Prop}, ws.length = is.length → Q (setAll σ is ws) H → gNames is ws σ H Q
  | [], [], _, _, _, _, q => ⟨rfl, q⟩
  | i :: is, w :: ws, σ, H, Q, e, q => ⟨w, ws, rfl, f_names (is := is) (ws := ws) (by simpa using e) q⟩
  | [], _ :: _, _, _, _, e, _ => by simp at e
  | _ :: _, [], _, _, _, e, _ => by simp at e
section
variable {K : PySem.W.Frag} {M : Addr → Prop} {H : Hp} {σ : L2.St} {v : V} {ds : List D} {Q : L2.St → Hp → Prop}
theorem look_none {fs : List (Str × V)} {m : Str} (h : m ∉ fs.map (·.1)) : fs.lookup m = none := by
  induction fs with
  | nil => rfl
  | cons p fs ih =>
    obtain ⟨f, x⟩ := p
    simp only [List.map_cons, List.mem_cons, not_or] at h
    rw [List.lookup_cons, show (m == f) = false by simpa using h.1]
    exact ih h.2
end
end Px
namespace Px
open PySem PySem.Spec PyProof.Rows L2
mutual
def toPd : D → PyData
  | .non => .none
  | .bl b => .bool b
  | .int i => .int i
  | .str s => .str s
  | .tup ds => .tuple (toPds ds)
  | .lst ds => .list (toPds ds)
  | .ins _ _ _ => .none
def toPds : List D → List PyData
  | [] => []
  | d :: ds => toPd d :: toPds ds
end
mutual
/-- no instances within -/
def plain : D → Bool
  | .ins _ _ _ => false
  | .tup ds => plains ds
  | .lst ds => plains ds
  | _ => true
def plains : List D → Bool
  | [] => true
  | d :: ds => plain d && plains ds
end
section
variable {K : PySem.W.Frag} {M : Addr → Prop} {H : Hp}
mutual
theorem dp_of : ∀ {d : D} {v : V}, plain d = true → Rep K M H d v → Dp K H v (toPd d)
  | .non, _, _, r => by rw [non_of r]; unfold toPd; exact .non
  | .bl b, _, _, r => by rw [bl_of r]; unfold toPd; exact .bl b
  | .int i, _, _, r => by rw [int_of r]; unfold toPd; exact .int i
  | .str s, _, _, r => by rw [str_of r]; unfold toPd; exact .str s
  | .tup ds, _, p, r => by
    obtain ⟨a, xs, rfl, h, rs⟩ := tup_of r
    unfold toPd
    unfold plain at p
    exact .tup h (dps_of p rs)
  | .lst ds, _, p, r => by
    obtain ⟨a, xs, rfl, _, h, rs⟩ := lst_of r
    unfold toPd
    unfold plain at p
    exact .lst (.inl h) (dps_of p rs)
  | .ins C ns ds, _, p, r => by unfold plain at p; cases p
theorem dps_of : ∀ {ds : List D} {vs : List V}, plains ds = true → Reps K M H ds vs → DpAll K H vs (toPds ds)
  | [], _, _, r => by rw [nil_of r]; unfold toPds; exact .nil
  | d :: ds, _, p, r => by
    obtain ⟨v, vs, rfl, r1, r2⟩ := cons_of r
    unfold toPds
    unfold plains at p
    rw [Bool.and_eq_true] at p
    exact .cons (dp_of p.1 r1) (dps_of p.2 r2)
end
end
/-- what isinstance asks of a class -/
structure IsiC (K : PySem.W.Frag) (C : Addr) : Prop where
  cl : Cls K C
  ha : PySem.W.findIn K (.ref C) "__class__" = some (some (.builtin "object.__class__"))
  hn : PySem.W.specialIn K (.builtin "object.__class__") "__get__" = some (some (.builtin "getset_descriptor.__get__"))
  htk : PySem.W.takesIn K (.builtin "object.__class__") = some true
  hm : PySem.W.mroIn K C (.type "object") = some true
  kit : PySem.W.kitOne K (.ref C) (.ref C) = some true
section
variable {K : PySem.W.Frag} {M : Addr → Prop} {H : Hp} {σ : L2.St} {te ta tb : TE} {Q : VK} {v : V} {d : D}
theorem reps_bl {bs : List Bool} : ∀ {xs : List V}, Reps K M H (bs.map .bl) xs → xs = bs.map .bl := by
  induction bs with
  | nil => exact fun r => nil_of r
  | cons b bs ih =>
    intro xs r
    obtain ⟨w, ws, rfl, r1, r2⟩ := cons_of r
    rw [bl_of r1, ih r2]
    rfl
def noneD : D → Bool
  | .non => true
  | _ => false
/-- is None, is not None: of what stands for a datum -/
theorem is_non (r : Rep K M H d v) : decide (v = .non) = noneD d := by
  cases d with
  | non => have e := non_of r; subst e; rfl
  | bl b => have e := bl_of r; subst e; rfl
  | int i => have e := int_of r; subst e; rfl
  | str s => have e := str_of r; subst e; rfl
  | tup ds => obtain ⟨a, xs, rfl, _⟩ := tup_of r; rfl
  | lst ds => obtain ⟨a, xs, rfl, _⟩ := lst_of r; rfl
  | ins C ns ds => obtain ⟨a, dx, fs, rfl, _⟩ := ins_of r; rfl
variable {G : Bg}
theorem Reps.take : ∀ {ds : List D} {xs : List V} (n : Nat), Reps K M H ds xs → Reps K M H (ds.take n) (xs.take n)
  | _, _, 0, _ => by rw [List.take_zero, List.take_zero]; exact rnil
  | [], _, n + 1, r => by rw [nil_of r]; exact rnil
  | d :: ds, _, n + 1, r => by
    obtain ⟨w, ws, rfl, r1, r2⟩ := cons_of r
    exact rcons r1 (Reps.take n r2)
end
end Px
namespace Px
open PySem PySem.Spec PyProof.Rows L2 RZ
end Px
namespace Px
open PySem PySem.Spec PyProof.Rows L2
section
variable {K : PySem.W.Frag} {M : Addr → Prop} {H : Hp} {σ : L2.St} {te ta tb : TE} {Q : VK} {v : V} {d : D}
variable {G : Bg}
theorem Reps.app {M : Addr → Prop} {H : Hp} : ∀ {ds es : List D} {xs ys : List V}, Reps K M H ds xs → Reps K M H es ys → Reps K M H (ds ++ es) (xs ++ ys)
  | [], _, _, _, h, r => by rw [nil_of h]; exact r
  | d :: ds, _, _, _, h, r => by
    obtain ⟨w, t, rfl, h1, h2⟩ := cons_of h
    exact rcons h1 (Reps.app h2 r)
theorem Reps.drop {M : Addr → Prop} {H : Hp} : ∀ {ds : List D} {xs : List V} (n : Nat), Reps K M H ds xs → Reps K M H (ds.drop n) (xs.drop n)
  | _, _, 0, r => by rw [List.drop_zero, List.drop_zero]; exact r
  | [], _, n + 1, r => by rw [nil_of r]; exact rnil
  | d :: ds, _, n + 1, r => by
    obtain ⟨w, ws, rfl, r1, r2⟩ := cons_of r
    exact Reps.drop n r2
end
end Px
namespace Px
open PySem PySem.Spec PyProof.Rows L2
/-- the value is a list made between the two heaps (or no address) -/
def Own (H H' : Hp) (v : V) : Prop := ∀ p, v = .ref p → H p = none ∧ ∃ xs, H' p = some (.lst xs)
theorem none_back {H0 H : Hp} {p : Addr} (s : Same H0 H) (n : H p = none) : H0 p = none := by
  cases h : H0 p with
  | none => rfl
  | some o =>
    have h1 := s _ _ h
    rw [n] at h1
    cases h1
theorem Own.at {H0 H H' H2 : Hp} {v : V} (f : Own H H' v) (s : Same H0 H) (s' : Same H' H2) : Own H0 H2 v := fun p e => by
  obtain ⟨n, xs, h⟩ := f p e
  exact ⟨none_back s n, xs, s' _ _ h⟩
end Px
namespace Px
open PySem PySem.Spec PyProof.Rows L2
section
variable {K : PySem.W.Frag} {G : Bg} {H : Hp} {σ : L2.St} {te ta tb : TE} {Q : VK} {W : Addr → Prop} {v : V}
theorem ty_list {M : Addr → Prop} {ds : List D} (r : Rep K M H (.lst ds) v) : tyV K "list" v H := by
  obtain ⟨a, xs, rfl, _, hs, rs⟩ := lst_of r
  exact .inl ⟨rfl, xs, .inl hs⟩
variable {D' : Ends} {tbs : TS}
end
end Px
namespace Px
open PySem PySem.Spec PyProof.Rows L2
end Px
namespace Px
open PySem PySem.Spec PyProof.Rows L2
end Px
namespace Px
open PySem PySem.Spec PyProof.Rows L2
end Px
set_option maxHeartbeats 2000000
namespace Px
open PySem PySem.Spec PyProof.Rows L2 LamX
end Px
set_option maxHeartbeats 2000000
namespace Px
open PySem PySem.Spec PyProof.Rows L2 LamX
section
variable {X : Cx} {pins : List (Addr × Obj)} {σ : L2.St} {H : Hp} {s : Shared}
/-- all but the tables of T stays -/
def ExtT (T : List (Addr × Str)) (H H' : Hp) : Prop := ∀ b o, H b = some o → (∀ q, (b, q) ∉ T) → H' b = some o
end
end Px
set_option maxHeartbeats 2000000
namespace Px
open PySem PySem.Spec PyProof.Rows L2 LamX
end Px
set_option maxHeartbeats 2000000
namespace Px
open PySem PySem.Spec PyProof.Rows L2 LamX
end Px
set_option maxHeartbeats 2000000
namespace Px
open PySem PySem.Spec PyProof.Rows L2 LamX
structure TabG (T : List (Addr × Str)) (G : Bg) : Prop where
  m : ∀ p ∈ T, G.M p.1
  ok : ∀ H, G.B H → Tabs T H
  stb : ∀ H H', G.B H → ExtT T H H' → Tabs T H' → G.B H'
section
variable {T : List (Addr × Str)} {G : Bg} {H H' : Hp} {K : PySem.W.Frag}
theorem TabG.ex (t : TabG T G) (e : ExtT T H H') : Ex G.M H H' := fun a o h n => e a o h fun q hm => n (t.m _ hm)
theorem TabG.plus {d : Addr} (t : TabG T G) (hB : G.B H) (nd : H d = none) : TabG T (G.plus d) where
  m := fun p hp => .inl (t.m p hp)
  ok := fun H' b => t.ok H' b.1
  stb := fun H1 H2 b e tb => ⟨t.stb H1 H2 b.1 e tb, by
    obtain ⟨xs, h⟩ := b.2
    exact ⟨xs, e _ _ h fun q hm => by
      obtain ⟨ps, hP, _⟩ := t.ok H hB _ hm
      rw [nd] at hP
      cases hP⟩⟩
/-- all but the tables stays -/
def onT (T : List (Addr × Str)) : Addr → Prop := fun a => ∃ q, (a, q) ∈ T
theorem Ex.ext (e : Ex (onT T) H H') : ExtT T H H' := fun a o h n => e a o h fun ⟨q, hm⟩ => n q hm
end
end Px
set_option maxHeartbeats 2000000
namespace Px
open PySem PySem.Spec PyProof.Rows L2 He
structure ErrD where
  cls : Str
  params : Arguments
  body : List Stmt
  scope : Scope
abbrev FnC : Type := Option (Str × Str × Arguments × FuncBody × Scope × Addr × List Str × Addr)
def ErrD.val (d : ErrD) : FnC := some ("__init__", d.cls ++ ".__init__", d.params, .stmts d.body, d.scope, mainGlobals, ["__class__"], builtinsNs)
end Px
set_option maxHeartbeats 2000000
namespace Px
open PySem PySem.Spec PyProof.Rows L2 He
theorem fun_of {K : PySem.W.Frag} {x qual : Str} {st : Stmt} {f : Addr} {fd : FuncData} {ks : List (Str × V)} (F : FunD K x qual (defArgs st) (defBody st) (defScope st) [] ks f fd) : Fun K x qual st f fd := by
  obtain ⟨oc, od, dV, kV, doc, pm, an, cdv, ct, osl, e, lk, hc, hD, _⟩ := F.ex
  rcases hD with ⟨_, rfl⟩ | ⟨h, _⟩
  · exact ⟨⟨oc, od, kV, doc, pm, an, cdv, ct, osl, e, lk, hc⟩, F.kp⟩
  · exact absurd rfl h
end Px
namespace Dw
open PySem PySem.Spec PyProof.Rows L2
inductive D where
  | non
  | bl (b : Bool)
  | int (i : Int)
  | str (s : Str)
  | tup (xs : List D)
  | lst (xs : List D)
  | ins (C : Addr) (ns : List Str) (ds : List D)
  | dK (ks : List Key) (ds : List D)
  | dT (ks : List (List Key)) (ds : List D)
  | val (v : V)
  /-- a lambda at f, its code at c, told q; σ, ρ: what its maker's names stand for -/
  | fn (f c : Addr) (q : Str) (σ : List (Option V)) (ρ : List (Option D))
  /-- the law's script -/
  | scr (ns : List Int)
  /-- an exception object at a, held as a value: its class, its attributes -/
  | exc (a C : Addr) (ns : List Str) (ds : List D)
/-- what stands at an address that may change -/
inductive MC where
  | lst (xs : List D)
  | ins (C : Addr) (ns : List Str) (ds : List D)
  | dK (ks : List Key) (ds : List D)
  | dT (ks : List (List Key)) (ds : List D)
  | bag (c : Addr) (ns : List Int)
abbrev Sto := Addr → Option MC
def Sto.put (S : Sto) (a : Addr) (m : MC) : Sto := fun b => if b = a then some m else S b
def Sto.del (S : Sto) (a : Addr) : Sto := fun b => if b = a then none else S b
/-- an exception object of the class at C, its dict at dx -/
def ExV (C dx a : Addr) : HO := .ext fun h => ∃ (oe : Obj) (vs : Array Value), h.get? a = some oe ∧ Zc (.ref C) (some dx) oe ∧ oe.data = .fields vs
section
variable (K : PySem.W.Frag) (M : Addr → Prop) (H : Hp)
mutual
/-- the value v stands for the datum -/
def Rep : D → V → Prop
  | .non, v => v = .non
  | .bl b, v => v = .bl b
  | .int i, v => v = .int i
  | .str s, v => v = .str s
  | .tup ds, v => ∃ a xs, v = .ref a ∧ SqT K H a xs ∧ Reps ds xs
  | .lst ds, v => ∃ a xs, v = .ref a ∧ ¬ M a ∧ H a = some (.lst xs) ∧ Reps ds xs
  | .ins C ns ds, v => ∃ a dx fs, v = .ref a ∧ ¬ M a ∧ H a = some (.ins C dx fs) ∧ fs.map (·.1) = ns ∧ Reps ds (fs.map (·.2))
  | .dK ks ds, v => ∃ a kvs, v = .ref a ∧ ¬ M a ∧ Rd H a (.dK kvs) ∧ kvs.map (·.1) = ks ∧ Reps ds (kvs.map (·.2))
  | .dT ks ds, v => ∃ a kvs, v = .ref a ∧ ¬ M a ∧ Rd H a (.dT kvs) ∧ kvs.map (·.1) = ks ∧ Reps ds (kvs.map (·.2))
  | .val x, v => v = x
  | .fn f c q σ ρ, v => v = .ref f ∧ ¬ M c ∧ H c = some (LamX.CodeO c q) ∧ RepO ρ σ
  | .scr ns, v => ∃ a, v = .ref a ∧ ((Rd H a (.lst (ns.map V.int)) ∧ ¬ M a) ∨ ∃ (o : Obj) (its : Array Value) (n : Nat), K.lookup a = some o ∧ o.cls = .type "list" ∧ o.dict = none ∧ o.data = .seq its n ∧ its.size ≤ sizeLine ∧ Vals (ns.map V.int) its.toList)
  | .exc a C ns ds, v => v = .ref a ∧ ¬ M a ∧ ∃ dx fs, H a = some (ExV C dx a) ∧ ¬ M dx ∧ H dx = some (.xd fs) ∧ fs.map (·.1) = ns ∧ Reps ds (fs.map (·.2))
def RepO : List (Option D) → List (Option V) → Prop
  | [], σ => σ = []
  | none :: r, σ => ∃ v σ', σ = v :: σ' ∧ RepO r σ'
  | some d :: r, σ => ∃ w σ', σ = some w :: σ' ∧ Rep d w ∧ RepO r σ'
def Reps : List D → List V → Prop
  | [], xs => xs = []
  | d :: ds, xs => ∃ v r, xs = v :: r ∧ Rep d v ∧ Reps ds r
end
end
section
variable {K : PySem.W.Frag} {M M' : Addr → Prop} {H H' : Hp}
theorem rint (i : Int) : Rep K M H (.int i) (.int i) := by unfold Rep; rfl
theorem rbl (b : Bool) : Rep K M H (.bl b) (.bl b) := by unfold Rep; rfl
theorem rstr (s : Str) : Rep K M H (.str s) (.str s) := by unfold Rep; rfl
theorem rnon : Rep K M H .non .non := by unfold Rep; rfl
theorem rval (v : V) : Rep K M H (.val v) v := by unfold Rep; rfl
theorem rtup {ds : List D} {a : Addr} {xs : List V} (h : SqT K H a xs) (r : Reps K M H ds xs) : Rep K M H (.tup ds) (.ref a) := by unfold Rep; exact ⟨a, xs, rfl, h, r⟩
theorem rlst {ds : List D} {a : Addr} {xs : List V} (n : ¬ M a) (h : H a = some (.lst xs)) (r : Reps K M H ds xs) : Rep K M H (.lst ds) (.ref a) := by unfold Rep; exact ⟨a, xs, rfl, n, h, r⟩
theorem rdK {ks : List Key} {ds : List D} {a : Addr} {kvs : List (Key × V)} (n : ¬ M a) (h : Rd H a (.dK kvs)) (e : kvs.map (·.1) = ks) (r : Reps K M H ds (kvs.map (·.2))) : Rep K M H (.dK ks ds) (.ref a) := by unfold Rep; exact ⟨a, kvs, rfl, n, h, e, r⟩
theorem rdT {ks : List (List Key)} {ds : List D} {a : Addr} {kvs : List (List Key × V)} (n : ¬ M a) (h : Rd H a (.dT kvs)) (e : kvs.map (·.1) = ks) (r : Reps K M H ds (kvs.map (·.2))) : Rep K M H (.dT ks ds) (.ref a) := by unfold Rep; exact ⟨a, kvs, rfl, n, h, e, r⟩
theorem rins {C a dx : Addr} {ns : List Str} {ds : List D} {fs : List (Str × V)} (n : ¬ M a) (h : H a = some (.ins C dx fs)) (e : fs.map (·.1) = ns) (r : Reps K M H ds (fs.map (·.2))) : Rep K M H (.ins C ns ds) (.ref a) := by unfold Rep; exact ⟨a, dx, fs, rfl, n, h, e, r⟩
theorem rnil : Reps K M H [] [] := by unfold Reps; rfl
theorem rcons {d : D} {ds : List D} {v : V} {r : List V} (h : Rep K M H d v) (t : Reps K M H ds r) : Reps K M H (d :: ds) (v :: r) := by unfold Reps; exact ⟨v, r, rfl, h, t⟩
theorem int_of {i : Int} {v : V} (h : Rep K M H (.int i) v) : v = .int i := by unfold Rep at h; exact h
theorem bl_of {b : Bool} {v : V} (h : Rep K M H (.bl b) v) : v = .bl b := by unfold Rep at h; exact h
theorem str_of {s : Str} {v : V} (h : Rep K M H (.str s) v) : v = .str s := by unfold Rep at h; exact h
theorem non_of {v : V} (h : Rep K M H .non v) : v = .non := by unfold Rep at h; exact h
theorem val_of {x v : V} (h : Rep K M H (.val x) v) : v = x := by unfold Rep at h; exact h
theorem tup_of {ds : List D} {v : V} (h : Rep K M H (.tup ds) v) : ∃ a xs, v = .ref a ∧ SqT K H a xs ∧ Reps K M H ds xs := by unfold Rep at h; exact h
theorem lst_of {ds : List D} {v : V} (h : Rep K M H (.lst ds) v) : ∃ a xs, v = .ref a ∧ ¬ M a ∧ H a = some (.lst xs) ∧ Reps K M H ds xs := by unfold Rep at h; exact h
theorem ins_of {C : Addr} {ns : List Str} {ds : List D} {v : V} (h : Rep K M H (.ins C ns ds) v) : ∃ a dx fs, v = .ref a ∧ ¬ M a ∧ H a = some (.ins C dx fs) ∧ fs.map (·.1) = ns ∧ Reps K M H ds (fs.map (·.2)) := by unfold Rep at h; exact h
theorem dK_of {ks : List Key} {ds : List D} {v : V} (h : Rep K M H (.dK ks ds) v) : ∃ a kvs, v = .ref a ∧ ¬ M a ∧ Rd H a (.dK kvs) ∧ kvs.map (·.1) = ks ∧ Reps K M H ds (kvs.map (·.2)) := by unfold Rep at h; exact h
theorem dT_of {ks : List (List Key)} {ds : List D} {v : V} (h : Rep K M H (.dT ks ds) v) : ∃ a kvs, v = .ref a ∧ ¬ M a ∧ Rd H a (.dT kvs) ∧ kvs.map (·.1) = ks ∧ Reps K M H ds (kvs.map (·.2)) := by unfold Rep at h; exact h
theorem fn_of {f c : Addr} {q : Str} {σ : List (Option V)} {ρ : List (Option D)} {v : V} (h : Rep K M H (.fn f c q σ ρ) v) : v = .ref f ∧ ¬ M c ∧ H c = some (LamX.CodeO c q) ∧ RepO K M H ρ σ := by unfold Rep at h; exact h
theorem scr_of {ns : List Int} {v : V} (h : Rep K M H (.scr ns) v) : ∃ a, v = .ref a ∧ SqL K H a (ns.map V.int) := by
  unfold Rep at h
  obtain ⟨a, e, h⟩ := h
  exact ⟨a, e, h.imp (fun z => z.1) id⟩
theorem rscr {ns : List Int} {a : Addr} (n : (∃ o, H a = some o) → ¬ M a) (h : SqL K H a (ns.map V.int)) : Rep K M H (.scr ns) (.ref a) := by
  unfold Rep
  exact ⟨a, rfl, h.imp (fun z => ⟨z, n (by rcases z with z | ⟨o, z⟩ <;> exact ⟨_, z⟩)⟩) id⟩
theorem exc_of {a C : Addr} {ns : List Str} {ds : List D} {v : V} (h : Rep K M H (.exc a C ns ds) v) : v = .ref a ∧ ¬ M a ∧ ∃ dx fs, H a = some (ExV C dx a) ∧ ¬ M dx ∧ H dx = some (.xd fs) ∧ fs.map (·.1) = ns ∧ Reps K M H ds (fs.map (·.2)) := by unfold Rep at h; exact h
theorem nil_of {xs : List V} (h : Reps K M H [] xs) : xs = [] := by unfold Reps at h; exact h
theorem cons_of {d : D} {ds : List D} {xs : List V} (h : Reps K M H (d :: ds) xs) : ∃ v r, xs = v :: r ∧ Rep K M H d v ∧ Reps K M H ds r := by unfold Reps at h; exact h
/-- what does not change stands as it was, and does not begin to -/
def Keeps (M M' : Addr → Prop) (H H' : Hp) : Prop := ∀ a o, H a = some o → ¬ M a → H' a = some o ∧ ¬ M' a
def NoTup (M : Addr → Prop) (H : Hp) : Prop := ∀ a xs, M a → ¬ Rd H a (.tup xs)
theorem rd_keep {a : Addr} {u : HO} (e : Keeps M M' H H') (n : ¬ M a) (h : Rd H a u) : Rd H' a u ∧ ¬ M' a := by
  rcases h with h | ⟨o, h⟩
  · exact ⟨.inl (e _ _ h n).1, (e _ _ h n).2⟩
  · exact ⟨.inr ⟨o, (e _ _ h n).1⟩, (e _ _ h n).2⟩
theorem sqT_keep {a : Addr} {xs : List V} (c : NoTup M H) (e : Keeps M M' H H') (h : SqT K H a xs) : SqT K H' a xs := by
  rcases h with h | h
  · exact .inl (rd_keep e (fun m => c a xs m h) h).1
  · exact .inr h
mutual
theorem Rep.keep (b : NoTup M H) (e : Keeps M M' H H') : ∀ {d : D} {v : V}, Rep K M H d v → Rep K M' H' d v
  | .non, _, h => by unfold Rep at *; exact h
  | .bl _, _, h => by unfold Rep at *; exact h
  | .int _, _, h => by unfold Rep at *; exact h
  | .str _, _, h => by unfold Rep at *; exact h
  | .val _, _, h => by unfold Rep at *; exact h
  | .tup ds, v, h => by
    unfold Rep at *
    obtain ⟨a, xs, e1, e2, e3⟩ := h
    exact ⟨a, xs, e1, sqT_keep b e e2, Reps.keep b e e3⟩
  | .lst ds, v, h => by
    unfold Rep at *
    obtain ⟨a, xs, e1, n, e2, e3⟩ := h
    exact ⟨a, xs, e1, (e _ _ e2 n).2, (e _ _ e2 n).1, Reps.keep b e e3⟩
  | .dK ks ds, v, h => by
    unfold Rep at *
    obtain ⟨a, xs, e1, n, e2, e3, e4⟩ := h
    exact ⟨a, xs, e1, (rd_keep e n e2).2, (rd_keep e n e2).1, e3, Reps.keep b e e4⟩
  | .dT ks ds, v, h => by
    unfold Rep at *
    obtain ⟨a, xs, e1, n, e2, e3, e4⟩ := h
    exact ⟨a, xs, e1, (rd_keep e n e2).2, (rd_keep e n e2).1, e3, Reps.keep b e e4⟩
  | .ins C ns ds, v, h => by
    unfold Rep at *
    obtain ⟨a, dx, fs, e1, n, e2, e3, e4⟩ := h
    exact ⟨a, dx, fs, e1, (e _ _ e2 n).2, (e _ _ e2 n).1, e3, Reps.keep b e e4⟩
  | .fn f c q σ ρ, v, h => by
    unfold Rep at *
    obtain ⟨e1, n, e2, e3⟩ := h
    exact ⟨e1, (e _ _ e2 n).2, (e _ _ e2 n).1, RepO.keep b e e3⟩
  | .scr ns, v, h => by
    unfold Rep at *
    obtain ⟨a, e1, h⟩ := h
    rcases h with ⟨h, n⟩ | h
    · exact ⟨a, e1, .inl (rd_keep e n h)⟩
    · exact ⟨a, e1, .inr h⟩
  | .exc a C ns ds, v, h => by
    unfold Rep at *
    obtain ⟨e1, n, dx, fs, e2, n2, e3, e4, e5⟩ := h
    exact ⟨e1, (e _ _ e2 n).2, dx, fs, (e _ _ e2 n).1, (e _ _ e3 n2).2, (e _ _ e3 n2).1, e4, Reps.keep b e e5⟩
theorem RepO.keep (b : NoTup M H) (e : Keeps M M' H H') : ∀ {ρ : List (Option D)} {σ : List (Option V)}, RepO K M H ρ σ → RepO K M' H' ρ σ
  | [], _, h => by unfold RepO at *; exact h
  | none :: r, σ, h => by
    unfold RepO at *
    obtain ⟨v, σ', e1, e2⟩ := h
    exact ⟨v, σ', e1, RepO.keep b e e2⟩
  | some d :: r, σ, h => by
    unfold RepO at *
    obtain ⟨w, σ', e1, e2, e3⟩ := h
    exact ⟨w, σ', e1, Rep.keep b e e2, RepO.keep b e e3⟩
theorem Reps.keep (b : NoTup M H) (e : Keeps M M' H H') : ∀ {ds : List D} {xs : List V}, Reps K M H ds xs → Reps K M' H' ds xs
  | [], _, h => by unfold Reps at *; exact h
  | d :: ds, xs, h => by
    unfold Reps at *
    obtain ⟨v, r, e1, e2, e3⟩ := h
    exact ⟨v, r, e1, Rep.keep b e e2, Reps.keep b e e3⟩
end
theorem Reps.len : ∀ {ds : List D} {xs : List V}, Reps K M H ds xs → xs.length = ds.length
  | [], _, h => by rw [nil_of h]; rfl
  | d :: ds, _, h => by
    obtain ⟨v, r, rfl, _, h⟩ := cons_of h
    simp [Reps.len h]
theorem Reps.at : ∀ {ds : List D} {xs : List V} {k : Nat} {d : D}, Reps K M H ds xs → ds[k]? = some d → ∃ v, xs[k]? = some v ∧ Rep K M H d v
  | [], _, _, _, _, e => by simp at e
  | d :: ds, _, 0, _, h, e => by
    obtain ⟨v, r, rfl, h1, _⟩ := cons_of h
    simp at e; subst e
    exact ⟨v, rfl, h1⟩
  | d :: ds, _, k + 1, _, h, e => by
    obtain ⟨v, r, rfl, _, h2⟩ := cons_of h
    obtain ⟨w, e1, e2⟩ := Reps.at (k := k) h2 (by simpa using e)
    exact ⟨w, by simpa using e1, e2⟩
theorem Reps.snoc {d : D} {v : V} : ∀ {ds : List D} {xs : List V}, Reps K M H ds xs → Rep K M H d v → Reps K M H (ds ++ [d]) (xs ++ [v])
  | [], _, h, r => by rw [nil_of h]; exact rcons r rnil
  | d0 :: ds, _, h, r => by
    obtain ⟨w, t, rfl, h1, h2⟩ := cons_of h
    exact rcons h1 (Reps.snoc h2 r)
theorem Reps.app : ∀ {ds es : List D} {xs ys : List V}, Reps K M H ds xs → Reps K M H es ys → Reps K M H (ds ++ es) (xs ++ ys)
  | [], _, _, _, h, r => by rw [nil_of h]; exact r
  | d :: ds, _, _, _, h, r => by
    obtain ⟨w, t, rfl, h1, h2⟩ := cons_of h
    exact rcons h1 (Reps.app h2 r)
theorem Reps.take : ∀ {ds : List D} {xs : List V} (n : Nat), Reps K M H ds xs → Reps K M H (ds.take n) (xs.take n)
  | _, _, 0, _ => by rw [List.take_zero, List.take_zero]; exact rnil
  | [], _, n + 1, r => by rw [nil_of r]; exact rnil
  | d :: ds, _, n + 1, r => by
    obtain ⟨w, ws, rfl, r1, r2⟩ := cons_of r
    exact rcons r1 (Reps.take n r2)
theorem Reps.drop : ∀ {ds : List D} {xs : List V} (n : Nat), Reps K M H ds xs → Reps K M H (ds.drop n) (xs.drop n)
  | _, _, 0, r => by rw [List.drop_zero, List.drop_zero]; exact r
  | [], _, n + 1, r => by rw [nil_of r]; exact rnil
  | d :: ds, _, n + 1, r => by
    obtain ⟨w, ws, rfl, r1, r2⟩ := cons_of r
    exact Reps.drop n r2
theorem Reps.set : ∀ {ds : List D} {xs : List V} (k : Nat) {d : D} {v : V}, Reps K M H ds xs → Rep K M H d v → Reps K M H (ds.set k d) (xs.set k v)
  | [], _, _, _, _, h, _ => by rw [nil_of h]; exact rnil
  | d0 :: ds, _, 0, _, _, h, r => by
    obtain ⟨w, t, rfl, _, h2⟩ := cons_of h
    exact rcons r h2
  | d0 :: ds, _, k + 1, _, _, h, r => by
    obtain ⟨w, t, rfl, h1, h2⟩ := cons_of h
    exact rcons h1 (Reps.set k h2 r)
theorem Reps.look : ∀ {fs : List (Str × V)} {ns : List Str} {ds : List D} {f : Str} {d : D}, fs.map (·.1) = ns → Reps K M H ds (fs.map (·.2)) → (ns.zip ds).lookup f = some d → ∃ v, fs.lookup f = some v ∧ Rep K M H d v
  | [], ns, ds, f, d, e, r, l => by
    subst e
    simp at l
  | (g, v) :: fs, ns, ds, f, d, e, r, l => by
    cases ds with
    | nil => simp at l
    | cons d0 ds =>
      obtain ⟨v', r', e', r1, r2⟩ := cons_of r
      cases e'
      subst e
      simp only [List.map_cons, List.zip_cons_cons, List.lookup_cons] at l ⊢
      by_cases hfg : (f == g) = true
      · rw [hfg] at l ⊢
        cases l
        exact ⟨v, rfl, r1⟩
      · have hfg' : (f == g) = false := by simpa using hfg
        rw [hfg'] at l ⊢
        exact Reps.look rfl r2 l
end
def bagL (c : Addr) (i x y z : Int) : List V := [.ref c, .int i, .int x, .int y, .int z]
structure BagAt (K : PySem.W.Frag) (b c : Addr) (ns : List Int) (i x y z : Int) (H : Hp) : Prop where
  ne : c ≠ b
  cells : SqL K H c (ns.map V.int)
  i0 : 0 ≤ i
  x0 : 0 ≤ x
  y0 : 0 ≤ y
  y1 : y < 2147483423
def BagOk (K : PySem.W.Frag) (b c : Addr) (ns : List Int) (H : Hp) : Prop := ∃ i x y z, H b = some (.lst (bagL c i x y z)) ∧ BagAt K b c ns i x y z H
/-- tables of code objects, that may grow; lists that are being made, which nobody but their maker sees -/
structure Gx where
  tab : List (Addr × Str)
  busy : List Addr
/-- what may change -/
def Mv (T : Gx) (S : Sto) : Addr → Prop := fun a => (∃ m, S a = some m) ∨ Px.onT T.tab a
/-- what no datum stands at -/
def Mu (T : Gx) (S : Sto) : Addr → Prop := fun a => Mv T S a ∨ a ∈ T.busy
section
variable (K : PySem.W.Frag) (T : Gx)
def OkM (S : Sto) (H : Hp) (a : Addr) : MC → Prop
  | .lst ds => ∃ xs, H a = some (.lst xs) ∧ Reps K (Mu T S) H ds xs
  | .ins C ns ds => ∃ dx fs, H a = some (.ins C dx fs) ∧ fs.map (·.1) = ns ∧ Reps K (Mu T S) H ds (fs.map (·.2))
  | .dK ks ds => ∃ kvs, H a = some (.dK kvs) ∧ kvs.map (·.1) = ks ∧ Reps K (Mu T S) H ds (kvs.map (·.2))
  | .dT ks ds => ∃ kvs, H a = some (.dT kvs) ∧ kvs.map (·.1) = ks ∧ Reps K (Mu T S) H ds (kvs.map (·.2))
  | .bag c ns => ∃ i x y z, H a = some (.lst (bagL c i x y z)) ∧ BagAt K a c ns i x y z H ∧ Rd H c (.lst (ns.map V.int)) ∧ ¬ Mu T S c
structure Ok (S : Sto) (H : Hp) : Prop where
  tabs : LamX.Tabs T.tab H
  bus : ∀ a ∈ T.busy, (∃ xs, H a = some (.lst xs)) ∧ S a = none
  cel : ∀ a m, S a = some m → OkM K T S H a m
def Step (S : Sto) (H : Hp) (S' : Sto) (H' : Hp) : Prop := Keeps (Mv T S) (Mv T S') H H'
end
section
variable {K : PySem.W.Frag} {T : Gx} {S S' S2 : Sto} {H H' H2 : Hp}
theorem Step.refl (S : Sto) (H : Hp) : Step T S H S H := fun a o h n => ⟨h, n⟩
theorem Step.trans (a : Step T S H S' H') (b : Step T S' H' S2 H2) : Step T S H S2 H2 := fun x o h n => b x o (a x o h n).1 (a x o h n).2
theorem Step.mu (st : Step T S H S' H') : Keeps (Mu T S) (Mu T S') H H' := fun a o h n => ⟨(st a o h fun z => n (.inl z)).1, fun z => z.elim (st a o h fun z => n (.inl z)).2 fun z => n (.inr z)⟩
theorem Ok.kind (k : Ok K T S H) {a : Addr} (m : Mu T S a) : (∃ xs, H a = some (.lst xs)) ∨ (∃ C dx fs, H a = some (.ins C dx fs)) ∨ (∃ ps, H a = some (.tbl ps)) ∨ (∃ kvs, H a = some (.dK kvs)) ∨ ∃ kvs, H a = some (.dT kvs) := by
  rcases m with (⟨m, h⟩ | ⟨q, h⟩) | h
  · have c := k.cel a m h
    cases m with
    | lst ds => obtain ⟨xs, e, _⟩ := c; exact .inl ⟨xs, e⟩
    | ins C ns ds => obtain ⟨dx, fs, e, _⟩ := c; exact .inr (.inl ⟨C, dx, fs, e⟩)
    | dK ks ds => obtain ⟨kvs, e, _⟩ := c; exact .inr (.inr (.inr (.inl ⟨kvs, e⟩)))
    | dT ks ds => obtain ⟨kvs, e, _⟩ := c; exact .inr (.inr (.inr (.inr ⟨kvs, e⟩)))
    | bag c ns => obtain ⟨i, x, y, z, e, _⟩ := c; exact .inl ⟨_, e⟩
  · obtain ⟨ps, e, _⟩ := k.tabs _ h
    exact .inr (.inr (.inl ⟨ps, e⟩))
  · exact .inl (k.bus a h).1
theorem Ok.nt (k : Ok K T S H) : NoTup (Mu T S) H := fun a xs m h => by
  rcases k.kind m with ⟨_, e⟩ | ⟨_, _, _, e⟩ | ⟨_, e⟩ | ⟨_, e⟩ | ⟨_, e⟩ <;> rcases h with h | ⟨o, h⟩ <;> (rw [e] at h; cases h)
theorem Ok.there (k : Ok K T S H) {a : Addr} (m : Mu T S a) : H a ≠ none := fun z => by
  rcases k.kind m with ⟨_, e⟩ | ⟨_, _, _, e⟩ | ⟨_, e⟩ | ⟨_, e⟩ | ⟨_, e⟩ <;> (rw [z] at e; cases e)
theorem Ok.new (k : Ok K T S H) {a : Addr} (n : H a = none) : ¬ Mu T S a := fun m => k.there m n
theorem Ok.off (k : Ok K T S H) {a : Addr} (m : ∃ c, S a = some c) : ¬ Px.onT T.tab a := fun ⟨q, hq⟩ => by
  obtain ⟨c, hc⟩ := m
  obtain ⟨ps, e, _⟩ := k.tabs _ hq
  have x := k.cel a c hc
  cases c with
  | lst ds => obtain ⟨xs, e2, _⟩ := x; rw [e] at e2; cases e2
  | ins C ns ds => obtain ⟨dx, fs, e2, _⟩ := x; rw [e] at e2; cases e2
  | dK ks ds => obtain ⟨kvs, e2, _⟩ := x; rw [e] at e2; cases e2
  | dT ks ds => obtain ⟨kvs, e2, _⟩ := x; rw [e] at e2; cases e2
  | bag c ns => obtain ⟨i, x, y, z, e2, _⟩ := x; rw [e] at e2; cases e2
theorem Rep.step (k : Ok K T S H) (st : Step T S H S' H') {d : D} {v : V} (r : Rep K (Mu T S) H d v) : Rep K (Mu T S') H' d v := r.keep k.nt st.mu
theorem Reps.step (k : Ok K T S H) (st : Step T S H S' H') {ds : List D} {vs : List V} (r : Reps K (Mu T S) H ds vs) : Reps K (Mu T S') H' ds vs := r.keep k.nt st.mu
/-- a new object that does not change -/
theorem OkM.keep (k : Ok K T S H) (st : Step T S H S' H') {a : Addr} {m : MC} (h : OkM K T S H a m) (e : H' a = H a) : OkM K T S' H' a m := by
  cases m with
  | lst ds => obtain ⟨xs, e1, r⟩ := h; exact ⟨xs, by rw [e]; exact e1, r.step k st⟩
  | ins C ns ds => obtain ⟨dx, fs, e1, e2, r⟩ := h; exact ⟨dx, fs, by rw [e]; exact e1, e2, r.step k st⟩
  | dK ks ds => obtain ⟨kvs, e1, e2, r⟩ := h; exact ⟨kvs, by rw [e]; exact e1, e2, r.step k st⟩
  | dT ks ds => obtain ⟨kvs, e1, e2, r⟩ := h; exact ⟨kvs, by rw [e]; exact e1, e2, r.step k st⟩
  | bag c ns =>
    obtain ⟨i, x, y, z, e1, A, hc, nc⟩ := h
    have q := rd_keep st.mu nc hc
    exact ⟨i, x, y, z, by rw [e]; exact e1, ⟨A.ne, .inl q.1, A.i0, A.x0, A.y0, A.y1⟩, q.1, q.2⟩
theorem step_new {p : Addr} {o : HO} (n : H p = none) : Step T S H S (upd H p o) := fun a u e q => by
  rw [upd_ne (ne_of_none e n)]
  exact ⟨e, q⟩
/-- a new object, which is not going to change -/
theorem Ok.laid (k : Ok K T S H) {p : Addr} {o : HO} (n : H p = none) : Ok K T S (upd H p o) := by
  have s : Same H (upd H p o) := Px.same_upd n
  refine ⟨k.tabs.ext s, fun a h => ⟨let ⟨xs, e⟩ := (k.bus a h).1; ⟨xs, s _ _ e⟩, (k.bus a h).2⟩, fun a m h => (k.cel a m h).keep k (step_new n) ?_⟩
  exact upd_ne fun z => k.there (.inl (.inl ⟨m, h⟩)) (by rw [z]; exact n)
theorem put_same {S : Sto} {a : Addr} {m : MC} : S.put a m a = some m := by unfold Sto.put; rw [if_pos rfl]
theorem put_ne {S : Sto} {a b : Addr} {m : MC} (h : b ≠ a) : S.put a m b = S b := by unfold Sto.put; rw [if_neg h]
theorem del_same {S : Sto} {a : Addr} : S.del a a = none := by unfold Sto.del; rw [if_pos rfl]
theorem del_ne {S : Sto} {a b : Addr} (h : b ≠ a) : S.del a b = S b := by unfold Sto.del; rw [if_neg h]
theorem step_put {p : Addr} {o : HO} {m : MC} (n : H p = none ∨ Mv T S p) : Step T S H (S.put p m) (upd H p o) := fun a u e q => by
  have ne : a ≠ p := fun z => by
    subst z
    rcases n with n | n
    · rw [n] at e; cases e
    · exact q n
  rw [upd_ne ne]
  refine ⟨e, fun z => ?_⟩
  rcases z with ⟨c, z⟩ | z
  · rw [put_ne ne] at z; exact q (.inl ⟨c, z⟩)
  · exact q (.inr z)
/-- what stood at p may be read of the new store, once it is said of the old one's reader -/
theorem Ok.put (k : Ok K T S H) {p : Addr} {o : HO} {m : MC} (n : H p = none ∨ ∃ c, S p = some c) (hm : OkM K T (S.put p m) (upd H p o) p m) : Ok K T (S.put p m) (upd H p o) := by
  have n' : H p = none ∨ Mv T S p := n.imp id .inl
  have st : Step T S H (S.put p m) (upd H p o) := step_put n'
  refine ⟨fun q hq => ?_, fun a h => ?_, fun a c h => ?_⟩
  rotate_left
  · obtain ⟨⟨xs, e⟩, e2⟩ := k.bus a h
    have ne : a ≠ p := fun z => by
      subst z
      rcases n with n | ⟨c, n⟩
      · rw [n] at e; cases e
      · rw [n] at e2; cases e2
    exact ⟨⟨xs, by rw [upd_ne ne]; exact e⟩, by rw [put_ne ne]; exact e2⟩
  rotate_left
  · obtain ⟨ps, h1, h2, h3⟩ := k.tabs q hq
    have nT : ∀ a u, H a = some u → (∀ xs, u ≠ .lst xs) → (∀ C dx fs, u ≠ .ins C dx fs) → (∀ x, u ≠ .dK x) → (∀ x, u ≠ .dT x) → a ≠ p := fun a u e z1 z2 z3 z4 z => by
      subst z
      rcases n with n | ⟨c, hc⟩
      · rw [n] at e; cases e
      · have x := k.cel a c hc
        cases c with
        | lst ds => obtain ⟨xs, e2, _⟩ := x; rw [e] at e2; cases e2; exact z1 _ rfl
        | ins C ns ds => obtain ⟨dx, fs, e2, _⟩ := x; rw [e] at e2; cases e2; exact z2 _ _ _ rfl
        | dK ks ds => obtain ⟨kvs, e2, _⟩ := x; rw [e] at e2; cases e2; exact z3 _ rfl
        | dT ks ds => obtain ⟨kvs, e2, _⟩ := x; rw [e] at e2; cases e2; exact z4 _ rfl
        | bag c ns => obtain ⟨i, x, y, z, e2, _⟩ := x; rw [e] at e2; cases e2; exact z1 _ rfl
    refine ⟨ps, by rw [upd_ne (nT _ _ h1 (by intro _ z; cases z) (by intro _ _ _ z; cases z) (by intro _ z; cases z) (by intro _ z; cases z))]; exact h1, h2, fun pos cv hc => ?_⟩
    obtain ⟨c, e1, e2⟩ := h3 pos cv hc
    refine ⟨c, e1, ?_⟩
    rw [upd_ne (nT _ _ e2 (by intro _ z; unfold LamX.CodeO at z; cases z) (by intro _ _ _ z; unfold LamX.CodeO at z; cases z) (by intro _ z; unfold LamX.CodeO at z; cases z) (by intro _ z; unfold LamX.CodeO at z; cases z))]
    exact e2
  · by_cases z : a = p
    · subst z
      rw [put_same] at h
      cases h
      exact hm
    · rw [put_ne z] at h
      exact (k.cel a c h).keep k st (upd_ne z)
theorem step_del {p : Addr} : Step T S H (S.del p) H := fun a u e q => ⟨e, fun z => by
  rcases z with ⟨c, z⟩ | z
  · by_cases h : a = p
    · subst h; rw [del_same] at z; cases z
    · rw [del_ne h] at z; exact q (.inl ⟨c, z⟩)
  · exact q (.inr z)⟩
/-- it changes no more -/
theorem Ok.del (k : Ok K T S H) (p : Addr) : Ok K T (S.del p) H := ⟨k.tabs, fun a h => ⟨(k.bus a h).1, by
  by_cases z : a = p
  · subst z; exact del_same
  · rw [del_ne z]; exact (k.bus a h).2⟩, fun a m h => by
  have ne : a ≠ p := fun z => by subst z; rw [del_same] at h; cases h
  rw [del_ne ne] at h
  exact (k.cel a m h).keep k step_del rfl⟩
theorem mu_del (k : Ok K T S H) {p : Addr} (h : ∃ c, S p = some c) : ¬ Mu T (S.del p) p := fun z => by
  rcases z with (⟨c, z⟩ | z) | z
  · rw [del_same] at z; cases z
  · exact k.off h z
  · obtain ⟨c, h⟩ := h
    rw [(k.bus p z).2] at h; cases h
end
end Dw
namespace Dw
open PySem PySem.Spec PyProof.Rows L2
abbrev Lc := List (Option D)
structure Exc where
  cls : Addr
  ns : List Str
  ds : List D
abbrev Xp := Exc → Sto → Prop
abbrev W (α : Type) := Sto → (α → Sto → Prop) → Xp → Prop
abbrev DE := Lc → W D
abbrev DA := Lc → W (List D)
abbrev DT := Lc → W Bool
structure Pst where
  nx : Lc → Sto → Prop
  rt : D → Sto → Prop
  bk : Lc → Sto → Prop := fun _ _ => False
  ct : Lc → Sto → Prop := fun _ _ => False
  xp : Xp
abbrev DS := Lc → Sto → Pst → Prop
def noX : Xp := fun _ _ => False
section
variable (K : PySem.W.Frag) (T : Gx)
def RepL (M : Addr → Prop) (H : Hp) : Lc → L2.St → Prop
  | [], σ => σ = []
  | d :: ρ, σ => ∃ v σ', σ = v :: σ' ∧ (∀ x, d = some x → ∃ w, v = some w ∧ Rep K M H x w) ∧ RepL M H ρ σ'
def PostD {α β : Type} (R : (Addr → Prop) → Hp → α → β → Prop) (S : Sto) (H : Hp) (post : α → Sto → Prop) (Q : β → Hp → Prop) : Prop :=
  ∀ d S' v H', post d S' → R (Mu T S') H' d v → Ok K T S' H' → Step T S H S' H' → Q v H'
def RepX (M : Addr → Prop) (H : Hp) (x : Exc) (cv : Value) (od : Option Addr) : Prop :=
  ∃ dd fs, cv = .ref x.cls ∧ od = some dd ∧ H dd = some (.xd fs) ∧ fs.map (·.1) = x.ns ∧ Reps K M H x.ds (fs.map (·.2))
def ExI (E : XK) (S : Sto) (H : Hp) (xp : Xp) : Prop := ∀ x S' cv od H', xp x S' → RepX K (Mu T S') H' x cv od → Ok K T S' H' → Step T S H S' H' → E cv od H'
def tG (E : XK) {α β : Type} (R : (Addr → Prop) → Hp → α → β → Prop) (f : Lc → W α) : L2.St → Hp → (β → Hp → Prop) → Prop := fun σ H Q =>
  ∃ ρ S post xp, RepL K (Mu T S) H ρ σ ∧ Ok K T S H ∧ f ρ S post xp ∧ PostD K T R S H post Q ∧ ExI K T E S H xp
abbrev tE (E : XK) (f : DE) : TE := tG K T E (Rep K) f
abbrev tA (E : XK) (f : DA) : TA := tG K T E (Reps K) f
abbrev tB (E : XK) (f : DT) : TT := tG K T E (fun _ _ (b c : Bool) => b = c) f
def tS (E : XK) (f : DS) : TS := fun Dd σ H => ∃ ρ S p, RepL K (Mu T S) H ρ σ ∧ Ok K T S H ∧ f ρ S p ∧ PostD K T (RepL K) S H p.nx Dd.nx ∧ PostD K T (Rep K) S H p.rt Dd.rt ∧ PostD K T (RepL K) S H p.bk Dd.bk ∧ PostD K T (RepL K) S H p.ct Dd.ct ∧ ExI K T E S H p.xp
end
section
variable {K : PySem.W.Frag} {T : Gx} {E : XK} {S S' : Sto} {H H' : Hp} {M : Addr → Prop}
theorem RepL.step (k : Ok K T S H) (st : Step T S H S' H') : ∀ {ρ : Lc} {σ : L2.St}, RepL K (Mu T S) H ρ σ → RepL K (Mu T S') H' ρ σ
  | [], _, h => h
  | d :: ρ, σ, h => by
    obtain ⟨v, σ', e, h1, h2⟩ := h
    exact ⟨v, σ', e, fun x ex => let ⟨w, e1, r⟩ := h1 x ex; ⟨w, e1, r.step k st⟩, RepL.step k st h2⟩
theorem RepL.len : ∀ {ρ : Lc} {σ : L2.St}, RepL K M H ρ σ → σ.length = ρ.length
  | [], _, h => by rw [show _ = [] from h]; rfl
  | d :: ρ, _, h => by
    obtain ⟨v, σ', rfl, _, h⟩ := h
    simp [RepL.len h]
theorem RepL.at : ∀ {ρ : Lc} {σ : L2.St} {i : Nat} {d : D}, RepL K M H ρ σ → ρ[i]? = some (some d) → ∃ v, σ[i]? = some (some v) ∧ Rep K M H d v
  | [], _, _, _, _, e => by simp at e
  | d0 :: ρ, _, 0, d, h, e => by
    obtain ⟨v, σ', rfl, h1, _⟩ := h
    simp at e; subst e
    obtain ⟨w, rfl, r⟩ := h1 _ rfl
    exact ⟨w, rfl, r⟩
  | d0 :: ρ, _, i + 1, d, h, e => by
    obtain ⟨v, σ', rfl, _, h2⟩ := h
    obtain ⟨w, e1, r⟩ := RepL.at (i := i) h2 (by simpa using e)
    exact ⟨w, by simpa using e1, r⟩
theorem RepL.set : ∀ {ρ : Lc} {σ : L2.St} (i : Nat) {d : D} {v : V}, RepL K M H ρ σ → Rep K M H d v → RepL K M H (ρ.set i (some d)) (σ.set i (some v))
  | [], _, _, _, _, h, _ => by rw [show _ = [] from h]; rfl
  | d0 :: ρ, _, 0, d, v, h, r => by
    obtain ⟨v0, σ', rfl, h1, h2⟩ := h
    exact ⟨some v, σ', rfl, fun x e => ⟨v, rfl, by cases e; exact r⟩, h2⟩
  | d0 :: ρ, _, i + 1, d, v, h, r => by
    obtain ⟨v0, σ', rfl, h1, h2⟩ := h
    exact ⟨v0, σ'.set i (some v), rfl, h1, RepL.set i h2 r⟩
theorem RepL.nones : ∀ (n : Nat), RepL K M H (List.replicate n (none : Option D)) (List.replicate n (none : Option V))
  | 0 => rfl
  | n + 1 => ⟨none, _, rfl, fun _ e => (by cases e), RepL.nones n⟩
theorem RepL.app : ∀ {ρ ρ' : Lc} {σ σ' : L2.St}, RepL K M H ρ σ → RepL K M H ρ' σ' → RepL K M H (ρ ++ ρ') (σ ++ σ')
  | [], _, _, _, h, h' => by rw [show _ = [] from h]; exact h'
  | d :: ρ, _, _, _, h, h' => by
    obtain ⟨v, σ1, rfl, h1, h2⟩ := h
    exact ⟨v, σ1 ++ _, rfl, h1, RepL.app h2 h'⟩
theorem RepL.of_reps : ∀ {ds : List D} {vs : List V}, Reps K M H ds vs → RepL K M H (ds.map some) (vs.map some)
  | [], _, h => by rw [nil_of h]; rfl
  | d :: ds, _, h => by
    obtain ⟨v, r, rfl, h1, h2⟩ := cons_of h
    exact ⟨some v, _, rfl, fun x e => ⟨v, rfl, by cases e; exact h1⟩, RepL.of_reps h2⟩
theorem PostD.from {α β : Type} {R : (Addr → Prop) → Hp → α → β → Prop} {S1 : Sto} {H1 : Hp} {post : α → Sto → Prop} {Q : β → Hp → Prop} (h : PostD K T R S H post Q) (st : Step T S H S1 H1) : PostD K T R S1 H1 post Q :=
  fun d S' v H' p r k s => h d S' v H' p r k (st.trans s)
theorem ExI.from {S1 : Sto} {H1 : Hp} {xp : Xp} (h : ExI K T E S H xp) (st : Step T S H S1 H1) : ExI K T E S1 H1 xp := fun x S' cv od H' p r k s => h x S' cv od H' p r k (st.trans s)
theorem PostD.now {α β : Type} {R : (Addr → Prop) → Hp → α → β → Prop} {post : α → Sto → Prop} {Q : β → Hp → Prop} {d : α} {v : β} (h : PostD K T R S H post Q) (k : Ok K T S H) (p : post d S) (r : R (Mu T S) H d v) : Q v H := h d S v H p r k (Step.refl _ _)
theorem noX_ex : ExI K T E S H noX := fun _ _ _ _ _ p => p.elim
end
section
variable {X : Cx} {e : Expr}
theorem pe_imp {t t' : TE} (h : PE X e t) (i : ∀ σ H Q, t' σ H Q → t σ H Q) : PE X e t' := ⟨fun pins s σ H Q I q => h.run pins s σ H Q I (i σ H Q q)⟩
theorem pt_imp {t t' : TT} (h : PT X e t) (i : ∀ σ H Q, t' σ H Q → t σ H Q) : PT X e t' := ⟨fun pins s σ H Q I q => h.run pins s σ H Q I (i σ H Q q)⟩
theorem pw_imp {t t' : TT} (h : PW X e t) (i : ∀ σ H Q, t' σ H Q → t σ H Q) : PW X e t' := ⟨fun wh pins s σ H Q I q => h.run wh pins s σ H Q I (i σ H Q q)⟩
theorem pa_imp {es : List Expr} {t t' : TA} (h : PA X es t) (i : ∀ σ H Q, t' σ H Q → t σ H Q) : PA X es t' := ⟨fun ps pins s σ H Q I q => h.run ps pins s σ H Q I (i σ H Q q)⟩
theorem ps_imp {st : Stmt} {t t' : TS} (h : PS X st t) (i : ∀ Dd σ H, t' Dd σ H → t Dd σ H) : PS X st t' := ⟨fun pins s σ H Dd I q => h.run pins s σ H Dd I (i Dd σ H q)⟩
theorem pss_imp {st : List Stmt} {t t' : TS} (h : PSs X st t) (i : ∀ Dd σ H, t' Dd σ H → t Dd σ H) : PSs X st t' := ⟨fun pins s σ H Dd I q => h.run pins s σ H Dd I (i Dd σ H q)⟩
end
def dPure (d : D) : DE := fun _ S post _ => post d S
def dVar (i : Nat) : DE := fun ρ S post _ => match ρ[i]? with
  | some (some d) => post d S
  | _ => False
def dNil : DA := fun _ S post _ => post [] S
def dCons (f : DE) (g : DA) : DA := fun ρ S post xp => f ρ S (fun d S1 => g ρ S1 (fun ds S2 => post (d :: ds) S2) xp) xp
def dArgs : List DE → DA
  | [] => dNil
  | f :: fs => dCons f (dArgs fs)
def dTup (fs : List DE) : DE := fun ρ S post xp => dArgs fs ρ S (fun ds S' => post (.tup ds) S') xp
def dLst (fs : List DE) : DE := fun ρ S post xp => dArgs fs ρ S (fun ds S' => post (.lst ds) S') xp
/-- a new list that is going to change -/
def dLstM (fs : List DE) : DE := fun ρ S post xp => dArgs fs ρ S (fun ds S' => ∀ a, S' a = none → post (.val (.ref a)) (S'.put a (.lst ds))) xp
def dOp (o : D → D → W D) (a b : DE) : DE := fun ρ S post xp => a ρ S (fun x S1 => b ρ S1 (fun y S2 => o x y S2 post xp) xp) xp
def dUn (o : D → W D) (a : DE) : DE := fun ρ S post xp => a ρ S (fun x S1 => o x S1 post xp) xp
def dApp (g : List D → W D) (f : DA) : DE := fun ρ S post xp => f ρ S (fun ds S1 => g ds S1 post xp) xp
def dIf (c : DT) (a b : DE) : DE := fun ρ S post xp => c ρ S (fun k S1 => if k = true then a ρ S1 post xp else b ρ S1 post xp) xp
def dtVal (f : DE) : DT := fun ρ S post xp => f ρ S (fun d S' => match d with
  | .bl b => post b S'
  | _ => False) xp
def dtNot (c : DT) : DT := fun ρ S post xp => c ρ S (fun b S' => post (!b) S') xp
def dtAnd (a b : DT) : DT := fun ρ S post xp => a ρ S (fun k S1 => if k = true then b ρ S1 post xp else post false S1) xp
def dtOr (a b : DT) : DT := fun ρ S post xp => a ρ S (fun k S1 => if k = true then post true S1 else b ρ S1 post xp) xp
def dAnd (a b : DE) : DE := fun ρ S post xp => a ρ S (fun d S1 => match d with
  | .bl true => b ρ S1 post xp
  | .bl false => post (.bl false) S1
  | _ => False) xp
def dNot (a : DE) : DE := fun ρ S post xp => a ρ S (fun d S1 => match d with
  | .bl b => post (.bl (!b)) S1
  | _ => False) xp
theorem dArgs_len : ∀ (fs : List DE) (ρ : Lc) (S : Sto) (post : List D → Sto → Prop) (xp : Xp), dArgs fs ρ S post xp = dArgs fs ρ S (fun ds S' => ds.length = fs.length ∧ post ds S') xp
  | [], ρ, S, post, xp => by
    show post [] S = (0 = 0 ∧ post [] S)
    simp
  | f :: fs, ρ, S, post, xp => by
    show f ρ S (fun d S1 => dArgs fs ρ S1 (fun ds S2 => post (d :: ds) S2) xp) xp = f ρ S (fun d S1 => dArgs fs ρ S1 (fun ds S2 => (d :: ds).length = (f :: fs).length ∧ post (d :: ds) S2) xp) xp
    congr 1
    funext d S1
    rw [dArgs_len fs ρ S1 (fun ds S2 => post (d :: ds) S2) xp]
    simp
section
variable {X : Cx} {K : PySem.W.Frag} {T : Gx} {E : XK} {a b : Expr} {es : List Expr} {pos : Pos}
theorem de_var (i : Nat) {x : Str} (hN : X.N[i]? = some x := by rfl) (hv : Vis X.env.scope x := by first | exact Or.inl rfl | exact Or.inr (Or.inl rfl) | exact Or.inr (Or.inr rfl)) (hd : (x == ("__debug__" : Str)) = false := by decide)
    (hcd : (x == ("__classdict__" : Str)) = false := by decide) : PE X (.Name x pos) (tE K T E (dVar i)) := pe_imp (pe_var hN hv hd hcd) (by
  rintro σ H Q ⟨ρ, S, post, xp, rl, k, h, q, _⟩
  unfold dVar at h
  split at h
  · rename_i d hd
    obtain ⟨v, e, r⟩ := rl.at hd
    exact ⟨v, e, q.now k h r⟩
  · exact h.elim)
theorem de_c {v : V} {d : D} (h : PE X a (tC v)) (r : ∀ M H, Rep K M H d v) : PE X a (tE K T E (dPure d)) := pe_imp h (by
  rintro σ H Q ⟨ρ, S, post, xp, rl, k, h, q, _⟩
  exact q.now k h (r _ _))
theorem de_int {i j} : PE X (.Constant (.int i) j pos) (tE K T E (dPure (.int i))) := de_c pe_int fun _ _ => rint _
theorem de_bl {i j} : PE X (.Constant (.bool i) j pos) (tE K T E (dPure (.bl i))) := de_c pe_bl fun _ _ => rbl _
theorem de_non {j} : PE X (.Constant .none j pos) (tE K T E (dPure .non)) := de_c pe_non fun _ _ => rnon
theorem da_nil : PA X [] (tA K T E dNil) := pa_imp pa_nil (by
  rintro σ H Q ⟨ρ, S, post, xp, rl, k, h, q, _⟩
  exact q.now k h rnil)
theorem da_cons {f : DE} {g : DA} (ha : PE X a (tE K T E f)) (hr : PA X es (tA K T E g)) (hs : starEach (a :: es) X.env = (false, eval a X.env) :: starEach es X.env := by rfl) : PA X (a :: es) (tA K T E (dCons f g)) := pa_imp (pa_cons ha hr hs) (by
  rintro σ H Q ⟨ρ, S, post, xp, rl, k, h, q, x⟩
  refine ⟨ρ, S, _, xp, rl, k, h, ?_, x⟩
  intro d S1 v H1 h1 r1 k1 s1
  refine ⟨ρ, S1, _, xp, rl.step k s1, k1, h1, ?_, x.from s1⟩
  intro ds S2 vs H2 h2 r2 k2 s2
  exact q _ _ _ _ h2 (rcons (r1.step k1 s2) r2) k2 (s1.trans s2))
theorem da_nil' : PA X [] (tA K T E (dArgs [])) := da_nil
theorem da_cons' {f : DE} {fs : List DE} (ha : PE X a (tE K T E f)) (hr : PA X es (tA K T E (dArgs fs))) (hs : starEach (a :: es) X.env = (false, eval a X.env) :: starEach es X.env := by rfl) : PA X (a :: es) (tA K T E (dArgs (f :: fs))) := da_cons ha hr hs
theorem de_tup {x1} {fs : List DE} (h : PA X es (tA K T E (dArgs fs))) (hl : Nat.ble fs.length 1000 = true := by rfl) : PE X (.Tuple es x1 pos) (tE K T E (dTup fs)) := pe_imp (pe_tup h) (by
  rintro σ H Q ⟨ρ, S, post, xp, rl, k, h, q, x⟩
  refine ⟨ρ, S, _, xp, rl, k, (by rw [← dArgs_len]; exact h), ?_, x⟩
  rintro ds S1 vs H1 ⟨l1, h1⟩ r1 k1 s1
  refine ⟨by rw [r1.len, l1]; exact Nat.le_trans (Nat.le_of_ble_eq_true hl) (by decide), fun p hp => ?_⟩
  have s2 : Step T S1 H1 S1 (upd H1 p (.tup vs)) := step_new hp
  exact q _ _ _ _ h1 (rtup (.inl (.inl upd_same)) (r1.step k1 s2)) (k1.laid hp) (s1.trans s2))
theorem de_lst {fs : List DE} (h : PA X es (tA K T E (dArgs fs))) (hl : Nat.ble fs.length 1000 = true := by rfl) : PE X (.List es pos) (tE K T E (dLst fs)) := pe_imp (pe_lst h) (by
  rintro σ H Q ⟨ρ, S, post, xp, rl, k, h, q, x⟩
  refine ⟨ρ, S, _, xp, rl, k, (by rw [← dArgs_len]; exact h), ?_, x⟩
  rintro ds S1 vs H1 ⟨l1, h1⟩ r1 k1 s1
  refine ⟨by rw [r1.len, l1]; exact Nat.le_trans (Nat.le_of_ble_eq_true hl) (by decide), fun p hp => ?_⟩
  have s2 : Step T S1 H1 S1 (upd H1 p (.lst vs)) := step_new hp
  exact q _ _ _ _ h1 (rlst (k1.new hp) upd_same (r1.step k1 s2)) (k1.laid hp) (s1.trans s2))
theorem Ok.unsto {S : Sto} {H : Hp} {p : Addr} (k : Ok K T S H) (n : H p = none) : S p = none := by
  cases h : S p with
  | none => rfl
  | some m => exact absurd n (k.there (.inl (.inl ⟨m, h⟩)))
theorem de_lstM {fs : List DE} (h : PA X es (tA K T E (dArgs fs))) (hl : Nat.ble fs.length 1000 = true := by rfl) : PE X (.List es pos) (tE K T E (dLstM fs)) := pe_imp (pe_lst h) (by
  rintro σ H Q ⟨ρ, S, post, xp, rl, k, h, q, x⟩
  refine ⟨ρ, S, _, xp, rl, k, (by rw [← dArgs_len]; exact h), ?_, x⟩
  rintro ds S1 vs H1 ⟨l1, h1⟩ r1 k1 s1
  refine ⟨by rw [r1.len, l1]; exact Nat.le_trans (Nat.le_of_ble_eq_true hl) (by decide), fun p hp => ?_⟩
  have s2 : Step T S1 H1 (S1.put p (.lst ds)) (upd H1 p (.lst vs)) := step_put (.inl hp)
  exact q _ _ _ _ (h1 p (k1.unsto hp)) (rval _) (k1.put (.inl hp) ⟨vs, upd_same, r1.step k1 s2⟩) (s1.trans s2))
def rD2 (K : PySem.W.Frag) (T : Gx) (E : XK) (o : D → D → W D) : R2 := fun v w H Q => ∃ x y S post xp, Rep K (Mu T S) H x v ∧ Rep K (Mu T S) H y w ∧ Ok K T S H ∧ o x y S post xp ∧ PostD K T (Rep K) S H post Q ∧ ExI K T E S H xp
def rD1 (K : PySem.W.Frag) (T : Gx) (E : XK) (o : D → W D) : V → Hp → VK → Prop := fun v H Q => ∃ x S post xp, Rep K (Mu T S) H x v ∧ Ok K T S H ∧ o x S post xp ∧ PostD K T (Rep K) S H post Q ∧ ExI K T E S H xp
def rDs (K : PySem.W.Frag) (T : Gx) (E : XK) (g : List D → W D) : List V → Hp → VK → Prop := fun vs H Q => ∃ ds S post xp, Reps K (Mu T S) H ds vs ∧ Ok K T S H ∧ g ds S post xp ∧ PostD K T (Rep K) S H post Q ∧ ExI K T E S H xp
variable {f g : DE} {o : D → D → W D}
theorem two_conv {t : R2} (ht : ∀ v w H Q, rD2 K T E o v w H Q → t v w H Q) : ∀ σ H Q, tE K T E (dOp o f g) σ H Q → tOp t (tE K T E f) (tE K T E g) σ H Q := by
  rintro σ H Q ⟨ρ, S, post, xp, rl, k, h, q, x⟩
  refine ⟨ρ, S, _, xp, rl, k, h, ?_, x⟩
  intro d S1 v H1 h1 r1 k1 s1
  refine ⟨ρ, S1, _, xp, rl.step k s1, k1, h1, ?_, x.from s1⟩
  intro d2 S2 w H2 h2 r2 k2 s2
  exact ht _ _ _ _ ⟨d, d2, S2, post, xp, r1.step k1 s2, r2, k2, h2, q.from (s1.trans s2), x.from (s1.trans s2)⟩
theorem de_op {op : Operator} (ho : OpR X (binaryOp op) (rD2 K T E o)) (ha : PE X a (tE K T E f)) (hb : PE X b (tE K T E g)) : PE X (.BinOp a op b pos) (tE K T E (dOp o f g)) := pe_imp (pe_op ho ha hb) (two_conv fun _ _ _ _ h => h)
theorem de_cmp {op : CmpOp} (ho : OpR X (compareOp op) (rD2 K T E o)) (ha : PE X a (tE K T E f)) (hb : PE X b (tE K T E g)) (hm : behindInMarks op b = false := by first | exact nomark _ | rfl) : PE X (.Compare a [op] [b] pos) (tE K T E (dOp o f g)) :=
  pe_imp (pe_cmpR ho ha hb hm) (two_conv fun _ _ _ _ h => h)
theorem de_ix (ho : IxR X (rD2 K T E o)) (ha : PE X a (tE K T E f)) (hb : PE X b (tE K T E g)) (hs : PlainIx b := by exact fun _ _ => rfl) : PE X (.Subscript a b pos) (tE K T E (dOp o f g)) := pe_imp (pe_ix ho ha hb hs) (two_conv fun _ _ _ _ h => h)
theorem de_un {op : UnaryOp} {o : D → W D} (ho : UnR X (unaryOp op) (rD1 K T E o)) (ha : PE X a (tE K T E f)) : PE X (.UnaryOp op a pos) (tE K T E (dUn o f)) := pe_imp (pe_un ho ha) (by
  rintro σ H Q ⟨ρ, S, post, xp, rl, k, h, q, x⟩
  refine ⟨ρ, S, _, xp, rl, k, h, ?_, x⟩
  intro d S1 v H1 h1 r1 k1 s1
  exact ⟨d, S1, post, xp, r1, k1, h1, q.from s1, x.from s1⟩)
theorem app_conv {g : List D → W D} {f : DA} {σ : L2.St} {H : Hp} {Q : VK} (h : tE K T E (dApp g f) σ H Q) : tA K T E f σ H fun vs H1 => rDs K T E g vs H1 Q := by
  obtain ⟨ρ, S, post, xp, rl, k, h, q, x⟩ := h
  refine ⟨ρ, S, _, xp, rl, k, h, ?_, x⟩
  intro d S1 v H1 h1 r1 k1 s1
  exact ⟨d, S1, post, xp, r1, k1, h1, q.from s1, x.from s1⟩
variable {c c' : DT}
theorem val_conv {σ : L2.St} {H : Hp} {Q : Bool → Hp → Prop} (h : tB K T E (dtVal f) σ H Q) : tE K T E f σ H fun v H1 => ∃ c, v = .bl c ∧ Q c H1 := by
  obtain ⟨ρ, S, post, xp, rl, k, h, q, x⟩ := h
  refine ⟨ρ, S, _, xp, rl, k, h, ?_, x⟩
  intro d S1 v H1 h1 r1 k1 s1
  cases d with
  | bl b => exact ⟨b, bl_of r1, q _ _ _ _ h1 rfl k1 s1⟩
  | _ => exact False.elim h1
theorem dt_cmp {op : CmpOp} (ho : OpR X (compareOp op) (rD2 K T E o)) (ha : PE X a (tE K T E f)) (hb : PE X b (tE K T E g)) (hm : behindInMarks op b = false := by first | exact nomark _ | rfl) : PT X (.Compare a [op] [b] pos) (tB K T E (dtVal (dOp o f g))) :=
  pt_imp (pt_cmpR ho ha hb hm) fun σ H Q h => two_conv (fun _ _ _ _ h => h) _ _ _ (val_conv h)
theorem dt_val (h : PE X a (tE K T E f)) (he : ∀ whole, isTrue a X.env whole = (do let v ← whole; standAt a.pos; holding [v] (truthy v)) := by intro _; rfl) : PT X a (tB K T E (dtVal f)) :=
  pt_imp (pt_val h he) fun σ H Q h => val_conv h
theorem dt_not (h : PT X a (tB K T E c)) : PT X (.UnaryOp .Not a pos) (tB K T E (dtNot c)) := pt_imp (pt_not h) (by
  rintro σ H Q ⟨ρ, S, post, xp, rl, k, h, q, x⟩
  refine ⟨ρ, S, _, xp, rl, k, h, ?_, x⟩
  rintro d S1 v H1 h1 rfl k1 s1
  exact q _ _ _ _ h1 rfl k1 s1)
theorem dw_and1 (h : PT X a (tB K T E c)) : PW X (.BoolOp .And [a] pos) (tB K T E c) := pw_and1 h
theorem dw_or1 (h : PT X a (tB K T E c)) : PW X (.BoolOp .Or [a] pos) (tB K T E c) := pw_or1 h
theorem dw_and (h : PT X a (tB K T E c)) (h' : PW X (.BoolOp .And (b :: es) pos) (tB K T E c')) : PW X (.BoolOp .And (a :: b :: es) pos) (tB K T E (dtAnd c c')) := pw_imp (pw_and h h') (by
  rintro σ H Q ⟨ρ, S, post, xp, rl, k, h, q, x⟩
  refine ⟨ρ, S, _, xp, rl, k, h, ?_, x⟩
  rintro d S1 v H1 h1 rfl k1 s1
  cases d with
  | true =>
    rw [if_pos rfl] at h1 ⊢
    exact ⟨ρ, S1, post, xp, rl.step k s1, k1, h1, q.from s1, x.from s1⟩
  | false =>
    rw [if_neg Bool.false_ne_true] at h1 ⊢
    exact q _ _ _ _ h1 rfl k1 s1)
theorem dw_or (h : PT X a (tB K T E c)) (h' : PW X (.BoolOp .Or (b :: es) pos) (tB K T E c')) : PW X (.BoolOp .Or (a :: b :: es) pos) (tB K T E (dtOr c c')) := pw_imp (pw_or h h') (by
  rintro σ H Q ⟨ρ, S, post, xp, rl, k, h, q, x⟩
  refine ⟨ρ, S, _, xp, rl, k, h, ?_, x⟩
  rintro d S1 v H1 h1 rfl k1 s1
  cases d with
  | true =>
    rw [if_pos rfl] at h1 ⊢
    exact q _ _ _ _ h1 rfl k1 s1
  | false =>
    rw [if_neg Bool.false_ne_true] at h1 ⊢
    exact ⟨ρ, S1, post, xp, rl.step k s1, k1, h1, q.from s1, x.from s1⟩)
theorem dt_w (h : PW X a (tB K T E c)) : PT X a (tB K T E c) := PW.pt h
theorem de_one {op} (h : PE X a (tE K T E f)) : PE X (.BoolOp op [a] pos) (tE K T E f) := pe_one h
theorem de_and (ha : PE X a (tE K T E f)) (hb : PE X (.BoolOp .And (b :: es) pos) (tE K T E g)) : PE X (.BoolOp .And (a :: b :: es) pos) (tE K T E (dAnd f g)) := pe_imp (pe_and ha hb) (by
  rintro σ H Q ⟨ρ, S, post, xp, rl, k, h, q, x⟩
  refine ⟨ρ, S, _, xp, rl, k, h, ?_, x⟩
  intro d S1 v H1 h1 r1 k1 s1
  cases d with
  | bl b =>
    refine ⟨b, bl_of r1, ?_⟩
    cases b with
    | true =>
      rw [if_pos rfl]
      exact ⟨ρ, S1, post, xp, rl.step k s1, k1, h1, q.from s1, x.from s1⟩
    | false =>
      rw [if_neg Bool.false_ne_true]
      exact q _ _ _ _ h1 (rbl _) k1 s1
  | _ => exact False.elim h1)
theorem de_not (ha : PE X a (tE K T E f)) : PE X (.UnaryOp .Not a pos) (tE K T E (dNot f)) := pe_imp (pe_not ha) (by
  rintro σ H Q ⟨ρ, S, post, xp, rl, k, h, q, x⟩
  refine ⟨ρ, S, _, xp, rl, k, h, ?_, x⟩
  intro d S1 v H1 h1 r1 k1 s1
  cases d with
  | bl b => exact ⟨b, bl_of r1, q _ _ _ _ h1 (rbl _) k1 s1⟩
  | _ => exact False.elim h1)
theorem de_if {e : Expr} (hc : PT X e (tB K T E c)) (ha : PE X a (tE K T E f)) (hb : PE X b (tE K T E g)) : PE X (.IfExp e a b pos) (tE K T E (dIf c f g)) := pe_imp (pe_ifExp hc ha hb) (by
  rintro σ H Q ⟨ρ, S, post, xp, rl, k, h, q, x⟩
  refine ⟨ρ, S, _, xp, rl, k, h, ?_, x⟩
  rintro d S1 v H1 h1 rfl k1 s1
  cases d with
  | true =>
    rw [if_pos rfl] at h1 ⊢
    exact ⟨ρ, S1, post, xp, rl.step k s1, k1, h1, q.from s1, x.from s1⟩
  | false =>
    rw [if_neg Bool.false_ne_true] at h1 ⊢
    exact ⟨ρ, S1, post, xp, rl.step k s1, k1, h1, q.from s1, x.from s1⟩)
end
end Dw
namespace Dw
open PySem PySem.Spec PyProof.Rows L2
def setL (ρ : Lc) : List Nat → List D → Lc
  | i :: is, d :: ds => setL (ρ.set i (some d)) is ds
  | _, _ => ρ
def dNext : DS := fun ρ S p => p.nx ρ S
def dSet (i : Nat) (e : DE) : DS := fun ρ S p => e ρ S (fun d S' => p.nx (ρ.set i (some d)) S') p.xp
def dSeq (a b : DS) : DS := fun ρ S p => a ρ S { p with nx := fun ρ' S' => b ρ' S' p }
def dRet (e : DE) : DS := fun ρ S p => e ρ S p.rt p.xp
def dExpr (e : DE) : DS := fun ρ S p => e ρ S (fun _ S' => p.nx ρ S') p.xp
def dIfS (c : DT) (a b : DS) : DS := fun ρ S p => c ρ S (fun k S' => if k = true then a ρ S' p else b ρ S' p) p.xp
def dPar (is : List Nat) (fs : List DE) : DS := fun ρ S p => dArgs fs ρ S (fun ds S' => p.nx (setL ρ is ds) S') p.xp
/-- a, b = e -/
def dUnp (is : List Nat) (e : DE) : DS := fun ρ S p => e ρ S (fun d S' => match d with
  | .tup ds => ds.length = is.length ∧ p.nx (setL ρ is ds) S'
  | _ => False) p.xp
/-- the value in slot i changes no more -/
def frz (d : D) (S : Sto) (post : D → Sto → Prop) : Prop := match d with
  | .val (.ref a) => (match S a with
    | some (.lst ds) => post (.lst ds) (S.del a)
    | some (.ins C ns ds) => post (.ins C ns ds) (S.del a)
    | some (.dK ks ds) => post (.dK ks ds) (S.del a)
    | some (.dT ks ds) => post (.dT ks ds) (S.del a)
    | _ => False)
  | _ => False
def dFrz (i : Nat) : DS := fun ρ S p => match ρ[i]? with
  | some (some d) => frz d S (fun d' S' => p.nx (ρ.set i (some d')) S')
  | _ => False
section
variable {K : PySem.W.Frag} {T : Gx} {E : XK} {S : Sto} {H : Hp} {M : Addr → Prop}
theorem frz_ok {d : D} {v : V} {post : D → Sto → Prop} (k : Ok K T S H) (r : Rep K (Mu T S) H d v) (h : frz d S post) : ∃ d' S', post d' S' ∧ Rep K (Mu T S') H d' v ∧ Ok K T S' H ∧ Step T S H S' H := by
  unfold frz at h
  split at h
  · rename_i a
    obtain rfl := val_of r
    split at h
    · rename_i ds e
      obtain ⟨xs, e1, r1⟩ := k.cel a _ e
      exact ⟨_, _, h, rlst (mu_del k ⟨_, e⟩) e1 (r1.step k step_del), k.del a, step_del⟩
    · rename_i C ns ds e
      obtain ⟨dx, fs, e1, e2, r1⟩ := k.cel a _ e
      exact ⟨_, _, h, rins (mu_del k ⟨_, e⟩) e1 e2 (r1.step k step_del), k.del a, step_del⟩
    · rename_i ks ds e
      obtain ⟨kvs, e1, e2, r1⟩ := k.cel a _ e
      exact ⟨_, _, h, rdK (mu_del k ⟨_, e⟩) (.inl e1) e2 (r1.step k step_del), k.del a, step_del⟩
    · rename_i ks ds e
      obtain ⟨kvs, e1, e2, r1⟩ := k.cel a _ e
      exact ⟨_, _, h, rdT (mu_del k ⟨_, e⟩) (.inl e1) e2 (r1.step k step_del), k.del a, step_del⟩
    · exact h.elim
  · exact h.elim
theorem RepL.setAll : ∀ {is : List Nat} {ds : List D} {vs : List V} {ρ : Lc} {σ : L2.St}, RepL K M H ρ σ → Reps K M H ds vs → RepL K M H (setL ρ is ds) (Px.setAll σ is vs)
  | [], _, _, _, _, h, _ => by unfold setL Px.setAll; exact h
  | i :: is, [], vs, _, _, h, r => by rw [nil_of r]; exact h
  | i :: is, d :: ds, vs, ρ, σ, h, r => by
    obtain ⟨w, ws, rfl, r1, r2⟩ := cons_of r
    exact RepL.setAll (is := is) (ρ := ρ.set i (some d)) (h.set i r1) r2
end
section
variable {X : Cx} {K : PySem.W.Frag} {T : Gx} {E : XK} {a b : Expr} {es : List Expr} {pos : Pos} {f g : DE} {c : DT} {st : Stmt} {sts sts' : List Stmt} {u v : DS}
theorem ds_nil : PSs X [] (tS K T E dNext) := pss_imp pss_nil (by
  rintro Dd σ H ⟨ρ, S, p, rl, k, h, n, _⟩
  exact n.now k h rl)
theorem ds_one (h : PS X st (tS K T E u)) : PSs X [st] (tS K T E u) := pss_one h
theorem ds_cons (h1 : PS X st (tS K T E u)) (h2 : PSs X sts (tS K T E v)) : PSs X (st :: sts) (tS K T E (dSeq u v)) := pss_imp (pss_cons h1 h2) (by
  rintro Dd σ H ⟨ρ, S, p, rl, k, h, n, r, bk, ct, x⟩
  refine ⟨ρ, S, _, rl, k, h, ?_, r, bk, ct, x⟩
  intro ρ' S' σ' H' h' rl' k' s'
  exact ⟨ρ', S', p, rl', k', h', n.from s', r.from s', bk.from s', ct.from s', x.from s'⟩)
theorem ds_set {i : Nat} {x : Str} {pos' : Pos} (hN : X.N.Nodup) (hi : X.N[i]? = some x) (hx : Loc X.env.scope x) (he : PE X a (tE K T E f)) (hs : swapsWith a (some (.Name x pos')) pos.line X.env = pure false := by rfl) (hf : X.fn x = true ∨ X.env.scope.names.lookup x = some .local := by first | exact .inl rfl | exact .inr rfl | assumption) :
    PS X (.Assign [.Name x pos'] a pos) (tS K T E (dSet i f)) := ps_imp (ps_set (i := i) hN hi hx he hs hf) (by
  rintro Dd σ H ⟨ρ, S, p, rl, k, h, n, r, bk, ct, x⟩
  refine ⟨ρ, S, _, p.xp, rl, k, h, ?_, x⟩
  intro d S' v H' h' r' k' s'
  exact n _ _ _ _ h' ((rl.step k s').set i r') k' s')
theorem ds_ret (he : PE X a (tE K T E f)) : PS X (.Return (some a) pos) (tS K T E (dRet f)) := ps_imp (ps_ret he) (by
  rintro Dd σ H ⟨ρ, S, p, rl, k, h, n, r, bk, ct, x⟩
  exact ⟨ρ, S, p.rt, p.xp, rl, k, h, r, x⟩)
theorem ds_expr (he : PE X a (tE K T E f)) (hs : swapsWith a none pos.line X.env = pure false := by rfl) : PS X (.Expr a pos) (tS K T E (dExpr f)) := ps_imp (ps_expr he hs) (by
  rintro Dd σ H ⟨ρ, S, p, rl, k, h, n, r, bk, ct, x⟩
  refine ⟨ρ, S, _, p.xp, rl, k, h, ?_, x⟩
  intro d S' v H' h' r' k' s'
  exact n _ _ _ _ h' (rl.step k s') k' s')
theorem ds_if (hc : PT X a (tB K T E c)) (ha : PSs X sts (tS K T E u)) (hb : PSs X sts' (tS K T E v)) : PS X (.If a sts sts' pos) (tS K T E (dIfS c u v)) := ps_imp (ps_if hc ha hb) (by
  rintro Dd σ H ⟨ρ, S, p, rl, k, h, n, r, bk, ct, x⟩
  refine ⟨ρ, S, _, p.xp, rl, k, h, ?_, x⟩
  rintro d S' v H' h' rfl k' s'
  cases d with
  | true =>
    rw [if_pos rfl] at h' ⊢
    exact ⟨ρ, S', p, rl.step k s', k', h', n.from s', r.from s', bk.from s', ct.from s', x.from s'⟩
  | false =>
    rw [if_neg Bool.false_ne_true] at h' ⊢
    exact ⟨ρ, S', p, rl.step k s', k', h', n.from s', r.from s', bk.from s', ct.from s', x.from s'⟩)
/-- behind a statement what stands in slot i is frozen -/
theorem ds_frz {i : Nat} (h : PS X st (tS K T E u)) : PS X st (tS K T E (dSeq u (dFrz i))) := ps_imp h (by
  rintro Dd σ H ⟨ρ, S, p, rl, k, h, n, r, bk, ct, x⟩
  refine ⟨ρ, S, _, rl, k, h, ?_, r, bk, ct, x⟩
  intro ρ' S' σ' H' h' rl' k' s'
  replace h' : dFrz i ρ' S' p := h'
  unfold dFrz at h'
  split at h'
  · rename_i d hd
    obtain ⟨v, e, r'⟩ := rl'.at hd
    obtain ⟨d2, S2, p2, r2, k2, s2⟩ := frz_ok k' r' h'
    have rl2 := (rl'.step k' s2).set i r2
    have es : σ'.set i (some v) = σ' := by
      obtain ⟨hl, e'⟩ := List.getElem?_eq_some_iff.mp e
      rw [← e']
      exact List.set_getElem_self ..
    rw [es] at rl2
    exact n _ _ _ _ p2 rl2 k2 (s'.trans s2)
  · exact h'.elim)
theorem ds_unp {is : List Nat} {n : Nat} (hp : PS X st (tAsg (tE K T E f) (gTup K n (Px.gNames is)))) (e1 : n = is.length := by rfl) : PS X st (tS K T E (dUnp is f)) := ps_imp hp (by
  rintro Dd σ H ⟨ρ, S, p, rl, k, h, n', r, bk, ct, x⟩
  refine ⟨ρ, S, _, p.xp, rl, k, h, ?_, x⟩
  intro d S' v H' h' r' k' s'
  cases d with
  | tup ds =>
    obtain ⟨hl, h'⟩ := h'
    obtain ⟨ad, xs, rfl, sq, rs⟩ := tup_of r'
    exact ⟨ad, xs, rfl, sq, by rw [rs.len, hl, e1], Px.f_names (by rw [rs.len, hl]) (n' _ _ _ _ h' ((rl.step k s').setAll rs) k' s')⟩
  | _ => exact False.elim h')
theorem ds_par {i j : Nat} {fs : List DE} (hp : PS X st (tPar i j (tA K T E (dArgs fs)))) (hl : fs.length = 2 := by rfl) : PS X st (tS K T E (dPar [i, j] fs)) := ps_imp hp (by
  rintro Dd σ H ⟨ρ, S, p, rl, k, h, n, r, bk, ct, x⟩
  refine ⟨ρ, S, _, p.xp, rl, k, (by unfold dPar at h; rw [dArgs_len] at h; exact h), ?_, x⟩
  rintro ds S' vs H' ⟨l1, h'⟩ r' k' s'
  rw [hl] at l1
  have q := n _ _ _ _ h' ((rl.step k s').setAll (is := [i, j]) r') k' s'
  have l2 := r'.len
  rw [l1] at l2
  match vs, l2 with
  | [v, w], _ => exact ⟨v, w, rfl, q⟩)
theorem ds_par3 {i j l : Nat} {fs : List DE} (hp : PS X st (tPar3 i j l (tA K T E (dArgs fs)))) (hl : fs.length = 3 := by rfl) : PS X st (tS K T E (dPar [i, j, l] fs)) := ps_imp hp (by
  rintro Dd σ H ⟨ρ, S, p, rl, k, h, n, r, bk, ct, x⟩
  refine ⟨ρ, S, _, p.xp, rl, k, (by unfold dPar at h; rw [dArgs_len] at h; exact h), ?_, x⟩
  rintro ds S' vs H' ⟨l1, h'⟩ r' k' s'
  rw [hl] at l1
  have q := n _ _ _ _ h' ((rl.step k s').setAll (is := [i, j, l]) r') k' s'
  have l2 := r'.len
  rw [l1] at l2
  match vs, l2 with
  | [v, w, z], _ => exact ⟨v, w, z, rfl, q⟩)
end
def spD (K : PySem.W.Frag) (tb : List (Addr × Str)) (n : Nat) (g : List D → W D) : Sp := fun vs H Q E =>
  ∃ (T : Gx) (ds : List D) (S : Sto) (post : D → Sto → Prop) (xp : Xp), T.tab = tb ∧ ds.length = n ∧ Reps K (Mu T S) H ds vs ∧ Ok K T S H ∧ g ds S post xp ∧ PostD K T (Rep K) S H post Q ∧ ExI K T E S H xp
/-- a def by its body: m slots -/
def dDef (m : Nat) (u : DS) : List D → W D := fun ds S post xp => u (ds.map some ++ List.replicate (m - ds.length) none) S { nx := fun _ S' => post .non S', rt := post, xp := xp }
section
variable {P : Program} {w : World} {K : PySem.W.Frag} {mg : Str → Option Value} {base : Heap} {tb : List (Addr × Str)}
/-- a def of the text: its name, how it is called, what it does -/
structure DefOk (P : Program) (w : World) (K : PySem.W.Frag) (mg : Str → Option Value) (base : Heap) (tb : List (Addr × Str)) (x : Str) (ps : List Str) (lv : Nat) (g : List D → W D) (f : Addr) (fd : FuncData) : Prop where
  at_ : mg x = some (.ref f)
  kp : PySem.W.keepIn K (.ref f) = true
  bd : Binds K fd ps []
  ok : FnOk P w K mg base (L2.CX P w) lv f fd ps (spD K tb ps.length g)
theorem def_start {m : Nat} {ds : List D} {vs : List V} {M : Addr → Prop} {H : Hp} {N : List Str} (r : Reps K M H ds vs) (hm : N.length = m) : RepL K M H (ds.map some ++ List.replicate (m - ds.length) none) (L2.start N vs) := by
  unfold L2.start
  rw [r.len, hm]
  exact (RepL.of_reps r).app (RepL.nones _)
theorem fun_okD {x qual : Str} {st : Stmt} {f : Addr} {fd : FuncData} {N ps : List Str} {k m : Nat} {u : DS} (F : Fun K x qual st f fd) (S : FnScope N ps (defScope st)) (hm : N.length = m := by rfl)
    (hb : ∀ (T : Gx) (cdv : Value) (A : Around) (outer : List Env) (s : Shared) (H : Hp) (E : XK), T.tab = tb → Room k (A.deeper (envOfC qual (defScope st) s.heap.objs.size f cdv)) →
      PSs (cxOf (L2.CX P w) P w K mg base N qual (defScope st) f cdv A outer s H E) (defBody st) (tS K T E u)) : FnOk P w K mg base (L2.CX P w) (k + 1) f fd ps (spD K tb ps.length (dDef m u)) := by
  refine F.okX S (fun vs H Q E h => ?_) fun cdv A outer s H vs Q E hr h => ?_
  · obtain ⟨T, ds, S, post, xp, _, l, r, _⟩ := h
    rw [r.len, l]
  · obtain ⟨T, ds, S0, post, xp, et, l, r, ok, g, q, x⟩ := h
    refine ⟨_, hb T cdv A outer s H E et hr, ?_⟩
    refine ⟨_, S0, _, def_start r hm, ok, g, ?_, q, fun _ _ _ _ z => z.elim, fun _ _ _ _ z => z.elim, x⟩
    intro ρ' S' σ' H' h' _ k' s'
    exact q _ _ _ _ h' rnon k' s'
theorem pass_own {N : List Str} {qual : Str} {scope : Scope} {f : Addr} {cdv : Value} {A : Around} {outer : List Env} {s : Shared} {H : Hp} {E : XK} :
    Passes (L2.CX P w) (cxOf (L2.CX P w) P w K mg base N qual scope f cdv A outer s H E) E :=
  passes_call (W := fun cls d _ H => E cls d H) (takes_of rfl rfl rfl rfl) fun _ _ _ _ h => h
end
section
variable {X : Cx} {T : Gx} {E : XK} {a b : Expr} {es : List Expr} {pos p apos : Pos} {fs : List DE} {x : Str} {ps : List Str} {lv j : Nat} {g : List D → W D} {f : Addr} {fd : FuncData} {us : List Value}
def dCall (g : List D → W D) (fs : List DE) : DE := dApp g (dArgs fs)
theorem spD_of {K : PySem.W.Frag} {n : Nat} {vs : List V} {H : Hp} {Q : VK} {ds : List D} {S : Sto} {post : D → Sto → Prop} {xp : Xp} (l : ds.length = n) (r : Reps K (Mu T S) H ds vs) (k : Ok K T S H) (h : g ds S post xp) (q : PostD K T (Rep K) S H post Q) (x : ExI K T E S H xp) : spD K T.tab n g vs H Q E := ⟨T, ds, S, post, xp, rfl, l, r, k, h, q, x⟩
theorem call_conv {K : PySem.W.Frag} {n : Nat} {dd : List D} {dvs : List V} (rd : ∀ M H, Reps K M H dd dvs) (hn : fs.length + dd.length = n) {σ : L2.St} {H : Hp} {Q : VK} (h : tE K T E (dApp (fun ds => g (ds ++ dd)) (dArgs fs)) σ H Q) :
    tA K T E (dArgs fs) σ H fun vs H1 => spD K T.tab n g (vs ++ dvs) H1 Q E := by
  obtain ⟨ρ, S, post, xp, rl, k, h, q, x⟩ := h
  refine ⟨ρ, S, _, xp, rl, k, (by unfold dApp at h; rw [dArgs_len] at h; exact h), ?_, x⟩
  rintro ds S1 vs H1 ⟨l1, h1⟩ r1 k1 s1
  exact spD_of (by rw [List.length_append, l1, hn]) (r1.app (rd _ _)) k1 h1 (q.from s1) (x.from s1)
theorem de_call {tb : List (Addr × Str)} (F : DefOk X.prog X.w X.K X.mg X.base tb x ps lv g f fd) (hT : T.tab = tb) (hr : Room j X.A) (px : Passes (L2.CX X.prog X.w) X E) (ha : PA X (a :: es) (tA X.K T E (dArgs fs))) (hn : fs.length = ps.length := by rfl)
    (hg : Gl X x := by rfl) (hj : Nat.ble lv j = true := by rfl) (hdb : (x == ("__debug__" : Str)) = false := by decide) (he : starEach (a :: es) X.env = (false, eval a X.env) :: starEach es X.env := by rfl) (hpl : (backTo pos (starEach es X.env)).any (·.1) = false := by rfl) :
    PE X (.Call (.Name x p) (a :: es) [] pos) (tE X.K T E (dCall g fs)):= by
  subst hT
  exact (
  pe_imp (pe_call F.ok (hr.mono (Nat.le_of_ble_eq_true hj)) hg F.at_ F.kp F.bd .nil px ha hdb he hpl) fun σ H Q h => call_conv (dd := []) (fun _ _ => rnil) hn (by
    simp only [List.append_nil]
    exact h))
/-- of which class the datum is; none of its own attributes is called m -/
def isOf (S : Sto) (d : D) (C : Addr) (m : Str) : Prop := match d with
  | .ins C' ns _ => C' = C ∧ m ∉ ns
  | .val (.ref a) => ∃ ns ds, S a = some (.ins C ns ds) ∧ m ∉ ns
  | _ => False
/-- an attribute of its own -/
def hasF (S : Sto) (d : D) (C : Addr) (f : Str) (y : D) : Prop := match d with
  | .ins C' ns ds => C' = C ∧ (ns.zip ds).lookup f = some y
  | .val (.ref a) => ∃ ns ds, S a = some (.ins C ns ds) ∧ (ns.zip ds).lookup f = some y
  | _ => False
abbrev Ms := List (Addr × (List D → W D))
/-- o.m(..) of instances of own classes -/
def dMeth (ms : Ms) (m : Str) (e : DE) (fs : List DE) : DE := fun ρ S post xp => e ρ S (fun d S1 => ∃ C g, (C, g) ∈ ms ∧ isOf S1 d C m ∧ dArgs fs ρ S1 (fun ds S2 => g (d :: ds) S2 post xp) xp) xp
/-- o.f: an attribute -/
def dFld (Cs : List Addr) (f : Str) (e : DE) : DE := fun ρ S post xp => e ρ S (fun d S1 => ∃ C y, C ∈ Cs ∧ hasF S1 d C f y ∧ post y S1) xp
theorem isOf_ok {K : PySem.W.Frag} {S : Sto} {H : Hp} {d : D} {v : V} {C : Addr} {m : Str} (k : Ok K T S H) (r : Rep K (Mu T S) H d v) (h : isOf S d C m) : ∃ a dx fs, v = .ref a ∧ H a = some (.ins C dx fs) ∧ fs.lookup m = none := by
  unfold isOf at h
  split at h
  · obtain ⟨rfl, hm⟩ := h
    obtain ⟨a, dx, fs, rfl, _, h, e, rs⟩ := ins_of r
    exact ⟨a, dx, fs, rfl, h, Px.look_none (by rw [e]; exact hm)⟩
  · obtain ⟨ns, ds, h, hm⟩ := h
    obtain rfl := val_of r
    obtain ⟨dx, fs, e1, e2, _⟩ := k.cel _ _ h
    exact ⟨_, dx, fs, rfl, e1, Px.look_none (by rw [e2]; exact hm)⟩
  · exact h.elim
theorem hasF_ok {K : PySem.W.Frag} {S : Sto} {H : Hp} {d y : D} {v : V} {C : Addr} {f : Str} (k : Ok K T S H) (r : Rep K (Mu T S) H d v) (h : hasF S d C f y) : ∃ a dx fs w, v = .ref a ∧ H a = some (.ins C dx fs) ∧ fs.lookup f = some w ∧ Rep K (Mu T S) H y w := by
  unfold hasF at h
  split at h
  · obtain ⟨rfl, hm⟩ := h
    obtain ⟨a, dx, fs, rfl, _, h, e, rs⟩ := ins_of r
    obtain ⟨w, e1, e2⟩ := rs.look e hm
    exact ⟨a, dx, fs, w, rfl, h, e1, e2⟩
  · obtain ⟨ns, ds, h, hm⟩ := h
    obtain rfl := val_of r
    obtain ⟨dx, fs, e1, e2, rs⟩ := k.cel _ _ h
    obtain ⟨w, e3, e4⟩ := rs.look e2 hm
    exact ⟨_, dx, fs, w, rfl, e1, e3, e4⟩
  · exact h.elim
theorem de_fld {Cs : List Addr} {n : Str} {e : DE} (he : PE X a (tE X.K T E e)) (hC : ∀ C ∈ Cs, Cls X.K C ∧ NoAttr X.K C n) (hb : attributeBase a n X.env (eval a X.env) = eval a X.env := by rfl) : PE X (.Attribute a n pos) (tE X.K T E (dFld Cs n e)) := pe_imp (pe_fld he hb) (by
  rintro σ H Q ⟨ρ, S, post, xp, rl, k, h, q, x⟩
  refine ⟨ρ, S, _, xp, rl, k, h, ?_, x⟩
  rintro d S1 v H1 ⟨C, y, hm, hf, h1⟩ r1 k1 s1
  obtain ⟨ad, dx, fs, w, rfl, e1, e2, e3⟩ := hasF_ok k1 r1 hf
  exact ⟨ad, C, dx, fs, w, rfl, e1, (hC C hm).1, (hC C hm).2, e2, q _ _ _ _ h1 e3 k1 s1⟩)
/-- a method of an own class -/
structure MethOk (P : Program) (w : World) (K : PySem.W.Frag) (mg : Str → Option Value) (base : Heap) (tb : List (Addr × Str)) (m : Str) (n lv : Nat) (C : Addr) (g : List D → W D) : Prop where
  cl : Cls K C
  ex : ∃ f fd ps, Meth K C m f ∧ ps.length = n + 1 ∧ Binds K fd ps [] ∧ FnOk P w K mg base (L2.CX P w) lv f fd ps (spD K tb ps.length g)
theorem de_meth {tb : List (Addr × Str)} {ms : Ms} {m : Str} {e : DE} {o : Expr} {pl : Sem Bool} (he : PE X o (tE X.K T E e)) (hM : ∀ q ∈ ms, MethOk X.prog X.w X.K X.mg X.base tb m fs.length lv q.1 q.2) (hT : T.tab = tb) (hr : Room j X.A) (px : Passes (L2.CX X.prog X.w) X E) (ha : PA X (a :: es) (tA X.K T E (dArgs fs)))
    (hj : Nat.ble lv j = true := by rfl) (hst : starEach (a :: es) X.env = (false, eval a X.env) :: starEach es X.env := by rfl) (hpl : (backTo pos (starEach es X.env)).any (·.1) = false := by rfl)
    (ht : eval (.Call (.Attribute o m apos) (a :: es) [] pos) X.env = (do
      let ov ← eval o X.env
      standAt apos.atName
      let (f, first) ← holding [ov] (getMethod ov m pl)
      callWith pos f first (backTo pos (starEach (a :: es) X.env)) (backToKw pos (keywordEach [] X.env))) := by rfl) :
    PE X (.Call (.Attribute o m apos) (a :: es) [] pos) (tE X.K T E (dMeth ms m e fs)) := by
  subst hT
  constructor
  rintro pins s σ H Q I ⟨ρ, S, post, xp, rl, k, h, q, x⟩
  refine PySem.W.methodCall_KW (pl := pl) (thn (he.run pins s σ H _ I ⟨ρ, S, _, xp, rl, k, h, fun d S1 v H1 h1 r1 k1 s1 => (⟨d, S1, h1, r1, k1, s1⟩ : ∃ d S1, (∃ C g, (C, g) ∈ ms ∧ isOf S1 d C m ∧ dArgs fs ρ S1 (fun ds S2 => g (d :: ds) S2 post xp) xp) ∧ Rep X.K (Mu T S1) H1 d v ∧ Ok X.K T S1 H1 ∧ Step T S H S1 H1), x⟩) ?_) ht
  rintro u s1 ⟨v, H1, I1, rv, d, S1, ⟨C, g, hm, hi, h1⟩, r1, k1, st1⟩
  obtain ⟨ad, dx, fs', rfl, ea, l⟩ := isOf_ok k1 r1 hi
  obtain rfl : u = Value.ref ad := rv
  obtain ⟨cl, f, fd, ps, hM', hp, hb, F⟩ := hM _ hm
  refine getmeth_ok I1 ea cl hM' l ?_
  refine PySem.W.callWith_K (first := [.ref ad]) (h₀ := X.base) I1.ok.mod.kin hM'.kp (thn (ha.run pos pins s1 σ H1 _ I1 ⟨ρ, S1, _, xp, rl.step k st1, k1, (by rw [← dArgs_len]; exact h1), fun ds S2 vs H2 h2 r2 k2 s2 => (⟨ds, S2, h2, r2, k2, s2⟩ : ∃ ds S2, (ds.length = fs.length ∧ g (d :: ds) S2 post xp) ∧ Reps X.K (Mu T S2) H2 ds vs ∧ Ok X.K T S2 H2 ∧ Step T S1 H1 S2 H2), x.from st1⟩) fun us s2 ⟨vs, H2, I2, r, ds, S2, ⟨l2, h2⟩, r2, k2, st2⟩ => ⟨I2.kIn, ?_⟩) hst hpl
  refine run_fn (us := .ref ad :: us) (vs := .ref ad :: vs) (dvs := []) F (hr.mono (Nat.le_of_ble_eq_true hj)) hb .nil px I2 (.cons rfl r) ?_
  rw [List.append_nil]
  exact spD_of (by rw [List.length_cons, l2, hp]) (rcons (r1.step k1 st2) r2) k2 h2 (q.from (st1.trans st2)) (x.from (st1.trans st2))
theorem de_meth0 {tb : List (Addr × Str)} {ms : Ms} {m : Str} {e : DE} {o : Expr} {pl : Sem Bool} (he : PE X o (tE X.K T E e)) (hM : ∀ q ∈ ms, MethOk X.prog X.w X.K X.mg X.base tb m 0 lv q.1 q.2) (hT : T.tab = tb) (hr : Room j X.A) (px : Passes (L2.CX X.prog X.w) X E)
    (hj : Nat.ble lv j = true := by rfl)
    (ht : eval (.Call (.Attribute o m apos) [] [] pos) X.env = (do
      let ov ← eval o X.env
      standAt apos.atName
      let (f, first) ← holding [ov] (getMethod ov m pl)
      callWith pos f first (backTo pos (starEach [] X.env)) (backToKw pos (keywordEach [] X.env))) := by rfl) :
    PE X (.Call (.Attribute o m apos) [] [] pos) (tE X.K T E (dMeth ms m e [])) := by
  subst hT
  constructor
  rintro pins s σ H Q I ⟨ρ, S, post, xp, rl, k, h, q, x⟩
  refine PySem.W.methodCall_KW (pl := pl) (thn (he.run pins s σ H _ I ⟨ρ, S, _, xp, rl, k, h, fun d S1 v H1 h1 r1 k1 s1 => (⟨d, S1, h1, r1, k1, s1⟩ : ∃ d S1, (∃ C g, (C, g) ∈ ms ∧ isOf S1 d C m ∧ g [d] S1 post xp) ∧ Rep X.K (Mu T S1) H1 d v ∧ Ok X.K T S1 H1 ∧ Step T S H S1 H1), x⟩) ?_) ht
  rintro u s1 ⟨v, H1, I1, rv, d, S1, ⟨C, g, hm, hi, h1⟩, r1, k1, st1⟩
  obtain ⟨ad, dx, fs', rfl, ea, l⟩ := isOf_ok k1 r1 hi
  obtain rfl : u = Value.ref ad := rv
  obtain ⟨cl, f, fd, ps, hM', hp, hb, F⟩ := hM _ hm
  refine getmeth_ok I1 ea cl hM' l ?_
  refine PySem.W.callWith_K0 (first := [.ref ad]) I1.kIn hM'.kp ?_
  refine run_fn (us := [.ref ad]) (vs := [.ref ad]) (dvs := []) F (hr.mono (Nat.le_of_ble_eq_true hj)) hb .nil px I1 (.cons rfl .nil) ?_
  rw [List.append_nil]
  exact spD_of (ds := [d]) (by rw [hp]; rfl) (rcons r1 rnil) k1 h1 (q.from st1) (x.from st1)
end
end Dw
namespace Dw
open PySem PySem.Spec PyProof.Rows L2
mutual
def toPd : D → PyData
  | .non => .none
  | .bl b => .bool b
  | .int i => .int i
  | .str s => .str s
  | .tup ds => .tuple (toPds ds)
  | .lst ds => .list (toPds ds)
  | _ => .none
def toPds : List D → List PyData
  | [] => []
  | d :: ds => toPd d :: toPds ds
end
mutual
/-- nothing but numbers, texts, tuples, lists -/
def plain : D → Bool
  | .non => true
  | .bl _ => true
  | .int _ => true
  | .str _ => true
  | .tup ds => plains ds
  | .lst ds => plains ds
  | _ => false
def plains : List D → Bool
  | [] => true
  | d :: ds => plain d && plains ds
end
section
variable {K : PySem.W.Frag} {M : Addr → Prop} {H : Hp}
mutual
theorem dp_of : ∀ {d : D} {v : V}, plain d = true → Rep K M H d v → Dp K H v (toPd d)
  | .non, _, _, r => by rw [non_of r]; unfold toPd; exact .non
  | .bl b, _, _, r => by rw [bl_of r]; unfold toPd; exact .bl b
  | .int i, _, _, r => by rw [int_of r]; unfold toPd; exact .int i
  | .str s, _, _, r => by rw [str_of r]; unfold toPd; exact .str s
  | .tup ds, _, p, r => by
    obtain ⟨a, xs, rfl, h, rs⟩ := tup_of r
    unfold toPd
    unfold plain at p
    exact .tup h (dps_of p rs)
  | .lst ds, _, p, r => by
    obtain ⟨a, xs, rfl, _, h, rs⟩ := lst_of r
    unfold toPd
    unfold plain at p
    exact .lst (.inl (.inl h)) (dps_of p rs)
  | .ins C ns ds, _, p, r => by unfold plain at p; cases p
  | .dK ks ds, _, p, r => by unfold plain at p; cases p
  | .dT ks ds, _, p, r => by unfold plain at p; cases p
  | .val v, _, p, r => by unfold plain at p; cases p
  | .fn _ _ _ _ _, _, p, r => by unfold plain at p; cases p
  | .scr _, _, p, r => by unfold plain at p; cases p
  | .exc _ _ _ _, _, p, r => by unfold plain at p; cases p
theorem dps_of : ∀ {ds : List D} {vs : List V}, plains ds = true → Reps K M H ds vs → DpAll K H vs (toPds ds)
  | [], _, _, r => by rw [nil_of r]; unfold toPds; exact .nil
  | d :: ds, _, p, r => by
    obtain ⟨v, vs, rfl, r1, r2⟩ := cons_of r
    unfold toPds
    unfold plains at p
    rw [Bool.and_eq_true] at p
    exact .cons (dp_of p.1 r1) (dps_of p.2 r2)
end
end
def eqD (x y : D) : Bool := PyData.eqv (toPd x) (toPd y)
/-- data that may be compared as data -/
def okEq (x : D) : Bool := plain x && SeqAt.shaped (toPd x)
def oAdd : D → D → W D
  | .int i, .int j => fun S post _ => post (.int (i + j)) S
  | .int i, .bl j => fun S post _ => post (.int (i + b2i j)) S
  | .str a, .str b => fun S post _ => a.length + b.length ≤ sizeLine ∧ post (.str (a ++ b)) S
  | .tup a, .tup b => fun S post _ => a.length + b.length ≤ 1000 ∧ post (.tup (a ++ b)) S
  | .lst a, .lst b => fun S post _ => a.length + b.length ≤ 1000 ∧ post (.lst (a ++ b)) S
  | _, _ => fun _ _ _ => False
def oSub : D → D → W D
  | .int i, .int j => fun S post _ => post (.int (i - j)) S
  | _, _ => fun _ _ _ => False
def oMul : D → D → W D
  | .int i, .int j => fun S post _ => CMulW i j ∧ post (.int (i * j)) S
  | _, _ => fun _ _ _ => False
def oDiv : D → D → W D
  | .int i, .int j => fun S post _ => Px.CDivU i j ∧ post (.int (i.fdiv j)) S
  | _, _ => fun _ _ _ => False
def oMod : D → D → W D
  | .int i, .int j => fun S post _ => j ≠ 0 ∧ post (.int (i.fmod j)) S
  | _, _ => fun _ _ _ => False
def oNeg : D → W D
  | .int i => fun S post _ => post (.int (-i)) S
  | _ => fun _ _ _ => False
def oEq (x y : D) : W D := fun S post _ => okEq x = true ∧ okEq y = true ∧ post (.bl (eqD x y)) S
def oNe (x y : D) : W D := fun S post _ => okEq x = true ∧ okEq y = true ∧ post (.bl (!eqD x y)) S
def strLt (a b : Str) : Bool := decide (a.cps.toList < b.cps.toList)
def oLt : D → D → W D
  | .int i, .int j => fun S post _ => post (.bl (decide (i < j))) S
  | .str i, .str j => fun S post _ => post (.bl (strLt i j)) S
  | _, _ => fun _ _ _ => False
def oGt : D → D → W D
  | .int i, .int j => fun S post _ => post (.bl (decide (j < i))) S
  | .str i, .str j => fun S post _ => post (.bl (strLt j i)) S
  | _, _ => fun _ _ _ => False
def isNon : D → Bool
  | .non => true
  | _ => false
/-- is None -/
def oIs : D → D → W D
  | x, .non => fun S post _ => (∀ v, x ≠ .val v) ∧ post (.bl (isNon x)) S
  | _, _ => fun _ _ _ => False
/-- x in a list or tuple of plain data -/
def inD (x : D) (ys : List D) : Bool := ys.any fun y => eqD y x
def signsIn (a b : Str) : Bool := !(Builtin.Str.occurrences b a 0 b.length 1).isEmpty
/-- one of flat values -/
def flatD : D → Bool
  | .non => true
  | .bl _ => true
  | .int _ => true
  | .str _ => true
  | _ => false
def oIn : D → D → W D
  | x, .lst ys => fun S post _ => okEq x = true ∧ okEq (.lst ys) = true ∧ post (.bl (inD x ys)) S
  | x, .tup ys => fun S post _ => flatD x = true ∧ ys.all flatD = true ∧ post (.bl (inD x ys)) S
  | .str a, .str b => fun S post _ => post (.bl (signsIn a b)) S
  | _, _ => fun _ _ _ => False
/-- an item by its place -/
def oIx : D → D → W D
  | .tup xs, .int i => fun S post _ => ∃ d, atI xs i = some d ∧ post d S
  | .lst xs, .int i => fun S post _ => ∃ d, atI xs i = some d ∧ post d S
  | .str z, .int i => fun S post _ => z.length ≤ sizeLine ∧ ∃ c, atI z.cps.toList i = some c ∧ post (.str ⟨#[c]⟩) S
  | .val (.ref a), .int i => fun S post _ => ∃ xs, S a = some (.lst xs) ∧ ∃ d, atI xs i = some d ∧ post d S
  | _, _ => fun _ _ _ => False
section
variable {X : Cx} {K : PySem.W.Frag} {T : Gx} {E : XK}
theorem at_rep {M : Addr → Prop} {H : Hp} {ds : List D} {xs : List V} {i : Int} {d : D} (r : Reps K M H ds xs) (h : atI ds i = some d) : ∃ v, atI xs i = some v ∧ Rep K M H d v := by
  unfold atI at *
  rw [r.len]
  cases q : ixN ds.length i with
  | none => rw [q] at h; cases h
  | some j =>
    rw [q] at h
    exact r.at h
theorem or_add : OpR X (binaryOp .Add) (rD2 X.K T E oAdd) := by
  rintro pins s σ H v w u1 u2 Q I ra rb ⟨x, y, S, post, xp, rx, ry, k, h, q, xx⟩
  unfold oAdd at h
  split at h
  · rename_i i j
    exact op_add pins s σ H _ _ _ _ Q I ra rb ⟨i, j, int_of rx, int_of ry, q.now k h (rint _)⟩
  · rename_i i j
    exact op_add_ib pins s σ H _ _ _ _ Q I ra rb ⟨i, j, int_of rx, bl_of ry, q.now k h (rint _)⟩
  · rename_i a b
    exact op_add_str pins s σ H _ _ _ _ Q I ra rb ⟨a, b, str_of rx, str_of ry, h.1, q.now k h.2 (rstr _)⟩
  · rename_i a b
    obtain ⟨hl, h⟩ := h
    obtain ⟨ad, xs, rfl, sq, rs⟩ := tup_of rx
    obtain ⟨bd, ys, rfl, sq', rs'⟩ := tup_of ry
    have l1 := rs.len
    have l2 := rs'.len
    refine op_catA pins s σ H _ _ _ _ Q I ra rb ⟨ad, bd, xs, ys, rfl, rfl, sq, sq', Nat.le_trans (by omega : xs.length + ys.length ≤ 1000) (by decide), fun e => ?_, fun _ e => ?_, fun _ _ p hp => ?_⟩
    · subst e
      have : a = [] := by cases a with
        | nil => rfl
        | cons _ _ => simp at l1
      subst this
      exact q.now k h ry
    · subst e
      have : b = [] := by cases b with
        | nil => rfl
        | cons _ _ => simp at l2
      subst this
      rw [List.append_nil] at h
      exact q.now k h rx
    · exact q _ _ _ _ h (rtup (.inl (.inl upd_same)) ((rs.app rs').step k (step_new hp))) (k.laid hp) (step_new hp)
  · rename_i a b
    obtain ⟨hl, h⟩ := h
    obtain ⟨ad, xs, rfl, _, sq, rs⟩ := lst_of rx
    obtain ⟨bd, ys, rfl, _, sq', rs'⟩ := lst_of ry
    have l1 := rs.len
    have l2 := rs'.len
    exact op_cat pins s σ H _ _ _ _ Q I ra rb ⟨ad, bd, xs, ys, rfl, rfl, sq, sq', Nat.le_trans (by omega : xs.length + ys.length ≤ 1000) (by decide), fun p hp => q _ _ _ _ h (rlst (k.new hp) upd_same ((rs.app rs').step k (step_new hp))) (k.laid hp) (step_new hp)⟩
  · exact h.elim
theorem or_sub : OpR X (binaryOp .Sub) (rD2 X.K T E oSub) := by
  rintro pins s σ H v w u1 u2 Q I ra rb ⟨x, y, S, post, xp, rx, ry, k, h, q, xx⟩
  unfold oSub at h
  split at h
  · rename_i i j
    exact op_sub pins s σ H _ _ _ _ Q I ra rb ⟨i, j, int_of rx, int_of ry, q.now k h (rint _)⟩
  · exact h.elim
theorem or_mul : OpR X (binaryOp .Mult) (rD2 X.K T E oMul) := by
  rintro pins s σ H v w u1 u2 Q I ra rb ⟨x, y, S, post, xp, rx, ry, k, h, q, xx⟩
  unfold oMul at h
  split at h
  · rename_i i j
    exact op_mulW pins s σ H _ _ _ _ Q I ra rb ⟨i, j, int_of rx, int_of ry, h.1, q.now k h.2 (rint _)⟩
  · exact h.elim
theorem or_div : OpR X (binaryOp .FloorDiv) (rD2 X.K T E oDiv) := by
  rintro pins s σ H v w u1 u2 Q I ra rb ⟨x, y, S, post, xp, rx, ry, k, h, q, xx⟩
  unfold oDiv at h
  split at h
  · rename_i i j
    exact Px.op_fdivU pins s σ H _ _ _ _ Q I ra rb ⟨i, j, int_of rx, int_of ry, h.1, q.now k h.2 (rint _)⟩
  · exact h.elim
theorem or_mod : OpR X (binaryOp .Mod) (rD2 X.K T E oMod) := by
  rintro pins s σ H v w u1 u2 Q I ra rb ⟨x, y, S, post, xp, rx, ry, k, h, q, xx⟩
  unfold oMod at h
  split at h
  · rename_i i j
    exact op_modN pins s σ H _ _ _ _ Q I ra rb ⟨i, j, int_of rx, int_of ry, h.1, q.now k h.2 (rint _)⟩
  · exact h.elim
theorem or_neg : UnR X (unaryOp .USub) (rD1 X.K T E oNeg) := by
  rintro pins s σ H v u Q I ra ⟨x, S, post, xp, rx, k, h, q, xx⟩
  unfold oNeg at h
  split at h
  · rename_i i
    exact un_neg pins s σ H _ _ Q I ra ⟨i, int_of rx, q.now k h (rint _)⟩
  · exact h.elim
theorem or_eq (hu : X.A.units + 64 < cLine) : OpR X (compareOp .Eq) (rD2 X.K T E oEq) := by
  rintro pins s σ H v w u1 u2 Q I ra rb ⟨x, y, S, post, xp, rx, ry, k, ⟨hx, hy, h⟩, q, xx⟩
  unfold okEq at hx hy
  rw [Bool.and_eq_true] at hx hy
  exact op_eqD hu pins s σ H _ _ _ _ Q I ra rb ⟨_, _, dp_of hx.1 rx, dp_of hy.1 ry, hx.2, hy.2, q.now k h (rbl _)⟩
theorem or_ne (hu : X.A.units + 64 < cLine) : OpR X (compareOp .NotEq) (rD2 X.K T E oNe) := by
  rintro pins s σ H v w u1 u2 Q I ra rb ⟨x, y, S, post, xp, rx, ry, k, ⟨hx, hy, h⟩, q, xx⟩
  unfold okEq at hx hy
  rw [Bool.and_eq_true] at hx hy
  exact op_neD hu pins s σ H _ _ _ _ Q I ra rb ⟨_, _, dp_of hx.1 rx, dp_of hy.1 ry, hx.2, hy.2, q.now k h (rbl _)⟩
theorem or_lt : OpR X (compareOp .Lt) (rD2 X.K T E oLt) := by
  rintro pins s σ H v w u1 u2 Q I ra rb ⟨x, y, S, post, xp, rx, ry, k, h, q, xx⟩
  unfold oLt at h
  split at h
  · rename_i i j
    exact op_lt pins s σ H _ _ _ _ Q I ra rb ⟨i, j, int_of rx, int_of ry, q.now k h (rbl _)⟩
  · rename_i i j
    exact op_lt_str pins s σ H _ _ _ _ Q I ra rb ⟨i, j, str_of rx, str_of ry, q.now k h (rbl _)⟩
  · exact h.elim
theorem or_gt : OpR X (compareOp .Gt) (rD2 X.K T E oGt) := by
  rintro pins s σ H v w u1 u2 Q I ra rb ⟨x, y, S, post, xp, rx, ry, k, h, q, xx⟩
  unfold oGt at h
  split at h
  · rename_i i j
    exact op_gt pins s σ H _ _ _ _ Q I ra rb ⟨i, j, int_of rx, int_of ry, q.now k h (rbl _)⟩
  · rename_i i j
    exact op_gt_str pins s σ H _ _ _ _ Q I ra rb ⟨i, j, str_of rx, str_of ry, q.now k h (rbl _)⟩
  · exact h.elim
theorem is_non {M : Addr → Prop} {H : Hp} {d : D} {v : V} (r : Rep K M H d v) (n : ∀ w, d ≠ .val w) : decide (v = .non) = isNon d := by
  cases d with
  | non => have e := non_of r; subst e; rfl
  | bl b => have e := bl_of r; subst e; rfl
  | int i => have e := int_of r; subst e; rfl
  | str s => have e := str_of r; subst e; rfl
  | tup ds => obtain ⟨a, xs, rfl, _⟩ := tup_of r; rfl
  | lst ds => obtain ⟨a, xs, rfl, _⟩ := lst_of r; rfl
  | ins C ns ds => obtain ⟨a, dx, fs, rfl, _⟩ := ins_of r; rfl
  | dK ks ds => obtain ⟨a, dx, rfl, _⟩ := dK_of r; rfl
  | dT ks ds => obtain ⟨a, dx, rfl, _⟩ := dT_of r; rfl
  | val w => exact absurd rfl (n w)
  | fn f c q σ ρ => obtain ⟨rfl, _⟩ := fn_of r; rfl
  | scr ns => obtain ⟨a, rfl, _⟩ := scr_of r; rfl
  | exc a C ns ds => obtain ⟨rfl, _⟩ := exc_of r; rfl
theorem or_is : OpR X (compareOp .Is) (rD2 X.K T E oIs) := by
  rintro pins s σ H v w u1 u2 Q I ra rb ⟨x, y, S, post, xp, rx, ry, k, h, q, xx⟩
  unfold oIs at h
  split at h
  · exact op_isN pins s σ H _ _ _ _ Q I ra rb ⟨non_of ry, by rw [is_non rx h.1]; exact q.now k h.2 (rbl _)⟩
  · exact h.elim
theorem any_eq (x : D) : ∀ ys : List D, ((toPds ys).any fun z => PyData.eqv z (toPd x)) = inD x ys
  | [] => rfl
  | y :: ys => by
    unfold toPds inD
    simp only [List.any_cons]
    rw [any_eq x ys]
    rfl
theorem flat_of {M : Addr → Prop} {H : Hp} {d : D} {v : V} (r : Rep K M H d v) (h : flatD d = true) : flatV v = true := by
  cases d <;> first | cases h | skip
  · rw [non_of r]; rfl
  · rw [bl_of r]; rfl
  · rw [int_of r]; rfl
  · rw [str_of r]; rfl
theorem eqV_of {M : Addr → Prop} {H : Hp} {d e : D} {v w : V} (r : Rep K M H d v) (r' : Rep K M H e w) (h : flatD d = true) (h' : flatD e = true) : eqV v w = eqD d e := by
  unfold eqD
  cases d <;> first | cases h | skip
  all_goals (cases e <;> first | cases h' | skip)
  all_goals (simp only [toPd])
  all_goals (first | (have e1 := non_of r; subst e1) | (have e1 := bl_of r; subst e1) | (have e1 := int_of r; subst e1) | (have e1 := str_of r; subst e1))
  all_goals (first | (have e2 := non_of r'; subst e2) | (have e2 := bl_of r'; subst e2) | (have e2 := int_of r'; subst e2) | (have e2 := str_of r'; subst e2))
  all_goals (simp only [eqV, PyData.eqv])
theorem inV_of {M : Addr → Prop} {H : Hp} {d : D} {v : V} (r : Rep K M H d v) (h : flatD d = true) : ∀ {ds : List D} {xs : List V}, Reps K M H ds xs → ds.all flatD = true → inV v xs = inD d ds ∧ xs.all flatV = true
  | [], _, rs, _ => by rw [nil_of rs]; exact ⟨rfl, rfl⟩
  | e :: ds, _, rs, hs => by
    obtain ⟨w, ws, rfl, r1, r2⟩ := cons_of rs
    simp only [List.all_cons, Bool.and_eq_true] at hs
    obtain ⟨e1, e2⟩ := inV_of r h r2 hs.2
    unfold inV inD at *
    simp only [List.any_cons, List.all_cons, Bool.and_eq_true]
    exact ⟨by rw [e1, eqV_of r1 r hs.1 h], flat_of r1 hs.1, e2⟩
theorem or_in (hu : X.A.units + 65 < cLine) : OpR X (compareOp .In) (rD2 X.K T E oIn) := by
  rintro pins s σ H v w u1 u2 Q I ra rb ⟨x, y, S, post, xp, rx, ry, k, h, q, xx⟩
  unfold oIn at h
  split at h
  · rename_i ys
    obtain ⟨hx, hy, h⟩ := h
    unfold okEq at hx hy
    rw [Bool.and_eq_true] at hx hy
    have dy := dp_of hy.1 ry
    have sy := hy.2
    unfold toPd at dy sy
    exact op_inD hu pins s σ H _ _ _ _ Q I ra rb ⟨_, _, dp_of hx.1 rx, dy, hx.2, sy, by rw [any_eq]; exact q.now k h (rbl _)⟩
  · rename_i ys
    obtain ⟨hx, hy, h⟩ := h
    obtain ⟨ad, xs, rfl, sq, rs⟩ := tup_of ry
    obtain ⟨e1, e2⟩ := inV_of rx hx rs hy
    exact op_in_seq pins s σ H _ _ _ _ Q I ra rb ⟨ad, xs, rfl, .inr sq, flat_of rx hx, e2, by rw [if_neg Bool.false_ne_true, e1]; exact q.now k h (rbl _)⟩
  · rename_i a b
    exact op_in_str pins s σ H _ _ _ _ Q I ra rb ⟨a, b, str_of rx, str_of ry, q.now k h (rbl _)⟩
  · exact h.elim
theorem or_ix : IxR X (rD2 X.K T E oIx) := by
  rintro value slice pins s σ H v w u1 u2 Q I ra rb ⟨x, y, S, post, xp, rx, ry, k, h, q, xx⟩ hs
  unfold oIx at h
  split at h
  · rename_i xs i
    obtain ⟨d, e, h⟩ := h
    obtain ⟨ad, vs, rfl, sq, rs⟩ := tup_of rx
    obtain ⟨z, e1, r1⟩ := at_rep rs e
    exact ix_tup value slice pins s σ H _ _ _ _ Q I ra rb ⟨ad, vs, i, z, rfl, int_of ry, sq, e1, q.now k h r1⟩ hs
  · rename_i xs i
    obtain ⟨d, e, h⟩ := h
    obtain ⟨ad, vs, rfl, _, sq, rs⟩ := lst_of rx
    obtain ⟨z, e1, r1⟩ := at_rep rs e
    exact ix_list value slice pins s σ H _ _ _ _ Q I ra rb ⟨ad, vs, i, z, rfl, int_of ry, .inl (.inl sq), e1, q.now k h r1⟩ hs
  · rename_i z i
    obtain ⟨hl, c, e, h⟩ := h
    exact ix_str value slice pins s σ H _ _ _ _ Q I ra rb ⟨z, i, c, str_of rx, int_of ry, hl, e, q.now k h (rstr _)⟩ hs
  · rename_i a i
    obtain ⟨xs, ea, d, e, h⟩ := h
    obtain rfl := val_of rx
    obtain ⟨vs, sq, rs⟩ := k.cel a _ ea
    obtain ⟨z, e1, r1⟩ := at_rep rs e
    exact ix_list value slice pins s σ H _ _ _ _ Q I ra rb ⟨a, vs, i, z, rfl, int_of ry, .inl (.inl sq), e1, q.now k h r1⟩ hs
  · exact h.elim
end
end Dw
namespace Dw
open PySem PySem.Spec PyProof.Rows L2
section
variable {X : Cx} {T : Gx} {E : XK} {a b : Expr} {es : List Expr} {pos p apos : Pos} {fs : List DE} {x : Str} {g : List D → W D} {id : String}
theorem de_callB (hc : CallR X (.builtin id) (rDs X.K T E g)) (hm : X.mg x = none) (ha : PA X (a :: es) (tA X.K T E (dArgs fs))) (hg : Gl X x := by rfl) (hv : bootBuiltins x = some (.builtin id) := by decide +kernel) (hn : x ≠ "__name__" := by decide) (hdb : (x == ("__debug__" : Str)) = false := by decide)
    (he : starEach (a :: es) X.env = (false, eval a X.env) :: starEach es X.env := by rfl) (hpl : (backTo pos (starEach es X.env)).any (·.1) = false := by rfl) : PE X (.Call (.Name x p) (a :: es) [] pos) (tE X.K T E (dCall g fs)) :=
  pe_imp (pe_callB hc hg hm hv ha hn hdb he hpl) fun σ H Q h => app_conv h
theorem de_callTy (hc : CallR X (.type id) (rDs X.K T E g)) (hm : X.mg x = none) (ha : PA X (a :: es) (tA X.K T E (dArgs fs))) (hg : Gl X x := by rfl) (hv : bootBuiltins x = some (.type id) := by decide +kernel) (hn : x ≠ "__name__" := by decide) (hdb : (x == ("__debug__" : Str)) = false := by decide)
    (he : starEach (a :: es) X.env = (false, eval a X.env) :: starEach es X.env := by rfl) (hpl : (backTo pos (starEach es X.env)).any (·.1) = false := by rfl) : PE X (.Call (.Name x p) (a :: es) [] pos) (tE X.K T E (dCall g fs)) :=
  pe_imp (pe_callTy hc hg hm hv ha hn hdb he hpl) fun σ H Q h => app_conv h
theorem de_callFun (hc : CallR X (.builtin id) (rDs X.K T E g)) (hm : X.mg x = some (.builtin id)) (ha : PA X (a :: es) (tA X.K T E (dArgs fs))) (hg : Gl X x := by rfl) (hdb : (x == ("__debug__" : Str)) = false := by decide)
    (he : starEach (a :: es) X.env = (false, eval a X.env) :: starEach es X.env := by rfl) (hpl : (backTo pos (starEach es X.env)).any (·.1) = false := by rfl) : PE X (.Call (.Name x p) (a :: es) [] pos) (tE X.K T E (dCall g fs)) :=
  pe_imp (pe_callBfun hc hg hm ha hdb he hpl) fun σ H Q h => app_conv h
theorem de_glob {v : V} {d : D} {u : Value} (hm : X.mg x = some u) (rv : L2.RelV v u) (r : ∀ M H, Rep X.K M H d v) (hg : Gl X x := by rfl) (hd : (x == ("__debug__" : Str)) = false := by decide) : PE X (.Name x pos) (tE X.K T E (dPure d)) := de_c (pe_glob hg hm rv hd) r
theorem de_bltn {v : V} {u : Value} (hm : X.mg x = none) (hv : bootBuiltins x = some u := by decide +kernel) (rv : L2.RelV v u := by rfl) (hg : Gl X x := by rfl) (hn : x ≠ "__name__" := by decide) (hd : (x == ("__debug__" : Str)) = false := by decide) : PE X (.Name x pos) (tE X.K T E (dPure (.val v))) := de_c (pe_bltn hg hm hv rv hn hd) fun _ _ => rval _
end
def lenD (S : Sto) : D → Option Nat
  | .tup xs => some xs.length
  | .lst xs => some xs.length
  | .val (.ref a) => (match S a with
    | some (.lst xs) => some xs.length
    | _ => none)
  | _ => none
def gLen : List D → W D
  | [.str z] => fun S post _ => z.length ≤ sizeLine ∧ post (.int z.length) S
  | [x] => fun S post _ => ∃ n, lenD S x = some n ∧ post (.int (n : Nat)) S
  | _ => fun _ _ _ => False
def gAbs : List D → W D
  | [.int i] => fun S post _ => post (.int (i.natAbs : Nat)) S
  | _ => fun _ _ _ => False
def gInt : List D → W D
  | [.int i] => fun S post _ => post (.int i) S
  | [.bl b] => fun S post _ => post (.int (b2i b)) S
  | _ => fun _ _ _ => False
def gGcd : List D → W D
  | [.int a, .int b] => fun S post _ => post (.int ((Nat.gcd a.natAbs b.natAbs : Nat) : Int)) S
  | _ => fun _ _ _ => False
def gAll : List D → W D
  | [.lst xs] => fun S post _ => ∃ bs : List Bool, xs = bs.map .bl ∧ post (.bl (bs.all id)) S
  | _ => fun _ _ _ => False
def gList : List D → W D
  | [.lst xs] => fun S post _ => post (.lst xs) S
  | [.tup xs] => fun S post _ => post (.lst xs) S
  | [.val (.ref a)] => fun S post _ => ∃ xs, S a = some (.lst xs) ∧ post (.lst xs) S
  | _ => fun _ _ _ => False
/-- .. that is going to change -/
def gListM : List D → W D
  | [.lst xs] => fun S post _ => ∀ p, S p = none → post (.val (.ref p)) (S.put p (.lst xs))
  | [.tup xs] => fun S post _ => ∀ p, S p = none → post (.val (.ref p)) (S.put p (.lst xs))
  | _ => fun _ _ _ => False
section
variable {X : Cx} {K : PySem.W.Frag} {T : Gx} {E : XK}
theorem lenV_of {S : Sto} {H : Hp} {d : D} {v : V} {n : Nat} (k : Ok K T S H) (r : Rep K (Mu T S) H d v) (h : lenD S d = some n) : LenV K v H n := by
  unfold lenD at h
  split at h
  · obtain ⟨a, vs, rfl, sq, rs⟩ := tup_of r
    cases h
    exact .inr ⟨vs, sq, rs.len.symm⟩
  · obtain ⟨a, vs, rfl, _, sq, rs⟩ := lst_of r
    cases h
    exact .inl ⟨vs, .inl (.inl sq), rs.len.symm⟩
  · rename_i a
    obtain rfl := val_of r
    split at h
    · rename_i xs e
      cases h
      obtain ⟨vs, sq, rs⟩ := k.cel a _ e
      exact .inl ⟨vs, .inl (.inl sq), rs.len.symm⟩
    · cases h
  · cases h
theorem one_of {M : Addr → Prop} {H : Hp} {d : D} {vs : List V} (r : Reps K M H [d] vs) : ∃ v, vs = [v] ∧ Rep K M H d v := by
  obtain ⟨v, r', rfl, r1, r2⟩ := cons_of r
  rw [nil_of r2]
  exact ⟨v, rfl, r1⟩
theorem two_of {M : Addr → Prop} {H : Hp} {d e : D} {vs : List V} (r : Reps K M H [d, e] vs) : ∃ v w, vs = [v, w] ∧ Rep K M H d v ∧ Rep K M H e w := by
  obtain ⟨v, r', rfl, r1, r2⟩ := cons_of r
  obtain ⟨w, rfl, r3⟩ := one_of r2
  exact ⟨v, w, rfl, r1, r3⟩
theorem cb_len : CallR X (.builtin "len") (rDs X.K T E gLen) := by
  rintro pins s σ H vs us Q I ra ⟨ds, S, post, xp, r, k, h, q, x⟩
  unfold gLen at h
  split at h
  · rename_i z
    obtain ⟨v, rfl, r1⟩ := one_of r
    exact call_len pins s σ H _ _ Q I ra ⟨_, _, rfl, by rw [str_of r1]; exact ⟨h.1, rfl⟩, q.now k h.2 (rint _)⟩
  · rename_i d _
    obtain ⟨v, rfl, r1⟩ := one_of r
    obtain ⟨n, e, h⟩ := h
    exact call_len pins s σ H _ _ Q I ra ⟨_, _, rfl, lenV_of k r1 e, q.now k h (rint _)⟩
  · exact h.elim
theorem cb_abs : CallR X (.builtin "abs") (rDs X.K T E gAbs) := by
  rintro pins s σ H vs us Q I ra ⟨ds, S, post, xp, r, k, h, q, x⟩
  unfold gAbs at h
  split at h
  · rename_i i
    obtain ⟨v, rfl, r1⟩ := one_of r
    exact call_abs pins s σ H _ _ Q I ra ⟨i, by rw [int_of r1], by rw [Px.abs_eq]; exact q.now k h (rint _)⟩
  · exact h.elim
theorem cb_int : CallR X (.type "int") (rDs X.K T E gInt) := by
  rintro pins s σ H vs us Q I ra ⟨ds, S, post, xp, r, k, h, q, x⟩
  unfold gInt at h
  split at h
  · rename_i i
    obtain ⟨v, rfl, r1⟩ := one_of r
    exact call_int1 pins s σ H _ _ Q I ra (.inl ⟨i, by rw [int_of r1], q.now k h (rint _)⟩)
  · rename_i b
    obtain ⟨v, rfl, r1⟩ := one_of r
    exact call_int1 pins s σ H _ _ Q I ra (.inr ⟨b, by rw [bl_of r1], by
      have z := q.now k h (rint _)
      cases b <;> exact z⟩)
  · exact h.elim
theorem cb_gcd : CallR X (.builtin "math.gcd") (rDs X.K T E gGcd) := by
  rintro pins s σ H vs us Q I ra ⟨ds, S, post, xp, r, k, h, q, x⟩
  unfold gGcd at h
  split at h
  · rename_i i j
    obtain ⟨v, w, rfl, r1, r2⟩ := two_of r
    exact cr_gcd pins s σ H _ _ Q I ra ⟨i, j, by rw [int_of r1, int_of r2], q.now k h (rint _)⟩
  · exact h.elim
theorem reps_bl {M : Addr → Prop} {H : Hp} : ∀ {bs : List Bool} {xs : List V}, Reps K M H (bs.map .bl) xs → xs = bs.map .bl
  | [], _, r => nil_of r
  | b :: bs, xs, r => by
    obtain ⟨w, ws, rfl, r1, r2⟩ := cons_of (ds := bs.map .bl) (d := .bl b) r
    rw [bl_of r1, reps_bl r2]
    rfl
theorem reps_int {M : Addr → Prop} {H : Hp} : ∀ {bs : List Int} {xs : List V}, Reps K M H (bs.map .int) xs → xs = bs.map .int
  | [], _, r => nil_of r
  | b :: bs, xs, r => by
    obtain ⟨w, ws, rfl, r1, r2⟩ := cons_of (ds := bs.map .int) (d := .int b) r
    rw [int_of r1, reps_int r2]
    rfl
theorem cb_all (hc : X.calm = true) : CallR X (.builtin "all") (rDs X.K T E gAll) := by
  rintro pins s σ H vs us Q I ra ⟨ds, S, post, xp, r, k, h, q, x⟩
  unfold gAll at h
  split at h
  · obtain ⟨v, rfl, r1⟩ := one_of r
    obtain ⟨bs, rfl, h⟩ := h
    obtain ⟨a, vs, rfl, _, sq, rs⟩ := lst_of r1
    rw [reps_bl rs] at sq
    exact cr_all hc pins s σ H _ _ Q I ra ⟨a, bs, rfl, .inl (.inl sq), q.now k h (rbl _)⟩
  · exact h.elim
theorem cb_list : CallR X (.type "list") (rDs X.K T E gList) := by
  rintro pins s σ H vs us Q I ra ⟨ds, S, post, xp, r, k, h, q, x⟩
  unfold gList at h
  split at h
  · obtain ⟨v, rfl, r1⟩ := one_of r
    obtain ⟨a, vs, rfl, _, sq, rs⟩ := lst_of r1
    exact call_list_of pins s σ H _ _ Q I ra ⟨a, vs, rfl, .inl (.inl (.inl sq)), fun l hl => q _ _ _ _ h (rlst (k.new hl) upd_same (rs.step k (step_new hl))) (k.laid hl) (step_new hl)⟩
  · obtain ⟨v, rfl, r1⟩ := one_of r
    obtain ⟨a, vs, rfl, sq, rs⟩ := tup_of r1
    exact call_list_of pins s σ H _ _ Q I ra ⟨a, vs, rfl, .inr sq, fun l hl => q _ _ _ _ h (rlst (k.new hl) upd_same (rs.step k (step_new hl))) (k.laid hl) (step_new hl)⟩
  · rename_i a
    obtain ⟨v, rfl, r1⟩ := one_of r
    obtain rfl := val_of r1
    obtain ⟨xs, e, h⟩ := h
    obtain ⟨vs, sq, rs⟩ := k.cel a _ e
    exact call_list_of pins s σ H _ _ Q I ra ⟨a, vs, rfl, .inl (.inl (.inl sq)), fun l hl => q _ _ _ _ h (rlst (k.new hl) upd_same (rs.step k (step_new hl))) (k.laid hl) (step_new hl)⟩
  · exact h.elim
theorem cb_listM : CallR X (.type "list") (rDs X.K T E gListM) := by
  rintro pins s σ H vs us Q I ra ⟨ds, S, post, xp, r, k, h, q, x⟩
  unfold gListM at h
  split at h
  · obtain ⟨v, rfl, r1⟩ := one_of r
    obtain ⟨a, vs, rfl, _, sq, rs⟩ := lst_of r1
    exact call_list_of pins s σ H _ _ Q I ra ⟨a, vs, rfl, .inl (.inl (.inl sq)), fun l hl => q _ _ _ _ (h l (k.unsto hl)) (rval _) (k.put (.inl hl) ⟨vs, upd_same, rs.step k (step_put (.inl hl))⟩) (step_put (.inl hl))⟩
  · obtain ⟨v, rfl, r1⟩ := one_of r
    obtain ⟨a, vs, rfl, sq, rs⟩ := tup_of r1
    exact call_list_of pins s σ H _ _ Q I ra ⟨a, vs, rfl, .inr sq, fun l hl => q _ _ _ _ (h l (k.unsto hl)) (rval _) (k.put (.inl hl) ⟨vs, upd_same, rs.step k (step_put (.inl hl))⟩) (step_put (.inl hl))⟩
  · exact h.elim
end
inductive Ty where
  | B (n : String)
  | C (a : Addr)
def Ty.v : Ty → V
  | .B n => .ty n
  | .C a => .ref a
def Ty.val : Ty → Value
  | .B n => .type n
  | .C a => .ref a
def tyM : MC → Option Ty
  | .lst _ => some (.B "list")
  | .ins C _ _ => some (.C C)
  | .dK _ _ => some (.B "dict")
  | .dT _ _ => some (.B "dict")
  | .bag _ _ => some (.B "list")
def tyD (S : Sto) : D → Option Ty
  | .non => some (.B "NoneType")
  | .bl _ => some (.B "bool")
  | .int _ => some (.B "int")
  | .str _ => some (.B "str")
  | .tup _ => some (.B "tuple")
  | .lst _ => some (.B "list")
  | .ins C _ _ => some (.C C)
  | .dK _ _ => some (.B "dict")
  | .val (.ref a) => (S a).bind tyM
  | _ => none
def tyNames : List String := ["NoneType", "bool", "int", "str", "tuple", "list", "dict"]
/-- what is known of own classes -/
structure IsiK (K : PySem.W.Frag) (cs : List Addr) : Prop where
  isi : ∀ c ∈ cs, Px.IsiC K c
  own : ∀ c ∈ cs, ∀ c' ∈ cs, c ≠ c' → PySem.W.kitOne K (.ref c) (.ref c') = some false
  ty : ∀ c ∈ cs, ∀ n ∈ tyNames, PySem.W.kitOne K (.type n) (.ref c) = some false
  to : ∀ c ∈ cs, ∀ n ∈ tyNames, PySem.W.kitOne K (.ref c) (.type n) = some false
def isT (cs : List Addr) : Ty → Ty → Bool → Prop
  | .B n, .B m, b => kitB n m = some b
  | .B n, .C c, b => n ∈ tyNames ∧ c ∈ cs ∧ b = false
  | .C c, .B m, b => m ∈ tyNames ∧ c ∈ cs ∧ b = false
  | .C c, .C c', b => c ∈ cs ∧ c' ∈ cs ∧ ((c = c' ∧ b = true) ∨ (c ≠ c' ∧ b = false))
def gIsi (cs : List Addr) : List D → W D
  | [x, .val (.ty n)] => fun S post _ => ∃ t b, tyD S x = some t ∧ (∀ C, t = .C C → C ∈ cs) ∧ isT cs t (.B n) b ∧ post (.bl b) S
  | [x, .val (.ref c)] => fun S post _ => ∃ t b, tyD S x = some t ∧ (∀ C, t = .C C → C ∈ cs) ∧ isT cs t (.C c) b ∧ post (.bl b) S
  | _ => fun _ _ _ => False
section
variable {X : Cx} {K : PySem.W.Frag} {T : Gx} {E : XK}
theorem tyx_ins {H : Hp} {a C dx : Addr} {fs : List (Str × V)} (i : Px.IsiC K C) (h : H a = some (.ins C dx fs)) : TyX K H (.ref a) (.ref C) := .base (.ins h i.cl i.ha i.hn i.htk i.hm)
theorem tyx_of {S : Sto} {H : Hp} {d : D} {v : V} {t : Ty} (k : Ok K T S H) (r : Rep K (Mu T S) H d v) (h : tyD S d = some t) (hC : ∀ C, t = .C C → Px.IsiC K C) : TyX K H v t.val := by
  unfold tyD at h
  split at h
  · cases h; rw [non_of r]; exact .base .non
  · cases h; rw [bl_of r]; exact .base (.bl _)
  · cases h; rw [int_of r]; exact .base (.int _)
  · cases h; rw [str_of r]; exact .base (.str _)
  · cases h
    obtain ⟨a, xs, rfl, h, _⟩ := tup_of r
    rcases h with (h | ⟨o, h⟩) | ⟨o, its, n, h1, h2, _⟩
    · exact .base (.tup h)
    · exact .fTuple h
    · exact .kTuple h1 h2
  · cases h
    obtain ⟨a, xs, rfl, _, h, _⟩ := lst_of r
    exact .base (.lst h)
  · cases h
    obtain ⟨a, dx, fs, rfl, _, h, _⟩ := ins_of r
    exact tyx_ins (hC _ rfl) h
  · cases h
    obtain ⟨a, kvs, rfl, _, h, _⟩ := dK_of r
    rcases h with h | ⟨o, h⟩
    · exact .base (.dK h)
    · exact .fDict h
  · rename_i a
    obtain rfl := val_of r
    cases e : S a with
    | none => rw [e] at h; cases h
    | some m =>
      rw [e] at h
      have c := k.cel a m e
      cases m with
      | lst ds => cases h; obtain ⟨xs, e1, _⟩ := c; exact .base (.lst e1)
      | ins C ns ds => cases h; obtain ⟨dx, fs, e1, _⟩ := c; exact tyx_ins (hC _ rfl) e1
      | dK ks ds => cases h; obtain ⟨kvs, e1, _⟩ := c; exact .base (.dK e1)
      | dT ks ds => cases h; obtain ⟨kvs, e1, _⟩ := c; exact .base (.dT e1)
      | bag c ns => cases h; obtain ⟨i, x, y, z, e1, _⟩ := c; exact .base (.lst e1)
  · cases h
theorem kit_of {cs : List Addr} (i : IsiK K cs) {t u : Ty} {b : Bool} (h : isT cs t u b) : PySem.W.kitOne K t.val u.val = some b := by
  cases t with
  | B n => cases u with
    | B m => exact kit_ty h
    | C c => obtain ⟨h1, h2, rfl⟩ := h; exact i.ty c h2 n h1
  | C c => cases u with
    | B m => obtain ⟨h1, h2, rfl⟩ := h; exact i.to c h2 m h1
    | C c' =>
      obtain ⟨h1, h2, h⟩ := h
      rcases h with ⟨rfl, rfl⟩ | ⟨n, rfl⟩
      · exact (i.isi c h1).kit
      · exact i.own c h1 c' h2 n
theorem cb_isi {cs : List Addr} (i : IsiK X.K cs) : CallR X (.builtin "isinstance") (rDs X.K T E (gIsi cs)) := by
  rintro pins s σ H vs us Q I ra ⟨ds, S, post, xp, r, k, h, q, x⟩
  unfold gIsi at h
  split at h
  · rename_i d n
    obtain ⟨v, w, rfl, r1, r2⟩ := two_of r
    obtain rfl := val_of r2
    obtain ⟨t, b, e1, e2, e3, h⟩ := h
    exact call_isi pins s σ H _ _ Q I ra ⟨v, .ty n, _, _, b, rfl, .ty n, tyx_of k r1 e1 fun C hC => i.isi C (e2 C hC), kit_of i e3, q.now k h (rbl _)⟩
  · rename_i d c
    obtain ⟨v, w, rfl, r1, r2⟩ := two_of r
    obtain rfl := val_of r2
    obtain ⟨t, b, e1, e2, e3, h⟩ := h
    exact call_isi pins s σ H _ _ Q I ra ⟨v, .ref c, _, _, b, rfl, .own c, tyx_of k r1 e1 fun C hC => i.isi C (e2 C hC), kit_of i e3, q.now k h (rbl _)⟩
  · exact h.elim
/-- isinstance(x, (t, u)): the tuple is laid by the call -/
def dIsi2 (cs : List Addr) (t u : Ty) (e : DE) : DE := fun ρ S post xp => e ρ S (fun d S1 => ∃ y b c, tyD S1 d = some y ∧ (∀ C, y = .C C → C ∈ cs) ∧ isT cs y t b ∧ isT cs y u c ∧ post (.bl (b || c)) S1) xp
theorem clsv (t : Ty) : ClsV t.v t.val := by
  cases t with
  | B n => exact .ty n
  | C a => exact .own a
theorem de_isi2 {cs : List Addr} {t u : Ty} {e : DE} {a : Expr} (i : IsiK X.K cs) (hp : PE X a (tCB (rIsiT X.K) (tCons (tE X.K T E e) (tCons (tTup (tCons (tC t.v) (tCons (tC u.v) tNil))) tNil)))) : PE X a (tE X.K T E (dIsi2 cs t u e)) := pe_imp hp (by
  rintro σ H Q ⟨ρ, S, post, xp, rl, k, h, q, x⟩
  refine ⟨ρ, S, _, xp, rl, k, h, ?_, x⟩
  rintro d S1 v H1 ⟨y, b, c, e1, e2, e3, e4, h1⟩ r1 k1 s1
  refine ⟨by show 2 ≤ sizeLine; decide, fun p hp => ?_⟩
  have s2 : Step T S1 H1 S1 (upd H1 p (.tup [t.v, u.v])) := step_new hp
  refine ⟨v, p, [t.v, u.v], _, [t.val, u.val], b || c, rfl, upd_same, .cons (clsv t) (.cons (clsv u) .nil), tyx_of (k1.laid hp) (r1.step k1 s2) e1 fun C hC => i.isi C (e2 C hC), ?_, q _ _ _ _ h1 (rbl _) (k1.laid hp) (s1.trans s2)⟩
  refine kitAny_cons (b := b) (kit_of i e3) (fun hb => ?_) fun hb => by rw [hb]; rfl
  subst hb
  refine kitAny_cons (b := c) (kit_of i e4) (fun hb => ?_) fun hb => by rw [hb]; rfl
  subst hb
  rfl)
end
end Dw
namespace Dw
open PySem PySem.Spec PyProof.Rows L2
inductive Tgt where
  | nm (i : Nat)
  | tp (ts : List Tgt)
mutual
def gT (K : PySem.W.Frag) : Tgt → TG
  | .nm i => gName i
  | .tp ts => gTup K ts.length (gTs K ts)
def gTs (K : PySem.W.Frag) : List Tgt → TGs
  | [] => gNil
  | t :: ts => gCons (gT K t) (gTs K ts)
end
mutual
def bT : Tgt → D → Lc → (Lc → Prop) → Prop
  | .nm i, d, ρ, k => k (ρ.set i (some d))
  | .tp ts, .tup ds, ρ, k => ds.length = ts.length ∧ bTs ts ds ρ k
  | .tp _, _, _, _ => False
def bTs : List Tgt → List D → Lc → (Lc → Prop) → Prop
  | [], _, ρ, k => k ρ
  | t :: ts, d :: ds, ρ, k => bT t d ρ fun ρ' => bTs ts ds ρ' k
  | _ :: _, [], _, _ => False
end
mutual
def sT : Tgt → List Nat
  | .nm i => [i]
  | .tp ts => sTs ts
def sTs : List Tgt → List Nat
  | [] => []
  | t :: ts => sT t ++ sTs ts
end
def wipeL (ρ : Lc) : List Nat → Lc
  | [] => ρ
  | v :: vs => (wipeL ρ vs).set v none
theorem wipe_in {σ : L2.St} {i : Nat} : ∀ {vs : List Nat}, i ∈ vs → (wipe σ vs)[i]? = (σ[i]?).map fun _ => none
  | [], h => nomatch h
  | v :: vs, h => by
    unfold wipe
    by_cases e : v = i
    · subst e
      by_cases hl : v < σ.length
      · rw [List.getElem?_set_self (by rw [wipe_length]; exact hl), List.getElem?_eq_getElem hl]
        rfl
      · rw [List.getElem?_eq_none (by rw [List.length_set, wipe_length]; omega), List.getElem?_eq_none (by omega)]
        rfl
    · rw [List.getElem?_set_ne e]
      exact wipe_in ((List.mem_cons.mp h).resolve_left fun z => e z.symm)
theorem wipe_set {σ : L2.St} {i : Nat} {x : Option V} {vs : List Nat} (h : i ∈ vs) : wipe (σ.set i x) vs = wipe σ vs := by
  apply List.ext_getElem?
  intro j
  by_cases hj : j ∈ vs
  · rw [wipe_in hj, wipe_in hj]
    by_cases e : i = j
    · subst e
      by_cases hl : i < σ.length
      · rw [List.getElem?_set_self hl, List.getElem?_eq_getElem hl]
        rfl
      · rw [List.getElem?_eq_none (by rw [List.length_set]; omega), List.getElem?_eq_none (by omega)]
    · rw [List.getElem?_set_ne e]
  · rw [wipe_out hj, wipe_out hj, List.getElem?_set_ne fun z => hj (by rw [← z]; exact h)]
section
variable {K : PySem.W.Frag} {M : Addr → Prop} {H : Hp}
theorem RepL.setN : ∀ {ρ : Lc} {σ : L2.St} (i : Nat), RepL K M H ρ σ → RepL K M H (ρ.set i none) (σ.set i none)
  | [], _, _, h => by rw [show _ = [] from h]; rfl
  | d0 :: ρ, _, 0, h => by
    obtain ⟨v0, σ', rfl, h1, h2⟩ := h
    exact ⟨none, σ', rfl, fun x e => (by cases e), h2⟩
  | d0 :: ρ, _, i + 1, h => by
    obtain ⟨v0, σ', rfl, h1, h2⟩ := h
    exact ⟨v0, σ'.set i none, rfl, h1, RepL.setN i h2⟩
theorem RepL.wipe {ρ : Lc} {σ : L2.St} (h : RepL K M H ρ σ) : ∀ vs : List Nat, RepL K M H (wipeL ρ vs) (L2.wipe σ vs)
  | [] => h
  | v :: vs => RepL.setN v (RepL.wipe h vs)
mutual
theorem gT_ok : ∀ (t : Tgt) {d : D} {v : V} {ρ : Lc} {σ : L2.St} {k : Lc → Prop} {Q : L2.St → Hp → Prop}, bT t d ρ k → Rep K M H d v → RepL K M H ρ σ → (∀ ρ' σ', k ρ' → RepL K M H ρ' σ' → (∀ vs, (∀ i ∈ sT t, i ∈ vs) → L2.wipe σ' vs = L2.wipe σ vs) → Q σ' H) → gT K t v σ H Q
  | .nm i, d, v, ρ, σ, k, Q, h, r, rl, q => by
    unfold gT
    unfold bT at h
    exact q _ _ h (rl.set i r) fun vs hv => wipe_set (hv i (by unfold sT; simp))
  | .tp ts, d, v, ρ, σ, k, Q, h, r, rl, q => by
    cases d with
    | tup ds =>
      unfold gT
      unfold bT at h
      obtain ⟨a, xs, rfl, sq, rs⟩ := tup_of r
      exact ⟨a, xs, rfl, sq, by rw [rs.len, h.1], gTs_ok ts h.1 h.2 rs rl fun ρ' σ' h1 h2 h3 => q ρ' σ' h1 h2 fun vs hv => h3 vs (by unfold sT at hv; exact hv)⟩
    | _ => unfold bT at h; exact h.elim
theorem gTs_ok : ∀ (ts : List Tgt) {ds : List D} {xs : List V} {ρ : Lc} {σ : L2.St} {k : Lc → Prop} {Q : L2.St → Hp → Prop}, ds.length = ts.length → bTs ts ds ρ k → Reps K M H ds xs → RepL K M H ρ σ → (∀ ρ' σ', k ρ' → RepL K M H ρ' σ' → (∀ vs, (∀ i ∈ sTs ts, i ∈ vs) → L2.wipe σ' vs = L2.wipe σ vs) → Q σ' H) → gTs K ts xs σ H Q
  | [], ds, xs, ρ, σ, k, Q, l, h, r, rl, q => by
    unfold gTs
    unfold bTs at h
    have e : ds = [] := List.length_eq_zero_iff.mp l
    subst e
    exact ⟨nil_of r, q _ _ h rl fun _ _ => rfl⟩
  | t :: ts, [], xs, ρ, σ, k, Q, l, h, r, rl, q => by simp at l
  | t :: ts, d :: ds, xs, ρ, σ, k, Q, l, h, r, rl, q => by
    unfold gTs
    unfold bTs at h
    obtain ⟨w, ws, rfl, r1, r2⟩ := cons_of r
    refine ⟨w, ws, rfl, gT_ok t h r1 rl fun ρ' σ' h1 h2 h3 => gTs_ok ts (by simpa using l) h1 r2 h2 fun ρ2 σ2 k1 k2 k3 => q ρ2 σ2 k1 k2 fun vs hv => ?_⟩
    unfold sTs at hv
    rw [k3 vs fun i hi => hv i (List.mem_append_right _ hi), h3 vs fun i hi => hv i (List.mem_append_left _ hi)]
end
end
abbrev DC := Lc → W (List D)
section
variable {K : PySem.W.Frag} {T : Gx} {E : XK} {S S' : Sto} {H H' : Hp}
/-- the heap as it was, but for lists that are being made -/
def NewB (T : Gx) (H : Hp) (B : List Addr) : Prop := ∀ a ∈ B, a ∈ T.busy ∨ H a = none
def SrcOk (K : PySem.W.Frag) (T : Gx) (J : It) (ds : List D) (S : Sto) (H : Hp) : Prop :=
  ∀ B, NewB T H B → ∀ S' H', Ok K ⟨T.tab, B⟩ S' H' → Step T S H S' H' → ∀ i,
    (ds.length ≤ i → J.stop i H') ∧ ∀ d, ds[i]? = some d → J.go i H' ∧ ∀ x H2, J.yld i H' x H2 → Rep K (Mu ⟨T.tab, B⟩ S') H2 d x ∧ Ok K ⟨T.tab, B⟩ S' H2 ∧ Step T S' H' S' H2
def tI (K : PySem.W.Frag) (T : Gx) (E : XK) (f : DC) : TI := fun σ H R => ∃ ρ S post xp, RepL K (Mu T S) H ρ σ ∧ Ok K T S H ∧ f ρ S post xp ∧ (∀ ds S' J H', post ds S' → Ok K T S' H' → Step T S H S' H' → SrcOk K T J ds S' H' → R J H') ∧ ExI K T E S H xp
theorem keepB {B : List Addr} (hB : NewB T H B) (st : Step T S H S' H') : Keeps (Mu T S) (Mu ⟨T.tab, B⟩ S') H H' := fun a o h n => ⟨(st a o h fun z => n (.inl z)).1, fun z => by
  rcases z with z | z
  · exact (st a o h fun z => n (.inl z)).2 z
  · rcases hB a z with z | z
    · exact n (.inr z)
    · rw [h] at z; cases z⟩
theorem src_list {a : Addr} {ds : List D} {xs : List V} (k : Ok K T S H) (nm : ¬ Mu T S a) (h : H a = some (.lst xs)) (r : Reps K (Mu T S) H ds xs) : SrcOk K T (Itl K a) ds S H := fun B hB S' H' k' st i => by
  have kp := keepB hB st
  have h' := (kp a _ h nm).1
  have r' := r.keep k.nt kp
  refine ⟨fun hi => ⟨xs, .inl (.inl h'), by rw [r'.len]; exact hi⟩, fun d hd => ?_⟩
  obtain ⟨v, e, rv⟩ := r'.at hd
  refine ⟨⟨xs, v, .inl (.inl h'), e⟩, ?_⟩
  rintro x H2 ⟨rfl, hx⟩
  have := hx xs (.inl (.inl h'))
  rw [e] at this
  cases this
  exact ⟨rv, k', Step.refl _ _⟩
theorem src_tup {a : Addr} {ds : List D} {xs : List V} (k : Ok K T S H) (h : SqT K H a xs) (r : Reps K (Mu T S) H ds xs) : SrcOk K T (Itt K a) ds S H := fun B hB S' H' k' st i => by
  have kp := keepB hB st
  have h' := sqT_keep k.nt kp h
  have r' := r.keep k.nt kp
  refine ⟨fun hi => ⟨xs, h', by rw [r'.len]; exact hi⟩, fun d hd => ?_⟩
  obtain ⟨v, e, rv⟩ := r'.at hd
  refine ⟨⟨xs, v, h', e⟩, ?_⟩
  rintro x H2 ⟨rfl, hx⟩
  have := hx xs h'
  rw [e] at this
  cases this
  exact ⟨rv, k', Step.refl _ _⟩
def rngD (lo : Int) (n : Nat) : List D := (List.range n).map fun (i : Nat) => .int (lo + (i : Int))
theorem src_rng {lo : Int} {n : Nat} : SrcOk K T (Itr lo n) (rngD lo n) S H := fun B hB S' H' k' st i => by
  unfold rngD
  refine ⟨fun hi => (show n ≤ i by simpa using hi), fun d hd => ?_⟩
  rw [List.getElem?_map] at hd
  by_cases hi : i < n
  · rw [List.getElem?_range hi] at hd
    cases hd
    refine ⟨hi, ?_⟩
    rintro x H2 ⟨rfl, rfl⟩
    exact ⟨rint _, k', Step.refl _ _⟩
  · rw [List.getElem?_eq_none (by simpa using hi)] at hd
    cases hd
def zipD : List D → List D → List D
  | x :: xs, y :: ys => .tup [x, y] :: zipD xs ys
  | _, _ => []
theorem zipD_at : ∀ {xs ys : List D} {i : Nat} {d : D}, (zipD xs ys)[i]? = some d → ∃ x y, d = .tup [x, y] ∧ xs[i]? = some x ∧ ys[i]? = some y
  | [], _, i, d, h => by unfold zipD at h; simp at h
  | _ :: _, [], i, d, h => by unfold zipD at h; simp at h
  | x :: xs, y :: ys, 0, d, h => by
    unfold zipD at h
    simp at h
    exact ⟨x, y, h.symm, rfl, rfl⟩
  | x :: xs, y :: ys, i + 1, d, h => by
    unfold zipD at h
    simp only [List.getElem?_cons_succ] at h ⊢
    exact zipD_at h
theorem zipD_len : ∀ {xs ys : List D} {i : Nat}, (zipD xs ys).length ≤ i → xs.length ≤ i ∨ ys.length ≤ i
  | [], _, i, h => .inl (Nat.zero_le _)
  | _ :: _, [], i, h => .inr (Nat.zero_le _)
  | x :: xs, y :: ys, 0, h => by unfold zipD at h; simp at h
  | x :: xs, y :: ys, i + 1, h => by
    unfold zipD at h
    simp only [List.length_cons, Nat.add_le_add_iff_right] at h ⊢
    exact zipD_len h
theorem src_zipL {a b : Addr} {ds es : List D} {xs ys : List V} (k : Ok K T S H) (nm : ¬ Mu T S a) (h : H a = some (.lst xs)) (r : Reps K (Mu T S) H ds xs) (nm2 : ¬ Mu T S b) (h2 : H b = some (.lst ys)) (r2 : Reps K (Mu T S) H es ys) : SrcOk K T (Itz K a b) (zipD ds es) S H := fun B hB S' H' k' st i => by
  have kp := keepB hB st
  have h' := (kp a _ h nm).1
  have h2' := (kp b _ h2 nm2).1
  have r' := r.keep k.nt kp
  have r2' := r2.keep k.nt kp
  refine ⟨fun hi => ⟨xs, ys, .inl (.inl h'), .inl (.inl h2'), by rw [r'.len, r2'.len]; exact zipD_len hi⟩, fun d hd => ?_⟩
  obtain ⟨x, y, rfl, e1, e2⟩ := zipD_at hd
  obtain ⟨v, f1, rv⟩ := r'.at e1
  obtain ⟨w, f2, rw_⟩ := r2'.at e2
  refine ⟨⟨xs, ys, v, w, .inl (.inl h'), .inl (.inl h2'), f1, f2⟩, ?_⟩
  rintro z H2 ⟨Tt, x', y', rfl, nT, rfl, hx, hy⟩
  obtain rfl : x' = v := Option.some.inj ((hx xs (.inl (.inl h'))).symm.trans f1)
  obtain rfl : y' = w := Option.some.inj ((hy ys (.inl (.inl h2'))).symm.trans f2)
  have s2 : Step ⟨T.tab, B⟩ S' H' S' (upd H' Tt (.tup [x', y'])) := step_new nT
  exact ⟨rtup (.inl (.inl upd_same)) (rcons (rv.step k' s2) (rcons (rw_.step k' s2) rnil)), k'.laid nT, s2⟩
theorem src_zipT {a b : Addr} {ds es : List D} {xs ys : List V} (k : Ok K T S H) (h : SqT K H a xs) (r : Reps K (Mu T S) H ds xs) (h2 : SqT K H b ys) (r2 : Reps K (Mu T S) H es ys) : SrcOk K T (RZ.ItzT K a b) (zipD ds es) S H := fun B hB S' H' k' st i => by
  have kp := keepB hB st
  have h' := sqT_keep k.nt kp h
  have h2' := sqT_keep k.nt kp h2
  have r' := r.keep k.nt kp
  have r2' := r2.keep k.nt kp
  refine ⟨fun hi => ⟨xs, ys, h', h2', by rw [r'.len, r2'.len]; exact zipD_len hi⟩, fun d hd => ?_⟩
  obtain ⟨x, y, rfl, e1, e2⟩ := zipD_at hd
  obtain ⟨v, f1, rv⟩ := r'.at e1
  obtain ⟨w, f2, rw_⟩ := r2'.at e2
  refine ⟨⟨xs, ys, v, w, h', h2', f1, f2⟩, ?_⟩
  rintro z H2 ⟨Tt, x', y', rfl, nT, rfl, hx, hy⟩
  obtain rfl : x' = v := Option.some.inj ((hx xs h').symm.trans f1)
  obtain rfl : y' = w := Option.some.inj ((hy ys h2').symm.trans f2)
  have s2 : Step ⟨T.tab, B⟩ S' H' S' (upd H' Tt (.tup [x', y'])) := step_new nT
  exact ⟨rtup (.inl (.inl upd_same)) (rcons (rv.step k' s2) (rcons (rw_.step k' s2) rnil)), k'.laid nT, s2⟩
end
def cRng (fs : List DE) : DC := fun ρ S post xp => dArgs fs ρ S (fun ds S' => match ds with
  | [.int j] => (-(2 ^ 62) ≤ j ∧ j < 2 ^ 62) ∧ post (rngD 0 j.toNat) S'
  | _ => False) xp
def cZip (fs : List DE) : DC := fun ρ S post xp => dArgs fs ρ S (fun ds S' => match ds with
  | [.lst xs, .lst ys] => post (zipD xs ys) S'
  | [.tup xs, .tup ys] => post (zipD xs ys) S'
  | _ => False) xp
section
variable {X : Cx} {T : Gx} {E : XK} {a b tg : Expr} {es elts : List Expr} {kk : Nat} {tpos p pos : Pos} {f : DE} {fs : List DE}
theorem pi_imp {w w' : TI} (h : PI X tg a w) (i : ∀ σ H R, w' σ H R → w σ H R) : PI X tg a w' := ⟨fun pins s σ H R I q => h.run pins s σ H R I (i σ H R q)⟩
theorem ci_rng (hm : X.mg "range" = none) (ha : PA X [a] (tA X.K T E (dArgs fs))) (hg : Gl X "range" := by rfl) (hs : starEach [a] X.env = [(false, eval a X.env)] := by rfl) : PI X tg (.Call (.Name "range" p) [a] [] pos) (tI X.K T E (cRng fs)) := pi_imp (pi_range1 hg hm ha hs) (by
  rintro σ H R ⟨ρ, S, post, xp, rl, k, h, q, x⟩
  refine ⟨ρ, S, _, xp, rl, k, h, ?_, x⟩
  intro ds S1 vs H1 h1 r1 k1 s1
  split at h1
  · rename_i j
    obtain ⟨v, rfl, r2⟩ := one_of r1
    exact ⟨j, by rw [int_of r2], h1.1.1, h1.1.2, q _ _ _ _ h1.2 k1 s1 src_rng⟩
  · exact h1.elim)
theorem ci_zip (hm : X.mg "zip" = none) (ha : PA X [a, b] (tA X.K T E (dArgs fs))) (hg : Gl X "zip" := by rfl) (hs : starEach [a, b] X.env = (false, eval a X.env) :: starEach [b] X.env := by rfl) (hpl : (backTo pos (starEach [b] X.env)).any (·.1) = false := by rfl) :
    PI X (.Tuple elts kk tpos) (.Call (.Name "zip" p) [a, b] [] pos) (tI X.K T E (cZip fs)) := pi_imp (RZ.pi_zipA hg hm ha hs hpl) (by
  rintro σ H R ⟨ρ, S, post, xp, rl, k, h, q, x⟩
  refine ⟨ρ, S, _, xp, rl, k, h, ?_, x⟩
  intro ds S1 vs H1 h1 r1 k1 s1
  split at h1
  · obtain ⟨v, w, rfl, r2, r3⟩ := two_of r1
    obtain ⟨ad, xs, rfl, nm, e, rs⟩ := lst_of r2
    obtain ⟨bd, ys, rfl, nm2, e2, rs2⟩ := lst_of r3
    exact ⟨ad, bd, xs, ys, rfl, .inl ⟨.inl (.inl e), .inl (.inl e2), q _ _ _ _ h1 k1 s1 (src_zipL k1 nm e rs nm2 e2 rs2)⟩⟩
  · obtain ⟨v, w, rfl, r2, r3⟩ := two_of r1
    obtain ⟨ad, xs, rfl, e, rs⟩ := tup_of r2
    obtain ⟨bd, ys, rfl, e2, rs2⟩ := tup_of r3
    exact ⟨ad, bd, xs, ys, rfl, .inr ⟨e, e2, q _ _ _ _ h1 k1 s1 (src_zipT k1 e rs e2 rs2)⟩⟩
  · exact h1.elim)
end
def wFor (t : Tgt) (body : DS) : List D → DS
  | [], ρ, S, p => p.nx ρ S
  | d :: ds, ρ, S, p => bT t d ρ fun ρ' => body ρ' S { nx := fun ρ2 S2 => wFor t body ds ρ2 S2 p, rt := p.rt, bk := p.nx, ct := fun ρ2 S2 => wFor t body ds ρ2 S2 p, xp := p.xp }
def dFor (t : Tgt) (src : DC) (body : DS) : DS := fun ρ S p => src ρ S (fun ds S' => wFor t body ds ρ S' p) p.xp
section
variable {X : Cx} {T : Gx} {E : XK} {iter tg : Expr} {body : List Stmt} {pos : Pos} {src : DC} {t : Tgt} {u : DS}
theorem newB_self {H : Hp} : NewB T H T.busy := fun _ h => .inl h
theorem for_conv {K : PySem.W.Frag} {Dd : Ends} {σ : L2.St} {H : Hp} (h : tS K T E (dFor t src u) Dd σ H) : tFor (tI K T E src) (gT K t) (tS K T E u) Dd σ H := by
  obtain ⟨ρ, S, p, rl, k, h, n, r, bk, ct, x⟩ := h
  refine ⟨ρ, S, _, p.xp, rl, k, h, ?_, x⟩
  intro ds S1 J H1 h1 k1 s1 so
  refine ⟨fun i m σ' H' => m = ds.length - i ∧ i ≤ ds.length ∧ ∃ ρ' S', RepL K (Mu T S') H' ρ' σ' ∧ Ok K T S' H' ∧ Step T S1 H1 S' H' ∧ wFor t u (ds.drop i) ρ' S' p, ⟨ds.length, by simp, Nat.zero_le _, ρ, S1, rl.step k s1, k1, Step.refl _ _, by rw [List.drop_zero]; exact h1⟩, ?_⟩
  rintro i m σ' H' ⟨rfl, hi, ρ', S', rl', k', s', hw⟩
  obtain ⟨so1, so2⟩ := so T.busy newB_self S' H' k' s' i
  by_cases hlt : i < ds.length
  · have hd : ds[i]? = some ds[i] := List.getElem?_eq_getElem hlt
    obtain ⟨hgo, hy⟩ := so2 _ hd
    refine .inr ⟨hgo, fun σ2 H2 => ∃ ρ2 S2, RepL K (Mu T S2) H2 ρ2 σ2 ∧ Ok K T S2 H2 ∧ Step T S1 H1 S2 H2 ∧ wFor t u (ds.drop (i + 1)) ρ2 S2 p, fun σ2 H2 q => ⟨ds.length - (i + 1), by omega, rfl, hlt, q⟩, ?_⟩
    intro v H2 hyl
    obtain ⟨rv, k2, s2⟩ := hy v H2 hyl
    rw [List.drop_eq_getElem_cons hlt] at hw
    unfold wFor at hw
    refine gT_ok t hw rv (rl'.step k' s2) fun ρ2 σ2 hb rl2 _ => ?_
    have st2 := s'.trans s2
    refine ⟨ρ2, S', _, rl2, k2, hb, ?_, (r.from s1).from st2, ?_, ?_, (x.from s1).from st2⟩
    · exact fun ρ3 S3 σ3 H3 h3 rl3 k3 s3 => ⟨ρ3, S3, rl3, k3, st2.trans s3, h3⟩
    · exact (n.from s1).from st2
    · exact fun ρ3 S3 σ3 H3 h3 rl3 k3 s3 => ⟨ρ3, S3, rl3, k3, st2.trans s3, h3⟩
  · have e : i = ds.length := by omega
    subst e
    rw [List.drop_length] at hw
    exact .inl ⟨so1 (Nat.le_refl _), n _ _ _ _ hw rl' k' (s1.trans s')⟩
theorem ds_for (hp : PassesOwn (model X.prog X.w) X.A X.env X.xe) (hi : PI X tg iter (tI X.K T E src)) (hg : PG X tg (gT X.K t)) (hb : PSs X body (tS X.K T E u)) (hc : X.calm = true := by rfl) (hs : ∀ x, foldedSetIterable iter X.env x = pure x := by intro _; rfl) :
    PS X (.For tg iter body [] pos) (tS X.K T E (dFor t src u)) := ps_imp (ps_for hp hc hi hg hb hs) fun Dd σ H h => for_conv h
end
def wWhile (c : DT) (body : DS) : Nat → DS
  | 0, _, _, _ => False
  | n + 1, ρ, S, p => c ρ S (fun b S1 => if b = true then body ρ S1 { nx := fun ρ2 S2 => wWhile c body n ρ2 S2 p, rt := p.rt, bk := p.nx, ct := fun ρ2 S2 => wWhile c body n ρ2 S2 p, xp := p.xp } else p.nx ρ S1) p.xp
/-- so many turns at most -/
def dWhile (c : DT) (body : DS) : DS := fun ρ S p => ∃ n, wWhile c body n ρ S p
section
variable {X : Cx} {T : Gx} {E : XK} {c : Expr} {body : List Stmt} {pos : Pos} {ct : DT} {u : DS}
theorem ds_while {K : PySem.W.Frag} (hp : PassesOwn (model X.prog X.w) X.A X.env X.xe) (hc : PT X c (tB K T E ct)) (hb : PSs X body (tS K T E u)) : PS X (.While c body [] pos) (tS K T E (dWhile ct u)) := ps_imp (ps_while hp hc hb) (by
  rintro Dd σ H ⟨ρ, S, p, rl, k, ⟨m, h⟩, n, r, bk, ct', x⟩
  refine ⟨fun m σ' H' => ∃ ρ' S', RepL K (Mu T S') H' ρ' σ' ∧ Ok K T S' H' ∧ Step T S H S' H' ∧ wWhile ct u m ρ' S' p, ⟨m, ρ, S, rl, k, Step.refl _ _, h⟩, ?_⟩
  rintro m σ' H' ⟨ρ', S', rl', k', s', hw⟩
  cases m with
  | zero => exact hw.elim
  | succ m =>
    unfold wWhile at hw
    refine ⟨ρ', S', _, p.xp, rl', k', hw, ?_, x.from s'⟩
    rintro b S1 b' H1 h1 rfl k1 s1
    have st := s'.trans s1
    cases b with
    | true =>
      rw [if_pos rfl] at h1 ⊢
      refine ⟨fun σ2 H2 => ∃ ρ2 S2, RepL K (Mu T S2) H2 ρ2 σ2 ∧ Ok K T S2 H2 ∧ Step T S H S2 H2 ∧ wWhile ct u m ρ2 S2 p, fun σ2 H2 q => ⟨m, Nat.lt_succ_self _, q⟩, ρ', S1, _, rl'.step k' s1, k1, h1, ?_, r.from st, n.from st, ?_, x.from st⟩
      · exact fun ρ3 S3 σ3 H3 h3 rl3 k3 s3 => ⟨ρ3, S3, rl3, k3, st.trans s3, h3⟩
      · exact fun ρ3 S3 σ3 H3 h3 rl3 k3 s3 => ⟨ρ3, S3, rl3, k3, st.trans s3, h3⟩
    | false =>
      rw [if_neg Bool.false_ne_true] at h1 ⊢
      exact n _ _ _ _ h1 (rl'.step k' s1) k1 st)
end
end Dw
namespace Dw
open PySem PySem.Spec PyProof.Rows L2
def dYes : DT := fun _ S post _ => post true S
def wLc (ρ : Lc) (t : Tgt) (c : DT) (elt : DE) : List D → List D → W (List D)
  | [], acc, S, post, _ => post acc S
  | d :: ds, acc, S, post, xp => bT t d ρ fun ρ' => c ρ' S (fun b S1 => if b = true then elt ρ' S1 (fun y S2 => wLc ρ t c elt ds (acc ++ [y]) S2 post xp) noX else wLc ρ t c elt ds acc S1 post xp) noX
def dLc (vs : List Nat) (t : Tgt) (src : DC) (c : DT) (elt : DE) : DE := fun ρ S post xp => src ρ S (fun ds S1 => ds.length ≤ 1000 ∧ wLc (wipeL ρ vs) t c elt ds [] S1 (fun acc S2 => post (.lst acc) S2) xp) xp
section
variable {K : PySem.W.Frag} {T : Gx} {E : XK} {S S' : Sto} {H H' : Hp} {Dd : Addr}
def Gx.more (T : Gx) (d : Addr) : Gx := ⟨T.tab, d :: T.busy⟩
theorem Ok.enter (k : Ok K T S H) {xs : List V} (n : H Dd = none) : Ok K (T.more Dd) S (upd H Dd (.lst xs)) := by
  have k1 := k.laid (o := .lst xs) n
  have kp : Keeps (Mu T S) (Mu (T.more Dd) S) (upd H Dd (.lst xs)) (upd H Dd (.lst xs)) → True := fun _ => trivial
  refine ⟨k1.tabs, fun a ha => ?_, fun a m h => ?_⟩
  · rcases List.mem_cons.mp ha with rfl | ha
    · exact ⟨⟨xs, upd_same⟩, k.unsto n⟩
    · exact k1.bus a ha
  · have c := k.cel a m h
    have ne : a ≠ Dd := fun z => k.there (.inl (.inl ⟨m, h⟩)) (by rw [z]; exact n)
    have st : Keeps (Mu T S) (Mu (T.more Dd) S) H (upd H Dd (.lst xs)) := fun b u e q => by
      have nb := ne_of_none e n
      rw [upd_ne nb]
      refine ⟨e, fun z => ?_⟩
      rcases z with z | z
      · exact q (.inl z)
      · rcases List.mem_cons.mp z with z | z
        · exact nb z
        · exact q (.inr z)
    cases m with
    | lst ds => obtain ⟨ys, e1, r⟩ := c; exact ⟨ys, by rw [upd_ne ne]; exact e1, r.keep k.nt st⟩
    | ins C ns ds => obtain ⟨dx, fs, e1, e2, r⟩ := c; exact ⟨dx, fs, by rw [upd_ne ne]; exact e1, e2, r.keep k.nt st⟩
    | dK ks ds => obtain ⟨kvs, e1, e2, r⟩ := c; exact ⟨kvs, by rw [upd_ne ne]; exact e1, e2, r.keep k.nt st⟩
    | dT ks ds => obtain ⟨kvs, e1, e2, r⟩ := c; exact ⟨kvs, by rw [upd_ne ne]; exact e1, e2, r.keep k.nt st⟩
    | bag cc ns =>
      obtain ⟨i, x, y, z, e1, A, hc, nc⟩ := c
      have q := rd_keep st nc hc
      exact ⟨i, x, y, z, by rw [upd_ne ne]; exact e1, ⟨A.ne, .inl q.1, A.i0, A.x0, A.y0, A.y1⟩, q.1, q.2⟩
theorem mu_less {a : Addr} (h : Mu T S a) : Mu (T.more Dd) S a := h.imp id fun z => List.mem_cons_of_mem _ z
theorem Reps.less {ds : List D} {vs : List V} (k : Ok K (T.more Dd) S H) (r : Reps K (Mu (T.more Dd) S) H ds vs) : Reps K (Mu T S) H ds vs := r.keep k.nt fun a o e n => ⟨e, fun z => n (mu_less z)⟩
theorem Ok.leave (k : Ok K (T.more Dd) S H) : Ok K T S H := by
  refine ⟨k.tabs, fun a ha => k.bus a (List.mem_cons_of_mem _ ha), fun a m h => ?_⟩
  have c := k.cel a m h
  have st : Keeps (Mu (T.more Dd) S) (Mu T S) H H := fun b u e q => ⟨e, fun z => q (mu_less z)⟩
  cases m with
  | lst ds => obtain ⟨ys, e1, r⟩ := c; exact ⟨ys, e1, r.keep k.nt st⟩
  | ins C ns ds => obtain ⟨dx, fs, e1, e2, r⟩ := c; exact ⟨dx, fs, e1, e2, r.keep k.nt st⟩
  | dK ks ds => obtain ⟨kvs, e1, e2, r⟩ := c; exact ⟨kvs, e1, e2, r.keep k.nt st⟩
  | dT ks ds => obtain ⟨kvs, e1, e2, r⟩ := c; exact ⟨kvs, e1, e2, r.keep k.nt st⟩
  | bag cc ns =>
    obtain ⟨i, x, y, z, e1, A, hc, nc⟩ := c
    have q := rd_keep st nc hc
    exact ⟨i, x, y, z, e1, ⟨A.ne, .inl q.1, A.i0, A.x0, A.y0, A.y1⟩, q.1, q.2⟩
theorem busy_nm (k : Ok K (T.more Dd) S H) (nb : Dd ∉ T.busy) : ¬ Mu T S Dd := fun z => by
  obtain ⟨⟨xs, e⟩, e2⟩ := k.bus Dd (List.mem_cons_self ..)
  rcases z with (⟨m, z⟩ | ⟨q, z⟩) | z
  · rw [e2] at z; cases z
  · obtain ⟨ps, e3, _⟩ := k.tabs _ z
    rw [e] at e3; cases e3
  · exact nb z
theorem busy_nv (k : Ok K (T.more Dd) S H) : ¬ Mv T S Dd := fun z => by
  obtain ⟨⟨xs, e⟩, e2⟩ := k.bus Dd (List.mem_cons_self ..)
  rcases z with ⟨m, z⟩ | ⟨q, z⟩
  · rw [e2] at z; cases z
  · obtain ⟨ps, e3, _⟩ := k.tabs _ z
    rw [e] at e3; cases e3
/-- one more item -/
theorem keep_more {xs : List V} : Keeps (Mu (T.more Dd) S) (Mu (T.more Dd) S) H (upd H Dd (.lst xs)) := fun a o e n => by
  have ne : a ≠ Dd := fun z => n (.inr (by rw [z]; exact List.mem_cons_self ..))
  rw [upd_ne ne]
  exact ⟨e, n⟩
theorem Ok.more (k : Ok K (T.more Dd) S H) {xs : List V} : Ok K (T.more Dd) S (upd H Dd (.lst xs)) := by
  obtain ⟨⟨ys, eD⟩, eS⟩ := k.bus Dd (List.mem_cons_self ..)
  have ch : Px.Ex (fun a => a = Dd) H (upd H Dd (.lst xs)) := fun a o h n => by rw [upd_ne n]; exact h
  have tb : LamX.Tabs (T.more Dd).tab (upd H Dd (.lst xs)) := fun q hq => by
    obtain ⟨ps, h1, h2, h3⟩ := k.tabs q hq
    refine ⟨ps, ?_, h2, fun pos cv hc => ?_⟩
    · rw [upd_ne fun z => by rw [z, eD] at h1; cases h1]; exact h1
    · obtain ⟨c, e1, e2⟩ := h3 pos cv hc
      refine ⟨c, e1, ?_⟩
      rw [upd_ne fun z => by rw [z, eD] at e2; unfold LamX.CodeO at e2; cases e2]; exact e2
  refine ⟨tb, fun a ha => ?_, fun a m h => ?_⟩
  · by_cases z : a = Dd
    · subst z; exact ⟨⟨xs, upd_same⟩, eS⟩
    · rw [upd_ne z]; exact k.bus a ha
  · have c := k.cel a m h
    have ne : a ≠ Dd := fun z => by rw [z, eS] at h; cases h
    cases m with
    | lst ds => obtain ⟨ys, e1, r⟩ := c; exact ⟨ys, by rw [upd_ne ne]; exact e1, r.keep k.nt keep_more⟩
    | ins C ns ds => obtain ⟨dx, fs, e1, e2, r⟩ := c; exact ⟨dx, fs, by rw [upd_ne ne]; exact e1, e2, r.keep k.nt keep_more⟩
    | dK ks ds => obtain ⟨kvs, e1, e2, r⟩ := c; exact ⟨kvs, by rw [upd_ne ne]; exact e1, e2, r.keep k.nt keep_more⟩
    | dT ks ds => obtain ⟨kvs, e1, e2, r⟩ := c; exact ⟨kvs, by rw [upd_ne ne]; exact e1, e2, r.keep k.nt keep_more⟩
    | bag cc ns =>
      obtain ⟨i, x, y, z, e1, A, hc, nc⟩ := c
      have q := rd_keep (keep_more (xs := xs)) nc hc
      exact ⟨i, x, y, z, by rw [upd_ne ne]; exact e1, ⟨A.ne, .inl q.1, A.i0, A.x0, A.y0, A.y1⟩, q.1, q.2⟩
end
section
variable {T : Gx} {E : XK} {t : Tgt} {vs : List Nat} {src : DC} {c : DT} {elt : DE}
theorem lc_core {K : PySem.W.Frag} (hv : ∀ i ∈ sT t, i ∈ vs) {tt : TT} {te : TE} (htt : ∀ T' : Gx, T'.tab = T.tab → ∀ σ H Q, tB K T' E0 c σ H Q → tt σ H Q) (hte : ∀ T' : Gx, T'.tab = T.tab → ∀ σ H Q, tE K T' E0 elt σ H Q → te σ H Q)
    {ρ : Lc} {S1 : Sto} {H1 : Hp} {σ : L2.St} {J : It} {ds : List D} {post : List D → Sto → Prop} {xp : Xp} {Q : VK} (rl : RepL K (Mu T S1) H1 ρ σ) (k1 : Ok K T S1 H1) (so : SrcOk K T J ds S1 H1) (hl : ds.length ≤ 1000) (hw : wLc (wipeL ρ vs) t c elt ds [] S1 post xp)
    (fin : ∀ Dd acc S' H' xs, H1 Dd = none → post acc S' → H' Dd = some (.lst xs) → Reps K (Mu (T.more Dd) S') H' acc xs → Ok K (T.more Dd) S' H' → Step T S1 H1 S' H' → Q (.ref Dd) H') :
    ∀ Dd, H1 Dd = none → ∃ Wi : Nat → Nat → Hp → Prop, (∃ m, Wi 0 m (upd H1 Dd (.lst []))) ∧ ∀ i m H, Wi i m H →
      (J.stop i H ∧ Q (.ref Dd) H) ∨ (J.go i H ∧ ∃ Nx : Hp → Prop, (∀ H', Nx H' → ∃ m', m' < m ∧ Wi (i + 1) m' H') ∧ ∀ x H', J.yld i H x H' → gT K t x (wipe σ vs) H' fun σ2 H2 => wipe σ2 vs = wipe σ vs ∧ tt σ2 H2 fun b H3 =>
        if b = true then te σ2 H3 fun y H4 => ∃ acc, H4 Dd = some (.lst acc) ∧ acc.length < sizeLine ∧ Nx (upd H4 Dd (.lst (acc ++ [y]))) else Nx H3) := by
  intro Dd nd
  have nb : Dd ∉ T.busy := fun z => by
    obtain ⟨⟨xs, e⟩, _⟩ := k1.bus Dd z
    rw [nd] at e; cases e
  have sN : Step T S1 H1 S1 (upd H1 Dd (.lst [])) := step_new nd
  refine ⟨fun i m H' => m = ds.length - i ∧ i ≤ ds.length ∧ ∃ S' acc xs, H' Dd = some (.lst xs) ∧ Reps K (Mu (T.more Dd) S') H' acc xs ∧ acc.length ≤ i ∧ Ok K (T.more Dd) S' H' ∧ Step T S1 H1 S' H' ∧ wLc (wipeL ρ vs) t c elt (ds.drop i) acc S' post xp,
    ⟨ds.length, by simp, Nat.zero_le _, S1, [], [], upd_same, rnil, Nat.le_refl _, k1.enter nd, sN, by rw [List.drop_zero]; exact hw⟩, ?_⟩
  rintro i m H' ⟨rfl, hi, S', acc, xs, eD, ra, la, k', s', hw'⟩
  obtain ⟨so1, so2⟩ := so (Dd :: T.busy) (fun a ha => (List.mem_cons.mp ha).elim (fun z => .inr (by rw [z]; exact nd)) .inl) S' H' k' s' i
  by_cases hlt : i < ds.length
  · have hd : ds[i]? = some ds[i] := List.getElem?_eq_getElem hlt
    obtain ⟨hgo, hy⟩ := so2 _ hd
    rw [List.drop_eq_getElem_cons hlt] at hw'
    unfold wLc at hw'
    have trk : ∀ {a o}, H1 a = some o → a ≠ Dd := fun {a o} e => ne_of_none e nd
    refine .inr ⟨hgo, fun H2 => ∃ S2 acc2 xs2, H2 Dd = some (.lst xs2) ∧ Reps K (Mu (T.more Dd) S2) H2 acc2 xs2 ∧ acc2.length ≤ i + 1 ∧ Ok K (T.more Dd) S2 H2 ∧ Step T S1 H1 S2 H2 ∧ wLc (wipeL ρ vs) t c elt (ds.drop (i + 1)) acc2 S2 post xp, fun H2 q => ⟨ds.length - (i + 1), by omega, rfl, hlt, q⟩, ?_⟩
    intro v H2 hyl
    obtain ⟨rv, k2, s2⟩ := hy v H2 hyl
    have kk2 : Ok K (T.more Dd) S' H2 := k2
    have s2' : Step T S' H' S' H2 := s2
    have rl' : RepL K (Mu (T.more Dd) S') H2 ρ σ := by
      have kp : Keeps (Mu T S1) (Mu (T.more Dd) S') H1 H2 := keepB (fun a ha => (List.mem_cons.mp ha).elim (fun z => .inr (by rw [z]; exact nd)) .inl) (s'.trans s2')
      have go : ∀ {ρ : Lc} {σ : L2.St}, RepL K (Mu T S1) H1 ρ σ → RepL K (Mu (T.more Dd) S') H2 ρ σ := by
        intro ρ
        induction ρ with
        | nil => exact fun h => h
        | cons d ρ ih =>
          rintro σ ⟨v, σ', e, h1, h2⟩
          exact ⟨v, σ', e, fun x ex => let ⟨w, e1, r⟩ := h1 x ex; ⟨w, e1, r.keep k1.nt kp⟩, ih h2⟩
      exact go rl
    refine gT_ok t hw' rv (rl'.wipe vs) fun ρ2 σ2 hb rl2 hw2 => ⟨by
      rw [hw2 vs hv]
      apply List.ext_getElem?
      intro j
      by_cases hj : j ∈ vs
      · rw [wipe_in hj]
        cases q : (wipe σ vs)[j]? with
        | none => rfl
        | some o => rw [wipe_in hj] at q; cases e : σ[j]? with
          | none => rw [e] at q; cases q
          | some _ => rw [e] at q; cases q; rfl
      · rw [wipe_out hj], ?_⟩
    refine htt (T.more Dd) rfl _ _ _ ⟨ρ2, S', _, noX, rl2, kk2, hb, ?_, noX_ex⟩
    rintro b S3 b' H3 h3 rfl k3 s3
    have s3' : Step T S' H2 S3 H3 := s3
    have eD2 : H2 Dd = some (.lst xs) := (s2' _ _ eD (busy_nv k')).1
    have ra2 : Reps K (Mu (T.more Dd) S') H2 acc xs := ra.keep k'.nt (keepB (T := T.more Dd) (B := (T.more Dd).busy) (fun a h => .inl h) s2')
    have eD3 : H3 Dd = some (.lst xs) := (s3' _ _ eD2 (busy_nv kk2)).1
    have ra3 : Reps K (Mu (T.more Dd) S3) H3 acc xs := ra2.step kk2 s3
    have st3 : Step T S1 H1 S3 H3 := (s'.trans s2').trans s3'
    cases b with
    | true =>
      rw [if_pos rfl] at h3 ⊢
      refine hte (T.more Dd) rfl _ _ _ ⟨ρ2, S3, _, noX, rl2.step kk2 s3, k3, h3, ?_, noX_ex⟩
      intro y S4 w H4 h4 r4 k4 s4
      have s4' : Step T S3 H3 S4 H4 := s4
      have eD4 : H4 Dd = some (.lst xs) := (s4' _ _ eD3 (busy_nv k3)).1
      have ra4 : Reps K (Mu (T.more Dd) S4) H4 acc xs := ra3.step k3 s4
      have lx : xs.length ≤ i := by rw [ra.len]; exact la
      refine ⟨xs, eD4, Nat.lt_of_le_of_lt lx (Nat.lt_of_lt_of_le (Nat.lt_of_lt_of_le hlt hl) (by decide)), S4, acc ++ [y], xs ++ [w], upd_same, (ra4.keep k4.nt keep_more).snoc (r4.keep k4.nt keep_more), by simp; omega, k4.more, ?_, h4⟩
      intro a o e n
      have z := (st3.trans s4') a o e n
      rw [upd_ne (trk e)]
      exact z
    | false =>
      rw [if_neg Bool.false_ne_true] at h3 ⊢
      exact ⟨S3, acc, xs, eD3, ra3, by omega, k3, st3, h3⟩
  · have e : i = ds.length := by omega
    subst e
    rw [List.drop_length] at hw'
    unfold wLc at hw'
    exact .inl ⟨so1 (Nat.le_refl _), fin Dd acc S' H' xs nd hw' eD ra k' s'⟩
variable {X : Cx} {iter tg e : Expr} {ifs : List Expr} {scope : Scope} {own : List (Str × Nat)} {pos : Pos}
theorem de_lc (hN : X.N.Nodup) (hi : PI X tg iter (tI X.K T E src)) (ok : BlkOk X.N X.env.scope scope own) (hv : ∀ i ∈ sT t, i ∈ own.map (·.2))
    (hg : ∀ (s : Shared) (H : Hp) (C : Addr) (cl : List (Str × Addr)) (fp : List Addr), PG (X.blk s H scope (compEnvC scope cl C X.env) fp) tg (gT X.K t))
    (ht : ∀ (T' : Gx), T'.tab = T.tab → ∀ (s : Shared) (H : Hp) (C : Addr) (cl : List (Str × Addr)) (fp : List Addr), PTs (X.blk s H scope (compEnvC scope cl C X.env) fp) ifs (tB X.K T' E0 c))
    (he : ∀ (T' : Gx), T'.tab = T.tab → ∀ (s : Shared) (H : Hp) (C : Addr) (cl : List (Str × Addr)) (fp : List Addr), PE (X.blk s H scope (compEnvC scope cl C X.env) fp) e (tE X.K T' E0 elt)) (hc : X.calm = true := by rfl) (hs : ∀ x, foldedSetIterable iter X.env x = pure x := by intro _; rfl) :
    PE X (.ListComp e [⟨tg, iter, ifs, 0⟩] scope pos) (tE X.K T E (dLc (own.map (·.2)) t src c elt)) := by
  refine pe_imp (pe_lc (tt := fun σ H Q => ∃ T' : Gx, T'.tab = T.tab ∧ tB X.K T' E0 c σ H Q) (te := fun σ H Q => ∃ T' : Gx, T'.tab = T.tab ∧ tE X.K T' E0 elt σ H Q) hc hN hi ok hg (fun s H C cl fp => ⟨fun pins s2 σ H2 Q I ⟨T', e1, q⟩ => (ht T' e1 s H C cl fp).run pins s2 σ H2 Q I q⟩) (fun s H C cl fp => ⟨fun pins s2 σ H2 Q I ⟨T', e1, q⟩ => (he T' e1 s H C cl fp).run pins s2 σ H2 Q I q⟩) hs) ?_
  rintro σ H Q ⟨ρ, S, post, xp, rl, k, h, q, x⟩
  refine ⟨ρ, S, _, xp, rl, k, h, ?_, x⟩
  rintro ds S1 J H1 ⟨hl, h1⟩ k1 s1 so
  refine lc_core (T := T) (c := c) (elt := elt) (tt := fun σ H Q => ∃ T' : Gx, T'.tab = T.tab ∧ tB X.K T' E0 c σ H Q) (te := fun σ H Q => ∃ T' : Gx, T'.tab = T.tab ∧ tE X.K T' E0 elt σ H Q) hv (fun T' e σ H Q q => ⟨T', e, q⟩) (fun T' e σ H Q q => ⟨T', e, q⟩) (rl.step k s1) k1 so hl h1 fun Dd acc S' H' xs nd hp eD ra k' s' => ?_
  have nb : Dd ∉ T.busy := fun z => by
    obtain ⟨⟨ys, e⟩, _⟩ := k1.bus Dd z
    rw [nd] at e; cases e
  exact q _ _ _ _ hp (rlst (busy_nm k' nb) eD (ra.less k')) k'.leave (s1.trans s')
theorem dts_nil {K : PySem.W.Frag} : PTs X [] (tB K T E dYes) := ⟨fun pins s σ H Q I h => pts_nil.run pins s σ H Q I (by
  obtain ⟨ρ, S, post, xp, rl, k, h, q, _⟩ := h
  exact q.now k h rfl)⟩
theorem dts_one {K : PySem.W.Frag} {a : Expr} (h : PT X a (tB K T E c)) : PTs X [a] (tB K T E c) := pts_one h
end
end Dw
namespace Dw
open PySem PySem.Spec PyProof.Rows L2
def putL (f : Str) (y : D) : List Str → List D → List Str × List D
  | n :: ns, d :: ds => if n = f then (n :: ns, y :: ds) else ((n :: (putL f y ns ds).1), d :: (putL f y ns ds).2)
  | _, _ => ([f], [y])
section
variable {K : PySem.W.Frag} {M : Addr → Prop} {H : Hp}
theorem putF_rep {f : Str} {y : D} {w : V} (r : Rep K M H y w) : ∀ {fs : List (Str × V)} {ns : List Str} {ds : List D}, fs.map (·.1) = ns → Reps K M H ds (fs.map (·.2)) → (putF f w fs).map (·.1) = (putL f y ns ds).1 ∧ Reps K M H (putL f y ns ds).2 ((putF f w fs).map (·.2))
  | [], ns, ds, e, rs => by
    subst e
    cases ds with
    | nil => exact ⟨rfl, rcons r rnil⟩
    | cons d ds => obtain ⟨_, _, e, _⟩ := cons_of rs; cases e
  | (g, v) :: fs, ns, ds, e, rs => by
    cases ds with
    | nil => have z := nil_of rs; cases z
    | cons d ds =>
      obtain ⟨v', r', e', r1, r2⟩ := cons_of rs
      cases e'
      subst e
      unfold putF putL
      simp only [List.map_cons]
      by_cases hg : g = f
      · rw [if_pos hg, if_pos hg]
        exact ⟨by simp, rcons r r2⟩
      · rw [if_neg hg, if_neg hg]
        obtain ⟨h1, h2⟩ := putF_rep r (fs := fs) rfl r2
        exact ⟨by simp only [List.map_cons]; rw [h1], rcons r1 h2⟩
end
/-- C(..): a new instance, then __init__; fz: it changes no more behind that -/
def dNew (C : Addr) (g : List D → W D) (fz : Bool) (dd : List D) (fs : List DE) : DE := fun ρ S post xp => dArgs fs ρ S (fun ds S1 => ∀ a, S1 a = none →
  g (.val (.ref a) :: (ds ++ dd)) (S1.put a (.ins C [] [])) (fun r S2 => r = .non ∧ if fz = true then frz (.val (.ref a)) S2 post else post (.val (.ref a)) S2) xp) xp
/-- o.f = e -/
def dSto (Cs : List Addr) (f : Str) (o e : DE) : DS := fun ρ S p => e ρ S (fun y S1 => o ρ S1 (fun d S2 => ∃ a C ns ds, d = .val (.ref a) ∧ S2 a = some (.ins C ns ds) ∧ C ∈ Cs ∧ ns.length < 1000 ∧ p.nx ρ (S2.put a (.ins C (putL f y ns ds).1 (putL f y ns ds).2))) p.xp) p.xp
/-- a class of the text: how it is made -/
structure NewOk (P : Program) (w : World) (K : PySem.W.Frag) (mg : Str → Option Value) (base : Heap) (tb : List (Addr × Str)) (x : Str) (ps : List Str) (lv : Nat) (C : Addr) (g : List D → W D) (f : Addr) (fd : FuncData) : Prop where
  at_ : mg x = some (.ref C)
  mkC : Mk K C f
  bd : Binds K fd ps []
  ok : FnOk P w K mg base (L2.CX P w) lv f fd ps (spD K tb ps.length g)
section
variable {X : Cx} {T : Gx} {E : XK} {a b o : Expr} {es : List Expr} {pos p apos pos' : Pos} {fs : List DE} {x : Str} {ps : List Str} {lv j : Nat} {g : List D → W D} {f C : Addr} {fd : FuncData} {us : List Value} {tb : List (Addr × Str)} {fz : Bool}
theorem make_conv {K : PySem.W.Frag} {n : Nat} {dd : List D} {dvs : List V} (rd : ∀ M H, Reps K M H dd dvs) (hn : fs.length + dd.length + 1 = n) {σ : L2.St} {H : Hp} {Q : VK} (h : tE K T E (dNew C g fz dd fs) σ H Q) :
    tMake C (spD K T.tab n g) dvs E (tA K T E (dArgs fs)) σ H Q := by
  obtain ⟨ρ, S, post, xp, rl, k, h, q, x⟩ := h
  refine ⟨ρ, S, _, xp, rl, k, (by unfold dNew at h; rw [dArgs_len] at h; exact h), ?_, x⟩
  rintro ds S1 vs H1 ⟨l1, h1⟩ r1 k1 s1 y dx ny ndx nex
  have k2 := k1.laid (o := .own y) ndx
  have s2 : Step T S1 H1 S1 (upd H1 dx (.own y)) := step_new ndx
  have ny2 : upd H1 dx (.own y) y = none := by rw [upd_ne (Ne.symm nex)]; exact ny
  have s3 : Step T S1 (upd H1 dx (.own y)) (S1.put y (.ins C [] [])) (upd (upd H1 dx (.own y)) y (.ins C dx [])) := step_put (.inl ny2)
  have k3 : Ok K T (S1.put y (.ins C [] [])) (upd (upd H1 dx (.own y)) y (.ins C dx [])) := k2.put (.inl ny2) ⟨dx, [], upd_same, rfl, rnil⟩
  have st := s1.trans (s2.trans s3)
  refine spD_of (ds := .val (.ref y) :: (ds ++ dd)) (by rw [List.length_cons, List.length_append, l1, hn]) (rcons (rval _) (((r1.step k1 (s2.trans s3))).app (rd _ _))) k3 (h1 y (k1.unsto ny)) ?_ (x.from st)
  rintro r S4 v H4 ⟨rfl, h4⟩ rv k4 s4
  refine ⟨non_of rv, ?_⟩
  cases fz with
  | true =>
    rw [if_pos rfl] at h4
    obtain ⟨d', S5, p5, r5, k5, s5⟩ := frz_ok k4 (rval _) h4
    exact q _ _ _ _ p5 r5 k5 (st.trans (s4.trans s5))
  | false =>
    rw [if_neg Bool.false_ne_true] at h4
    exact q _ _ _ _ h4 (rval _) k4 (st.trans s4)
theorem de_newD {dd : List D} {dvs : List V} (N : NewOk X.prog X.w X.K X.mg X.base tb x ps lv C g f fd) (hT : T.tab = tb) (hr : Room j X.A) (px : Passes (L2.CX X.prog X.w) X E) (ha : PA X (a :: es) (tA X.K T E (dArgs fs))) (hb : Binds X.K fd ps us) (hd : Vals dvs us) (rd : ∀ M H, Reps X.K M H dd dvs) (hn : fs.length + dd.length + 1 = ps.length := by rfl)
    (hg : Gl X x := by rfl) (hj : Nat.ble (lv + 1) j = true := by rfl) (hdb : (x == ("__debug__" : Str)) = false := by decide) (he : starEach (a :: es) X.env = (false, eval a X.env) :: starEach es X.env := by rfl) (hpl : (backTo pos (starEach es X.env)).any (·.1) = false := by rfl) :
    PE X (.Call (.Name x p) (a :: es) [] pos) (tE X.K T E (dNew C g fz dd fs)) := by
  subst hT
  exact pe_imp (pe_make N.mkC N.ok (hr.mono (Nat.le_of_ble_eq_true hj)) hg N.at_ hb hd px ha hdb he hpl) fun σ H Q h => make_conv rd hn h
theorem de_new (N : NewOk X.prog X.w X.K X.mg X.base tb x ps lv C g f fd) (hT : T.tab = tb) (hr : Room j X.A) (px : Passes (L2.CX X.prog X.w) X E) (ha : PA X (a :: es) (tA X.K T E (dArgs fs))) (hn : fs.length + 0 + 1 = ps.length := by rfl)
    (hg : Gl X x := by rfl) (hj : Nat.ble (lv + 1) j = true := by rfl) (hdb : (x == ("__debug__" : Str)) = false := by decide) (he : starEach (a :: es) X.env = (false, eval a X.env) :: starEach es X.env := by rfl) (hpl : (backTo pos (starEach es X.env)).any (·.1) = false := by rfl) :
    PE X (.Call (.Name x p) (a :: es) [] pos) (tE X.K T E (dNew C g fz [] fs)) := by
  subst hT
  exact pe_imp (pe_make N.mkC N.ok (hr.mono (Nat.le_of_ble_eq_true hj)) hg N.at_ N.bd .nil px ha hdb he hpl) fun σ H Q h => make_conv (dd := []) (fun _ _ => rnil) hn h
theorem ds_sto {n : Str} {Cs : List Addr} {eo ev : DE} (hC : ∀ C ∈ Cs, Cls X.K C ∧ NoAttr X.K C n) (ho : PE X o (tE X.K T E eo)) (hv : PE X a (tE X.K T E ev)) (hs : swapsWith a (some (.Attribute o n pos')) pos.line X.env = pure false := by rfl) : PS X (.Assign [.Attribute o n pos'] a pos) (tS X.K T E (dSto Cs n eo ev)) := ps_imp (ps_fld ho hv hs) (by
  rintro Dd σ H ⟨ρ, S, p, rl, k, h, nx, r, bk, ct, x⟩
  refine ⟨ρ, S, _, p.xp, rl, k, h, ?_, x⟩
  intro y S1 v H1 h1 r1 k1 s1
  refine ⟨ρ, S1, _, p.xp, rl.step k s1, k1, h1, ?_, x.from s1⟩
  rintro d S2 w H2 ⟨ad, C, ns, ds, rfl, e, hm, hl, h2⟩ r2 k2 s2
  obtain rfl := val_of r2
  obtain ⟨dx, fs, e1, e2, rs⟩ := k2.cel ad _ e
  have st := s1.trans s2
  have s3 : Step T S2 H2 (S2.put ad (.ins C (putL n y ns ds).1 (putL n y ns ds).2)) (upd H2 ad (.ins C dx (putF n v fs))) := step_put (.inr (.inl ⟨_, e⟩))
  have r1' := (r1.step k1 s2).step k2 s3
  obtain ⟨p1, p2⟩ := putF_rep (f := n) r1' e2 (rs.step k2 s3)
  refine ⟨ad, C, dx, fs, rfl, e1, (hC C hm).1, (hC C hm).2, by rw [← List.length_map (·.1), e2]; exact hl, ?_⟩
  exact nx _ _ _ _ h2 ((rl.step k st).step k2 s3) (k2.put (.inr ⟨_, e⟩) ⟨dx, _, upd_same, p1, p2⟩) (st.trans s3))
def isOf0 (S : Sto) (d : D) (C : Addr) : Prop := match d with
  | .ins C' _ _ => C' = C
  | .val (.ref a) => ∃ ns ds, S a = some (.ins C ns ds)
  | _ => False
theorem isOf0_ok {K : PySem.W.Frag} {S : Sto} {H : Hp} {d : D} {v : V} {C : Addr} (k : Ok K T S H) (r : Rep K (Mu T S) H d v) (h : isOf0 S d C) : ∃ a dx fs, v = .ref a ∧ H a = some (.ins C dx fs) := by
  unfold isOf0 at h
  split at h
  · cases h
    obtain ⟨a, dx, fs, rfl, _, h, e, rs⟩ := ins_of r
    exact ⟨a, dx, fs, rfl, h⟩
  · obtain ⟨ns, ds, h⟩ := h
    obtain rfl := val_of r
    obtain ⟨dx, fs, e1, e2, _⟩ := k.cel _ _ h
    exact ⟨_, dx, fs, rfl, e1⟩
  · exact h.elim
def dProp (ms : Ms) (e : DE) : DE := fun ρ S post xp => e ρ S (fun d S1 => ∃ C g, (C, g) ∈ ms ∧ isOf0 S1 d C ∧ g [d] S1 post noX) xp
structure PropOk (P : Program) (w : World) (K : PySem.W.Frag) (mg : Str → Option Value) (base : Heap) (tb : List (Addr × Str)) (n : Str) (lv : Nat) (C : Addr) (g : List D → W D) : Prop where
  cl : Cls K C
  ex : ∃ p f fd ps, PropOf K C n p f ∧ ps.length = 1 ∧ Binds K fd ps [] ∧ FnOk P w K mg base (L2.CX P w) lv f fd ps (spD K tb ps.length g)
theorem de_prop {ms : Ms} {n : Str} {e : DE} (he : PE X a (tE X.K T E e)) (hM : ∀ q ∈ ms, PropOk X.prog X.w X.K X.mg X.base tb n lv q.1 q.2) (hT : T.tab = tb) (hr : Room j X.A) (hj : Nat.ble (lv + 1) j = true := by rfl) (hab : attributeBase a n X.env (eval a X.env) = eval a X.env := by rfl) : PE X (.Attribute a n pos) (tE X.K T E (dProp ms e)) := by
  subst hT
  constructor
  rintro pins s σ H Q I ⟨ρ, S, post, xp, rl, k, h, q, x⟩
  refine attr_of hab (thn (he.run pins s σ H _ I ⟨ρ, S, _, xp, rl, k, h, fun d S1 v H1 h1 r1 k1 s1 => (⟨d, S1, h1, r1, k1, s1⟩ : ∃ d S1, (∃ C g, (C, g) ∈ ms ∧ isOf0 S1 d C ∧ g [d] S1 post noX) ∧ Rep X.K (Mu T S1) H1 d v ∧ Ok X.K T S1 H1 ∧ Step T S H S1 H1), x⟩) ?_)
  rintro u s1 ⟨v, H1, I1, rv, d, S1, ⟨C, g, hm, hi, h1⟩, r1, k1, st1⟩
  obtain ⟨ad, dx, fs', rfl, ea⟩ := isOf0_ok k1 r1 hi
  obtain rfl : u = Value.ref ad := rv
  obtain ⟨cl, p, f, fd, ps, hP, hp, hb, F⟩ := hM _ hm
  refine getprop_ok (dvs := []) (ds := []) (E := E0) I1 ea cl hP F (hr.mono (Nat.le_of_ble_eq_true hj)) hb .nil passL ?_
  exact spD_of (ds := [d]) (by rw [hp]; rfl) (rcons r1 rnil) k1 h1 (q.from st1) noX_ex
/-- both of one own class -/
def oOwn (ms : Ms) : D → D → W D := fun x y S post xp => ∃ C g, (C, g) ∈ ms ∧ isOf0 S x C ∧ isOf0 S y C ∧ g [x, y] S post xp
structure OwnOk (P : Program) (w : World) (K : PySem.W.Frag) (mg : Str → Option Value) (base : Heap) (tb : List (Addr × Str)) (n : Str) (lv : Nat) (C : Addr) (g : List D → W D) : Prop where
  first : PySem.W.selfFirst K C = true
  ex : ∃ f fd ps, PySem.W.findIn K (.ref C) n = some (some (.ref f)) ∧ PySem.W.isFn K (.ref f) = true ∧ ps.length = 2 ∧ Binds K fd ps [] ∧ FnOk P w K mg base (L2.CX P w) lv f fd ps (spD K tb ps.length g)
theorem or_own {op : Operator} {ms : Ms} (hM : ∀ q ∈ ms, OwnOk X.prog X.w X.K X.mg X.base tb (PySem.dunder op.info.2) lv q.1 q.2) (hT : T.tab = tb) (hr : Room j X.A) (px : Passes (L2.CX X.prog X.w) X E) (hj : Nat.ble lv j = true := by rfl) : OpR X (binaryOp op) (rD2 X.K T E (oOwn ms)) := by
  subst hT
  rintro pins s σ H v w u1 u2 Q I ra rb ⟨x, y, S, post, xp, rx, ry, k, ⟨C, g, hm, h1, h2, h⟩, q, xx⟩
  obtain ⟨ad, dx, fs', rfl, ea⟩ := isOf0_ok k rx h1
  obtain ⟨bd, dy, gs', rfl, eb⟩ := isOf0_ok k ry h2
  obtain ⟨first, f, fd, ps, at_, isf, hp, hb, F⟩ := hM _ hm
  exact Px.op_own F (hr.mono (Nat.le_of_ble_eq_true hj)) hb px first at_ isf pins s σ H _ _ _ _ Q I ra rb ⟨ad, dx, fs', bd, dy, gs', rfl, rfl, ea, eb, spD_of (ds := [x, y]) (by rw [hp]; rfl) (rcons rx (rcons ry rnil)) k h q xx⟩
def oOr (o o' : D → D → W D) : D → D → W D := fun x y S post xp => o x y S post xp ∨ o' x y S post xp
theorem or_or {f : Value → Value → Sem Value} {o o' : D → D → W D} (h : OpR X f (rD2 X.K T E o)) (h' : OpR X f (rD2 X.K T E o')) : OpR X f (rD2 X.K T E (oOr o o')) := by
  rintro pins s σ H v w u1 u2 Q I ra rb ⟨x, y, S, post, xp, rx, ry, k, hh, q, xx⟩
  rcases hh with hh | hh
  · exact h pins s σ H _ _ _ _ Q I ra rb ⟨x, y, S, post, xp, rx, ry, k, hh, q, xx⟩
  · exact h' pins s σ H _ _ _ _ Q I ra rb ⟨x, y, S, post, xp, rx, ry, k, hh, q, xx⟩
/-- the left one of an own class -/
def oOwnEq (ms : Ms) (cs : List Addr) : D → D → W D := fun x y S post xp => ∃ C g, (C, g) ∈ ms ∧ isOf0 S x C ∧ (∃ t, tyD S y = some t ∧ (∀ C', t = .C C' → C' ∈ cs)) ∧ g [x, y] S post xp
end
end Dw
set_option maxHeartbeats 1000000
namespace Dw
open PySem PySem.Spec PyProof.Rows L2
section
variable {X : Cx} {T : Gx} {E : XK} {lv j : Nat} {tb : List (Addr × Str)} {cs : List Addr}
theorem tyD_names {S : Sto} {d : D} {n : String} (h : tyD S d = some (.B n)) : n ∈ tyNames := by
  unfold tyD at h
  split at h <;> first | (cases h; decide) | cases h | skip
  rename_i a
  cases e : S a with
  | none => rw [e] at h; cases h
  | some m =>
    rw [e] at h
    cases m <;> first | (cases h; decide) | cases h
/-- what a class with an own == must have; cs: the own classes -/
structure EqcOk (P : Program) (w : World) (K : PySem.W.Frag) (mg : Str → Option Value) (base : Heap) (tb : List (Addr × Str)) (cs : List Addr) (lv : Nat) (C : Addr) (g : List D → W D) : Prop where
  nf : ∀ n ∈ tyNames, PySem.W.notFirst K C (.type n) = true
  nc : ∀ c ∈ cs, PySem.W.notFirst K C (.ref c) = true
  mro : PySem.W.mroIn K C (.type "object") = some true
  ex : ∃ f fd ps, PySem.W.findIn K (.ref C) "__eq__" = some (some (.ref f)) ∧ PySem.W.isFn K (.ref f) = true ∧ ps.length = 2 ∧ Binds K fd ps [] ∧ FnOk P w K mg base (L2.CX P w) lv f fd ps (spD K tb ps.length g)
  ne : PySem.W.findIn K (.ref C) "__ne__" = some (some (.builtin "object.__ne__"))
theorem or_ownEq {ms : Ms} (i : IsiK X.K cs) (hM : ∀ q ∈ ms, EqcOk X.prog X.w X.K X.mg X.base tb cs lv q.1 q.2) (hT : T.tab = tb) (hr : Room j X.A) (px : Passes (L2.CX X.prog X.w) X E) (hj : Nat.ble lv j = true := by rfl) : OpR X (compareOp .Eq) (rD2 X.K T E (oOwnEq ms cs)) := by
  subst hT
  rintro pins s σ H v w u1 u2 Q I ra rb ⟨x, y, S, post, xp, rx, ry, k, ⟨C, g, hm, h1, ⟨t, ht, hC⟩, h⟩, q, xx⟩
  obtain ⟨ad, dx, fs', rfl, ea⟩ := isOf0_ok k rx h1
  obtain rfl : u1 = Value.ref ad := ra
  obtain ⟨nf, nc, _, ⟨f, fd, ps, at_, isf, hp, hb, F⟩, _⟩ := hM _ hm
  obtain ⟨m, Fm⟩ := I.fr
  obtain ⟨mA, O, _⟩ := ins_get I.hok ea
  obtain ⟨od, J, _⟩ := O.look
  obtain ⟨Pp, Z, pz, _⟩ := L2.kit_of I rb (tyx_of k ry ht fun C hc => i.isi C (hC C hc))
  have hn : PySem.W.notFirst X.K C t.val = true := by
    cases t with
    | B n => exact nf n (tyD_names ht)
    | C c => exact nc c (hC c rfl)
  show wpAny _ _ (richCompare .Eq (.ref ad) u2) _ _ _
  have hr' := hr.mono (Nat.le_of_ble_eq_true hj)
  refine PySem.W.cmp_K hr'.units0 Fm I.ok.mod.kin J (Z.ty _ _ I.kIn pz) hn at_ isf ?_
  refine wpAny_mono (run_fn (us := [.ref ad, u2]) (vs := [.ref ad, w]) (dvs := []) F hr' hb .nil px I (.cons rfl (.cons rb .nil)) (spD_of (ds := [x, y]) (by rw [hp]; rfl) (rcons rx (rcons ry rnil)) k h q xx)) (fun r s' h => ?_) fun _ _ z => z
  obtain ⟨w', H', I', r', q'⟩ := h
  exact Px.back_of (Px.not_ni r') ⟨w', H', I', r', q'⟩
end
end Dw
set_option maxHeartbeats 2000000
namespace Dw
open PySem PySem.Spec PyProof.Rows L2
structure EsOk (es : List DictEntry) (mA : Str → Option Value) : Prop where
  str : ∀ x ∈ es, ∃ n t, x.key = .str n t
  uni : es.Pairwise fun a b => ∀ n, a.key.isStr n = true → b.key.isStr n = true → False
  fnd : ∀ y, (es.find? fun e => e.key.isStr y).map (·.val) = mA y
section
open PySem.W
theorem isStr_str {n m : Str} {t : Tok} : (Value.str n t).isStr m = decide (n = m) := by
  show (n == m) = decide (n = m)
  by_cases h : n = m
  · subst h; simp
  · simp [h]
theorem EsOk.get {es : List DictEntry} {mA : Str → Option Value} (h : EsOk es mA) (n : Str) : (getL n es).isSome = true := by
  unfold getL
  split
  · rfl
  · have : es.any (·.refKey) = false := by
      rw [List.any_eq_false]
      intro x hx
      obtain ⟨m, t, e⟩ := h.str x hx
      simp [DictEntry.refKey, e]
    rw [if_neg (by rw [this]; decide)]
    rfl
theorem putL_key {n : Str} {hs : Int} {t : Tok} {v : Value} : ∀ {es : List DictEntry}, ∀ x ∈ PySem.W.putL n hs (.str n t) v es, x.key = .str n t ∨ ∃ y ∈ es, x.key = y.key
  | [], x, hx => by
    simp only [PySem.W.putL, List.mem_singleton] at hx
    subst hx; exact .inl rfl
  | e :: r, x, hx => by
    unfold PySem.W.putL at hx
    split at hx
    · rcases List.mem_cons.mp hx with rfl | hx
      · exact .inr ⟨e, List.mem_cons_self .., rfl⟩
      · exact .inr ⟨x, List.mem_cons_of_mem _ hx, rfl⟩
    · rcases List.mem_cons.mp hx with rfl | hx
      · exact .inr ⟨x, List.mem_cons_self .., rfl⟩
      · rcases putL_key x hx with q | ⟨y, hy, q⟩
        · exact .inl q
        · exact .inr ⟨y, List.mem_cons_of_mem _ hy, q⟩
theorem putL_find1 {n : Str} {hs : Int} {t : Tok} {v : Value} {y : Str} : ∀ {es : List DictEntry}, ((PySem.W.putL n hs (.str n t) v es).find? fun e => e.key.isStr y).map (·.val) = if y = n then some v else (es.find? fun e => e.key.isStr y).map (·.val)
  | [] => by
    by_cases h : y = n
    · subst h
      rw [if_pos rfl]
      simp [PySem.W.putL, isStr_str]
    · rw [if_neg h]
      have h' : ¬ n = y := fun z => h z.symm
      simp [PySem.W.putL, isStr_str, h']
  | e :: r => by
    unfold PySem.W.putL
    by_cases he : e.key.isStr n = true
    · rw [if_pos he]
      by_cases h : y = n
      · subst h
        rw [if_pos rfl]
        simp [he]
      · rw [if_neg h]
        have : e.key.isStr y = false := by
          cases k : e.key with
          | str m u =>
            rw [k, isStr_str] at he
            rw [isStr_str]
            have hm := of_decide_eq_true he
            subst hm
            exact decide_eq_false fun z => h z.symm
          | _ => rw [k] at he; simp [Value.isStr] at he
        simp [this]
    · rw [if_neg he]
      rw [List.find?_cons, List.find?_cons]
      cases k : e.key.isStr y with
      | true =>
        have hy : ¬ y = n := fun z => he (by rw [← z]; exact k)
        rw [if_neg hy]
      | false => exact putL_find1
theorem putL_uni {n : Str} {hs : Int} {t : Tok} {v : Value} : ∀ {es : List DictEntry}, es.Pairwise (fun a b => ∀ n, a.key.isStr n = true → b.key.isStr n = true → False) → (PySem.W.putL n hs (.str n t) v es).Pairwise fun a b => ∀ n, a.key.isStr n = true → b.key.isStr n = true → False
  | [], _ => List.pairwise_singleton _ _
  | e :: r, h => by
    obtain ⟨h1, h2⟩ := List.pairwise_cons.mp h
    unfold PySem.W.putL
    split
    · exact List.pairwise_cons.mpr ⟨fun b hb m q1 q2 => h1 b hb m q1 q2, h2⟩
    · rename_i he
      refine List.pairwise_cons.mpr ⟨fun b hb m q1 q2 => ?_, putL_uni h2⟩
      rcases putL_key b hb with q | ⟨y, hy, q⟩
      · rw [q, isStr_str] at q2
        have hm := of_decide_eq_true q2
        subst hm
        exact he q1
      · rw [q] at q2
        exact h1 y hy m q1 q2
theorem EsOk.put {es : List DictEntry} {mA : Str → Option Value} (h : EsOk es mA) {n : Str} {hs : Int} {t : Tok} {v : Value} : EsOk (PySem.W.putL n hs (.str n t) v es) (fun y => if y = n then some v else mA y) :=
  ⟨fun x hx => by
    rcases putL_key x hx with q | ⟨y, hy, q⟩
    · exact ⟨n, t, q⟩
    · obtain ⟨m, u, e⟩ := h.str y hy
      exact ⟨m, u, by rw [q, e]⟩, putL_uni h.uni, fun y => by rw [putL_find1, h.fnd]⟩
theorem EsOk.nil : EsOk [] fun _ => none := ⟨(fun _ h => nomatch h), .nil, fun _ => rfl⟩
end
end Dw
set_option maxHeartbeats 2000000
set_option maxHeartbeats 2000000
set_option maxHeartbeats 2000000
set_option maxHeartbeats 2000000
namespace Dw
open PySem PySem.Spec PyProof.Rows L2
/-- the arguments in the order of the parameters -/
def permD (perm : List Nat) (ds : List D) : List D := perm.map fun i => ds.getD i .non
section
variable {K : PySem.W.Frag} {M : Addr → Prop} {H : Hp}
theorem reps_getD : ∀ {ds : List D} {vs : List V}, Reps K M H ds vs → ∀ i, Rep K M H (ds.getD i .non) (vs.getD i .non)
  | [], _, r, i => by rw [nil_of r]; simpa using rnon
  | d :: ds, _, r, 0 => by
    obtain ⟨v, vs, rfl, r1, _⟩ := cons_of r
    simpa using r1
  | d :: ds, _, r, i + 1 => by
    obtain ⟨v, vs, rfl, _, r2⟩ := cons_of r
    simpa using reps_getD r2 i
theorem reps_perm {ds : List D} {vs : List V} (r : Reps K M H ds vs) : ∀ perm : List Nat, Reps K M H (perm.map fun i => ds.getD i .non) (perm.map fun i => vs.getD i .non)
  | [] => rnil
  | i :: l => rcons (reps_getD r i) (reps_perm r l)
end
section
variable {X : Cx} {T : Gx} {E : XK} {a b o fe : Expr} {es : List Expr} {kws : List Keyword} {ks ps : List Str} {pos p apos kpos : Pos} {fs kfs : List DE} {x : Str} {lv j : Nat} {g : List D → W D} {f C : Addr} {fd : FuncData} {us : List Value} {tb : List (Addr × Str)} {fz : Bool} {nm : Option Str} {perm : List Nat} {e : DE}
theorem pk_imp {t t' : TA} (h : PK X kws t) (i : ∀ σ H Q, t' σ H Q → t σ H Q) : PK X kws t' := ⟨fun ps pins s σ H Q I q => h.run ps pins s σ H Q I (i σ H Q q)⟩
theorem dk_nil : PK X [] (tA X.K T E (dArgs [])) := pk_imp pk_nil (by
  rintro σ H Q ⟨ρ, S, post, xp, rl, k, h, q, _⟩
  exact q.now k h rnil)
theorem dk_cons {f : DE} {fs : List DE} (ha : PE X a (tE X.K T E f)) (hr : PK X kws (tA X.K T E (dArgs fs))) : PK X (⟨nm, a, kpos⟩ :: kws) (tA X.K T E (dArgs (f :: fs))) := pk_imp (pk_cons ha hr) (by
  rintro σ H Q ⟨ρ, S, post, xp, rl, k, h, q, x⟩
  refine ⟨ρ, S, _, xp, rl, k, h, ?_, x⟩
  intro d S1 v H1 h1 r1 k1 s1
  refine ⟨ρ, S1, _, xp, rl.step k s1, k1, h1, ?_, x.from s1⟩
  intro ds S2 vs H2 h2 r2 k2 s2
  exact q _ _ _ _ h2 (rcons (r1.step k1 s2) r2) k2 (s1.trans s2))
def dStat (g : List D → W D) : DE := fun _ S post xp => g [] S post xp
structure StatOk (P : Program) (w : World) (K : PySem.W.Frag) (mg : Str → Option Value) (base : Heap) (tb : List (Addr × Str)) (x m : Str) (lv : Nat) (C : Addr) (g : List D → W D) : Prop where
  at_ : mg x = some (.ref C)
  ex : ∃ f fd, Px.Stat K C m f ∧ Binds K fd [] [] ∧ FnOk P w K mg base (L2.CX P w) lv f fd [] (spD K tb 0 g)
theorem de_static {m : Str} {pl : Sem Bool} (N : StatOk X.prog X.w X.K X.mg X.base tb x m lv C g) (hT : T.tab = tb) (hr : Room j X.A) (px : Passes (L2.CX X.prog X.w) X E) (hg : Gl X x := by rfl) (hj : Nat.ble lv j = true := by rfl) (hdb : (x == ("__debug__" : Str)) = false := by decide)
    (ht : eval (.Call (.Attribute (.Name x p) m apos) [] [] pos) X.env = (do
      let ov ← eval (.Name x p) X.env; standAt apos.atName; let (f, first) ← holding [ov] (getMethod ov m pl)
      callWith pos f first (backTo pos (starEach [] X.env)) (backToKw pos (keywordEach [] X.env))) := by rfl) : PE X (.Call (.Attribute (.Name x p) m apos) [] [] pos) (tE X.K T E (dStat g)) := by
  subst hT
  obtain ⟨f, fd, st, hb, F⟩ := N.ex
  refine pe_imp (Px.pe_static0 (pl := pl) (pe_glob (v := .ref C) hg N.at_ rfl hdb) st F (hr.mono (Nat.le_of_ble_eq_true hj)) hb px ht) ?_
  rintro σ H Q ⟨ρ, S, post, xp, rl, k, h, q, x⟩
  exact ⟨rfl, spD_of (ds := []) rfl rnil k h q x⟩
/-- o(..), o an instance -/
def dOcall (ms : Ms) (e : DE) (fs : List DE) : DE := fun ρ S post xp => e ρ S (fun d S1 => ∃ C g, (C, g) ∈ ms ∧ isOf0 S1 d C ∧ dArgs fs ρ S1 (fun ds S2 => isOf0 S2 d C ∧ g (d :: ds) S2 post xp) xp) xp
structure OcOk (P : Program) (w : World) (K : PySem.W.Frag) (mg : Str → Option Value) (base : Heap) (tb : List (Addr × Str)) (ps : List Str) (lv : Nat) (C : Addr) (g : List D → W D) : Prop where
  ex : ∃ f fd, StX.CallO K C f ∧ Binds K fd ps [] ∧ FnOk P w K mg base (L2.CX P w) lv f fd ps (spD K tb ps.length g)
theorem isOf0_ref {K : PySem.W.Frag} {S : Sto} {H : Hp} {d : D} {v : V} {C : Addr} (k : Ok K T S H) (r : Rep K (Mu T S) H d v) (h : isOf0 S d C) : ∃ a, v = .ref a := by
  obtain ⟨a, dx, fs, e, _⟩ := isOf0_ok k r h
  exact ⟨a, e⟩
theorem de_ocall {ms : Ms} (he : PE X fe (tE X.K T E e)) (hM : ∀ q ∈ ms, OcOk X.prog X.w X.K X.mg X.base tb ps lv q.1 q.2) (hT : T.tab = tb) (hr : Room j X.A) (px : Passes (L2.CX X.prog X.w) X E) (ha : PA X (a :: es) (tA X.K T E (dArgs fs))) (hn : fs.length + 1 = ps.length := by rfl) (hj : Nat.ble lv j = true := by rfl)
    (ht : eval (.Call fe (a :: es) [] pos) X.env = (do callWith pos (← eval fe X.env) [] (backTo pos (starEach (a :: es) X.env)) (backToKw pos (keywordEach [] X.env))) := by rfl)
    (hst : starEach (a :: es) X.env = (false, eval a X.env) :: starEach es X.env := by rfl) (hpl : (backTo pos (starEach es X.env)).any (·.1) = false := by rfl) : PE X (.Call fe (a :: es) [] pos) (tE X.K T E (dOcall ms e fs)) := by
  subst hT
  constructor
  rintro pins s σ H Q I ⟨ρ, S, post, xp, rl, k, h, q, x⟩
  refine Call_ (thn (he.run pins s σ H _ I ⟨ρ, S, _, xp, rl, k, h, fun d S1 v H1 h1 r1 k1 s1 => (⟨d, S1, h1, r1, k1, s1⟩ : ∃ d S1, (∃ C g, (C, g) ∈ ms ∧ isOf0 S1 d C ∧ dArgs fs ρ S1 (fun ds S2 => isOf0 S2 d C ∧ g (d :: ds) S2 post xp) xp) ∧ Rep X.K (Mu T S1) H1 d v ∧ Ok X.K T S1 H1 ∧ Step T S H S1 H1), x⟩) ?_) ht
  rintro u s1 ⟨v, H1, I1, rv, d, S1, ⟨C, g, hm, hi, h1⟩, r1, k1, st1⟩
  obtain ⟨ad, rfl⟩ := isOf0_ref k1 r1 hi
  obtain rfl : u = Value.ref ad := rv
  obtain ⟨f, fd, c, hb, F⟩ := hM _ hm
  refine StX.callO_with (thn (ha.run pos pins s1 σ H1 _ I1 ⟨ρ, S1, _, xp, rl.step k st1, k1, (by rw [← dArgs_len]; exact h1), fun ds S2 vs H2 h2 r2 k2 s2 => (⟨ds, S2, h2, r2, k2, s2⟩ : ∃ ds S2, (ds.length = fs.length ∧ isOf0 S2 d C ∧ g (d :: ds) S2 post xp) ∧ Reps X.K (Mu T S2) H2 ds vs ∧ Ok X.K T S2 H2 ∧ Step T S1 H1 S2 H2), x.from st1⟩) fun us s2 ⟨vs, H2, I2, r, ds, S2, ⟨l2, hi2, h2⟩, r2, k2, st2⟩ => ?_) hst hpl
  obtain ⟨ad', dx, fs', e', ea⟩ := isOf0_ok k2 (r1.step k1 st2) hi2
  cases e'
  have ic : StX.InsC X H2 ad C := .inr ⟨dx, fs', ea⟩
  obtain ⟨ox, od, J, hd⟩ := StX.insC_at I2 ic
  refine ⟨⟨C, ox, od, J, hd⟩, StX.run_callO c (F.raw hb .nil) (hr.mono (Nat.le_of_ble_eq_true hj)) px I2 ic r ?_⟩
  rw [List.append_nil]
  exact spD_of (by rw [List.length_cons, l2, hn]) (rcons (r1.step k1 st2) r2) k2 h2 (q.from (st1.trans st2)) (x.from (st1.trans st2))
end
end Dw
set_option maxHeartbeats 2000000
namespace Dw
open PySem PySem.Spec PyProof.Rows L2
section
variable {X : Cx} {T : Gx} {E : XK}
structure BoolC (K : PySem.W.Frag) (C : Addr) : Prop where
  b : PySem.W.findIn K (.ref C) "__bool__" = some none
  l : PySem.W.findIn K (.ref C) "__len__" = some none
end
/-- o.m(..) of a built-in class: of which values, and what it gives -/
def dBm (ty : Sto → D → Prop) (g : D → List D → W D) (e : DE) (fs : List DE) : DE := fun ρ S post xp => e ρ S (fun d S1 => ty S1 d ∧ dArgs fs ρ S1 (fun ds S2 => g d ds S2 post xp) xp) xp
def rDm (K : PySem.W.Frag) (T : Gx) (E : XK) (g : D → List D → W D) : V → List V → Hp → VK → Prop := fun v vs H Q => ∃ d ds S post xp, Rep K (Mu T S) H d v ∧ Reps K (Mu T S) H ds vs ∧ Ok K T S H ∧ g d ds S post xp ∧ PostD K T (Rep K) S H post Q ∧ ExI K T E S H xp
def isL (S : Sto) (d : D) : Prop := match d with
  | .lst _ => True
  | .val (.ref a) => ∃ xs, S a = some (.lst xs)
  | _ => False
section
variable {X : Cx} {T : Gx} {E : XK} {a o : Expr} {es : List Expr} {pos apos cpos : Pos} {fs : List DE} {e : DE} {m : Str} {ty : Sto → D → Prop} {g : D → List D → W D} {id Ty : String}
theorem de_bm (pa : PlainAttrs Ty) (slot : Slot Ty m id) (hty : typeOf (.builtin id) = pure (.type "method_descriptor")) (hm : MtR X id (rDm X.K T E g)) (ht : ∀ {S : Sto} {H : Hp} {d : D} {v : V}, Ok X.K T S H → Rep X.K (Mu T S) H d v → ty S d → tyV X.K Ty v H) (ho : PE X o (tE X.K T E e)) (ha : PA X (a :: es) (tA X.K T E (dArgs fs)))
    (hbase : attributeBase o m X.env (eval o X.env) = eval o X.env := by rfl)
    (hfew : ((backTo cpos (starEach (a :: es) X.env)).all (fun x => !x.1) && (backToKw cpos (keywordEach [] X.env)).all (fun x => x.1.isSome)
      && decide ((a :: es).length + ([] : List Keyword).length + (if ([] : List Keyword).isEmpty then 0 else 1) < 30)) = true := by rfl)
    (hline : (apos.endLine == cpos.line) = true := by rfl) (hs : starEach (a :: es) X.env = (false, eval a X.env) :: starEach es X.env := by rfl) (hplain : (backTo cpos (starEach es X.env)).any (·.1) = false := by rfl) : PE X (.Call (.Attribute o m apos) (a :: es) [] cpos) (tE X.K T E (dBm ty g e fs)) :=
  pe_imp (pe_bm pa slot hty hm ho ha hbase hfew hline hs hplain) (by
    rintro σ H Q ⟨ρ, S, post, xp, rl, k, h, q, x⟩
    refine ⟨ρ, S, _, xp, rl, k, h, ?_, x⟩
    rintro d S1 v H1 ⟨t1, h1⟩ r1 k1 s1
    refine ⟨ht k1 r1 t1, ρ, S1, _, xp, rl.step k s1, k1, h1, ?_, x.from s1⟩
    intro ds S2 vs H2 h2 r2 k2 s2
    exact ⟨d, ds, S2, post, xp, r1.step k1 s2, r2, k2, h2, q.from (s1.trans s2), x.from (s1.trans s2)⟩)
theorem ty_list {S : Sto} {H : Hp} {d : D} {v : V} (k : Ok X.K T S H) (r : Rep X.K (Mu T S) H d v) (h : isL S d) : tyV X.K "list" v H := by
  unfold isL at h
  split at h
  · obtain ⟨a, xs, rfl, _, e, _⟩ := lst_of r
    exact .inl ⟨rfl, _, .inl (.inl e)⟩
  · obtain ⟨xs, h⟩ := h
    obtain rfl := val_of r
    obtain ⟨vs, e, _⟩ := k.cel _ _ h
    exact .inl ⟨rfl, _, .inl (.inl e)⟩
  · exact h.elim
/-- a change of a list: how -/
def chL (f : List D → Option (List D × D)) : D → W D
  | .val (.ref a) => fun S post _ => ∃ xs ys y, S a = some (.lst xs) ∧ xs.length < 1000 ∧ f xs = some (ys, y) ∧ post y (S.put a (.lst ys))
  | _ => fun _ _ _ => False
def gAppend : D → List D → W D := fun d ds => match ds with
  | [y] => chL (fun xs => some (xs ++ [y], .non)) d
  | _ => fun _ _ _ => False
theorem ch_post {S : Sto} {H : Hp} {Q : VK} {post : D → Sto → Prop} {ad : Addr} {xs ys : List D} {y : D} {vs ws : List V} {v : V} (k : Ok X.K T S H) (e : S ad = some (.lst xs)) (ha : H ad = some (.lst vs)) (r : Reps X.K (Mu T S) H ys ws) (ry : Rep X.K (Mu T S) H y v) (p : post y (S.put ad (.lst ys))) (q : PostD X.K T (Rep X.K) S H post Q) : Q v (upd H ad (.lst ws)) := by
  have st : Step T S H (S.put ad (.lst ys)) (upd H ad (.lst ws)) := step_put (.inr (.inl ⟨_, e⟩))
  exact q _ _ _ _ p (ry.step k st) (k.put (.inr ⟨_, e⟩) ⟨ws, upd_same, r.step k st⟩) st
theorem lim_sz {n : Nat} (h : n < 1000) : n < sizeLine := by rw [sizeLine_eq]; omega
theorem mg_append : MtR X "list.append" (rDm X.K T E gAppend) := by
  rintro pins s σ H v vs u us Q I ru rus ⟨d, ds, S, post, xp, rd, rds, k, h, q, x⟩
  unfold gAppend at h
  split at h
  · unfold chL at h
    split at h
    · obtain ⟨xs, ys, y', e, hl, hf, p⟩ := h
      cases hf
      obtain rfl := val_of rd
      obtain ⟨w, rfl, rw_⟩ := one_of rds
      obtain ⟨ws, ea, rx⟩ := k.cel _ _ e
      exact mt_append pins s σ H _ _ _ _ Q I ru rus ⟨_, ws, w, rfl, rfl, ea, lim_sz (by rw [rx.len]; exact hl), ch_post k e ea (rx.snoc rw_) rnon p q⟩
    · exact h.elim
  · exact h.elim
end
end Dw
set_option maxHeartbeats 2000000
set_option maxHeartbeats 2000000
namespace Dw
open PySem PySem.Spec PyProof.Rows L2
def cutD {α : Type} (xs : List α) (lo hi : Option Int) : List α := (xs.drop (HT.sIx xs.length 0 lo)).take (HT.sIx xs.length xs.length hi - HT.sIx xs.length 0 lo)
def gSl : D → Option Int → Option Int → W D
  | .lst xs, lo, hi => fun S post _ => post (.lst (cutD xs lo hi)) S
  | .tup xs, lo, hi => fun S post _ => post (.tup (cutD xs lo hi)) S
  | .scr ns, lo, hi => fun S post _ => post (.lst ((cutD ns lo hi).map .int)) S
  | .str z, lo, hi => fun S post _ => z.length ≤ sizeLine ∧ post (.str (cutS z lo hi)) S
  | .val (.ref a), lo, hi => fun S post _ => ∃ xs, S a = some (.lst xs) ∧ post (.lst (cutD xs lo hi)) S
  | _, _, _ => fun _ _ _ => False
/-- a part of a slice -/
abbrev DO := Lc → W (Option Int)
def dNoPart : DO := fun _ S post _ => post none S
def dPart (e : DE) : DO := fun ρ S post xp => e ρ S (fun d S' => match d with
  | .int i => post (some i) S'
  | _ => False) xp
def dSl (e : DE) (lo hi : DO) : DE := fun ρ S post xp => e ρ S (fun d S1 => lo ρ S1 (fun l S2 => hi ρ S2 (fun h S3 => gSl d l h S3 post xp) xp) xp) xp
def tOp_ (K : PySem.W.Frag) (T : Gx) (E : XK) (f : DO) : TO := fun σ H Q => ∃ ρ S post xp, RepL K (Mu T S) H ρ σ ∧ Ok K T S H ∧ f ρ S post xp ∧ PostD K T (fun _ _ (a b : Option Int) => a = b) S H post Q ∧ ExI K T E S H xp
section
variable {X : Cx} {T : Gx} {E : XK} {a : Expr} {lo hi : Option Expr} {pos p2 : Pos} {e : DE} {l h : DO}
theorem po_imp {x : Option Expr} {t t' : TO} (h : PO X x t) (i : ∀ σ H Q, t' σ H Q → t σ H Q) : PO X x t' := ⟨fun pins s σ H Q I q => h.run pins s σ H Q I (i σ H Q q)⟩
theorem do_none : PO X none (tOp_ X.K T E dNoPart) := po_imp po_none (by
  rintro σ H Q ⟨ρ, S, post, xp, rl, k, h, q, _⟩
  exact q.now k h rfl)
theorem do_some (he : PE X a (tE X.K T E e)) : PO X (some a) (tOp_ X.K T E (dPart e)) := po_imp (po_some he) (by
  rintro σ H Q ⟨ρ, S, post, xp, rl, k, h, q, x⟩
  refine ⟨ρ, S, _, xp, rl, k, h, ?_, x⟩
  intro d S1 v H1 h1 r1 k1 s1
  cases d with
  | int i => exact ⟨i, int_of r1, q _ _ _ _ h1 rfl k1 s1⟩
  | _ => exact False.elim h1)
def rSlD (K : PySem.W.Frag) (T : Gx) (E : XK) : V → Option Int → Option Int → Hp → VK → Prop := fun v lo hi H Q => ∃ d S post xp, Rep K (Mu T S) H d v ∧ Ok K T S H ∧ gSl d lo hi S post xp ∧ PostD K T (Rep K) S H post Q ∧ ExI K T E S H xp
theorem cut_rep {K : PySem.W.Frag} {M : Addr → Prop} {H : Hp} {ds : List D} {vs : List V} {lo hi : Option Int} (r : Reps K M H ds vs) : Reps K M H (cutD ds lo hi) (cutV vs lo hi) := by
  unfold cutD cutV
  rw [r.len]
  exact (r.drop _).take _
theorem reps_ints {K : PySem.W.Frag} {M : Addr → Prop} {H : Hp} : ∀ ns : List Int, Reps K M H (ns.map .int) (ns.map V.int)
  | [] => rnil
  | n :: ns => rcons (rint _) (reps_ints ns)
theorem cut_int {ns : List Int} {lo hi : Option Int} : cutV (ns.map V.int) lo hi = (cutD ns lo hi).map V.int := by
  unfold cutV cutD
  rw [List.length_map, List.map_take, List.map_drop]
theorem cut_all {K : PySem.W.Frag} {M : Addr → Prop} {H : Hp} {ds : List D} {vs : List V} {lo hi : Option Int} (r : Reps K M H ds vs) (e1 : HT.sIx vs.length 0 lo = 0) (e2 : HT.sIx vs.length vs.length hi = vs.length) : cutD ds lo hi = ds := by
  unfold cutD
  rw [r.len] at e1 e2
  rw [e1, e2, List.drop_zero, Nat.sub_zero, List.take_length]
theorem sl_D : SlR X (rSlD X.K T E) := by
  rintro pins s σ H x v vl vu lo hi sl Q I rx hs pl pu ⟨d, S, post, xp, rd, k, h, q, xx⟩
  unfold gSl at h
  split at h
  · obtain ⟨a, xs, rfl, _, e, rs⟩ := lst_of rd
    exact sl_list pins s σ H _ _ _ _ _ _ _ Q I rx hs pl pu ⟨a, xs, rfl, .inl (.inl e), fun p hp => q _ _ _ _ h (rlst (k.new hp) upd_same ((cut_rep rs).step k (step_new hp))) (k.laid hp) (step_new hp)⟩
  · obtain ⟨a, xs, rfl, e, rs⟩ := tup_of rd
    refine sl_tupA pins s σ H _ _ _ _ _ _ _ Q I rx hs pl pu ⟨a, xs, rfl, e, fun ⟨e1, e2⟩ => ?_, fun _ p hp => q _ _ _ _ h (rtup (.inl (.inl upd_same)) ((cut_rep rs).step k (step_new hp))) (k.laid hp) (step_new hp)⟩
    rw [cut_all rs e1 e2] at h
    exact q.now k h rd
  · rename_i ns _ _
    obtain ⟨a, rfl, e⟩ := scr_of rd
    exact sl_list pins s σ H _ _ _ _ _ _ _ Q I rx hs pl pu ⟨a, _, rfl, e, fun p hp => q _ _ _ _ h (rlst (k.new hp) upd_same (by rw [cut_int]; exact reps_ints _)) (k.laid hp) (step_new hp)⟩
  · obtain rfl := str_of rd
    exact sl_str pins s σ H _ _ _ _ _ _ _ Q I rx hs pl pu ⟨_, rfl, h.1, q.now k h.2 (rstr _)⟩
  · obtain rfl := val_of rd
    obtain ⟨xs, e0, h⟩ := h
    obtain ⟨vs, e, rs⟩ := k.cel _ _ e0
    exact sl_list pins s σ H _ _ _ _ _ _ _ Q I rx hs pl pu ⟨_, vs, rfl, .inl (.inl e), fun p hp => q _ _ _ _ h (rlst (k.new hp) upd_same ((cut_rep rs).step k (step_new hp))) (k.laid hp) (step_new hp)⟩
  · exact h.elim
theorem de_sl (he : PE X a (tE X.K T E e)) (hl : PO X lo (tOp_ X.K T E l)) (hh : PO X hi (tOp_ X.K T E h)) : PE X (.Subscript a (.Slice lo hi none p2) pos) (tE X.K T E (dSl e l h)) := pe_imp (pe_slice sl_D he hl hh) (by
  rintro σ H Q ⟨ρ, S, post, xp, rl, k, h0, q, x⟩
  refine ⟨ρ, S, _, xp, rl, k, h0, ?_, x⟩
  intro d S1 v H1 h1 r1 k1 s1
  refine ⟨ρ, S1, _, xp, rl.step k s1, k1, h1, ?_, x.from s1⟩
  rintro o S2 _ H2 h2 rfl k2 s2
  refine ⟨ρ, S2, _, xp, (rl.step k s1).step k1 s2, k2, h2, ?_, (x.from s1).from s2⟩
  rintro o' S3 _ H3 h3 rfl k3 s3
  have st := (s1.trans s2).trans s3
  exact ⟨d, S3, post, xp, (r1.step k1 s2).step k2 s3, k3, h3, q.from st, x.from st⟩)
end
/-- [cells, 0, 0, seed, 0] -/
def dBag (fs : List DE) : DE := fun ρ S post xp => dArgs fs ρ S (fun ds S' => ∃ ns y, ds = [.lst (ns.map .int), .int 0, .int 0, .int y, .int 0] ∧ 0 ≤ y ∧ y < 2147483423 ∧ ∀ a c, S' a = none → post (.val (.ref a)) (S'.put a (.bag c ns))) xp
section
variable {X : Cx} {T : Gx} {E : XK} {es : List Expr} {pos : Pos}
theorem de_bag {fs : List DE} (h : PA X es (tA X.K T E (dArgs fs))) : PE X (.List es pos) (tE X.K T E (dBag fs)) := pe_imp (pe_lst h) (by
  rintro σ H Q ⟨ρ, S, post, xp, rl, k, h, q, x⟩
  refine ⟨ρ, S, _, xp, rl, k, h, ?_, x⟩
  rintro ds S1 vs H1 ⟨ns, y, rfl, y0, y1, h1⟩ r1 k1 s1
  obtain ⟨v0, r, rfl, q0, r⟩ := cons_of r1
  obtain ⟨v1, r, rfl, q1, r⟩ := cons_of r
  obtain ⟨v2, r, rfl, q2, r⟩ := cons_of r
  obtain ⟨v3, r, rfl, q3, r⟩ := cons_of r
  obtain ⟨v4, r, rfl, q4, r⟩ := cons_of r
  obtain rfl := nil_of r
  obtain rfl := int_of q1
  obtain rfl := int_of q2
  obtain rfl := int_of q3
  obtain rfl := int_of q4
  obtain ⟨c, xs, rfl, nm, ec, rs⟩ := lst_of q0
  obtain rfl := reps_int rs
  refine ⟨by show 5 ≤ sizeLine; decide, fun p hp => ?_⟩
  have nec : c ≠ p := ne_of_none ec hp
  have s2 : Step T S1 H1 (S1.put p (.bag c ns)) (upd H1 p (.lst [.ref c, .int 0, .int 0, .int y, .int 0])) := step_put (.inl hp)
  have hc : upd H1 p (.lst [.ref c, .int 0, .int 0, .int y, .int 0]) c = some (.lst (ns.map V.int)) := by rw [upd_ne nec]; exact ec
  have nm2 : ¬ Mu T (S1.put p (.bag c ns)) c := (s2.mu _ _ ec nm).2
  exact q _ _ _ _ (h1 p c (k1.unsto hp)) (rval _) (k1.put (.inl hp) ⟨0, 0, y, 0, upd_same, ⟨nec, .inl (.inl hc), Int.le_refl _, Int.le_refl _, y0, y1⟩, .inl hc, nm2⟩) (s1.trans s2))
end
/-- a number is drawn -/
def gDraw : List D → W D
  | [.val (.ref b), .int n] => fun S post _ => (∃ c ns, S b = some (.bag c ns)) ∧ 0 < n ∧ n < 1073741824 ∧ ∀ r, 0 ≤ r → r < n → post (.int r) S
  | _ => fun _ _ _ => False
section
variable {K : PySem.W.Frag} {T : Gx} {S : Sto} {H H' : Hp}
theorem draw_ok {b c : Addr} {ns : List Int} (k : Ok K T S H) (e : S b = some (.bag c ns)) (hb : BagOk K b c ns H') (ex : ∀ a u, H a = some u → a ≠ b → H' a = some u) : Ok K T S H' ∧ Step T S H S H' := by
  have mb : Mv T S b := .inl ⟨_, e⟩
  have st : Step T S H S H' := fun a o h n => ⟨ex a o h fun z => n (by rw [z]; exact mb), n⟩
  obtain ⟨i, x, y, z, e1, A, hc, nc⟩ := k.cel b _ e
  refine ⟨⟨fun q hq => ?_, fun a ha => ?_, fun a m h => ?_⟩, st⟩
  · obtain ⟨ps, h1, h2, h3⟩ := k.tabs q hq
    refine ⟨ps, ex _ _ h1 fun z => ?_, h2, fun pos cv hcv => ?_⟩
    · rw [z, e1] at h1; cases h1
    · obtain ⟨c', a1, a2⟩ := h3 pos cv hcv
      refine ⟨c', a1, ex _ _ a2 fun z => ?_⟩
      rw [z, e1] at a2
      unfold LamX.CodeO at a2
      cases a2
  · obtain ⟨⟨xs, q1⟩, q2⟩ := k.bus a ha
    exact ⟨⟨xs, ex _ _ q1 fun z => by rw [z, e] at q2; cases q2⟩, q2⟩
  · by_cases z : a = b
    · subst z
      rw [e] at h
      cases h
      obtain ⟨i', x', y', z', e2, A'⟩ := hb
      have q := rd_keep st.mu nc hc
      exact ⟨i', x', y', z', e2, A', q.1, q.2⟩
    · refine (k.cel a m h).keep k st ?_
      have kd := k.kind (.inl (.inl ⟨m, h⟩))
      rcases kd with ⟨_, e3⟩ | ⟨_, _, _, e3⟩ | ⟨_, e3⟩ | ⟨_, e3⟩ | ⟨_, e3⟩ <;> rw [e3] <;> exact ex _ _ e3 z
end
theorem spD_imp {K : PySem.W.Frag} {tb : List (Addr × Str)} {n : Nat} {g g' : List D → W D} (h : ∀ ds S post xp, g' ds S post xp → g ds S post xp) {vs : List V} {H : Hp} {Q : VK} {E : XK} (q : spD K tb n g' vs H Q E) : spD K tb n g vs H Q E := by
  obtain ⟨T, ds, S, post, xp, a, b, c, d, e, f⟩ := q
  exact ⟨T, ds, S, post, xp, a, b, c, d, h _ _ _ _ e, f⟩
theorem DefOk.imp {P : Program} {w : World} {K : PySem.W.Frag} {mg : Str → Option Value} {base : Heap} {tb : List (Addr × Str)} {x : Str} {ps : List Str} {lv : Nat} {g g' : List D → W D} {f : Addr} {fd : FuncData} (F : DefOk P w K mg base tb x ps lv g f fd) (h : ∀ ds S post xp, g' ds S post xp → g ds S post xp) : DefOk P w K mg base tb x ps lv g' f fd :=
  ⟨F.at_, F.kp, F.bd, F.ok.imp fun vs H Q E q => spD_imp h q⟩
theorem room_u65 {k : Nat} {A : Around} (r : Room k A) : A.units + 65 < cLine := by have := r.un; omega
theorem allN {α : Type} {P : α → Prop} : ∀ q ∈ ([] : List α), P q := fun _ h => nomatch h
theorem allC {α : Type} {P : α → Prop} {a : α} {l : List α} (h : P a) (t : ∀ q ∈ l, P q) : ∀ q ∈ a :: l, P q := fun q hq => by
  rcases List.mem_cons.mp hq with rfl | hq
  · exact h
  · exact t q hq
end Dw
set_option maxHeartbeats 2000000
namespace Dw
open PySem PySem.Spec PyProof.Rows L2
def cSeq (e : DE) : DC := fun ρ S post xp => e ρ S (fun d S' => match d with
  | .lst xs => post xs S'
  | .tup xs => post xs S'
  | _ => False) xp
section
variable {X : Cx} {T : Gx} {E : XK} {a tg : Expr} {f : DE}
theorem ci_seq (he : PE X a (tE X.K T E f)) : PI X tg a (tI X.K T E (cSeq f)) := by
  refine ⟨fun pins s σ H R I ⟨ρ, S, post, xp, rl, k, h, q, x⟩ => ?_⟩
  refine thn (he.run pins s σ H _ I ⟨ρ, S, _, xp, rl, k, h, fun d S1 v H1 h1 r1 k1 s1 => (⟨d, S1, h1, r1, k1, s1⟩ : ∃ d S1, (match d with
    | .lst xs => post xs S1
    | .tup xs => post xs S1
    | _ => False) ∧ Rep X.K (Mu T S1) H1 d v ∧ Ok X.K T S1 H1 ∧ Step T S H S1 H1), x⟩) ?_
  rintro u s1 ⟨v, H1, I1, rv, d, S1, h1, r1, k1, st⟩
  cases d with
  | lst ds =>
    obtain ⟨ad, xs, rfl, nm, e, rs⟩ := lst_of r1
    obtain rfl : u = Value.ref ad := rv
    obtain ⟨its, rv', p, hz⟩ := I1.list (.inl (.inl e))
    refine wpAny_pyIter_list p.isList ?_
    refine ⟨s1.heap.objs.size, [s1.heap.objs.size], _, _, H1, rfl, I1.kept (t' := s1.toks) fun b o e => Heap.get?_push_of_some _ e, turn_list ad _, ⟨_, Heap.get?_push_size _ rfl, rfl, rfl⟩, fun b hb => ?_, q _ _ _ _ h1 k1 st (src_list k1 nm e rs)⟩
    have e : b = s1.heap.objs.size := by simpa using hb
    subst e
    exact I1.fpOk (Nat.le_refl _) (I1.hok.fresh (Nat.le_refl _))
  | tup ds =>
    obtain ⟨ad, xs, rfl, e, rs⟩ := tup_of r1
    obtain rfl : u = Value.ref ad := rv
    obtain ⟨its, rv', p, hz⟩ := I1.tuple e
    refine wpAny_pyIter_tuple (show s1.heap.IsTuple ad its.toArray from p) ?_
    refine ⟨s1.heap.objs.size, [s1.heap.objs.size], _, _, H1, rfl, I1.kept (t' := s1.toks) fun b o e => Heap.get?_push_of_some _ e, turn_tuple ad _, ⟨_, Heap.get?_push_size _ rfl, rfl, rfl⟩, fun b hb => ?_, q _ _ _ _ h1 k1 st (src_tup k1 e rs)⟩
    have e : b = s1.heap.objs.size := by simpa using hb
    subst e
    exact I1.fpOk (Nat.le_refl _) (I1.hok.fresh (Nat.le_refl _))
  | _ => exact False.elim h1
end
end Dw
set_option maxHeartbeats 2000000
namespace Dw
open PySem PySem.Spec PyProof.Rows L2
section
variable {P : Program} {w : World} {K : PySem.W.Frag} {mg : Str → Option Value} {base : Heap} {tb : List (Addr × Str)} {x qual : Str} {f : Addr} {fd : FuncData} {ps ks : List Str}
theorem fund_okD {params : Arguments} {body : List Stmt} {scope : Scope} {dvs : List V} {kws : List (Str × V)} {N : List Str} {k m : Nat} {u : DS} (F : FunD K x qual params body scope dvs kws f fd) (S : FnScope N ps scope) (hm : N.length = m := by rfl)
    (hb : ∀ (T : Gx) (cdv : Value) (A : Around) (outer : List Env) (s : Shared) (H : Hp) (E : XK), T.tab = tb → Room k (A.deeper (envOfC qual scope s.heap.objs.size f cdv)) →
      PSs (cxOf (L2.CX P w) P w K mg base N qual scope f cdv A outer s H E) body (tS K T E u)) : FnOk P w K mg base (L2.CX P w) (k + 1) f fd ps (spD K tb ps.length (dDef m u)) := by
  refine F.ok S (fun vs H Q E h => ?_) fun cdv A outer s H vs Q E hr h => ?_
  · obtain ⟨T, ds, S, post, xp, _, l, r, _⟩ := h
    rw [r.len, l]
  · obtain ⟨T, ds, S0, post, xp, et, l, r, ok, g, q, x⟩ := h
    refine ⟨_, hb T cdv A outer s H E et hr, ?_⟩
    refine ⟨_, S0, _, def_start r hm, ok, g, ?_, q, fun _ _ _ _ z => z.elim, fun _ _ _ _ z => z.elim, x⟩
    intro ρ' S' σ' H' h' _ k' s'
    exact q _ _ _ _ h' rnon k' s'
theorem fund_full {params : Arguments} {body : List Stmt} {scope : Scope} {dvs : List V} (F : FunD K x qual params body scope dvs [] f fd) (n : Nat) (hd : dvs ≠ []) (hn : n = ps.length)
    (h : ∀ (T : Addr) (kV doc pm : Value) (an : Option Addr) (cdv ct : Value) (us its : List Value), us.length = n → its.length = dvs.length →
      ∃ k, bindArgs (PySem.W.fnOf x qual params body scope (.ref T) kV doc pm an cdv ct) ⟨us, []⟩ = seqItems? (.ref T) >>= k ∧ k (some its.toArray) = pure (ps.zip (us ++ its.drop dvs.length))) : Binds K fd ps [] := by
  obtain ⟨ds, r, hb⟩ := F.binds1 (ps := ps) n dvs.length hd (by omega) h
  rw [List.drop_length] at r
  cases r
  exact hb
end
section
variable {X : Cx} {T : Gx} {E : XK} {st : Stmt}
theorem ds_never : PS X st (tS X.K T E fun _ _ _ => False) := ⟨fun _ _ _ _ _ _ ⟨_, _, _, _, _, h, _⟩ => h.elim⟩
end
end Dw
set_option maxHeartbeats 2000000
namespace Dw
open PySem PySem.Spec PyProof.Rows L2
/-- a static method's function -/
def stA (K : PySem.W.Frag) (C : Addr) (m : Str) : Addr := match PySem.W.findCls K (.ref C) (.type "type") m with
  | some (.get (.builtin "staticmethod.__get__") (.ref p) .none (.ref _)) => (match PySem.W.recIn K p "staticmethod" with
    | some (.ref f :: _) => f
    | _ => 0)
  | _ => 0
/-- a property's getter -/
def prA (K : PySem.W.Frag) (C : Addr) (m : Str) : Addr := match PySem.W.findIn K (.ref C) m with
  | some (some (.ref p)) => (match PySem.W.recIn K p "property" with
    | some (.ref g :: _) => g
    | _ => 0)
  | _ => 0
/-- what a class with an own == must have, f its function -/
structure EqF (K : PySem.W.Frag) (cs : List Addr) (C f : Addr) : Prop where
  nf : ∀ n ∈ tyNames, PySem.W.notFirst K C (.type n) = true
  nc : ∀ c ∈ cs, PySem.W.notFirst K C (.ref c) = true
  mro : PySem.W.mroIn K C (.type "object") = some true
  at_ : PySem.W.findIn K (.ref C) "__eq__" = some (some (.ref f))
  fn : PySem.W.isFn K (.ref f) = true
  ne : PySem.W.findIn K (.ref C) "__ne__" = some (some (.builtin "object.__ne__"))
section
variable {P : Program} {w : World} {K : PySem.W.Frag} {mg : Str → Option Value} {base : Heap} {tb : List (Addr × Str)} {x : Str} {ps : List Str} {lv lv' : Nat} {g : List D → W D} {gs : Nat → List D → W D} {f : Addr} {fd : FuncData} {N : Nat}
theorem defOk_no (M : mg x = some (.ref f)) (kp : PySem.W.keepIn K (.ref f) = true) (bd : Binds K fd ps []) : DefOk P w K mg base tb x ps lv (fun _ _ _ _ => False) f fd :=
  ⟨M, kp, bd, ⟨fun _ _ _ _ ⟨_, _, _, _, _, _, _, _, _, h, _⟩ => h.elim, fun _ _ _ _ _ _ _ _ _ _ _ _ _ ⟨_, _, _, _, _, _, _, _, _, h, _⟩ => h.elim⟩⟩
theorem defOk_up (F : DefOk P w K mg base tb x ps lv g f fd) (h : lv ≤ lv') : DefOk P w K mg base tb x ps lv' g f fd := ⟨F.at_, F.kp, F.bd, F.ok.mono h⟩
theorem defOk_ex (F0 : DefOk P w K mg base tb x ps lv' g f fd) (F : ∀ n, n ≤ N → DefOk P w K mg base tb x ps lv (gs n) f fd) : DefOk P w K mg base tb x ps lv (fun ds S post xp => ∃ n, n ≤ N ∧ gs n ds S post xp) f fd :=
  ⟨F0.at_, F0.kp, F0.bd, ⟨fun vs H Q E ⟨T, ds, S, post, xp, a, b, c, d, ⟨n, hn, e⟩, q, x⟩ => (F n hn).ok.len vs H Q E ⟨T, ds, S, post, xp, a, b, c, d, e, q, x⟩,
    fun A outer s H args us vs Q E hr e0 hb r ⟨T, ds, S, post, xp, a, b, c, d, ⟨n, hn, e⟩, q, x⟩ => (F n hn).ok.run A outer s H args us vs Q E hr e0 hb r ⟨T, ds, S, post, xp, a, b, c, d, e, q, x⟩⟩⟩
end
end Dw
set_option maxHeartbeats 2000000
namespace Dw
open PySem PySem.Spec PyProof.Rows L2
section
variable {T : Gx} {E : XK} {t : Tgt} {vs : List Nat} {src : DC} {c : DT} {elt : DE} {X : Cx} {iter tg e : Expr} {ifs : List Expr} {scope : Scope} {own : List (Str × Nat)} {pos spos py : Pos} {i : Nat} {y : Str}
def tt_ (K : PySem.W.Frag) (T : Gx) (c : DT) : TT := fun σ H Q => ∃ T' : Gx, T'.tab = T.tab ∧ tB K T' E0 c σ H Q
def te_ (K : PySem.W.Frag) (T : Gx) (elt : DE) : TE := fun σ H Q => ∃ T' : Gx, T'.tab = T.tab ∧ tE K T' E0 elt σ H Q
theorem lc_conv {K : PySem.W.Frag} (hv : ∀ i ∈ sT t, i ∈ vs) {σ : L2.St} {H : Hp} {Q : VK} (h : tE K T E (dLc vs t src c elt) σ H Q) : tLc (tI K T E src) (gT K t) (tt_ K T c) (te_ K T elt) vs σ H Q := by
  obtain ⟨ρ, S, post, xp, rl, k, h, q, x⟩ := h
  refine ⟨ρ, S, _, xp, rl, k, h, ?_, x⟩
  rintro ds S1 J H1 ⟨hl, h1⟩ k1 s1 so
  refine lc_core (T := T) (c := c) (elt := elt) (tt := tt_ K T c) (te := te_ K T elt) hv (fun T' e σ H Q q => ⟨T', e, q⟩) (fun T' e σ H Q q => ⟨T', e, q⟩) (rl.step k s1) k1 so hl h1 fun Dd acc S' H' xs nd hp eD ra k' s' => ?_
  have nb : Dd ∉ T.busy := fun z => by
    obtain ⟨⟨ys, e⟩, _⟩ := k1.bus Dd z
    rw [nd] at e; cases e
  exact q _ _ _ _ hp (rlst (busy_nm k' nb) eD (ra.less k')) k'.leave (s1.trans s')
theorem set_conv {K : PySem.W.Frag} {f : DE} {Dd : Ends} {σ : L2.St} {H : Hp} (h : tS K T E (dSet i f) Dd σ H) : tE K T E f σ H fun v H' => Dd.nx (σ.set i (some v)) H' := by
  obtain ⟨ρ, S, p, rl, k, h, n, r, bk, ct, x⟩ := h
  refine ⟨ρ, S, _, p.xp, rl, k, h, ?_, x⟩
  intro d S' v H' h' r' k' s'
  exact n _ _ _ _ h' ((rl.step k s').set i r') k' s'
theorem ds_setLc (hN : X.N.Nodup) (hy : X.N[i]? = some y) (hyl : X.env.scope.names.lookup y = some .local) (hsw : swapsWith (.ListComp e [⟨tg, iter, ifs, 0⟩] scope pos) (some (.Name y py)) spos.line X.env = pure true) (hi : PI X tg iter (tI X.K T E src)) (ok : BlkOk X.N X.env.scope scope own) (hv : ∀ i ∈ sT t, i ∈ own.map (·.2))
    (hg : ∀ (s : Shared) (H : Hp) (C : Addr) (cl : List (Str × Addr)) (fp : List Addr), PG (X.blk s H scope (compEnvC scope cl C X.env) fp) tg (gT X.K t))
    (ht : ∀ (T' : Gx), T'.tab = T.tab → ∀ (s : Shared) (H : Hp) (C : Addr) (cl : List (Str × Addr)) (fp : List Addr), PTs (X.blk s H scope (compEnvC scope cl C X.env) fp) ifs (tB X.K T' E0 c))
    (he : ∀ (T' : Gx), T'.tab = T.tab → ∀ (s : Shared) (H : Hp) (C : Addr) (cl : List (Str × Addr)) (fp : List Addr), PE (X.blk s H scope (compEnvC scope cl C X.env) fp) e (tE X.K T' E0 elt)) (hc : X.calm = true := by rfl) (hs : ∀ x, foldedSetIterable iter X.env x = pure x := by intro _; rfl) :
    PS X (.Assign [.Name y py] (.ListComp e [⟨tg, iter, ifs, 0⟩] scope pos) spos) (tS X.K T E (dSet i (dLc (own.map (·.2)) t src c elt))) :=
  ps_imp (ps_setLc (tt := tt_ X.K T c) (te := te_ X.K T elt) hc hN hy hyl hsw hi ok hg (fun s H C cl fp => ⟨fun pins s2 σ H2 Q I ⟨T', e1, q⟩ => (ht T' e1 s H C cl fp).run pins s2 σ H2 Q I q⟩) (fun s H C cl fp => ⟨fun pins s2 σ H2 Q I ⟨T', e1, q⟩ => (he T' e1 s H C cl fp).run pins s2 σ H2 Q I q⟩) hs) fun Dd σ H h => lc_conv hv (set_conv h)
end
end Dw
set_option maxHeartbeats 2000000
namespace Dw
open PySem PySem.Spec PyProof.Rows L2 He Px
structure DefX where
  ad : PySem.W.Frag → Addr
  name : Str
  qual : Str
  params : Arguments
  body : List Stmt
  scope : Scope
  dfl : List Dv := []
  free : List Str := []
abbrev FnX : Type := Option (Str × Str × Arguments × FuncBody × Scope × Addr × List Str × Addr)
def fnX (K : PySem.W.Frag) (d : DefX) : FnX := match K.lookup (d.ad K) with
  | some ⟨_, _, .func fd, _⟩ => some (fd.name, fd.qualname, fd.params, fd.body, fd.scope, fd.globals, fd.closure.map (·.1), fd.builtins)
  | _ => none
def DefX.val (d : DefX) : FnX := some (d.name, d.qual, d.params, .stmts d.body, d.scope, mainGlobals, d.free, builtinsNs)
def DefX.dvs (K : PySem.W.Frag) (d : DefX) : List V := d.dfl.map (Dv.v K)
def DefX.ok (K : PySem.W.Frag) (d : DefX) : Bool := PySem.W.keepIn K (.ref (d.ad K)) && (match K.lookup (d.ad K) with
  | some ⟨_, _, .func fd, _⟩ => PySem.W.codeIn K fd.code d.qual && (dflB K fd.defaults (d.dvs K) && kwdB K fd.kwdefaults [])
  | _ => false)
theorem DefX.funD {K : PySem.W.Frag} {d : DefX} (e : fnX K d = d.val) (c : d.ok K = true) (hf : d.free = []) : ∃ fd, FunD K d.name d.qual d.params d.body d.scope (d.dvs K) [] (d.ad K) fd := by
  obtain ⟨kp, c2⟩ := ba c
  unfold fnX at e
  cases q : K.lookup (d.ad K) with
  | none =>
    rw [q] at c2
    cases c2
  | some o =>
    obtain ⟨oc, od, dt, osl⟩ := o
    rw [q] at c2 e
    cases dt with
    | func fd =>
      obtain ⟨n1, n2, n3, n4, n5, n6, n7, n8, n9, n10, n11, n12, n13, n14, n15⟩ := fd
      have e2 : (some (n1, n2, n3, n4, n5, n6, n7.map (·.1), n15) : FnX) = some (d.name, d.qual, d.params, .stmts d.body, d.scope, mainGlobals, d.free, builtinsNs) := e
      rw [hf] at e2
      simp only [Option.some.injEq, Prod.mk.injEq, List.map_eq_nil_iff] at e2
      obtain ⟨h1, h2, h3, h4, h5, h6, h7, h8⟩ := e2
      subst h1 h2 h3 h4 h5 h6 h7 h8
      have c3 : (PySem.W.codeIn K n13 d.qual && (dflB K n8 (d.dvs K) && kwdB K n9 [])) = true := c2
      obtain ⟨k1, k2⟩ := ba c3
      obtain ⟨k3, k4⟩ := ba k2
      exact ⟨_, ⟨oc, od, n8, n9, n10, n11, n12, n13, n14, osl, rfl, q, k1, dflB_ok k3, kwdB_ok k4⟩, kp⟩
    | _ => cases c2
def visitF : List Addr → List Addr → Nat → (List Addr → Nat → List Addr) → List Addr
  | [], acc, m, k => k acc m
  | b :: bs, acc, m, k => match Nat.testBit m b with
    | true => visitF bs acc m k
    | false => visitF bs (b :: acc) (m ||| 1 <<< b) k
def levelF (g : Addr → Option Obj) : List Addr → List Addr → Nat → (List Addr → Nat → List Addr) → List Addr
  | [], acc, m, k => k acc m
  | a :: as, acc, m, k => match g a with
    | some o => visitF (refsD o) acc m fun acc m => levelF g as acc m k
    | none => levelF g as acc m k
def reachF (g : Addr → Option Obj) : Nat → List Addr → Nat → List Addr
  | 0, fr, _ => fr
  | n + 1, fr, m => fr ++ levelF g fr [] m fun acc m => reachF g n acc m
def KF (g : Addr → Option Obj) (n : Nat) : PySem.W.Frag := frT g (PySem.cStatics :: reachF g n [mainGlobals] (1 <<< mainGlobals))
abbrev AlY : Type := Bool × List FnX
def obsY (fa : List Fa) (fx : List DefX) (tf : List Defn) (ex : List (PySem.W.Frag → Bool)) (g : Addr → Option Obj) (K : PySem.W.Frag) : AlY := ((fa.all fun f => f.ok K) && ((fx.all fun d => d.ok K) && ((ex.all fun f => f K) && tabsB g tf K)), fx.map fun d => fnX K d)
def valY (fx : List DefX) : AlY := (true, fx.map DefX.val)
structure SaysY (fa : List Fa) (fx : List DefX) (tf : List Defn) (ex : List (PySem.W.Frag → Bool)) (h : Heap) (K : PySem.W.Frag) : Prop where
  fa_ : ∀ f ∈ fa, f.ok K = true
  fx_ : ∀ d ∈ fx, d.ok K = true ∧ fnX K d = d.val
  ex_ : ∀ f ∈ ex, f K = true
  hd : ∀ p ∈ tf, PySem.W.codeHdIn K (cT K p).1 (cT K p).2 = true
  out : ∀ p ∈ tf, K.lookup (cT K p).2 = none
  empty : ∀ p ∈ tf, h.get? (cT K p).2 = some { cls := .none, data := .fields #[] }
theorem saysY_of {n : Nat} {fa : List Fa} {fx : List DefX} {tf : List Defn} {ex : List (PySem.W.Frag → Bool)} {h : Heap} (e : obsY fa fx tf ex h.get? (KF h.get? n) = valY fx) : SaysY fa fx tf ex h (KF h.get? n) := by
  have e1 : ((fa.all fun f => f.ok (KF h.get? n)) && ((fx.all fun d => d.ok (KF h.get? n)) && ((ex.all fun f => f (KF h.get? n)) && tabsB h.get? tf (KF h.get? n)))) = true := congrArg (fun z : AlY => z.1) e
  have e2 : (fx.map fun d => fnX (KF h.get? n) d) = fx.map DefX.val := congrArg (fun z : AlY => z.2) e
  obtain ⟨x1, x2⟩ := ba e1
  obtain ⟨x3, x4⟩ := ba x2
  obtain ⟨x5, x6⟩ := ba x4
  have at_ : ∀ p ∈ tf, PySem.W.codeHdIn (KF h.get? n) (cT (KF h.get? n) p).1 (cT (KF h.get? n) p).2 = true ∧ ∃ o, h.get? (cT (KF h.get? n) p).2 = some o ∧ emptyTab o = true := by
    intro p hp
    obtain ⟨y1, y2⟩ := ba (List.all_eq_true.mp x6 p hp)
    refine ⟨y1, ?_⟩
    split at y2
    · rename_i o q
      exact ⟨o, q, y2⟩
    · cases y2
  refine ⟨List.all_eq_true.mp x1, fun d hd => ⟨List.all_eq_true.mp x3 d hd, ?_⟩, List.all_eq_true.mp x5, fun p hp => (at_ p hp).1, ?_, ?_⟩
  · obtain ⟨i, hi, rfl⟩ := List.mem_iff_getElem.mp hd
    have e4 : (fx.map fun d => fnX (KF h.get? n) d)[i]? = (fx.map DefX.val)[i]? := by rw [e2]
    rw [List.getElem?_map, List.getElem?_map, List.getElem?_eq_getElem hi] at e4
    exact Option.some.inj e4
  · intro p hp
    obtain ⟨_, o, q, z⟩ := at_ p hp
    exact frT_none q z
  · intro p hp
    obtain ⟨_, o, q, z⟩ := at_ p hp
    rw [q, emptyTab_eq z]
def hookY (n : Nat) (fa : List Fa) (fx : List DefX) (tf : List Defn) (ex : List (PySem.W.Frag → Bool)) : PySem.W.Hook where
  α := AlY
  obs := fun s => obsY fa fx tf ex s.heap.get? (KF s.heap.get? n)
  val := fun _ => valY fx
  says := fun _ h => ∃ K : PySem.W.Frag, K.In h ∧ SaysY fa fx tf ex h K
  of := fun _ _ e => ⟨_, frT_in, saysY_of e⟩
  keeps := fun _ _ _ ⟨K, hK, c⟩ k => ⟨K, PySem.W.Frag.In.keeps hK k, ⟨c.fa_, c.fx_, c.ex_, c.hd, c.out, fun p hp => k _ _ (c.empty p hp)⟩⟩
section
variable {fa : List Fa} {fx : List DefX} {tf : List Defn} {ex : List (PySem.W.Frag → Bool)} {h : Heap} {K : PySem.W.Frag}
theorem SaysY.fact (c : SaysY fa fx tf ex h K) (i : Nat) {f : Fa} (e : fa[i]? = some f := by rfl) : f.ok K = true := c.fa_ f (List.mem_of_getElem? e)
theorem SaysY.more (c : SaysY fa fx tf ex h K) (i : Nat) {f : PySem.W.Frag → Bool} (e : ex[i]? = some f := by rfl) : f K = true := c.ex_ f (List.mem_of_getElem? e)
theorem SaysY.funD (c : SaysY fa fx tf ex h K) (i : Nat) {d : DefX} (e : fx[i]? = some d := by rfl) (hf : d.free = [] := by rfl) : ∃ fd, FunD K d.name d.qual d.params d.body d.scope (d.dvs K) [] (d.ad K) fd :=
  let z := c.fx_ d (List.mem_of_getElem? e); DefX.funD z.2 z.1 hf
end
section
variable {K : PySem.W.Frag}
def fnB (K : PySem.W.Frag) (C : Addr) (m : Str) (f : Addr) : Bool := eqO (PySem.W.findIn K (.ref C) m) (some (some (.ref f))) && PySem.W.isFn K (.ref f)
theorem fnB_ok {C f : Addr} {m : Str} (h : fnB K C m f = true) : PySem.W.findIn K (.ref C) m = some (some (.ref f)) ∧ PySem.W.isFn K (.ref f) = true := ⟨eqO_ok (ba h).1, (ba h).2⟩
def callB (K : PySem.W.Frag) (C f : Addr) : Bool := fnB K C "__call__" f && PySem.W.fnIn K f
theorem callB_ok {C f : Addr} (h : callB K C f = true) : StX.CallO K C f := ⟨(fnB_ok (ba h).1).1, (fnB_ok (ba h).1).2, (ba h).2⟩
def statB (K : PySem.W.Frag) (C : Addr) (m : Str) : Bool := PySem.W.readsIn K C (.type "type") && (eqO (PySem.W.specialIn K (.ref C) "__getattribute__") (some (some (.builtin "type.__getattribute__"))) && (decide (PySem.W.typeIn K (.ref C) = some (.type "type")) &&
  (match PySem.W.findCls K (.ref C) (.type "type") m with
  | some (.get (.builtin b) (.ref p) .none (.ref C')) => decide (b = "staticmethod.__get__") && (decide (C' = C) && (match PySem.W.recIn K p "staticmethod" with
    | some (.ref f :: _) => PySem.W.keepIn K (.ref f)
    | _ => false))
  | _ => false)))
theorem statB_ok {C : Addr} {m : Str} (h : statB K C m = true) : Stat K C m (stA K C m) := by
  obtain ⟨h1, h⟩ := ba h
  obtain ⟨h2, h⟩ := ba h
  obtain ⟨h3, h⟩ := ba h
  split at h
  · rename_i b p C' e
    obtain ⟨h4, h6⟩ := ba h
    obtain ⟨h5, h7⟩ := ba h6
    clear h h6
    obtain rfl := of_decide_eq_true h4
    obtain rfl := of_decide_eq_true h5
    split at h7
    · rename_i f rest e2
      have ea : stA K C' m = f := by unfold stA; rw [e]; simp only [e2]
      rw [ea]
      exact ⟨h1, eqO_ok h2, of_decide_eq_true h3, ⟨p, rest, e, e2⟩, h7⟩
    · cases h7
  · cases h
def propB (K : PySem.W.Frag) (C : Addr) (m : Str) : Bool := match PySem.W.findIn K (.ref C) m with
  | some (some (.ref p)) => eqO (PySem.W.specialIn K (.ref p) "__get__") (some (some (.builtin "property.__get__"))) && (decide (PySem.W.takesIn K (.ref p) = some true) && (match PySem.W.recIn K p "property" with
    | some (.ref _ :: _) => true
    | _ => false))
  | _ => false
theorem propB_ok {C : Addr} {m : Str} (h : propB K C m = true) : ∃ p, PropOf K C m p (prA K C m) := by
  unfold propB at h
  split at h
  · rename_i p e
    obtain ⟨h1, h⟩ := ba h
    obtain ⟨h2, h⟩ := ba h
    split at h
    · rename_i f rest e2
      have ea : prA K C m = f := by unfold prA; rw [e]; simp only [e2]
      rw [ea]
      exact ⟨p, e, eqO_ok h1, of_decide_eq_true h2, rest, e2⟩
    · cases h
  · cases h
def eqFB (K : PySem.W.Frag) (cs : List Addr) (C f : Addr) : Bool := (tyNames.all fun n => PySem.W.notFirst K C (.type n)) && ((cs.all fun c => PySem.W.notFirst K C (.ref c)) && (decide (PySem.W.mroIn K C (.type "object") = some true) && (fnB K C "__eq__" f && eqO (PySem.W.findIn K (.ref C) "__ne__") (some (some (.builtin "object.__ne__"))))))
theorem eqFB_ok {cs : List Addr} {C f : Addr} (h : eqFB K cs C f = true) : EqF K cs C f := by
  obtain ⟨h1, h⟩ := ba h
  obtain ⟨h2, h⟩ := ba h
  obtain ⟨h3, h⟩ := ba h
  obtain ⟨h4, h5⟩ := ba h
  exact ⟨List.all_eq_true.mp h1, List.all_eq_true.mp h2, of_decide_eq_true h3, (fnB_ok h4).1, (fnB_ok h4).2, eqO_ok h5⟩
def boolB (K : PySem.W.Frag) (cs : List Addr) : Bool := cs.all fun c => eqO (PySem.W.findIn K (.ref c) "__bool__") (some none) && eqO (PySem.W.findIn K (.ref c) "__len__") (some none)
theorem boolB_ok {cs : List Addr} (h : boolB K cs = true) : ∀ C ∈ cs, BoolC K C := fun C hC => by
  obtain ⟨h1, h2⟩ := ba (List.all_eq_true.mp h C hC)
  exact ⟨eqO_ok h1, eqO_ok h2⟩
def clsB (K : PySem.W.Frag) (C : Addr) : Bool := PySem.W.plainGet K C Str.empty && (PySem.W.hasDictIn K C && (PySem.W.plainOver K C && eqO (PySem.W.findIn K (.ref C) "__setattr__") (some (some (.builtin "object.__setattr__")))))
theorem clsB_ok {C : Addr} (h : clsB K C = true) : Cls K C := by
  obtain ⟨h1, h⟩ := ba h
  obtain ⟨h2, h⟩ := ba h
  obtain ⟨h3, h4⟩ := ba h
  exact ⟨h1, h2, h3, eqO_ok h4⟩
def isiCB (K : PySem.W.Frag) (C : Addr) : Bool := clsB K C && (eqO (PySem.W.findIn K (.ref C) "__class__") (some (some (.builtin "object.__class__"))) && (eqO (PySem.W.specialIn K (.builtin "object.__class__") "__get__") (some (some (.builtin "getset_descriptor.__get__"))) && (decide (PySem.W.takesIn K (.builtin "object.__class__") = some true) &&
  (decide (PySem.W.mroIn K C (.type "object") = some true) && decide (PySem.W.kitOne K (.ref C) (.ref C) = some true)))))
theorem isiCB_ok {C : Addr} (h : isiCB K C = true) : IsiC K C := by
  obtain ⟨h1, h⟩ := ba h
  obtain ⟨h2, h⟩ := ba h
  obtain ⟨h3, h⟩ := ba h
  obtain ⟨h4, h⟩ := ba h
  obtain ⟨h5, h6⟩ := ba h
  exact ⟨clsB_ok h1, eqO_ok h2, eqO_ok h3, of_decide_eq_true h4, of_decide_eq_true h5, of_decide_eq_true h6⟩
def isiKB (K : PySem.W.Frag) (cs : List Addr) : Bool := (cs.all fun c => isiCB K c) && ((cs.all fun c => cs.all fun c' => decide (c = c') || decide (PySem.W.kitOne K (.ref c) (.ref c') = some false)) && ((cs.all fun c => tyNames.all fun n => decide (PySem.W.kitOne K (.type n) (.ref c) = some false)) && (cs.all fun c => tyNames.all fun n => decide (PySem.W.kitOne K (.ref c) (.type n) = some false))))
theorem isiKB_ok {cs : List Addr} (h : isiKB K cs = true) : IsiK K cs := by
  obtain ⟨h1, h⟩ := ba h
  obtain ⟨h2, h⟩ := ba h
  obtain ⟨h3, h4⟩ := ba h
  refine ⟨fun c hc => isiCB_ok (List.all_eq_true.mp h1 c hc), fun c hc c' hc' ne => ?_, fun c hc n hn => of_decide_eq_true (List.all_eq_true.mp (List.all_eq_true.mp h3 c hc) n hn), fun c hc n hn => of_decide_eq_true (List.all_eq_true.mp (List.all_eq_true.mp h4 c hc) n hn)⟩
  have z := List.all_eq_true.mp (List.all_eq_true.mp h2 c hc) c' hc'
  rcases Bool.or_eq_true_iff.mp z with z | z
  · exact absurd (of_decide_eq_true z) ne
  · exact of_decide_eq_true z
mutual
def kD (K : PySem.W.Frag) : D → Value → Bool
  | .non, .none => true
  | .bl b, .bool c => b == c
  | .int i, .int j _ => decide (i = j)
  | .str s, .str t _ => decide (s = t)
  | .tup ds, .ref a => (match K.lookup a with
    | some ⟨.type c, _, .seq its _, _⟩ => decide (c = "tuple") && (decide (its.size ≤ sizeLine) && kDs K ds its.toList)
    | _ => false)
  | _, _ => false
def kDs (K : PySem.W.Frag) : List D → List Value → Bool
  | [], [] => true
  | d :: ds, u :: us => kD K d u && kDs K ds us
  | _, _ => false
end
mutual
theorem kD_ok : ∀ {d : D} {u : Value}, kD K d u = true → ∃ v, L2.RelV v u ∧ ∀ M H, Rep K M H d v
  | .non, u, h => by
    cases u <;> first | (exact ⟨.non, rfl, fun _ _ => rnon⟩) | (unfold kD at h; cases h)
  | .bl b, u, h => by
    cases u <;> first | (unfold kD at h; obtain rfl := beq_iff_eq.mp h; exact ⟨.bl _, rfl, fun _ _ => rbl _⟩) | (unfold kD at h; cases h)
  | .int i, u, h => by
    cases u <;> first | (unfold kD at h; obtain rfl := of_decide_eq_true h; exact ⟨.int _, ⟨_, rfl⟩, fun _ _ => rint _⟩) | (unfold kD at h; cases h)
  | .str i, u, h => by
    cases u <;> first | (unfold kD at h; obtain rfl := of_decide_eq_true h; exact ⟨.str _, ⟨_, rfl⟩, fun _ _ => rstr _⟩) | (unfold kD at h; cases h)
  | .tup ds, u, h => by
    cases u with
    | ref a =>
      unfold kD at h
      split at h
      · rename_i c dd its n sl e
        obtain ⟨h1, h⟩ := ba h
        obtain ⟨h2, h3⟩ := ba h
        obtain ⟨vs, rv, rr⟩ := kDs_ok h3
        exact ⟨.ref a, rfl, fun M H => rtup (.inr ⟨_, its, n, e, congrArg Value.type (of_decide_eq_true h1), rfl, of_decide_eq_true h2, rv⟩) (rr M H)⟩
      · cases h
    | _ => unfold kD at h; cases h
  | .lst _, u, h => by cases u <;> (unfold kD at h; cases h)
  | .ins _ _ _, u, h => by cases u <;> (unfold kD at h; cases h)
  | .dK _ _, u, h => by cases u <;> (unfold kD at h; cases h)
  | .dT _ _, u, h => by cases u <;> (unfold kD at h; cases h)
  | .val _, u, h => by cases u <;> (unfold kD at h; cases h)
  | .fn _ _ _ _ _, u, h => by cases u <;> (unfold kD at h; cases h)
  | .scr _, u, h => by cases u <;> (unfold kD at h; cases h)
  | .exc _ _ _ _, u, h => by cases u <;> (unfold kD at h; cases h)
theorem kDs_ok : ∀ {ds : List D} {us : List Value}, kDs K ds us = true → ∃ vs, Vals vs us ∧ ∀ M H, Reps K M H ds vs
  | [], us, h => by
    cases us with
    | nil => exact ⟨[], .nil, fun _ _ => rnil⟩
    | cons u us => unfold kDs at h; cases h
  | d :: ds, us, h => by
    cases us with
    | nil => unfold kDs at h; cases h
    | cons u us =>
      unfold kDs at h
      obtain ⟨h1, h2⟩ := ba h
      obtain ⟨v, r1, r2⟩ := kD_ok h1
      obtain ⟨vs, s1, s2⟩ := kDs_ok h2
      exact ⟨v :: vs, .cons r1 s1, fun M H => rcons (r2 M H) (s2 M H)⟩
end
/-- a name of the module -/
def gloB (K : PySem.W.Frag) (x : Str) (d : D) : Bool := match PySem.W.nsIn K mainGlobals x with
  | some (some u) => kD K d u
  | _ => false
theorem gloB_ok {h : Heap} {mg : Str → Option Value} (X : K.In h) (G : h.Ns mainGlobals mg) {x : Str} {d : D} (c : gloB K x d = true) : ∃ u v, mg x = some u ∧ L2.RelV v u ∧ ∀ M H, Rep K M H d v := by
  unfold gloB at c
  split at c
  · rename_i u e
    obtain ⟨v, r1, r2⟩ := kD_ok c
    exact ⟨u, v, PySem.W.mg_of X G e, r1, r2⟩
  · cases c
theorem kD_ref {d : D} {a : Addr} (h : kD K d (.ref a) = true) : ∀ M H, Rep K M H d (.ref a) := by
  obtain ⟨v, r, q⟩ := kD_ok h
  have e : v = .ref a := by cases v <;> first | (cases r; rfl) | (obtain ⟨_, z⟩ := r; cases z) | cases r
  rw [← e]
  exact q
end
end Dw
set_option maxHeartbeats 2000000
namespace Dw
open PySem PySem.Spec PyProof.Rows L2 He Px
theorem law_end {K : PySem.W.Frag} {tb : List (Addr × Str)} {g : List D → W D} {H : Hp} {a : Addr} {ns : List Int} (hT : ∀ p ∈ tb, H p.1 = some (.tbl #[])) (hK : ∀ p ∈ tb, K.lookup p.1 = none) (hS : SqL K H a (ns.map V.int)) (h : g [.scr ns] (fun _ => none) (fun d _ => d = .bl true) noX) :
    spD K tb 1 g [.ref a] H (fun v _ => v = .bl true) fun _ _ _ => False := by
  refine ⟨⟨tb, []⟩, [.scr ns], fun _ => none, fun d _ => d = .bl true, noX, rfl, rfl, rcons (rscr (fun ⟨o, ho⟩ z => ?_) hS) rnil, ⟨fun p hp => LamX.TabS.nil (hT p hp), (fun _ z => nomatch z), (fun _ _ z => nomatch z)⟩, h, ?_, fun _ _ _ _ _ z => z.elim⟩
  · rcases z with (⟨m, z⟩ | ⟨q, z⟩) | z
    · cases z
    · have t := hT _ z
      have nl := hK _ z
      dsimp only at t nl
      rcases hS with (s | ⟨u, s⟩) | ⟨o, its, n, s, _⟩
      · rw [t] at s; cases s
      · rw [t] at s; cases s
      · rw [nl] at s; cases s
    · cases z
  · rintro d S' v H' rfl r _ _
    exact bl_of r
theorem cx_no {P : Program} {w : World} {H : Hp} {s : Shared} {e : Value} {s' : Shared} (h : L2.CX P w [] H s (fun _ _ _ => False) e s') : False := by
  obtain ⟨_, _, _, _, _, _, _, _, _, _, _, _, z⟩ := h
  exact z
end Dw
set_option maxHeartbeats 2000000
namespace Dw
open PySem PySem.Spec PyProof.Rows L2
/-- data without lists, objects, tables -/
def pf : Nat → D → Bool
  | 0, _ => false
  | n + 1, .tup ds => ds.all (pf n)
  | _ + 1, .non => true
  | _ + 1, .bl _ => true
  | _ + 1, .int _ => true
  | _ + 1, .str _ => true
  | _ + 1, _ => false
def flM : MC → Prop
  | .lst ds => ds.all (pf 9) = true
  | .bag _ _ => True
  | .ins _ _ ds => ds.all (pf 9) = true
  | _ => False
def flS (S : Sto) : Prop := ∀ a m, S a = some m → flM m
end Dw
set_option maxHeartbeats 2000000
namespace Dw
open PySem PySem.Spec PyProof.Rows L2
/-- what stands in a list or a tuple -/
def seqD (S : Sto) : D → Option (List D)
  | .lst xs => some xs
  | .tup xs => some xs
  | .val (.ref a) => (match S a with
    | some (.lst xs) => some xs
    | _ => none)
  | _ => none
section
variable {K : PySem.W.Frag} {M : Addr → Prop} {H : Hp} {T : Gx} {S : Sto}
theorem seq_of {d : D} {v : V} {xs : List D} (k : Ok K T S H) (r : Rep K (Mu T S) H d v) (h : seqD S d = some xs) : ∃ a vs, v = .ref a ∧ (SqL K H a vs ∨ SqT K H a vs) ∧ Reps K (Mu T S) H xs vs := by
  unfold seqD at h
  split at h
  · cases h
    obtain ⟨a, vs, rfl, _, e, rs⟩ := lst_of r
    exact ⟨a, vs, rfl, .inl (.inl (.inl e)), rs⟩
  · cases h
    obtain ⟨a, vs, rfl, e, rs⟩ := tup_of r
    exact ⟨a, vs, rfl, .inr e, rs⟩
  · rename_i a
    obtain rfl := val_of r
    split at h
    · rename_i e
      cases h
      obtain ⟨vs, e1, rs⟩ := k.cel a _ e
      exact ⟨a, vs, rfl, .inl (.inl (.inl e1)), rs⟩
    · cases h
  · cases h
end
end Dw
set_option maxHeartbeats 2000000
namespace Dw
open PySem PySem.Spec PyProof.Rows L2
open Builtin Builtin.Str Builtin.Int
def dMethN (ms : Ms) (m : Str) (perm : List Nat) (e : DE) (kfs : List DE) : DE := fun ρ S post xp => e ρ S (fun d S1 => ∃ C g, (C, g) ∈ ms ∧ isOf S1 d C m ∧ dArgs kfs ρ S1 (fun ds S2 => g (permD perm (d :: ds)) S2 post xp) xp) xp
structure MethKOk (P : Program) (w : World) (K : PySem.W.Frag) (mg : Str → Option Value) (base : Heap) (tb : List (Addr × Str)) (m : Str) (ps ks : List Str) (perm : List Nat) (lv : Nat) (C : Addr) (g : List D → W D) : Prop where
  cl : Cls K C
  ex : ∃ f fd, Meth K C m f ∧ KBn K fd ps 1 ks (Px.permU perm) (Px.permV perm) ∧ FnOk P w K mg base (L2.CX P w) lv f fd ps (spD K tb ps.length g)
section
variable {X : Cx} {T : Gx} {E : XK} {o : Expr} {kws : List Keyword} {ks ps : List Str} {pos apos : Pos} {kfs : List DE} {e : DE} {lv j : Nat} {perm : List Nat}
theorem de_methN {tb : List (Addr × Str)} {ms : Ms} {m : Str} {pl : Sem Bool} (he : PE X o (tE X.K T E e)) (hM : ∀ q ∈ ms, MethKOk X.prog X.w X.K X.mg X.base tb m ps ks perm lv q.1 q.2) (hT : T.tab = tb) (hr : Room j X.A) (px : Passes (L2.CX X.prog X.w) X E) (hk : PK X kws (tA X.K T E (dArgs kfs))) (hp : perm.length = ps.length := by rfl) (hkl : kfs.length = ks.length := by rfl) (hj : Nat.ble lv j = true := by rfl)
    (hall : (backToKw pos (keywordEach kws X.env)).all (·.1.isSome) = true := by rfl) (hks : (backToKw pos (keywordEach kws X.env)).filterMap (·.1) = ks := by rfl) (hpl : ((backTo pos (starEach [] X.env)).any (·.1) || (backToKw pos (keywordEach kws X.env)).any (·.1.isNone)) = false := by rfl)
    (ht : eval (.Call (.Attribute o m apos) [] kws pos) X.env = (do
      let ov ← eval o X.env
      standAt apos.atName
      let (f, first) ← holding [ov] (getMethod ov m pl)
      callWith pos f first (backTo pos (starEach [] X.env)) (backToKw pos (keywordEach kws X.env))) := by rfl) :
    PE X (.Call (.Attribute o m apos) [] kws pos) (tE X.K T E (dMethN ms m perm e kfs)) := by
  subst hT
  constructor
  rintro pins s σ H Q I ⟨ρ, S, post, xp, rl, k, h, q, x⟩
  refine PySem.W.methodCall_KW (pl := pl) (thn (he.run pins s σ H _ I ⟨ρ, S, _, xp, rl, k, h, fun d S1 v H1 h1 r1 k1 s1 => (⟨d, S1, h1, r1, k1, s1⟩ : ∃ d S1, (∃ C g, (C, g) ∈ ms ∧ isOf S1 d C m ∧ dArgs kfs ρ S1 (fun ds S2 => g (permD perm (d :: ds)) S2 post xp) xp) ∧ Rep X.K (Mu T S1) H1 d v ∧ Ok X.K T S1 H1 ∧ Step T S H S1 H1), x⟩) ?_) ht
  rintro u s1 ⟨v, H1, I1, rv, d, S1, ⟨C, g, hm, hi, h1⟩, r1, k1, st1⟩
  obtain ⟨ad, dx, fs', rfl, ea, l⟩ := isOf_ok k1 r1 hi
  obtain rfl : u = Value.ref ad := rv
  obtain ⟨cl, f, fd, hM', hb, F⟩ := hM _ hm
  refine getmeth_ok I1 ea cl hM' l ?_
  refine PySem.W.callWith_KW0 (first := [.ref ad]) (h₀ := X.base) I1.ok.mod.kin hM'.kp hall (thn (hk.run pos pins s1 σ H1 _ I1 ⟨ρ, S1, _, xp, rl.step k st1, k1, (by rw [← dArgs_len]; exact h1), fun ds S2 vs H2 h2 r2 k2 s2 => (⟨ds, S2, h2, r2, k2, s2⟩ : ∃ ds S2, (ds.length = kfs.length ∧ g (permD perm (d :: ds)) S2 post xp) ∧ Reps X.K (Mu T S2) H2 ds vs ∧ Ok X.K T S2 H2 ∧ Step T S1 H1 S2 H2), x.from st1⟩) ?_) hpl
  rintro us s2 ⟨vs, H2, I2, r, ds, S2, ⟨l2, h2⟩, r2, k2, st2⟩
  rw [hks]
  have rr : Reps X.K (Mu T S2) H2 (d :: ds) (.ref ad :: vs) := rcons (r1.step k1 st2) r2
  refine ⟨I2.kIn, run_fnN (us := [.ref ad]) (vs := [.ref ad]) F (hr.mono (Nat.le_of_ble_eq_true hj)) hb px I2 (.cons rfl .nil) r rfl (by rw [r2.len, l2, hkl]) ?_⟩
  exact spD_of (ds := permD perm (d :: ds)) (by unfold permD; rw [List.length_map, hp]) (reps_perm rr perm) k2 h2 (q.from (st1.trans st2)) (x.from (st1.trans st2))
end
theorem dMethN_m (C : Addr) (g : List D → W D) (m : Str) (perm : List Nat) (e : DE) (kfs : List DE) (ρ : Lc) (S : Sto) (post : D → Sto → Prop) (xp : Xp) : dMethN [(C, g)] m perm e kfs ρ S post xp = e ρ S (fun d S1 => isOf S1 d C m ∧ dArgs kfs ρ S1 (fun ds S2 => g (permD perm (d :: ds)) S2 post xp) xp) xp := by
  unfold dMethN
  congr 1
  funext d S1
  exact propext ⟨fun ⟨C', g', h, k⟩ => by cases List.mem_singleton.mp h; exact k, fun k => ⟨C, g, List.mem_singleton.mpr rfl, k⟩⟩
end Dw
set_option maxHeartbeats 2000000
namespace Dw
open PySem PySem.Spec PyProof.Rows L2
/-- what stands in a list that changes, as data -/
def seeD (S : Sto) (d : D) : D := match d with
  | .val (.ref a) => (match S a with
    | some (.lst xs) => .lst xs
    | _ => d)
  | _ => d
section
variable {K : PySem.W.Frag} {T : Gx} {S : Sto} {H : Hp}
theorem dp_see {d : D} {v : V} (k : Ok K T S H) (r : Rep K (Mu T S) H d v) (p : plain (seeD S d) = true) : Dp K H v (toPd (seeD S d)) := by
  cases d with
  | val x =>
    cases x with
    | ref a =>
      obtain rfl := val_of r
      cases e : S a with
      | none =>
        have e2 : seeD S (.val (.ref a)) = .val (.ref a) := by unfold seeD; simp only [e]
        rw [e2] at p
        unfold plain at p
        cases p
      | some m =>
        cases m with
        | lst xs =>
          have e2 : seeD S (.val (.ref a)) = .lst xs := by unfold seeD; simp only [e]
          rw [e2] at p ⊢
          obtain ⟨vs, e1, rs⟩ := k.cel a _ e
          unfold toPd
          unfold plain at p
          exact .lst (.inl (.inl e1)) (dps_of p rs)
        | _ =>
          have e2 : seeD S (.val (.ref a)) = .val (.ref a) := by unfold seeD; simp only [e]
          rw [e2] at p
          unfold plain at p
          cases p
    | _ =>
      unfold seeD at p
      unfold plain at p
      cases p
  | _ => exact dp_of p r
theorem see_lst {d : D} {v : V} {xs : List D} (k : Ok K T S H) (r : Rep K (Mu T S) H d v) (e : seeD S d = .lst xs) : ∃ a vs, v = .ref a ∧ H a = some (.lst vs) ∧ Reps K (Mu T S) H xs vs := by
  unfold seeD at e
  split at e
  · rename_i a
    obtain rfl := val_of r
    split at e
    · rename_i ys h
      cases e
      obtain ⟨vs, e1, rs⟩ := k.cel a _ h
      exact ⟨a, vs, rfl, e1, rs⟩
    · cases e
  · subst e
    obtain ⟨a, vs, rfl, _, h, rs⟩ := lst_of r
    exact ⟨a, vs, rfl, h, rs⟩
end
def oEqV : D → D → W D := fun x y S post xp => oEq (seeD S x) (seeD S y) S post xp
def oNeV : D → D → W D := fun x y S post xp => oNe (seeD S x) (seeD S y) S post xp
def oInV : D → D → W D := fun x y S post _ => ∃ ys, seeD S y = .lst ys ∧ okEq (seeD S x) = true ∧ okEq (.lst ys) = true ∧ post (.bl (inD (seeD S x) ys)) S
/-- list + list, to be changed -/
def oAddM : D → D → W D := fun x y S post _ => ∃ xs ys, seeD S x = .lst xs ∧ seeD S y = .lst ys ∧ xs.length + ys.length ≤ 1000 ∧ ∀ p, S p = none → post (.val (.ref p)) (S.put p (.lst (xs ++ ys)))
/-- .. not to be changed -/
def oAddV : D → D → W D := fun x y S post _ => ∃ xs ys, seeD S x = .lst xs ∧ seeD S y = .lst ys ∧ xs.length + ys.length ≤ 1000 ∧ post (.lst (xs ++ ys)) S
section
variable {X : Cx} {T : Gx} {E : XK}
theorem or_eqV (hu : X.A.units + 64 < cLine) : OpR X (compareOp .Eq) (rD2 X.K T E oEqV) := by
  rintro pins s σ H v w u1 u2 Q I ra rb ⟨x, y, S, post, xp, rx, ry, k, ⟨hx, hy, h⟩, q, xx⟩
  unfold okEq at hx hy
  rw [Bool.and_eq_true] at hx hy
  exact op_eqD hu pins s σ H _ _ _ _ Q I ra rb ⟨_, _, dp_see k rx hx.1, dp_see k ry hy.1, hx.2, hy.2, q.now k h (rbl _)⟩
theorem or_neV (hu : X.A.units + 64 < cLine) : OpR X (compareOp .NotEq) (rD2 X.K T E oNeV) := by
  rintro pins s σ H v w u1 u2 Q I ra rb ⟨x, y, S, post, xp, rx, ry, k, ⟨hx, hy, h⟩, q, xx⟩
  unfold okEq at hx hy
  rw [Bool.and_eq_true] at hx hy
  exact op_neD hu pins s σ H _ _ _ _ Q I ra rb ⟨_, _, dp_see k rx hx.1, dp_see k ry hy.1, hx.2, hy.2, q.now k h (rbl _)⟩
theorem or_inV (hu : X.A.units + 65 < cLine) : OpR X (compareOp .In) (rD2 X.K T E oInV) := by
  rintro pins s σ H v w u1 u2 Q I ra rb ⟨x, y, S, post, xp, rx, ry, k, ⟨ys, e, hx, hy, h⟩, q, xx⟩
  rw [← e] at hy
  unfold okEq at hx hy
  rw [Bool.and_eq_true] at hx hy
  have dy := dp_see k ry hy.1
  have sy := hy.2
  rw [e] at dy sy
  unfold toPd at dy sy
  exact op_inD hu pins s σ H _ _ _ _ Q I ra rb ⟨_, _, dp_see k rx hx.1, dy, hx.2, sy, by rw [any_eq]; exact q.now k h (rbl _)⟩
theorem or_addM : OpR X (binaryOp .Add) (rD2 X.K T E oAddM) := by
  rintro pins s σ H v w u1 u2 Q I ra rb ⟨x, y, S, post, xp, rx, ry, k, ⟨xs, ys, ex, ey, hl, h⟩, q, xx⟩
  obtain ⟨a, vs, rfl, ha, ra'⟩ := see_lst k rx ex
  obtain ⟨b, ws, rfl, hb, rb'⟩ := see_lst k ry ey
  have l1 := ra'.len
  have l2 := rb'.len
  refine op_cat pins s σ H _ _ _ _ Q I ra rb ⟨a, b, vs, ws, rfl, rfl, ha, hb, Nat.le_trans (by omega : vs.length + ws.length ≤ 1000) (by decide), fun p hp => ?_⟩
  have hs : S p = none := by
    cases e : S p with
    | none => rfl
    | some m => exact absurd hp (k.there (.inl (.inl ⟨m, e⟩)))
  have st : Step T S H (S.put p (.lst (xs ++ ys))) (upd H p (.lst (vs ++ ws))) := step_put (.inl hp)
  exact q _ _ _ _ (h p hs) (rval _) (k.put (.inl hp) ⟨_, upd_same, (ra'.app rb').step k st⟩) st
theorem or_addV : OpR X (binaryOp .Add) (rD2 X.K T E oAddV) := by
  rintro pins s σ H v w u1 u2 Q I ra rb ⟨x, y, S, post, xp, rx, ry, k, ⟨xs, ys, ex, ey, hl, h⟩, q, xx⟩
  obtain ⟨a, vs, rfl, ha, ra'⟩ := see_lst k rx ex
  obtain ⟨b, ws, rfl, hb, rb'⟩ := see_lst k ry ey
  have l1 := ra'.len
  have l2 := rb'.len
  exact op_cat pins s σ H _ _ _ _ Q I ra rb ⟨a, b, vs, ws, rfl, rfl, ha, hb, Nat.le_trans (by omega : vs.length + ws.length ≤ 1000) (by decide), fun p hp => q _ _ _ _ h (rlst (k.new hp) upd_same ((ra'.app rb').step k (step_new hp))) (k.laid hp) (step_new hp)⟩
def dUnpV (is : List Nat) (e : DE) : DS := fun ρ S p => e ρ S (fun d S' => ∃ ds, seeD S' d = .lst ds ∧ ds.length = is.length ∧ p.nx (setL ρ is ds) S') p.xp
theorem ds_unpV {is : List Nat} {n : Nat} {f : DE} {st : Stmt} (hp : PS X st (tAsg (tE X.K T E f) (gLst X.K n (Px.gNames is)))) (e1 : n = is.length := by rfl) : PS X st (tS X.K T E (dUnpV is f)) := ps_imp hp (by
  rintro Dd σ H ⟨ρ, S, p, rl, k, h, n', r, bk, ct, x⟩
  refine ⟨ρ, S, _, p.xp, rl, k, h, ?_, x⟩
  rintro d S' v H' ⟨ds, e, hl, h'⟩ r' k' s'
  obtain ⟨ad, xs, rfl, sq, rs⟩ := see_lst k' r' e
  exact ⟨ad, xs, rfl, .inl (.inl sq), by rw [rs.len, hl, e1], Px.f_names (by rw [rs.len, hl]) (n' _ _ _ _ h' ((rl.step k s').setAll rs) k' s')⟩)
structure InOk (P : Program) (w : World) (K : PySem.W.Frag) (mg : Str → Option Value) (base : Heap) (tb : List (Addr × Str)) (lv : Nat) (C : Addr) (g : List D → W D) : Prop where
  ex : ∃ f fd ps, PySem.W.findIn K (.ref C) "__contains__" = some (some (.ref f)) ∧ PySem.W.isFn K (.ref f) = true ∧ ps.length = 2 ∧ Binds K fd ps [] ∧ FnOk P w K mg base (L2.CX P w) lv f fd ps (spD K tb ps.length g)
def oOwnIn (ms : Ms) : D → D → W D := fun x y S post xp => ∃ C g, (C, g) ∈ ms ∧ isOf0 S y C ∧ g [y, x] S (fun d S' => ∃ b, d = .bl b ∧ post (.bl b) S') xp
theorem or_ownIn {ms : Ms} {tb : List (Addr × Str)} {lv j : Nat} (hM : ∀ q ∈ ms, InOk X.prog X.w X.K X.mg X.base tb lv q.1 q.2) (hT : T.tab = tb) (hr : Room j X.A) (px : Passes (L2.CX X.prog X.w) X E) (hj : Nat.ble lv j = true := by rfl) : OpR X (compareOp .In) (rD2 X.K T E (oOwnIn ms)) := by
  subst hT
  rintro pins s σ H v w u1 u2 Q I ra rb ⟨x, y, S, post, xp, rx, ry, k, ⟨C, g, hm, h1, h⟩, q, xx⟩
  obtain ⟨ad, dx, fs', rfl, ea⟩ := isOf0_ok k ry h1
  obtain rfl : u2 = Value.ref ad := rb
  obtain ⟨f, fd, ps, at_, isf, hp, hb, F⟩ := hM _ hm
  obtain ⟨m, Fm⟩ := I.fr
  obtain ⟨mA, O, _⟩ := ins_get I.hok ea
  obtain ⟨od, J, _⟩ := O.look
  refine PySem.W.in_K Fm I.ok.mod.kin J at_ isf ?_
  refine wpAny_mono (run_fn (Q := fun v H' => ∃ b, v = .bl b ∧ Q (.bl b) H') (us := [.ref ad, u1]) (vs := [.ref ad, v]) (dvs := []) F (hr.mono (Nat.le_of_ble_eq_true hj)) hb .nil px I (.cons rfl (.cons ra .nil)) (spD_of (ds := [y, x]) (by rw [hp]; rfl) (rcons ry (rcons rx rnil)) k h ?_ xx)) (fun r s' hq => ?_) fun _ _ z => z
  · rintro d S' v' H' ⟨b, rfl, hd⟩ rv k' s'
    exact ⟨b, bl_of rv, q _ _ _ _ hd (rbl _) k' s'⟩
  · obtain ⟨v', H', I', rv, b, rfl, q'⟩ := hq
    obtain rfl : r = Value.bool b := rv
    exact wpAny_truthy_bool ⟨.bl b, H', I', rfl, q'⟩
end
end Dw
set_option maxHeartbeats 2000000
namespace Dw
open PySem PySem.Spec PyProof.Rows L2 StX
def spS (K : PySem.W.Frag) (tb : List (Addr × Str)) (g : List D → W D) : Sp := fun vs H Q E =>
  ∃ (T : Gx) (d0 : D) (ds : List D) (S : Sto) (post : D → Sto → Prop) (xp : Xp), T.tab = tb ∧ ds.length ≤ 1000 ∧ Reps K (Mu T S) H (d0 :: ds) vs ∧ Ok K T S H ∧ g [d0, .tup ds] S post xp ∧ PostD K T (Rep K) S H post Q ∧ ExI K T E S H xp
/-- a class of the text whose __init__ takes what comes -/
structure NewSOk (P : Program) (w : World) (K : PySem.W.Frag) (mg : Str → Option Value) (base : Heap) (tb : List (Addr × Str)) (x : Str) (lv : Nat) (C : Addr) (g : List D → W D) (f : Addr) : Prop where
  at_ : mg x = some (.ref C)
  mkC : Mk K C f
  ok : FnR P w K mg base (L2.CX P w) lv f (spS K tb g)
section
variable {P : Program} {w : World} {K : PySem.W.Frag} {mg : Str → Option Value} {base : Heap} {tb : List (Addr × Str)}
theorem star_okD {x qual p1 pv : Str} {st : Stmt} {f : Addr} {fd : FuncData} {N : List Str} {k m : Nat} {u : DS} (F : Fun K x qual st f fd) (S : FnScope N [p1, pv] (defScope st)) (hm : N.length = m := by rfl)
    (h0 : ∀ (kV doc pm : Value) (an : Option Addr) (cdv ct a : Value), bindArgs (PySem.W.fnOf x qual (defArgs st) (defBody st) (defScope st) .none kV doc pm an cdv ct) ⟨[a], []⟩ = (newTuple [] >>= fun t => pure [(p1, a), (pv, t)]) := by intros; rfl)
    (h1 : ∀ (kV doc pm : Value) (an : Option Addr) (cdv ct a r : Value) (rs : List Value), bindArgs (PySem.W.fnOf x qual (defArgs st) (defBody st) (defScope st) .none kV doc pm an cdv ct) ⟨a :: r :: rs, []⟩ = (newTuple (r :: rs) >>= fun t => pure [(p1, a), (pv, t)]) := by intros; rfl)
    (hb : ∀ (T : Gx) (cdv : Value) (A : Around) (outer : List Env) (s : Shared) (H : Hp) (E : XK), T.tab = tb → Room k (A.deeper (envOfC qual (defScope st) s.heap.objs.size f cdv)) →
      PSs (cxOf (L2.CX P w) P w K mg base N qual (defScope st) f cdv A outer s H E) (defBody st) (tS K T E u)) : FnR P w K mg base (L2.CX P w) (k + 1) f (spS K tb (dDef m u)) := by
  obtain ⟨oc, od, kV, doc, pm, an, cdv, ct, osl, rfl, lk, hcd⟩ := F.ex
  have R := fn_star (P := P) (w := w) (mg := mg) (base := base) (k := k) (sp := spD K tb 2 (dDef m u)) (ps := [p1]) (pv := pv) lk hcd S cxUp
    (bind_star1 (B := fun us => bindArgs (PySem.W.fnOf x qual (defArgs st) (defBody st) (defScope st) .none kV doc pm an cdv ct) ⟨us, []⟩) (h0 kV doc pm an cdv ct) (h1 kV doc pm an cdv ct))
    (fun A outer s H vs Q E hr h => by
      obtain ⟨T, ds, S0, post, xp, et, l, r, ok, g, q, x⟩ := h
      refine ⟨_, hb T cdv A outer s H E et hr, ?_⟩
      refine ⟨_, S0, _, def_start r hm, ok, g, ?_, q, fun _ _ _ _ z => z.elim, fun _ _ _ _ z => z.elim, x⟩
      intro ρ' S' σ' H' h' _ k' s'
      exact q _ _ _ _ h' rnon k' s')
  intro A outer s H us vs Q E hr e0 r h
  obtain ⟨T, d0, ds, S0, post, xp, et, l, rr, ok, g, q, x⟩ := h
  obtain ⟨v0, vr, rfl, r0, r1⟩ := cons_of rr
  have hl : vr.length ≤ 1000 := by rw [r1.len]; exact l
  refine R A outer s H us (v0 :: vr) Q E hr e0 r ⟨[v0], vr, rfl, rfl, Nat.le_trans hl (by decide), fun p hp => ?_⟩
  have s1 : Step T S0 H S0 (upd H p (.tup vr)) := step_new hp
  exact ⟨T, [d0, .tup ds], S0, post, xp, et, rfl, rcons (r0.step ok s1) (rcons (rtup (.inl (.inl upd_same)) (r1.step ok s1)) rnil), ok.laid hp, g, q.from s1, x.from s1⟩
end
/-- x(a, b, ..) -/
def nNewS (C : Addr) (g : List D → W D) (ds : List D) : W D := fun S post xp => ds.length ≤ 1000 ∧ ∀ a, S a = none → g [.val (.ref a), .tup ds] (S.put a (.ins C [] [])) (fun r S2 => r = .non ∧ frz (.val (.ref a)) S2 post) xp
def dNewS (C : Addr) (g : List D → W D) (fs : List DE) : DE := fun ρ S post xp => dArgs fs ρ S (fun ds S1 => nNewS C g ds S1 post xp) xp
/-- x(*a) -/
def dNewX (C : Addr) (g : List D → W D) (e : DE) : DE := fun ρ S post xp => e ρ S (fun d S1 => ∃ ds, seqD S1 d = some ds ∧ nNewS C g ds S1 post xp) xp
section
variable {X : Cx} {T : Gx} {E : XK} {a b o : Expr} {es : List Expr} {pos p sp_ : Pos} {fs : List DE} {x : Str} {lv j : Nat} {g : List D → W D} {f C : Addr} {tb : List (Addr × Str)} {fe : DE}
theorem makeS_conv {K : PySem.W.Frag} {S1 : Sto} {H1 : Hp} {Q : VK} {ds : List D} {vs : List V} {post : D → Sto → Prop} {xp : Xp} (h : nNewS C g ds S1 post xp) (r1 : Reps K (Mu T S1) H1 ds vs) (k1 : Ok K T S1 H1) (q : PostD K T (Rep K) S1 H1 post Q) (xx : ExI K T E S1 H1 xp) :
    ∀ y dx, H1 y = none → H1 dx = none → dx ≠ y → spS K T.tab g (V.ref y :: vs) (upd (upd H1 dx (.own y)) y (.ins C dx [])) (fun v H2 => v = .non ∧ Q (.ref y) H2) E := by
  obtain ⟨hl, h⟩ := h
  intro y dx ny ndx nex
  have k2 := k1.laid (o := .own y) ndx
  have s2 : Step T S1 H1 S1 (upd H1 dx (.own y)) := step_new ndx
  have ny2 : upd H1 dx (.own y) y = none := by rw [upd_ne (Ne.symm nex)]; exact ny
  have s3 : Step T S1 (upd H1 dx (.own y)) (S1.put y (.ins C [] [])) (upd (upd H1 dx (.own y)) y (.ins C dx [])) := step_put (.inl ny2)
  have k3 : Ok K T (S1.put y (.ins C [] [])) (upd (upd H1 dx (.own y)) y (.ins C dx [])) := k2.put (.inl ny2) ⟨dx, [], upd_same, rfl, rnil⟩
  have st := s2.trans s3
  refine ⟨T, .val (.ref y), ds, _, _, xp, rfl, hl, rcons (rval _) (r1.step k1 st), k3, h y (k1.unsto ny), ?_, xx.from st⟩
  rintro r S4 v H4 ⟨rfl, h4⟩ rv k4 s4
  obtain ⟨d', S5, p5, r5, k5, s5⟩ := frz_ok k4 (rval _) h4
  exact ⟨non_of rv, q _ _ _ _ p5 r5 k5 (st.trans (s4.trans s5))⟩
theorem de_newS (N : NewSOk X.prog X.w X.K X.mg X.base tb x lv C g f) (hT : T.tab = tb) (hr : Room j X.A) (px : Passes (L2.CX X.prog X.w) X E) (ha : PA X (a :: es) (tA X.K T E (dArgs fs)))
    (hg : Gl X x := by rfl) (hj : Nat.ble (lv + 1) j = true := by rfl) (hdb : (x == ("__debug__" : Str)) = false := by decide) (he : starEach (a :: es) X.env = (false, eval a X.env) :: starEach es X.env := by rfl) (hpl : (backTo pos (starEach es X.env)).any (·.1) = false := by rfl) :
    PE X (.Call (.Name x p) (a :: es) [] pos) (tE X.K T E (dNewS C g fs)) := by
  subst hT
  refine pe_imp (pe_makeR N.mkC N.ok (hr.mono (Nat.le_of_ble_eq_true hj)) hg N.at_ px ha hdb he hpl) ?_
  rintro σ H Q ⟨ρ, S, post, xp, rl, k, h, q, xx⟩
  refine ⟨ρ, S, _, xp, rl, k, h, ?_, xx⟩
  intro ds S1 vs H1 h1 r1 k1 s1
  exact makeS_conv h1 r1 k1 (q.from s1) (xx.from s1)
theorem de_newS0 (N : NewSOk X.prog X.w X.K X.mg X.base tb x lv C g f) (hT : T.tab = tb) (hr : Room j X.A) (px : Passes (L2.CX X.prog X.w) X E)
    (hg : Gl X x := by rfl) (hj : Nat.ble (lv + 1) j = true := by rfl) (hdb : (x == ("__debug__" : Str)) = false := by decide) : PE X (.Call (.Name x p) [] [] pos) (tE X.K T E (dNewS C g [])) := by
  subst hT
  refine ⟨fun pins s σ H Q I ⟨ρ, S, post, xp, rl, k, h, q, xx⟩ => ?_⟩
  refine wpAny_Call_Name_kw (ld_glob I hg N.at_ ?_ hdb)
  refine PySem.W.callWith_K0 I.kIn N.mkC.kp ?_
  exact run_makeR N.mkC N.ok (hr.mono (Nat.le_of_ble_eq_true hj)) px I .nil (makeS_conv (ds := []) h rnil k q xx)
theorem de_newX (N : NewSOk X.prog X.w X.K X.mg X.base tb x lv C g f) (hT : T.tab = tb) (hr : Room j X.A) (px : Passes (L2.CX X.prog X.w) X E) (he : PE X a (tE X.K T E fe))
    (hg : Gl X x := by rfl) (hj : Nat.ble (lv + 1) j = true := by rfl) (hdb : (x == ("__debug__" : Str)) = false := by decide) (hst : starEach [.Starred a sp_] X.env = [(true, eval a X.env)] := by rfl) :
    PE X (.Call (.Name x p) [.Starred a sp_] [] pos) (tE X.K T E (dNewX C g fe)) := by
  subst hT
  refine ⟨fun pins s σ H Q I ⟨ρ, S, post, xp, rl, k, h, q, xx⟩ => ?_⟩
  refine wpAny_Call_Name_kw (ld_glob I hg N.at_ ?_ hdb)
  refine PySem.W.callWith_S (h₀ := X.base) I.ok.mod.kin N.mkC.kp (thn (he.run pins s σ H _ I ⟨ρ, S, _, xp, rl, k, h, fun d S1 v H1 h1 r1 k1 s1 => (⟨d, S1, h1, r1, k1, s1⟩ : ∃ d S1, (∃ ds, seqD S1 d = some ds ∧ nNewS C g ds S1 post xp) ∧ Rep X.K (Mu T S1) H1 d v ∧ Ok X.K T S1 H1 ∧ Step T S H S1 H1), xx⟩) ?_) hst
  rintro u s1 ⟨v, H1, I1, rv, d, S1, ⟨ds, e, h1⟩, r1, k1, st1⟩
  obtain ⟨ad, vs, rfl, sq, rs⟩ := seq_of k1 r1 e
  obtain rfl : u = Value.ref ad := rv
  exact star_any I1 sq.symm fun us s2 I2 rv2 => ⟨I2.kIn, run_makeR N.mkC N.ok (hr.mono (Nat.le_of_ble_eq_true hj)) px I2 rv2 (makeS_conv h1 rs k1 (q.from st1) (xx.from st1))⟩
end
theorem dNewS_m (C : Addr) (g : List D → W D) (fs : List DE) (ρ : Lc) (S : Sto) (post : D → Sto → Prop) (xp : Xp) : dNewS C g fs ρ S post xp = dArgs fs ρ S (fun ds S1 => nNewS C g ds S1 post xp) xp := by exact id rfl
theorem dNewX_m (C : Addr) (g : List D → W D) (e : DE) (ρ : Lc) (S : Sto) (post : D → Sto → Prop) (xp : Xp) : dNewX C g e ρ S post xp = e ρ S (fun d S1 => ∃ ds, seqD S1 d = some ds ∧ nNewS C g ds S1 post xp) xp := by exact id rfl
def dFrzE (e : DE) : DE := fun ρ S post xp => e ρ S (fun d S1 => frz d S1 post) xp
theorem de_frzE {X : Cx} {T : Gx} {E : XK} {a : Expr} {e : DE} (h : PE X a (tE X.K T E e)) : PE X a (tE X.K T E (dFrzE e)) := pe_imp h (by
  rintro σ H Q ⟨ρ, S, post, xp, rl, k, h, q, x⟩
  refine ⟨ρ, S, _, xp, rl, k, h, ?_, x⟩
  intro d S1 v H1 h1 r1 k1 s1
  obtain ⟨d', S5, p5, r5, k5, s5⟩ := frz_ok k1 r1 h1
  exact q _ _ _ _ p5 r5 k5 (s1.trans s5))
theorem dFrzE_m (e : DE) (ρ : Lc) (S : Sto) (post : D → Sto → Prop) (xp : Xp) : dFrzE e ρ S post xp = e ρ S (fun d S1 => frz d S1 post) xp := by exact id rfl
end Dw
set_option maxHeartbeats 2000000
set_option maxHeartbeats 2000000
namespace Dw
open PySem PySem.Spec PyProof.Rows L2
section
variable {P : Program} {w : World} {K : PySem.W.Frag} {mg : Str → Option Value} {base : Heap} {tb : List (Addr × Str)} {ps : List Str} {lv lv' N m : Nat} {g : List D → W D} {gs : Nat → List D → W D} {f : Addr} {fd : FuncData}
theorem fnOk_no : FnOk P w K mg base (L2.CX P w) lv f fd ps (spD K tb m (fun _ _ _ _ => False)) :=
  ⟨fun _ _ _ _ ⟨_, _, _, _, _, _, _, _, _, h, _⟩ => h.elim, fun _ _ _ _ _ _ _ _ _ _ _ _ _ ⟨_, _, _, _, _, _, _, _, _, h, _⟩ => h.elim⟩
theorem fnOk_ex (F : ∀ n, n ≤ N → FnOk P w K mg base (L2.CX P w) lv f fd ps (spD K tb m (gs n))) : FnOk P w K mg base (L2.CX P w) lv f fd ps (spD K tb m (fun ds S post xp => ∃ n, n ≤ N ∧ gs n ds S post xp)) :=
  ⟨fun vs H Q E ⟨T, ds, S, post, xp, a, b, c, d, ⟨n, hn, e⟩, q, x⟩ => (F n hn).len vs H Q E ⟨T, ds, S, post, xp, a, b, c, d, e, q, x⟩,
    fun A outer s H args us vs Q E hr e0 hb r ⟨T, ds, S, post, xp, a, b, c, d, ⟨n, hn, e⟩, q, x⟩ => (F n hn).run A outer s H args us vs Q E hr e0 hb r ⟨T, ds, S, post, xp, a, b, c, d, e, q, x⟩⟩
end
end Dw
namespace Dw
open PySem PySem.Spec PyProof.Rows L2
/-- a fraction as the program lays it -/
abbrev fr (x : Rat) : D := .tup [.int x.num, .int (x.den : Int)]
theorem at1_0 {α : Type} (a : α) : atI [a] 0 = some a := rfl
theorem at2_0 {α : Type} (a b : α) : atI [a, b] 0 = some a := rfl
theorem at2_1 {α : Type} (a b : α) : atI [a, b] 1 = some b := rfl
theorem at3_0 {α : Type} (a b c : α) : atI [a, b, c] 0 = some a := rfl
theorem at3_1 {α : Type} (a b c : α) : atI [a, b, c] 1 = some b := rfl
theorem at3_2 {α : Type} (a b c : α) : atI [a, b, c] 2 = some c := rfl
theorem at4_0 {α : Type} (a b c d : α) : atI [a, b, c, d] 0 = some a := rfl
theorem at4_1 {α : Type} (a b c d : α) : atI [a, b, c, d] 1 = some b := rfl
theorem at4_2 {α : Type} (a b c d : α) : atI [a, b, c, d] 2 = some c := rfl
theorem at4_3 {α : Type} (a b c d : α) : atI [a, b, c, d] 3 = some d := rfl
theorem eqD_int (i j : Int) : eqD (.int i) (.int j) = decide (i = j) := by
  unfold eqD toPd PyData.eqv
  by_cases h : i = j <;> simp [h]
theorem eqD_bl (i j : Bool) : eqD (.bl i) (.bl j) = (i == j) := by
  unfold eqD toPd PyData.eqv
  rfl
theorem eqD_str (i j : Str) : eqD (.str i) (.str j) = (i == j) := by
  unfold eqD toPd PyData.eqv
  rfl
theorem eqD_tup0 : eqD (.tup []) (.tup []) = true := by
  simp only [eqD, toPd, toPds, PyData.eqv, PyData.eqvAll]
theorem eqD_tup (x y : D) (xs ys : List D) : eqD (.tup (x :: xs)) (.tup (y :: ys)) = (eqD x y && eqD (.tup xs) (.tup ys)) := by
  simp only [eqD, toPd, toPds, PyData.eqv, PyData.eqvAll]
theorem okEq_int (i : Int) : okEq (.int i) = true := rfl
theorem okEq_bl (i : Bool) : okEq (.bl i) = true := rfl
theorem eqD_fr (x y : Rat) : eqD (fr x) (fr y) = decide (x = y) := by
  unfold fr
  rw [eqD_tup, eqD_tup, eqD_tup0, eqD_int, eqD_int]
  by_cases h : x = y
  · subst h; simp
  · rw [decide_eq_false h]
    by_cases h1 : x.num = y.num
    · by_cases h2 : (x.den : Int) = y.den
      · exact absurd (Rat.ext h1 (by omega)) h
      · rw [decide_eq_false h2]; simp
    · rw [decide_eq_false h1]; simp
theorem okEq_fr (x : Rat) : okEq (fr x) = true := rfl
theorem eqD_sp (x y x' y' : Rat) : eqD (.tup [fr x, fr y]) (.tup [fr x', fr y']) = decide (x = x' ∧ y = y') := by
  rw [eqD_tup (fr x) (fr x'), eqD_tup (fr y) (fr y'), eqD_tup0, eqD_fr, eqD_fr]
  simp
theorem dDef_0_0 (u : DS) (S : Sto) (post : D → Sto → Prop) (xp : Xp) : dDef 0 u [] S post xp = u [] S { nx := fun _ S' => post .non S', rt := post, xp := xp } := by exact id rfl
theorem dDef_1_0 (u : DS) (a0 : D) (S : Sto) (post : D → Sto → Prop) (xp : Xp) : dDef 1 u [a0] S post xp = u [some a0] S { nx := fun _ S' => post .non S', rt := post, xp := xp } := by exact id rfl
theorem dDef_1_1 (u : DS) (a0 : D) (S : Sto) (post : D → Sto → Prop) (xp : Xp) : dDef 2 u [a0] S post xp = u [some a0, none] S { nx := fun _ S' => post .non S', rt := post, xp := xp } := by exact id rfl
theorem dDef_1_2 (u : DS) (a0 : D) (S : Sto) (post : D → Sto → Prop) (xp : Xp) : dDef 3 u [a0] S post xp = u [some a0, none, none] S { nx := fun _ S' => post .non S', rt := post, xp := xp } := by exact id rfl
theorem dDef_1_3 (u : DS) (a0 : D) (S : Sto) (post : D → Sto → Prop) (xp : Xp) : dDef 4 u [a0] S post xp = u [some a0, none, none, none] S { nx := fun _ S' => post .non S', rt := post, xp := xp } := by exact id rfl
theorem dDef_1_4 (u : DS) (a0 : D) (S : Sto) (post : D → Sto → Prop) (xp : Xp) : dDef 5 u [a0] S post xp = u [some a0, none, none, none, none] S { nx := fun _ S' => post .non S', rt := post, xp := xp } := by exact id rfl
theorem dDef_1_7 (u : DS) (a0 : D) (S : Sto) (post : D → Sto → Prop) (xp : Xp) : dDef 8 u [a0] S post xp = u [some a0, none, none, none, none, none, none, none] S { nx := fun _ S' => post .non S', rt := post, xp := xp } := by exact id rfl
theorem dDef_2_0 (u : DS) (a0 a1 : D) (S : Sto) (post : D → Sto → Prop) (xp : Xp) : dDef 2 u [a0, a1] S post xp = u [some a0, some a1] S { nx := fun _ S' => post .non S', rt := post, xp := xp } := by exact id rfl
theorem dDef_2_1 (u : DS) (a0 a1 : D) (S : Sto) (post : D → Sto → Prop) (xp : Xp) : dDef 3 u [a0, a1] S post xp = u [some a0, some a1, none] S { nx := fun _ S' => post .non S', rt := post, xp := xp } := by exact id rfl
theorem dDef_2_2 (u : DS) (a0 a1 : D) (S : Sto) (post : D → Sto → Prop) (xp : Xp) : dDef 4 u [a0, a1] S post xp = u [some a0, some a1, none, none] S { nx := fun _ S' => post .non S', rt := post, xp := xp } := by exact id rfl
theorem dDef_2_3 (u : DS) (a0 a1 : D) (S : Sto) (post : D → Sto → Prop) (xp : Xp) : dDef 5 u [a0, a1] S post xp = u [some a0, some a1, none, none, none] S { nx := fun _ S' => post .non S', rt := post, xp := xp } := by exact id rfl
theorem dDef_2_4 (u : DS) (a0 a1 : D) (S : Sto) (post : D → Sto → Prop) (xp : Xp) : dDef 6 u [a0, a1] S post xp = u [some a0, some a1, none, none, none, none] S { nx := fun _ S' => post .non S', rt := post, xp := xp } := by exact id rfl
theorem dDef_2_5 (u : DS) (a0 a1 : D) (S : Sto) (post : D → Sto → Prop) (xp : Xp) : dDef 7 u [a0, a1] S post xp = u [some a0, some a1, none, none, none, none, none] S { nx := fun _ S' => post .non S', rt := post, xp := xp } := by exact id rfl
theorem dDef_2_6 (u : DS) (a0 a1 : D) (S : Sto) (post : D → Sto → Prop) (xp : Xp) : dDef 8 u [a0, a1] S post xp = u [some a0, some a1, none, none, none, none, none, none] S { nx := fun _ S' => post .non S', rt := post, xp := xp } := by exact id rfl
theorem dDef_3_0 (u : DS) (a0 a1 a2 : D) (S : Sto) (post : D → Sto → Prop) (xp : Xp) : dDef 3 u [a0, a1, a2] S post xp = u [some a0, some a1, some a2] S { nx := fun _ S' => post .non S', rt := post, xp := xp } := by exact id rfl
theorem dDef_3_2 (u : DS) (a0 a1 a2 : D) (S : Sto) (post : D → Sto → Prop) (xp : Xp) : dDef 5 u [a0, a1, a2] S post xp = u [some a0, some a1, some a2, none, none] S { nx := fun _ S' => post .non S', rt := post, xp := xp } := by exact id rfl
theorem dDef_3_3 (u : DS) (a0 a1 a2 : D) (S : Sto) (post : D → Sto → Prop) (xp : Xp) : dDef 6 u [a0, a1, a2] S post xp = u [some a0, some a1, some a2, none, none, none] S { nx := fun _ S' => post .non S', rt := post, xp := xp } := by exact id rfl
theorem dDef_3_6 (u : DS) (a0 a1 a2 : D) (S : Sto) (post : D → Sto → Prop) (xp : Xp) : dDef 9 u [a0, a1, a2] S post xp = u [some a0, some a1, some a2, none, none, none, none, none, none] S { nx := fun _ S' => post .non S', rt := post, xp := xp } := by exact id rfl
theorem dDef_5_1 (u : DS) (a0 a1 a2 a3 a4 : D) (S : Sto) (post : D → Sto → Prop) (xp : Xp) : dDef 6 u [a0, a1, a2, a3, a4] S post xp = u [some a0, some a1, some a2, some a3, some a4, none] S { nx := fun _ S' => post .non S', rt := post, xp := xp } := by exact id rfl
theorem put_del {S : Sto} {p : Addr} {m : MC} (h : S p = none) : (S.put p m).del p = S := by
  funext b
  unfold Sto.put Sto.del
  by_cases e : b = p
  · subst e; simp [h]
  · simp [e]
theorem put_put {S : Sto} {p : Addr} {m m' : MC} : (S.put p m).put p m' = S.put p m' := by
  funext b
  unfold Sto.put
  by_cases e : b = p <;> simp [e]
theorem bT_nm {i : Nat} {d : D} {ρ : Lc} {k : Lc → Prop} : bT (.nm i) d ρ k = k (ρ.set i (some d)) := by unfold bT; rfl
def nNew (C : Addr) (g : List D → W D) (fz : Bool) (dd : List D) (ds : List D) : W D := fun S post xp => ∀ a, S a = none →
  g (.val (.ref a) :: (ds ++ dd)) (S.put a (.ins C [] [])) (fun r S2 => r = .non ∧ if fz = true then frz (.val (.ref a)) S2 post else post (.val (.ref a)) S2) xp
theorem dNew_eq (C : Addr) (g : List D → W D) (fz : Bool) (dd : List D) (fs : List DE) (ρ : Lc) (S : Sto) (post : D → Sto → Prop) (xp : Xp) : dNew C g fz dd fs ρ S post xp = dArgs fs ρ S (fun ds S1 => nNew C g fz dd ds S1 post xp) xp := rfl
theorem dOcall_eq (ms : Ms) (e : DE) (fs : List DE) (ρ : Lc) (S : Sto) (post : D → Sto → Prop) (xp : Xp) : dOcall ms e fs ρ S post xp = e ρ S (fun d S1 => ∃ C g, (C, g) ∈ ms ∧ isOf0 S1 d C ∧ dArgs fs ρ S1 (fun ds S2 => isOf0 S2 d C ∧ g (d :: ds) S2 post xp) xp) xp := rfl
theorem dProp_eq (ms : Ms) (e : DE) (ρ : Lc) (S : Sto) (post : D → Sto → Prop) (xp : Xp) : dProp ms e ρ S post xp = e ρ S (fun d S1 => ∃ C g, (C, g) ∈ ms ∧ isOf0 S1 d C ∧ g [d] S1 post noX) xp := rfl
theorem one_ms {C : Addr} {g : List D → W D} {P : Addr → (List D → W D) → Prop} : (∃ C' g', (C', g') ∈ [(C, g)] ∧ P C' g') ↔ P C g := by
  constructor
  · rintro ⟨C', g', h, k⟩
    cases List.mem_singleton.mp h
    exact k
  · exact fun k => ⟨C, g, List.mem_singleton.mpr rfl, k⟩
def nSto (Cs : List Addr) (f : Str) (y d : D) (S : Sto) (k : Sto → Prop) : Prop := ∃ a C ns ds, d = .val (.ref a) ∧ S a = some (.ins C ns ds) ∧ C ∈ Cs ∧ ns.length < 1000 ∧ k (S.put a (.ins C (putL f y ns ds).1 (putL f y ns ds).2))
theorem ev_sto {f : Str} {a C : Addr} {ns ns' : List Str} {ds ds' : List D} {y : D} {S : Sto} {k : Sto → Prop} (hp : putL f y ns ds = (ns', ds')) (hl : ns.length < 1000) (h : k (S.put a (.ins C ns' ds'))) : nSto [C] f y (.val (.ref a)) (S.put a (.ins C ns ds)) k := by
  refine ⟨a, C, ns, ds, rfl, put_same, List.mem_singleton.mpr rfl, hl, ?_⟩
  rw [put_put, hp]
  exact h
theorem frz_ins {a C : Addr} {ns : List Str} {ds : List D} {S : Sto} {post : D → Sto → Prop} (h : S a = none) (k : post (.ins C ns ds) S) : frz (.val (.ref a)) (S.put a (.ins C ns ds)) post := by
  unfold frz
  simp only [put_same, put_del h]
  exact k
theorem putL0 {f : Str} {y : D} : putL f y [] [] = ([f], [y]) := rfl
theorem putL1 {f g : Str} {x y : D} (h : (g == f) = false) : putL f y [g] [x] = ([g, f], [x, y]) := by
  have h' : g ≠ f := by simpa using h
  unfold putL
  rw [if_neg h']; rfl
theorem putL2 {f g g2 : Str} {x x2 y : D} (h : (g == f) = false) (h2 : (g2 == f) = false) : putL f y [g, g2] [x, x2] = ([g, g2, f], [x, x2, y]) := by
  have h' : g ≠ f := by simpa using h
  unfold putL
  rw [if_neg h', putL1 h2]
theorem putL3 {f g g2 g3 : Str} {x x2 x3 y : D} (h : (g == f) = false) (h2 : (g2 == f) = false) (h3 : (g3 == f) = false) : putL f y [g, g2, g3] [x, x2, x3] = ([g, g2, g3, f], [x, x2, x3, y]) := by
  have h' : g ≠ f := by simpa using h
  unfold putL
  rw [if_neg h', putL2 h2 h3]
def oFld (Cs : List Addr) (f : Str) (d : D) : W D := fun S post _ => ∃ C y, C ∈ Cs ∧ hasF S d C f y ∧ post y S
theorem dFld_eq (Cs : List Addr) (f : Str) (e : DE) (ρ : Lc) (S : Sto) (post : D → Sto → Prop) (xp : Xp) : dFld Cs f e ρ S post xp = e ρ S (fun d S1 => oFld Cs f d S1 post xp) xp := rfl
theorem ev_fld {C : Addr} {f : Str} {ns : List Str} {ds : List D} {y : D} {S : Sto} {post : D → Sto → Prop} {xp : Xp} (h : (ns.zip ds).lookup f = some y) (k : post y S) : oFld [C] f (.ins C ns ds) S post xp := by
  refine ⟨C, y, List.mem_singleton.mpr rfl, ?_, k⟩
  unfold hasF
  exact ⟨rfl, h⟩
def nMeth (ms : Ms) (m : Str) (d : D) (S : Sto) (k : (List D → W D) → Prop) : Prop := ∃ C g, (C, g) ∈ ms ∧ isOf S d C m ∧ k g
theorem dMeth_eq (ms : Ms) (m : Str) (e : DE) (fs : List DE) (ρ : Lc) (S : Sto) (post : D → Sto → Prop) (xp : Xp) : dMeth ms m e fs ρ S post xp = e ρ S (fun d S1 => nMeth ms m d S1 fun g => dArgs fs ρ S1 (fun ds S2 => g (d :: ds) S2 post xp) xp) xp := rfl
theorem ev_meth {C : Addr} {g : List D → W D} {m : Str} {ns : List Str} {ds : List D} {S : Sto} {k : (List D → W D) → Prop} (hm : m ∉ ns) (h : k g) : nMeth [(C, g)] m (.ins C ns ds) S k := by
  refine ⟨C, g, List.mem_singleton.mpr rfl, ?_, h⟩
  unfold isOf
  exact ⟨rfl, hm⟩
class SzC (x : Rat) (n : outParam Nat) : Prop where
  h : Px.SzR n x
theorem SzC.up {x : Rat} {n m : Nat} (a : SzC x n) (h : n ≤ m) : SzC x m := ⟨a.h.mono h⟩
theorem szone {x : Rat} {n : Nat} (a : Px.SzR n x) : 1 ≤ n := by
  have h := a.2
  unfold Px.Sz at h
  have := x.den_pos
  rcases n with _ | n
  · simp at h; omega
  · omega
instance {x y : Rat} {n m : Nat} [a : SzC x n] [b : SzC y m] : SzC (x + y) (n + m + 1) := ⟨Px.szr_add a.h b.h (Nat.le_refl _)⟩
instance {x y : Rat} {n m : Nat} [a : SzC x n] [b : SzC y m] : SzC (x - y) (n + m + 1) := ⟨Px.szr_sub a.h b.h (Nat.le_refl _)⟩
instance {x y : Rat} {n m : Nat} [a : SzC x n] [b : SzC y m] : SzC (x * y) (n + m) := ⟨Px.szr_mul a.h b.h (Nat.le_refl _)⟩
instance {x : Rat} {n : Nat} [a : SzC x n] : SzC (-x) n := ⟨Px.szr_neg a.h⟩
theorem szr_inv {x : Rat} {n : Nat} (a : Px.SzR n x) : Px.SzR n x⁻¹ := by
  by_cases h : x = 0
  · subst h
    rw [Rat.inv_zero]
    exact (Px.szr_lit 1 0).mono (szone a)
  · conv => rhs; rw [Px.rat_eq x, Rat.inv_divInt]
    exact Px.divInt_sz a.2 a.1 (Px.num_ne h)
instance {x : Rat} {n : Nat} [a : SzC x n] : SzC x⁻¹ n := ⟨szr_inv a.h⟩
instance {x y : Rat} {n m : Nat} [a : SzC x n] [b : SzC y m] : SzC (x / y) (n + m) := ⟨by rw [Rat.div_def]; exact Px.szr_mul a.h (szr_inv b.h) (Nat.le_refl _)⟩
instance : SzC 0 1 := ⟨Px.szr_lit 1 0⟩
instance : SzC 1 1 := ⟨Px.szr_lit 1 1⟩
instance : SzC (-1) 1 := ⟨Px.szr_lit 1 (-1)⟩
end Dw
namespace Dw
open PySem PySem.Spec PyProof.Rows L2
theorem dSeq_m (a b : DS) (ρ : Lc) (S : Sto) (nx : Lc → Sto → Prop) (rt : D → Sto → Prop) (bk ct : Lc → Sto → Prop) (xp : Xp) : dSeq a b ρ S ⟨nx, rt, bk, ct, xp⟩ = a ρ S ⟨fun ρ' S' => b ρ' S' ⟨nx, rt, bk, ct, xp⟩, rt, bk, ct, xp⟩ := by exact id rfl
theorem dNext_m  (ρ : Lc) (S : Sto) (nx : Lc → Sto → Prop) (rt : D → Sto → Prop) (bk ct : Lc → Sto → Prop) (xp : Xp) : dNext ρ S ⟨nx, rt, bk, ct, xp⟩ = nx ρ S := by exact id rfl
theorem dSet_m (i : Nat) (e : DE) (ρ : Lc) (S : Sto) (nx : Lc → Sto → Prop) (rt : D → Sto → Prop) (bk ct : Lc → Sto → Prop) (xp : Xp) : dSet i e ρ S ⟨nx, rt, bk, ct, xp⟩ = e ρ S (fun d S' => nx (ρ.set i (some d)) S') xp := by exact id rfl
theorem dRet_m (e : DE) (ρ : Lc) (S : Sto) (nx : Lc → Sto → Prop) (rt : D → Sto → Prop) (bk ct : Lc → Sto → Prop) (xp : Xp) : dRet e ρ S ⟨nx, rt, bk, ct, xp⟩ = e ρ S rt xp := by exact id rfl
theorem dExpr_m (e : DE) (ρ : Lc) (S : Sto) (nx : Lc → Sto → Prop) (rt : D → Sto → Prop) (bk ct : Lc → Sto → Prop) (xp : Xp) : dExpr e ρ S ⟨nx, rt, bk, ct, xp⟩ = e ρ S (fun _ S' => nx ρ S') xp := by exact id rfl
theorem dIfS_m (c : DT) (a b : DS) (ρ : Lc) (S : Sto) (nx : Lc → Sto → Prop) (rt : D → Sto → Prop) (bk ct : Lc → Sto → Prop) (xp : Xp) : dIfS c a b ρ S ⟨nx, rt, bk, ct, xp⟩ = c ρ S (fun k S' => if k = true then a ρ S' ⟨nx, rt, bk, ct, xp⟩ else b ρ S' ⟨nx, rt, bk, ct, xp⟩) xp := by exact id rfl
theorem dPar_m (is : List Nat) (fs : List DE) (ρ : Lc) (S : Sto) (nx : Lc → Sto → Prop) (rt : D → Sto → Prop) (bk ct : Lc → Sto → Prop) (xp : Xp) : dPar is fs ρ S ⟨nx, rt, bk, ct, xp⟩ = dArgs fs ρ S (fun ds S' => nx (setL ρ is ds) S') xp := by exact id rfl
def mTup (d : D) (n : Nat) (k : List D → Prop) : Prop := match d with
  | .tup ds => ds.length = n ∧ k ds
  | _ => False
theorem mTup_t (ds : List D) (n : Nat) (k : List D → Prop) : mTup (.tup ds) n k = (ds.length = n ∧ k ds) := by exact id rfl
theorem dUnp_m (is : List Nat) (e : DE) (ρ : Lc) (S : Sto) (nx : Lc → Sto → Prop) (rt : D → Sto → Prop) (bk ct : Lc → Sto → Prop) (xp : Xp) : dUnp is e ρ S ⟨nx, rt, bk, ct, xp⟩ = e ρ S (fun d S' => mTup d is.length fun ds => nx (setL ρ is ds) S') xp := by exact id rfl
theorem setL_c (ρ : Lc) (i : Nat) (is : List Nat) (d : D) (ds : List D) : setL ρ (i :: is) (d :: ds) = setL (ρ.set i (some d)) is ds := by exact id rfl
theorem setL_n (ρ : Lc) : setL ρ [] [] = ρ := by exact id rfl
theorem dSto_m (Cs : List Addr) (f : Str) (o e : DE) (ρ : Lc) (S : Sto) (nx : Lc → Sto → Prop) (rt : D → Sto → Prop) (bk ct : Lc → Sto → Prop) (xp : Xp) : dSto Cs f o e ρ S ⟨nx, rt, bk, ct, xp⟩ = e ρ S (fun y S1 => o ρ S1 (fun d S2 => nSto Cs f y d S2 (fun S3 => nx ρ S3)) xp) xp := by exact id rfl
theorem dWhile_m (c : DT) (b : DS) (ρ : Lc) (S : Sto) (nx : Lc → Sto → Prop) (rt : D → Sto → Prop) (bk ct : Lc → Sto → Prop) (xp : Xp) : dWhile c b ρ S ⟨nx, rt, bk, ct, xp⟩ = ∃ n, wWhile c b n ρ S ⟨nx, rt, bk, ct, xp⟩ := by exact id rfl
theorem dFor_m (t : Tgt) (src : DC) (b : DS) (ρ : Lc) (S : Sto) (nx : Lc → Sto → Prop) (rt : D → Sto → Prop) (bk ct : Lc → Sto → Prop) (xp : Xp) : dFor t src b ρ S ⟨nx, rt, bk, ct, xp⟩ = src ρ S (fun ds S' => wFor t b ds ρ S' ⟨nx, rt, bk, ct, xp⟩) xp := by exact id rfl
theorem wFor_n (t : Tgt) (b : DS) (ρ : Lc) (S : Sto) (nx : Lc → Sto → Prop) (rt : D → Sto → Prop) (bk ct : Lc → Sto → Prop) (xp : Xp) : wFor t b [] ρ S ⟨nx, rt, bk, ct, xp⟩ = nx ρ S := by unfold wFor; rfl
theorem wFor_c (t : Tgt) (b : DS) (d : D) (ds : List D) (ρ : Lc) (S : Sto) (nx : Lc → Sto → Prop) (rt : D → Sto → Prop) (bk ct : Lc → Sto → Prop) (xp : Xp) : wFor t b (d :: ds) ρ S ⟨nx, rt, bk, ct, xp⟩ = bT t d ρ fun ρ' => b ρ' S ⟨fun ρ2 S2 => wFor t b ds ρ2 S2 ⟨nx, rt, bk, ct, xp⟩, rt, nx, fun ρ2 S2 => wFor t b ds ρ2 S2 ⟨nx, rt, bk, ct, xp⟩, xp⟩ := by
  conv => lhs; unfold wFor
def mSeq (d : D) (k : List D → Prop) : Prop := match d with
  | .lst xs => k xs
  | .tup xs => k xs
  | _ => False
theorem mSeq_t (xs : List D) (k : List D → Prop) : mSeq (.tup xs) k = k xs := by exact id rfl
theorem mSeq_l (xs : List D) (k : List D → Prop) : mSeq (.lst xs) k = k xs := by exact id rfl
theorem cSeq_m (e : DE) (ρ : Lc) (S : Sto) (post : List D → Sto → Prop) (xp : Xp) : cSeq e ρ S post xp = e ρ S (fun d S' => mSeq d fun xs => post xs S') xp := by exact id rfl
def mBl (d : D) (k : Bool → Prop) : Prop := match d with
  | .bl b => k b
  | _ => False
theorem mBl_b (b : Bool) (k : Bool → Prop) : mBl (.bl b) k = k b := by exact id rfl
theorem dtVal_m (f : DE) (ρ : Lc) (S : Sto) (post : Bool → Sto → Prop) (xp : Xp) : dtVal f ρ S post xp = f ρ S (fun d S' => mBl d fun b => post b S') xp := by exact id rfl
theorem dtNot_m (c : DT) (ρ : Lc) (S : Sto) (post : Bool → Sto → Prop) (xp : Xp) : dtNot c ρ S post xp = c ρ S (fun b S' => post (!b) S') xp := by exact id rfl
theorem dtAnd_m (a b : DT) (ρ : Lc) (S : Sto) (post : Bool → Sto → Prop) (xp : Xp) : dtAnd a b ρ S post xp = a ρ S (fun k S1 => if k = true then b ρ S1 post xp else post false S1) xp := by exact id rfl
theorem dtOr_m (a b : DT) (ρ : Lc) (S : Sto) (post : Bool → Sto → Prop) (xp : Xp) : dtOr a b ρ S post xp = a ρ S (fun k S1 => if k = true then post true S1 else b ρ S1 post xp) xp := by exact id rfl
theorem dYes_m (ρ : Lc) (S : Sto) (post : Bool → Sto → Prop) (xp : Xp) : dYes ρ S post xp = post true S := by exact id rfl
theorem dIf_m (c : DT) (a b : DE) (ρ : Lc) (S : Sto) (post : D → Sto → Prop) (xp : Xp) : dIf c a b ρ S post xp = c ρ S (fun k S1 => if k = true then a ρ S1 post xp else b ρ S1 post xp) xp := by exact id rfl
def mAnd (d : D) (k : Prop) (j : D → Prop) : Prop := match d with
  | .bl true => k
  | .bl false => j (.bl false)
  | _ => False
theorem dAnd_m (a b : DE) (ρ : Lc) (S : Sto) (post : D → Sto → Prop) (xp : Xp) : dAnd a b ρ S post xp = a ρ S (fun d S1 => mAnd d (b ρ S1 post xp) fun r => post r S1) xp := by
  unfold dAnd mAnd
  congr 1
theorem mAnd_t (k : Prop) (j : D → Prop) : mAnd (.bl true) k j = k := by exact id rfl
theorem mAnd_f (k : Prop) (j : D → Prop) : mAnd (.bl false) k j = j (.bl false) := by exact id rfl
theorem dNot_m (a : DE) (ρ : Lc) (S : Sto) (post : D → Sto → Prop) (xp : Xp) : dNot a ρ S post xp = a ρ S (fun d S1 => mBl d fun b => post (.bl (!b)) S1) xp := by exact id rfl
theorem dOp_m (o : D → D → W D) (a b : DE) (ρ : Lc) (S : Sto) (post : D → Sto → Prop) (xp : Xp) : dOp o a b ρ S post xp = a ρ S (fun x S1 => b ρ S1 (fun y S2 => o x y S2 post xp) xp) xp := by exact id rfl
theorem dUn_m (o : D → W D) (a : DE) (ρ : Lc) (S : Sto) (post : D → Sto → Prop) (xp : Xp) : dUn o a ρ S post xp = a ρ S (fun x S1 => o x S1 post xp) xp := by exact id rfl
def mVar (d : Option (Option D)) (k : D → Prop) : Prop := match d with
  | some (some d) => k d
  | _ => False
theorem mVar_s (d : D) (k : D → Prop) : mVar (some (some d)) k = k d := by exact id rfl
theorem dVar_m (i : Nat) (ρ : Lc) (S : Sto) (post : D → Sto → Prop) (xp : Xp) : dVar i ρ S post xp = mVar ρ[i]? fun d => post d S := by exact id rfl
theorem dPure_m (d : D) (ρ : Lc) (S : Sto) (post : D → Sto → Prop) (xp : Xp) : dPure d ρ S post xp = post d S := by exact id rfl
theorem dTup_m (fs : List DE) (ρ : Lc) (S : Sto) (post : D → Sto → Prop) (xp : Xp) : dTup fs ρ S post xp = dArgs fs ρ S (fun ds S' => post (.tup ds) S') xp := by exact id rfl
theorem dLst_m (fs : List DE) (ρ : Lc) (S : Sto) (post : D → Sto → Prop) (xp : Xp) : dLst fs ρ S post xp = dArgs fs ρ S (fun ds S' => post (.lst ds) S') xp := by exact id rfl
theorem dArgs_n (ρ : Lc) (S : Sto) (post : List D → Sto → Prop) (xp : Xp) : dArgs [] ρ S post xp = post [] S := by exact id rfl
theorem dArgs_c (f : DE) (fs : List DE) (ρ : Lc) (S : Sto) (post : List D → Sto → Prop) (xp : Xp) : dArgs (f :: fs) ρ S post xp = f ρ S (fun d S1 => dArgs fs ρ S1 (fun ds S2 => post (d :: ds) S2) xp) xp := by exact id rfl
theorem dCall_m (g : List D → W D) (fs : List DE) (ρ : Lc) (S : Sto) (post : D → Sto → Prop) (xp : Xp) : dCall g fs ρ S post xp = dArgs fs ρ S (fun ds S1 => g ds S1 post xp) xp := by exact id rfl
theorem oAdd_i (i j : Int) (S : Sto) (post : D → Sto → Prop) (xp : Xp) : oAdd (.int i) (.int j) S post xp = post (.int (i + j)) S := by exact id rfl
theorem oSub_i (i j : Int) (S : Sto) (post : D → Sto → Prop) (xp : Xp) : oSub (.int i) (.int j) S post xp = post (.int (i - j)) S := by exact id rfl
theorem oMul_i (i j : Int) (S : Sto) (post : D → Sto → Prop) (xp : Xp) : oMul (.int i) (.int j) S post xp = (CMulW i j ∧ post (.int (i * j)) S) := by exact id rfl
theorem oDiv_i (i j : Int) (S : Sto) (post : D → Sto → Prop) (xp : Xp) : oDiv (.int i) (.int j) S post xp = (Px.CDivU i j ∧ post (.int (i.fdiv j)) S) := by exact id rfl
theorem oMod_i (i j : Int) (S : Sto) (post : D → Sto → Prop) (xp : Xp) : oMod (.int i) (.int j) S post xp = (j ≠ 0 ∧ post (.int (i.fmod j)) S) := by exact id rfl
theorem oNeg_i (i : Int) (S : Sto) (post : D → Sto → Prop) (xp : Xp) : oNeg (.int i) S post xp = post (.int (-i)) S := by exact id rfl
theorem oLt_i (i j : Int) (S : Sto) (post : D → Sto → Prop) (xp : Xp) : oLt (.int i) (.int j) S post xp = post (.bl (decide (i < j))) S := by exact id rfl
theorem oGt_i (i j : Int) (S : Sto) (post : D → Sto → Prop) (xp : Xp) : oGt (.int i) (.int j) S post xp = post (.bl (decide (j < i))) S := by exact id rfl
theorem oEq_m (x y : D) (S : Sto) (post : D → Sto → Prop) (xp : Xp) : oEq x y S post xp = (okEq x = true ∧ okEq y = true ∧ post (.bl (eqD x y)) S) := by exact id rfl
theorem oNe_m (x y : D) (S : Sto) (post : D → Sto → Prop) (xp : Xp) : oNe x y S post xp = (okEq x = true ∧ okEq y = true ∧ post (.bl (!eqD x y)) S) := by exact id rfl
theorem oIx_t (xs : List D) (i : Int) (S : Sto) (post : D → Sto → Prop) (xp : Xp) : oIx (.tup xs) (.int i) S post xp = ∃ d, atI xs i = some d ∧ post d S := by exact id rfl
theorem oIx_l (xs : List D) (i : Int) (S : Sto) (post : D → Sto → Prop) (xp : Xp) : oIx (.lst xs) (.int i) S post xp = ∃ d, atI xs i = some d ∧ post d S := by exact id rfl
theorem gGcd_i (i j : Int) (S : Sto) (post : D → Sto → Prop) (xp : Xp) : gGcd [.int i, .int j] S post xp = post (.int ((Nat.gcd i.natAbs j.natAbs : Nat) : Int)) S := by exact id rfl
theorem gAbs_i (i : Int) (S : Sto) (post : D → Sto → Prop) (xp : Xp) : gAbs [.int i] S post xp = post (.int (i.natAbs : Nat)) S := by exact id rfl
theorem gInt_i (i : Int) (S : Sto) (post : D → Sto → Prop) (xp : Xp) : gInt [.int i] S post xp = post (.int i) S := by exact id rfl
theorem gLen_t (ds : List D) (S : Sto) (post : D → Sto → Prop) (xp : Xp) : gLen [.tup ds] S post xp = post (.int (ds.length : Nat)) S := by
  unfold gLen lenD
  simp
theorem gLen_l (ds : List D) (S : Sto) (post : D → Sto → Prop) (xp : Xp) : gLen [.lst ds] S post xp = post (.int (ds.length : Nat)) S := by
  unfold gLen lenD
  simp
theorem gList_l (xs : List D) (S : Sto) (post : D → Sto → Prop) (xp : Xp) : gList [.lst xs] S post xp = post (.lst xs) S := by exact id rfl
theorem oOwn_m (C : Addr) (g : List D → W D) (x y : D) (S : Sto) (post : D → Sto → Prop) (xp : Xp) : oOwn [(C, g)] x y S post xp = (isOf0 S x C ∧ isOf0 S y C ∧ g [x, y] S post xp) := propext one_ms
theorem isOf0_i (S : Sto) (C : Addr) (ns : List Str) (ds : List D) : isOf0 S (.ins C ns ds) C = True := by
  unfold isOf0
  simp
theorem oOwnEq_m (C : Addr) (g : List D → W D) (cs : List Addr) (x y : D) (S : Sto) (post : D → Sto → Prop) (xp : Xp) : oOwnEq [(C, g)] cs x y S post xp = (isOf0 S x C ∧ (∃ t, tyD S y = some t ∧ (∀ C', t = .C C' → C' ∈ cs)) ∧ g [x, y] S post xp) := propext one_ms
theorem oOr_r {o o' : D → D → W D} {x y : D} {S : Sto} {post : D → Sto → Prop} {xp : Xp} (h : o' x y S post xp) : oOr o o' x y S post xp := .inr h
theorem oOr_l {o o' : D → D → W D} {x y : D} {S : Sto} {post : D → Sto → Prop} {xp : Xp} (h : o x y S post xp) : oOr o o' x y S post xp := .inl h
theorem dOcall_m (C : Addr) (g : List D → W D) (e : DE) (fs : List DE) (ρ : Lc) (S : Sto) (post : D → Sto → Prop) (xp : Xp) : dOcall [(C, g)] e fs ρ S post xp = e ρ S (fun d S1 => isOf0 S1 d C ∧ dArgs fs ρ S1 (fun ds S2 => isOf0 S2 d C ∧ g (d :: ds) S2 post xp) xp) xp := by
  rw [dOcall_eq]
  simp only [one_ms]
theorem dProp_m (C : Addr) (g : List D → W D) (e : DE) (ρ : Lc) (S : Sto) (post : D → Sto → Prop) (xp : Xp) : dProp [(C, g)] e ρ S post xp = e ρ S (fun d S1 => isOf0 S1 d C ∧ g [d] S1 post noX) xp := by
  rw [dProp_eq]
  simp only [one_ms]
theorem dStat_m (g : List D → W D) (ρ : Lc) (S : Sto) (post : D → Sto → Prop) (xp : Xp) : dStat g ρ S post xp = g [] S post xp := by exact id rfl
theorem isi_non_list (cs : List Addr)  (S : Sto) (post : D → Sto → Prop) (xp : Xp) : gIsi cs [.non, .val (.ty "list")] S post xp = post (.bl false) S := by
  apply propext
  constructor
  · rintro ⟨t, b, h1, _, h3, h4⟩
    cases h1
    have h5 : some false = some b := h3
    cases h5
    exact h4
  · exact fun h => ⟨.B "NoneType", false, rfl, (by intro C e; cases e), rfl, h⟩
theorem isi_non_tuple (cs : List Addr)  (S : Sto) (post : D → Sto → Prop) (xp : Xp) : gIsi cs [.non, .val (.ty "tuple")] S post xp = post (.bl false) S := by
  apply propext
  constructor
  · rintro ⟨t, b, h1, _, h3, h4⟩
    cases h1
    have h5 : some false = some b := h3
    cases h5
    exact h4
  · exact fun h => ⟨.B "NoneType", false, rfl, (by intro C e; cases e), rfl, h⟩
theorem isi_non_bool (cs : List Addr)  (S : Sto) (post : D → Sto → Prop) (xp : Xp) : gIsi cs [.non, .val (.ty "bool")] S post xp = post (.bl false) S := by
  apply propext
  constructor
  · rintro ⟨t, b, h1, _, h3, h4⟩
    cases h1
    have h5 : some false = some b := h3
    cases h5
    exact h4
  · exact fun h => ⟨.B "NoneType", false, rfl, (by intro C e; cases e), rfl, h⟩
theorem isi_non_int (cs : List Addr)  (S : Sto) (post : D → Sto → Prop) (xp : Xp) : gIsi cs [.non, .val (.ty "int")] S post xp = post (.bl false) S := by
  apply propext
  constructor
  · rintro ⟨t, b, h1, _, h3, h4⟩
    cases h1
    have h5 : some false = some b := h3
    cases h5
    exact h4
  · exact fun h => ⟨.B "NoneType", false, rfl, (by intro C e; cases e), rfl, h⟩
theorem isi_non_str (cs : List Addr)  (S : Sto) (post : D → Sto → Prop) (xp : Xp) : gIsi cs [.non, .val (.ty "str")] S post xp = post (.bl false) S := by
  apply propext
  constructor
  · rintro ⟨t, b, h1, _, h3, h4⟩
    cases h1
    have h5 : some false = some b := h3
    cases h5
    exact h4
  · exact fun h => ⟨.B "NoneType", false, rfl, (by intro C e; cases e), rfl, h⟩
theorem isi_bl_list (cs : List Addr) (b : Bool) (S : Sto) (post : D → Sto → Prop) (xp : Xp) : gIsi cs [.bl b, .val (.ty "list")] S post xp = post (.bl false) S := by
  apply propext
  constructor
  · rintro ⟨t, b, h1, _, h3, h4⟩
    cases h1
    have h5 : some false = some b := h3
    cases h5
    exact h4
  · exact fun h => ⟨.B "bool", false, rfl, (by intro C e; cases e), rfl, h⟩
theorem isi_bl_tuple (cs : List Addr) (b : Bool) (S : Sto) (post : D → Sto → Prop) (xp : Xp) : gIsi cs [.bl b, .val (.ty "tuple")] S post xp = post (.bl false) S := by
  apply propext
  constructor
  · rintro ⟨t, b, h1, _, h3, h4⟩
    cases h1
    have h5 : some false = some b := h3
    cases h5
    exact h4
  · exact fun h => ⟨.B "bool", false, rfl, (by intro C e; cases e), rfl, h⟩
theorem isi_bl_bool (cs : List Addr) (b : Bool) (S : Sto) (post : D → Sto → Prop) (xp : Xp) : gIsi cs [.bl b, .val (.ty "bool")] S post xp = post (.bl true) S := by
  apply propext
  constructor
  · rintro ⟨t, b, h1, _, h3, h4⟩
    cases h1
    have h5 : some true = some b := h3
    cases h5
    exact h4
  · exact fun h => ⟨.B "bool", true, rfl, (by intro C e; cases e), rfl, h⟩
theorem isi_bl_int (cs : List Addr) (b : Bool) (S : Sto) (post : D → Sto → Prop) (xp : Xp) : gIsi cs [.bl b, .val (.ty "int")] S post xp = post (.bl true) S := by
  apply propext
  constructor
  · rintro ⟨t, b, h1, _, h3, h4⟩
    cases h1
    have h5 : some true = some b := h3
    cases h5
    exact h4
  · exact fun h => ⟨.B "bool", true, rfl, (by intro C e; cases e), rfl, h⟩
theorem isi_bl_str (cs : List Addr) (b : Bool) (S : Sto) (post : D → Sto → Prop) (xp : Xp) : gIsi cs [.bl b, .val (.ty "str")] S post xp = post (.bl false) S := by
  apply propext
  constructor
  · rintro ⟨t, b, h1, _, h3, h4⟩
    cases h1
    have h5 : some false = some b := h3
    cases h5
    exact h4
  · exact fun h => ⟨.B "bool", false, rfl, (by intro C e; cases e), rfl, h⟩
theorem isi_int_list (cs : List Addr) (i : Int) (S : Sto) (post : D → Sto → Prop) (xp : Xp) : gIsi cs [.int i, .val (.ty "list")] S post xp = post (.bl false) S := by
  apply propext
  constructor
  · rintro ⟨t, b, h1, _, h3, h4⟩
    cases h1
    have h5 : some false = some b := h3
    cases h5
    exact h4
  · exact fun h => ⟨.B "int", false, rfl, (by intro C e; cases e), rfl, h⟩
theorem isi_int_tuple (cs : List Addr) (i : Int) (S : Sto) (post : D → Sto → Prop) (xp : Xp) : gIsi cs [.int i, .val (.ty "tuple")] S post xp = post (.bl false) S := by
  apply propext
  constructor
  · rintro ⟨t, b, h1, _, h3, h4⟩
    cases h1
    have h5 : some false = some b := h3
    cases h5
    exact h4
  · exact fun h => ⟨.B "int", false, rfl, (by intro C e; cases e), rfl, h⟩
theorem isi_int_bool (cs : List Addr) (i : Int) (S : Sto) (post : D → Sto → Prop) (xp : Xp) : gIsi cs [.int i, .val (.ty "bool")] S post xp = post (.bl false) S := by
  apply propext
  constructor
  · rintro ⟨t, b, h1, _, h3, h4⟩
    cases h1
    have h5 : some false = some b := h3
    cases h5
    exact h4
  · exact fun h => ⟨.B "int", false, rfl, (by intro C e; cases e), rfl, h⟩
theorem isi_int_int (cs : List Addr) (i : Int) (S : Sto) (post : D → Sto → Prop) (xp : Xp) : gIsi cs [.int i, .val (.ty "int")] S post xp = post (.bl true) S := by
  apply propext
  constructor
  · rintro ⟨t, b, h1, _, h3, h4⟩
    cases h1
    have h5 : some true = some b := h3
    cases h5
    exact h4
  · exact fun h => ⟨.B "int", true, rfl, (by intro C e; cases e), rfl, h⟩
theorem isi_int_str (cs : List Addr) (i : Int) (S : Sto) (post : D → Sto → Prop) (xp : Xp) : gIsi cs [.int i, .val (.ty "str")] S post xp = post (.bl false) S := by
  apply propext
  constructor
  · rintro ⟨t, b, h1, _, h3, h4⟩
    cases h1
    have h5 : some false = some b := h3
    cases h5
    exact h4
  · exact fun h => ⟨.B "int", false, rfl, (by intro C e; cases e), rfl, h⟩
theorem isi_str_list (cs : List Addr) (s : Str) (S : Sto) (post : D → Sto → Prop) (xp : Xp) : gIsi cs [.str s, .val (.ty "list")] S post xp = post (.bl false) S := by
  apply propext
  constructor
  · rintro ⟨t, b, h1, _, h3, h4⟩
    cases h1
    have h5 : some false = some b := h3
    cases h5
    exact h4
  · exact fun h => ⟨.B "str", false, rfl, (by intro C e; cases e), rfl, h⟩
theorem isi_str_tuple (cs : List Addr) (s : Str) (S : Sto) (post : D → Sto → Prop) (xp : Xp) : gIsi cs [.str s, .val (.ty "tuple")] S post xp = post (.bl false) S := by
  apply propext
  constructor
  · rintro ⟨t, b, h1, _, h3, h4⟩
    cases h1
    have h5 : some false = some b := h3
    cases h5
    exact h4
  · exact fun h => ⟨.B "str", false, rfl, (by intro C e; cases e), rfl, h⟩
theorem isi_str_bool (cs : List Addr) (s : Str) (S : Sto) (post : D → Sto → Prop) (xp : Xp) : gIsi cs [.str s, .val (.ty "bool")] S post xp = post (.bl false) S := by
  apply propext
  constructor
  · rintro ⟨t, b, h1, _, h3, h4⟩
    cases h1
    have h5 : some false = some b := h3
    cases h5
    exact h4
  · exact fun h => ⟨.B "str", false, rfl, (by intro C e; cases e), rfl, h⟩
theorem isi_str_int (cs : List Addr) (s : Str) (S : Sto) (post : D → Sto → Prop) (xp : Xp) : gIsi cs [.str s, .val (.ty "int")] S post xp = post (.bl false) S := by
  apply propext
  constructor
  · rintro ⟨t, b, h1, _, h3, h4⟩
    cases h1
    have h5 : some false = some b := h3
    cases h5
    exact h4
  · exact fun h => ⟨.B "str", false, rfl, (by intro C e; cases e), rfl, h⟩
theorem isi_str_str (cs : List Addr) (s : Str) (S : Sto) (post : D → Sto → Prop) (xp : Xp) : gIsi cs [.str s, .val (.ty "str")] S post xp = post (.bl true) S := by
  apply propext
  constructor
  · rintro ⟨t, b, h1, _, h3, h4⟩
    cases h1
    have h5 : some true = some b := h3
    cases h5
    exact h4
  · exact fun h => ⟨.B "str", true, rfl, (by intro C e; cases e), rfl, h⟩
theorem isi_tup_list (cs : List Addr) (ds : List D) (S : Sto) (post : D → Sto → Prop) (xp : Xp) : gIsi cs [.tup ds, .val (.ty "list")] S post xp = post (.bl false) S := by
  apply propext
  constructor
  · rintro ⟨t, b, h1, _, h3, h4⟩
    cases h1
    have h5 : some false = some b := h3
    cases h5
    exact h4
  · exact fun h => ⟨.B "tuple", false, rfl, (by intro C e; cases e), rfl, h⟩
theorem isi_tup_tuple (cs : List Addr) (ds : List D) (S : Sto) (post : D → Sto → Prop) (xp : Xp) : gIsi cs [.tup ds, .val (.ty "tuple")] S post xp = post (.bl true) S := by
  apply propext
  constructor
  · rintro ⟨t, b, h1, _, h3, h4⟩
    cases h1
    have h5 : some true = some b := h3
    cases h5
    exact h4
  · exact fun h => ⟨.B "tuple", true, rfl, (by intro C e; cases e), rfl, h⟩
theorem isi_tup_bool (cs : List Addr) (ds : List D) (S : Sto) (post : D → Sto → Prop) (xp : Xp) : gIsi cs [.tup ds, .val (.ty "bool")] S post xp = post (.bl false) S := by
  apply propext
  constructor
  · rintro ⟨t, b, h1, _, h3, h4⟩
    cases h1
    have h5 : some false = some b := h3
    cases h5
    exact h4
  · exact fun h => ⟨.B "tuple", false, rfl, (by intro C e; cases e), rfl, h⟩
theorem isi_tup_int (cs : List Addr) (ds : List D) (S : Sto) (post : D → Sto → Prop) (xp : Xp) : gIsi cs [.tup ds, .val (.ty "int")] S post xp = post (.bl false) S := by
  apply propext
  constructor
  · rintro ⟨t, b, h1, _, h3, h4⟩
    cases h1
    have h5 : some false = some b := h3
    cases h5
    exact h4
  · exact fun h => ⟨.B "tuple", false, rfl, (by intro C e; cases e), rfl, h⟩
theorem isi_tup_str (cs : List Addr) (ds : List D) (S : Sto) (post : D → Sto → Prop) (xp : Xp) : gIsi cs [.tup ds, .val (.ty "str")] S post xp = post (.bl false) S := by
  apply propext
  constructor
  · rintro ⟨t, b, h1, _, h3, h4⟩
    cases h1
    have h5 : some false = some b := h3
    cases h5
    exact h4
  · exact fun h => ⟨.B "tuple", false, rfl, (by intro C e; cases e), rfl, h⟩
theorem isi_lst_list (cs : List Addr) (ds : List D) (S : Sto) (post : D → Sto → Prop) (xp : Xp) : gIsi cs [.lst ds, .val (.ty "list")] S post xp = post (.bl true) S := by
  apply propext
  constructor
  · rintro ⟨t, b, h1, _, h3, h4⟩
    cases h1
    have h5 : some true = some b := h3
    cases h5
    exact h4
  · exact fun h => ⟨.B "list", true, rfl, (by intro C e; cases e), rfl, h⟩
theorem isi_lst_tuple (cs : List Addr) (ds : List D) (S : Sto) (post : D → Sto → Prop) (xp : Xp) : gIsi cs [.lst ds, .val (.ty "tuple")] S post xp = post (.bl false) S := by
  apply propext
  constructor
  · rintro ⟨t, b, h1, _, h3, h4⟩
    cases h1
    have h5 : some false = some b := h3
    cases h5
    exact h4
  · exact fun h => ⟨.B "list", false, rfl, (by intro C e; cases e), rfl, h⟩
theorem isi_lst_bool (cs : List Addr) (ds : List D) (S : Sto) (post : D → Sto → Prop) (xp : Xp) : gIsi cs [.lst ds, .val (.ty "bool")] S post xp = post (.bl false) S := by
  apply propext
  constructor
  · rintro ⟨t, b, h1, _, h3, h4⟩
    cases h1
    have h5 : some false = some b := h3
    cases h5
    exact h4
  · exact fun h => ⟨.B "list", false, rfl, (by intro C e; cases e), rfl, h⟩
theorem isi_lst_int (cs : List Addr) (ds : List D) (S : Sto) (post : D → Sto → Prop) (xp : Xp) : gIsi cs [.lst ds, .val (.ty "int")] S post xp = post (.bl false) S := by
  apply propext
  constructor
  · rintro ⟨t, b, h1, _, h3, h4⟩
    cases h1
    have h5 : some false = some b := h3
    cases h5
    exact h4
  · exact fun h => ⟨.B "list", false, rfl, (by intro C e; cases e), rfl, h⟩
theorem isi_lst_str (cs : List Addr) (ds : List D) (S : Sto) (post : D → Sto → Prop) (xp : Xp) : gIsi cs [.lst ds, .val (.ty "str")] S post xp = post (.bl false) S := by
  apply propext
  constructor
  · rintro ⟨t, b, h1, _, h3, h4⟩
    cases h1
    have h5 : some false = some b := h3
    cases h5
    exact h4
  · exact fun h => ⟨.B "list", false, rfl, (by intro C e; cases e), rfl, h⟩
def nIsi2 (cs : List Addr) (t u : Ty) (d : D) (S : Sto) (k : Bool → Prop) : Prop := ∃ y b c, tyD S d = some y ∧ (∀ C, y = .C C → C ∈ cs) ∧ isT cs y t b ∧ isT cs y u c ∧ k (b || c)
theorem dIsi2_m (cs : List Addr) (t u : Ty) (e : DE) (ρ : Lc) (S : Sto) (post : D → Sto → Prop) (xp : Xp) : dIsi2 cs t u e ρ S post xp = e ρ S (fun d S1 => nIsi2 cs t u d S1 fun b => post (.bl b) S1) xp := by exact id rfl
theorem isi2_non (cs : List Addr)  (S : Sto) (k : Bool → Prop) : nIsi2 cs (.B "list") (.B "tuple") (.non) S k = k false := by
  apply propext
  constructor
  · rintro ⟨y, b, c, h1, _, h3, h4, h5⟩
    cases h1
    have h6 : some false = some b := h3
    have h7 : some false = some c := h4
    cases h6; cases h7
    exact h5
  · exact fun h => ⟨.B "NoneType", false, false, rfl, (by intro C e; cases e), rfl, rfl, h⟩
theorem isi2_bl (cs : List Addr) (b : Bool) (S : Sto) (k : Bool → Prop) : nIsi2 cs (.B "list") (.B "tuple") (.bl b) S k = k false := by
  apply propext
  constructor
  · rintro ⟨y, b, c, h1, _, h3, h4, h5⟩
    cases h1
    have h6 : some false = some b := h3
    have h7 : some false = some c := h4
    cases h6; cases h7
    exact h5
  · exact fun h => ⟨.B "bool", false, false, rfl, (by intro C e; cases e), rfl, rfl, h⟩
theorem isi2_int (cs : List Addr) (i : Int) (S : Sto) (k : Bool → Prop) : nIsi2 cs (.B "list") (.B "tuple") (.int i) S k = k false := by
  apply propext
  constructor
  · rintro ⟨y, b, c, h1, _, h3, h4, h5⟩
    cases h1
    have h6 : some false = some b := h3
    have h7 : some false = some c := h4
    cases h6; cases h7
    exact h5
  · exact fun h => ⟨.B "int", false, false, rfl, (by intro C e; cases e), rfl, rfl, h⟩
theorem isi2_str (cs : List Addr) (s : Str) (S : Sto) (k : Bool → Prop) : nIsi2 cs (.B "list") (.B "tuple") (.str s) S k = k false := by
  apply propext
  constructor
  · rintro ⟨y, b, c, h1, _, h3, h4, h5⟩
    cases h1
    have h6 : some false = some b := h3
    have h7 : some false = some c := h4
    cases h6; cases h7
    exact h5
  · exact fun h => ⟨.B "str", false, false, rfl, (by intro C e; cases e), rfl, rfl, h⟩
theorem isi2_tup (cs : List Addr) (ds : List D) (S : Sto) (k : Bool → Prop) : nIsi2 cs (.B "list") (.B "tuple") (.tup ds) S k = k true := by
  apply propext
  constructor
  · rintro ⟨y, b, c, h1, _, h3, h4, h5⟩
    cases h1
    have h6 : some false = some b := h3
    have h7 : some true = some c := h4
    cases h6; cases h7
    exact h5
  · exact fun h => ⟨.B "tuple", false, true, rfl, (by intro C e; cases e), rfl, rfl, h⟩
theorem isi2_lst (cs : List Addr) (ds : List D) (S : Sto) (k : Bool → Prop) : nIsi2 cs (.B "list") (.B "tuple") (.lst ds) S k = k true := by
  apply propext
  constructor
  · rintro ⟨y, b, c, h1, _, h3, h4, h5⟩
    cases h1
    have h6 : some true = some b := h3
    have h7 : some false = some c := h4
    cases h6; cases h7
    exact h5
  · exact fun h => ⟨.B "list", true, false, rfl, (by intro C e; cases e), rfl, rfl, h⟩
theorem oIs_non (S : Sto) (post : D → Sto → Prop) (xp : Xp) : oIs .non .non S post xp = post (.bl true) S := by
  unfold oIs isNon; simp
theorem oIs_bl (b : Bool) (S : Sto) (post : D → Sto → Prop) (xp : Xp) : oIs (.bl b) .non S post xp = post (.bl false) S := by
  unfold oIs isNon; simp
theorem oIs_int (b : Int) (S : Sto) (post : D → Sto → Prop) (xp : Xp) : oIs (.int b) .non S post xp = post (.bl false) S := by
  unfold oIs isNon; simp
theorem oIs_str (b : Str) (S : Sto) (post : D → Sto → Prop) (xp : Xp) : oIs (.str b) .non S post xp = post (.bl false) S := by
  unfold oIs isNon; simp
theorem wLc_yes {ρ : Lc} {t : Tgt} {elt : DE} {S : Sto} {xp : Xp} (f : D → D) : ∀ (ds acc : List D) (post : List D → Sto → Prop), (∀ d ∈ ds, ∀ k : D → Sto → Prop, k (f d) S → bT t d ρ fun ρ' => elt ρ' S k noX) → post (acc ++ ds.map f) S → wLc ρ t dYes elt ds acc S post xp
  | [], acc, post, _, h => by unfold wLc; simpa using h
  | d :: ds, acc, post, he, h => by
    unfold wLc
    have e : (fun ρ' => dYes ρ' S (fun b S1 => if b = true then elt ρ' S1 (fun y S2 => wLc ρ t dYes elt ds (acc ++ [y]) S2 post xp) noX else wLc ρ t dYes elt ds acc S1 post xp) noX) = fun ρ' => elt ρ' S (fun y S2 => wLc ρ t dYes elt ds (acc ++ [y]) S2 post xp) noX := by
      funext ρ'
      rw [dYes_m, if_pos rfl]
    rw [e]
    refine he d (List.mem_cons_self ..) _ ?_
    refine wLc_yes f ds (acc ++ [f d]) post (fun d' hd => he d' (List.mem_cons_of_mem _ hd)) ?_
    rw [List.append_assoc]
    exact h
theorem dLc_m (vs : List Nat) (t : Tgt) (src : DC) (c : DT) (elt : DE) (ρ : Lc) (S : Sto) (post : D → Sto → Prop) (xp : Xp) : dLc vs t src c elt ρ S post xp = src ρ S (fun ds S1 => ds.length ≤ 1000 ∧ wLc (wipeL ρ vs) t c elt ds [] S1 (fun acc S2 => post (.lst acc) S2) xp) xp := by exact id rfl
def mZip (ds : List D) (k : List D → Prop) : Prop := match ds with
  | [.lst xs, .lst ys] => k (zipD xs ys)
  | [.tup xs, .tup ys] => k (zipD xs ys)
  | _ => False
theorem mZip_t (xs ys : List D) (k : List D → Prop) : mZip [.tup xs, .tup ys] k = k (zipD xs ys) := by exact id rfl
theorem mZip_l (xs ys : List D) (k : List D → Prop) : mZip [.lst xs, .lst ys] k = k (zipD xs ys) := by exact id rfl
theorem cZip_m (fs : List DE) (ρ : Lc) (S : Sto) (post : List D → Sto → Prop) (xp : Xp) : cZip fs ρ S post xp = dArgs fs ρ S (fun ds S' => mZip ds fun xs => post xs S') xp := by
  unfold cZip mZip
  congr 1
theorem zipD_len1 : ∀ xs : List D, (zipD xs xs).length = xs.length
  | [] => rfl
  | x :: xs => by unfold zipD; simp [zipD_len1 xs]
theorem zipD_mem : ∀ {xs : List D} {d : D}, d ∈ zipD xs xs → ∃ x ∈ xs, d = .tup [x, x]
  | [], d, h => by unfold zipD at h; cases h
  | x :: xs, d, h => by
    unfold zipD at h
    rcases List.mem_cons.mp h with rfl | h
    · exact ⟨x, List.mem_cons_self .., rfl⟩
    · obtain ⟨y, hy, e⟩ := zipD_mem h
      exact ⟨y, List.mem_cons_of_mem _ hy, e⟩
theorem bT_tp2 {i j : Nat} {x y : D} {ρ : Lc} {k : Lc → Prop} (h : k ((ρ.set i (some x)).set j (some y))) : bT (.tp [.nm i, .nm j]) (.tup [x, y]) ρ k := by
  unfold bT
  refine ⟨rfl, ?_⟩
  unfold bTs bT bTs bT bTs
  exact h
/-- what _law_same finds to be the same as itself -/
def gd : Nat → D → Bool
  | 0, _ => false
  | n + 1, .tup ds => decide (ds.length ≤ 1000) && ds.all (gd n)
  | n + 1, .lst ds => decide (ds.length ≤ 1000) && ds.all (gd n)
  | _ + 1, .non => true
  | _ + 1, .bl _ => true
  | _ + 1, .int _ => true
  | _ + 1, .str s => PyData.strOk s
  | _ + 1, _ => false
theorem okEq_str {s : Str} (h : PyData.strOk s = true) : okEq (.str s) = true := by
  simp [okEq, plain, SeqAt.shaped, toPd, PyData.canLay0, h, PyData.depth]
theorem gAll_true {ds : List D} {S : Sto} {post : D → Sto → Prop} {xp : Xp} (h : post (.bl true) S) : gAll [.lst (ds.map fun _ => .bl true)] S post xp := by
  refine ⟨ds.map fun _ => true, by simp, ?_⟩
  have : (ds.map fun _ => true).all id = true := by simp
  rw [this]
  exact h
theorem wipeL_n (ρ : Lc) : wipeL ρ [] = ρ := by exact id rfl
theorem wipeL_c (ρ : Lc) (v : Nat) (vs : List Nat) : wipeL ρ (v :: vs) = (wipeL ρ vs).set v none := by exact id rfl
theorem nNew_d (C : Addr) (g : List D → W D) (fz : Bool) (b c : D) (S : Sto) (post : D → Sto → Prop) (xp : Xp) : nNew C g fz [c] [b] S post xp = nNew C g fz [] [b, c] S post xp := by exact id rfl
theorem permD_01 (a b : D) : permD [0, 1] [a, b] = [a, b] := by exact id rfl
theorem fr_0  : D.tup [.int 0, .int 1] = fr 0 := by exact id rfl
theorem fr_m1  : D.tup [.int (-1), .int 1] = fr (-1) := by exact id rfl
theorem fr_1  : D.tup [.int 1, .int 1] = fr 1 := by exact id rfl
def mRng (ds : List D) (k : List D → Prop) : Prop := match ds with
  | [.int j] => (-(2 ^ 62) ≤ j ∧ j < 2 ^ 62) ∧ k (rngD 0 j.toNat)
  | _ => False
theorem cRng_m (fs : List DE) (ρ : Lc) (S : Sto) (post : List D → Sto → Prop) (xp : Xp) : cRng fs ρ S post xp = dArgs fs ρ S (fun ds S' => mRng ds fun xs => post xs S') xp := by
  unfold cRng mRng
  congr 1
theorem mRng_of {j : Int} {xs : List D} {k : List D → Prop} (hb : -(2 ^ 62) ≤ j ∧ j < 2 ^ 62) (e : rngD 0 j.toNat = xs) (h : k xs) : mRng [.int j] k := by
  subst e
  exact ⟨hb, h⟩
end Dw
set_option maxHeartbeats 2000000
namespace Dw
open PySem PySem.Spec PyProof.Rows L2
def topS (i : Nat) : Stmt := PySem.Challenge.pw_lostland_k08_flats_together_and_moved.main.body.getD i (.Pass ⟨0, 0, 0, 0⟩)
def inClass (c : Stmt) (j : Nat) : Stmt := match c with
  | .ClassDef (body := b) .. => b.getD j (.Pass ⟨0, 0, 0, 0⟩)
  | _ => .Pass ⟨0, 0, 0, 0⟩
abbrev s_is_number : Stmt := topS 12
theorem sc_is_number : FnScope ["value"] ["value"] (defScope s_is_number) := ⟨rfl, rfl, rfl, by decide +kernel, rfl, by decide +kernel, by decide +kernel⟩
abbrev s_is_pair : Stmt := topS 13
theorem sc_is_pair : FnScope ["value"] ["value"] (defScope s_is_pair) := ⟨rfl, rfl, rfl, by decide +kernel, rfl, by decide +kernel, by decide +kernel⟩
abbrev s_is_fraction : Stmt := topS 14
theorem sc_is_fraction : FnScope ["value"] ["value"] (defScope s_is_fraction) := ⟨rfl, rfl, rfl, by decide +kernel, rfl, by decide +kernel, by decide +kernel⟩
abbrev s_is_spot : Stmt := topS 15
theorem sc_is_spot : FnScope ["value"] ["value"] (defScope s_is_spot) := ⟨rfl, rfl, rfl, by decide +kernel, rfl, by decide +kernel, by decide +kernel⟩
abbrev s_fraction : Stmt := topS 16
theorem sc_fraction : FnScope ["over", "under", "shared"] ["over", "under"] (defScope s_fraction) := ⟨rfl, rfl, rfl, by decide +kernel, rfl, by decide +kernel, by decide +kernel⟩
abbrev s_plus : Stmt := topS 17
theorem sc_plus : FnScope ["one", "other"] ["one", "other"] (defScope s_plus) := ⟨rfl, rfl, rfl, by decide +kernel, rfl, by decide +kernel, by decide +kernel⟩
abbrev s_minus : Stmt := topS 18
theorem sc_minus : FnScope ["one", "other"] ["one", "other"] (defScope s_minus) := ⟨rfl, rfl, rfl, by decide +kernel, rfl, by decide +kernel, by decide +kernel⟩
abbrev s_times : Stmt := topS 19
theorem sc_times : FnScope ["one", "other"] ["one", "other"] (defScope s_times) := ⟨rfl, rfl, rfl, by decide +kernel, rfl, by decide +kernel, by decide +kernel⟩
abbrev s_divided : Stmt := topS 20
theorem sc_divided : FnScope ["one", "other"] ["one", "other"] (defScope s_divided) := ⟨rfl, rfl, rfl, by decide +kernel, rfl, by decide +kernel, by decide +kernel⟩
abbrev s_negative : Stmt := topS 21
theorem sc_negative : FnScope ["one"] ["one"] (defScope s_negative) := ⟨rfl, rfl, rfl, by decide +kernel, rfl, by decide +kernel, by decide +kernel⟩
abbrev s_direction : Stmt := topS 24
theorem sc_direction : FnScope ["vector", "across", "along", "shared"] ["vector"] (defScope s_direction) := ⟨rfl, rfl, rfl, by decide +kernel, rfl, by decide +kernel, by decide +kernel⟩
abbrev s_vector_plus : Stmt := topS 25
theorem sc_vector_plus : FnScope ["one", "other"] ["one", "other"] (defScope s_vector_plus) := ⟨rfl, rfl, rfl, by decide +kernel, rfl, by decide +kernel, by decide +kernel⟩
abbrev s_vector_minus : Stmt := topS 26
theorem sc_vector_minus : FnScope ["one", "other"] ["one", "other"] (defScope s_vector_minus) := ⟨rfl, rfl, rfl, by decide +kernel, rfl, by decide +kernel, by decide +kernel⟩
abbrev s_vector_times : Stmt := topS 27
theorem sc_vector_times : FnScope ["vector", "weight"] ["vector", "weight"] (defScope s_vector_times) := ⟨rfl, rfl, rfl, by decide +kernel, rfl, by decide +kernel, by decide +kernel⟩
abbrev s_Table___init__ : Stmt := inClass (topS 29) 0
theorem sc_Table___init__ : FnScope ["self", "a", "b", "c", "d", "value"] ["self", "a", "b", "c", "d"] (defScope s_Table___init__) := ⟨rfl, rfl, rfl, by decide +kernel, rfl, by decide +kernel, by decide +kernel⟩
abbrev s_Table_identity : Stmt := inClass (topS 29) 1
theorem sc_Table_identity : FnScope [] [] (defScope s_Table_identity) := ⟨rfl, rfl, rfl, by decide +kernel, rfl, by decide +kernel, by decide +kernel⟩
abbrev s_Table_det : Stmt := inClass (topS 29) 3
theorem sc_Table_det : FnScope ["self"] ["self"] (defScope s_Table_det) := ⟨rfl, rfl, rfl, by decide +kernel, rfl, by decide +kernel, by decide +kernel⟩
abbrev s_Table_scaled : Stmt := inClass (topS 29) 10
theorem sc_Table_scaled : FnScope ["self", "weight"] ["self", "weight"] (defScope s_Table_scaled) := ⟨rfl, rfl, rfl, by decide +kernel, rfl, by decide +kernel, by decide +kernel⟩
abbrev s_Table_inverse : Stmt := inClass (topS 29) 11
theorem sc_Table_inverse : FnScope ["self", "det"] ["self"] (defScope s_Table_inverse) := ⟨rfl, rfl, rfl, by decide +kernel, rfl, by decide +kernel, by decide +kernel⟩
abbrev s_taken : Stmt := topS 30
theorem sc_taken : FnScope ["table", "vector", "x", "y"] ["table", "vector"] (defScope s_taken) := ⟨rfl, rfl, rfl, by decide +kernel, rfl, by decide +kernel, by decide +kernel⟩
abbrev s_columns : Stmt := topS 31
theorem sc_columns : FnScope ["left", "right"] ["left", "right"] (defScope s_columns) := ⟨rfl, rfl, rfl, by decide +kernel, rfl, by decide +kernel, by decide +kernel⟩
abbrev s_Flat___init__ : Stmt := inClass (topS 33) 0
theorem sc_Flat___init__ : FnScope ["self", "spots", "value"] ["self", "spots"] (defScope s_Flat___init__) := ⟨rfl, rfl, rfl, by decide +kernel, rfl, by decide +kernel, by decide +kernel⟩
abbrev s_Flat_whole : Stmt := inClass (topS 33) 1
theorem sc_Flat_whole : FnScope [] [] (defScope s_Flat_whole) := ⟨rfl, rfl, rfl, by decide +kernel, rfl, by decide +kernel, by decide +kernel⟩
abbrev s_Flat_size : Stmt := inClass (topS 33) 2
theorem sc_Flat_size : FnScope ["self"] ["self"] (defScope s_Flat_size) := ⟨rfl, rfl, rfl, by decide +kernel, rfl, by decide +kernel, by decide +kernel⟩
abbrev s_Flat_spots : Stmt := inClass (topS 33) 3
theorem sc_Flat_spots : FnScope ["self"] ["self"] (defScope s_Flat_spots) := ⟨rfl, rfl, rfl, by decide +kernel, rfl, by decide +kernel, by decide +kernel⟩
abbrev s_Flat_equation : Stmt := inClass (topS 33) 4
theorem sc_Flat_equation : FnScope ["self"] ["self"] (defScope s_Flat_equation) := ⟨rfl, rfl, rfl, by decide +kernel, rfl, by decide +kernel, by decide +kernel⟩
abbrev s_Flat_moved : Stmt := inClass (topS 33) 5
theorem sc_Flat_moved : FnScope ["self", "motion", "images", "spot"] ["self", "motion"] (defScope s_Flat_moved) := ⟨rfl, rfl, rfl, by decide +kernel, rfl, by decide +kernel, by decide +kernel⟩
abbrev s_Flat___contains__ : Stmt := inClass (topS 33) 6
theorem sc_Flat___contains__ : FnScope ["self", "spot"] ["self", "spot"] (defScope s_Flat___contains__) := ⟨rfl, rfl, rfl, by decide +kernel, rfl, by decide +kernel, by decide +kernel⟩
abbrev s_Flat___and__ : Stmt := inClass (topS 33) 7
theorem sc_Flat___and__ : FnScope ["self", "other", "spot"] ["self", "other"] (defScope s_Flat___and__) := ⟨rfl, rfl, rfl, by decide +kernel, rfl, by decide +kernel, by decide +kernel⟩
abbrev s_Flat___or__ : Stmt := inClass (topS 33) 8
theorem sc_Flat___or__ : FnScope ["self", "other", "spots"] ["self", "other"] (defScope s_Flat___or__) := ⟨rfl, rfl, rfl, by decide +kernel, rfl, by decide +kernel, by decide +kernel⟩
abbrev s_Flat___eq__ : Stmt := inClass (topS 33) 9
theorem sc_Flat___eq__ : FnScope ["self", "other", "spot"] ["self", "other"] (defScope s_Flat___eq__) := ⟨rfl, rfl, rfl, by decide +kernel, rfl, by decide +kernel, by decide +kernel⟩
abbrev s__independent : Stmt := topS 34
theorem sc__independent : FnScope ["spots", "corners", "spot"] ["spots"] (defScope s__independent) := ⟨rfl, rfl, rfl, by decide +kernel, rfl, by decide +kernel, by decide +kernel⟩
abbrev s__reaches : Stmt := topS 35
theorem sc__reaches : FnScope ["corners", "spot", "start", "end"] ["corners", "spot"] (defScope s__reaches) := ⟨rfl, rfl, rfl, by decide +kernel, rfl, by decide +kernel, by decide +kernel⟩
abbrev s__equation : Stmt := topS 36
theorem sc__equation : FnScope ["start", "end", "along", "down", "across", "up", "over", "under"] ["start", "end"] (defScope s__equation) := ⟨rfl, rfl, rfl, by decide +kernel, rfl, by decide +kernel, by decide +kernel⟩
abbrev s__crossing : Stmt := topS 37
theorem sc__crossing : FnScope ["one", "other", "det", "across", "up"] ["one", "other"] (defScope s__crossing) := ⟨rfl, rfl, rfl, by decide +kernel, rfl, by decide +kernel, by decide +kernel⟩
abbrev s_Motion___init__ : Stmt := inClass (topS 39) 0
theorem sc_Motion___init__ : FnScope ["self", "table", "move"] ["self", "table", "move"] (defScope s_Motion___init__) := ⟨rfl, rfl, rfl, by decide +kernel, rfl, by decide +kernel, by decide +kernel⟩
abbrev s_Motion_identity : Stmt := inClass (topS 39) 1
theorem sc_Motion_identity : FnScope [] [] (defScope s_Motion_identity) := ⟨rfl, rfl, rfl, by decide +kernel, rfl, by decide +kernel, by decide +kernel⟩
abbrev s_Motion___call__ : Stmt := inClass (topS 39) 2
theorem sc_Motion___call__ : FnScope ["self", "spot"] ["self", "spot"] (defScope s_Motion___call__) := ⟨rfl, rfl, rfl, by decide +kernel, rfl, by decide +kernel, by decide +kernel⟩
abbrev s_Motion_inverse : Stmt := inClass (topS 39) 4
theorem sc_Motion_inverse : FnScope ["self", "back"] ["self"] (defScope s_Motion_inverse) := ⟨rfl, rfl, rfl, by decide +kernel, rfl, by decide +kernel, by decide +kernel⟩
abbrev s_moved_spot : Stmt := topS 40
theorem sc_moved_spot : FnScope ["motion", "spot"] ["motion", "spot"] (defScope s_moved_spot) := ⟨rfl, rfl, rfl, by decide +kernel, rfl, by decide +kernel, by decide +kernel⟩
abbrev s__law_bag : Stmt := topS 42
theorem sc__law_bag : FnScope ["_law_script", "_law_cells"] ["_law_script"] (defScope s__law_bag) := ⟨rfl, rfl, rfl, by decide +kernel, rfl, by decide +kernel, by decide +kernel⟩
abbrev s__law_draw : Stmt := topS 43
abbrev s__law_pick : Stmt := topS 44
theorem sc__law_pick : FnScope ["_law_bag_here", "_law_some"] ["_law_bag_here", "_law_some"] (defScope s__law_pick) := ⟨rfl, rfl, rfl, by decide +kernel, rfl, by decide +kernel, by decide +kernel⟩
abbrev s__law_same : Stmt := topS 45
theorem sc__law_same : FnScope ["_law_found", "_law_due", "_law_x", "_law_y"] ["_law_found", "_law_due"] (defScope s__law_same) := ⟨rfl, rfl, rfl, by decide +kernel, rfl, by decide +kernel, by decide +kernel⟩
abbrev s__law_is_whole : Stmt := topS 46
theorem sc__law_is_whole : FnScope ["_law_v"] ["_law_v"] (defScope s__law_is_whole) := ⟨rfl, rfl, rfl, by decide +kernel, rfl, by decide +kernel, by decide +kernel⟩
abbrev s__law_common : Stmt := topS 47
theorem sc__law_common : FnScope ["_law_p", "_law_q", "_law_x", "_law_y"] ["_law_p", "_law_q"] (defScope s__law_common) := ⟨rfl, rfl, rfl, by decide +kernel, rfl, by decide +kernel, by decide +kernel⟩
abbrev s__law_low : Stmt := topS 48
theorem sc__law_low : FnScope ["_law_p", "_law_q", "_law_part"] ["_law_p", "_law_q"] (defScope s__law_low) := ⟨rfl, rfl, rfl, by decide +kernel, rfl, by decide +kernel, by decide +kernel⟩
abbrev s__law_is_fraction : Stmt := topS 49
theorem sc__law_is_fraction : FnScope ["_law_v"] ["_law_v"] (defScope s__law_is_fraction) := ⟨rfl, rfl, rfl, by decide +kernel, rfl, by decide +kernel, by decide +kernel⟩
abbrev s__law_is_spot : Stmt := topS 50
theorem sc__law_is_spot : FnScope ["_law_v"] ["_law_v"] (defScope s__law_is_spot) := ⟨rfl, rfl, rfl, by decide +kernel, rfl, by decide +kernel, by decide +kernel⟩
abbrev s__law_sum : Stmt := topS 51
theorem sc__law_sum : FnScope ["_law_x", "_law_y"] ["_law_x", "_law_y"] (defScope s__law_sum) := ⟨rfl, rfl, rfl, by decide +kernel, rfl, by decide +kernel, by decide +kernel⟩
abbrev s__law_less : Stmt := topS 52
theorem sc__law_less : FnScope ["_law_x", "_law_y"] ["_law_x", "_law_y"] (defScope s__law_less) := ⟨rfl, rfl, rfl, by decide +kernel, rfl, by decide +kernel, by decide +kernel⟩
abbrev s__law_product : Stmt := topS 53
theorem sc__law_product : FnScope ["_law_x", "_law_y"] ["_law_x", "_law_y"] (defScope s__law_product) := ⟨rfl, rfl, rfl, by decide +kernel, rfl, by decide +kernel, by decide +kernel⟩
abbrev s__law_shift : Stmt := topS 54
theorem sc__law_shift : FnScope ["_law_p", "_law_q"] ["_law_p", "_law_q"] (defScope s__law_shift) := ⟨rfl, rfl, rfl, by decide +kernel, rfl, by decide +kernel, by decide +kernel⟩
abbrev s__law_moved : Stmt := topS 55
theorem sc__law_moved : FnScope ["_law_p", "_law_v"] ["_law_p", "_law_v"] (defScope s__law_moved) := ⟨rfl, rfl, rfl, by decide +kernel, rfl, by decide +kernel, by decide +kernel⟩
abbrev s__law_long : Stmt := topS 56
theorem sc__law_long : FnScope ["_law_v", "_law_w"] ["_law_v", "_law_w"] (defScope s__law_long) := ⟨rfl, rfl, rfl, by decide +kernel, rfl, by decide +kernel, by decide +kernel⟩
abbrev s__law_cross : Stmt := topS 57
theorem sc__law_cross : FnScope ["_law_u", "_law_v"] ["_law_u", "_law_v"] (defScope s__law_cross) := ⟨rfl, rfl, rfl, by decide +kernel, rfl, by decide +kernel, by decide +kernel⟩
abbrev s__law_fraction : Stmt := topS 58
theorem sc__law_fraction : FnScope ["_law_bag_here", "_law_size", "_law_top"] ["_law_bag_here"] (defScope s__law_fraction) := ⟨rfl, rfl, rfl, by decide +kernel, rfl, by decide +kernel, by decide +kernel⟩
abbrev s__law_small : Stmt := topS 59
theorem sc__law_small : FnScope ["_law_bag_here"] ["_law_bag_here"] (defScope s__law_small) := ⟨rfl, rfl, rfl, by decide +kernel, rfl, by decide +kernel, by decide +kernel⟩
abbrev s__law_spot : Stmt := topS 60
theorem sc__law_spot : FnScope ["_law_bag_here"] ["_law_bag_here"] (defScope s__law_spot) := ⟨rfl, rfl, rfl, by decide +kernel, rfl, by decide +kernel, by decide +kernel⟩
abbrev s__law_near : Stmt := topS 61
theorem sc__law_near : FnScope ["_law_bag_here"] ["_law_bag_here"] (defScope s__law_near) := ⟨rfl, rfl, rfl, by decide +kernel, rfl, by decide +kernel, by decide +kernel⟩
abbrev s__law_table : Stmt := topS 62
theorem sc__law_table : FnScope ["_law_bag_here", "_law_way", "_law_u", "_law_w", "_law_v"] ["_law_bag_here"] (defScope s__law_table) := ⟨rfl, rfl, rfl, by decide +kernel, rfl, by decide +kernel, by decide +kernel⟩
abbrev s__law_led : Stmt := topS 63
theorem sc__law_led : FnScope ["_law_t", "_law_v", "_law_x"] ["_law_t", "_law_v"] (defScope s__law_led) := ⟨rfl, rfl, rfl, by decide +kernel, rfl, by decide +kernel, by decide +kernel⟩
abbrev s__law_det : Stmt := topS 64
theorem sc__law_det : FnScope ["_law_t"] ["_law_t"] (defScope s__law_det) := ⟨rfl, rfl, rfl, by decide +kernel, rfl, by decide +kernel, by decide +kernel⟩
abbrev s__law_quotient : Stmt := topS 65
theorem sc__law_quotient : FnScope ["_law_x", "_law_y"] ["_law_x", "_law_y"] (defScope s__law_quotient) := ⟨rfl, rfl, rfl, by decide +kernel, rfl, by decide +kernel, by decide +kernel⟩
abbrev s__law_turn : Stmt := topS 66
theorem sc__law_turn : FnScope ["_law_p", "_law_q", "_law_r"] ["_law_p", "_law_q", "_law_r"] (defScope s__law_turn) := ⟨rfl, rfl, rfl, by decide +kernel, rfl, by decide +kernel, by decide +kernel⟩
abbrev s__law_span : Stmt := topS 67
theorem sc__law_span : FnScope ["_law_some", "_law_found", "_law_p"] ["_law_some"] (defScope s__law_span) := ⟨rfl, rfl, rfl, by decide +kernel, rfl, by decide +kernel, by decide +kernel⟩
abbrev s__law_within : Stmt := topS 68
theorem sc__law_within : FnScope ["_law_some", "_law_p"] ["_law_some", "_law_p"] (defScope s__law_within) := ⟨rfl, rfl, rfl, by decide +kernel, rfl, by decide +kernel, by decide +kernel⟩
abbrev s__law_cloud : Stmt := topS 69
theorem sc__law_cloud : FnScope ["_law_bag_here", "_law_many", "_law_p", "_law_v", "_law_way", "_law_found", "_law_k"] ["_law_bag_here", "_law_many"] (defScope s__law_cloud) := ⟨rfl, rfl, rfl, by decide +kernel, rfl, by decide +kernel, by decide +kernel⟩
abbrev s__law_flat : Stmt := topS 70
theorem sc__law_flat : FnScope ["_law_some"] ["_law_some"] (defScope s__law_flat) := ⟨rfl, rfl, rfl, by decide +kernel, rfl, by decide +kernel, by decide +kernel⟩
abbrev s__law_asked : Stmt := topS 71
theorem sc__law_asked : FnScope ["_law_bag_here", "_law_some", "_law_found", "_law_k", "_law_p", "_law_q"] ["_law_bag_here", "_law_some"] (defScope s__law_asked) := ⟨rfl, rfl, rfl, by decide +kernel, rfl, by decide +kernel, by decide +kernel⟩
abbrev s__law_meet : Stmt := topS 72
theorem sc__law_meet : FnScope ["_law_some", "_law_far", "_law_p", "_law_q", "_law_u", "_law_v", "_law_area", "_law_x"] ["_law_some", "_law_far"] (defScope s__law_meet) := ⟨rfl, rfl, rfl, by decide +kernel, rfl, by decide +kernel, by decide +kernel⟩
abbrev s__law_is_flat : Stmt := topS 73
theorem sc__law_is_flat : FnScope ["_law_flat_here", "_law_some", "_law_far", "_law_told", "_law_p"] ["_law_flat_here", "_law_some", "_law_far"] (defScope s__law_is_flat) := ⟨rfl, rfl, rfl, by decide +kernel, rfl, by decide +kernel, by decide +kernel⟩
abbrev s__law_both_so : Stmt := topS 74
theorem sc__law_both_so : FnScope ["_law_bag_here", "_law_some", "_law_far", "_law_p", "_law_q", "_law_asked_here", "_law_meet_here", "_law_join", "_law_told"] ["_law_bag_here", "_law_some", "_law_far"] (defScope s__law_both_so) := ⟨rfl, rfl, rfl, by decide +kernel, rfl, by decide +kernel, by decide +kernel⟩
abbrev s__law_images_so : Stmt := topS 75
theorem sc__law_images_so : FnScope ["_law_bag_here", "_law_some", "_law_far", "_law_t", "_law_v", "_law_made", "_law_p", "_law_q", "_law_led_here", "_law_there", "_law_first", "_law_later", "_law_x"] ["_law_bag_here", "_law_some", "_law_far"] (defScope s__law_images_so) := ⟨rfl, rfl, rfl, by decide +kernel, rfl, by decide +kernel, by decide +kernel⟩
abbrev s__law_three_so : Stmt := topS 76
theorem sc__law_three_so : FnScope ["_law_some", "_law_far", "_law_third", "_law_p", "_law_q", "_law_r"] ["_law_some", "_law_far", "_law_third"] (defScope s__law_three_so) := ⟨rfl, rfl, rfl, by decide +kernel, rfl, by decide +kernel, by decide +kernel⟩
abbrev s_law : Stmt := topS 77
theorem sc_law : FnScope ["_law_script", "_law_bag_here", "_law_turn_here", "_law_some", "_law_far", "_law_v", "_law_third", "_law_p"] ["_law_script"] (defScope s_law) := ⟨rfl, rfl, rfl, by decide +kernel, rfl, by decide +kernel, by decide +kernel⟩
abbrev C_Table (K : PySem.W.Frag) : Addr := He.ga K "Table"
abbrev C_Flat (K : PySem.W.Frag) : Addr := He.ga K "Flat"
abbrev C_Motion (K : PySem.W.Frag) : Addr := He.ga K "Motion"
abbrev own (K : PySem.W.Frag) : List Addr := [C_Table K, C_Flat K, C_Motion K]
abbrev ownB (K : PySem.W.Frag) : List Addr := [C_Table K, C_Flat K, C_Motion K]
abbrev ad_Table_det (K : PySem.W.Frag) : Addr := prA K (He.ga K "Table") "det"
abbrev ad_Table___init__ (K : PySem.W.Frag) : Addr := He.ma K (He.ga K "Table") "__init__"
abbrev ad_Flat___init__ (K : PySem.W.Frag) : Addr := He.ma K (He.ga K "Flat") "__init__"
abbrev ad_Flat_size (K : PySem.W.Frag) : Addr := prA K (He.ga K "Flat") "size"
abbrev ad_Flat___contains__ (K : PySem.W.Frag) : Addr := He.ma K (He.ga K "Flat") "__contains__"
abbrev ad_Flat_equation (K : PySem.W.Frag) : Addr := He.ma K (He.ga K "Flat") "equation"
abbrev ad_Flat___and__ (K : PySem.W.Frag) : Addr := He.ma K (He.ga K "Flat") "__and__"
abbrev ad_Flat_spots (K : PySem.W.Frag) : Addr := He.ma K (He.ga K "Flat") "spots"
abbrev ad_Flat___or__ (K : PySem.W.Frag) : Addr := He.ma K (He.ga K "Flat") "__or__"
abbrev ad_Flat___eq__ (K : PySem.W.Frag) : Addr := He.ma K (He.ga K "Flat") "__eq__"
abbrev ad_Flat_whole (K : PySem.W.Frag) : Addr := stA K (He.ga K "Flat") "whole"
abbrev ad_Motion___init__ (K : PySem.W.Frag) : Addr := He.ma K (He.ga K "Motion") "__init__"
abbrev ad_Motion___call__ (K : PySem.W.Frag) : Addr := He.ma K (He.ga K "Motion") "__call__"
abbrev ad_Flat_moved (K : PySem.W.Frag) : Addr := He.ma K (He.ga K "Flat") "moved"
abbrev ad_Table_identity (K : PySem.W.Frag) : Addr := stA K (He.ga K "Table") "identity"
abbrev ad_Motion_identity (K : PySem.W.Frag) : Addr := stA K (He.ga K "Motion") "identity"
abbrev ad_Table_scaled (K : PySem.W.Frag) : Addr := He.ma K (He.ga K "Table") "scaled"
abbrev ad_Table_inverse (K : PySem.W.Frag) : Addr := He.ma K (He.ga K "Table") "inverse"
abbrev ad_Motion_inverse (K : PySem.W.Frag) : Addr := He.ma K (He.ga K "Motion") "inverse"
abbrev g_ZERO : D := .tup [.int 0, .int 1]
abbrev g_ONE : D := .tup [.int 1, .int 1]
/-- what the top has written -/
structure Tx (P : Program) (w : World) (K : PySem.W.Frag) (mg : Str → Option Value) (base : Heap) (tb : List (Addr × Str)) : Prop where
  gcd : mg "gcd" = some (.builtin "math.gcd")
  isi : IsiK K (own K)
  boo : ∀ C ∈ ownB K, BoolC K C
  b_list : mg "list" = none
  b_len : mg "len" = none
  d__law_bag : ∃ f fd, Fun K "_law_bag" "_law_bag" s__law_bag f fd ∧ mg "_law_bag" = some (.ref f)
  b_range : mg "range" = none
  b_abs : mg "abs" = none
  b_int : mg "int" = none
  d__law_common : ∃ f fd, Fun K "_law_common" "_law_common" s__law_common f fd ∧ mg "_law_common" = some (.ref f)
  d__law_low : ∃ f fd, Fun K "_law_low" "_law_low" s__law_low f fd ∧ mg "_law_low" = some (.ref f)
  d__law_draw : ∃ f fd, Fun K "_law_draw" "_law_draw" s__law_draw f fd ∧ mg "_law_draw" = some (.ref f)
  d__law_pick : ∃ f fd, Fun K "_law_pick" "_law_pick" s__law_pick f fd ∧ mg "_law_pick" = some (.ref f)
  d__law_small : ∃ f fd, Fun K "_law_small" "_law_small" s__law_small f fd ∧ mg "_law_small" = some (.ref f)
  d__law_near : ∃ f fd, Fun K "_law_near" "_law_near" s__law_near f fd ∧ mg "_law_near" = some (.ref f)
  d__law_fraction : ∃ f fd, Fun K "_law_fraction" "_law_fraction" s__law_fraction f fd ∧ mg "_law_fraction" = some (.ref f)
  d__law_spot : ∃ f fd, Fun K "_law_spot" "_law_spot" s__law_spot f fd ∧ mg "_law_spot" = some (.ref f)
  d__law_sum : ∃ f fd, Fun K "_law_sum" "_law_sum" s__law_sum f fd ∧ mg "_law_sum" = some (.ref f)
  d__law_moved : ∃ f fd, Fun K "_law_moved" "_law_moved" s__law_moved f fd ∧ mg "_law_moved" = some (.ref f)
  d__law_product : ∃ f fd, Fun K "_law_product" "_law_product" s__law_product f fd ∧ mg "_law_product" = some (.ref f)
  d__law_long : ∃ f fd, Fun K "_law_long" "_law_long" s__law_long f fd ∧ mg "_law_long" = some (.ref f)
  d__law_cloud : ∃ f fd, Fun K "_law_cloud" "_law_cloud" s__law_cloud f fd ∧ mg "_law_cloud" = some (.ref f)
  d__law_less : ∃ f fd, Fun K "_law_less" "_law_less" s__law_less f fd ∧ mg "_law_less" = some (.ref f)
  d__law_shift : ∃ f fd, Fun K "_law_shift" "_law_shift" s__law_shift f fd ∧ mg "_law_shift" = some (.ref f)
  d__law_asked : ∃ f fd, Fun K "_law_asked" "_law_asked" s__law_asked f fd ∧ mg "_law_asked" = some (.ref f)
  b_isinstance : mg "isinstance" = none
  b_tuple : mg "tuple" = none
  d_is_pair : ∃ f fd, Fun K "is_pair" "is_pair" s_is_pair f fd ∧ mg "is_pair" = some (.ref f)
  b_bool : mg "bool" = none
  d_is_number : ∃ f fd, Fun K "is_number" "is_number" s_is_number f fd ∧ mg "is_number" = some (.ref f)
  d_is_fraction : ∃ f fd, Fun K "is_fraction" "is_fraction" s_is_fraction f fd ∧ mg "is_fraction" = some (.ref f)
  d_is_spot : ∃ f fd, Fun K "is_spot" "is_spot" s_is_spot f fd ∧ mg "is_spot" = some (.ref f)
  d_fraction : ∃ f fd, FunD K "fraction" "fraction" (defArgs s_fraction) (defBody s_fraction) (defScope s_fraction) [.int 1] [] f fd ∧ mg "fraction" = some (.ref f)
  d_plus : ∃ f fd, Fun K "plus" "plus" s_plus f fd ∧ mg "plus" = some (.ref f)
  d_negative : ∃ f fd, Fun K "negative" "negative" s_negative f fd ∧ mg "negative" = some (.ref f)
  d_minus : ∃ f fd, Fun K "minus" "minus" s_minus f fd ∧ mg "minus" = some (.ref f)
  d_times : ∃ f fd, Fun K "times" "times" s_times f fd ∧ mg "times" = some (.ref f)
  c_Table : mg "Table" = some (.ref (C_Table K))
  cls_Table : Cls K (C_Table K)
  na_Table_a : NoAttr K (C_Table K) "a"
  na_Table_d : NoAttr K (C_Table K) "d"
  na_Table_b : NoAttr K (C_Table K) "b"
  na_Table_c : NoAttr K (C_Table K) "c"
  fn_Table_det : ∃ fd, Fun K "det" "Table.det" s_Table_det (ad_Table_det K) fd
  po_Table_det : ∃ p, PropOf K (C_Table K) "det" p (ad_Table_det K)
  fn_Table___init__ : ∃ fd, Fun K "__init__" "Table.__init__" s_Table___init__ (ad_Table___init__ K) fd
  mk_Table : Mk K (C_Table K) (ad_Table___init__ K)
  d_columns : ∃ f fd, Fun K "columns" "columns" s_columns f fd ∧ mg "columns" = some (.ref f)
  d_vector_minus : ∃ f fd, Fun K "vector_minus" "vector_minus" s_vector_minus f fd ∧ mg "vector_minus" = some (.ref f)
  gl_ZERO : ∃ u v, mg "ZERO" = some u ∧ L2.RelV v u ∧ ∀ M H, Rep K M H g_ZERO v
  d__reaches : ∃ f fd, Fun K "_reaches" "_reaches" s__reaches f fd ∧ mg "_reaches" = some (.ref f)
  d__independent : ∃ f fd, Fun K "_independent" "_independent" s__independent f fd ∧ mg "_independent" = some (.ref f)
  c_Flat : mg "Flat" = some (.ref (C_Flat K))
  cls_Flat : Cls K (C_Flat K)
  na_Flat__corners : NoAttr K (C_Flat K) "_corners"
  fn_Flat___init__ : ∃ fd, Fun K "__init__" "Flat.__init__" s_Flat___init__ (ad_Flat___init__ K) fd
  mk_Flat : Mk K (C_Flat K) (ad_Flat___init__ K)
  d__law_flat : ∃ f fd, Fun K "_law_flat" "_law_flat" s__law_flat f fd ∧ mg "_law_flat" = some (.ref f)
  fn_Flat_size : ∃ fd, Fun K "size" "Flat.size" s_Flat_size (ad_Flat_size K) fd
  po_Flat_size : ∃ p, PropOf K (C_Flat K) "size" p (ad_Flat_size K)
  b_all : mg "all" = none
  fn_Flat___contains__ : ∃ fd, Fun K "__contains__" "Flat.__contains__" s_Flat___contains__ (ad_Flat___contains__ K) fd
  in_Flat : PySem.W.findIn K (.ref (C_Flat K)) "__contains__" = some (some (.ref (ad_Flat___contains__ K))) ∧ PySem.W.isFn K (.ref (ad_Flat___contains__ K)) = true
  d__crossing : ∃ f fd, Fun K "_crossing" "_crossing" s__crossing f fd ∧ mg "_crossing" = some (.ref f)
  d_direction : ∃ f fd, Fun K "direction" "direction" s_direction f fd ∧ mg "direction" = some (.ref f)
  d__equation : ∃ f fd, Fun K "_equation" "_equation" s__equation f fd ∧ mg "_equation" = some (.ref f)
  fn_Flat_equation : ∃ fd, Fun K "equation" "Flat.equation" s_Flat_equation (ad_Flat_equation K) fd
  me_Flat_equation : Meth K (C_Flat K) "equation" (ad_Flat_equation K)
  fn_Flat___and__ : ∃ fd, Fun K "__and__" "Flat.__and__" s_Flat___and__ (ad_Flat___and__ K) fd
  sf_Flat : PySem.W.selfFirst K (C_Flat K) = true
  op_Flat___and__ : PySem.W.findIn K (.ref (C_Flat K)) "__and__" = some (some (.ref (ad_Flat___and__ K))) ∧ PySem.W.isFn K (.ref (ad_Flat___and__ K)) = true
  fn_Flat_spots : ∃ fd, Fun K "spots" "Flat.spots" s_Flat_spots (ad_Flat_spots K) fd
  me_Flat_spots : Meth K (C_Flat K) "spots" (ad_Flat_spots K)
  fn_Flat___or__ : ∃ fd, Fun K "__or__" "Flat.__or__" s_Flat___or__ (ad_Flat___or__ K) fd
  op_Flat___or__ : PySem.W.findIn K (.ref (C_Flat K)) "__or__" = some (some (.ref (ad_Flat___or__ K))) ∧ PySem.W.isFn K (.ref (ad_Flat___or__ K)) = true
  b_zip : mg "zip" = none
  b_str : mg "str" = none
  d__law_same : ∃ f fd, Fun K "_law_same" "_law_same" s__law_same f fd ∧ mg "_law_same" = some (.ref f)
  d__law_cross : ∃ f fd, Fun K "_law_cross" "_law_cross" s__law_cross f fd ∧ mg "_law_cross" = some (.ref f)
  d__law_turn : ∃ f fd, Fun K "_law_turn" "_law_turn" s__law_turn f fd ∧ mg "_law_turn" = some (.ref f)
  d__law_span : ∃ f fd, Fun K "_law_span" "_law_span" s__law_span f fd ∧ mg "_law_span" = some (.ref f)
  d__law_within : ∃ f fd, Fun K "_law_within" "_law_within" s__law_within f fd ∧ mg "_law_within" = some (.ref f)
  d__law_is_whole : ∃ f fd, Fun K "_law_is_whole" "_law_is_whole" s__law_is_whole f fd ∧ mg "_law_is_whole" = some (.ref f)
  d__law_is_fraction : ∃ f fd, Fun K "_law_is_fraction" "_law_is_fraction" s__law_is_fraction f fd ∧ mg "_law_is_fraction" = some (.ref f)
  d__law_is_spot : ∃ f fd, Fun K "_law_is_spot" "_law_is_spot" s__law_is_spot f fd ∧ mg "_law_is_spot" = some (.ref f)
  fn_Flat___eq__ : ∃ fd, Fun K "__eq__" "Flat.__eq__" s_Flat___eq__ (ad_Flat___eq__ K) fd
  eq_Flat : EqF K (own K) (C_Flat K) (ad_Flat___eq__ K)
  d__law_is_flat : ∃ f fd, Fun K "_law_is_flat" "_law_is_flat" s__law_is_flat f fd ∧ mg "_law_is_flat" = some (.ref f)
  d__law_quotient : ∃ f fd, Fun K "_law_quotient" "_law_quotient" s__law_quotient f fd ∧ mg "_law_quotient" = some (.ref f)
  d__law_meet : ∃ f fd, Fun K "_law_meet" "_law_meet" s__law_meet f fd ∧ mg "_law_meet" = some (.ref f)
  gl_ONE : ∃ u v, mg "ONE" = some u ∧ L2.RelV v u ∧ ∀ M H, Rep K M H g_ONE v
  fn_Flat_whole : ∃ fd, Fun K "whole" "Flat.whole" s_Flat_whole (ad_Flat_whole K) fd
  st_Flat_whole : Px.Stat K (C_Flat K) "whole" (ad_Flat_whole K)
  d__law_both_so : ∃ f fd, Fun K "_law_both_so" "_law_both_so" s__law_both_so f fd ∧ mg "_law_both_so" = some (.ref f)
  d__law_table : ∃ f fd, Fun K "_law_table" "_law_table" s__law_table f fd ∧ mg "_law_table" = some (.ref f)
  c_Motion : mg "Motion" = some (.ref (C_Motion K))
  cls_Motion : Cls K (C_Motion K)
  na_Motion_table : NoAttr K (C_Motion K) "table"
  na_Motion_move : NoAttr K (C_Motion K) "move"
  df_Motion___init___0 : ∀ M H, Rep K M H (.tup [g_ZERO, g_ZERO]) (.ref (He.dflAt ("Motion", some "__init__") 0 K))
  fn_Motion___init__ : ∃ fd, FunD K "__init__" "Motion.__init__" (defArgs s_Motion___init__) (defBody s_Motion___init__) (defScope s_Motion___init__) [.ref (He.dflAt ("Motion", some "__init__") 0 K)] [] (ad_Motion___init__ K) fd
  mk_Motion : Mk K (C_Motion K) (ad_Motion___init__ K)
  d__law_led : ∃ f fd, Fun K "_law_led" "_law_led" s__law_led f fd ∧ mg "_law_led" = some (.ref f)
  d_vector_plus : ∃ f fd, Fun K "vector_plus" "vector_plus" s_vector_plus f fd ∧ mg "vector_plus" = some (.ref f)
  d_taken : ∃ f fd, Fun K "taken" "taken" s_taken f fd ∧ mg "taken" = some (.ref f)
  d_moved_spot : ∃ f fd, Fun K "moved_spot" "moved_spot" s_moved_spot f fd ∧ mg "moved_spot" = some (.ref f)
  fn_Motion___call__ : ∃ fd, Fun K "__call__" "Motion.__call__" s_Motion___call__ (ad_Motion___call__ K) fd
  oc_Motion : StX.CallO K (C_Motion K) (ad_Motion___call__ K)
  fn_Flat_moved : ∃ fd, Fun K "moved" "Flat.moved" s_Flat_moved (ad_Flat_moved K) fd
  me_Flat_moved : Meth K (C_Flat K) "moved" (ad_Flat_moved K)
  fn_Table_identity : ∃ fd, Fun K "identity" "Table.identity" s_Table_identity (ad_Table_identity K) fd
  st_Table_identity : Px.Stat K (C_Table K) "identity" (ad_Table_identity K)
  fn_Motion_identity : ∃ fd, Fun K "identity" "Motion.identity" s_Motion_identity (ad_Motion_identity K) fd
  st_Motion_identity : Px.Stat K (C_Motion K) "identity" (ad_Motion_identity K)
  d__law_det : ∃ f fd, Fun K "_law_det" "_law_det" s__law_det f fd ∧ mg "_law_det" = some (.ref f)
  fn_Table_scaled : ∃ fd, Fun K "scaled" "Table.scaled" s_Table_scaled (ad_Table_scaled K) fd
  me_Table_scaled : Meth K (C_Table K) "scaled" (ad_Table_scaled K)
  d_divided : ∃ f fd, Fun K "divided" "divided" s_divided f fd ∧ mg "divided" = some (.ref f)
  fn_Table_inverse : ∃ fd, Fun K "inverse" "Table.inverse" s_Table_inverse (ad_Table_inverse K) fd
  me_Table_inverse : Meth K (C_Table K) "inverse" (ad_Table_inverse K)
  d_vector_times : ∃ f fd, Fun K "vector_times" "vector_times" s_vector_times f fd ∧ mg "vector_times" = some (.ref f)
  fn_Motion_inverse : ∃ fd, Fun K "inverse" "Motion.inverse" s_Motion_inverse (ad_Motion_inverse K) fd
  me_Motion_inverse : Meth K (C_Motion K) "inverse" (ad_Motion_inverse K)
  d__law_images_so : ∃ f fd, Fun K "_law_images_so" "_law_images_so" s__law_images_so f fd ∧ mg "_law_images_so" = some (.ref f)
  d__law_three_so : ∃ f fd, Fun K "_law_three_so" "_law_three_so" s__law_three_so f fd ∧ mg "_law_three_so" = some (.ref f)
  d_law : ∃ f fd, Fun K "law" "law" s_law f fd ∧ mg "law" = some (.ref f)
end Dw
set_option maxHeartbeats 2000000
namespace Px
open PySem PySem.Spec PyProof.Rows L2
def topS (i : Nat) : Stmt := PySem.Challenge.pw_lostland_k08_flats_together_and_moved.main.body.getD i (.Pass ⟨0, 0, 0, 0⟩)
abbrev s__law_draw : Stmt := topS 43
theorem sc__law_draw : FnScope ["_law_bag_here", "_law_many", "_law_cell", "_law_digit", "_law_seed"] ["_law_bag_here", "_law_many"] (defScope s__law_draw) := ⟨rfl, rfl, rfl, by decide +kernel, rfl, by decide +kernel, by decide +kernel⟩
structure Tx (K : PySem.W.Frag) (mg : Str → Option Value) : Prop where
  len : mg "len" = none
  abs : mg "abs" = none
  int : mg "int" = none
  _law_draw : ∃ f fd, Fun K "_law_draw" "_law_draw" s__law_draw f fd ∧ mg "_law_draw" = some (.ref f)
section
variable {P : Program} {w : World} {K : PySem.W.Frag} {mg : Str → Option Value} {base : Heap}
def Has (P : Program) (w : World) (K : PySem.W.Frag) (mg : Str → Option Value) (base : Heap) (CX : CXT) (x : Str) (st : Stmt) (ps : List Str) (lv : Nat) (sp : Sp) : Prop :=
  ∃ f fd, Fun K x x st f fd ∧ mg x = some (.ref f) ∧ Binds K fd ps [] ∧ FnOk P w K mg base CX lv f fd ps sp
def bagL (c : Addr) (i x y z : Int) : List V := [.ref c, .int i, .int x, .int y, .int z]
structure BagAt (K : PySem.W.Frag) (b c : Addr) (ns : List Int) (i x y z : Int) (H : Hp) : Prop where
  ne : c ≠ b
  cells : SqL K H c (ns.map V.int)
  i0 : 0 ≤ i
  x0 : 0 ≤ x
  y0 : 0 ≤ y
  y1 : y < 2147483423
def BagOk (K : PySem.W.Frag) (b c : Addr) (ns : List Int) (H : Hp) : Prop := ∃ i x y z, H b = some (.lst (bagL c i x y z)) ∧ BagAt K b c ns i x y z H
theorem upd_self {H : Hp} {b : Addr} {o : HO} (h : H b = some o) : upd H b o = H := by
  funext a
  unfold upd
  split
  · subst_vars; exact h.symm
  · rfl
theorem sqL_upd {H : Hp} {b c : Addr} {o : HO} {xs : List V} (n : c ≠ b) (h : SqL K H c xs) : SqL K (upd H b o) c xs := by
  rcases h with (h | ⟨u, h⟩) | h
  · exact .inl (.inl (by rw [upd_ne n]; exact h))
  · exact .inl (.inr ⟨u, by rw [upd_ne n]; exact h⟩)
  · exact .inr h
def onB (b : Addr) : Addr → Prop := fun a => a = b
theorem ex_upd {H : Hp} {b : Addr} {o : HO} : Ex (onB b) H (upd H b o) := fun a u h n => by
  rw [upd_ne (show a ≠ b from n)]; exact h
theorem bag_end {H : Hp} {b c : Addr} {ns : List Int} {i x y z : Int} (A : BagAt K b c ns i x y z H) {i' x' y' z' : Int} (hi : 0 ≤ i') (hx : 0 ≤ x') (hy : 0 ≤ y') (hy1 : y' < 2147483423) : BagOk K b c ns (upd H b (.lst (bagL c i' x' y' z'))) :=
  ⟨i', x', y', z', upd_same, A.ne, sqL_upd A.ne A.cells, hi, hx, hy, hy1⟩
theorem v_ixL {σ : L2.St} {H : Hp} {ta tb : TE} {a : Addr} {xs : List V} {k : Nat} {w : V} (ha : Val ta σ H (.ref a)) (hb : Val tb σ H (.int (k : Int))) (h : SqL K H a xs) (e : xs[k]? = some w) : Val (tOp (rIxL K) ta tb) σ H w := fun _ q => ha _ (hb _ ⟨a, xs, _, w, rfl, rfl, h, atI_nat e, q⟩)
theorem v_bag {σ : L2.St} {H : Hp} {ta tb : TE} {b : Addr} {xs : List V} {k : Nat} {w : V} (ha : Val ta σ (upd H b (.lst xs)) (.ref b)) (hb : Val tb σ (upd H b (.lst xs)) (.int (k : Int))) (e : xs[k]? = some w) : Val (tOp (rIxL K) ta tb) σ (upd H b (.lst xs)) w :=
  v_ixL ha hb (.inl (.inl upd_same)) e
theorem a_use {c : TT} {σ : L2.St} {H : Hp} {b : Bool} {Q : Bool → Hp → Prop} (h : Ans c σ H b) (q : Q b H) : c σ H Q := h Q q
theorem v_cell {σ : L2.St} {H : Hp} {ta tb : TE} {a : Addr} {ns : List Int} {i : Int} (ha : Val ta σ H (.ref a)) (hb : Val tb σ H (.int i)) (h : SqL K H a (ns.map V.int)) (i0 : 0 ≤ i) (i1 : i < ((ns.map V.int).length : Int)) : Val (tOp (rIxL K) ta tb) σ H (.int (ns.getD i.toNat 0)) := by
  rw [List.length_map] at i1
  have e : i = ((i.toNat : Nat) : Int) := by omega
  have l : i.toNat < ns.length := by omega
  rw [e] at hb
  have q := v_ixL (k := i.toNat) ha hb h (w := .int (ns.getD i.toNat 0)) (by rw [List.getElem?_map, List.getElem?_eq_getElem l, List.getD_eq_getElem?_getD, List.getElem?_eq_getElem l]; rfl)
  exact q
theorem ixN_lt {n k : Nat} (h : k < n) : ixN n (k : Int) = some k := by
  unfold ixN
  rw [if_pos (by omega), if_pos (by omega)]
  rfl
theorem k_seti {σ : L2.St} {H : Hp} {te to ti : TE} {D' : Ends} {b : Addr} {xs ys : List V} {v : V} {k : Nat} (h : Val te σ (upd H b (.lst xs)) v) (ho : Val to σ (upd H b (.lst xs)) (.ref b)) (hi : Val ti σ (upd H b (.lst xs)) (.int (k : Int))) (hk : k < xs.length) (e : xs.set k v = ys)
    (q : D'.nx σ (upd H b (.lst ys))) : tAsg te (gSub to ti rSetL) D' σ (upd H b (.lst xs)) := by
  refine h _ (ho _ (hi _ ⟨b, xs, _, k, rfl, rfl, upd_same, ixN_lt hk, ?_⟩))
  rw [upd_upd, e]
  exact q
def rLen (K : PySem.W.Frag) : List V → Hp → VK → Prop := fun xs H Q => ∃ x n, xs = [x] ∧ LenV K x H n ∧ Q (.int n) H
theorem v_lenL {σ : L2.St} {H : Hp} {ta : TE} {a : Addr} {xs : List V} (ha : Val ta σ H (.ref a)) (h : SqL K H a xs) : Val (tCB (rLen K) (tCons ta tNil)) σ H (.int (xs.length : Nat)) := fun _ q => ha _ ⟨_, _, rfl, .inl ⟨xs, h, rfl⟩, q⟩
def sp__law_draw (K : PySem.W.Frag) : Sp := fun vs H Q _ => ∃ (b c : Addr) (ns : List Int) (n : Int), vs = [.ref b, .int n] ∧ BagOk K b c ns H ∧ 0 < n ∧ n < 1073741824 ∧ ∀ r H', 0 ≤ r → r < n → BagOk K b c ns H' → Ex (onB b) H H' → Q (.int r) H'
theorem has__law_draw (T : Tx K mg) : Has P w K mg base CX0 "_law_draw" s__law_draw ["_law_bag_here", "_law_many"] 1 (sp__law_draw K) := by
  obtain ⟨f, fd, F, M⟩ := T._law_draw
  refine ⟨f, fd, F, M, F.binds (ps := ["_law_bag_here", "_law_many"]) (fun _ _ _ _ _ _ us hl => match us, hl with | [_, _], _ => rfl), F.ok sc__law_draw (fun vs H Q E h => ?_) (fun cdv A outer s H vs Q E hr h => ?_)⟩
  · obtain ⟨b, c, ns, n, rfl, _⟩ := h
    rfl
  obtain ⟨b, c, ns, n, rfl, ⟨i, x, y, z, hb, A⟩, h0, h1, k⟩ := h
  have i0 := A.i0
  have x0 := A.x0
  have y0 := A.y0
  have y1 := A.y1
  have fin : ∀ (r i' x' y' z' : Int), 0 ≤ r → r < n → 0 ≤ i' → 0 ≤ x' → 0 ≤ y' → y' < 2147483423 → Q (.int r) (upd H b (.lst (bagL c i' x' y' z'))) := fun r i' x' y' z' a1 a2 a3 a4 a5 a6 => k r _ a1 a2 (bag_end A a3 a4 a5 a6) ex_upd
  rw [← upd_self hb]
  refine ⟨_, (pss_cons (ps_asg (pe_op op_add (pe_ix ix_list (pv 0) pe_int (fun _ _ => rfl)) pe_int) (pg_sub (pv 0) pe_int set_list)) (pss_cons (ps_if (PW.pt (pw_and (pt_cmpR op_eq (pe_ix ix_list (pv 0) pe_int (fun _ _ => rfl)) pe_int (nomark _)) (pw_and1 (pt_cmpR op_lt (pe_ix ix_list (pv 0) pe_int (fun _ _ => rfl)) (pe_callB call_len (by rfl) T.len (by decide +kernel) (pa_cons (pe_ix ix_list (pv 0) pe_int (fun _ _ => rfl)) pa_nil)) (nomark _))))) (pss_cons (ps_set (i := 2) sc__law_draw.nd rfl (.inl rfl) (pe_callB call_abs (by rfl) T.abs (by decide +kernel) (pa_cons (pe_ix ix_list (pe_ix ix_list (pv 0) pe_int (fun _ _ => rfl)) (pe_ix ix_list (pv 0) pe_int (fun _ _ => rfl)) (fun _ _ => rfl)) pa_nil))) (pss_cons (ps_asg (pe_op op_add (pe_ix ix_list (pv 0) pe_int (fun _ _ => rfl)) pe_int) (pg_sub (pv 0) pe_int set_list)) (pss_one (ps_if (pt_cmpR op_ge (pv 2) (pe_op op_pow pe_int pe_int) (nomark _)) (pss_one (ps_asg (pv 2) (pg_sub (pv 0) pe_int set_list))) (pss_one (ps_asg (pe_op op_mod (pe_callTy call_int1 (by rfl) T.int (by decide +kernel) (pa_cons (pe_op op_add (pe_op op_add (pe_op op_mul (pe_ix ix_list (pv 0) pe_int (fun _ _ => rfl)) pe_int) (pe_op op_mul (pe_op op_mod (pe_callTy call_int1 (by rfl) T.int (by decide +kernel) (pa_cons (pv 2) pa_nil)) pe_int) pe_int)) pe_int) pa_nil)) pe_int) (pg_sub (pv 0) pe_int set_list))))))) pss_nil) (pss_cons (ps_if (pt_cmpR op_gt (pe_ix ix_list (pv 0) pe_int (fun _ _ => rfl)) pe_int (nomark _)) (pss_cons (ps_set (i := 3) sc__law_draw.nd rfl (.inl rfl) (pe_op op_mod (pe_callTy call_int1 (by rfl) T.int (by decide +kernel) (pa_cons (pe_ix ix_list (pv 0) pe_int (fun _ _ => rfl)) pa_nil)) (pv 1))) (pss_cons (ps_asg (pe_op op_fdiv (pe_ix ix_list (pv 0) pe_int (fun _ _ => rfl)) (pv 1)) (pg_sub (pv 0) pe_int set_list)) (pss_one (ps_ret (pv 3))))) pss_nil) (pss_cons (ps_set (i := 4) sc__law_draw.nd rfl (.inl rfl) (pe_ix ix_list (pv 0) pe_int (fun _ _ => rfl))) (pss_cons (ps_asg (pe_op op_mod (pe_callTy call_int1 (by rfl) T.int (by decide +kernel) (pa_cons (pe_op op_add (pe_op op_add (pe_op op_add (pe_op op_pow (pv 4) pe_int) (pe_op op_mul (pv 4) pe_int)) (pe_op op_mul (pe_ix ix_list (pv 0) pe_int (fun _ _ => rfl)) pe_int)) pe_int) pa_nil)) pe_int) (pg_sub (pv 0) pe_int set_list)) (pss_one (ps_ret (pe_op op_mod (pe_callTy call_int1 (by rfl) T.int (by decide +kernel) (pa_cons (pe_op op_add (pe_op op_fdiv (pe_ix ix_list (pv 0) pe_int (fun _ _ => rfl)) pe_int) (pe_op op_mul (pe_op op_mod (pe_callTy call_int1 (by rfl) T.int (by decide +kernel) (pa_cons (pe_ix ix_list (pv 0) pe_int (fun _ _ => rfl)) pa_nil)) pe_int) pe_int)) pa_nil)) (pv 1))))))))), ?_⟩
  with_reducible refine k_seq ?_
  refine k_seti (k := 4) (v_op0 (v_bag (k := 4) (val_var rfl) val_c rfl) val_c) (val_var rfl) val_c (by show 4 < 5; decide) (ys := bagL c (i) (x) (y) ((z + (1 : Int)))) rfl ?_
  with_reducible refine k_seq ?_
  with_reducible refine k_ifX ?_
  refine a_use (ans_and2 (a_test (v_eqI (v_bag (k := 2) (val_var rfl) val_c rfl) val_c)) (a_test (v_opB (v_bag (k := 1) (val_var rfl) val_c rfl) (v_lenL (v_bag (k := 0) (val_var rfl) val_c rfl) (sqL_upd A.ne A.cells))))) ?_
  refine k_ite (fun c1 => ?_) (fun c1 => ?_)
  · have hlt : i < ((ns.map V.int).length : Int) := by simp only [Bool.and_eq_true, decide_eq_true_eq] at c1; exact c1.2
    with_reducible refine k_seq ?_
    with_reducible refine k_set ?_
    refine k_val (v_abs (v_cell (v_bag (k := 0) (val_var rfl) val_c rfl) (v_bag (k := 1) (val_var rfl) val_c rfl) (sqL_upd A.ne A.cells) i0 hlt)) ?_
    with_reducible refine k_seq ?_
    refine k_seti (k := 1) (v_op0 (v_bag (k := 1) (val_var rfl) val_c rfl) val_c) (val_var rfl) val_c (by show 1 < 5; decide) (ys := bagL c ((i + (1 : Int))) (x) (y) ((z + (1 : Int)))) rfl ?_
    with_reducible refine k_ifX ?_
    with_reducible refine k_T ?_
    refine k_val (v_opB (val_var rfl) (v_op val_c val_c ⟨(by decide : (0 : Int) ≤ (18 : Int)), (by decide : (18 : Int) ≤ 1000000), (by decide : ((10 : Int)).natAbs < 2 ^ 64)⟩)) ?_
    refine ⟨_, rfl, ?_⟩
    refine k_ite (fun c2 => ?_) (fun c2 => ?_)
    · try simp only [decide_eq_true_eq, decide_eq_false_iff_not] at c2
      refine k_seti (k := 2) (val_var rfl) (val_var rfl) val_c (by show 2 < 5; decide) (ys := bagL c ((i + (1 : Int))) (((((ns.getD i.toNat 0)).natAbs : Nat) : Int)) (y) ((z + (1 : Int)))) rfl ?_
      with_reducible refine k_seq ?_
      with_reducible refine k_ifX ?_
      with_reducible refine k_T ?_
      refine k_val (v_opB (v_bag (k := 2) (val_var rfl) val_c rfl) val_c) ?_
      refine ⟨_, rfl, ?_⟩
      refine k_ite (fun c3 => ?_) (fun c3 => ?_)
      · try simp only [decide_eq_true_eq, decide_eq_false_iff_not] at c3
        with_reducible refine k_seq ?_
        with_reducible refine k_set ?_
        refine k_val (v_op (v_int (v_bag (k := 2) (val_var rfl) val_c rfl)) (val_var rfl) h0) ?_
        with_reducible refine k_seq ?_
        refine k_seti (k := 2) (v_op (v_bag (k := 2) (val_var rfl) val_c rfl) (val_var rfl) ⟨h0, h1⟩) (val_var rfl) val_c (by show 2 < 5; decide) (ys := bagL c ((i + (1 : Int))) ((((((ns.getD i.toNat 0)).natAbs : Nat) : Int) / n)) (y) ((z + (1 : Int)))) rfl ?_
        with_reducible refine k_ret ?_
        refine k_val (val_var rfl) ?_
        exact fin _ _ _ _ _ (by first | omega | exact Int.emod_nonneg _ (by omega)) (by first | omega | exact Int.emod_lt_of_pos _ h0) (by omega) (by first | omega | exact Int.ediv_nonneg (by omega) (by omega)) (by omega) (by omega)
      · try simp only [decide_eq_true_eq, decide_eq_false_iff_not] at c3
        with_reducible refine k_next ?_
        with_reducible refine k_seq ?_
        with_reducible refine k_set ?_
        refine k_val (v_bag (k := 3) (val_var rfl) val_c rfl) ?_
        with_reducible refine k_seq ?_
        refine k_seti (k := 3) (v_op (v_int (v_op0 (v_op0 (v_op0 (v_op (val_var rfl) val_c ⟨(by decide : (0 : Int) ≤ (3 : Int)), (by decide : (3 : Int) ≤ 1000000), (show (y).natAbs < 2 ^ 64 by omega)⟩) (v_op (val_var rfl) val_c (Or.inr (by decide : -(2 ^ 64) < (27617 : Int) ∧ (27617 : Int) < 2 ^ 64)))) (v_op (v_bag (k := 4) (val_var rfl) val_c rfl) val_c (Or.inr (by decide : -(2 ^ 64) < (1299721 : Int) ∧ (1299721 : Int) < 2 ^ 64)))) val_c)) val_c (by decide : (0 : Int) < (2147483423 : Int))) (val_var rfl) val_c (by show 3 < 5; decide) (ys := bagL c ((i + (1 : Int))) (((((ns.getD i.toNat 0)).natAbs : Nat) : Int)) ((((((y ^ ((3 : Int)).toNat) + (y * (27617 : Int))) + ((z + (1 : Int)) * (1299721 : Int))) + (52363 : Int)) % (2147483423 : Int))) ((z + (1 : Int)))) rfl ?_
        with_reducible refine k_ret ?_
        refine k_val (v_op (v_int (v_op0 (v_op (v_bag (k := 3) (val_var rfl) val_c rfl) val_c (by decide : (0 : Int) < (67 : Int) ∧ (67 : Int) < 1073741824)) (v_op (v_op (v_int (v_bag (k := 3) (val_var rfl) val_c rfl)) val_c (by decide : (0 : Int) < (7919 : Int))) val_c (Or.inr (by decide : -(2 ^ 64) < (53 : Int) ∧ (53 : Int) < 2 ^ 64))))) (val_var rfl) h0) ?_
        exact fin _ _ _ _ _ (by first | omega | exact Int.emod_nonneg _ (by omega)) (by first | omega | exact Int.emod_lt_of_pos _ h0) (by omega) (by first | omega | exact Int.ediv_nonneg (by omega) (by omega)) (by omega) (by omega)
    · try simp only [decide_eq_true_eq, decide_eq_false_iff_not] at c2
      refine k_seti (k := 3) (v_op (v_int (v_op0 (v_op0 (v_op (v_bag (k := 3) (val_var rfl) val_c rfl) val_c (Or.inr (by decide : -(2 ^ 64) < (40961 : Int) ∧ (40961 : Int) < 2 ^ 64))) (v_op (v_op (v_int (val_var rfl)) val_c (by decide : (0 : Int) < (2147483029 : Int))) val_c (Or.inr (by decide : -(2 ^ 64) < (773 : Int) ∧ (773 : Int) < 2 ^ 64)))) val_c)) val_c (by decide : (0 : Int) < (2147483423 : Int))) (val_var rfl) val_c (by show 3 < 5; decide) (ys := bagL c ((i + (1 : Int))) (x) (((((y * (40961 : Int)) + ((((((ns.getD i.toNat 0)).natAbs : Nat) : Int) % (2147483029 : Int)) * (773 : Int))) + (43 : Int)) % (2147483423 : Int))) ((z + (1 : Int)))) rfl ?_
      with_reducible refine k_seq ?_
      with_reducible refine k_ifX ?_
      with_reducible refine k_T ?_
      refine k_val (v_opB (v_bag (k := 2) (val_var rfl) val_c rfl) val_c) ?_
      refine ⟨_, rfl, ?_⟩
      refine k_ite (fun c4 => ?_) (fun c4 => ?_)
      · try simp only [decide_eq_true_eq, decide_eq_false_iff_not] at c4
        with_reducible refine k_seq ?_
        with_reducible refine k_set ?_
        refine k_val (v_op (v_int (v_bag (k := 2) (val_var rfl) val_c rfl)) (val_var rfl) h0) ?_
        with_reducible refine k_seq ?_
        refine k_seti (k := 2) (v_op (v_bag (k := 2) (val_var rfl) val_c rfl) (val_var rfl) ⟨h0, h1⟩) (val_var rfl) val_c (by show 2 < 5; decide) (ys := bagL c ((i + (1 : Int))) ((x / n)) (((((y * (40961 : Int)) + ((((((ns.getD i.toNat 0)).natAbs : Nat) : Int) % (2147483029 : Int)) * (773 : Int))) + (43 : Int)) % (2147483423 : Int))) ((z + (1 : Int)))) rfl ?_
        with_reducible refine k_ret ?_
        refine k_val (val_var rfl) ?_
        exact fin _ _ _ _ _ (by first | omega | exact Int.emod_nonneg _ (by omega)) (by first | omega | exact Int.emod_lt_of_pos _ h0) (by omega) (by first | omega | exact Int.ediv_nonneg (by omega) (by omega)) (by omega) (by omega)
      · try simp only [decide_eq_true_eq, decide_eq_false_iff_not] at c4
        with_reducible refine k_next ?_
        with_reducible refine k_seq ?_
        with_reducible refine k_set ?_
        refine k_val (v_bag (k := 3) (val_var rfl) val_c rfl) ?_
        with_reducible refine k_seq ?_
        refine k_seti (k := 3) (v_op (v_int (v_op0 (v_op0 (v_op0 (v_op (val_var rfl) val_c ⟨(by decide : (0 : Int) ≤ (3 : Int)), (by decide : (3 : Int) ≤ 1000000), (show (((((y * (40961 : Int)) + ((((((ns.getD i.toNat 0)).natAbs : Nat) : Int) % (2147483029 : Int)) * (773 : Int))) + (43 : Int)) % (2147483423 : Int))).natAbs < 2 ^ 64 by omega)⟩) (v_op (val_var rfl) val_c (Or.inr (by decide : -(2 ^ 64) < (27617 : Int) ∧ (27617 : Int) < 2 ^ 64)))) (v_op (v_bag (k := 4) (val_var rfl) val_c rfl) val_c (Or.inr (by decide : -(2 ^ 64) < (1299721 : Int) ∧ (1299721 : Int) < 2 ^ 64)))) val_c)) val_c (by decide : (0 : Int) < (2147483423 : Int))) (val_var rfl) val_c (by show 3 < 5; decide) (ys := bagL c ((i + (1 : Int))) (x) ((((((((((y * (40961 : Int)) + ((((((ns.getD i.toNat 0)).natAbs : Nat) : Int) % (2147483029 : Int)) * (773 : Int))) + (43 : Int)) % (2147483423 : Int)) ^ ((3 : Int)).toNat) + (((((y * (40961 : Int)) + ((((((ns.getD i.toNat 0)).natAbs : Nat) : Int) % (2147483029 : Int)) * (773 : Int))) + (43 : Int)) % (2147483423 : Int)) * (27617 : Int))) + ((z + (1 : Int)) * (1299721 : Int))) + (52363 : Int)) % (2147483423 : Int))) ((z + (1 : Int)))) rfl ?_
        with_reducible refine k_ret ?_
        refine k_val (v_op (v_int (v_op0 (v_op (v_bag (k := 3) (val_var rfl) val_c rfl) val_c (by decide : (0 : Int) < (67 : Int) ∧ (67 : Int) < 1073741824)) (v_op (v_op (v_int (v_bag (k := 3) (val_var rfl) val_c rfl)) val_c (by decide : (0 : Int) < (7919 : Int))) val_c (Or.inr (by decide : -(2 ^ 64) < (53 : Int) ∧ (53 : Int) < 2 ^ 64))))) (val_var rfl) h0) ?_
        exact fin _ _ _ _ _ (by first | omega | exact Int.emod_nonneg _ (by omega)) (by first | omega | exact Int.emod_lt_of_pos _ h0) (by omega) (by first | omega | exact Int.ediv_nonneg (by omega) (by omega)) (by omega) (by omega)
  · try simp only [decide_eq_true_eq, decide_eq_false_iff_not] at c1
    with_reducible refine k_next ?_
    with_reducible refine k_seq ?_
    with_reducible refine k_ifX ?_
    with_reducible refine k_T ?_
    refine k_val (v_opB (v_bag (k := 2) (val_var rfl) val_c rfl) val_c) ?_
    refine ⟨_, rfl, ?_⟩
    refine k_ite (fun c5 => ?_) (fun c5 => ?_)
    · try simp only [decide_eq_true_eq, decide_eq_false_iff_not] at c5
      with_reducible refine k_seq ?_
      with_reducible refine k_set ?_
      refine k_val (v_op (v_int (v_bag (k := 2) (val_var rfl) val_c rfl)) (val_var rfl) h0) ?_
      with_reducible refine k_seq ?_
      refine k_seti (k := 2) (v_op (v_bag (k := 2) (val_var rfl) val_c rfl) (val_var rfl) ⟨h0, h1⟩) (val_var rfl) val_c (by show 2 < 5; decide) (ys := bagL c (i) ((x / n)) (y) ((z + (1 : Int)))) rfl ?_
      with_reducible refine k_ret ?_
      refine k_val (val_var rfl) ?_
      exact fin _ _ _ _ _ (by first | omega | exact Int.emod_nonneg _ (by omega)) (by first | omega | exact Int.emod_lt_of_pos _ h0) (by omega) (by first | omega | exact Int.ediv_nonneg (by omega) (by omega)) (by omega) (by omega)
    · try simp only [decide_eq_true_eq, decide_eq_false_iff_not] at c5
      with_reducible refine k_next ?_
      with_reducible refine k_seq ?_
      with_reducible refine k_set ?_
      refine k_val (v_bag (k := 3) (val_var rfl) val_c rfl) ?_
      with_reducible refine k_seq ?_
      refine k_seti (k := 3) (v_op (v_int (v_op0 (v_op0 (v_op0 (v_op (val_var rfl) val_c ⟨(by decide : (0 : Int) ≤ (3 : Int)), (by decide : (3 : Int) ≤ 1000000), (show (y).natAbs < 2 ^ 64 by omega)⟩) (v_op (val_var rfl) val_c (Or.inr (by decide : -(2 ^ 64) < (27617 : Int) ∧ (27617 : Int) < 2 ^ 64)))) (v_op (v_bag (k := 4) (val_var rfl) val_c rfl) val_c (Or.inr (by decide : -(2 ^ 64) < (1299721 : Int) ∧ (1299721 : Int) < 2 ^ 64)))) val_c)) val_c (by decide : (0 : Int) < (2147483423 : Int))) (val_var rfl) val_c (by show 3 < 5; decide) (ys := bagL c (i) (x) ((((((y ^ ((3 : Int)).toNat) + (y * (27617 : Int))) + ((z + (1 : Int)) * (1299721 : Int))) + (52363 : Int)) % (2147483423 : Int))) ((z + (1 : Int)))) rfl ?_
      with_reducible refine k_ret ?_
      refine k_val (v_op (v_int (v_op0 (v_op (v_bag (k := 3) (val_var rfl) val_c rfl) val_c (by decide : (0 : Int) < (67 : Int) ∧ (67 : Int) < 1073741824)) (v_op (v_op (v_int (v_bag (k := 3) (val_var rfl) val_c rfl)) val_c (by decide : (0 : Int) < (7919 : Int))) val_c (Or.inr (by decide : -(2 ^ 64) < (53 : Int) ∧ (53 : Int) < 2 ^ 64))))) (val_var rfl) h0) ?_
      exact fin _ _ _ _ _ (by first | omega | exact Int.emod_nonneg _ (by omega)) (by first | omega | exact Int.emod_lt_of_pos _ h0) (by omega) (by first | omega | exact Int.ediv_nonneg (by omega) (by omega)) (by omega) (by omega)
theorem fnok_cx {CX : CXT} {k : Nat} {f : Addr} {fd : FuncData} {ps : List Str} {sp : Sp} (F : FnOk P w K mg base CX0 k f fd ps sp) : FnOk P w K mg base CX k f fd ps sp :=
  ⟨F.len, fun A outer s H args us vs Q E hr e0 hb r h => codeAny_mono (F.run A outer s H args us vs Q E hr e0 hb r h) fun res s' hq => by
    cases res with
    | error _ => exact False.elim hq
    | ok fl =>
      cases fl with
      | ret _ => exact hq
      | next | brk | cont => exact False.elim hq⟩
end
end Px
set_option maxHeartbeats 2000000
namespace Dw
open PySem PySem.Spec PyProof.Rows L2
section
variable {P : Program} {w : World} {K : PySem.W.Frag} {mg : Str → Option Value} {base : Heap} {tb : List (Addr × Str)}
theorem kb_Flat_moved_1_motion {K : PySem.W.Frag} {f : Addr} {fd : FuncData} (F : Fun K "moved" "Flat.moved" s_Flat_moved f fd) : KBn K fd ["self", "motion"] 1 ["motion"] (Px.permU [0, 1]) (Px.permV [0, 1]) := by
  obtain ⟨oc, od, kV, doc, pm, an, cdv, ct, osl, rfl, _, _⟩ := F.ex
  exact Px.kbn_of [0, 1] fun us ws l1 l2 => match us, l1, ws, l2 with | [_], _, [_], _ => rfl
def u__law_bag (K : PySem.W.Frag) : DS :=
  (dSeq (dSet 1 (dCall gList [(dSl (dVar 0) dNoPart (dPart (dPure (.int 63))))])) (dRet (dBag [(dVar 1), (dPure (.int 0)), (dPure (.int 0)), (dOp oAdd (dPure (.int 12036)) (dOp oMul (dPure (.int 37)) (dCall gLen [(dVar 1)]))), (dPure (.int 0))])))
@[irreducible] def f__law_bag (K : PySem.W.Frag) : List D → W D := dDef 2 (u__law_bag K)
theorem ok__law_bag (Y : Tx P w K mg base tb) : ∃ f fd, Fun K "_law_bag" "_law_bag" s__law_bag f fd ∧ DefOk P w K mg base tb "_law_bag" ["_law_script"] 1 (f__law_bag K) f fd := by
  unfold f__law_bag
  obtain ⟨a, b, F, M⟩ := Y.d__law_bag
  exact ⟨a, b, F, ⟨M, F.kp, (F.binds (ps := ["_law_script"]) (fun _ _ _ _ _ _ us hl => match us, hl with | [_], _ => rfl)), fun_okD (tb := tb) (k := 0) F sc__law_bag (hb := fun T cdv A outer s H E hT hr => (ds_cons (ds_set (i := 1) sc__law_bag.nd rfl (.inl rfl) (de_callTy cb_list Y.b_list (da_cons' (de_sl (de_var 0) do_none (do_some de_int)) da_nil'))) (ds_one (ds_ret (de_bag (da_cons' (de_var 1) (da_cons' de_int (da_cons' de_int (da_cons' (de_op or_add de_int (de_op or_mul de_int (de_callB cb_len Y.b_len (da_cons' (de_var 1) da_nil')))) (da_cons' de_int da_nil'))))))))))⟩⟩
def u__law_common (K : PySem.W.Frag) : DS :=
  (dSeq (dPar [2, 3] [(dCall gAbs [(dVar 0)]), (dCall gAbs [(dVar 1)])]) (dSeq (dWhile (dtVal (dOp oGt (dVar 3) (dPure (.int 0)))) (dPar [2, 3] [(dVar 3), (dOp oMod (dCall gInt [(dVar 2)]) (dVar 3))])) (dRet (dVar 2))))
@[irreducible] def f__law_common (K : PySem.W.Frag) : List D → W D := dDef 4 (u__law_common K)
theorem ok__law_common (Y : Tx P w K mg base tb) : ∃ f fd, Fun K "_law_common" "_law_common" s__law_common f fd ∧ DefOk P w K mg base tb "_law_common" ["_law_p", "_law_q"] 1 (f__law_common K) f fd := by
  unfold f__law_common
  obtain ⟨a, b, F, M⟩ := Y.d__law_common
  exact ⟨a, b, F, ⟨M, F.kp, (F.binds (ps := ["_law_p", "_law_q"]) (fun _ _ _ _ _ _ us hl => match us, hl with | [_, _], _ => rfl)), fun_okD (tb := tb) (k := 0) F sc__law_common (hb := fun T cdv A outer s H E hT hr => (ds_cons (ds_par (ps_par (i := 2) (j := 3) (by rfl) sc__law_common.nd rfl rfl (by decide) rfl rfl (da_cons' (de_callB cb_abs Y.b_abs (da_cons' (de_var 0) da_nil')) (da_cons' (de_callB cb_abs Y.b_abs (da_cons' (de_var 1) da_nil')) da_nil')) (by rfl))) (ds_cons (ds_while (passes_of rfl) (dt_cmp or_gt (de_var 3) de_int) (ds_one (ds_par (ps_par (i := 2) (j := 3) (by rfl) sc__law_common.nd rfl rfl (by decide) rfl rfl (da_cons' (de_var 3) (da_cons' (de_op or_mod (de_callTy cb_int Y.b_int (da_cons' (de_var 2) da_nil')) (de_var 3)) da_nil')) (by rfl))))) (ds_one (ds_ret (de_var 2))))))⟩⟩
def u__law_low (K : PySem.W.Frag) : DS :=
  (dSeq (dSet 2 (dCall (f__law_common K) [(dVar 0), (dVar 1)])) (dSeq (dIfS (dtVal (dOp oLt (dVar 1) (dPure (.int 0)))) (dSet 2 (dOp oSub (dPure (.int 0)) (dVar 2))) dNext) (dRet (dTup [(dOp oDiv (dVar 0) (dVar 2)), (dOp oDiv (dVar 1) (dVar 2))]))))
@[irreducible] def f__law_low (K : PySem.W.Frag) : List D → W D := dDef 3 (u__law_low K)
theorem ok__law_low (Y : Tx P w K mg base tb) : ∃ f fd, Fun K "_law_low" "_law_low" s__law_low f fd ∧ DefOk P w K mg base tb "_law_low" ["_law_p", "_law_q"] 2 (f__law_low K) f fd := by
  unfold f__law_low
  obtain ⟨a, b, F, M⟩ := Y.d__law_low
  obtain ⟨a__law_common, d__law_common, U__law_common, F__law_common⟩ := ok__law_common (P := P) (w := w) (base := base) (tb := tb) Y
  exact ⟨a, b, F, ⟨M, F.kp, (F.binds (ps := ["_law_p", "_law_q"]) (fun _ _ _ _ _ _ us hl => match us, hl with | [_, _], _ => rfl)), fun_okD (tb := tb) (k := 1) F sc__law_low (hb := fun T cdv A outer s H E hT hr => (ds_cons (ds_set (i := 2) sc__law_low.nd rfl (.inl rfl) (de_call F__law_common hT hr pass_own (da_cons' (de_var 0) (da_cons' (de_var 1) da_nil')))) (ds_cons (ds_if (dt_cmp or_lt (de_var 1) de_int) (ds_one (ds_set (i := 2) sc__law_low.nd rfl (.inl rfl) (de_op or_sub de_int (de_var 2)))) ds_nil) (ds_one (ds_ret (de_tup (da_cons' (de_op or_div (de_var 0) (de_var 2)) (da_cons' (de_op or_div (de_var 1) (de_var 2)) da_nil'))))))))⟩⟩
@[irreducible] def f__law_draw (K : PySem.W.Frag) : List D → W D := gDraw
theorem ok__law_draw (Y : Tx P w K mg base tb) : ∃ f fd, Fun K "_law_draw" "_law_draw" s__law_draw f fd ∧ DefOk P w K mg base tb "_law_draw" ["_law_bag_here", "_law_many"] 1 (f__law_draw K) f fd := by
  have T : Px.Tx K mg := ⟨Y.b_len, Y.b_abs, Y.b_int, Y.d__law_draw⟩
  obtain ⟨f, fd, F, M, B, G⟩ := Px.has__law_draw (P := P) (w := w) (base := base) T
  refine ⟨f, fd, F, M, F.kp, B, (Px.fnok_cx G).imp fun vs H Q E q => ?_⟩
  obtain ⟨T, ds, S, post, xp, et, l, r, k, h, qq, x⟩ := q
  unfold f__law_draw gDraw at h
  split at h
  · rename_i b n
    obtain ⟨⟨c, ns, e⟩, n0, n1, h⟩ := h
    obtain ⟨v, v2, rfl, r1, r2⟩ := two_of r
    obtain rfl := val_of r1
    obtain rfl := int_of r2
    obtain ⟨i, x', y, z, e1, A, hc, nc⟩ := k.cel b _ e
    refine ⟨b, c, ns, n, rfl, ⟨i, x', y, z, e1, A.ne, A.cells, A.i0, A.x0, A.y0, A.y1⟩, n0, n1, fun rr H' r0 r1' hb ex => ?_⟩
    obtain ⟨i2, x2, y2, z2, e2, A2⟩ := hb
    obtain ⟨k', st⟩ := draw_ok k e ⟨i2, x2, y2, z2, e2, A2.ne, A2.cells, A2.i0, A2.x0, A2.y0, A2.y1⟩ fun a u hu hne => ex a u hu hne
    exact qq _ _ _ _ (h rr r0 r1') (rint _) k' st
  · exact h.elim
def u__law_pick (K : PySem.W.Frag) : DS :=
  (dRet (dOp oIx (dVar 1) (dCall (f__law_draw K) [(dVar 0), (dCall gLen [(dVar 1)])])))
@[irreducible] def f__law_pick (K : PySem.W.Frag) : List D → W D := dDef 2 (u__law_pick K)
theorem ok__law_pick (Y : Tx P w K mg base tb) : ∃ f fd, Fun K "_law_pick" "_law_pick" s__law_pick f fd ∧ DefOk P w K mg base tb "_law_pick" ["_law_bag_here", "_law_some"] 2 (f__law_pick K) f fd := by
  unfold f__law_pick
  obtain ⟨a, b, F, M⟩ := Y.d__law_pick
  obtain ⟨a__law_draw, d__law_draw, U__law_draw, F__law_draw⟩ := ok__law_draw (P := P) (w := w) (base := base) (tb := tb) Y
  exact ⟨a, b, F, ⟨M, F.kp, (F.binds (ps := ["_law_bag_here", "_law_some"]) (fun _ _ _ _ _ _ us hl => match us, hl with | [_, _], _ => rfl)), fun_okD (tb := tb) (k := 1) F sc__law_pick (hb := fun T cdv A outer s H E hT hr => (ds_one (ds_ret (de_ix or_ix (de_var 1) (de_call F__law_draw hT hr pass_own (da_cons' (de_var 0) (da_cons' (de_callB cb_len Y.b_len (da_cons' (de_var 1) da_nil')) da_nil')))))))⟩⟩
def u__law_small (K : PySem.W.Frag) : DS :=
  (dRet (dCall (f__law_low K) [(dOp oSub (dCall (f__law_draw K) [(dVar 0), (dPure (.int 9))]) (dPure (.int 4))), (dCall (f__law_pick K) [(dVar 0), (dLst [(dPure (.int 1)), (dPure (.int 1)), (dPure (.int 1)), (dPure (.int 1)), (dPure (.int 2)), (dPure (.int 3))])])]))
@[irreducible] def f__law_small (K : PySem.W.Frag) : List D → W D := dDef 1 (u__law_small K)
theorem ok__law_small (Y : Tx P w K mg base tb) : ∃ f fd, Fun K "_law_small" "_law_small" s__law_small f fd ∧ DefOk P w K mg base tb "_law_small" ["_law_bag_here"] 3 (f__law_small K) f fd := by
  unfold f__law_small
  obtain ⟨a, b, F, M⟩ := Y.d__law_small
  obtain ⟨a__law_low, d__law_low, U__law_low, F__law_low⟩ := ok__law_low (P := P) (w := w) (base := base) (tb := tb) Y
  obtain ⟨a__law_draw, d__law_draw, U__law_draw, F__law_draw⟩ := ok__law_draw (P := P) (w := w) (base := base) (tb := tb) Y
  obtain ⟨a__law_pick, d__law_pick, U__law_pick, F__law_pick⟩ := ok__law_pick (P := P) (w := w) (base := base) (tb := tb) Y
  exact ⟨a, b, F, ⟨M, F.kp, (F.binds (ps := ["_law_bag_here"]) (fun _ _ _ _ _ _ us hl => match us, hl with | [_], _ => rfl)), fun_okD (tb := tb) (k := 2) F sc__law_small (hb := fun T cdv A outer s H E hT hr => (ds_one (ds_ret (de_call F__law_low hT hr pass_own (da_cons' (de_op or_sub (de_call F__law_draw hT hr pass_own (da_cons' (de_var 0) (da_cons' de_int da_nil'))) de_int) (da_cons' (de_call F__law_pick hT hr pass_own (da_cons' (de_var 0) (da_cons' (de_lst (da_cons' de_int (da_cons' de_int (da_cons' de_int (da_cons' de_int (da_cons' de_int (da_cons' de_int da_nil'))))))) da_nil'))) da_nil'))))))⟩⟩
def u__law_near (K : PySem.W.Frag) : DS :=
  (dRet (dTup [(dCall (f__law_small K) [(dVar 0)]), (dCall (f__law_small K) [(dVar 0)])]))
@[irreducible] def f__law_near (K : PySem.W.Frag) : List D → W D := dDef 1 (u__law_near K)
theorem ok__law_near (Y : Tx P w K mg base tb) : ∃ f fd, Fun K "_law_near" "_law_near" s__law_near f fd ∧ DefOk P w K mg base tb "_law_near" ["_law_bag_here"] 4 (f__law_near K) f fd := by
  unfold f__law_near
  obtain ⟨a, b, F, M⟩ := Y.d__law_near
  obtain ⟨a__law_small, d__law_small, U__law_small, F__law_small⟩ := ok__law_small (P := P) (w := w) (base := base) (tb := tb) Y
  exact ⟨a, b, F, ⟨M, F.kp, (F.binds (ps := ["_law_bag_here"]) (fun _ _ _ _ _ _ us hl => match us, hl with | [_], _ => rfl)), fun_okD (tb := tb) (k := 3) F sc__law_near (hb := fun T cdv A outer s H E hT hr => (ds_one (ds_ret (de_tup (da_cons' (de_call F__law_small hT hr pass_own (da_cons' (de_var 0) da_nil')) (da_cons' (de_call F__law_small hT hr pass_own (da_cons' (de_var 0) da_nil')) da_nil'))))))⟩⟩
def u__law_fraction (K : PySem.W.Frag) : DS :=
  (dSeq (dSet 1 (dCall (f__law_pick K) [(dVar 0), (dLst [(dPure (.int 1)), (dPure (.int 2)), (dPure (.int 3)), (dPure (.int 5)), (dPure (.int 9)), (dPure (.int 30)), (dPure (.int 999999))])])) (dSeq (dSet 2 (dOp oSub (dCall (f__law_draw K) [(dVar 0), (dOp oAdd (dOp oMul (dPure (.int 2)) (dVar 1)) (dPure (.int 1)))]) (dVar 1))) (dRet (dCall (f__law_low K) [(dVar 2), (dOp oAdd (dPure (.int 1)) (dCall (f__law_draw K) [(dVar 0), (dCall (f__law_pick K) [(dVar 0), (dLst [(dPure (.int 1)), (dPure (.int 1)), (dPure (.int 1)), (dPure (.int 2)), (dPure (.int 3)), (dVar 1)])])]))]))))
@[irreducible] def f__law_fraction (K : PySem.W.Frag) : List D → W D := dDef 3 (u__law_fraction K)
theorem ok__law_fraction (Y : Tx P w K mg base tb) : ∃ f fd, Fun K "_law_fraction" "_law_fraction" s__law_fraction f fd ∧ DefOk P w K mg base tb "_law_fraction" ["_law_bag_here"] 3 (f__law_fraction K) f fd := by
  unfold f__law_fraction
  obtain ⟨a, b, F, M⟩ := Y.d__law_fraction
  obtain ⟨a__law_pick, d__law_pick, U__law_pick, F__law_pick⟩ := ok__law_pick (P := P) (w := w) (base := base) (tb := tb) Y
  obtain ⟨a__law_draw, d__law_draw, U__law_draw, F__law_draw⟩ := ok__law_draw (P := P) (w := w) (base := base) (tb := tb) Y
  obtain ⟨a__law_low, d__law_low, U__law_low, F__law_low⟩ := ok__law_low (P := P) (w := w) (base := base) (tb := tb) Y
  exact ⟨a, b, F, ⟨M, F.kp, (F.binds (ps := ["_law_bag_here"]) (fun _ _ _ _ _ _ us hl => match us, hl with | [_], _ => rfl)), fun_okD (tb := tb) (k := 2) F sc__law_fraction (hb := fun T cdv A outer s H E hT hr => (ds_cons (ds_set (i := 1) sc__law_fraction.nd rfl (.inl rfl) (de_call F__law_pick hT hr pass_own (da_cons' (de_var 0) (da_cons' (de_lst (da_cons' de_int (da_cons' de_int (da_cons' de_int (da_cons' de_int (da_cons' de_int (da_cons' de_int (da_cons' de_int da_nil')))))))) da_nil')))) (ds_cons (ds_set (i := 2) sc__law_fraction.nd rfl (.inl rfl) (de_op or_sub (de_call F__law_draw hT hr pass_own (da_cons' (de_var 0) (da_cons' (de_op or_add (de_op or_mul de_int (de_var 1)) de_int) da_nil'))) (de_var 1))) (ds_one (ds_ret (de_call F__law_low hT hr pass_own (da_cons' (de_var 2) (da_cons' (de_op or_add de_int (de_call F__law_draw hT hr pass_own (da_cons' (de_var 0) (da_cons' (de_call F__law_pick hT hr pass_own (da_cons' (de_var 0) (da_cons' (de_lst (da_cons' de_int (da_cons' de_int (da_cons' de_int (da_cons' de_int (da_cons' de_int (da_cons' (de_var 1) da_nil'))))))) da_nil'))) da_nil')))) da_nil'))))))))⟩⟩
def u__law_spot (K : PySem.W.Frag) : DS :=
  (dRet (dTup [(dCall (f__law_fraction K) [(dVar 0)]), (dCall (f__law_fraction K) [(dVar 0)])]))
@[irreducible] def f__law_spot (K : PySem.W.Frag) : List D → W D := dDef 1 (u__law_spot K)
theorem ok__law_spot (Y : Tx P w K mg base tb) : ∃ f fd, Fun K "_law_spot" "_law_spot" s__law_spot f fd ∧ DefOk P w K mg base tb "_law_spot" ["_law_bag_here"] 4 (f__law_spot K) f fd := by
  unfold f__law_spot
  obtain ⟨a, b, F, M⟩ := Y.d__law_spot
  obtain ⟨a__law_fraction, d__law_fraction, U__law_fraction, F__law_fraction⟩ := ok__law_fraction (P := P) (w := w) (base := base) (tb := tb) Y
  exact ⟨a, b, F, ⟨M, F.kp, (F.binds (ps := ["_law_bag_here"]) (fun _ _ _ _ _ _ us hl => match us, hl with | [_], _ => rfl)), fun_okD (tb := tb) (k := 3) F sc__law_spot (hb := fun T cdv A outer s H E hT hr => (ds_one (ds_ret (de_tup (da_cons' (de_call F__law_fraction hT hr pass_own (da_cons' (de_var 0) da_nil')) (da_cons' (de_call F__law_fraction hT hr pass_own (da_cons' (de_var 0) da_nil')) da_nil'))))))⟩⟩
def u__law_sum (K : PySem.W.Frag) : DS :=
  (dRet (dCall (f__law_low K) [(dOp oAdd (dOp oMul (dOp oIx (dVar 0) (dPure (.int 0))) (dOp oIx (dVar 1) (dPure (.int 1)))) (dOp oMul (dOp oIx (dVar 1) (dPure (.int 0))) (dOp oIx (dVar 0) (dPure (.int 1))))), (dOp oMul (dOp oIx (dVar 0) (dPure (.int 1))) (dOp oIx (dVar 1) (dPure (.int 1))))]))
@[irreducible] def f__law_sum (K : PySem.W.Frag) : List D → W D := dDef 2 (u__law_sum K)
theorem ok__law_sum (Y : Tx P w K mg base tb) : ∃ f fd, Fun K "_law_sum" "_law_sum" s__law_sum f fd ∧ DefOk P w K mg base tb "_law_sum" ["_law_x", "_law_y"] 3 (f__law_sum K) f fd := by
  unfold f__law_sum
  obtain ⟨a, b, F, M⟩ := Y.d__law_sum
  obtain ⟨a__law_low, d__law_low, U__law_low, F__law_low⟩ := ok__law_low (P := P) (w := w) (base := base) (tb := tb) Y
  exact ⟨a, b, F, ⟨M, F.kp, (F.binds (ps := ["_law_x", "_law_y"]) (fun _ _ _ _ _ _ us hl => match us, hl with | [_, _], _ => rfl)), fun_okD (tb := tb) (k := 2) F sc__law_sum (hb := fun T cdv A outer s H E hT hr => (ds_one (ds_ret (de_call F__law_low hT hr pass_own (da_cons' (de_op or_add (de_op or_mul (de_ix or_ix (de_var 0) de_int) (de_ix or_ix (de_var 1) de_int)) (de_op or_mul (de_ix or_ix (de_var 1) de_int) (de_ix or_ix (de_var 0) de_int))) (da_cons' (de_op or_mul (de_ix or_ix (de_var 0) de_int) (de_ix or_ix (de_var 1) de_int)) da_nil'))))))⟩⟩
def u__law_moved (K : PySem.W.Frag) : DS :=
  (dRet (dTup [(dCall (f__law_sum K) [(dOp oIx (dVar 0) (dPure (.int 0))), (dOp oIx (dVar 1) (dPure (.int 0)))]), (dCall (f__law_sum K) [(dOp oIx (dVar 0) (dPure (.int 1))), (dOp oIx (dVar 1) (dPure (.int 1)))])]))
@[irreducible] def f__law_moved (K : PySem.W.Frag) : List D → W D := dDef 2 (u__law_moved K)
theorem ok__law_moved (Y : Tx P w K mg base tb) : ∃ f fd, Fun K "_law_moved" "_law_moved" s__law_moved f fd ∧ DefOk P w K mg base tb "_law_moved" ["_law_p", "_law_v"] 4 (f__law_moved K) f fd := by
  unfold f__law_moved
  obtain ⟨a, b, F, M⟩ := Y.d__law_moved
  obtain ⟨a__law_sum, d__law_sum, U__law_sum, F__law_sum⟩ := ok__law_sum (P := P) (w := w) (base := base) (tb := tb) Y
  exact ⟨a, b, F, ⟨M, F.kp, (F.binds (ps := ["_law_p", "_law_v"]) (fun _ _ _ _ _ _ us hl => match us, hl with | [_, _], _ => rfl)), fun_okD (tb := tb) (k := 3) F sc__law_moved (hb := fun T cdv A outer s H E hT hr => (ds_one (ds_ret (de_tup (da_cons' (de_call F__law_sum hT hr pass_own (da_cons' (de_ix or_ix (de_var 0) de_int) (da_cons' (de_ix or_ix (de_var 1) de_int) da_nil'))) (da_cons' (de_call F__law_sum hT hr pass_own (da_cons' (de_ix or_ix (de_var 0) de_int) (da_cons' (de_ix or_ix (de_var 1) de_int) da_nil'))) da_nil'))))))⟩⟩
def u__law_product (K : PySem.W.Frag) : DS :=
  (dRet (dCall (f__law_low K) [(dOp oMul (dOp oIx (dVar 0) (dPure (.int 0))) (dOp oIx (dVar 1) (dPure (.int 0)))), (dOp oMul (dOp oIx (dVar 0) (dPure (.int 1))) (dOp oIx (dVar 1) (dPure (.int 1))))]))
@[irreducible] def f__law_product (K : PySem.W.Frag) : List D → W D := dDef 2 (u__law_product K)
theorem ok__law_product (Y : Tx P w K mg base tb) : ∃ f fd, Fun K "_law_product" "_law_product" s__law_product f fd ∧ DefOk P w K mg base tb "_law_product" ["_law_x", "_law_y"] 3 (f__law_product K) f fd := by
  unfold f__law_product
  obtain ⟨a, b, F, M⟩ := Y.d__law_product
  obtain ⟨a__law_low, d__law_low, U__law_low, F__law_low⟩ := ok__law_low (P := P) (w := w) (base := base) (tb := tb) Y
  exact ⟨a, b, F, ⟨M, F.kp, (F.binds (ps := ["_law_x", "_law_y"]) (fun _ _ _ _ _ _ us hl => match us, hl with | [_, _], _ => rfl)), fun_okD (tb := tb) (k := 2) F sc__law_product (hb := fun T cdv A outer s H E hT hr => (ds_one (ds_ret (de_call F__law_low hT hr pass_own (da_cons' (de_op or_mul (de_ix or_ix (de_var 0) de_int) (de_ix or_ix (de_var 1) de_int)) (da_cons' (de_op or_mul (de_ix or_ix (de_var 0) de_int) (de_ix or_ix (de_var 1) de_int)) da_nil'))))))⟩⟩
def u__law_long (K : PySem.W.Frag) : DS :=
  (dRet (dTup [(dCall (f__law_product K) [(dOp oIx (dVar 0) (dPure (.int 0))), (dVar 1)]), (dCall (f__law_product K) [(dOp oIx (dVar 0) (dPure (.int 1))), (dVar 1)])]))
@[irreducible] def f__law_long (K : PySem.W.Frag) : List D → W D := dDef 2 (u__law_long K)
theorem ok__law_long (Y : Tx P w K mg base tb) : ∃ f fd, Fun K "_law_long" "_law_long" s__law_long f fd ∧ DefOk P w K mg base tb "_law_long" ["_law_v", "_law_w"] 4 (f__law_long K) f fd := by
  unfold f__law_long
  obtain ⟨a, b, F, M⟩ := Y.d__law_long
  obtain ⟨a__law_product, d__law_product, U__law_product, F__law_product⟩ := ok__law_product (P := P) (w := w) (base := base) (tb := tb) Y
  exact ⟨a, b, F, ⟨M, F.kp, (F.binds (ps := ["_law_v", "_law_w"]) (fun _ _ _ _ _ _ us hl => match us, hl with | [_, _], _ => rfl)), fun_okD (tb := tb) (k := 3) F sc__law_long (hb := fun T cdv A outer s H E hT hr => (ds_one (ds_ret (de_tup (da_cons' (de_call F__law_product hT hr pass_own (da_cons' (de_ix or_ix (de_var 0) de_int) (da_cons' (de_var 1) da_nil'))) (da_cons' (de_call F__law_product hT hr pass_own (da_cons' (de_ix or_ix (de_var 0) de_int) (da_cons' (de_var 1) da_nil'))) da_nil'))))))⟩⟩
def u__law_cloud (K : PySem.W.Frag) : DS :=
  (dSeq (dUnp [2, 3, 4, 5] (dTup [(dCall (f__law_near K) [(dVar 0)]), (dCall (f__law_near K) [(dVar 0)]), (dCall (f__law_draw K) [(dVar 0), (dPure (.int 4))]), (dLstM [])])) (dSeq (dIfS (dtVal (dOp oEqV (dCall (f__law_draw K) [(dVar 0), (dPure (.int 8))]) (dPure (.int 0)))) (dSet 2 (dCall (f__law_spot K) [(dVar 0)])) dNext) (dSeq (dSeq (dFor (.nm 6) (cRng [(dVar 1)]) (dIfS (dtAnd (dtVal (dOp oNeV (dVar 5) (dLst []))) (dtVal (dOp oEqV (dCall (f__law_draw K) [(dVar 0), (dPure (.int 5))]) (dPure (.int 0))))) (dExpr (dBm isL gAppend (dVar 5) [(dCall (f__law_pick K) [(dVar 0), (dVar 5)])])) (dIfS (dtVal (dOp oLt (dVar 4) (dPure (.int 2)))) (dExpr (dBm isL gAppend (dVar 5) [(dCall (f__law_moved K) [(dVar 2), (dCall (f__law_long K) [(dVar 3), (dCall (f__law_small K) [(dVar 0)])])])])) (dExpr (dBm isL gAppend (dVar 5) [(dCall (f__law_pick K) [(dVar 0), (dLst [(dVar 2), (dCall (f__law_near K) [(dVar 0)]), (dCall (f__law_moved K) [(dVar 2), (dCall (f__law_near K) [(dVar 0)])])])])]))))) (dFrz 5)) (dRet (dVar 5)))))
@[irreducible] def f__law_cloud (K : PySem.W.Frag) : List D → W D := dDef 7 (u__law_cloud K)
theorem ok__law_cloud (Y : Tx P w K mg base tb) : ∃ f fd, Fun K "_law_cloud" "_law_cloud" s__law_cloud f fd ∧ DefOk P w K mg base tb "_law_cloud" ["_law_bag_here", "_law_many"] 5 (f__law_cloud K) f fd := by
  unfold f__law_cloud
  obtain ⟨a, b, F, M⟩ := Y.d__law_cloud
  obtain ⟨a__law_near, d__law_near, U__law_near, F__law_near⟩ := ok__law_near (P := P) (w := w) (base := base) (tb := tb) Y
  obtain ⟨a__law_draw, d__law_draw, U__law_draw, F__law_draw⟩ := ok__law_draw (P := P) (w := w) (base := base) (tb := tb) Y
  obtain ⟨a__law_spot, d__law_spot, U__law_spot, F__law_spot⟩ := ok__law_spot (P := P) (w := w) (base := base) (tb := tb) Y
  obtain ⟨a__law_pick, d__law_pick, U__law_pick, F__law_pick⟩ := ok__law_pick (P := P) (w := w) (base := base) (tb := tb) Y
  obtain ⟨a__law_moved, d__law_moved, U__law_moved, F__law_moved⟩ := ok__law_moved (P := P) (w := w) (base := base) (tb := tb) Y
  obtain ⟨a__law_long, d__law_long, U__law_long, F__law_long⟩ := ok__law_long (P := P) (w := w) (base := base) (tb := tb) Y
  obtain ⟨a__law_small, d__law_small, U__law_small, F__law_small⟩ := ok__law_small (P := P) (w := w) (base := base) (tb := tb) Y
  exact ⟨a, b, F, ⟨M, F.kp, (F.binds (ps := ["_law_bag_here", "_law_many"]) (fun _ _ _ _ _ _ us hl => match us, hl with | [_, _], _ => rfl)), fun_okD (tb := tb) (k := 4) F sc__law_cloud (hb := fun T cdv A outer s H E hT hr => (ds_cons (ds_unp (is := [2, 3, 4, 5]) (n := 4) (ps_asg (de_tup (da_cons' (de_call F__law_near hT hr pass_own (da_cons' (de_var 0) da_nil')) (da_cons' (de_call F__law_near hT hr pass_own (da_cons' (de_var 0) da_nil')) (da_cons' (de_call F__law_draw hT hr pass_own (da_cons' (de_var 0) (da_cons' de_int da_nil'))) (da_cons' (de_lstM da_nil') da_nil'))))) (pg_tup rfl (pgs_cons (pg_name (i := 2) sc__law_cloud.nd rfl (.inl rfl)) (pgs_cons (pg_name (i := 3) sc__law_cloud.nd rfl (.inl rfl)) (pgs_cons (pg_name (i := 4) sc__law_cloud.nd rfl (.inl rfl)) (pgs_cons (pg_name (i := 5) sc__law_cloud.nd rfl (.inl rfl)) pgs_nil))))))) (ds_cons (ds_if (dt_cmp (or_eqV hr.units) (de_call F__law_draw hT hr pass_own (da_cons' (de_var 0) (da_cons' de_int da_nil'))) de_int) (ds_one (ds_set (i := 2) sc__law_cloud.nd rfl (.inl rfl) (de_call F__law_spot hT hr pass_own (da_cons' (de_var 0) da_nil')))) ds_nil) (ds_cons (ds_frz (i := 5) (ds_for (passes_of rfl) (ci_rng Y.b_range (da_cons' (de_var 1) da_nil')) (pg_name (i := 6) sc__law_cloud.nd rfl (.inl rfl)) (ds_one (ds_if (dt_w (dw_and (dt_cmp (or_neV hr.units) (de_var 5) (de_lst da_nil')) (dw_and1 (dt_cmp (or_eqV hr.units) (de_call F__law_draw hT hr pass_own (da_cons' (de_var 0) (da_cons' de_int da_nil'))) de_int)))) (ds_one (ds_expr (de_bm PySem.F.plainAttrs_list PySem.F.slot_list_append PySem.F.type_list_append mg_append ty_list (de_var 5) (da_cons' (de_call F__law_pick hT hr pass_own (da_cons' (de_var 0) (da_cons' (de_var 5) da_nil'))) da_nil')))) (ds_one (ds_if (dt_cmp or_lt (de_var 4) de_int) (ds_one (ds_expr (de_bm PySem.F.plainAttrs_list PySem.F.slot_list_append PySem.F.type_list_append mg_append ty_list (de_var 5) (da_cons' (de_call F__law_moved hT hr pass_own (da_cons' (de_var 2) (da_cons' (de_call F__law_long hT hr pass_own (da_cons' (de_var 3) (da_cons' (de_call F__law_small hT hr pass_own (da_cons' (de_var 0) da_nil')) da_nil'))) da_nil'))) da_nil')))) (ds_one (ds_expr (de_bm PySem.F.plainAttrs_list PySem.F.slot_list_append PySem.F.type_list_append mg_append ty_list (de_var 5) (da_cons' (de_call F__law_pick hT hr pass_own (da_cons' (de_var 0) (da_cons' (de_lst (da_cons' (de_var 2) (da_cons' (de_call F__law_near hT hr pass_own (da_cons' (de_var 0) da_nil')) (da_cons' (de_call F__law_moved hT hr pass_own (da_cons' (de_var 2) (da_cons' (de_call F__law_near hT hr pass_own (da_cons' (de_var 0) da_nil')) da_nil'))) da_nil')))) da_nil'))) da_nil')))))))))) (ds_one (ds_ret (de_var 5)))))))⟩⟩
def u__law_less (K : PySem.W.Frag) : DS :=
  (dRet (dCall (f__law_low K) [(dOp oSub (dOp oMul (dOp oIx (dVar 0) (dPure (.int 0))) (dOp oIx (dVar 1) (dPure (.int 1)))) (dOp oMul (dOp oIx (dVar 1) (dPure (.int 0))) (dOp oIx (dVar 0) (dPure (.int 1))))), (dOp oMul (dOp oIx (dVar 0) (dPure (.int 1))) (dOp oIx (dVar 1) (dPure (.int 1))))]))
@[irreducible] def f__law_less (K : PySem.W.Frag) : List D → W D := dDef 2 (u__law_less K)
theorem ok__law_less (Y : Tx P w K mg base tb) : ∃ f fd, Fun K "_law_less" "_law_less" s__law_less f fd ∧ DefOk P w K mg base tb "_law_less" ["_law_x", "_law_y"] 3 (f__law_less K) f fd := by
  unfold f__law_less
  obtain ⟨a, b, F, M⟩ := Y.d__law_less
  obtain ⟨a__law_low, d__law_low, U__law_low, F__law_low⟩ := ok__law_low (P := P) (w := w) (base := base) (tb := tb) Y
  exact ⟨a, b, F, ⟨M, F.kp, (F.binds (ps := ["_law_x", "_law_y"]) (fun _ _ _ _ _ _ us hl => match us, hl with | [_, _], _ => rfl)), fun_okD (tb := tb) (k := 2) F sc__law_less (hb := fun T cdv A outer s H E hT hr => (ds_one (ds_ret (de_call F__law_low hT hr pass_own (da_cons' (de_op or_sub (de_op or_mul (de_ix or_ix (de_var 0) de_int) (de_ix or_ix (de_var 1) de_int)) (de_op or_mul (de_ix or_ix (de_var 1) de_int) (de_ix or_ix (de_var 0) de_int))) (da_cons' (de_op or_mul (de_ix or_ix (de_var 0) de_int) (de_ix or_ix (de_var 1) de_int)) da_nil'))))))⟩⟩
def u__law_shift (K : PySem.W.Frag) : DS :=
  (dRet (dTup [(dCall (f__law_less K) [(dOp oIx (dVar 0) (dPure (.int 0))), (dOp oIx (dVar 1) (dPure (.int 0)))]), (dCall (f__law_less K) [(dOp oIx (dVar 0) (dPure (.int 1))), (dOp oIx (dVar 1) (dPure (.int 1)))])]))
@[irreducible] def f__law_shift (K : PySem.W.Frag) : List D → W D := dDef 2 (u__law_shift K)
theorem ok__law_shift (Y : Tx P w K mg base tb) : ∃ f fd, Fun K "_law_shift" "_law_shift" s__law_shift f fd ∧ DefOk P w K mg base tb "_law_shift" ["_law_p", "_law_q"] 4 (f__law_shift K) f fd := by
  unfold f__law_shift
  obtain ⟨a, b, F, M⟩ := Y.d__law_shift
  obtain ⟨a__law_less, d__law_less, U__law_less, F__law_less⟩ := ok__law_less (P := P) (w := w) (base := base) (tb := tb) Y
  exact ⟨a, b, F, ⟨M, F.kp, (F.binds (ps := ["_law_p", "_law_q"]) (fun _ _ _ _ _ _ us hl => match us, hl with | [_, _], _ => rfl)), fun_okD (tb := tb) (k := 3) F sc__law_shift (hb := fun T cdv A outer s H E hT hr => (ds_one (ds_ret (de_tup (da_cons' (de_call F__law_less hT hr pass_own (da_cons' (de_ix or_ix (de_var 0) de_int) (da_cons' (de_ix or_ix (de_var 1) de_int) da_nil'))) (da_cons' (de_call F__law_less hT hr pass_own (da_cons' (de_ix or_ix (de_var 0) de_int) (da_cons' (de_ix or_ix (de_var 1) de_int) da_nil'))) da_nil'))))))⟩⟩
def u__law_asked (K : PySem.W.Frag) : DS :=
  (dSeq (dSet 2 (dOp oAddM (dLst [(dCall (f__law_near K) [(dVar 0)]), (dCall (f__law_spot K) [(dVar 0)])]) (dCall gList [(dSl (dVar 1) dNoPart (dPart (dPure (.int 2))))]))) (dSeq (dSeq (dFor (.nm 3) (cRng [(dPure (.int 3))]) (dIfS (dtVal (dOp oNeV (dVar 1) (dLst []))) (dSeq (dPar [4, 5] [(dCall (f__law_pick K) [(dVar 0), (dVar 1)]), (dCall (f__law_pick K) [(dVar 0), (dVar 1)])]) (dSeq (dExpr (dBm isL gAppend (dVar 2) [(dCall (f__law_moved K) [(dVar 4), (dCall (f__law_long K) [(dCall (f__law_shift K) [(dVar 5), (dVar 4)]), (dCall (f__law_small K) [(dVar 0)])])])])) (dExpr (dBm isL gAppend (dVar 2) [(dCall (f__law_moved K) [(dVar 4), (dCall (f__law_pick K) [(dVar 0), (dLst [(dTup [(dTup [(dPure (.int 1)), (dPure (.int 1))]), (dTup [(dPure (.int 0)), (dPure (.int 1))])]), (dTup [(dTup [(dPure (.int 0)), (dPure (.int 1))]), (dTup [(dUn oNeg (dPure (.int 1))), (dPure (.int 1))])]), (dTup [(dTup [(dPure (.int 1)), (dPure (.int 2))]), (dTup [(dPure (.int 1)), (dPure (.int 2))])])])])])])))) dNext)) (dFrz 2)) (dRet (dVar 2))))
@[irreducible] def f__law_asked (K : PySem.W.Frag) : List D → W D := dDef 6 (u__law_asked K)
theorem ok__law_asked (Y : Tx P w K mg base tb) : ∃ f fd, Fun K "_law_asked" "_law_asked" s__law_asked f fd ∧ DefOk P w K mg base tb "_law_asked" ["_law_bag_here", "_law_some"] 5 (f__law_asked K) f fd := by
  unfold f__law_asked
  obtain ⟨a, b, F, M⟩ := Y.d__law_asked
  obtain ⟨a__law_near, d__law_near, U__law_near, F__law_near⟩ := ok__law_near (P := P) (w := w) (base := base) (tb := tb) Y
  obtain ⟨a__law_spot, d__law_spot, U__law_spot, F__law_spot⟩ := ok__law_spot (P := P) (w := w) (base := base) (tb := tb) Y
  obtain ⟨a__law_pick, d__law_pick, U__law_pick, F__law_pick⟩ := ok__law_pick (P := P) (w := w) (base := base) (tb := tb) Y
  obtain ⟨a__law_moved, d__law_moved, U__law_moved, F__law_moved⟩ := ok__law_moved (P := P) (w := w) (base := base) (tb := tb) Y
  obtain ⟨a__law_long, d__law_long, U__law_long, F__law_long⟩ := ok__law_long (P := P) (w := w) (base := base) (tb := tb) Y
  obtain ⟨a__law_shift, d__law_shift, U__law_shift, F__law_shift⟩ := ok__law_shift (P := P) (w := w) (base := base) (tb := tb) Y
  obtain ⟨a__law_small, d__law_small, U__law_small, F__law_small⟩ := ok__law_small (P := P) (w := w) (base := base) (tb := tb) Y
  exact ⟨a, b, F, ⟨M, F.kp, (F.binds (ps := ["_law_bag_here", "_law_some"]) (fun _ _ _ _ _ _ us hl => match us, hl with | [_, _], _ => rfl)), fun_okD (tb := tb) (k := 4) F sc__law_asked (hb := fun T cdv A outer s H E hT hr => (ds_cons (ds_set (i := 2) sc__law_asked.nd rfl (.inl rfl) (de_op or_addM (de_lst (da_cons' (de_call F__law_near hT hr pass_own (da_cons' (de_var 0) da_nil')) (da_cons' (de_call F__law_spot hT hr pass_own (da_cons' (de_var 0) da_nil')) da_nil'))) (de_callTy cb_list Y.b_list (da_cons' (de_sl (de_var 1) do_none (do_some de_int)) da_nil')))) (ds_cons (ds_frz (i := 2) (ds_for (passes_of rfl) (ci_rng Y.b_range (da_cons' de_int da_nil')) (pg_name (i := 3) sc__law_asked.nd rfl (.inl rfl)) (ds_one (ds_if (dt_cmp (or_neV hr.units) (de_var 1) (de_lst da_nil')) (ds_cons (ds_par (ps_par (i := 4) (j := 5) (by rfl) sc__law_asked.nd rfl rfl (by decide) rfl rfl (da_cons' (de_call F__law_pick hT hr pass_own (da_cons' (de_var 0) (da_cons' (de_var 1) da_nil'))) (da_cons' (de_call F__law_pick hT hr pass_own (da_cons' (de_var 0) (da_cons' (de_var 1) da_nil'))) da_nil')) (by rfl))) (ds_cons (ds_expr (de_bm PySem.F.plainAttrs_list PySem.F.slot_list_append PySem.F.type_list_append mg_append ty_list (de_var 2) (da_cons' (de_call F__law_moved hT hr pass_own (da_cons' (de_var 4) (da_cons' (de_call F__law_long hT hr pass_own (da_cons' (de_call F__law_shift hT hr pass_own (da_cons' (de_var 5) (da_cons' (de_var 4) da_nil'))) (da_cons' (de_call F__law_small hT hr pass_own (da_cons' (de_var 0) da_nil')) da_nil'))) da_nil'))) da_nil'))) (ds_one (ds_expr (de_bm PySem.F.plainAttrs_list PySem.F.slot_list_append PySem.F.type_list_append mg_append ty_list (de_var 2) (da_cons' (de_call F__law_moved hT hr pass_own (da_cons' (de_var 4) (da_cons' (de_call F__law_pick hT hr pass_own (da_cons' (de_var 0) (da_cons' (de_lst (da_cons' (de_tup (da_cons' (de_tup (da_cons' de_int (da_cons' de_int da_nil'))) (da_cons' (de_tup (da_cons' de_int (da_cons' de_int da_nil'))) da_nil'))) (da_cons' (de_tup (da_cons' (de_tup (da_cons' de_int (da_cons' de_int da_nil'))) (da_cons' (de_tup (da_cons' (de_un or_neg de_int) (da_cons' de_int da_nil'))) da_nil'))) (da_cons' (de_tup (da_cons' (de_tup (da_cons' de_int (da_cons' de_int da_nil'))) (da_cons' (de_tup (da_cons' de_int (da_cons' de_int da_nil'))) da_nil'))) da_nil')))) da_nil'))) da_nil'))) da_nil')))))) ds_nil)))) (ds_one (ds_ret (de_var 2))))))⟩⟩
def u_is_pair (K : PySem.W.Frag) : DS :=
  (dRet (dAnd (dCall (gIsi (own K)) [(dVar 0), (dPure (.val (.ty "tuple")))]) (dOp oEq (dCall gLen [(dVar 0)]) (dPure (.int 2)))))
@[irreducible] def f_is_pair (K : PySem.W.Frag) : List D → W D := dDef 1 (u_is_pair K)
theorem ok_is_pair (Y : Tx P w K mg base tb) : ∃ f fd, Fun K "is_pair" "is_pair" s_is_pair f fd ∧ DefOk P w K mg base tb "is_pair" ["value"] 1 (f_is_pair K) f fd := by
  unfold f_is_pair
  obtain ⟨a, b, F, M⟩ := Y.d_is_pair
  exact ⟨a, b, F, ⟨M, F.kp, (F.binds (ps := ["value"]) (fun _ _ _ _ _ _ us hl => match us, hl with | [_], _ => rfl)), fun_okD (tb := tb) (k := 0) F sc_is_pair (hb := fun T cdv A outer s H E hT hr => (ds_one (ds_ret (de_and (de_callB (cb_isi Y.isi) Y.b_isinstance (da_cons' (de_var 0) (da_cons' (de_bltn (u := .type "tuple") Y.b_tuple) da_nil'))) (de_one (de_cmp (or_eq hr.units) (de_callB cb_len Y.b_len (da_cons' (de_var 0) da_nil')) de_int))))))⟩⟩
def u_is_number (K : PySem.W.Frag) : DS :=
  (dRet (dAnd (dCall (gIsi (own K)) [(dVar 0), (dPure (.val (.ty "int")))]) (dNot (dCall (gIsi (own K)) [(dVar 0), (dPure (.val (.ty "bool")))]))))
@[irreducible] def f_is_number (K : PySem.W.Frag) : List D → W D := dDef 1 (u_is_number K)
theorem ok_is_number (Y : Tx P w K mg base tb) : ∃ f fd, Fun K "is_number" "is_number" s_is_number f fd ∧ DefOk P w K mg base tb "is_number" ["value"] 1 (f_is_number K) f fd := by
  unfold f_is_number
  obtain ⟨a, b, F, M⟩ := Y.d_is_number
  exact ⟨a, b, F, ⟨M, F.kp, (F.binds (ps := ["value"]) (fun _ _ _ _ _ _ us hl => match us, hl with | [_], _ => rfl)), fun_okD (tb := tb) (k := 0) F sc_is_number (hb := fun T cdv A outer s H E hT hr => (ds_one (ds_ret (de_and (de_callB (cb_isi Y.isi) Y.b_isinstance (da_cons' (de_var 0) (da_cons' (de_bltn (u := .type "int") Y.b_int) da_nil'))) (de_one (de_not (de_callB (cb_isi Y.isi) Y.b_isinstance (da_cons' (de_var 0) (da_cons' (de_bltn (u := .type "bool") Y.b_bool) da_nil')))))))))⟩⟩
def u_is_fraction (K : PySem.W.Frag) : DS :=
  (dSeq (dIfS (dtOr (dtNot (dtVal (dCall (f_is_pair K) [(dVar 0)]))) (dtOr (dtNot (dtVal (dCall (f_is_number K) [(dOp oIx (dVar 0) (dPure (.int 0)))]))) (dtNot (dtVal (dCall (f_is_number K) [(dOp oIx (dVar 0) (dPure (.int 1)))]))))) (dRet (dPure (.bl false))) dNext) (dRet (dAnd (dOp oGt (dOp oIx (dVar 0) (dPure (.int 1))) (dPure (.int 0))) (dOp oEq (dCall gGcd [(dOp oIx (dVar 0) (dPure (.int 0))), (dOp oIx (dVar 0) (dPure (.int 1)))]) (dPure (.int 1))))))
@[irreducible] def f_is_fraction (K : PySem.W.Frag) : List D → W D := dDef 1 (u_is_fraction K)
theorem ok_is_fraction (Y : Tx P w K mg base tb) : ∃ f fd, Fun K "is_fraction" "is_fraction" s_is_fraction f fd ∧ DefOk P w K mg base tb "is_fraction" ["value"] 2 (f_is_fraction K) f fd := by
  unfold f_is_fraction
  obtain ⟨a, b, F, M⟩ := Y.d_is_fraction
  obtain ⟨a_is_pair, d_is_pair, U_is_pair, F_is_pair⟩ := ok_is_pair (P := P) (w := w) (base := base) (tb := tb) Y
  obtain ⟨a_is_number, d_is_number, U_is_number, F_is_number⟩ := ok_is_number (P := P) (w := w) (base := base) (tb := tb) Y
  exact ⟨a, b, F, ⟨M, F.kp, (F.binds (ps := ["value"]) (fun _ _ _ _ _ _ us hl => match us, hl with | [_], _ => rfl)), fun_okD (tb := tb) (k := 1) F sc_is_fraction (hb := fun T cdv A outer s H E hT hr => (ds_cons (ds_if (dt_w (dw_or (dt_not (dt_val (de_call F_is_pair hT hr pass_own (da_cons' (de_var 0) da_nil')))) (dw_or (dt_not (dt_val (de_call F_is_number hT hr pass_own (da_cons' (de_ix or_ix (de_var 0) de_int) da_nil')))) (dw_or1 (dt_not (dt_val (de_call F_is_number hT hr pass_own (da_cons' (de_ix or_ix (de_var 0) de_int) da_nil')))))))) (ds_one (ds_ret de_bl)) ds_nil) (ds_one (ds_ret (de_and (de_cmp or_gt (de_ix or_ix (de_var 0) de_int) de_int) (de_one (de_cmp (or_eq hr.units) (de_callFun cb_gcd Y.gcd (da_cons' (de_ix or_ix (de_var 0) de_int) (da_cons' (de_ix or_ix (de_var 0) de_int) da_nil'))) de_int)))))))⟩⟩
def u_is_spot (K : PySem.W.Frag) : DS :=
  (dRet (dAnd (dCall (f_is_pair K) [(dVar 0)]) (dAnd (dCall (f_is_fraction K) [(dOp oIx (dVar 0) (dPure (.int 0)))]) (dCall (f_is_fraction K) [(dOp oIx (dVar 0) (dPure (.int 1)))]))))
@[irreducible] def f_is_spot (K : PySem.W.Frag) : List D → W D := dDef 1 (u_is_spot K)
theorem ok_is_spot (Y : Tx P w K mg base tb) : ∃ f fd, Fun K "is_spot" "is_spot" s_is_spot f fd ∧ DefOk P w K mg base tb "is_spot" ["value"] 3 (f_is_spot K) f fd := by
  unfold f_is_spot
  obtain ⟨a, b, F, M⟩ := Y.d_is_spot
  obtain ⟨a_is_pair, d_is_pair, U_is_pair, F_is_pair⟩ := ok_is_pair (P := P) (w := w) (base := base) (tb := tb) Y
  obtain ⟨a_is_fraction, d_is_fraction, U_is_fraction, F_is_fraction⟩ := ok_is_fraction (P := P) (w := w) (base := base) (tb := tb) Y
  exact ⟨a, b, F, ⟨M, F.kp, (F.binds (ps := ["value"]) (fun _ _ _ _ _ _ us hl => match us, hl with | [_], _ => rfl)), fun_okD (tb := tb) (k := 2) F sc_is_spot (hb := fun T cdv A outer s H E hT hr => (ds_one (ds_ret (de_and (de_call F_is_pair hT hr pass_own (da_cons' (de_var 0) da_nil')) (de_and (de_call F_is_fraction hT hr pass_own (da_cons' (de_ix or_ix (de_var 0) de_int) da_nil')) (de_one (de_call F_is_fraction hT hr pass_own (da_cons' (de_ix or_ix (de_var 0) de_int) da_nil'))))))))⟩⟩
def u_fraction (K : PySem.W.Frag) : DS :=
  (dSeq (dIfS (dtVal (dOp oEq (dVar 1) (dPure (.int 0)))) (fun _ _ _ => False) dNext) (dSeq (dSet 2 (dCall gGcd [(dVar 0), (dVar 1)])) (dSeq (dIfS (dtVal (dOp oLt (dVar 1) (dPure (.int 0)))) (dSet 2 (dUn oNeg (dVar 2))) dNext) (dRet (dTup [(dOp oDiv (dVar 0) (dVar 2)), (dOp oDiv (dVar 1) (dVar 2))])))))
@[irreducible] def f_fraction (K : PySem.W.Frag) : List D → W D := dDef 3 (u_fraction K)
theorem ok_fraction (Y : Tx P w K mg base tb) : ∃ f fd, FunD K "fraction" "fraction" (defArgs s_fraction) (defBody s_fraction) (defScope s_fraction) [.int 1] [] f fd ∧ ∃ (_ : DefOk P w K mg base tb "fraction" ["over", "under"] 1 (f_fraction K) f fd), ∃ us, ∃ (_ : Vals [.int 1] us) (_ : Binds K fd ["over", "under"] us), ∀ M H, Reps K M H [.int 1] [.int 1] := by
  unfold f_fraction
  obtain ⟨a, b, F, M⟩ := Y.d_fraction
  obtain ⟨us, V, B⟩ := F.binds1 (ps := ["over", "under"]) 1 0 (by simp) rfl fun T kV doc pm an cdv ct us its l1 l2 => match us, l1, its, l2 with | [_], _, [_], _ => ⟨_, rfl, by first | rfl | with_unfolding_all rfl | kernel_rfl⟩
  exact ⟨a, b, F, ⟨M, F.kp, (fund_full F 2 (by simp) rfl fun T kV doc pm an cdv ct us its l1 l2 => match us, l1, its, l2 with | [_, _], _, [_], _ => ⟨_, rfl, by first | rfl | with_unfolding_all rfl | kernel_rfl⟩), fund_okD (tb := tb) (k := 0) F sc_fraction (hb := fun T cdv A outer s H E hT hr => (ds_cons (ds_if (dt_cmp (or_eq hr.units) (de_var 1) de_int) (ds_one ds_never) ds_nil) (ds_cons (ds_set (i := 2) sc_fraction.nd rfl (.inl rfl) (de_callFun cb_gcd Y.gcd (da_cons' (de_var 0) (da_cons' (de_var 1) da_nil')))) (ds_cons (ds_if (dt_cmp or_lt (de_var 1) de_int) (ds_one (ds_set (i := 2) sc_fraction.nd rfl (.inl rfl) (de_un or_neg (de_var 2)))) ds_nil) (ds_one (ds_ret (de_tup (da_cons' (de_op or_div (de_var 0) (de_var 2)) (da_cons' (de_op or_div (de_var 1) (de_var 2)) da_nil')))))))))⟩, us, V, B, fun _ _ => (rcons (rint _) rnil)⟩
def u_plus (K : PySem.W.Frag) : DS :=
  (dRet (dCall (f_fraction K) [(dOp oAdd (dOp oMul (dOp oIx (dVar 0) (dPure (.int 0))) (dOp oIx (dVar 1) (dPure (.int 1)))) (dOp oMul (dOp oIx (dVar 1) (dPure (.int 0))) (dOp oIx (dVar 0) (dPure (.int 1))))), (dOp oMul (dOp oIx (dVar 0) (dPure (.int 1))) (dOp oIx (dVar 1) (dPure (.int 1))))]))
@[irreducible] def f_plus (K : PySem.W.Frag) : List D → W D := dDef 2 (u_plus K)
theorem ok_plus (Y : Tx P w K mg base tb) : ∃ f fd, Fun K "plus" "plus" s_plus f fd ∧ DefOk P w K mg base tb "plus" ["one", "other"] 2 (f_plus K) f fd := by
  unfold f_plus
  obtain ⟨a, b, F, M⟩ := Y.d_plus
  obtain ⟨a_fraction, d_fraction, U_fraction, F_fraction, us_fraction, V_fraction, B_fraction, R_fraction⟩ := ok_fraction (P := P) (w := w) (base := base) (tb := tb) Y
  exact ⟨a, b, F, ⟨M, F.kp, (F.binds (ps := ["one", "other"]) (fun _ _ _ _ _ _ us hl => match us, hl with | [_, _], _ => rfl)), fun_okD (tb := tb) (k := 1) F sc_plus (hb := fun T cdv A outer s H E hT hr => (ds_one (ds_ret (de_call F_fraction hT hr pass_own (da_cons' (de_op or_add (de_op or_mul (de_ix or_ix (de_var 0) de_int) (de_ix or_ix (de_var 1) de_int)) (de_op or_mul (de_ix or_ix (de_var 1) de_int) (de_ix or_ix (de_var 0) de_int))) (da_cons' (de_op or_mul (de_ix or_ix (de_var 0) de_int) (de_ix or_ix (de_var 1) de_int)) da_nil'))))))⟩⟩
def u_negative (K : PySem.W.Frag) : DS :=
  (dRet (dTup [(dUn oNeg (dOp oIx (dVar 0) (dPure (.int 0)))), (dOp oIx (dVar 0) (dPure (.int 1)))]))
@[irreducible] def f_negative (K : PySem.W.Frag) : List D → W D := dDef 1 (u_negative K)
theorem ok_negative (Y : Tx P w K mg base tb) : ∃ f fd, Fun K "negative" "negative" s_negative f fd ∧ DefOk P w K mg base tb "negative" ["one"] 1 (f_negative K) f fd := by
  unfold f_negative
  obtain ⟨a, b, F, M⟩ := Y.d_negative
  exact ⟨a, b, F, ⟨M, F.kp, (F.binds (ps := ["one"]) (fun _ _ _ _ _ _ us hl => match us, hl with | [_], _ => rfl)), fun_okD (tb := tb) (k := 0) F sc_negative (hb := fun T cdv A outer s H E hT hr => (ds_one (ds_ret (de_tup (da_cons' (de_un or_neg (de_ix or_ix (de_var 0) de_int)) (da_cons' (de_ix or_ix (de_var 0) de_int) da_nil'))))))⟩⟩
def u_minus (K : PySem.W.Frag) : DS :=
  (dRet (dCall (f_plus K) [(dVar 0), (dCall (f_negative K) [(dVar 1)])]))
@[irreducible] def f_minus (K : PySem.W.Frag) : List D → W D := dDef 2 (u_minus K)
theorem ok_minus (Y : Tx P w K mg base tb) : ∃ f fd, Fun K "minus" "minus" s_minus f fd ∧ DefOk P w K mg base tb "minus" ["one", "other"] 3 (f_minus K) f fd := by
  unfold f_minus
  obtain ⟨a, b, F, M⟩ := Y.d_minus
  obtain ⟨a_plus, d_plus, U_plus, F_plus⟩ := ok_plus (P := P) (w := w) (base := base) (tb := tb) Y
  obtain ⟨a_negative, d_negative, U_negative, F_negative⟩ := ok_negative (P := P) (w := w) (base := base) (tb := tb) Y
  exact ⟨a, b, F, ⟨M, F.kp, (F.binds (ps := ["one", "other"]) (fun _ _ _ _ _ _ us hl => match us, hl with | [_, _], _ => rfl)), fun_okD (tb := tb) (k := 2) F sc_minus (hb := fun T cdv A outer s H E hT hr => (ds_one (ds_ret (de_call F_plus hT hr pass_own (da_cons' (de_var 0) (da_cons' (de_call F_negative hT hr pass_own (da_cons' (de_var 1) da_nil')) da_nil'))))))⟩⟩
def u_times (K : PySem.W.Frag) : DS :=
  (dRet (dCall (f_fraction K) [(dOp oMul (dOp oIx (dVar 0) (dPure (.int 0))) (dOp oIx (dVar 1) (dPure (.int 0)))), (dOp oMul (dOp oIx (dVar 0) (dPure (.int 1))) (dOp oIx (dVar 1) (dPure (.int 1))))]))
@[irreducible] def f_times (K : PySem.W.Frag) : List D → W D := dDef 2 (u_times K)
theorem ok_times (Y : Tx P w K mg base tb) : ∃ f fd, Fun K "times" "times" s_times f fd ∧ DefOk P w K mg base tb "times" ["one", "other"] 2 (f_times K) f fd := by
  unfold f_times
  obtain ⟨a, b, F, M⟩ := Y.d_times
  obtain ⟨a_fraction, d_fraction, U_fraction, F_fraction, us_fraction, V_fraction, B_fraction, R_fraction⟩ := ok_fraction (P := P) (w := w) (base := base) (tb := tb) Y
  exact ⟨a, b, F, ⟨M, F.kp, (F.binds (ps := ["one", "other"]) (fun _ _ _ _ _ _ us hl => match us, hl with | [_, _], _ => rfl)), fun_okD (tb := tb) (k := 1) F sc_times (hb := fun T cdv A outer s H E hT hr => (ds_one (ds_ret (de_call F_fraction hT hr pass_own (da_cons' (de_op or_mul (de_ix or_ix (de_var 0) de_int) (de_ix or_ix (de_var 1) de_int)) (da_cons' (de_op or_mul (de_ix or_ix (de_var 0) de_int) (de_ix or_ix (de_var 1) de_int)) da_nil'))))))⟩⟩
def u_Table_det (K : PySem.W.Frag) : DS :=
  (dRet (dCall (f_minus K) [(dCall (f_times K) [(dFld [C_Table K] "a" (dVar 0)), (dFld [C_Table K] "d" (dVar 0))]), (dCall (f_times K) [(dFld [C_Table K] "b" (dVar 0)), (dFld [C_Table K] "c" (dVar 0))])]))
@[irreducible] def f_Table_det (K : PySem.W.Frag) : List D → W D := dDef 1 (u_Table_det K)
theorem ok_Table_det (Y : Tx P w K mg base tb) : ∃ fd, Fun K "det" "Table.det" s_Table_det (ad_Table_det K) fd ∧ Binds K fd ["self"] [] ∧ FnOk P w K mg base (L2.CX P w) 4 (ad_Table_det K) fd ["self"] (spD K tb 1 (f_Table_det K)) := by
  unfold f_Table_det
  obtain ⟨b, F⟩ := Y.fn_Table_det
  obtain ⟨a_minus, d_minus, U_minus, F_minus⟩ := ok_minus (P := P) (w := w) (base := base) (tb := tb) Y
  obtain ⟨a_times, d_times, U_times, F_times⟩ := ok_times (P := P) (w := w) (base := base) (tb := tb) Y
  exact ⟨b, F, (F.binds (ps := ["self"]) (fun _ _ _ _ _ _ us hl => match us, hl with | [_], _ => rfl)), fun_okD (tb := tb) (k := 3) F sc_Table_det (hb := fun T cdv A outer s H E hT hr => (ds_one (ds_ret (de_call F_minus hT hr pass_own (da_cons' (de_call F_times hT hr pass_own (da_cons' (de_fld (de_var 0) (allC ⟨Y.cls_Table, Y.na_Table_a⟩ allN)) (da_cons' (de_fld (de_var 0) (allC ⟨Y.cls_Table, Y.na_Table_d⟩ allN)) da_nil'))) (da_cons' (de_call F_times hT hr pass_own (da_cons' (de_fld (de_var 0) (allC ⟨Y.cls_Table, Y.na_Table_b⟩ allN)) (da_cons' (de_fld (de_var 0) (allC ⟨Y.cls_Table, Y.na_Table_c⟩ allN)) da_nil'))) da_nil'))))))⟩
theorem pr_Table_det (Y : Tx P w K mg base tb) : PropOk P w K mg base tb "det" 4 (C_Table K) (f_Table_det K) := by
  obtain ⟨fd, U, B, F⟩ := ok_Table_det (P := P) (w := w) (base := base) (tb := tb) Y
  obtain ⟨p, hp⟩ := Y.po_Table_det
  exact ⟨Y.cls_Table, p, _, fd, _, hp, rfl, B, F⟩
def u_Table___init__ (K : PySem.W.Frag) : DS :=
  (dSeq (dFor (.nm 5) (cSeq (dTup [(dVar 1), (dVar 2), (dVar 3), (dVar 4)])) (dIfS (dtNot (dtVal (dCall (f_is_fraction K) [(dVar 5)]))) (fun _ _ _ => False) dNext)) (dSeq (dSto [C_Table K] "a" (dVar 0) (dVar 1)) (dSeq (dSto [C_Table K] "b" (dVar 0) (dVar 2)) (dSeq (dSto [C_Table K] "c" (dVar 0) (dVar 3)) (dSto [C_Table K] "d" (dVar 0) (dVar 4))))))
@[irreducible] def f_Table___init__ (K : PySem.W.Frag) : List D → W D := dDef 6 (u_Table___init__ K)
theorem ok_Table___init__ (Y : Tx P w K mg base tb) : ∃ f fd, Fun K "__init__" "Table.__init__" s_Table___init__ f fd ∧ NewOk P w K mg base tb "Table" ["self", "a", "b", "c", "d"] 3 (C_Table K) (f_Table___init__ K) f fd := by
  unfold f_Table___init__
  obtain ⟨b, F⟩ := Y.fn_Table___init__
  obtain ⟨a_is_fraction, d_is_fraction, U_is_fraction, F_is_fraction⟩ := ok_is_fraction (P := P) (w := w) (base := base) (tb := tb) Y
  exact ⟨_, b, F, ⟨Y.c_Table, Y.mk_Table, (F.binds (ps := ["self", "a", "b", "c", "d"]) (fun _ _ _ _ _ _ us hl => match us, hl with | [_, _, _, _, _], _ => rfl)), fun_okD (tb := tb) (k := 2) F sc_Table___init__ (hb := fun T cdv A outer s H E hT hr => (ds_cons (ds_for (passes_of rfl) (ci_seq (de_tup (da_cons' (de_var 1) (da_cons' (de_var 2) (da_cons' (de_var 3) (da_cons' (de_var 4) da_nil')))))) (pg_name (i := 5) sc_Table___init__.nd rfl (.inl rfl)) (ds_one (ds_if (dt_not (dt_val (de_call F_is_fraction hT hr pass_own (da_cons' (de_var 5) da_nil')))) (ds_one ds_never) ds_nil))) (ds_cons (ds_sto (allC ⟨Y.cls_Table, Y.na_Table_a⟩ allN) (de_var 0) (de_var 1)) (ds_cons (ds_sto (allC ⟨Y.cls_Table, Y.na_Table_b⟩ allN) (de_var 0) (de_var 2)) (ds_cons (ds_sto (allC ⟨Y.cls_Table, Y.na_Table_c⟩ allN) (de_var 0) (de_var 3)) (ds_one (ds_sto (allC ⟨Y.cls_Table, Y.na_Table_d⟩ allN) (de_var 0) (de_var 4))))))))⟩⟩
def u_columns (K : PySem.W.Frag) : DS :=
  (dRet (dNew (C_Table K) (f_Table___init__ K) true [] [(dOp oIx (dVar 0) (dPure (.int 0))), (dOp oIx (dVar 1) (dPure (.int 0))), (dOp oIx (dVar 0) (dPure (.int 1))), (dOp oIx (dVar 1) (dPure (.int 1)))]))
@[irreducible] def f_columns (K : PySem.W.Frag) : List D → W D := dDef 2 (u_columns K)
theorem ok_columns (Y : Tx P w K mg base tb) : ∃ f fd, Fun K "columns" "columns" s_columns f fd ∧ DefOk P w K mg base tb "columns" ["left", "right"] 5 (f_columns K) f fd := by
  unfold f_columns
  obtain ⟨a, b, F, M⟩ := Y.d_columns
  obtain ⟨a_Table___init__, d_Table___init__, U_Table___init__, F_Table___init__⟩ := ok_Table___init__ (P := P) (w := w) (base := base) (tb := tb) Y
  exact ⟨a, b, F, ⟨M, F.kp, (F.binds (ps := ["left", "right"]) (fun _ _ _ _ _ _ us hl => match us, hl with | [_, _], _ => rfl)), fun_okD (tb := tb) (k := 4) F sc_columns (hb := fun T cdv A outer s H E hT hr => (ds_one (ds_ret (de_new F_Table___init__ hT hr pass_own (da_cons' (de_ix or_ix (de_var 0) de_int) (da_cons' (de_ix or_ix (de_var 1) de_int) (da_cons' (de_ix or_ix (de_var 0) de_int) (da_cons' (de_ix or_ix (de_var 1) de_int) da_nil'))))))))⟩⟩
def u_vector_minus (K : PySem.W.Frag) : DS :=
  (dRet (dTup [(dCall (f_minus K) [(dOp oIx (dVar 0) (dPure (.int 0))), (dOp oIx (dVar 1) (dPure (.int 0)))]), (dCall (f_minus K) [(dOp oIx (dVar 0) (dPure (.int 1))), (dOp oIx (dVar 1) (dPure (.int 1)))])]))
@[irreducible] def f_vector_minus (K : PySem.W.Frag) : List D → W D := dDef 2 (u_vector_minus K)
theorem ok_vector_minus (Y : Tx P w K mg base tb) : ∃ f fd, Fun K "vector_minus" "vector_minus" s_vector_minus f fd ∧ DefOk P w K mg base tb "vector_minus" ["one", "other"] 4 (f_vector_minus K) f fd := by
  unfold f_vector_minus
  obtain ⟨a, b, F, M⟩ := Y.d_vector_minus
  obtain ⟨a_minus, d_minus, U_minus, F_minus⟩ := ok_minus (P := P) (w := w) (base := base) (tb := tb) Y
  exact ⟨a, b, F, ⟨M, F.kp, (F.binds (ps := ["one", "other"]) (fun _ _ _ _ _ _ us hl => match us, hl with | [_, _], _ => rfl)), fun_okD (tb := tb) (k := 3) F sc_vector_minus (hb := fun T cdv A outer s H E hT hr => (ds_one (ds_ret (de_tup (da_cons' (de_call F_minus hT hr pass_own (da_cons' (de_ix or_ix (de_var 0) de_int) (da_cons' (de_ix or_ix (de_var 1) de_int) da_nil'))) (da_cons' (de_call F_minus hT hr pass_own (da_cons' (de_ix or_ix (de_var 0) de_int) (da_cons' (de_ix or_ix (de_var 1) de_int) da_nil'))) da_nil'))))))⟩⟩
def u__reaches (K : PySem.W.Frag) : DS :=
  (dSeq (dIfS (dtVal (dOp oLt (dCall gLen [(dVar 0)]) (dPure (.int 2)))) (dRet (dOp (oOr oIn oInV) (dVar 1) (dVar 0))) dNext) (dSeq (dIfS (dtVal (dOp oGt (dCall gLen [(dVar 0)]) (dPure (.int 2)))) (dRet (dPure (.bl true))) dNext) (dSeq (dUnpV [2, 3] (dVar 0)) (dRet (dOp oEqV (dProp [(C_Table K, f_Table_det K)] (dCall (f_columns K) [(dCall (f_vector_minus K) [(dVar 3), (dVar 2)]), (dCall (f_vector_minus K) [(dVar 1), (dVar 2)])])) (dPure g_ZERO))))))
@[irreducible] def f__reaches (K : PySem.W.Frag) : List D → W D := dDef 4 (u__reaches K)
theorem ok__reaches (Y : Tx P w K mg base tb) : ∃ f fd, Fun K "_reaches" "_reaches" s__reaches f fd ∧ DefOk P w K mg base tb "_reaches" ["corners", "spot"] 6 (f__reaches K) f fd := by
  unfold f__reaches
  obtain ⟨a, b, F, M⟩ := Y.d__reaches
  obtain ⟨a_columns, d_columns, U_columns, F_columns⟩ := ok_columns (P := P) (w := w) (base := base) (tb := tb) Y
  obtain ⟨a_vector_minus, d_vector_minus, U_vector_minus, F_vector_minus⟩ := ok_vector_minus (P := P) (w := w) (base := base) (tb := tb) Y
  exact ⟨a, b, F, ⟨M, F.kp, (F.binds (ps := ["corners", "spot"]) (fun _ _ _ _ _ _ us hl => match us, hl with | [_, _], _ => rfl)), fun_okD (tb := tb) (k := 5) F sc__reaches (hb := fun T cdv A outer s H E hT hr => (ds_cons (ds_if (dt_cmp or_lt (de_callB cb_len Y.b_len (da_cons' (de_var 0) da_nil')) de_int) (ds_one (ds_ret (de_cmp (or_or (or_in (room_u65 hr)) (or_inV (room_u65 hr))) (de_var 1) (de_var 0)))) ds_nil) (ds_cons (ds_if (dt_cmp or_gt (de_callB cb_len Y.b_len (da_cons' (de_var 0) da_nil')) de_int) (ds_one (ds_ret de_bl)) ds_nil) (ds_cons (ds_unpV (is := [2, 3]) (n := 2) (ps_asg (de_var 0) (pg_unl rfl (pgs_cons (pg_name (i := 2) sc__reaches.nd rfl (.inl rfl)) (pgs_cons (pg_name (i := 3) sc__reaches.nd rfl (.inl rfl)) pgs_nil))))) (ds_one (ds_ret (de_cmp (or_eqV hr.units) (de_prop (de_call F_columns hT hr pass_own (da_cons' (de_call F_vector_minus hT hr pass_own (da_cons' (de_var 3) (da_cons' (de_var 2) da_nil'))) (da_cons' (de_call F_vector_minus hT hr pass_own (da_cons' (de_var 1) (da_cons' (de_var 2) da_nil'))) da_nil'))) (allC (pr_Table_det Y) allN) hT hr) (Y.gl_ZERO.elim fun _ ha => ha.elim fun _ hg => de_glob hg.1 hg.2.1 hg.2.2))))))))⟩⟩
def u__independent (K : PySem.W.Frag) : DS :=
  (dSeq (dSet 1 (dLstM [])) (dSeq (dSeq (dFor (.nm 2) (cSeq (dVar 0)) (dIfS (dtNot (dtVal (dCall (f__reaches K) [(dVar 1), (dVar 2)]))) (dExpr (dBm isL gAppend (dVar 1) [(dVar 2)])) dNext)) (dFrz 1)) (dRet (dVar 1))))
@[irreducible] def f__independent (K : PySem.W.Frag) : List D → W D := dDef 3 (u__independent K)
theorem ok__independent (Y : Tx P w K mg base tb) : ∃ f fd, Fun K "_independent" "_independent" s__independent f fd ∧ DefOk P w K mg base tb "_independent" ["spots"] 7 (f__independent K) f fd := by
  unfold f__independent
  obtain ⟨a, b, F, M⟩ := Y.d__independent
  obtain ⟨a__reaches, d__reaches, U__reaches, F__reaches⟩ := ok__reaches (P := P) (w := w) (base := base) (tb := tb) Y
  exact ⟨a, b, F, ⟨M, F.kp, (F.binds (ps := ["spots"]) (fun _ _ _ _ _ _ us hl => match us, hl with | [_], _ => rfl)), fun_okD (tb := tb) (k := 6) F sc__independent (hb := fun T cdv A outer s H E hT hr => (ds_cons (ds_set (i := 1) sc__independent.nd rfl (.inl rfl) (de_lstM da_nil')) (ds_cons (ds_frz (i := 1) (ds_for (passes_of rfl) (ci_seq (de_var 0)) (pg_name (i := 2) sc__independent.nd rfl (.inl rfl)) (ds_one (ds_if (dt_not (dt_val (de_call F__reaches hT hr pass_own (da_cons' (de_var 1) (da_cons' (de_var 2) da_nil'))))) (ds_one (ds_expr (de_bm PySem.F.plainAttrs_list PySem.F.slot_list_append PySem.F.type_list_append mg_append ty_list (de_var 1) (da_cons' (de_var 2) da_nil')))) ds_nil)))) (ds_one (ds_ret (de_var 1))))))⟩⟩
def u_Flat___init__ (K : PySem.W.Frag) : DS :=
  (dSeq (dFor (.nm 2) (cSeq (dVar 1)) (dIfS (dtNot (dtVal (dCall (f_is_spot K) [(dVar 2)]))) (fun _ _ _ => False) dNext)) (dSto [C_Flat K] "_corners" (dVar 0) (dCall (f__independent K) [(dVar 1)])))
@[irreducible] def f_Flat___init__ (K : PySem.W.Frag) : List D → W D := dDef 3 (u_Flat___init__ K)
theorem ok_Flat___init__ (Y : Tx P w K mg base tb) : ∃ f fd, Fun K "__init__" "Flat.__init__" s_Flat___init__ f fd ∧ NewSOk P w K mg base tb "Flat" 8 (C_Flat K) (f_Flat___init__ K) f := by
  unfold f_Flat___init__
  obtain ⟨b, F⟩ := Y.fn_Flat___init__
  obtain ⟨a_is_spot, d_is_spot, U_is_spot, F_is_spot⟩ := ok_is_spot (P := P) (w := w) (base := base) (tb := tb) Y
  obtain ⟨a__independent, d__independent, U__independent, F__independent⟩ := ok__independent (P := P) (w := w) (base := base) (tb := tb) Y
  exact ⟨_, b, F, ⟨Y.c_Flat, Y.mk_Flat, star_okD (tb := tb) (k := 7) F sc_Flat___init__ (hb := fun T cdv A outer s H E hT hr => (ds_cons (ds_for (passes_of rfl) (ci_seq (de_var 1)) (pg_name (i := 2) sc_Flat___init__.nd rfl (.inl rfl)) (ds_one (ds_if (dt_not (dt_val (de_call F_is_spot hT hr pass_own (da_cons' (de_var 2) da_nil')))) (ds_one ds_never) ds_nil))) (ds_one (ds_sto (allC ⟨Y.cls_Flat, Y.na_Flat__corners⟩ allN) (de_var 0) (de_call F__independent hT hr pass_own (da_cons' (de_var 1) da_nil'))))))⟩⟩
def u__law_flat (K : PySem.W.Frag) : DS :=
  (dSeq (dIfS (dtVal (dOp oEq (dCall gLen [(dVar 0)]) (dPure (.int 0)))) (dRet (dNewS (C_Flat K) (f_Flat___init__ K) [])) dNext) (dSeq (dIfS (dtVal (dOp oEq (dCall gLen [(dVar 0)]) (dPure (.int 1)))) (dRet (dNewS (C_Flat K) (f_Flat___init__ K) [(dOp oIx (dVar 0) (dPure (.int 0)))])) dNext) (dSeq (dIfS (dtVal (dOp oEq (dCall gLen [(dVar 0)]) (dPure (.int 2)))) (dRet (dNewS (C_Flat K) (f_Flat___init__ K) [(dOp oIx (dVar 0) (dPure (.int 0))), (dOp oIx (dVar 0) (dPure (.int 1)))])) dNext) (dSeq (dIfS (dtVal (dOp oEq (dCall gLen [(dVar 0)]) (dPure (.int 3)))) (dRet (dNewS (C_Flat K) (f_Flat___init__ K) [(dOp oIx (dVar 0) (dPure (.int 0))), (dOp oIx (dVar 0) (dPure (.int 1))), (dOp oIx (dVar 0) (dPure (.int 2)))])) dNext) (dSeq (dIfS (dtVal (dOp oEq (dCall gLen [(dVar 0)]) (dPure (.int 4)))) (dRet (dNewS (C_Flat K) (f_Flat___init__ K) [(dOp oIx (dVar 0) (dPure (.int 0))), (dOp oIx (dVar 0) (dPure (.int 1))), (dOp oIx (dVar 0) (dPure (.int 2))), (dOp oIx (dVar 0) (dPure (.int 3)))])) dNext) (dSeq (dIfS (dtVal (dOp oEq (dCall gLen [(dVar 0)]) (dPure (.int 5)))) (dRet (dNewS (C_Flat K) (f_Flat___init__ K) [(dOp oIx (dVar 0) (dPure (.int 0))), (dOp oIx (dVar 0) (dPure (.int 1))), (dOp oIx (dVar 0) (dPure (.int 2))), (dOp oIx (dVar 0) (dPure (.int 3))), (dOp oIx (dVar 0) (dPure (.int 4)))])) dNext) (dRet (dNewS (C_Flat K) (f_Flat___init__ K) [(dOp oIx (dVar 0) (dPure (.int 0))), (dOp oIx (dVar 0) (dPure (.int 1))), (dOp oIx (dVar 0) (dPure (.int 2))), (dOp oIx (dVar 0) (dPure (.int 3))), (dOp oIx (dVar 0) (dPure (.int 4))), (dOp oIx (dVar 0) (dPure (.int 5)))]))))))))
@[irreducible] def f__law_flat (K : PySem.W.Frag) : List D → W D := dDef 1 (u__law_flat K)
theorem ok__law_flat (Y : Tx P w K mg base tb) : ∃ f fd, Fun K "_law_flat" "_law_flat" s__law_flat f fd ∧ DefOk P w K mg base tb "_law_flat" ["_law_some"] 10 (f__law_flat K) f fd := by
  unfold f__law_flat
  obtain ⟨a, b, F, M⟩ := Y.d__law_flat
  obtain ⟨a_Flat___init__, d_Flat___init__, U_Flat___init__, F_Flat___init__⟩ := ok_Flat___init__ (P := P) (w := w) (base := base) (tb := tb) Y
  exact ⟨a, b, F, ⟨M, F.kp, (F.binds (ps := ["_law_some"]) (fun _ _ _ _ _ _ us hl => match us, hl with | [_], _ => rfl)), fun_okD (tb := tb) (k := 9) F sc__law_flat (hb := fun T cdv A outer s H E hT hr => (ds_cons (ds_if (dt_cmp (or_eq hr.units) (de_callB cb_len Y.b_len (da_cons' (de_var 0) da_nil')) de_int) (ds_one (ds_ret (de_newS0 F_Flat___init__ hT hr pass_own))) ds_nil) (ds_cons (ds_if (dt_cmp (or_eq hr.units) (de_callB cb_len Y.b_len (da_cons' (de_var 0) da_nil')) de_int) (ds_one (ds_ret (de_newS F_Flat___init__ hT hr pass_own (da_cons' (de_ix or_ix (de_var 0) de_int) da_nil')))) ds_nil) (ds_cons (ds_if (dt_cmp (or_eq hr.units) (de_callB cb_len Y.b_len (da_cons' (de_var 0) da_nil')) de_int) (ds_one (ds_ret (de_newS F_Flat___init__ hT hr pass_own (da_cons' (de_ix or_ix (de_var 0) de_int) (da_cons' (de_ix or_ix (de_var 0) de_int) da_nil'))))) ds_nil) (ds_cons (ds_if (dt_cmp (or_eq hr.units) (de_callB cb_len Y.b_len (da_cons' (de_var 0) da_nil')) de_int) (ds_one (ds_ret (de_newS F_Flat___init__ hT hr pass_own (da_cons' (de_ix or_ix (de_var 0) de_int) (da_cons' (de_ix or_ix (de_var 0) de_int) (da_cons' (de_ix or_ix (de_var 0) de_int) da_nil')))))) ds_nil) (ds_cons (ds_if (dt_cmp (or_eq hr.units) (de_callB cb_len Y.b_len (da_cons' (de_var 0) da_nil')) de_int) (ds_one (ds_ret (de_newS F_Flat___init__ hT hr pass_own (da_cons' (de_ix or_ix (de_var 0) de_int) (da_cons' (de_ix or_ix (de_var 0) de_int) (da_cons' (de_ix or_ix (de_var 0) de_int) (da_cons' (de_ix or_ix (de_var 0) de_int) da_nil'))))))) ds_nil) (ds_cons (ds_if (dt_cmp (or_eq hr.units) (de_callB cb_len Y.b_len (da_cons' (de_var 0) da_nil')) de_int) (ds_one (ds_ret (de_newS F_Flat___init__ hT hr pass_own (da_cons' (de_ix or_ix (de_var 0) de_int) (da_cons' (de_ix or_ix (de_var 0) de_int) (da_cons' (de_ix or_ix (de_var 0) de_int) (da_cons' (de_ix or_ix (de_var 0) de_int) (da_cons' (de_ix or_ix (de_var 0) de_int) da_nil')))))))) ds_nil) (ds_one (ds_ret (de_newS F_Flat___init__ hT hr pass_own (da_cons' (de_ix or_ix (de_var 0) de_int) (da_cons' (de_ix or_ix (de_var 0) de_int) (da_cons' (de_ix or_ix (de_var 0) de_int) (da_cons' (de_ix or_ix (de_var 0) de_int) (da_cons' (de_ix or_ix (de_var 0) de_int) (da_cons' (de_ix or_ix (de_var 0) de_int) da_nil'))))))))))))))))⟩⟩
def u_Flat_size (K : PySem.W.Frag) : DS :=
  (dRet (dOp oSub (dCall gLen [(dFld [C_Flat K] "_corners" (dVar 0))]) (dPure (.int 1))))
@[irreducible] def f_Flat_size (K : PySem.W.Frag) : List D → W D := dDef 1 (u_Flat_size K)
theorem ok_Flat_size (Y : Tx P w K mg base tb) : ∃ fd, Fun K "size" "Flat.size" s_Flat_size (ad_Flat_size K) fd ∧ Binds K fd ["self"] [] ∧ FnOk P w K mg base (L2.CX P w) 1 (ad_Flat_size K) fd ["self"] (spD K tb 1 (f_Flat_size K)) := by
  unfold f_Flat_size
  obtain ⟨b, F⟩ := Y.fn_Flat_size
  exact ⟨b, F, (F.binds (ps := ["self"]) (fun _ _ _ _ _ _ us hl => match us, hl with | [_], _ => rfl)), fun_okD (tb := tb) (k := 0) F sc_Flat_size (hb := fun T cdv A outer s H E hT hr => (ds_one (ds_ret (de_op or_sub (de_callB cb_len Y.b_len (da_cons' (de_fld (de_var 0) (allC ⟨Y.cls_Flat, Y.na_Flat__corners⟩ allN)) da_nil')) de_int))))⟩
theorem pr_Flat_size (Y : Tx P w K mg base tb) : PropOk P w K mg base tb "size" 1 (C_Flat K) (f_Flat_size K) := by
  obtain ⟨fd, U, B, F⟩ := ok_Flat_size (P := P) (w := w) (base := base) (tb := tb) Y
  obtain ⟨p, hp⟩ := Y.po_Flat_size
  exact ⟨Y.cls_Flat, p, _, fd, _, hp, rfl, B, F⟩
def u_Flat___contains__ (K : PySem.W.Frag) : DS :=
  (dRet (dAnd (dCall (f_is_spot K) [(dVar 1)]) (dCall (f__reaches K) [(dFld [C_Flat K] "_corners" (dVar 0)), (dVar 1)])))
@[irreducible] def f_Flat___contains__ (K : PySem.W.Frag) : List D → W D := dDef 2 (u_Flat___contains__ K)
theorem ok_Flat___contains__ (Y : Tx P w K mg base tb) : ∃ fd, Fun K "__contains__" "Flat.__contains__" s_Flat___contains__ (ad_Flat___contains__ K) fd ∧ Binds K fd ["self", "spot"] [] ∧ FnOk P w K mg base (L2.CX P w) 7 (ad_Flat___contains__ K) fd ["self", "spot"] (spD K tb 2 (f_Flat___contains__ K)) := by
  unfold f_Flat___contains__
  obtain ⟨b, F⟩ := Y.fn_Flat___contains__
  obtain ⟨a_is_spot, d_is_spot, U_is_spot, F_is_spot⟩ := ok_is_spot (P := P) (w := w) (base := base) (tb := tb) Y
  obtain ⟨a__reaches, d__reaches, U__reaches, F__reaches⟩ := ok__reaches (P := P) (w := w) (base := base) (tb := tb) Y
  exact ⟨b, F, (F.binds (ps := ["self", "spot"]) (fun _ _ _ _ _ _ us hl => match us, hl with | [_, _], _ => rfl)), fun_okD (tb := tb) (k := 6) F sc_Flat___contains__ (hb := fun T cdv A outer s H E hT hr => (ds_one (ds_ret (de_and (de_call F_is_spot hT hr pass_own (da_cons' (de_var 1) da_nil')) (de_one (de_call F__reaches hT hr pass_own (da_cons' (de_fld (de_var 0) (allC ⟨Y.cls_Flat, Y.na_Flat__corners⟩ allN)) (da_cons' (de_var 1) da_nil'))))))))⟩
theorem in_Flat (Y : Tx P w K mg base tb) : InOk P w K mg base tb 7 (C_Flat K) (f_Flat___contains__ K) := by
  obtain ⟨fd, U, B, F⟩ := ok_Flat___contains__ (P := P) (w := w) (base := base) (tb := tb) Y
  exact ⟨_, fd, _, Y.in_Flat.1, Y.in_Flat.2, rfl, B, F⟩
def u__crossing (K : PySem.W.Frag) : DS :=
  (dSeq (dSet 2 (dOp oSub (dOp oMul (dOp oIx (dVar 0) (dPure (.int 0))) (dOp oIx (dVar 1) (dPure (.int 1)))) (dOp oMul (dOp oIx (dVar 0) (dPure (.int 1))) (dOp oIx (dVar 1) (dPure (.int 0)))))) (dSeq (dIfS (dtVal (dOp oEq (dVar 2) (dPure (.int 0)))) (dRet (dNewS (C_Flat K) (f_Flat___init__ K) [])) dNext) (dSeq (dSet 3 (dOp oSub (dOp oMul (dOp oIx (dVar 0) (dPure (.int 2))) (dOp oIx (dVar 1) (dPure (.int 1)))) (dOp oMul (dOp oIx (dVar 0) (dPure (.int 1))) (dOp oIx (dVar 1) (dPure (.int 2)))))) (dSeq (dSet 4 (dOp oSub (dOp oMul (dOp oIx (dVar 0) (dPure (.int 0))) (dOp oIx (dVar 1) (dPure (.int 2)))) (dOp oMul (dOp oIx (dVar 0) (dPure (.int 2))) (dOp oIx (dVar 1) (dPure (.int 0)))))) (dRet (dNewS (C_Flat K) (f_Flat___init__ K) [(dTup [(dCall (f_fraction K) [(dVar 3), (dVar 2)]), (dCall (f_fraction K) [(dVar 4), (dVar 2)])])]))))))
@[irreducible] def f__crossing (K : PySem.W.Frag) : List D → W D := dDef 5 (u__crossing K)
theorem ok__crossing (Y : Tx P w K mg base tb) : ∃ f fd, Fun K "_crossing" "_crossing" s__crossing f fd ∧ DefOk P w K mg base tb "_crossing" ["one", "other"] 10 (f__crossing K) f fd := by
  unfold f__crossing
  obtain ⟨a, b, F, M⟩ := Y.d__crossing
  obtain ⟨a_Flat___init__, d_Flat___init__, U_Flat___init__, F_Flat___init__⟩ := ok_Flat___init__ (P := P) (w := w) (base := base) (tb := tb) Y
  obtain ⟨a_fraction, d_fraction, U_fraction, F_fraction, us_fraction, V_fraction, B_fraction, R_fraction⟩ := ok_fraction (P := P) (w := w) (base := base) (tb := tb) Y
  exact ⟨a, b, F, ⟨M, F.kp, (F.binds (ps := ["one", "other"]) (fun _ _ _ _ _ _ us hl => match us, hl with | [_, _], _ => rfl)), fun_okD (tb := tb) (k := 9) F sc__crossing (hb := fun T cdv A outer s H E hT hr => (ds_cons (ds_set (i := 2) sc__crossing.nd rfl (.inl rfl) (de_op or_sub (de_op or_mul (de_ix or_ix (de_var 0) de_int) (de_ix or_ix (de_var 1) de_int)) (de_op or_mul (de_ix or_ix (de_var 0) de_int) (de_ix or_ix (de_var 1) de_int)))) (ds_cons (ds_if (dt_cmp (or_eq hr.units) (de_var 2) de_int) (ds_one (ds_ret (de_newS0 F_Flat___init__ hT hr pass_own))) ds_nil) (ds_cons (ds_set (i := 3) sc__crossing.nd rfl (.inl rfl) (de_op or_sub (de_op or_mul (de_ix or_ix (de_var 0) de_int) (de_ix or_ix (de_var 1) de_int)) (de_op or_mul (de_ix or_ix (de_var 0) de_int) (de_ix or_ix (de_var 1) de_int)))) (ds_cons (ds_set (i := 4) sc__crossing.nd rfl (.inl rfl) (de_op or_sub (de_op or_mul (de_ix or_ix (de_var 0) de_int) (de_ix or_ix (de_var 1) de_int)) (de_op or_mul (de_ix or_ix (de_var 0) de_int) (de_ix or_ix (de_var 1) de_int)))) (ds_one (ds_ret (de_newS F_Flat___init__ hT hr pass_own (da_cons' (de_tup (da_cons' (de_call F_fraction hT hr pass_own (da_cons' (de_var 3) (da_cons' (de_var 2) da_nil'))) (da_cons' (de_call F_fraction hT hr pass_own (da_cons' (de_var 4) (da_cons' (de_var 2) da_nil'))) da_nil'))) da_nil')))))))))⟩⟩
def u_direction (K : PySem.W.Frag) : DS :=
  (dSeq (dSet 1 (dOp oMul (dOp oIx (dOp oIx (dVar 0) (dPure (.int 0))) (dPure (.int 0))) (dOp oIx (dOp oIx (dVar 0) (dPure (.int 1))) (dPure (.int 1))))) (dSeq (dSet 2 (dOp oMul (dOp oIx (dOp oIx (dVar 0) (dPure (.int 1))) (dPure (.int 0))) (dOp oIx (dOp oIx (dVar 0) (dPure (.int 0))) (dPure (.int 1))))) (dSeq (dSet 3 (dCall gGcd [(dVar 1), (dVar 2)])) (dSeq (dIfS (dtVal (dOp oEq (dVar 3) (dPure (.int 0)))) (fun _ _ _ => False) dNext) (dSeq (dIfS (dtOr (dtVal (dOp oLt (dVar 1) (dPure (.int 0)))) (dtAnd (dtVal (dOp oEq (dVar 1) (dPure (.int 0)))) (dtVal (dOp oLt (dVar 2) (dPure (.int 0)))))) (dSet 3 (dUn oNeg (dVar 3))) dNext) (dRet (dTup [(dOp oDiv (dVar 1) (dVar 3)), (dOp oDiv (dVar 2) (dVar 3))])))))))
@[irreducible] def f_direction (K : PySem.W.Frag) : List D → W D := dDef 4 (u_direction K)
theorem ok_direction (Y : Tx P w K mg base tb) : ∃ f fd, Fun K "direction" "direction" s_direction f fd ∧ DefOk P w K mg base tb "direction" ["vector"] 1 (f_direction K) f fd := by
  unfold f_direction
  obtain ⟨a, b, F, M⟩ := Y.d_direction
  exact ⟨a, b, F, ⟨M, F.kp, (F.binds (ps := ["vector"]) (fun _ _ _ _ _ _ us hl => match us, hl with | [_], _ => rfl)), fun_okD (tb := tb) (k := 0) F sc_direction (hb := fun T cdv A outer s H E hT hr => (ds_cons (ds_set (i := 1) sc_direction.nd rfl (.inl rfl) (de_op or_mul (de_ix or_ix (de_ix or_ix (de_var 0) de_int) de_int) (de_ix or_ix (de_ix or_ix (de_var 0) de_int) de_int))) (ds_cons (ds_set (i := 2) sc_direction.nd rfl (.inl rfl) (de_op or_mul (de_ix or_ix (de_ix or_ix (de_var 0) de_int) de_int) (de_ix or_ix (de_ix or_ix (de_var 0) de_int) de_int))) (ds_cons (ds_set (i := 3) sc_direction.nd rfl (.inl rfl) (de_callFun cb_gcd Y.gcd (da_cons' (de_var 1) (da_cons' (de_var 2) da_nil')))) (ds_cons (ds_if (dt_cmp (or_eq hr.units) (de_var 3) de_int) (ds_one ds_never) ds_nil) (ds_cons (ds_if (dt_w (dw_or (dt_cmp or_lt (de_var 1) de_int) (dw_or1 (dt_w (dw_and (dt_cmp (or_eq hr.units) (de_var 1) de_int) (dw_and1 (dt_cmp or_lt (de_var 2) de_int))))))) (ds_one (ds_set (i := 3) sc_direction.nd rfl (.inl rfl) (de_un or_neg (de_var 3)))) ds_nil) (ds_one (ds_ret (de_tup (da_cons' (de_op or_div (de_var 1) (de_var 3)) (da_cons' (de_op or_div (de_var 2) (de_var 3)) da_nil')))))))))))⟩⟩
def u__equation (K : PySem.W.Frag) : DS :=
  (dSeq (dUnp [2, 3] (dCall (f_direction K) [(dCall (f_vector_minus K) [(dVar 1), (dVar 0)])])) (dSeq (dUnp [4, 5] (dCall (f_direction K) [(dTup [(dTup [(dVar 3), (dPure (.int 1))]), (dTup [(dUn oNeg (dVar 2)), (dPure (.int 1))])])])) (dSeq (dUnp [6, 7] (dCall (f_plus K) [(dCall (f_times K) [(dTup [(dVar 4), (dPure (.int 1))]), (dOp oIx (dVar 0) (dPure (.int 0)))]), (dCall (f_times K) [(dTup [(dVar 5), (dPure (.int 1))]), (dOp oIx (dVar 0) (dPure (.int 1)))])])) (dRet (dTup [(dOp oMul (dVar 4) (dVar 7)), (dOp oMul (dVar 5) (dVar 7)), (dVar 6)])))))
@[irreducible] def f__equation (K : PySem.W.Frag) : List D → W D := dDef 8 (u__equation K)
theorem ok__equation (Y : Tx P w K mg base tb) : ∃ f fd, Fun K "_equation" "_equation" s__equation f fd ∧ DefOk P w K mg base tb "_equation" ["start", "end"] 5 (f__equation K) f fd := by
  unfold f__equation
  obtain ⟨a, b, F, M⟩ := Y.d__equation
  obtain ⟨a_direction, d_direction, U_direction, F_direction⟩ := ok_direction (P := P) (w := w) (base := base) (tb := tb) Y
  obtain ⟨a_vector_minus, d_vector_minus, U_vector_minus, F_vector_minus⟩ := ok_vector_minus (P := P) (w := w) (base := base) (tb := tb) Y
  obtain ⟨a_plus, d_plus, U_plus, F_plus⟩ := ok_plus (P := P) (w := w) (base := base) (tb := tb) Y
  obtain ⟨a_times, d_times, U_times, F_times⟩ := ok_times (P := P) (w := w) (base := base) (tb := tb) Y
  exact ⟨a, b, F, ⟨M, F.kp, (F.binds (ps := ["start", "end"]) (fun _ _ _ _ _ _ us hl => match us, hl with | [_, _], _ => rfl)), fun_okD (tb := tb) (k := 4) F sc__equation (hb := fun T cdv A outer s H E hT hr => (ds_cons (ds_unp (is := [2, 3]) (n := 2) (ps_asg (de_call F_direction hT hr pass_own (da_cons' (de_call F_vector_minus hT hr pass_own (da_cons' (de_var 1) (da_cons' (de_var 0) da_nil'))) da_nil')) (pg_tup rfl (pgs_cons (pg_name (i := 2) sc__equation.nd rfl (.inl rfl)) (pgs_cons (pg_name (i := 3) sc__equation.nd rfl (.inl rfl)) pgs_nil))))) (ds_cons (ds_unp (is := [4, 5]) (n := 2) (ps_asg (de_call F_direction hT hr pass_own (da_cons' (de_tup (da_cons' (de_tup (da_cons' (de_var 3) (da_cons' de_int da_nil'))) (da_cons' (de_tup (da_cons' (de_un or_neg (de_var 2)) (da_cons' de_int da_nil'))) da_nil'))) da_nil')) (pg_tup rfl (pgs_cons (pg_name (i := 4) sc__equation.nd rfl (.inl rfl)) (pgs_cons (pg_name (i := 5) sc__equation.nd rfl (.inl rfl)) pgs_nil))))) (ds_cons (ds_unp (is := [6, 7]) (n := 2) (ps_asg (de_call F_plus hT hr pass_own (da_cons' (de_call F_times hT hr pass_own (da_cons' (de_tup (da_cons' (de_var 4) (da_cons' de_int da_nil'))) (da_cons' (de_ix or_ix (de_var 0) de_int) da_nil'))) (da_cons' (de_call F_times hT hr pass_own (da_cons' (de_tup (da_cons' (de_var 5) (da_cons' de_int da_nil'))) (da_cons' (de_ix or_ix (de_var 0) de_int) da_nil'))) da_nil'))) (pg_tup rfl (pgs_cons (pg_name (i := 6) sc__equation.nd rfl (.inl rfl)) (pgs_cons (pg_name (i := 7) sc__equation.nd rfl (.inl rfl)) pgs_nil))))) (ds_one (ds_ret (de_tup (da_cons' (de_op or_mul (de_var 4) (de_var 7)) (da_cons' (de_op or_mul (de_var 5) (de_var 7)) (da_cons' (de_var 6) da_nil'))))))))))⟩⟩
def u_Flat_equation (K : PySem.W.Frag) : DS :=
  (dSeq (dIfS (dtVal (dOp oNe (dProp [(C_Flat K, f_Flat_size K)] (dVar 0)) (dPure (.int 1)))) (dRet (dPure .non)) dNext) (dRet (dCall (f__equation K) [(dOp oIx (dFld [C_Flat K] "_corners" (dVar 0)) (dPure (.int 0))), (dOp oIx (dFld [C_Flat K] "_corners" (dVar 0)) (dPure (.int 1)))])))
@[irreducible] def f_Flat_equation (K : PySem.W.Frag) : List D → W D := dDef 1 (u_Flat_equation K)
theorem ok_Flat_equation (Y : Tx P w K mg base tb) : ∃ fd, Fun K "equation" "Flat.equation" s_Flat_equation (ad_Flat_equation K) fd ∧ Binds K fd ["self"] [] ∧ FnOk P w K mg base (L2.CX P w) 6 (ad_Flat_equation K) fd ["self"] (spD K tb 1 (f_Flat_equation K)) := by
  unfold f_Flat_equation
  obtain ⟨b, F⟩ := Y.fn_Flat_equation
  obtain ⟨a__equation, d__equation, U__equation, F__equation⟩ := ok__equation (P := P) (w := w) (base := base) (tb := tb) Y
  exact ⟨b, F, (F.binds (ps := ["self"]) (fun _ _ _ _ _ _ us hl => match us, hl with | [_], _ => rfl)), fun_okD (tb := tb) (k := 5) F sc_Flat_equation (hb := fun T cdv A outer s H E hT hr => (ds_cons (ds_if (dt_cmp (or_ne hr.units) (de_prop (de_var 0) (allC (pr_Flat_size Y) allN) hT hr) de_int) (ds_one (ds_ret de_non)) ds_nil) (ds_one (ds_ret (de_call F__equation hT hr pass_own (da_cons' (de_ix or_ix (de_fld (de_var 0) (allC ⟨Y.cls_Flat, Y.na_Flat__corners⟩ allN)) de_int) (da_cons' (de_ix or_ix (de_fld (de_var 0) (allC ⟨Y.cls_Flat, Y.na_Flat__corners⟩ allN)) de_int) da_nil')))))))⟩
theorem meth_Flat_equation (Y : Tx P w K mg base tb) : MethOk P w K mg base tb "equation" 0 6 (C_Flat K) (f_Flat_equation K) := by
  obtain ⟨fd, U, B, F⟩ := ok_Flat_equation (P := P) (w := w) (base := base) (tb := tb) Y
  exact ⟨Y.cls_Flat, _, fd, _, Y.me_Flat_equation, rfl, B, F⟩
def u_Flat___and__ (K : PySem.W.Frag) (g : List D → W D) : DS :=
  (dSeq (dIfS (dtVal (dOp oGt (dProp [(C_Flat K, f_Flat_size K)] (dVar 0)) (dProp [(C_Flat K, f_Flat_size K)] (dVar 1)))) (dRet (dOp (oOwn [(C_Flat K, g)]) (dVar 1) (dVar 0))) dNext) (dSeq (dIfS (dtVal (dCall gAll [(dLc [2] (.nm 2) (cSeq (dFld [C_Flat K] "_corners" (dVar 0))) dYes (dOp (oOr oIn (oOwnIn [(C_Flat K, f_Flat___contains__ K)])) (dVar 2) (dVar 1)))])) (dRet (dVar 0)) dNext) (dSeq (dIfS (dtVal (dOp oLt (dProp [(C_Flat K, f_Flat_size K)] (dVar 0)) (dPure (.int 1)))) (dRet (dNewS (C_Flat K) (f_Flat___init__ K) [])) dNext) (dRet (dCall (f__crossing K) [(dMeth [(C_Flat K, f_Flat_equation K)] "equation" (dVar 0) []), (dMeth [(C_Flat K, f_Flat_equation K)] "equation" (dVar 1) [])])))))
def b_Flat___and__ (K : PySem.W.Frag) (g : List D → W D) : List D → W D := dDef 3 (u_Flat___and__ K g)
def r_Flat___and__ (K : PySem.W.Frag) : Nat → List D → W D
  | 0 => fun _ _ _ _ => False
  | n + 1 => b_Flat___and__ K (r_Flat___and__ K n)
@[irreducible] def f_Flat___and__ (K : PySem.W.Frag) : List D → W D := fun ds S post xp => ∃ n, n ≤ 2 ∧ r_Flat___and__ K n ds S post xp
theorem step_Flat___and__ (Y : Tx P w K mg base tb) {fd : FuncData} {lv : Nat} {g : List D → W D} (F : Fun K "__and__" "Flat.__and__" s_Flat___and__ (ad_Flat___and__ K) fd) (hm : 10 ≤ lv) (F_rec : FnOk P w K mg base (L2.CX P w) lv (ad_Flat___and__ K) fd ["self", "other"] (spD K tb 2 g)) : FnOk P w K mg base (L2.CX P w) (lv + 1) (ad_Flat___and__ K) fd ["self", "other"] (spD K tb 2 (b_Flat___and__ K g)) := by
  obtain ⟨a_Flat___init__, d_Flat___init__, U_Flat___init__, F_Flat___init__⟩ := ok_Flat___init__ (P := P) (w := w) (base := base) (tb := tb) Y
  obtain ⟨a__crossing, d__crossing, U__crossing, F__crossing⟩ := ok__crossing (P := P) (w := w) (base := base) (tb := tb) Y
  have hself : OwnOk P w K mg base tb "__and__" lv (C_Flat K) g := ⟨Y.sf_Flat, _, fd, _, Y.op_Flat___and__.1, Y.op_Flat___and__.2, rfl, (F.binds (ps := ["self", "other"]) (fun _ _ _ _ _ _ us hl => match us, hl with | [_, _], _ => rfl)), F_rec⟩
  exact fun_okD (tb := tb) (k := lv) F sc_Flat___and__ (hb := fun T cdv A outer s H E hT hr => (ds_cons (ds_if (dt_cmp or_gt (de_prop (de_var 0) (allC (pr_Flat_size Y) allN) hT (hr.mono hm)) (de_prop (de_var 1) (allC (pr_Flat_size Y) allN) hT (hr.mono hm))) (ds_one (ds_ret (de_op (or_own (op := .BitAnd) (allC hself allN) hT hr pass_own (hj := Nat.ble_self_eq_true _)) (de_var 1) (de_var 0)))) ds_nil) (ds_cons (ds_if (dt_val (de_callB (cb_all rfl) Y.b_all (da_cons' (de_lc (own := [("spot", 2)]) sc_Flat___and__.nd (ci_seq (de_fld (de_var 0) (allC ⟨Y.cls_Flat, Y.na_Flat__corners⟩ allN))) (blkOk_by (own := [("spot", 2)]) (N := ["self", "other", "spot"]) (sc := (defScope s_Flat___and__)) (by decide +kernel)) (by decide) (fun _ _ _ _ _ => (pg_name (i := 2) sc_Flat___and__.nd rfl (.inl rfl))) (fun _ _ _ _ _ _ _ => dts_nil) (fun T2 eT _ _ _ _ _ => have hT2 := eT.trans hT; (de_cmp (or_or (or_in (room_u65 (hr.mono hm))) (or_ownIn (allC (in_Flat Y) allN) hT2 (hr.mono hm) passL)) (de_var 2) (de_var 1)))) da_nil'))) (ds_one (ds_ret (de_var 0))) ds_nil) (ds_cons (ds_if (dt_cmp or_lt (de_prop (de_var 0) (allC (pr_Flat_size Y) allN) hT (hr.mono hm)) de_int) (ds_one (ds_ret (de_newS0 F_Flat___init__ hT (hr.mono hm) pass_own))) ds_nil) (ds_one (ds_ret (de_call F__crossing hT (hr.mono hm) pass_own (da_cons' (de_meth0 (de_var 0) (allC (meth_Flat_equation Y) allN) hT (hr.mono hm) pass_own) (da_cons' (de_meth0 (de_var 1) (allC (meth_Flat_equation Y) allN) hT (hr.mono hm) pass_own) da_nil')))))))))
theorem ok_Flat___and__ (Y : Tx P w K mg base tb) : ∃ fd, Fun K "__and__" "Flat.__and__" s_Flat___and__ (ad_Flat___and__ K) fd ∧ Binds K fd ["self", "other"] [] ∧ FnOk P w K mg base (L2.CX P w) 12 (ad_Flat___and__ K) fd ["self", "other"] (spD K tb 2 (f_Flat___and__ K)) := by
  unfold f_Flat___and__
  obtain ⟨fd, F⟩ := Y.fn_Flat___and__
  have go : ∀ n, FnOk P w K mg base (L2.CX P w) (10 + n) (ad_Flat___and__ K) fd ["self", "other"] (spD K tb 2 (r_Flat___and__ K n)) := fun n => by
    induction n with
    | zero => exact fnOk_no
    | succ n ih => exact step_Flat___and__ Y F (Nat.le_add_right _ _) ih
  exact ⟨fd, F, (F.binds (ps := ["self", "other"]) (fun _ _ _ _ _ _ us hl => match us, hl with | [_, _], _ => rfl)), fnOk_ex fun n hn => (go n).mono (Nat.add_le_add_left hn _)⟩
theorem own_Flat___and__ (Y : Tx P w K mg base tb) : OwnOk P w K mg base tb "__and__" 12 (C_Flat K) (f_Flat___and__ K) := by
  obtain ⟨fd, U, B, F⟩ := ok_Flat___and__ (P := P) (w := w) (base := base) (tb := tb) Y
  exact ⟨Y.sf_Flat, _, fd, _, Y.op_Flat___and__.1, Y.op_Flat___and__.2, rfl, B, F⟩
def u_Flat_spots (K : PySem.W.Frag) : DS :=
  (dRet (dCall gListM [(dFld [C_Flat K] "_corners" (dVar 0))]))
@[irreducible] def f_Flat_spots (K : PySem.W.Frag) : List D → W D := dDef 1 (u_Flat_spots K)
theorem ok_Flat_spots (Y : Tx P w K mg base tb) : ∃ fd, Fun K "spots" "Flat.spots" s_Flat_spots (ad_Flat_spots K) fd ∧ Binds K fd ["self"] [] ∧ FnOk P w K mg base (L2.CX P w) 1 (ad_Flat_spots K) fd ["self"] (spD K tb 1 (f_Flat_spots K)) := by
  unfold f_Flat_spots
  obtain ⟨b, F⟩ := Y.fn_Flat_spots
  exact ⟨b, F, (F.binds (ps := ["self"]) (fun _ _ _ _ _ _ us hl => match us, hl with | [_], _ => rfl)), fun_okD (tb := tb) (k := 0) F sc_Flat_spots (hb := fun T cdv A outer s H E hT hr => (ds_one (ds_ret (de_callTy cb_listM Y.b_list (da_cons' (de_fld (de_var 0) (allC ⟨Y.cls_Flat, Y.na_Flat__corners⟩ allN)) da_nil')))))⟩
theorem meth_Flat_spots (Y : Tx P w K mg base tb) : MethOk P w K mg base tb "spots" 0 1 (C_Flat K) (f_Flat_spots K) := by
  obtain ⟨fd, U, B, F⟩ := ok_Flat_spots (P := P) (w := w) (base := base) (tb := tb) Y
  exact ⟨Y.cls_Flat, _, fd, _, Y.me_Flat_spots, rfl, B, F⟩
def u_Flat___or__ (K : PySem.W.Frag) : DS :=
  (dSeq (dSet 2 (dOp oAdd (dFrzE (dMeth [(C_Flat K, f_Flat_spots K)] "spots" (dVar 0) [])) (dFrzE (dMeth [(C_Flat K, f_Flat_spots K)] "spots" (dVar 1) [])))) (dRet (dNewX (C_Flat K) (f_Flat___init__ K) (dVar 2))))
@[irreducible] def f_Flat___or__ (K : PySem.W.Frag) : List D → W D := dDef 3 (u_Flat___or__ K)
theorem ok_Flat___or__ (Y : Tx P w K mg base tb) : ∃ fd, Fun K "__or__" "Flat.__or__" s_Flat___or__ (ad_Flat___or__ K) fd ∧ Binds K fd ["self", "other"] [] ∧ FnOk P w K mg base (L2.CX P w) 10 (ad_Flat___or__ K) fd ["self", "other"] (spD K tb 2 (f_Flat___or__ K)) := by
  unfold f_Flat___or__
  obtain ⟨b, F⟩ := Y.fn_Flat___or__
  obtain ⟨a_Flat___init__, d_Flat___init__, U_Flat___init__, F_Flat___init__⟩ := ok_Flat___init__ (P := P) (w := w) (base := base) (tb := tb) Y
  exact ⟨b, F, (F.binds (ps := ["self", "other"]) (fun _ _ _ _ _ _ us hl => match us, hl with | [_, _], _ => rfl)), fun_okD (tb := tb) (k := 9) F sc_Flat___or__ (hb := fun T cdv A outer s H E hT hr => (ds_cons (ds_set (i := 2) sc_Flat___or__.nd rfl (.inl rfl) (de_op or_add (de_frzE (de_meth0 (de_var 0) (allC (meth_Flat_spots Y) allN) hT hr pass_own)) (de_frzE (de_meth0 (de_var 1) (allC (meth_Flat_spots Y) allN) hT hr pass_own)))) (ds_one (ds_ret (de_newX F_Flat___init__ hT hr pass_own (de_var 2))))))⟩
theorem own_Flat___or__ (Y : Tx P w K mg base tb) : OwnOk P w K mg base tb "__or__" 10 (C_Flat K) (f_Flat___or__ K) := by
  obtain ⟨fd, U, B, F⟩ := ok_Flat___or__ (P := P) (w := w) (base := base) (tb := tb) Y
  exact ⟨Y.sf_Flat, _, fd, _, Y.op_Flat___or__.1, Y.op_Flat___or__.2, rfl, B, F⟩
def u__law_same (K : PySem.W.Frag) (g : List D → W D) : DS :=
  (dSeq (dIfS (dtVal (dIsi2 (own K) (.B "list") (.B "tuple") (dVar 1))) (dSeq (dIfS (dtOr (dtVal (dOp oNe (dCall (gIsi (own K)) [(dVar 0), (dPure (.val (.ty "list")))]) (dCall (gIsi (own K)) [(dVar 1), (dPure (.val (.ty "list")))]))) (dtVal (dOp oNe (dCall (gIsi (own K)) [(dVar 0), (dPure (.val (.ty "tuple")))]) (dCall (gIsi (own K)) [(dVar 1), (dPure (.val (.ty "tuple")))])))) (dRet (dPure (.bl false))) dNext) (dRet (dAnd (dOp oEq (dCall gLen [(dVar 0)]) (dCall gLen [(dVar 1)])) (dCall gAll [(dLc [2, 3] (.tp [(.nm 2), (.nm 3)]) (cZip [(dVar 0), (dVar 1)]) dYes (dCall g [(dVar 2), (dVar 3)]))])))) dNext) (dSeq (dIfS (dtVal (dIsi2 (own K) (.B "list") (.B "tuple") (dVar 0))) (dRet (dPure (.bl false))) dNext) (dSeq (dIfS (dtOr (dtVal (dOp oIs (dVar 1) (dPure .non))) (dtVal (dOp oIs (dVar 0) (dPure .non)))) (dRet (dAnd (dOp oIs (dVar 1) (dPure .non)) (dOp oIs (dVar 0) (dPure .non)))) dNext) (dSeq (dIfS (dtOr (dtVal (dCall (gIsi (own K)) [(dVar 1), (dPure (.val (.ty "bool")))])) (dtVal (dCall (gIsi (own K)) [(dVar 0), (dPure (.val (.ty "bool")))]))) (dRet (dAnd (dCall (gIsi (own K)) [(dVar 1), (dPure (.val (.ty "bool")))]) (dAnd (dCall (gIsi (own K)) [(dVar 0), (dPure (.val (.ty "bool")))]) (dOp oEq (dVar 0) (dVar 1))))) dNext) (dSeq (dIfS (dtOr (dtVal (dCall (gIsi (own K)) [(dVar 1), (dPure (.val (.ty "int")))])) (dtVal (dCall (gIsi (own K)) [(dVar 0), (dPure (.val (.ty "int")))]))) (dRet (dAnd (dCall (gIsi (own K)) [(dVar 1), (dPure (.val (.ty "int")))]) (dAnd (dCall (gIsi (own K)) [(dVar 0), (dPure (.val (.ty "int")))]) (dOp oEq (dVar 0) (dVar 1))))) dNext) (dSeq (dIfS (dtOr (dtVal (dCall (gIsi (own K)) [(dVar 1), (dPure (.val (.ty "str")))])) (dtVal (dCall (gIsi (own K)) [(dVar 0), (dPure (.val (.ty "str")))]))) (dRet (dAnd (dCall (gIsi (own K)) [(dVar 1), (dPure (.val (.ty "str")))]) (dAnd (dCall (gIsi (own K)) [(dVar 0), (dPure (.val (.ty "str")))]) (dOp oEq (dVar 0) (dVar 1))))) dNext) (dRet (dOp oEq (dVar 0) (dVar 1)))))))))
def b__law_same (K : PySem.W.Frag) (g : List D → W D) : List D → W D := dDef 4 (u__law_same K g)
def r__law_same (K : PySem.W.Frag) : Nat → List D → W D
  | 0 => fun _ _ _ _ => False
  | n + 1 => b__law_same K (r__law_same K n)
@[irreducible] def f__law_same (K : PySem.W.Frag) : List D → W D := fun ds S post xp => ∃ n, n ≤ 6 ∧ r__law_same K n ds S post xp
theorem step__law_same (Y : Tx P w K mg base tb) {f : Addr} {fd : FuncData} {lv : Nat} {g : List D → W D} (F : Fun K "_law_same" "_law_same" s__law_same f fd) (M : mg "_law_same" = some (.ref f)) (hm : 1 ≤ lv) (F_rec : DefOk P w K mg base tb "_law_same" ["_law_found", "_law_due"] lv g f fd) : DefOk P w K mg base tb "_law_same" ["_law_found", "_law_due"] (lv + 1) (b__law_same K g) f fd := by
  exact ⟨M, F.kp, (F.binds (ps := ["_law_found", "_law_due"]) (fun _ _ _ _ _ _ us hl => match us, hl with | [_, _], _ => rfl)), fun_okD (tb := tb) (k := lv) F sc__law_same (hb := fun T cdv A outer s H E hT hr => (ds_cons (ds_if (dt_val (de_isi2 Y.isi (pe_callB call_isiT (by rfl) Y.b_isinstance (by decide +kernel) (pa_cons (de_var 1) (pa_cons (pe_tup (pa_cons (pe_bltn rfl Y.b_list (by decide +kernel) rfl) (pa_cons (pe_bltn rfl Y.b_tuple (by decide +kernel) rfl) pa_nil))) pa_nil))))) (ds_cons (ds_if (dt_w (dw_or (dt_cmp (or_ne (hr.mono hm).units) (de_callB (cb_isi Y.isi) Y.b_isinstance (da_cons' (de_var 0) (da_cons' (de_bltn (u := .type "list") Y.b_list) da_nil'))) (de_callB (cb_isi Y.isi) Y.b_isinstance (da_cons' (de_var 1) (da_cons' (de_bltn (u := .type "list") Y.b_list) da_nil')))) (dw_or1 (dt_cmp (or_ne (hr.mono hm).units) (de_callB (cb_isi Y.isi) Y.b_isinstance (da_cons' (de_var 0) (da_cons' (de_bltn (u := .type "tuple") Y.b_tuple) da_nil'))) (de_callB (cb_isi Y.isi) Y.b_isinstance (da_cons' (de_var 1) (da_cons' (de_bltn (u := .type "tuple") Y.b_tuple) da_nil'))))))) (ds_one (ds_ret de_bl)) ds_nil) (ds_one (ds_ret (de_and (de_cmp (or_eq (hr.mono hm).units) (de_callB cb_len Y.b_len (da_cons' (de_var 0) da_nil')) (de_callB cb_len Y.b_len (da_cons' (de_var 1) da_nil'))) (de_one (de_callB (cb_all rfl) Y.b_all (da_cons' (de_lc (own := [("_law_x", 2), ("_law_y", 3)]) sc__law_same.nd (ci_zip Y.b_zip (da_cons' (de_var 0) (da_cons' (de_var 1) da_nil'))) (blkOk_by (own := [("_law_x", 2), ("_law_y", 3)]) (N := ["_law_found", "_law_due", "_law_x", "_law_y"]) (sc := (defScope s__law_same)) (by decide +kernel)) (by decide) (fun _ _ _ _ _ => (pg_tup rfl (pgs_cons (pg_name (i := 2) sc__law_same.nd rfl (.inl rfl)) (pgs_cons (pg_name (i := 3) sc__law_same.nd rfl (.inl rfl)) pgs_nil)))) (fun _ _ _ _ _ _ _ => dts_nil) (fun T2 eT _ _ _ _ _ => have hT2 := eT.trans hT; (de_call F_rec hT2 hr passL (da_cons' (de_var 2) (da_cons' (de_var 3) da_nil')) (hj := Nat.ble_self_eq_true _)))) da_nil'))))))) ds_nil) (ds_cons (ds_if (dt_val (de_isi2 Y.isi (pe_callB call_isiT (by rfl) Y.b_isinstance (by decide +kernel) (pa_cons (de_var 0) (pa_cons (pe_tup (pa_cons (pe_bltn rfl Y.b_list (by decide +kernel) rfl) (pa_cons (pe_bltn rfl Y.b_tuple (by decide +kernel) rfl) pa_nil))) pa_nil))))) (ds_one (ds_ret de_bl)) ds_nil) (ds_cons (ds_if (dt_w (dw_or (dt_cmp or_is (de_var 1) de_non) (dw_or1 (dt_cmp or_is (de_var 0) de_non)))) (ds_one (ds_ret (de_and (de_cmp or_is (de_var 1) de_non) (de_one (de_cmp or_is (de_var 0) de_non))))) ds_nil) (ds_cons (ds_if (dt_w (dw_or (dt_val (de_callB (cb_isi Y.isi) Y.b_isinstance (da_cons' (de_var 1) (da_cons' (de_bltn (u := .type "bool") Y.b_bool) da_nil')))) (dw_or1 (dt_val (de_callB (cb_isi Y.isi) Y.b_isinstance (da_cons' (de_var 0) (da_cons' (de_bltn (u := .type "bool") Y.b_bool) da_nil'))))))) (ds_one (ds_ret (de_and (de_callB (cb_isi Y.isi) Y.b_isinstance (da_cons' (de_var 1) (da_cons' (de_bltn (u := .type "bool") Y.b_bool) da_nil'))) (de_and (de_callB (cb_isi Y.isi) Y.b_isinstance (da_cons' (de_var 0) (da_cons' (de_bltn (u := .type "bool") Y.b_bool) da_nil'))) (de_one (de_cmp (or_eq (hr.mono hm).units) (de_var 0) (de_var 1))))))) ds_nil) (ds_cons (ds_if (dt_w (dw_or (dt_val (de_callB (cb_isi Y.isi) Y.b_isinstance (da_cons' (de_var 1) (da_cons' (de_bltn (u := .type "int") Y.b_int) da_nil')))) (dw_or1 (dt_val (de_callB (cb_isi Y.isi) Y.b_isinstance (da_cons' (de_var 0) (da_cons' (de_bltn (u := .type "int") Y.b_int) da_nil'))))))) (ds_one (ds_ret (de_and (de_callB (cb_isi Y.isi) Y.b_isinstance (da_cons' (de_var 1) (da_cons' (de_bltn (u := .type "int") Y.b_int) da_nil'))) (de_and (de_callB (cb_isi Y.isi) Y.b_isinstance (da_cons' (de_var 0) (da_cons' (de_bltn (u := .type "int") Y.b_int) da_nil'))) (de_one (de_cmp (or_eq (hr.mono hm).units) (de_var 0) (de_var 1))))))) ds_nil) (ds_cons (ds_if (dt_w (dw_or (dt_val (de_callB (cb_isi Y.isi) Y.b_isinstance (da_cons' (de_var 1) (da_cons' (de_bltn (u := .type "str") Y.b_str) da_nil')))) (dw_or1 (dt_val (de_callB (cb_isi Y.isi) Y.b_isinstance (da_cons' (de_var 0) (da_cons' (de_bltn (u := .type "str") Y.b_str) da_nil'))))))) (ds_one (ds_ret (de_and (de_callB (cb_isi Y.isi) Y.b_isinstance (da_cons' (de_var 1) (da_cons' (de_bltn (u := .type "str") Y.b_str) da_nil'))) (de_and (de_callB (cb_isi Y.isi) Y.b_isinstance (da_cons' (de_var 0) (da_cons' (de_bltn (u := .type "str") Y.b_str) da_nil'))) (de_one (de_cmp (or_eq (hr.mono hm).units) (de_var 0) (de_var 1))))))) ds_nil) (ds_one (ds_ret (de_cmp (or_eq (hr.mono hm).units) (de_var 0) (de_var 1)))))))))))⟩
theorem ok__law_same (Y : Tx P w K mg base tb) : ∃ f fd, Fun K "_law_same" "_law_same" s__law_same f fd ∧ DefOk P w K mg base tb "_law_same" ["_law_found", "_law_due"] 7 (f__law_same K) f fd := by
  unfold f__law_same
  obtain ⟨f, fd, F, M⟩ := Y.d__law_same
  have go : ∀ n, DefOk P w K mg base tb "_law_same" ["_law_found", "_law_due"] (1 + n) (r__law_same K n) f fd := fun n => by
    induction n with
    | zero => exact defOk_no M F.kp (F.binds (ps := ["_law_found", "_law_due"]) (fun _ _ _ _ _ _ us hl => match us, hl with | [_, _], _ => rfl))
    | succ n ih => exact step__law_same Y F M (Nat.le_add_right _ _) ih
  exact ⟨f, fd, F, defOk_ex (go 0) fun n hn => defOk_up (go n) (Nat.add_le_add_left hn _)⟩
def u__law_cross (K : PySem.W.Frag) : DS :=
  (dRet (dCall (f__law_less K) [(dCall (f__law_product K) [(dOp oIx (dVar 0) (dPure (.int 0))), (dOp oIx (dVar 1) (dPure (.int 1)))]), (dCall (f__law_product K) [(dOp oIx (dVar 0) (dPure (.int 1))), (dOp oIx (dVar 1) (dPure (.int 0)))])]))
@[irreducible] def f__law_cross (K : PySem.W.Frag) : List D → W D := dDef 2 (u__law_cross K)
theorem ok__law_cross (Y : Tx P w K mg base tb) : ∃ f fd, Fun K "_law_cross" "_law_cross" s__law_cross f fd ∧ DefOk P w K mg base tb "_law_cross" ["_law_u", "_law_v"] 4 (f__law_cross K) f fd := by
  unfold f__law_cross
  obtain ⟨a, b, F, M⟩ := Y.d__law_cross
  obtain ⟨a__law_less, d__law_less, U__law_less, F__law_less⟩ := ok__law_less (P := P) (w := w) (base := base) (tb := tb) Y
  obtain ⟨a__law_product, d__law_product, U__law_product, F__law_product⟩ := ok__law_product (P := P) (w := w) (base := base) (tb := tb) Y
  exact ⟨a, b, F, ⟨M, F.kp, (F.binds (ps := ["_law_u", "_law_v"]) (fun _ _ _ _ _ _ us hl => match us, hl with | [_, _], _ => rfl)), fun_okD (tb := tb) (k := 3) F sc__law_cross (hb := fun T cdv A outer s H E hT hr => (ds_one (ds_ret (de_call F__law_less hT hr pass_own (da_cons' (de_call F__law_product hT hr pass_own (da_cons' (de_ix or_ix (de_var 0) de_int) (da_cons' (de_ix or_ix (de_var 1) de_int) da_nil'))) (da_cons' (de_call F__law_product hT hr pass_own (da_cons' (de_ix or_ix (de_var 0) de_int) (da_cons' (de_ix or_ix (de_var 1) de_int) da_nil'))) da_nil'))))))⟩⟩
def u__law_turn (K : PySem.W.Frag) : DS :=
  (dRet (dCall (f__law_cross K) [(dCall (f__law_shift K) [(dVar 1), (dVar 0)]), (dCall (f__law_shift K) [(dVar 2), (dVar 0)])]))
@[irreducible] def f__law_turn (K : PySem.W.Frag) : List D → W D := dDef 3 (u__law_turn K)
theorem ok__law_turn (Y : Tx P w K mg base tb) : ∃ f fd, Fun K "_law_turn" "_law_turn" s__law_turn f fd ∧ DefOk P w K mg base tb "_law_turn" ["_law_p", "_law_q", "_law_r"] 5 (f__law_turn K) f fd := by
  unfold f__law_turn
  obtain ⟨a, b, F, M⟩ := Y.d__law_turn
  obtain ⟨a__law_cross, d__law_cross, U__law_cross, F__law_cross⟩ := ok__law_cross (P := P) (w := w) (base := base) (tb := tb) Y
  obtain ⟨a__law_shift, d__law_shift, U__law_shift, F__law_shift⟩ := ok__law_shift (P := P) (w := w) (base := base) (tb := tb) Y
  exact ⟨a, b, F, ⟨M, F.kp, (F.binds (ps := ["_law_p", "_law_q", "_law_r"]) (fun _ _ _ _ _ _ us hl => match us, hl with | [_, _, _], _ => rfl)), fun_okD (tb := tb) (k := 4) F sc__law_turn (hb := fun T cdv A outer s H E hT hr => (ds_one (ds_ret (de_call F__law_cross hT hr pass_own (da_cons' (de_call F__law_shift hT hr pass_own (da_cons' (de_var 1) (da_cons' (de_var 0) da_nil'))) (da_cons' (de_call F__law_shift hT hr pass_own (da_cons' (de_var 2) (da_cons' (de_var 0) da_nil'))) da_nil'))))))⟩⟩
def u__law_span (K : PySem.W.Frag) : DS :=
  (dSeq (dSet 1 (dLstM [])) (dSeq (dSeq (dFor (.nm 2) (cSeq (dVar 0)) (dIfS (dtOr (dtVal (dOp oEqV (dVar 1) (dLst []))) (dtAnd (dtVal (dOp oEqV (dCall gLen [(dVar 1)]) (dPure (.int 1)))) (dtVal (dOp oNeV (dVar 2) (dOp oIx (dVar 1) (dPure (.int 0))))))) (dExpr (dBm isL gAppend (dVar 1) [(dVar 2)])) (dIfS (dtAnd (dtVal (dOp oEqV (dCall gLen [(dVar 1)]) (dPure (.int 2)))) (dtVal (dOp oNeV (dOp oIx (dCall (f__law_turn K) [(dOp oIx (dVar 1) (dPure (.int 0))), (dOp oIx (dVar 1) (dPure (.int 1))), (dVar 2)]) (dPure (.int 0))) (dPure (.int 0))))) (dExpr (dBm isL gAppend (dVar 1) [(dVar 2)])) dNext))) (dFrz 1)) (dRet (dVar 1))))
@[irreducible] def f__law_span (K : PySem.W.Frag) : List D → W D := dDef 3 (u__law_span K)
theorem ok__law_span (Y : Tx P w K mg base tb) : ∃ f fd, Fun K "_law_span" "_law_span" s__law_span f fd ∧ DefOk P w K mg base tb "_law_span" ["_law_some"] 6 (f__law_span K) f fd := by
  unfold f__law_span
  obtain ⟨a, b, F, M⟩ := Y.d__law_span
  obtain ⟨a__law_turn, d__law_turn, U__law_turn, F__law_turn⟩ := ok__law_turn (P := P) (w := w) (base := base) (tb := tb) Y
  exact ⟨a, b, F, ⟨M, F.kp, (F.binds (ps := ["_law_some"]) (fun _ _ _ _ _ _ us hl => match us, hl with | [_], _ => rfl)), fun_okD (tb := tb) (k := 5) F sc__law_span (hb := fun T cdv A outer s H E hT hr => (ds_cons (ds_set (i := 1) sc__law_span.nd rfl (.inl rfl) (de_lstM da_nil')) (ds_cons (ds_frz (i := 1) (ds_for (passes_of rfl) (ci_seq (de_var 0)) (pg_name (i := 2) sc__law_span.nd rfl (.inl rfl)) (ds_one (ds_if (dt_w (dw_or (dt_cmp (or_eqV hr.units) (de_var 1) (de_lst da_nil')) (dw_or1 (dt_w (dw_and (dt_cmp (or_eqV hr.units) (de_callB cb_len Y.b_len (da_cons' (de_var 1) da_nil')) de_int) (dw_and1 (dt_cmp (or_neV hr.units) (de_var 2) (de_ix or_ix (de_var 1) de_int)))))))) (ds_one (ds_expr (de_bm PySem.F.plainAttrs_list PySem.F.slot_list_append PySem.F.type_list_append mg_append ty_list (de_var 1) (da_cons' (de_var 2) da_nil')))) (ds_one (ds_if (dt_w (dw_and (dt_cmp (or_eqV hr.units) (de_callB cb_len Y.b_len (da_cons' (de_var 1) da_nil')) de_int) (dw_and1 (dt_cmp (or_neV hr.units) (de_ix or_ix (de_call F__law_turn hT hr pass_own (da_cons' (de_ix or_ix (de_var 1) de_int) (da_cons' (de_ix or_ix (de_var 1) de_int) (da_cons' (de_var 2) da_nil')))) de_int) de_int)))) (ds_one (ds_expr (de_bm PySem.F.plainAttrs_list PySem.F.slot_list_append PySem.F.type_list_append mg_append ty_list (de_var 1) (da_cons' (de_var 2) da_nil')))) ds_nil)))))) (ds_one (ds_ret (de_var 1))))))⟩⟩
def u__law_within (K : PySem.W.Frag) : DS :=
  (dRet (dAnd (dOp oNeV (dVar 0) (dLst [])) (dOp oEqV (dCall gLen [(dCall (f__law_span K) [(dOp (oOr oAdd oAddV) (dCall gList [(dVar 0)]) (dLst [(dVar 1)]))])]) (dCall gLen [(dCall (f__law_span K) [(dVar 0)])]))))
@[irreducible] def f__law_within (K : PySem.W.Frag) : List D → W D := dDef 2 (u__law_within K)
theorem ok__law_within (Y : Tx P w K mg base tb) : ∃ f fd, Fun K "_law_within" "_law_within" s__law_within f fd ∧ DefOk P w K mg base tb "_law_within" ["_law_some", "_law_p"] 7 (f__law_within K) f fd := by
  unfold f__law_within
  obtain ⟨a, b, F, M⟩ := Y.d__law_within
  obtain ⟨a__law_span, d__law_span, U__law_span, F__law_span⟩ := ok__law_span (P := P) (w := w) (base := base) (tb := tb) Y
  exact ⟨a, b, F, ⟨M, F.kp, (F.binds (ps := ["_law_some", "_law_p"]) (fun _ _ _ _ _ _ us hl => match us, hl with | [_, _], _ => rfl)), fun_okD (tb := tb) (k := 6) F sc__law_within (hb := fun T cdv A outer s H E hT hr => (ds_one (ds_ret (de_and (de_cmp (or_neV hr.units) (de_var 0) (de_lst da_nil')) (de_one (de_cmp (or_eqV hr.units) (de_callB cb_len Y.b_len (da_cons' (de_call F__law_span hT hr pass_own (da_cons' (de_op (or_or or_add or_addV) (de_callTy cb_list Y.b_list (da_cons' (de_var 0) da_nil')) (de_lst (da_cons' (de_var 1) da_nil'))) da_nil')) da_nil')) (de_callB cb_len Y.b_len (da_cons' (de_call F__law_span hT hr pass_own (da_cons' (de_var 0) da_nil')) da_nil'))))))))⟩⟩
def u__law_is_whole (K : PySem.W.Frag) : DS :=
  (dRet (dAnd (dCall (gIsi (own K)) [(dVar 0), (dPure (.val (.ty "int")))]) (dNot (dCall (gIsi (own K)) [(dVar 0), (dPure (.val (.ty "bool")))]))))
@[irreducible] def f__law_is_whole (K : PySem.W.Frag) : List D → W D := dDef 1 (u__law_is_whole K)
theorem ok__law_is_whole (Y : Tx P w K mg base tb) : ∃ f fd, Fun K "_law_is_whole" "_law_is_whole" s__law_is_whole f fd ∧ DefOk P w K mg base tb "_law_is_whole" ["_law_v"] 1 (f__law_is_whole K) f fd := by
  unfold f__law_is_whole
  obtain ⟨a, b, F, M⟩ := Y.d__law_is_whole
  exact ⟨a, b, F, ⟨M, F.kp, (F.binds (ps := ["_law_v"]) (fun _ _ _ _ _ _ us hl => match us, hl with | [_], _ => rfl)), fun_okD (tb := tb) (k := 0) F sc__law_is_whole (hb := fun T cdv A outer s H E hT hr => (ds_one (ds_ret (de_and (de_callB (cb_isi Y.isi) Y.b_isinstance (da_cons' (de_var 0) (da_cons' (de_bltn (u := .type "int") Y.b_int) da_nil'))) (de_one (de_not (de_callB (cb_isi Y.isi) Y.b_isinstance (da_cons' (de_var 0) (da_cons' (de_bltn (u := .type "bool") Y.b_bool) da_nil')))))))))⟩⟩
def u__law_is_fraction (K : PySem.W.Frag) : DS :=
  (dSeq (dIfS (dtOr (dtNot (dtVal (dCall (gIsi (own K)) [(dVar 0), (dPure (.val (.ty "tuple")))]))) (dtVal (dOp oNe (dCall gLen [(dVar 0)]) (dPure (.int 2))))) (dRet (dPure (.bl false))) dNext) (dSeq (dIfS (dtOr (dtNot (dtVal (dCall (f__law_is_whole K) [(dOp oIx (dVar 0) (dPure (.int 0)))]))) (dtNot (dtVal (dCall (f__law_is_whole K) [(dOp oIx (dVar 0) (dPure (.int 1)))])))) (dRet (dPure (.bl false))) dNext) (dRet (dAnd (dOp oGt (dOp oIx (dVar 0) (dPure (.int 1))) (dPure (.int 0))) (dOp oEq (dCall (f__law_common K) [(dOp oIx (dVar 0) (dPure (.int 0))), (dOp oIx (dVar 0) (dPure (.int 1)))]) (dPure (.int 1)))))))
@[irreducible] def f__law_is_fraction (K : PySem.W.Frag) : List D → W D := dDef 1 (u__law_is_fraction K)
theorem ok__law_is_fraction (Y : Tx P w K mg base tb) : ∃ f fd, Fun K "_law_is_fraction" "_law_is_fraction" s__law_is_fraction f fd ∧ DefOk P w K mg base tb "_law_is_fraction" ["_law_v"] 2 (f__law_is_fraction K) f fd := by
  unfold f__law_is_fraction
  obtain ⟨a, b, F, M⟩ := Y.d__law_is_fraction
  obtain ⟨a__law_is_whole, d__law_is_whole, U__law_is_whole, F__law_is_whole⟩ := ok__law_is_whole (P := P) (w := w) (base := base) (tb := tb) Y
  obtain ⟨a__law_common, d__law_common, U__law_common, F__law_common⟩ := ok__law_common (P := P) (w := w) (base := base) (tb := tb) Y
  exact ⟨a, b, F, ⟨M, F.kp, (F.binds (ps := ["_law_v"]) (fun _ _ _ _ _ _ us hl => match us, hl with | [_], _ => rfl)), fun_okD (tb := tb) (k := 1) F sc__law_is_fraction (hb := fun T cdv A outer s H E hT hr => (ds_cons (ds_if (dt_w (dw_or (dt_not (dt_val (de_callB (cb_isi Y.isi) Y.b_isinstance (da_cons' (de_var 0) (da_cons' (de_bltn (u := .type "tuple") Y.b_tuple) da_nil'))))) (dw_or1 (dt_cmp (or_ne hr.units) (de_callB cb_len Y.b_len (da_cons' (de_var 0) da_nil')) de_int)))) (ds_one (ds_ret de_bl)) ds_nil) (ds_cons (ds_if (dt_w (dw_or (dt_not (dt_val (de_call F__law_is_whole hT hr pass_own (da_cons' (de_ix or_ix (de_var 0) de_int) da_nil')))) (dw_or1 (dt_not (dt_val (de_call F__law_is_whole hT hr pass_own (da_cons' (de_ix or_ix (de_var 0) de_int) da_nil'))))))) (ds_one (ds_ret de_bl)) ds_nil) (ds_one (ds_ret (de_and (de_cmp or_gt (de_ix or_ix (de_var 0) de_int) de_int) (de_one (de_cmp (or_eq hr.units) (de_call F__law_common hT hr pass_own (da_cons' (de_ix or_ix (de_var 0) de_int) (da_cons' (de_ix or_ix (de_var 0) de_int) da_nil'))) de_int))))))))⟩⟩
def u__law_is_spot (K : PySem.W.Frag) : DS :=
  (dRet (dAnd (dCall (gIsi (own K)) [(dVar 0), (dPure (.val (.ty "tuple")))]) (dAnd (dOp oEq (dCall gLen [(dVar 0)]) (dPure (.int 2))) (dAnd (dCall (f__law_is_fraction K) [(dOp oIx (dVar 0) (dPure (.int 0)))]) (dCall (f__law_is_fraction K) [(dOp oIx (dVar 0) (dPure (.int 1)))])))))
@[irreducible] def f__law_is_spot (K : PySem.W.Frag) : List D → W D := dDef 1 (u__law_is_spot K)
theorem ok__law_is_spot (Y : Tx P w K mg base tb) : ∃ f fd, Fun K "_law_is_spot" "_law_is_spot" s__law_is_spot f fd ∧ DefOk P w K mg base tb "_law_is_spot" ["_law_v"] 3 (f__law_is_spot K) f fd := by
  unfold f__law_is_spot
  obtain ⟨a, b, F, M⟩ := Y.d__law_is_spot
  obtain ⟨a__law_is_fraction, d__law_is_fraction, U__law_is_fraction, F__law_is_fraction⟩ := ok__law_is_fraction (P := P) (w := w) (base := base) (tb := tb) Y
  exact ⟨a, b, F, ⟨M, F.kp, (F.binds (ps := ["_law_v"]) (fun _ _ _ _ _ _ us hl => match us, hl with | [_], _ => rfl)), fun_okD (tb := tb) (k := 2) F sc__law_is_spot (hb := fun T cdv A outer s H E hT hr => (ds_one (ds_ret (de_and (de_callB (cb_isi Y.isi) Y.b_isinstance (da_cons' (de_var 0) (da_cons' (de_bltn (u := .type "tuple") Y.b_tuple) da_nil'))) (de_and (de_cmp (or_eq hr.units) (de_callB cb_len Y.b_len (da_cons' (de_var 0) da_nil')) de_int) (de_and (de_call F__law_is_fraction hT hr pass_own (da_cons' (de_ix or_ix (de_var 0) de_int) da_nil')) (de_one (de_call F__law_is_fraction hT hr pass_own (da_cons' (de_ix or_ix (de_var 0) de_int) da_nil')))))))))⟩⟩
def u_Flat___eq__ (K : PySem.W.Frag) : DS :=
  (dRet (dAnd (dCall (gIsi (own K)) [(dVar 1), (dPure (.val (.ref (C_Flat K))))]) (dAnd (dOp oEq (dProp [(C_Flat K, f_Flat_size K)] (dVar 0)) (dProp [(C_Flat K, f_Flat_size K)] (dVar 1))) (dCall gAll [(dLc [2] (.nm 2) (cSeq (dFrzE (dMeth [(C_Flat K, f_Flat_spots K)] "spots" (dVar 1) []))) dYes (dOp (oOwnIn [(C_Flat K, f_Flat___contains__ K)]) (dVar 2) (dVar 0)))]))))
@[irreducible] def f_Flat___eq__ (K : PySem.W.Frag) : List D → W D := dDef 3 (u_Flat___eq__ K)
theorem ok_Flat___eq__ (Y : Tx P w K mg base tb) : ∃ fd, Fun K "__eq__" "Flat.__eq__" s_Flat___eq__ (ad_Flat___eq__ K) fd ∧ Binds K fd ["self", "other"] [] ∧ FnOk P w K mg base (L2.CX P w) 8 (ad_Flat___eq__ K) fd ["self", "other"] (spD K tb 2 (f_Flat___eq__ K)) := by
  unfold f_Flat___eq__
  obtain ⟨b, F⟩ := Y.fn_Flat___eq__
  exact ⟨b, F, (F.binds (ps := ["self", "other"]) (fun _ _ _ _ _ _ us hl => match us, hl with | [_, _], _ => rfl)), fun_okD (tb := tb) (k := 7) F sc_Flat___eq__ (hb := fun T cdv A outer s H E hT hr => (ds_one (ds_ret (de_and (de_callB (cb_isi Y.isi) Y.b_isinstance (da_cons' (de_var 1) (da_cons' (de_glob (v := .ref (C_Flat K)) Y.c_Flat rfl (fun _ _ => rval _)) da_nil'))) (de_and (de_cmp (or_eq hr.units) (de_prop (de_var 0) (allC (pr_Flat_size Y) allN) hT hr) (de_prop (de_var 1) (allC (pr_Flat_size Y) allN) hT hr)) (de_one (de_callB (cb_all rfl) Y.b_all (da_cons' (de_lc (own := [("spot", 2)]) sc_Flat___eq__.nd (ci_seq (de_frzE (de_meth0 (de_var 1) (allC (meth_Flat_spots Y) allN) hT hr pass_own))) (blkOk_by (own := [("spot", 2)]) (N := ["self", "other", "spot"]) (sc := (defScope s_Flat___eq__)) (by decide +kernel)) (by decide) (fun _ _ _ _ _ => (pg_name (i := 2) sc_Flat___eq__.nd rfl (.inl rfl))) (fun _ _ _ _ _ _ _ => dts_nil) (fun T2 eT _ _ _ _ _ => have hT2 := eT.trans hT; (de_cmp (or_ownIn (allC (in_Flat Y) allN) hT2 hr passL) (de_var 2) (de_var 0)))) da_nil'))))))))⟩
theorem eqc_Flat (Y : Tx P w K mg base tb) : EqcOk P w K mg base tb (own K) 8 (C_Flat K) (f_Flat___eq__ K) := by
  obtain ⟨fd, U, B, F⟩ := ok_Flat___eq__ (P := P) (w := w) (base := base) (tb := tb) Y
  have q := Y.eq_Flat
  exact ⟨q.nf, q.nc, q.mro, ⟨_, fd, _, q.at_, q.fn, rfl, B, F⟩, q.ne⟩
def u__law_is_flat (K : PySem.W.Frag) : DS :=
  (dSeq (dIfS (dtOr (dtNot (dtVal (dCall (gIsi (own K)) [(dVar 0), (dPure (.val (.ref (C_Flat K))))]))) (dtNot (dtVal (dCall (f__law_same K) [(dProp [(C_Flat K, f_Flat_size K)] (dVar 0)), (dOp oSub (dCall gLen [(dCall (f__law_span K) [(dVar 1)])]) (dPure (.int 1)))])))) (dRet (dPure (.bl false))) dNext) (dSeq (dIfS (dtNot (dtVal (dCall gAll [(dLc [4] (.nm 4) (cSeq (dOp oAdd (dCall gList [(dVar 1)]) (dCall gList [(dVar 2)]))) dYes (dCall (f__law_same K) [(dOp (oOr oIn (oOwnIn [(C_Flat K, f_Flat___contains__ K)])) (dVar 4) (dVar 0)), (dCall (f__law_within K) [(dVar 1), (dVar 4)])]))]))) (dRet (dPure (.bl false))) dNext) (dSeq (dSet 3 (dFrzE (dMeth [(C_Flat K, f_Flat_spots K)] "spots" (dVar 0) []))) (dSeq (dIfS (dtOr (dtNot (dtVal (dCall (gIsi (own K)) [(dVar 3), (dPure (.val (.ty "list")))]))) (dtOr (dtNot (dtVal (dCall gAll [(dLc [4] (.nm 4) (cSeq (dVar 3)) dYes (dAnd (dCall (f__law_is_spot K) [(dVar 4)]) (dCall (f__law_within K) [(dVar 1), (dVar 4)])))]))) (dtVal (dOp oNe (dCall gLen [(dCall (f__law_span K) [(dVar 3)])]) (dCall gLen [(dCall (f__law_span K) [(dVar 1)])]))))) (dRet (dPure (.bl false))) dNext) (dRet (dCall (f__law_same K) [(dLst [(dOp (oOr oEq (oOwnEq [(C_Flat K, f_Flat___eq__ K)] (own K))) (dVar 0) (dCall (f__law_flat K) [(dCall (f__law_span K) [(dVar 1)])])), (dMeth [(C_Flat K, f_Flat_equation K)] "equation" (dVar 0) [])]), (dLst [(dPure (.bl true)), (dMeth [(C_Flat K, f_Flat_equation K)] "equation" (dCall (f__law_flat K) [(dCall (f__law_span K) [(dVar 1)])]) [])])]))))))
@[irreducible] def f__law_is_flat (K : PySem.W.Frag) : List D → W D := dDef 5 (u__law_is_flat K)
theorem ok__law_is_flat (Y : Tx P w K mg base tb) : ∃ f fd, Fun K "_law_is_flat" "_law_is_flat" s__law_is_flat f fd ∧ DefOk P w K mg base tb "_law_is_flat" ["_law_flat_here", "_law_some", "_law_far"] 11 (f__law_is_flat K) f fd := by
  unfold f__law_is_flat
  obtain ⟨a, b, F, M⟩ := Y.d__law_is_flat
  obtain ⟨a__law_same, d__law_same, U__law_same, F__law_same⟩ := ok__law_same (P := P) (w := w) (base := base) (tb := tb) Y
  obtain ⟨a__law_span, d__law_span, U__law_span, F__law_span⟩ := ok__law_span (P := P) (w := w) (base := base) (tb := tb) Y
  obtain ⟨a__law_within, d__law_within, U__law_within, F__law_within⟩ := ok__law_within (P := P) (w := w) (base := base) (tb := tb) Y
  obtain ⟨a__law_is_spot, d__law_is_spot, U__law_is_spot, F__law_is_spot⟩ := ok__law_is_spot (P := P) (w := w) (base := base) (tb := tb) Y
  obtain ⟨a__law_flat, d__law_flat, U__law_flat, F__law_flat⟩ := ok__law_flat (P := P) (w := w) (base := base) (tb := tb) Y
  exact ⟨a, b, F, ⟨M, F.kp, (F.binds (ps := ["_law_flat_here", "_law_some", "_law_far"]) (fun _ _ _ _ _ _ us hl => match us, hl with | [_, _, _], _ => rfl)), fun_okD (tb := tb) (k := 10) F sc__law_is_flat (hb := fun T cdv A outer s H E hT hr => (ds_cons (ds_if (dt_w (dw_or (dt_not (dt_val (de_callB (cb_isi Y.isi) Y.b_isinstance (da_cons' (de_var 0) (da_cons' (de_glob (v := .ref (C_Flat K)) Y.c_Flat rfl (fun _ _ => rval _)) da_nil'))))) (dw_or1 (dt_not (dt_val (de_call F__law_same hT hr pass_own (da_cons' (de_prop (de_var 0) (allC (pr_Flat_size Y) allN) hT hr) (da_cons' (de_op or_sub (de_callB cb_len Y.b_len (da_cons' (de_call F__law_span hT hr pass_own (da_cons' (de_var 1) da_nil')) da_nil')) de_int) da_nil')))))))) (ds_one (ds_ret de_bl)) ds_nil) (ds_cons (ds_if (dt_not (dt_val (de_callB (cb_all rfl) Y.b_all (da_cons' (de_lc (own := [("_law_p", 4)]) sc__law_is_flat.nd (ci_seq (de_op or_add (de_callTy cb_list Y.b_list (da_cons' (de_var 1) da_nil')) (de_callTy cb_list Y.b_list (da_cons' (de_var 2) da_nil')))) (blkOk_by (own := [("_law_p", 4)]) (N := ["_law_flat_here", "_law_some", "_law_far", "_law_told", "_law_p"]) (sc := (defScope s__law_is_flat)) (by decide +kernel)) (by decide) (fun _ _ _ _ _ => (pg_name (i := 4) sc__law_is_flat.nd rfl (.inl rfl))) (fun _ _ _ _ _ _ _ => dts_nil) (fun T2 eT _ _ _ _ _ => have hT2 := eT.trans hT; (de_call F__law_same hT2 hr passL (da_cons' (de_cmp (or_or (or_in (room_u65 hr)) (or_ownIn (allC (in_Flat Y) allN) hT2 hr passL)) (de_var 4) (de_var 0)) (da_cons' (de_call F__law_within hT2 hr passL (da_cons' (de_var 1) (da_cons' (de_var 4) da_nil'))) da_nil'))))) da_nil')))) (ds_one (ds_ret de_bl)) ds_nil) (ds_cons (ds_set (i := 3) sc__law_is_flat.nd rfl (.inl rfl) (de_frzE (de_meth0 (de_var 0) (allC (meth_Flat_spots Y) allN) hT hr pass_own))) (ds_cons (ds_if (dt_w (dw_or (dt_not (dt_val (de_callB (cb_isi Y.isi) Y.b_isinstance (da_cons' (de_var 3) (da_cons' (de_bltn (u := .type "list") Y.b_list) da_nil'))))) (dw_or (dt_not (dt_val (de_callB (cb_all rfl) Y.b_all (da_cons' (de_lc (own := [("_law_p", 4)]) sc__law_is_flat.nd (ci_seq (de_var 3)) (blkOk_by (own := [("_law_p", 4)]) (N := ["_law_flat_here", "_law_some", "_law_far", "_law_told", "_law_p"]) (sc := (defScope s__law_is_flat)) (by decide +kernel)) (by decide) (fun _ _ _ _ _ => (pg_name (i := 4) sc__law_is_flat.nd rfl (.inl rfl))) (fun _ _ _ _ _ _ _ => dts_nil) (fun T2 eT _ _ _ _ _ => have hT2 := eT.trans hT; (de_and (de_call F__law_is_spot hT2 hr passL (da_cons' (de_var 4) da_nil')) (de_one (de_call F__law_within hT2 hr passL (da_cons' (de_var 1) (da_cons' (de_var 4) da_nil'))))))) da_nil')))) (dw_or1 (dt_cmp (or_ne hr.units) (de_callB cb_len Y.b_len (da_cons' (de_call F__law_span hT hr pass_own (da_cons' (de_var 3) da_nil')) da_nil')) (de_callB cb_len Y.b_len (da_cons' (de_call F__law_span hT hr pass_own (da_cons' (de_var 1) da_nil')) da_nil'))))))) (ds_one (ds_ret de_bl)) ds_nil) (ds_one (ds_ret (de_call F__law_same hT hr pass_own (da_cons' (de_lst (da_cons' (de_cmp (or_or (or_eq hr.units) (or_ownEq Y.isi (allC (eqc_Flat Y) allN) hT hr pass_own)) (de_var 0) (de_call F__law_flat hT hr pass_own (da_cons' (de_call F__law_span hT hr pass_own (da_cons' (de_var 1) da_nil')) da_nil'))) (da_cons' (de_meth0 (de_var 0) (allC (meth_Flat_equation Y) allN) hT hr pass_own) da_nil'))) (da_cons' (de_lst (da_cons' de_bl (da_cons' (de_meth0 (de_call F__law_flat hT hr pass_own (da_cons' (de_call F__law_span hT hr pass_own (da_cons' (de_var 1) da_nil')) da_nil')) (allC (meth_Flat_equation Y) allN) hT hr pass_own) da_nil'))) da_nil'))))))))))⟩⟩
def u__law_quotient (K : PySem.W.Frag) : DS :=
  (dRet (dCall (f__law_low K) [(dOp oMul (dOp oIx (dVar 0) (dPure (.int 0))) (dOp oIx (dVar 1) (dPure (.int 1)))), (dOp oMul (dOp oIx (dVar 0) (dPure (.int 1))) (dOp oIx (dVar 1) (dPure (.int 0))))]))
@[irreducible] def f__law_quotient (K : PySem.W.Frag) : List D → W D := dDef 2 (u__law_quotient K)
theorem ok__law_quotient (Y : Tx P w K mg base tb) : ∃ f fd, Fun K "_law_quotient" "_law_quotient" s__law_quotient f fd ∧ DefOk P w K mg base tb "_law_quotient" ["_law_x", "_law_y"] 3 (f__law_quotient K) f fd := by
  unfold f__law_quotient
  obtain ⟨a, b, F, M⟩ := Y.d__law_quotient
  obtain ⟨a__law_low, d__law_low, U__law_low, F__law_low⟩ := ok__law_low (P := P) (w := w) (base := base) (tb := tb) Y
  exact ⟨a, b, F, ⟨M, F.kp, (F.binds (ps := ["_law_x", "_law_y"]) (fun _ _ _ _ _ _ us hl => match us, hl with | [_, _], _ => rfl)), fun_okD (tb := tb) (k := 2) F sc__law_quotient (hb := fun T cdv A outer s H E hT hr => (ds_one (ds_ret (de_call F__law_low hT hr pass_own (da_cons' (de_op or_mul (de_ix or_ix (de_var 0) de_int) (de_ix or_ix (de_var 1) de_int)) (da_cons' (de_op or_mul (de_ix or_ix (de_var 0) de_int) (de_ix or_ix (de_var 1) de_int)) da_nil'))))))⟩⟩
def u__law_meet (K : PySem.W.Frag) : DS :=
  (dSeq (dUnp [2, 3] (dTup [(dCall (f__law_span K) [(dVar 0)]), (dCall (f__law_span K) [(dVar 1)])])) (dSeq (dIfS (dtVal (dOp oEqV (dCall gLen [(dVar 2)]) (dPure (.int 3)))) (dRet (dVar 3)) dNext) (dSeq (dIfS (dtVal (dOp oEqV (dCall gLen [(dVar 3)]) (dPure (.int 3)))) (dRet (dVar 2)) dNext) (dSeq (dIfS (dtVal (dOp oLt (dCall gLen [(dVar 2)]) (dPure (.int 2)))) (dRet (dLc [7] (.nm 7) (cSeq (dVar 2)) (dtVal (dCall (f__law_within K) [(dVar 3), (dVar 7)])) (dVar 7))) dNext) (dSeq (dIfS (dtVal (dOp oLt (dCall gLen [(dVar 3)]) (dPure (.int 2)))) (dRet (dLc [7] (.nm 7) (cSeq (dVar 3)) (dtVal (dCall (f__law_within K) [(dVar 2), (dVar 7)])) (dVar 7))) dNext) (dSeq (dPar [4, 5] [(dCall (f__law_shift K) [(dOp oIx (dVar 2) (dPure (.int 1))), (dOp oIx (dVar 2) (dPure (.int 0)))]), (dCall (f__law_shift K) [(dOp oIx (dVar 3) (dPure (.int 1))), (dOp oIx (dVar 3) (dPure (.int 0)))])]) (dSeq (dSet 6 (dCall (f__law_cross K) [(dVar 4), (dVar 5)])) (dSeq (dIfS (dtVal (dOp oEqV (dOp oIx (dVar 6) (dPure (.int 0))) (dPure (.int 0)))) (dRet (dIf (dtVal (dCall (f__law_within K) [(dVar 3), (dOp oIx (dVar 2) (dPure (.int 0)))])) (dVar 2) (dLst []))) dNext) (dRet (dLst [(dCall (f__law_moved K) [(dOp oIx (dVar 2) (dPure (.int 0))), (dCall (f__law_long K) [(dVar 4), (dCall (f__law_quotient K) [(dCall (f__law_cross K) [(dCall (f__law_shift K) [(dOp oIx (dVar 3) (dPure (.int 0))), (dOp oIx (dVar 2) (dPure (.int 0)))]), (dVar 5)]), (dVar 6)])])])]))))))))))
@[irreducible] def f__law_meet (K : PySem.W.Frag) : List D → W D := dDef 8 (u__law_meet K)
theorem ok__law_meet (Y : Tx P w K mg base tb) : ∃ f fd, Fun K "_law_meet" "_law_meet" s__law_meet f fd ∧ DefOk P w K mg base tb "_law_meet" ["_law_some", "_law_far"] 8 (f__law_meet K) f fd := by
  unfold f__law_meet
  obtain ⟨a, b, F, M⟩ := Y.d__law_meet
  obtain ⟨a__law_span, d__law_span, U__law_span, F__law_span⟩ := ok__law_span (P := P) (w := w) (base := base) (tb := tb) Y
  obtain ⟨a__law_within, d__law_within, U__law_within, F__law_within⟩ := ok__law_within (P := P) (w := w) (base := base) (tb := tb) Y
  obtain ⟨a__law_shift, d__law_shift, U__law_shift, F__law_shift⟩ := ok__law_shift (P := P) (w := w) (base := base) (tb := tb) Y
  obtain ⟨a__law_cross, d__law_cross, U__law_cross, F__law_cross⟩ := ok__law_cross (P := P) (w := w) (base := base) (tb := tb) Y
  obtain ⟨a__law_moved, d__law_moved, U__law_moved, F__law_moved⟩ := ok__law_moved (P := P) (w := w) (base := base) (tb := tb) Y
  obtain ⟨a__law_long, d__law_long, U__law_long, F__law_long⟩ := ok__law_long (P := P) (w := w) (base := base) (tb := tb) Y
  obtain ⟨a__law_quotient, d__law_quotient, U__law_quotient, F__law_quotient⟩ := ok__law_quotient (P := P) (w := w) (base := base) (tb := tb) Y
  exact ⟨a, b, F, ⟨M, F.kp, (F.binds (ps := ["_law_some", "_law_far"]) (fun _ _ _ _ _ _ us hl => match us, hl with | [_, _], _ => rfl)), fun_okD (tb := tb) (k := 7) F sc__law_meet (hb := fun T cdv A outer s H E hT hr => (ds_cons (ds_unp (is := [2, 3]) (n := 2) (ps_asg (de_tup (da_cons' (de_call F__law_span hT hr pass_own (da_cons' (de_var 0) da_nil')) (da_cons' (de_call F__law_span hT hr pass_own (da_cons' (de_var 1) da_nil')) da_nil'))) (pg_tup rfl (pgs_cons (pg_name (i := 2) sc__law_meet.nd rfl (.inr rfl)) (pgs_cons (pg_name (i := 3) sc__law_meet.nd rfl (.inr rfl)) pgs_nil))))) (ds_cons (ds_if (dt_cmp (or_eqV hr.units) (de_callB cb_len Y.b_len (da_cons' (de_var 2) da_nil')) de_int) (ds_one (ds_ret (de_var 3))) ds_nil) (ds_cons (ds_if (dt_cmp (or_eqV hr.units) (de_callB cb_len Y.b_len (da_cons' (de_var 3) da_nil')) de_int) (ds_one (ds_ret (de_var 2))) ds_nil) (ds_cons (ds_if (dt_cmp or_lt (de_callB cb_len Y.b_len (da_cons' (de_var 2) da_nil')) de_int) (ds_one (ds_ret (de_lc (own := [("_law_x", 7)]) sc__law_meet.nd (ci_seq (de_var 2)) (blkOk_by (own := [("_law_x", 7)]) (N := ["_law_some", "_law_far", "_law_p", "_law_q", "_law_u", "_law_v", "_law_area", "_law_x"]) (sc := (defScope s__law_meet)) (by decide +kernel)) (by decide) (fun _ _ _ _ _ => (pg_name (i := 7) sc__law_meet.nd rfl (.inl rfl))) (fun T2 eT _ _ _ _ _ => have hT2 := eT.trans hT; dts_one (dt_val (de_call F__law_within hT2 hr passL (da_cons' (de_var 3) (da_cons' (de_var 7) da_nil'))))) (fun T2 eT _ _ _ _ _ => have hT2 := eT.trans hT; (de_var 7))))) ds_nil) (ds_cons (ds_if (dt_cmp or_lt (de_callB cb_len Y.b_len (da_cons' (de_var 3) da_nil')) de_int) (ds_one (ds_ret (de_lc (own := [("_law_x", 7)]) sc__law_meet.nd (ci_seq (de_var 3)) (blkOk_by (own := [("_law_x", 7)]) (N := ["_law_some", "_law_far", "_law_p", "_law_q", "_law_u", "_law_v", "_law_area", "_law_x"]) (sc := (defScope s__law_meet)) (by decide +kernel)) (by decide) (fun _ _ _ _ _ => (pg_name (i := 7) sc__law_meet.nd rfl (.inl rfl))) (fun T2 eT _ _ _ _ _ => have hT2 := eT.trans hT; dts_one (dt_val (de_call F__law_within hT2 hr passL (da_cons' (de_var 2) (da_cons' (de_var 7) da_nil'))))) (fun T2 eT _ _ _ _ _ => have hT2 := eT.trans hT; (de_var 7))))) ds_nil) (ds_cons (ds_par (ps_par (i := 4) (j := 5) (by rfl) sc__law_meet.nd rfl rfl (by decide) rfl rfl (da_cons' (de_call F__law_shift hT hr pass_own (da_cons' (de_ix or_ix (de_var 2) de_int) (da_cons' (de_ix or_ix (de_var 2) de_int) da_nil'))) (da_cons' (de_call F__law_shift hT hr pass_own (da_cons' (de_ix or_ix (de_var 3) de_int) (da_cons' (de_ix or_ix (de_var 3) de_int) da_nil'))) da_nil')) (by rfl))) (ds_cons (ds_set (i := 6) sc__law_meet.nd rfl (.inl rfl) (de_call F__law_cross hT hr pass_own (da_cons' (de_var 4) (da_cons' (de_var 5) da_nil')))) (ds_cons (ds_if (dt_cmp (or_eqV hr.units) (de_ix or_ix (de_var 6) de_int) de_int) (ds_one (ds_ret (de_if (dt_val (de_call F__law_within hT hr pass_own (da_cons' (de_var 3) (da_cons' (de_ix or_ix (de_var 2) de_int) da_nil')))) (de_var 2) (de_lst da_nil')))) ds_nil) (ds_one (ds_ret (de_lst (da_cons' (de_call F__law_moved hT hr pass_own (da_cons' (de_ix or_ix (de_var 2) de_int) (da_cons' (de_call F__law_long hT hr pass_own (da_cons' (de_var 4) (da_cons' (de_call F__law_quotient hT hr pass_own (da_cons' (de_call F__law_cross hT hr pass_own (da_cons' (de_call F__law_shift hT hr pass_own (da_cons' (de_ix or_ix (de_var 3) de_int) (da_cons' (de_ix or_ix (de_var 2) de_int) da_nil'))) (da_cons' (de_var 5) da_nil'))) (da_cons' (de_var 6) da_nil'))) da_nil'))) da_nil'))) da_nil')))))))))))))⟩⟩
def u_Flat_whole (K : PySem.W.Frag) : DS :=
  (dRet (dNewS (C_Flat K) (f_Flat___init__ K) [(dTup [(dPure g_ZERO), (dPure g_ZERO)]), (dTup [(dPure g_ONE), (dPure g_ZERO)]), (dTup [(dPure g_ZERO), (dPure g_ONE)])]))
@[irreducible] def f_Flat_whole (K : PySem.W.Frag) : List D → W D := dDef 0 (u_Flat_whole K)
theorem ok_Flat_whole (Y : Tx P w K mg base tb) : ∃ fd, Fun K "whole" "Flat.whole" s_Flat_whole (ad_Flat_whole K) fd ∧ Binds K fd [] [] ∧ FnOk P w K mg base (L2.CX P w) 10 (ad_Flat_whole K) fd [] (spD K tb 0 (f_Flat_whole K)) := by
  unfold f_Flat_whole
  obtain ⟨b, F⟩ := Y.fn_Flat_whole
  obtain ⟨a_Flat___init__, d_Flat___init__, U_Flat___init__, F_Flat___init__⟩ := ok_Flat___init__ (P := P) (w := w) (base := base) (tb := tb) Y
  exact ⟨b, F, (F.binds (ps := []) (fun _ _ _ _ _ _ us hl => match us, hl with | [], _ => rfl)), fun_okD (tb := tb) (k := 9) F sc_Flat_whole (hb := fun T cdv A outer s H E hT hr => (ds_one (ds_ret (de_newS F_Flat___init__ hT hr pass_own (da_cons' (de_tup (da_cons' (Y.gl_ZERO.elim fun _ ha => ha.elim fun _ hg => de_glob hg.1 hg.2.1 hg.2.2) (da_cons' (Y.gl_ZERO.elim fun _ ha => ha.elim fun _ hg => de_glob hg.1 hg.2.1 hg.2.2) da_nil'))) (da_cons' (de_tup (da_cons' (Y.gl_ONE.elim fun _ ha => ha.elim fun _ hg => de_glob hg.1 hg.2.1 hg.2.2) (da_cons' (Y.gl_ZERO.elim fun _ ha => ha.elim fun _ hg => de_glob hg.1 hg.2.1 hg.2.2) da_nil'))) (da_cons' (de_tup (da_cons' (Y.gl_ZERO.elim fun _ ha => ha.elim fun _ hg => de_glob hg.1 hg.2.1 hg.2.2) (da_cons' (Y.gl_ONE.elim fun _ ha => ha.elim fun _ hg => de_glob hg.1 hg.2.1 hg.2.2) da_nil'))) da_nil')))))))⟩
theorem st_Flat_whole (Y : Tx P w K mg base tb) : StatOk P w K mg base tb "Flat" "whole" 10 (C_Flat K) (f_Flat_whole K) := by
  obtain ⟨fd, U, B, F⟩ := ok_Flat_whole (P := P) (w := w) (base := base) (tb := tb) Y
  exact ⟨Y.c_Flat, _, fd, Y.st_Flat_whole, B, F⟩
def u__law_both_so (K : PySem.W.Frag) : DS :=
  (dSeq (dPar [3, 4] [(dCall (f__law_flat K) [(dVar 1)]), (dCall (f__law_flat K) [(dVar 2)])]) (dSeq (dSet 5 (dOp (oOr oAdd oAddV) (dCall (f__law_asked K) [(dVar 0), (dVar 1)]) (dCall (f__law_asked K) [(dVar 0), (dVar 2)]))) (dSeq (dPar [6, 7] [(dOp (oOwn [(C_Flat K, f_Flat___and__ K)]) (dVar 3) (dVar 4)), (dOp (oOwn [(C_Flat K, f_Flat___or__ K)]) (dVar 3) (dVar 4))]) (dSeq (dIfS (dtOr (dtNot (dtVal (dCall (f__law_is_flat K) [(dVar 6), (dCall (f__law_meet K) [(dVar 1), (dVar 2)]), (dVar 5)]))) (dtNot (dtVal (dCall (f__law_is_flat K) [(dVar 7), (dOp (oOr oAdd oAddV) (dCall gList [(dVar 1)]) (dCall gList [(dVar 2)])), (dVar 5)])))) (dRet (dPure (.bl false))) dNext) (dSeq (dSet 8 (dLst [(dOp (oOr oEqV (oOwnEq [(C_Flat K, f_Flat___eq__ K)] (own K))) (dOp (oOwn [(C_Flat K, f_Flat___and__ K)]) (dVar 4) (dVar 3)) (dVar 6)), (dOp (oOwnEq [(C_Flat K, f_Flat___eq__ K)] (own K)) (dOp (oOwn [(C_Flat K, f_Flat___or__ K)]) (dVar 4) (dVar 3)) (dVar 7)), (dOp (oOwnEq [(C_Flat K, f_Flat___eq__ K)] (own K)) (dOp (oOwn [(C_Flat K, f_Flat___or__ K)]) (dVar 3) (dVar 6)) (dVar 3)), (dOp (oOr oEqV (oOwnEq [(C_Flat K, f_Flat___eq__ K)] (own K))) (dOp (oOwn [(C_Flat K, f_Flat___and__ K)]) (dVar 3) (dVar 7)) (dVar 3)), (dOp (oOr oEqV (oOwnEq [(C_Flat K, f_Flat___eq__ K)] (own K))) (dOp (oOwn [(C_Flat K, f_Flat___and__ K)]) (dVar 6) (dVar 3)) (dVar 6)), (dOp (oOwnEq [(C_Flat K, f_Flat___eq__ K)] (own K)) (dOp (oOwn [(C_Flat K, f_Flat___or__ K)]) (dVar 7) (dVar 4)) (dVar 7)), (dOp (oOr oEqV (oOwnEq [(C_Flat K, f_Flat___eq__ K)] (own K))) (dOp (oOwn [(C_Flat K, f_Flat___and__ K)]) (dVar 3) (dVar 3)) (dVar 3)), (dOp (oOwnEq [(C_Flat K, f_Flat___eq__ K)] (own K)) (dOp (oOwn [(C_Flat K, f_Flat___or__ K)]) (dVar 3) (dVar 3)) (dVar 3))])) (dSeq (dIfS (dtNot (dtVal (dCall (f__law_same K) [(dVar 8), (dLst [(dPure (.bl true)), (dPure (.bl true)), (dPure (.bl true)), (dPure (.bl true)), (dPure (.bl true)), (dPure (.bl true)), (dPure (.bl true)), (dPure (.bl true))])]))) (dRet (dPure (.bl false))) dNext) (dSeq (dSet 8 (dLst [(dOp (oOr oEqV (oOwnEq [(C_Flat K, f_Flat___eq__ K)] (own K))) (dOp (oOwn [(C_Flat K, f_Flat___and__ K)]) (dVar 3) (dNewS (C_Flat K) (f_Flat___init__ K) [])) (dNewS (C_Flat K) (f_Flat___init__ K) [])), (dOp (oOwnEq [(C_Flat K, f_Flat___eq__ K)] (own K)) (dOp (oOwn [(C_Flat K, f_Flat___or__ K)]) (dVar 3) (dNewS (C_Flat K) (f_Flat___init__ K) [])) (dVar 3)), (dOp (oOr oEqV (oOwnEq [(C_Flat K, f_Flat___eq__ K)] (own K))) (dOp (oOwn [(C_Flat K, f_Flat___and__ K)]) (dVar 3) (dStat (f_Flat_whole K))) (dVar 3)), (dOp (oOwnEq [(C_Flat K, f_Flat___eq__ K)] (own K)) (dOp (oOwn [(C_Flat K, f_Flat___or__ K)]) (dStat (f_Flat_whole K)) (dVar 4)) (dStat (f_Flat_whole K))), (dOp (oOwnEq [(C_Flat K, f_Flat___eq__ K)] (own K)) (dOp (oOwn [(C_Flat K, f_Flat___or__ K)]) (dNewS (C_Flat K) (f_Flat___init__ K) []) (dNewS (C_Flat K) (f_Flat___init__ K) [])) (dNewS (C_Flat K) (f_Flat___init__ K) []))])) (dSeq (dIfS (dtNot (dtVal (dCall (f__law_same K) [(dVar 8), (dLst [(dPure (.bl true)), (dPure (.bl true)), (dPure (.bl true)), (dPure (.bl true)), (dPure (.bl true))])]))) (dRet (dPure (.bl false))) dNext) (dRet (dAnd (dCall (f__law_is_flat K) [(dVar 3), (dVar 1), (dVar 5)]) (dCall (f__law_is_flat K) [(dVar 4), (dVar 2), (dVar 5)])))))))))))
@[irreducible] def f__law_both_so (K : PySem.W.Frag) : List D → W D := dDef 9 (u__law_both_so K)
theorem ok__law_both_so (Y : Tx P w K mg base tb) : ∃ f fd, Fun K "_law_both_so" "_law_both_so" s__law_both_so f fd ∧ DefOk P w K mg base tb "_law_both_so" ["_law_bag_here", "_law_some", "_law_far"] 13 (f__law_both_so K) f fd := by
  unfold f__law_both_so
  obtain ⟨a, b, F, M⟩ := Y.d__law_both_so
  obtain ⟨a__law_flat, d__law_flat, U__law_flat, F__law_flat⟩ := ok__law_flat (P := P) (w := w) (base := base) (tb := tb) Y
  obtain ⟨a__law_asked, d__law_asked, U__law_asked, F__law_asked⟩ := ok__law_asked (P := P) (w := w) (base := base) (tb := tb) Y
  obtain ⟨a__law_is_flat, d__law_is_flat, U__law_is_flat, F__law_is_flat⟩ := ok__law_is_flat (P := P) (w := w) (base := base) (tb := tb) Y
  obtain ⟨a__law_meet, d__law_meet, U__law_meet, F__law_meet⟩ := ok__law_meet (P := P) (w := w) (base := base) (tb := tb) Y
  obtain ⟨a__law_same, d__law_same, U__law_same, F__law_same⟩ := ok__law_same (P := P) (w := w) (base := base) (tb := tb) Y
  obtain ⟨a_Flat___init__, d_Flat___init__, U_Flat___init__, F_Flat___init__⟩ := ok_Flat___init__ (P := P) (w := w) (base := base) (tb := tb) Y
  exact ⟨a, b, F, ⟨M, F.kp, (F.binds (ps := ["_law_bag_here", "_law_some", "_law_far"]) (fun _ _ _ _ _ _ us hl => match us, hl with | [_, _, _], _ => rfl)), fun_okD (tb := tb) (k := 12) F sc__law_both_so (hb := fun T cdv A outer s H E hT hr => (ds_cons (ds_par (ps_par (i := 3) (j := 4) (by rfl) sc__law_both_so.nd rfl rfl (by decide) rfl rfl (da_cons' (de_call F__law_flat hT hr pass_own (da_cons' (de_var 1) da_nil')) (da_cons' (de_call F__law_flat hT hr pass_own (da_cons' (de_var 2) da_nil')) da_nil')) (by rfl))) (ds_cons (ds_set (i := 5) sc__law_both_so.nd rfl (.inl rfl) (de_op (or_or or_add or_addV) (de_call F__law_asked hT hr pass_own (da_cons' (de_var 0) (da_cons' (de_var 1) da_nil'))) (de_call F__law_asked hT hr pass_own (da_cons' (de_var 0) (da_cons' (de_var 2) da_nil'))))) (ds_cons (ds_par (ps_par (i := 6) (j := 7) (by rfl) sc__law_both_so.nd rfl rfl (by decide) rfl rfl (da_cons' (de_op (or_own (op := .BitAnd) (allC (own_Flat___and__ Y) allN) hT hr pass_own) (de_var 3) (de_var 4)) (da_cons' (de_op (or_own (op := .BitOr) (allC (own_Flat___or__ Y) allN) hT hr pass_own) (de_var 3) (de_var 4)) da_nil')) (by rfl))) (ds_cons (ds_if (dt_w (dw_or (dt_not (dt_val (de_call F__law_is_flat hT hr pass_own (da_cons' (de_var 6) (da_cons' (de_call F__law_meet hT hr pass_own (da_cons' (de_var 1) (da_cons' (de_var 2) da_nil'))) (da_cons' (de_var 5) da_nil')))))) (dw_or1 (dt_not (dt_val (de_call F__law_is_flat hT hr pass_own (da_cons' (de_var 7) (da_cons' (de_op (or_or or_add or_addV) (de_callTy cb_list Y.b_list (da_cons' (de_var 1) da_nil')) (de_callTy cb_list Y.b_list (da_cons' (de_var 2) da_nil'))) (da_cons' (de_var 5) da_nil'))))))))) (ds_one (ds_ret de_bl)) ds_nil) (ds_cons (ds_set (i := 8) sc__law_both_so.nd rfl (.inl rfl) (de_lst (da_cons' (de_cmp (or_or (or_eqV hr.units) (or_ownEq Y.isi (allC (eqc_Flat Y) allN) hT hr pass_own)) (de_op (or_own (op := .BitAnd) (allC (own_Flat___and__ Y) allN) hT hr pass_own) (de_var 4) (de_var 3)) (de_var 6)) (da_cons' (de_cmp (or_ownEq Y.isi (allC (eqc_Flat Y) allN) hT hr pass_own) (de_op (or_own (op := .BitOr) (allC (own_Flat___or__ Y) allN) hT hr pass_own) (de_var 4) (de_var 3)) (de_var 7)) (da_cons' (de_cmp (or_ownEq Y.isi (allC (eqc_Flat Y) allN) hT hr pass_own) (de_op (or_own (op := .BitOr) (allC (own_Flat___or__ Y) allN) hT hr pass_own) (de_var 3) (de_var 6)) (de_var 3)) (da_cons' (de_cmp (or_or (or_eqV hr.units) (or_ownEq Y.isi (allC (eqc_Flat Y) allN) hT hr pass_own)) (de_op (or_own (op := .BitAnd) (allC (own_Flat___and__ Y) allN) hT hr pass_own) (de_var 3) (de_var 7)) (de_var 3)) (da_cons' (de_cmp (or_or (or_eqV hr.units) (or_ownEq Y.isi (allC (eqc_Flat Y) allN) hT hr pass_own)) (de_op (or_own (op := .BitAnd) (allC (own_Flat___and__ Y) allN) hT hr pass_own) (de_var 6) (de_var 3)) (de_var 6)) (da_cons' (de_cmp (or_ownEq Y.isi (allC (eqc_Flat Y) allN) hT hr pass_own) (de_op (or_own (op := .BitOr) (allC (own_Flat___or__ Y) allN) hT hr pass_own) (de_var 7) (de_var 4)) (de_var 7)) (da_cons' (de_cmp (or_or (or_eqV hr.units) (or_ownEq Y.isi (allC (eqc_Flat Y) allN) hT hr pass_own)) (de_op (or_own (op := .BitAnd) (allC (own_Flat___and__ Y) allN) hT hr pass_own) (de_var 3) (de_var 3)) (de_var 3)) (da_cons' (de_cmp (or_ownEq Y.isi (allC (eqc_Flat Y) allN) hT hr pass_own) (de_op (or_own (op := .BitOr) (allC (own_Flat___or__ Y) allN) hT hr pass_own) (de_var 3) (de_var 3)) (de_var 3)) da_nil')))))))))) (ds_cons (ds_if (dt_not (dt_val (de_call F__law_same hT hr pass_own (da_cons' (de_var 8) (da_cons' (de_lst (da_cons' de_bl (da_cons' de_bl (da_cons' de_bl (da_cons' de_bl (da_cons' de_bl (da_cons' de_bl (da_cons' de_bl (da_cons' de_bl da_nil'))))))))) da_nil'))))) (ds_one (ds_ret de_bl)) ds_nil) (ds_cons (ds_set (i := 8) sc__law_both_so.nd rfl (.inl rfl) (de_lst (da_cons' (de_cmp (or_or (or_eqV hr.units) (or_ownEq Y.isi (allC (eqc_Flat Y) allN) hT hr pass_own)) (de_op (or_own (op := .BitAnd) (allC (own_Flat___and__ Y) allN) hT hr pass_own) (de_var 3) (de_newS0 F_Flat___init__ hT hr pass_own)) (de_newS0 F_Flat___init__ hT hr pass_own)) (da_cons' (de_cmp (or_ownEq Y.isi (allC (eqc_Flat Y) allN) hT hr pass_own) (de_op (or_own (op := .BitOr) (allC (own_Flat___or__ Y) allN) hT hr pass_own) (de_var 3) (de_newS0 F_Flat___init__ hT hr pass_own)) (de_var 3)) (da_cons' (de_cmp (or_or (or_eqV hr.units) (or_ownEq Y.isi (allC (eqc_Flat Y) allN) hT hr pass_own)) (de_op (or_own (op := .BitAnd) (allC (own_Flat___and__ Y) allN) hT hr pass_own) (de_var 3) (de_static (st_Flat_whole Y) hT hr pass_own)) (de_var 3)) (da_cons' (de_cmp (or_ownEq Y.isi (allC (eqc_Flat Y) allN) hT hr pass_own) (de_op (or_own (op := .BitOr) (allC (own_Flat___or__ Y) allN) hT hr pass_own) (de_static (st_Flat_whole Y) hT hr pass_own) (de_var 4)) (de_static (st_Flat_whole Y) hT hr pass_own)) (da_cons' (de_cmp (or_ownEq Y.isi (allC (eqc_Flat Y) allN) hT hr pass_own) (de_op (or_own (op := .BitOr) (allC (own_Flat___or__ Y) allN) hT hr pass_own) (de_newS0 F_Flat___init__ hT hr pass_own) (de_newS0 F_Flat___init__ hT hr pass_own)) (de_newS0 F_Flat___init__ hT hr pass_own)) da_nil'))))))) (ds_cons (ds_if (dt_not (dt_val (de_call F__law_same hT hr pass_own (da_cons' (de_var 8) (da_cons' (de_lst (da_cons' de_bl (da_cons' de_bl (da_cons' de_bl (da_cons' de_bl (da_cons' de_bl da_nil')))))) da_nil'))))) (ds_one (ds_ret de_bl)) ds_nil) (ds_one (ds_ret (de_and (de_call F__law_is_flat hT hr pass_own (da_cons' (de_var 3) (da_cons' (de_var 1) (da_cons' (de_var 5) da_nil')))) (de_one (de_call F__law_is_flat hT hr pass_own (da_cons' (de_var 4) (da_cons' (de_var 2) (da_cons' (de_var 5) da_nil')))))))))))))))))⟩⟩
def u__law_table (K : PySem.W.Frag) : DS :=
  (dSeq (dSet 1 (dCall (f__law_draw K) [(dVar 0), (dPure (.int 8))])) (dSeq (dIfS (dtVal (dOp oEq (dVar 1) (dPure (.int 0)))) (dRet (dTup [(dTup [(dPure (.int 0)), (dPure (.int 1))]), (dTup [(dPure (.int 0)), (dPure (.int 1))]), (dTup [(dPure (.int 0)), (dPure (.int 1))]), (dTup [(dPure (.int 0)), (dPure (.int 1))])])) dNext) (dSeq (dIfS (dtVal (dOp oLt (dVar 1) (dPure (.int 3)))) (dSeq (dPar [2, 3] [(dCall (f__law_near K) [(dVar 0)]), (dCall (f__law_small K) [(dVar 0)])]) (dSeq (dSet 4 (dCall (f__law_long K) [(dVar 2), (dVar 3)])) (dRet (dIf (dtVal (dOp oEq (dVar 1) (dPure (.int 1)))) (dTup [(dOp oIx (dVar 2) (dPure (.int 0))), (dOp oIx (dVar 2) (dPure (.int 1))), (dOp oIx (dVar 4) (dPure (.int 0))), (dOp oIx (dVar 4) (dPure (.int 1)))]) (dTup [(dOp oIx (dVar 4) (dPure (.int 0))), (dOp oIx (dVar 2) (dPure (.int 0))), (dOp oIx (dVar 4) (dPure (.int 1))), (dOp oIx (dVar 2) (dPure (.int 1)))]))))) dNext) (dSeq (dIfS (dtVal (dOp oLt (dVar 1) (dPure (.int 5)))) (dRet (dTup [(dCall (f__law_fraction K) [(dVar 0)]), (dCall (f__law_fraction K) [(dVar 0)]), (dCall (f__law_fraction K) [(dVar 0)]), (dCall (f__law_fraction K) [(dVar 0)])])) dNext) (dRet (dTup [(dCall (f__law_small K) [(dVar 0)]), (dCall (f__law_small K) [(dVar 0)]), (dCall (f__law_small K) [(dVar 0)]), (dCall (f__law_small K) [(dVar 0)])]))))))
@[irreducible] def f__law_table (K : PySem.W.Frag) : List D → W D := dDef 5 (u__law_table K)
theorem ok__law_table (Y : Tx P w K mg base tb) : ∃ f fd, Fun K "_law_table" "_law_table" s__law_table f fd ∧ DefOk P w K mg base tb "_law_table" ["_law_bag_here"] 5 (f__law_table K) f fd := by
  unfold f__law_table
  obtain ⟨a, b, F, M⟩ := Y.d__law_table
  obtain ⟨a__law_draw, d__law_draw, U__law_draw, F__law_draw⟩ := ok__law_draw (P := P) (w := w) (base := base) (tb := tb) Y
  obtain ⟨a__law_near, d__law_near, U__law_near, F__law_near⟩ := ok__law_near (P := P) (w := w) (base := base) (tb := tb) Y
  obtain ⟨a__law_small, d__law_small, U__law_small, F__law_small⟩ := ok__law_small (P := P) (w := w) (base := base) (tb := tb) Y
  obtain ⟨a__law_long, d__law_long, U__law_long, F__law_long⟩ := ok__law_long (P := P) (w := w) (base := base) (tb := tb) Y
  obtain ⟨a__law_fraction, d__law_fraction, U__law_fraction, F__law_fraction⟩ := ok__law_fraction (P := P) (w := w) (base := base) (tb := tb) Y
  exact ⟨a, b, F, ⟨M, F.kp, (F.binds (ps := ["_law_bag_here"]) (fun _ _ _ _ _ _ us hl => match us, hl with | [_], _ => rfl)), fun_okD (tb := tb) (k := 4) F sc__law_table (hb := fun T cdv A outer s H E hT hr => (ds_cons (ds_set (i := 1) sc__law_table.nd rfl (.inl rfl) (de_call F__law_draw hT hr pass_own (da_cons' (de_var 0) (da_cons' de_int da_nil')))) (ds_cons (ds_if (dt_cmp (or_eq hr.units) (de_var 1) de_int) (ds_one (ds_ret (de_tup (da_cons' (de_tup (da_cons' de_int (da_cons' de_int da_nil'))) (da_cons' (de_tup (da_cons' de_int (da_cons' de_int da_nil'))) (da_cons' (de_tup (da_cons' de_int (da_cons' de_int da_nil'))) (da_cons' (de_tup (da_cons' de_int (da_cons' de_int da_nil'))) da_nil'))))))) ds_nil) (ds_cons (ds_if (dt_cmp or_lt (de_var 1) de_int) (ds_cons (ds_par (ps_par (i := 2) (j := 3) (by rfl) sc__law_table.nd rfl rfl (by decide) rfl rfl (da_cons' (de_call F__law_near hT hr pass_own (da_cons' (de_var 0) da_nil')) (da_cons' (de_call F__law_small hT hr pass_own (da_cons' (de_var 0) da_nil')) da_nil')) (by rfl))) (ds_cons (ds_set (i := 4) sc__law_table.nd rfl (.inl rfl) (de_call F__law_long hT hr pass_own (da_cons' (de_var 2) (da_cons' (de_var 3) da_nil')))) (ds_one (ds_ret (de_if (dt_cmp (or_eq hr.units) (de_var 1) de_int) (de_tup (da_cons' (de_ix or_ix (de_var 2) de_int) (da_cons' (de_ix or_ix (de_var 2) de_int) (da_cons' (de_ix or_ix (de_var 4) de_int) (da_cons' (de_ix or_ix (de_var 4) de_int) da_nil'))))) (de_tup (da_cons' (de_ix or_ix (de_var 4) de_int) (da_cons' (de_ix or_ix (de_var 2) de_int) (da_cons' (de_ix or_ix (de_var 4) de_int) (da_cons' (de_ix or_ix (de_var 2) de_int) da_nil')))))))))) ds_nil) (ds_cons (ds_if (dt_cmp or_lt (de_var 1) de_int) (ds_one (ds_ret (de_tup (da_cons' (de_call F__law_fraction hT hr pass_own (da_cons' (de_var 0) da_nil')) (da_cons' (de_call F__law_fraction hT hr pass_own (da_cons' (de_var 0) da_nil')) (da_cons' (de_call F__law_fraction hT hr pass_own (da_cons' (de_var 0) da_nil')) (da_cons' (de_call F__law_fraction hT hr pass_own (da_cons' (de_var 0) da_nil')) da_nil'))))))) ds_nil) (ds_one (ds_ret (de_tup (da_cons' (de_call F__law_small hT hr pass_own (da_cons' (de_var 0) da_nil')) (da_cons' (de_call F__law_small hT hr pass_own (da_cons' (de_var 0) da_nil')) (da_cons' (de_call F__law_small hT hr pass_own (da_cons' (de_var 0) da_nil')) (da_cons' (de_call F__law_small hT hr pass_own (da_cons' (de_var 0) da_nil')) da_nil'))))))))))))⟩⟩
def u_Motion___init__ (K : PySem.W.Frag) : DS :=
  (dSeq (dIfS (dtNot (dtVal (dCall (f_is_spot K) [(dVar 2)]))) (fun _ _ _ => False) dNext) (dSeq (dSto [C_Motion K] "table" (dVar 0) (dVar 1)) (dSto [C_Motion K] "move" (dVar 0) (dVar 2))))
@[irreducible] def f_Motion___init__ (K : PySem.W.Frag) : List D → W D := dDef 3 (u_Motion___init__ K)
theorem ok_Motion___init__ (Y : Tx P w K mg base tb) : ∃ f fd, FunD K "__init__" "Motion.__init__" (defArgs s_Motion___init__) (defBody s_Motion___init__) (defScope s_Motion___init__) [.ref (He.dflAt ("Motion", some "__init__") 0 K)] [] f fd ∧ ∃ (_ : NewOk P w K mg base tb "Motion" ["self", "table", "move"] 4 (C_Motion K) (f_Motion___init__ K) f fd), ∃ us, ∃ (_ : Vals [.ref (He.dflAt ("Motion", some "__init__") 0 K)] us) (_ : Binds K fd ["self", "table", "move"] us), ∀ M H, Reps K M H [.tup [g_ZERO, g_ZERO]] [.ref (He.dflAt ("Motion", some "__init__") 0 K)] := by
  unfold f_Motion___init__
  obtain ⟨b, F⟩ := Y.fn_Motion___init__
  obtain ⟨a_is_spot, d_is_spot, U_is_spot, F_is_spot⟩ := ok_is_spot (P := P) (w := w) (base := base) (tb := tb) Y
  obtain ⟨us, V, B⟩ := F.binds1 (ps := ["self", "table", "move"]) 2 0 (by simp) rfl fun T kV doc pm an cdv ct us its l1 l2 => match us, l1, its, l2 with | [_, _], _, [_], _ => ⟨_, rfl, by first | rfl | with_unfolding_all rfl | kernel_rfl⟩
  exact ⟨_, b, F, ⟨Y.c_Motion, Y.mk_Motion, (fund_full F 3 (by simp) rfl fun T kV doc pm an cdv ct us its l1 l2 => match us, l1, its, l2 with | [_, _, _], _, [_], _ => ⟨_, rfl, by first | rfl | with_unfolding_all rfl | kernel_rfl⟩), fund_okD (tb := tb) (k := 3) F sc_Motion___init__ (hb := fun T cdv A outer s H E hT hr => (ds_cons (ds_if (dt_not (dt_val (de_call F_is_spot hT hr pass_own (da_cons' (de_var 2) da_nil')))) (ds_one ds_never) ds_nil) (ds_cons (ds_sto (allC ⟨Y.cls_Motion, Y.na_Motion_table⟩ allN) (de_var 0) (de_var 1)) (ds_one (ds_sto (allC ⟨Y.cls_Motion, Y.na_Motion_move⟩ allN) (de_var 0) (de_var 2))))))⟩, us, V, B, fun _ _ => (rcons (Y.df_Motion___init___0 _ _) rnil)⟩
def u__law_led (K : PySem.W.Frag) : DS :=
  (dSeq (dSet 2 (dCall (f__law_sum K) [(dCall (f__law_product K) [(dOp oIx (dVar 0) (dPure (.int 0))), (dOp oIx (dVar 1) (dPure (.int 0)))]), (dCall (f__law_product K) [(dOp oIx (dVar 0) (dPure (.int 1))), (dOp oIx (dVar 1) (dPure (.int 1)))])])) (dRet (dTup [(dVar 2), (dCall (f__law_sum K) [(dCall (f__law_product K) [(dOp oIx (dVar 0) (dPure (.int 2))), (dOp oIx (dVar 1) (dPure (.int 0)))]), (dCall (f__law_product K) [(dOp oIx (dVar 0) (dPure (.int 3))), (dOp oIx (dVar 1) (dPure (.int 1)))])])])))
@[irreducible] def f__law_led (K : PySem.W.Frag) : List D → W D := dDef 3 (u__law_led K)
theorem ok__law_led (Y : Tx P w K mg base tb) : ∃ f fd, Fun K "_law_led" "_law_led" s__law_led f fd ∧ DefOk P w K mg base tb "_law_led" ["_law_t", "_law_v"] 4 (f__law_led K) f fd := by
  unfold f__law_led
  obtain ⟨a, b, F, M⟩ := Y.d__law_led
  obtain ⟨a__law_sum, d__law_sum, U__law_sum, F__law_sum⟩ := ok__law_sum (P := P) (w := w) (base := base) (tb := tb) Y
  obtain ⟨a__law_product, d__law_product, U__law_product, F__law_product⟩ := ok__law_product (P := P) (w := w) (base := base) (tb := tb) Y
  exact ⟨a, b, F, ⟨M, F.kp, (F.binds (ps := ["_law_t", "_law_v"]) (fun _ _ _ _ _ _ us hl => match us, hl with | [_, _], _ => rfl)), fun_okD (tb := tb) (k := 3) F sc__law_led (hb := fun T cdv A outer s H E hT hr => (ds_cons (ds_set (i := 2) sc__law_led.nd rfl (.inl rfl) (de_call F__law_sum hT hr pass_own (da_cons' (de_call F__law_product hT hr pass_own (da_cons' (de_ix or_ix (de_var 0) de_int) (da_cons' (de_ix or_ix (de_var 1) de_int) da_nil'))) (da_cons' (de_call F__law_product hT hr pass_own (da_cons' (de_ix or_ix (de_var 0) de_int) (da_cons' (de_ix or_ix (de_var 1) de_int) da_nil'))) da_nil')))) (ds_one (ds_ret (de_tup (da_cons' (de_var 2) (da_cons' (de_call F__law_sum hT hr pass_own (da_cons' (de_call F__law_product hT hr pass_own (da_cons' (de_ix or_ix (de_var 0) de_int) (da_cons' (de_ix or_ix (de_var 1) de_int) da_nil'))) (da_cons' (de_call F__law_product hT hr pass_own (da_cons' (de_ix or_ix (de_var 0) de_int) (da_cons' (de_ix or_ix (de_var 1) de_int) da_nil'))) da_nil'))) da_nil')))))))⟩⟩
def u_vector_plus (K : PySem.W.Frag) : DS :=
  (dRet (dTup [(dCall (f_plus K) [(dOp oIx (dVar 0) (dPure (.int 0))), (dOp oIx (dVar 1) (dPure (.int 0)))]), (dCall (f_plus K) [(dOp oIx (dVar 0) (dPure (.int 1))), (dOp oIx (dVar 1) (dPure (.int 1)))])]))
@[irreducible] def f_vector_plus (K : PySem.W.Frag) : List D → W D := dDef 2 (u_vector_plus K)
theorem ok_vector_plus (Y : Tx P w K mg base tb) : ∃ f fd, Fun K "vector_plus" "vector_plus" s_vector_plus f fd ∧ DefOk P w K mg base tb "vector_plus" ["one", "other"] 3 (f_vector_plus K) f fd := by
  unfold f_vector_plus
  obtain ⟨a, b, F, M⟩ := Y.d_vector_plus
  obtain ⟨a_plus, d_plus, U_plus, F_plus⟩ := ok_plus (P := P) (w := w) (base := base) (tb := tb) Y
  exact ⟨a, b, F, ⟨M, F.kp, (F.binds (ps := ["one", "other"]) (fun _ _ _ _ _ _ us hl => match us, hl with | [_, _], _ => rfl)), fun_okD (tb := tb) (k := 2) F sc_vector_plus (hb := fun T cdv A outer s H E hT hr => (ds_one (ds_ret (de_tup (da_cons' (de_call F_plus hT hr pass_own (da_cons' (de_ix or_ix (de_var 0) de_int) (da_cons' (de_ix or_ix (de_var 1) de_int) da_nil'))) (da_cons' (de_call F_plus hT hr pass_own (da_cons' (de_ix or_ix (de_var 0) de_int) (da_cons' (de_ix or_ix (de_var 1) de_int) da_nil'))) da_nil'))))))⟩⟩
def u_taken (K : PySem.W.Frag) : DS :=
  (dSeq (dUnp [2, 3] (dVar 1)) (dRet (dTup [(dCall (f_plus K) [(dCall (f_times K) [(dFld [C_Table K] "a" (dVar 0)), (dVar 2)]), (dCall (f_times K) [(dFld [C_Table K] "b" (dVar 0)), (dVar 3)])]), (dCall (f_plus K) [(dCall (f_times K) [(dFld [C_Table K] "c" (dVar 0)), (dVar 2)]), (dCall (f_times K) [(dFld [C_Table K] "d" (dVar 0)), (dVar 3)])])])))
@[irreducible] def f_taken (K : PySem.W.Frag) : List D → W D := dDef 4 (u_taken K)
theorem ok_taken (Y : Tx P w K mg base tb) : ∃ f fd, Fun K "taken" "taken" s_taken f fd ∧ DefOk P w K mg base tb "taken" ["table", "vector"] 3 (f_taken K) f fd := by
  unfold f_taken
  obtain ⟨a, b, F, M⟩ := Y.d_taken
  obtain ⟨a_plus, d_plus, U_plus, F_plus⟩ := ok_plus (P := P) (w := w) (base := base) (tb := tb) Y
  obtain ⟨a_times, d_times, U_times, F_times⟩ := ok_times (P := P) (w := w) (base := base) (tb := tb) Y
  exact ⟨a, b, F, ⟨M, F.kp, (F.binds (ps := ["table", "vector"]) (fun _ _ _ _ _ _ us hl => match us, hl with | [_, _], _ => rfl)), fun_okD (tb := tb) (k := 2) F sc_taken (hb := fun T cdv A outer s H E hT hr => (ds_cons (ds_unp (is := [2, 3]) (n := 2) (ps_asg (de_var 1) (pg_tup rfl (pgs_cons (pg_name (i := 2) sc_taken.nd rfl (.inl rfl)) (pgs_cons (pg_name (i := 3) sc_taken.nd rfl (.inl rfl)) pgs_nil))))) (ds_one (ds_ret (de_tup (da_cons' (de_call F_plus hT hr pass_own (da_cons' (de_call F_times hT hr pass_own (da_cons' (de_fld (de_var 0) (allC ⟨Y.cls_Table, Y.na_Table_a⟩ allN)) (da_cons' (de_var 2) da_nil'))) (da_cons' (de_call F_times hT hr pass_own (da_cons' (de_fld (de_var 0) (allC ⟨Y.cls_Table, Y.na_Table_b⟩ allN)) (da_cons' (de_var 3) da_nil'))) da_nil'))) (da_cons' (de_call F_plus hT hr pass_own (da_cons' (de_call F_times hT hr pass_own (da_cons' (de_fld (de_var 0) (allC ⟨Y.cls_Table, Y.na_Table_c⟩ allN)) (da_cons' (de_var 2) da_nil'))) (da_cons' (de_call F_times hT hr pass_own (da_cons' (de_fld (de_var 0) (allC ⟨Y.cls_Table, Y.na_Table_d⟩ allN)) (da_cons' (de_var 3) da_nil'))) da_nil'))) da_nil')))))))⟩⟩
def u_moved_spot (K : PySem.W.Frag) : DS :=
  (dRet (dCall (f_vector_plus K) [(dCall (f_taken K) [(dFld [C_Motion K] "table" (dVar 0)), (dVar 1)]), (dFld [C_Motion K] "move" (dVar 0))]))
@[irreducible] def f_moved_spot (K : PySem.W.Frag) : List D → W D := dDef 2 (u_moved_spot K)
theorem ok_moved_spot (Y : Tx P w K mg base tb) : ∃ f fd, Fun K "moved_spot" "moved_spot" s_moved_spot f fd ∧ DefOk P w K mg base tb "moved_spot" ["motion", "spot"] 4 (f_moved_spot K) f fd := by
  unfold f_moved_spot
  obtain ⟨a, b, F, M⟩ := Y.d_moved_spot
  obtain ⟨a_vector_plus, d_vector_plus, U_vector_plus, F_vector_plus⟩ := ok_vector_plus (P := P) (w := w) (base := base) (tb := tb) Y
  obtain ⟨a_taken, d_taken, U_taken, F_taken⟩ := ok_taken (P := P) (w := w) (base := base) (tb := tb) Y
  exact ⟨a, b, F, ⟨M, F.kp, (F.binds (ps := ["motion", "spot"]) (fun _ _ _ _ _ _ us hl => match us, hl with | [_, _], _ => rfl)), fun_okD (tb := tb) (k := 3) F sc_moved_spot (hb := fun T cdv A outer s H E hT hr => (ds_one (ds_ret (de_call F_vector_plus hT hr pass_own (da_cons' (de_call F_taken hT hr pass_own (da_cons' (de_fld (de_var 0) (allC ⟨Y.cls_Motion, Y.na_Motion_table⟩ allN)) (da_cons' (de_var 1) da_nil'))) (da_cons' (de_fld (de_var 0) (allC ⟨Y.cls_Motion, Y.na_Motion_move⟩ allN)) da_nil'))))))⟩⟩
def u_Motion___call__ (K : PySem.W.Frag) : DS :=
  (dSeq (dIfS (dtNot (dtVal (dCall (f_is_spot K) [(dVar 1)]))) (fun _ _ _ => False) dNext) (dRet (dCall (f_moved_spot K) [(dVar 0), (dVar 1)])))
@[irreducible] def f_Motion___call__ (K : PySem.W.Frag) : List D → W D := dDef 2 (u_Motion___call__ K)
theorem ok_Motion___call__ (Y : Tx P w K mg base tb) : ∃ fd, Fun K "__call__" "Motion.__call__" s_Motion___call__ (ad_Motion___call__ K) fd ∧ Binds K fd ["self", "spot"] [] ∧ FnOk P w K mg base (L2.CX P w) 5 (ad_Motion___call__ K) fd ["self", "spot"] (spD K tb 2 (f_Motion___call__ K)) := by
  unfold f_Motion___call__
  obtain ⟨b, F⟩ := Y.fn_Motion___call__
  obtain ⟨a_is_spot, d_is_spot, U_is_spot, F_is_spot⟩ := ok_is_spot (P := P) (w := w) (base := base) (tb := tb) Y
  obtain ⟨a_moved_spot, d_moved_spot, U_moved_spot, F_moved_spot⟩ := ok_moved_spot (P := P) (w := w) (base := base) (tb := tb) Y
  exact ⟨b, F, (F.binds (ps := ["self", "spot"]) (fun _ _ _ _ _ _ us hl => match us, hl with | [_, _], _ => rfl)), fun_okD (tb := tb) (k := 4) F sc_Motion___call__ (hb := fun T cdv A outer s H E hT hr => (ds_cons (ds_if (dt_not (dt_val (de_call F_is_spot hT hr pass_own (da_cons' (de_var 1) da_nil')))) (ds_one ds_never) ds_nil) (ds_one (ds_ret (de_call F_moved_spot hT hr pass_own (da_cons' (de_var 0) (da_cons' (de_var 1) da_nil')))))))⟩
theorem oc_Motion (Y : Tx P w K mg base tb) : OcOk P w K mg base tb ["self", "spot"] 5 (C_Motion K) (f_Motion___call__ K) := by
  obtain ⟨fd, U, B, F⟩ := ok_Motion___call__ (P := P) (w := w) (base := base) (tb := tb) Y
  exact ⟨_, fd, Y.oc_Motion, B, F⟩
def u_Flat_moved (K : PySem.W.Frag) : DS :=
  (dSeq (dSet 2 (dLc [3] (.nm 3) (cSeq (dFld [C_Flat K] "_corners" (dVar 0))) dYes (dOcall [(C_Motion K, f_Motion___call__ K)] (dVar 1) [(dVar 3)]))) (dRet (dNewX (C_Flat K) (f_Flat___init__ K) (dVar 2))))
@[irreducible] def f_Flat_moved (K : PySem.W.Frag) : List D → W D := dDef 4 (u_Flat_moved K)
theorem ok_Flat_moved (Y : Tx P w K mg base tb) : ∃ fd, Fun K "moved" "Flat.moved" s_Flat_moved (ad_Flat_moved K) fd ∧ Binds K fd ["self", "motion"] [] ∧ FnOk P w K mg base (L2.CX P w) 10 (ad_Flat_moved K) fd ["self", "motion"] (spD K tb 2 (f_Flat_moved K)) := by
  unfold f_Flat_moved
  obtain ⟨b, F⟩ := Y.fn_Flat_moved
  obtain ⟨a_Flat___init__, d_Flat___init__, U_Flat___init__, F_Flat___init__⟩ := ok_Flat___init__ (P := P) (w := w) (base := base) (tb := tb) Y
  exact ⟨b, F, (F.binds (ps := ["self", "motion"]) (fun _ _ _ _ _ _ us hl => match us, hl with | [_, _], _ => rfl)), fun_okD (tb := tb) (k := 9) F sc_Flat_moved (hb := fun T cdv A outer s H E hT hr => (ds_cons (ds_setLc (i := 2) (own := [("spot", 3)]) sc_Flat_moved.nd rfl rfl (sw_true rfl rfl rfl (by decide +kernel)) (ci_seq (de_fld (de_var 0) (allC ⟨Y.cls_Flat, Y.na_Flat__corners⟩ allN))) (blkOk_by (own := [("spot", 3)]) (N := ["self", "motion", "images", "spot"]) (sc := (defScope s_Flat_moved)) (by decide +kernel)) (by decide) (fun _ _ _ _ _ => (pg_name (i := 3) sc_Flat_moved.nd rfl (.inl rfl))) (fun _ _ _ _ _ _ _ => dts_nil) (fun T2 eT _ _ _ _ _ => have hT2 := eT.trans hT; (de_ocall (de_var 1) (allC (oc_Motion Y) allN) hT2 hr passL (da_cons' (de_var 3) da_nil')))) (ds_one (ds_ret (de_newX F_Flat___init__ hT hr pass_own (de_var 2))))))⟩
theorem meth_Flat_moved (Y : Tx P w K mg base tb) : MethOk P w K mg base tb "moved" 1 10 (C_Flat K) (f_Flat_moved K) := by
  obtain ⟨fd, U, B, F⟩ := ok_Flat_moved (P := P) (w := w) (base := base) (tb := tb) Y
  exact ⟨Y.cls_Flat, _, fd, _, Y.me_Flat_moved, rfl, B, F⟩
theorem mk_Flat_moved_motion (Y : Tx P w K mg base tb) : MethKOk P w K mg base tb "moved" ["self", "motion"] ["motion"] [0, 1] 10 (C_Flat K) (f_Flat_moved K) := by
  obtain ⟨fd, U, B, F⟩ := ok_Flat_moved (P := P) (w := w) (base := base) (tb := tb) Y
  exact ⟨Y.cls_Flat, _, fd, Y.me_Flat_moved, kb_Flat_moved_1_motion U, F⟩
def u_Table_identity (K : PySem.W.Frag) : DS :=
  (dRet (dNew (C_Table K) (f_Table___init__ K) true [] [(dPure g_ONE), (dPure g_ZERO), (dPure g_ZERO), (dPure g_ONE)]))
@[irreducible] def f_Table_identity (K : PySem.W.Frag) : List D → W D := dDef 0 (u_Table_identity K)
theorem ok_Table_identity (Y : Tx P w K mg base tb) : ∃ fd, Fun K "identity" "Table.identity" s_Table_identity (ad_Table_identity K) fd ∧ Binds K fd [] [] ∧ FnOk P w K mg base (L2.CX P w) 5 (ad_Table_identity K) fd [] (spD K tb 0 (f_Table_identity K)) := by
  unfold f_Table_identity
  obtain ⟨b, F⟩ := Y.fn_Table_identity
  obtain ⟨a_Table___init__, d_Table___init__, U_Table___init__, F_Table___init__⟩ := ok_Table___init__ (P := P) (w := w) (base := base) (tb := tb) Y
  exact ⟨b, F, (F.binds (ps := []) (fun _ _ _ _ _ _ us hl => match us, hl with | [], _ => rfl)), fun_okD (tb := tb) (k := 4) F sc_Table_identity (hb := fun T cdv A outer s H E hT hr => (ds_one (ds_ret (de_new F_Table___init__ hT hr pass_own (da_cons' (Y.gl_ONE.elim fun _ ha => ha.elim fun _ hg => de_glob hg.1 hg.2.1 hg.2.2) (da_cons' (Y.gl_ZERO.elim fun _ ha => ha.elim fun _ hg => de_glob hg.1 hg.2.1 hg.2.2) (da_cons' (Y.gl_ZERO.elim fun _ ha => ha.elim fun _ hg => de_glob hg.1 hg.2.1 hg.2.2) (da_cons' (Y.gl_ONE.elim fun _ ha => ha.elim fun _ hg => de_glob hg.1 hg.2.1 hg.2.2) da_nil'))))))))⟩
theorem st_Table_identity (Y : Tx P w K mg base tb) : StatOk P w K mg base tb "Table" "identity" 5 (C_Table K) (f_Table_identity K) := by
  obtain ⟨fd, U, B, F⟩ := ok_Table_identity (P := P) (w := w) (base := base) (tb := tb) Y
  exact ⟨Y.c_Table, _, fd, Y.st_Table_identity, B, F⟩
def u_Motion_identity (K : PySem.W.Frag) : DS :=
  (dRet (dNew (C_Motion K) (f_Motion___init__ K) true [.tup [g_ZERO, g_ZERO]] [(dStat (f_Table_identity K))]))
@[irreducible] def f_Motion_identity (K : PySem.W.Frag) : List D → W D := dDef 0 (u_Motion_identity K)
theorem ok_Motion_identity (Y : Tx P w K mg base tb) : ∃ fd, Fun K "identity" "Motion.identity" s_Motion_identity (ad_Motion_identity K) fd ∧ Binds K fd [] [] ∧ FnOk P w K mg base (L2.CX P w) 6 (ad_Motion_identity K) fd [] (spD K tb 0 (f_Motion_identity K)) := by
  unfold f_Motion_identity
  obtain ⟨b, F⟩ := Y.fn_Motion_identity
  obtain ⟨a_Motion___init__, d_Motion___init__, U_Motion___init__, F_Motion___init__, us_Motion___init__, V_Motion___init__, B_Motion___init__, R_Motion___init__⟩ := ok_Motion___init__ (P := P) (w := w) (base := base) (tb := tb) Y
  exact ⟨b, F, (F.binds (ps := []) (fun _ _ _ _ _ _ us hl => match us, hl with | [], _ => rfl)), fun_okD (tb := tb) (k := 5) F sc_Motion_identity (hb := fun T cdv A outer s H E hT hr => (ds_one (ds_ret (de_newD F_Motion___init__ hT hr pass_own (da_cons' (de_static (st_Table_identity Y) hT hr pass_own) da_nil') B_Motion___init__ V_Motion___init__ R_Motion___init__))))⟩
theorem st_Motion_identity (Y : Tx P w K mg base tb) : StatOk P w K mg base tb "Motion" "identity" 6 (C_Motion K) (f_Motion_identity K) := by
  obtain ⟨fd, U, B, F⟩ := ok_Motion_identity (P := P) (w := w) (base := base) (tb := tb) Y
  exact ⟨Y.c_Motion, _, fd, Y.st_Motion_identity, B, F⟩
def u__law_det (K : PySem.W.Frag) : DS :=
  (dRet (dCall (f__law_less K) [(dCall (f__law_product K) [(dOp oIx (dVar 0) (dPure (.int 0))), (dOp oIx (dVar 0) (dPure (.int 3)))]), (dCall (f__law_product K) [(dOp oIx (dVar 0) (dPure (.int 1))), (dOp oIx (dVar 0) (dPure (.int 2)))])]))
@[irreducible] def f__law_det (K : PySem.W.Frag) : List D → W D := dDef 1 (u__law_det K)
theorem ok__law_det (Y : Tx P w K mg base tb) : ∃ f fd, Fun K "_law_det" "_law_det" s__law_det f fd ∧ DefOk P w K mg base tb "_law_det" ["_law_t"] 4 (f__law_det K) f fd := by
  unfold f__law_det
  obtain ⟨a, b, F, M⟩ := Y.d__law_det
  obtain ⟨a__law_less, d__law_less, U__law_less, F__law_less⟩ := ok__law_less (P := P) (w := w) (base := base) (tb := tb) Y
  obtain ⟨a__law_product, d__law_product, U__law_product, F__law_product⟩ := ok__law_product (P := P) (w := w) (base := base) (tb := tb) Y
  exact ⟨a, b, F, ⟨M, F.kp, (F.binds (ps := ["_law_t"]) (fun _ _ _ _ _ _ us hl => match us, hl with | [_], _ => rfl)), fun_okD (tb := tb) (k := 3) F sc__law_det (hb := fun T cdv A outer s H E hT hr => (ds_one (ds_ret (de_call F__law_less hT hr pass_own (da_cons' (de_call F__law_product hT hr pass_own (da_cons' (de_ix or_ix (de_var 0) de_int) (da_cons' (de_ix or_ix (de_var 0) de_int) da_nil'))) (da_cons' (de_call F__law_product hT hr pass_own (da_cons' (de_ix or_ix (de_var 0) de_int) (da_cons' (de_ix or_ix (de_var 0) de_int) da_nil'))) da_nil'))))))⟩⟩
def u_Table_scaled (K : PySem.W.Frag) : DS :=
  (dRet (dNew (C_Table K) (f_Table___init__ K) true [] [(dCall (f_times K) [(dFld [C_Table K] "a" (dVar 0)), (dVar 1)]), (dCall (f_times K) [(dFld [C_Table K] "b" (dVar 0)), (dVar 1)]), (dCall (f_times K) [(dFld [C_Table K] "c" (dVar 0)), (dVar 1)]), (dCall (f_times K) [(dFld [C_Table K] "d" (dVar 0)), (dVar 1)])]))
@[irreducible] def f_Table_scaled (K : PySem.W.Frag) : List D → W D := dDef 2 (u_Table_scaled K)
theorem ok_Table_scaled (Y : Tx P w K mg base tb) : ∃ fd, Fun K "scaled" "Table.scaled" s_Table_scaled (ad_Table_scaled K) fd ∧ Binds K fd ["self", "weight"] [] ∧ FnOk P w K mg base (L2.CX P w) 5 (ad_Table_scaled K) fd ["self", "weight"] (spD K tb 2 (f_Table_scaled K)) := by
  unfold f_Table_scaled
  obtain ⟨b, F⟩ := Y.fn_Table_scaled
  obtain ⟨a_Table___init__, d_Table___init__, U_Table___init__, F_Table___init__⟩ := ok_Table___init__ (P := P) (w := w) (base := base) (tb := tb) Y
  obtain ⟨a_times, d_times, U_times, F_times⟩ := ok_times (P := P) (w := w) (base := base) (tb := tb) Y
  exact ⟨b, F, (F.binds (ps := ["self", "weight"]) (fun _ _ _ _ _ _ us hl => match us, hl with | [_, _], _ => rfl)), fun_okD (tb := tb) (k := 4) F sc_Table_scaled (hb := fun T cdv A outer s H E hT hr => (ds_one (ds_ret (de_new F_Table___init__ hT hr pass_own (da_cons' (de_call F_times hT hr pass_own (da_cons' (de_fld (de_var 0) (allC ⟨Y.cls_Table, Y.na_Table_a⟩ allN)) (da_cons' (de_var 1) da_nil'))) (da_cons' (de_call F_times hT hr pass_own (da_cons' (de_fld (de_var 0) (allC ⟨Y.cls_Table, Y.na_Table_b⟩ allN)) (da_cons' (de_var 1) da_nil'))) (da_cons' (de_call F_times hT hr pass_own (da_cons' (de_fld (de_var 0) (allC ⟨Y.cls_Table, Y.na_Table_c⟩ allN)) (da_cons' (de_var 1) da_nil'))) (da_cons' (de_call F_times hT hr pass_own (da_cons' (de_fld (de_var 0) (allC ⟨Y.cls_Table, Y.na_Table_d⟩ allN)) (da_cons' (de_var 1) da_nil'))) da_nil'))))))))⟩
theorem meth_Table_scaled (Y : Tx P w K mg base tb) : MethOk P w K mg base tb "scaled" 1 5 (C_Table K) (f_Table_scaled K) := by
  obtain ⟨fd, U, B, F⟩ := ok_Table_scaled (P := P) (w := w) (base := base) (tb := tb) Y
  exact ⟨Y.cls_Table, _, fd, _, Y.me_Table_scaled, rfl, B, F⟩
def u_divided (K : PySem.W.Frag) : DS :=
  (dRet (dCall (f_fraction K) [(dOp oMul (dOp oIx (dVar 0) (dPure (.int 0))) (dOp oIx (dVar 1) (dPure (.int 1)))), (dOp oMul (dOp oIx (dVar 0) (dPure (.int 1))) (dOp oIx (dVar 1) (dPure (.int 0))))]))
@[irreducible] def f_divided (K : PySem.W.Frag) : List D → W D := dDef 2 (u_divided K)
theorem ok_divided (Y : Tx P w K mg base tb) : ∃ f fd, Fun K "divided" "divided" s_divided f fd ∧ DefOk P w K mg base tb "divided" ["one", "other"] 2 (f_divided K) f fd := by
  unfold f_divided
  obtain ⟨a, b, F, M⟩ := Y.d_divided
  obtain ⟨a_fraction, d_fraction, U_fraction, F_fraction, us_fraction, V_fraction, B_fraction, R_fraction⟩ := ok_fraction (P := P) (w := w) (base := base) (tb := tb) Y
  exact ⟨a, b, F, ⟨M, F.kp, (F.binds (ps := ["one", "other"]) (fun _ _ _ _ _ _ us hl => match us, hl with | [_, _], _ => rfl)), fun_okD (tb := tb) (k := 1) F sc_divided (hb := fun T cdv A outer s H E hT hr => (ds_one (ds_ret (de_call F_fraction hT hr pass_own (da_cons' (de_op or_mul (de_ix or_ix (de_var 0) de_int) (de_ix or_ix (de_var 1) de_int)) (da_cons' (de_op or_mul (de_ix or_ix (de_var 0) de_int) (de_ix or_ix (de_var 1) de_int)) da_nil'))))))⟩⟩
def u_Table_inverse (K : PySem.W.Frag) : DS :=
  (dSeq (dSet 1 (dProp [(C_Table K, f_Table_det K)] (dVar 0))) (dSeq (dIfS (dtVal (dOp oEq (dVar 1) (dPure g_ZERO))) (fun _ _ _ => False) dNext) (dRet (dMeth [(C_Table K, f_Table_scaled K)] "scaled" (dNew (C_Table K) (f_Table___init__ K) true [] [(dFld [C_Table K] "d" (dVar 0)), (dCall (f_negative K) [(dFld [C_Table K] "b" (dVar 0))]), (dCall (f_negative K) [(dFld [C_Table K] "c" (dVar 0))]), (dFld [C_Table K] "a" (dVar 0))]) [(dCall (f_divided K) [(dPure g_ONE), (dVar 1)])]))))
@[irreducible] def f_Table_inverse (K : PySem.W.Frag) : List D → W D := dDef 2 (u_Table_inverse K)
theorem ok_Table_inverse (Y : Tx P w K mg base tb) : ∃ fd, Fun K "inverse" "Table.inverse" s_Table_inverse (ad_Table_inverse K) fd ∧ Binds K fd ["self"] [] ∧ FnOk P w K mg base (L2.CX P w) 6 (ad_Table_inverse K) fd ["self"] (spD K tb 1 (f_Table_inverse K)) := by
  unfold f_Table_inverse
  obtain ⟨b, F⟩ := Y.fn_Table_inverse
  obtain ⟨a_Table___init__, d_Table___init__, U_Table___init__, F_Table___init__⟩ := ok_Table___init__ (P := P) (w := w) (base := base) (tb := tb) Y
  obtain ⟨a_negative, d_negative, U_negative, F_negative⟩ := ok_negative (P := P) (w := w) (base := base) (tb := tb) Y
  obtain ⟨a_divided, d_divided, U_divided, F_divided⟩ := ok_divided (P := P) (w := w) (base := base) (tb := tb) Y
  exact ⟨b, F, (F.binds (ps := ["self"]) (fun _ _ _ _ _ _ us hl => match us, hl with | [_], _ => rfl)), fun_okD (tb := tb) (k := 5) F sc_Table_inverse (hb := fun T cdv A outer s H E hT hr => (ds_cons (ds_set (i := 1) sc_Table_inverse.nd rfl (.inl rfl) (de_prop (de_var 0) (allC (pr_Table_det Y) allN) hT hr)) (ds_cons (ds_if (dt_cmp (or_eq hr.units) (de_var 1) (Y.gl_ZERO.elim fun _ ha => ha.elim fun _ hg => de_glob hg.1 hg.2.1 hg.2.2)) (ds_one ds_never) ds_nil) (ds_one (ds_ret (de_meth (de_new F_Table___init__ hT hr pass_own (da_cons' (de_fld (de_var 0) (allC ⟨Y.cls_Table, Y.na_Table_d⟩ allN)) (da_cons' (de_call F_negative hT hr pass_own (da_cons' (de_fld (de_var 0) (allC ⟨Y.cls_Table, Y.na_Table_b⟩ allN)) da_nil')) (da_cons' (de_call F_negative hT hr pass_own (da_cons' (de_fld (de_var 0) (allC ⟨Y.cls_Table, Y.na_Table_c⟩ allN)) da_nil')) (da_cons' (de_fld (de_var 0) (allC ⟨Y.cls_Table, Y.na_Table_a⟩ allN)) da_nil'))))) (allC (meth_Table_scaled Y) allN) hT hr pass_own (da_cons' (de_call F_divided hT hr pass_own (da_cons' (Y.gl_ONE.elim fun _ ha => ha.elim fun _ hg => de_glob hg.1 hg.2.1 hg.2.2) (da_cons' (de_var 1) da_nil'))) da_nil')))))))⟩
theorem meth_Table_inverse (Y : Tx P w K mg base tb) : MethOk P w K mg base tb "inverse" 0 6 (C_Table K) (f_Table_inverse K) := by
  obtain ⟨fd, U, B, F⟩ := ok_Table_inverse (P := P) (w := w) (base := base) (tb := tb) Y
  exact ⟨Y.cls_Table, _, fd, _, Y.me_Table_inverse, rfl, B, F⟩
def u_vector_times (K : PySem.W.Frag) : DS :=
  (dRet (dTup [(dCall (f_times K) [(dOp oIx (dVar 0) (dPure (.int 0))), (dVar 1)]), (dCall (f_times K) [(dOp oIx (dVar 0) (dPure (.int 1))), (dVar 1)])]))
@[irreducible] def f_vector_times (K : PySem.W.Frag) : List D → W D := dDef 2 (u_vector_times K)
theorem ok_vector_times (Y : Tx P w K mg base tb) : ∃ f fd, Fun K "vector_times" "vector_times" s_vector_times f fd ∧ DefOk P w K mg base tb "vector_times" ["vector", "weight"] 3 (f_vector_times K) f fd := by
  unfold f_vector_times
  obtain ⟨a, b, F, M⟩ := Y.d_vector_times
  obtain ⟨a_times, d_times, U_times, F_times⟩ := ok_times (P := P) (w := w) (base := base) (tb := tb) Y
  exact ⟨a, b, F, ⟨M, F.kp, (F.binds (ps := ["vector", "weight"]) (fun _ _ _ _ _ _ us hl => match us, hl with | [_, _], _ => rfl)), fun_okD (tb := tb) (k := 2) F sc_vector_times (hb := fun T cdv A outer s H E hT hr => (ds_one (ds_ret (de_tup (da_cons' (de_call F_times hT hr pass_own (da_cons' (de_ix or_ix (de_var 0) de_int) (da_cons' (de_var 1) da_nil'))) (da_cons' (de_call F_times hT hr pass_own (da_cons' (de_ix or_ix (de_var 0) de_int) (da_cons' (de_var 1) da_nil'))) da_nil'))))))⟩⟩
def u_Motion_inverse (K : PySem.W.Frag) : DS :=
  (dSeq (dSet 1 (dMeth [(C_Table K, f_Table_inverse K)] "inverse" (dFld [C_Motion K] "table" (dVar 0)) [])) (dRet (dNew (C_Motion K) (f_Motion___init__ K) true [] [(dVar 1), (dCall (f_vector_times K) [(dCall (f_taken K) [(dVar 1), (dFld [C_Motion K] "move" (dVar 0))]), (dTup [(dUn oNeg (dPure (.int 1))), (dPure (.int 1))])])])))
@[irreducible] def f_Motion_inverse (K : PySem.W.Frag) : List D → W D := dDef 2 (u_Motion_inverse K)
theorem ok_Motion_inverse (Y : Tx P w K mg base tb) : ∃ fd, Fun K "inverse" "Motion.inverse" s_Motion_inverse (ad_Motion_inverse K) fd ∧ Binds K fd ["self"] [] ∧ FnOk P w K mg base (L2.CX P w) 7 (ad_Motion_inverse K) fd ["self"] (spD K tb 1 (f_Motion_inverse K)) := by
  unfold f_Motion_inverse
  obtain ⟨b, F⟩ := Y.fn_Motion_inverse
  obtain ⟨a_Motion___init__, d_Motion___init__, U_Motion___init__, F_Motion___init__, us_Motion___init__, V_Motion___init__, B_Motion___init__, R_Motion___init__⟩ := ok_Motion___init__ (P := P) (w := w) (base := base) (tb := tb) Y
  obtain ⟨a_vector_times, d_vector_times, U_vector_times, F_vector_times⟩ := ok_vector_times (P := P) (w := w) (base := base) (tb := tb) Y
  obtain ⟨a_taken, d_taken, U_taken, F_taken⟩ := ok_taken (P := P) (w := w) (base := base) (tb := tb) Y
  exact ⟨b, F, (F.binds (ps := ["self"]) (fun _ _ _ _ _ _ us hl => match us, hl with | [_], _ => rfl)), fun_okD (tb := tb) (k := 6) F sc_Motion_inverse (hb := fun T cdv A outer s H E hT hr => (ds_cons (ds_set (i := 1) sc_Motion_inverse.nd rfl (.inl rfl) (de_meth0 (de_fld (de_var 0) (allC ⟨Y.cls_Motion, Y.na_Motion_table⟩ allN)) (allC (meth_Table_inverse Y) allN) hT hr pass_own)) (ds_one (ds_ret (de_new F_Motion___init__ hT hr pass_own (da_cons' (de_var 1) (da_cons' (de_call F_vector_times hT hr pass_own (da_cons' (de_call F_taken hT hr pass_own (da_cons' (de_var 1) (da_cons' (de_fld (de_var 0) (allC ⟨Y.cls_Motion, Y.na_Motion_move⟩ allN)) da_nil'))) (da_cons' (de_tup (da_cons' (de_un or_neg de_int) (da_cons' de_int da_nil'))) da_nil'))) da_nil')))))))⟩
theorem meth_Motion_inverse (Y : Tx P w K mg base tb) : MethOk P w K mg base tb "inverse" 0 7 (C_Motion K) (f_Motion_inverse K) := by
  obtain ⟨fd, U, B, F⟩ := ok_Motion_inverse (P := P) (w := w) (base := base) (tb := tb) Y
  exact ⟨Y.cls_Motion, _, fd, _, Y.me_Motion_inverse, rfl, B, F⟩
def u__law_images_so (K : PySem.W.Frag) : DS :=
  (dSeq (dUnp [3, 4] (dTup [(dCall (f__law_table K) [(dVar 0)]), (dCall (f__law_near K) [(dVar 0)])])) (dSeq (dSet 5 (dNew (C_Motion K) (f_Motion___init__ K) true [] [(dNew (C_Table K) (f_Table___init__ K) true [] [(dOp oIx (dVar 3) (dPure (.int 0))), (dOp oIx (dVar 3) (dPure (.int 1))), (dOp oIx (dVar 3) (dPure (.int 2))), (dOp oIx (dVar 3) (dPure (.int 3)))]), (dVar 4)])) (dSeq (dPar [6, 7] [(dCall (f__law_flat K) [(dVar 1)]), (dCall (f__law_flat K) [(dVar 2)])]) (dSeq (dSet 8 (dLc [12] (.nm 12) (cSeq (dVar 1)) dYes (dCall (f__law_moved K) [(dCall (f__law_led K) [(dVar 3), (dVar 12)]), (dVar 4)]))) (dSeq (dSet 9 (dOp oAdd (dLc [12] (.nm 12) (cSeq (dCall (f__law_asked K) [(dVar 0), (dVar 1)])) dYes (dCall (f__law_moved K) [(dCall (f__law_led K) [(dVar 3), (dVar 12)]), (dVar 4)])) (dLst [(dCall (f__law_near K) [(dVar 0)]), (dVar 4)]))) (dSeq (dPar [10, 11] [(dMeth [(C_Flat K, f_Flat_moved K)] "moved" (dVar 6) [(dVar 5)]), (dMethN [(C_Flat K, f_Flat_moved K)] "moved" [0, 1] (dVar 6) [(dVar 5)])]) (dSeq (dIfS (dtOr (dtNot (dtVal (dCall (f__law_is_flat K) [(dVar 10), (dVar 8), (dVar 9)]))) (dtNot (dtVal (dCall (f__law_is_flat K) [(dVar 11), (dVar 8), (dVar 9)])))) (dRet (dPure (.bl false))) dNext) (dSeq (dIfS (dtNot (dtVal (dCall (f__law_same K) [(dLst [(dOp (oOwnEq [(C_Flat K, f_Flat___eq__ K)] (own K)) (dMeth [(C_Flat K, f_Flat_moved K)] "moved" (dOp (oOwn [(C_Flat K, f_Flat___or__ K)]) (dVar 6) (dVar 7)) [(dVar 5)]) (dOp (oOwn [(C_Flat K, f_Flat___or__ K)]) (dVar 10) (dMeth [(C_Flat K, f_Flat_moved K)] "moved" (dVar 7) [(dVar 5)]))), (dOp (oOwnEq [(C_Flat K, f_Flat___eq__ K)] (own K)) (dMeth [(C_Flat K, f_Flat_moved K)] "moved" (dVar 6) [(dStat (f_Motion_identity K))]) (dVar 6))]), (dLst [(dPure (.bl true)), (dPure (.bl true))])]))) (dRet (dPure (.bl false))) dNext) (dSeq (dIfS (dtVal (dOp oEq (dOp oIx (dCall (f__law_det K) [(dVar 3)]) (dPure (.int 0))) (dPure (.int 0)))) (dRet (dCall (f__law_same K) [(dProp [(C_Flat K, f_Flat_size K)] (dMeth [(C_Flat K, f_Flat_moved K)] "moved" (dStat (f_Flat_whole K)) [(dVar 5)])), (dOp oSub (dCall gLen [(dCall (f__law_span K) [(dLst [(dVar 4), (dCall (f__law_moved K) [(dTup [(dOp oIx (dVar 3) (dPure (.int 0))), (dOp oIx (dVar 3) (dPure (.int 2)))]), (dVar 4)]), (dCall (f__law_moved K) [(dTup [(dOp oIx (dVar 3) (dPure (.int 1))), (dOp oIx (dVar 3) (dPure (.int 3)))]), (dVar 4)])])])]) (dPure (.int 1)))])) dNext) (dRet (dCall (f__law_same K) [(dLst [(dOp (oOwnEq [(C_Flat K, f_Flat___eq__ K)] (own K)) (dMeth [(C_Flat K, f_Flat_moved K)] "moved" (dOp (oOwn [(C_Flat K, f_Flat___and__ K)]) (dVar 6) (dVar 7)) [(dVar 5)]) (dOp (oOwn [(C_Flat K, f_Flat___and__ K)]) (dVar 10) (dMeth [(C_Flat K, f_Flat_moved K)] "moved" (dVar 7) [(dVar 5)]))), (dOp (oOwnEq [(C_Flat K, f_Flat___eq__ K)] (own K)) (dMeth [(C_Flat K, f_Flat_moved K)] "moved" (dVar 10) [(dMeth [(C_Motion K, f_Motion_inverse K)] "inverse" (dVar 5) [])]) (dVar 6)), (dOp (oOwnEq [(C_Flat K, f_Flat___eq__ K)] (own K)) (dMeth [(C_Flat K, f_Flat_moved K)] "moved" (dStat (f_Flat_whole K)) [(dVar 5)]) (dStat (f_Flat_whole K)))]), (dLst [(dPure (.bl true)), (dPure (.bl true)), (dPure (.bl true))])])))))))))))
@[irreducible] def f__law_images_so (K : PySem.W.Frag) : List D → W D := dDef 13 (u__law_images_so K)
theorem ok__law_images_so (Y : Tx P w K mg base tb) : ∃ f fd, Fun K "_law_images_so" "_law_images_so" s__law_images_so f fd ∧ DefOk P w K mg base tb "_law_images_so" ["_law_bag_here", "_law_some", "_law_far"] 13 (f__law_images_so K) f fd := by
  unfold f__law_images_so
  obtain ⟨a, b, F, M⟩ := Y.d__law_images_so
  obtain ⟨a__law_table, d__law_table, U__law_table, F__law_table⟩ := ok__law_table (P := P) (w := w) (base := base) (tb := tb) Y
  obtain ⟨a__law_near, d__law_near, U__law_near, F__law_near⟩ := ok__law_near (P := P) (w := w) (base := base) (tb := tb) Y
  obtain ⟨a_Motion___init__, d_Motion___init__, U_Motion___init__, F_Motion___init__, us_Motion___init__, V_Motion___init__, B_Motion___init__, R_Motion___init__⟩ := ok_Motion___init__ (P := P) (w := w) (base := base) (tb := tb) Y
  obtain ⟨a_Table___init__, d_Table___init__, U_Table___init__, F_Table___init__⟩ := ok_Table___init__ (P := P) (w := w) (base := base) (tb := tb) Y
  obtain ⟨a__law_flat, d__law_flat, U__law_flat, F__law_flat⟩ := ok__law_flat (P := P) (w := w) (base := base) (tb := tb) Y
  obtain ⟨a__law_moved, d__law_moved, U__law_moved, F__law_moved⟩ := ok__law_moved (P := P) (w := w) (base := base) (tb := tb) Y
  obtain ⟨a__law_led, d__law_led, U__law_led, F__law_led⟩ := ok__law_led (P := P) (w := w) (base := base) (tb := tb) Y
  obtain ⟨a__law_asked, d__law_asked, U__law_asked, F__law_asked⟩ := ok__law_asked (P := P) (w := w) (base := base) (tb := tb) Y
  obtain ⟨a__law_is_flat, d__law_is_flat, U__law_is_flat, F__law_is_flat⟩ := ok__law_is_flat (P := P) (w := w) (base := base) (tb := tb) Y
  obtain ⟨a__law_same, d__law_same, U__law_same, F__law_same⟩ := ok__law_same (P := P) (w := w) (base := base) (tb := tb) Y
  obtain ⟨a__law_det, d__law_det, U__law_det, F__law_det⟩ := ok__law_det (P := P) (w := w) (base := base) (tb := tb) Y
  obtain ⟨a__law_span, d__law_span, U__law_span, F__law_span⟩ := ok__law_span (P := P) (w := w) (base := base) (tb := tb) Y
  exact ⟨a, b, F, ⟨M, F.kp, (F.binds (ps := ["_law_bag_here", "_law_some", "_law_far"]) (fun _ _ _ _ _ _ us hl => match us, hl with | [_, _, _], _ => rfl)), fun_okD (tb := tb) (k := 12) F sc__law_images_so (hb := fun T cdv A outer s H E hT hr => (ds_cons (ds_unp (is := [3, 4]) (n := 2) (ps_asg (de_tup (da_cons' (de_call F__law_table hT hr pass_own (da_cons' (de_var 0) da_nil')) (da_cons' (de_call F__law_near hT hr pass_own (da_cons' (de_var 0) da_nil')) da_nil'))) (pg_tup rfl (pgs_cons (pg_name (i := 3) sc__law_images_so.nd rfl (.inr rfl)) (pgs_cons (pg_name (i := 4) sc__law_images_so.nd rfl (.inr rfl)) pgs_nil))))) (ds_cons (ds_set (i := 5) sc__law_images_so.nd rfl (.inl rfl) (de_new F_Motion___init__ hT hr pass_own (da_cons' (de_new F_Table___init__ hT hr pass_own (da_cons' (de_ix or_ix (de_var 3) de_int) (da_cons' (de_ix or_ix (de_var 3) de_int) (da_cons' (de_ix or_ix (de_var 3) de_int) (da_cons' (de_ix or_ix (de_var 3) de_int) da_nil'))))) (da_cons' (de_var 4) da_nil')))) (ds_cons (ds_par (ps_par (i := 6) (j := 7) (by rfl) sc__law_images_so.nd rfl rfl (by decide) rfl rfl (da_cons' (de_call F__law_flat hT hr pass_own (da_cons' (de_var 1) da_nil')) (da_cons' (de_call F__law_flat hT hr pass_own (da_cons' (de_var 2) da_nil')) da_nil')) (by rfl))) (ds_cons (ds_setLc (i := 8) (own := [("_law_x", 12)]) sc__law_images_so.nd rfl rfl (sw_true rfl rfl rfl (by decide +kernel)) (ci_seq (de_var 1)) (blkOk_by (own := [("_law_x", 12)]) (N := ["_law_bag_here", "_law_some", "_law_far", "_law_t", "_law_v", "_law_made", "_law_p", "_law_q", "_law_led_here", "_law_there", "_law_first", "_law_later", "_law_x"]) (sc := (defScope s__law_images_so)) (by decide +kernel)) (by decide) (fun _ _ _ _ _ => (pg_name (i := 12) sc__law_images_so.nd rfl (.inl rfl))) (fun _ _ _ _ _ _ _ => dts_nil) (fun T2 eT _ _ _ _ _ => have hT2 := eT.trans hT; (de_call F__law_moved hT2 hr passL (da_cons' (de_call F__law_led hT2 hr passL (da_cons' (de_var 3) (da_cons' (de_var 12) da_nil'))) (da_cons' (de_var 4) da_nil'))))) (ds_cons (ds_set (i := 9) sc__law_images_so.nd rfl (.inl rfl) (de_op or_add (de_lc (own := [("_law_x", 12)]) sc__law_images_so.nd (ci_seq (de_call F__law_asked hT hr pass_own (da_cons' (de_var 0) (da_cons' (de_var 1) da_nil')))) (blkOk_by (own := [("_law_x", 12)]) (N := ["_law_bag_here", "_law_some", "_law_far", "_law_t", "_law_v", "_law_made", "_law_p", "_law_q", "_law_led_here", "_law_there", "_law_first", "_law_later", "_law_x"]) (sc := (defScope s__law_images_so)) (by decide +kernel)) (by decide) (fun _ _ _ _ _ => (pg_name (i := 12) sc__law_images_so.nd rfl (.inl rfl))) (fun _ _ _ _ _ _ _ => dts_nil) (fun T2 eT _ _ _ _ _ => have hT2 := eT.trans hT; (de_call F__law_moved hT2 hr passL (da_cons' (de_call F__law_led hT2 hr passL (da_cons' (de_var 3) (da_cons' (de_var 12) da_nil'))) (da_cons' (de_var 4) da_nil'))))) (de_lst (da_cons' (de_call F__law_near hT hr pass_own (da_cons' (de_var 0) da_nil')) (da_cons' (de_var 4) da_nil'))))) (ds_cons (ds_par (ps_par (i := 10) (j := 11) (by rfl) sc__law_images_so.nd rfl rfl (by decide) rfl rfl (da_cons' (de_meth (de_var 6) (allC (meth_Flat_moved Y) allN) hT hr pass_own (da_cons' (de_var 5) da_nil')) (da_cons' (de_methN (de_var 6) (allC (mk_Flat_moved_motion Y) allN) hT hr pass_own (dk_cons (de_var 5) dk_nil)) da_nil')) (by rfl))) (ds_cons (ds_if (dt_w (dw_or (dt_not (dt_val (de_call F__law_is_flat hT hr pass_own (da_cons' (de_var 10) (da_cons' (de_var 8) (da_cons' (de_var 9) da_nil')))))) (dw_or1 (dt_not (dt_val (de_call F__law_is_flat hT hr pass_own (da_cons' (de_var 11) (da_cons' (de_var 8) (da_cons' (de_var 9) da_nil'))))))))) (ds_one (ds_ret de_bl)) ds_nil) (ds_cons (ds_if (dt_not (dt_val (de_call F__law_same hT hr pass_own (da_cons' (de_lst (da_cons' (de_cmp (or_ownEq Y.isi (allC (eqc_Flat Y) allN) hT hr pass_own) (de_meth (de_op (or_own (op := .BitOr) (allC (own_Flat___or__ Y) allN) hT hr pass_own) (de_var 6) (de_var 7)) (allC (meth_Flat_moved Y) allN) hT hr pass_own (da_cons' (de_var 5) da_nil')) (de_op (or_own (op := .BitOr) (allC (own_Flat___or__ Y) allN) hT hr pass_own) (de_var 10) (de_meth (de_var 7) (allC (meth_Flat_moved Y) allN) hT hr pass_own (da_cons' (de_var 5) da_nil')))) (da_cons' (de_cmp (or_ownEq Y.isi (allC (eqc_Flat Y) allN) hT hr pass_own) (de_meth (de_var 6) (allC (meth_Flat_moved Y) allN) hT hr pass_own (da_cons' (de_static (st_Motion_identity Y) hT hr pass_own) da_nil')) (de_var 6)) da_nil'))) (da_cons' (de_lst (da_cons' de_bl (da_cons' de_bl da_nil'))) da_nil'))))) (ds_one (ds_ret de_bl)) ds_nil) (ds_cons (ds_if (dt_cmp (or_eq hr.units) (de_ix or_ix (de_call F__law_det hT hr pass_own (da_cons' (de_var 3) da_nil')) de_int) de_int) (ds_one (ds_ret (de_call F__law_same hT hr pass_own (da_cons' (de_prop (de_meth (de_static (st_Flat_whole Y) hT hr pass_own) (allC (meth_Flat_moved Y) allN) hT hr pass_own (da_cons' (de_var 5) da_nil')) (allC (pr_Flat_size Y) allN) hT hr) (da_cons' (de_op or_sub (de_callB cb_len Y.b_len (da_cons' (de_call F__law_span hT hr pass_own (da_cons' (de_lst (da_cons' (de_var 4) (da_cons' (de_call F__law_moved hT hr pass_own (da_cons' (de_tup (da_cons' (de_ix or_ix (de_var 3) de_int) (da_cons' (de_ix or_ix (de_var 3) de_int) da_nil'))) (da_cons' (de_var 4) da_nil'))) (da_cons' (de_call F__law_moved hT hr pass_own (da_cons' (de_tup (da_cons' (de_ix or_ix (de_var 3) de_int) (da_cons' (de_ix or_ix (de_var 3) de_int) da_nil'))) (da_cons' (de_var 4) da_nil'))) da_nil')))) da_nil')) da_nil')) de_int) da_nil'))))) ds_nil) (ds_one (ds_ret (de_call F__law_same hT hr pass_own (da_cons' (de_lst (da_cons' (de_cmp (or_ownEq Y.isi (allC (eqc_Flat Y) allN) hT hr pass_own) (de_meth (de_op (or_own (op := .BitAnd) (allC (own_Flat___and__ Y) allN) hT hr pass_own) (de_var 6) (de_var 7)) (allC (meth_Flat_moved Y) allN) hT hr pass_own (da_cons' (de_var 5) da_nil')) (de_op (or_own (op := .BitAnd) (allC (own_Flat___and__ Y) allN) hT hr pass_own) (de_var 10) (de_meth (de_var 7) (allC (meth_Flat_moved Y) allN) hT hr pass_own (da_cons' (de_var 5) da_nil')))) (da_cons' (de_cmp (or_ownEq Y.isi (allC (eqc_Flat Y) allN) hT hr pass_own) (de_meth (de_var 10) (allC (meth_Flat_moved Y) allN) hT hr pass_own (da_cons' (de_meth0 (de_var 5) (allC (meth_Motion_inverse Y) allN) hT hr pass_own) da_nil')) (de_var 6)) (da_cons' (de_cmp (or_ownEq Y.isi (allC (eqc_Flat Y) allN) hT hr pass_own) (de_meth (de_static (st_Flat_whole Y) hT hr pass_own) (allC (meth_Flat_moved Y) allN) hT hr pass_own (da_cons' (de_var 5) da_nil')) (de_static (st_Flat_whole Y) hT hr pass_own)) da_nil')))) (da_cons' (de_lst (da_cons' de_bl (da_cons' de_bl (da_cons' de_bl da_nil')))) da_nil')))))))))))))))⟩⟩
def u__law_three_so (K : PySem.W.Frag) : DS :=
  (dSeq (dPar [3, 4, 5] [(dCall (f__law_flat K) [(dVar 0)]), (dCall (f__law_flat K) [(dVar 1)]), (dCall (f__law_flat K) [(dVar 2)])]) (dRet (dCall (f__law_same K) [(dLst [(dOp (oOr oEq (oOwnEq [(C_Flat K, f_Flat___eq__ K)] (own K))) (dOp (oOwn [(C_Flat K, f_Flat___and__ K)]) (dOp (oOwn [(C_Flat K, f_Flat___and__ K)]) (dVar 3) (dVar 4)) (dVar 5)) (dOp (oOwn [(C_Flat K, f_Flat___and__ K)]) (dVar 3) (dOp (oOwn [(C_Flat K, f_Flat___and__ K)]) (dVar 4) (dVar 5)))), (dOp (oOwnEq [(C_Flat K, f_Flat___eq__ K)] (own K)) (dOp (oOwn [(C_Flat K, f_Flat___or__ K)]) (dOp (oOwn [(C_Flat K, f_Flat___or__ K)]) (dVar 3) (dVar 4)) (dVar 5)) (dOp (oOwn [(C_Flat K, f_Flat___or__ K)]) (dVar 3) (dOp (oOwn [(C_Flat K, f_Flat___or__ K)]) (dVar 4) (dVar 5))))]), (dLst [(dPure (.bl true)), (dPure (.bl true))])])))
@[irreducible] def f__law_three_so (K : PySem.W.Frag) : List D → W D := dDef 6 (u__law_three_so K)
theorem ok__law_three_so (Y : Tx P w K mg base tb) : ∃ f fd, Fun K "_law_three_so" "_law_three_so" s__law_three_so f fd ∧ DefOk P w K mg base tb "_law_three_so" ["_law_some", "_law_far", "_law_third"] 13 (f__law_three_so K) f fd := by
  unfold f__law_three_so
  obtain ⟨a, b, F, M⟩ := Y.d__law_three_so
  obtain ⟨a__law_flat, d__law_flat, U__law_flat, F__law_flat⟩ := ok__law_flat (P := P) (w := w) (base := base) (tb := tb) Y
  obtain ⟨a__law_same, d__law_same, U__law_same, F__law_same⟩ := ok__law_same (P := P) (w := w) (base := base) (tb := tb) Y
  exact ⟨a, b, F, ⟨M, F.kp, (F.binds (ps := ["_law_some", "_law_far", "_law_third"]) (fun _ _ _ _ _ _ us hl => match us, hl with | [_, _, _], _ => rfl)), fun_okD (tb := tb) (k := 12) F sc__law_three_so (hb := fun T cdv A outer s H E hT hr => (ds_cons (ds_par3 (ps_par3 (i := 3) (j := 4) (l := 5) (by rfl) sc__law_three_so.nd rfl rfl rfl (by decide) (by decide) (by decide) rfl rfl rfl (da_cons' (de_call F__law_flat hT hr pass_own (da_cons' (de_var 0) da_nil')) (da_cons' (de_call F__law_flat hT hr pass_own (da_cons' (de_var 1) da_nil')) (da_cons' (de_call F__law_flat hT hr pass_own (da_cons' (de_var 2) da_nil')) da_nil'))) (by rfl))) (ds_one (ds_ret (de_call F__law_same hT hr pass_own (da_cons' (de_lst (da_cons' (de_cmp (or_or (or_eq hr.units) (or_ownEq Y.isi (allC (eqc_Flat Y) allN) hT hr pass_own)) (de_op (or_own (op := .BitAnd) (allC (own_Flat___and__ Y) allN) hT hr pass_own) (de_op (or_own (op := .BitAnd) (allC (own_Flat___and__ Y) allN) hT hr pass_own) (de_var 3) (de_var 4)) (de_var 5)) (de_op (or_own (op := .BitAnd) (allC (own_Flat___and__ Y) allN) hT hr pass_own) (de_var 3) (de_op (or_own (op := .BitAnd) (allC (own_Flat___and__ Y) allN) hT hr pass_own) (de_var 4) (de_var 5)))) (da_cons' (de_cmp (or_ownEq Y.isi (allC (eqc_Flat Y) allN) hT hr pass_own) (de_op (or_own (op := .BitOr) (allC (own_Flat___or__ Y) allN) hT hr pass_own) (de_op (or_own (op := .BitOr) (allC (own_Flat___or__ Y) allN) hT hr pass_own) (de_var 3) (de_var 4)) (de_var 5)) (de_op (or_own (op := .BitOr) (allC (own_Flat___or__ Y) allN) hT hr pass_own) (de_var 3) (de_op (or_own (op := .BitOr) (allC (own_Flat___or__ Y) allN) hT hr pass_own) (de_var 4) (de_var 5)))) da_nil'))) (da_cons' (de_lst (da_cons' de_bl (da_cons' de_bl da_nil'))) da_nil')))))))⟩⟩
def u_law (K : PySem.W.Frag) : DS :=
  (dSeq (dSet 1 (dCall (f__law_bag K) [(dVar 0)])) (dSeq (dFor (.nm 2) (cRng [(dPure (.int 2))]) (dSeq (dPar [3, 4] [(dCall (f__law_cloud K) [(dVar 1), (dCall (f__law_draw K) [(dVar 1), (dPure (.int 4))])]), (dCall (f__law_cloud K) [(dVar 1), (dCall (f__law_draw K) [(dVar 1), (dPure (.int 4))])])]) (dSeq (dIfS (dtVal (dOp oEqV (dCall (f__law_draw K) [(dVar 1), (dPure (.int 2))]) (dPure (.int 0)))) (dSet 4 (dCall (f__law_pick K) [(dVar 1), (dLst [(dSl (dCall (f__law_asked K) [(dVar 1), (dVar 3)]) (dPart (dPure (.int 4))) (dPart (dPure (.int 6)))), (dSl (dCall (f__law_asked K) [(dVar 1), (dVar 3)]) (dPart (dPure (.int 5))) (dPart (dPure (.int 8)))), (dCall gList [(dVar 3)]), (dLc [7] (.nm 7) (cSeq (dVar 3)) dYes (dCall (f__law_moved K) [(dVar 7), (dCall (f__law_near K) [(dVar 1)])]))])])) dNext) (dSeq (dIfS (dtAnd (dtVal (dOp oEqV (dCall (f__law_draw K) [(dVar 1), (dPure (.int 3))]) (dPure (.int 0)))) (dtVal (dOp oNeV (dVar 3) (dLst [])))) (dSeq (dSet 5 (dCall (f__law_near K) [(dVar 1)])) (dSet 4 (dLc [7] (.nm 7) (cSeq (dVar 3)) dYes (dCall (f__law_moved K) [(dVar 7), (dVar 5)])))) dNext) (dSeq (dSet 6 (dOp (oOr oAdd oAddV) (dCall (f__law_cloud K) [(dVar 1), (dCall (f__law_draw K) [(dVar 1), (dPure (.int 4))])]) (dSl (dVar 3) dNoPart (dPart (dPure (.int 1)))))) (dSeq (dIfS (dtOr (dtNot (dtVal (dCall (f__law_both_so K) [(dVar 1), (dVar 3), (dVar 4)]))) (dtOr (dtNot (dtVal (dCall (f__law_images_so K) [(dVar 1), (dVar 3), (dVar 4)]))) (dtNot (dtVal (dCall (f__law_images_so K) [(dVar 1), (dVar 4), (dVar 6)]))))) (dRet (dPure (.bl false))) dNext) (dIfS (dtOr (dtNot (dtVal (dCall (f__law_three_so K) [(dVar 3), (dVar 4), (dVar 6)]))) (dtNot (dtVal (dCall (f__law_both_so K) [(dVar 1), (dVar 4), (dVar 6)])))) (dRet (dPure (.bl false))) dNext))))))) (dRet (dPure (.bl true)))))
@[irreducible] def f_law (K : PySem.W.Frag) : List D → W D := dDef 8 (u_law K)
theorem ok_law (Y : Tx P w K mg base tb) : ∃ f fd, Fun K "law" "law" s_law f fd ∧ DefOk P w K mg base tb "law" ["_law_script"] 14 (f_law K) f fd := by
  unfold f_law
  obtain ⟨a, b, F, M⟩ := Y.d_law
  obtain ⟨a__law_bag, d__law_bag, U__law_bag, F__law_bag⟩ := ok__law_bag (P := P) (w := w) (base := base) (tb := tb) Y
  obtain ⟨a__law_cloud, d__law_cloud, U__law_cloud, F__law_cloud⟩ := ok__law_cloud (P := P) (w := w) (base := base) (tb := tb) Y
  obtain ⟨a__law_draw, d__law_draw, U__law_draw, F__law_draw⟩ := ok__law_draw (P := P) (w := w) (base := base) (tb := tb) Y
  obtain ⟨a__law_pick, d__law_pick, U__law_pick, F__law_pick⟩ := ok__law_pick (P := P) (w := w) (base := base) (tb := tb) Y
  obtain ⟨a__law_asked, d__law_asked, U__law_asked, F__law_asked⟩ := ok__law_asked (P := P) (w := w) (base := base) (tb := tb) Y
  obtain ⟨a__law_moved, d__law_moved, U__law_moved, F__law_moved⟩ := ok__law_moved (P := P) (w := w) (base := base) (tb := tb) Y
  obtain ⟨a__law_near, d__law_near, U__law_near, F__law_near⟩ := ok__law_near (P := P) (w := w) (base := base) (tb := tb) Y
  obtain ⟨a__law_both_so, d__law_both_so, U__law_both_so, F__law_both_so⟩ := ok__law_both_so (P := P) (w := w) (base := base) (tb := tb) Y
  obtain ⟨a__law_images_so, d__law_images_so, U__law_images_so, F__law_images_so⟩ := ok__law_images_so (P := P) (w := w) (base := base) (tb := tb) Y
  obtain ⟨a__law_three_so, d__law_three_so, U__law_three_so, F__law_three_so⟩ := ok__law_three_so (P := P) (w := w) (base := base) (tb := tb) Y
  exact ⟨a, b, F, ⟨M, F.kp, (F.binds (ps := ["_law_script"]) (fun _ _ _ _ _ _ us hl => match us, hl with | [_], _ => rfl)), fun_okD (tb := tb) (k := 13) F sc_law (hb := fun T cdv A outer s H E hT hr => (ds_cons (ds_set (i := 1) sc_law.nd rfl (.inr rfl) (de_call F__law_bag hT hr pass_own (da_cons' (de_var 0) da_nil'))) (ds_cons (ds_for (passes_of rfl) (ci_rng Y.b_range (da_cons' de_int da_nil')) (pg_name (i := 2) sc_law.nd rfl (.inl rfl)) (ds_cons (ds_par (ps_par (i := 3) (j := 4) (by rfl) sc_law.nd rfl rfl (by decide) rfl rfl (da_cons' (de_call F__law_cloud hT hr pass_own (da_cons' (de_var 1) (da_cons' (de_call F__law_draw hT hr pass_own (da_cons' (de_var 1) (da_cons' de_int da_nil'))) da_nil'))) (da_cons' (de_call F__law_cloud hT hr pass_own (da_cons' (de_var 1) (da_cons' (de_call F__law_draw hT hr pass_own (da_cons' (de_var 1) (da_cons' de_int da_nil'))) da_nil'))) da_nil')) (by rfl))) (ds_cons (ds_if (dt_cmp (or_eqV hr.units) (de_call F__law_draw hT hr pass_own (da_cons' (de_var 1) (da_cons' de_int da_nil'))) de_int) (ds_one (ds_set (i := 4) sc_law.nd rfl (.inl rfl) (de_call F__law_pick hT hr pass_own (da_cons' (de_var 1) (da_cons' (de_lst (da_cons' (de_sl (de_call F__law_asked hT hr pass_own (da_cons' (de_var 1) (da_cons' (de_var 3) da_nil'))) (do_some de_int) (do_some de_int)) (da_cons' (de_sl (de_call F__law_asked hT hr pass_own (da_cons' (de_var 1) (da_cons' (de_var 3) da_nil'))) (do_some de_int) (do_some de_int)) (da_cons' (de_callTy cb_list Y.b_list (da_cons' (de_var 3) da_nil')) (da_cons' (de_lc (own := [("_law_p", 7)]) sc_law.nd (ci_seq (de_var 3)) (blkOk_by (own := [("_law_p", 7)]) (N := ["_law_script", "_law_bag_here", "_law_turn_here", "_law_some", "_law_far", "_law_v", "_law_third", "_law_p"]) (sc := (defScope s_law)) (by decide +kernel)) (by decide) (fun _ _ _ _ _ => (pg_name (i := 7) sc_law.nd rfl (.inl rfl))) (fun _ _ _ _ _ _ _ => dts_nil) (fun T2 eT _ _ _ _ _ => have hT2 := eT.trans hT; (de_call F__law_moved hT2 hr passL (da_cons' (de_var 7) (da_cons' (de_call F__law_near hT2 hr passL (da_cons' (de_var 1) da_nil')) da_nil'))))) da_nil'))))) da_nil'))))) ds_nil) (ds_cons (ds_if (dt_w (dw_and (dt_cmp (or_eqV hr.units) (de_call F__law_draw hT hr pass_own (da_cons' (de_var 1) (da_cons' de_int da_nil'))) de_int) (dw_and1 (dt_cmp (or_neV hr.units) (de_var 3) (de_lst da_nil'))))) (ds_cons (ds_set (i := 5) sc_law.nd rfl (.inr rfl) (de_call F__law_near hT hr pass_own (da_cons' (de_var 1) da_nil'))) (ds_one (ds_setLc (i := 4) (own := [("_law_p", 7)]) sc_law.nd rfl rfl (sw_true rfl rfl rfl (by decide +kernel)) (ci_seq (de_var 3)) (blkOk_by (own := [("_law_p", 7)]) (N := ["_law_script", "_law_bag_here", "_law_turn_here", "_law_some", "_law_far", "_law_v", "_law_third", "_law_p"]) (sc := (defScope s_law)) (by decide +kernel)) (by decide) (fun _ _ _ _ _ => (pg_name (i := 7) sc_law.nd rfl (.inl rfl))) (fun _ _ _ _ _ _ _ => dts_nil) (fun T2 eT _ _ _ _ _ => have hT2 := eT.trans hT; (de_call F__law_moved hT2 hr passL (da_cons' (de_var 7) (da_cons' (de_var 5) da_nil'))))))) ds_nil) (ds_cons (ds_set (i := 6) sc_law.nd rfl (.inl rfl) (de_op (or_or or_add or_addV) (de_call F__law_cloud hT hr pass_own (da_cons' (de_var 1) (da_cons' (de_call F__law_draw hT hr pass_own (da_cons' (de_var 1) (da_cons' de_int da_nil'))) da_nil'))) (de_sl (de_var 3) do_none (do_some de_int)))) (ds_cons (ds_if (dt_w (dw_or (dt_not (dt_val (de_call F__law_both_so hT hr pass_own (da_cons' (de_var 1) (da_cons' (de_var 3) (da_cons' (de_var 4) da_nil')))))) (dw_or (dt_not (dt_val (de_call F__law_images_so hT hr pass_own (da_cons' (de_var 1) (da_cons' (de_var 3) (da_cons' (de_var 4) da_nil')))))) (dw_or1 (dt_not (dt_val (de_call F__law_images_so hT hr pass_own (da_cons' (de_var 1) (da_cons' (de_var 4) (da_cons' (de_var 6) da_nil')))))))))) (ds_one (ds_ret de_bl)) ds_nil) (ds_one (ds_if (dt_w (dw_or (dt_not (dt_val (de_call F__law_three_so hT hr pass_own (da_cons' (de_var 3) (da_cons' (de_var 4) (da_cons' (de_var 6) da_nil')))))) (dw_or1 (dt_not (dt_val (de_call F__law_both_so hT hr pass_own (da_cons' (de_var 1) (da_cons' (de_var 4) (da_cons' (de_var 6) da_nil'))))))))) (ds_one (ds_ret de_bl)) ds_nil)))))))) (ds_one (ds_ret de_bl)))))⟩⟩
end
end Dw
set_option maxHeartbeats 60000
namespace Dw
open PySem PySem.Spec PyProof.Rows L2
variable {K : PySem.W.Frag} {S : Sto} {post : D → Sto → Prop} {xp : Xp}
theorem ev_fraction {p q : Int} {n : Nat} (hq : q ≠ 0) (hz : Px.Sz n q) (hn : n ≤ 9000) (h : post (fr (Rat.divInt p q)) S) : f_fraction K [.int p, .int q] S post xp := by
  unfold f_fraction u_fraction
  try simp -implicitDefEqProofs only [dDef_2_1, dSeq_m, dRet_m, dTup_m, dArgs_c, dArgs_n, dOp_m, dVar_m, dIfS_m, dSet_m, dUn_m, dNext_m, dtVal_m, dPure_m, dCall_m, mVar_s, oLt_i, mBl_b, gGcd_i, oNeg_i, oDiv_i, oEq_m, okEq_int, eqD_int, List.length_cons, List.length_nil, List.cons_append, List.nil_append, Nat.reduceAdd, Nat.reduceSub, List.getElem?_cons_zero, List.getElem?_cons_succ, List.set_cons_zero, List.set_cons_succ, Option.some.injEq, exists_eq_left', true_and, and_true, if_true, if_false, Bool.false_eq_true, Bool.true_eq_false, Bool.not_true, Bool.not_false, reduceIte, beq_self_eq_true, decide_true, Bool.or_false, Bool.or_true, Bool.false_or, Bool.true_or]
  have hg := Px.gcd_sz (p := p) hz hq
  have g0 : 0 < Nat.gcd p.natAbs q.natAbs := Nat.gcd_pos_of_pos_right _ (by omega)
  rw [decide_eq_false hq, if_neg Bool.false_ne_true]
  by_cases hlt : q < 0
  · rw [decide_eq_true hlt, if_pos rfl]
    have g1 : -(Nat.gcd p.natAbs q.natAbs : Nat) ≠ (0 : Int) := by omega
    refine ⟨Px.divU_of g1 hg.neg hn, Px.divU_of g1 hg.neg hn, ?_⟩
    rw [(Px.frac_neg hlt).1, (Px.frac_neg hlt).2]
    exact h
  · rw [decide_eq_false hlt, if_neg Bool.false_ne_true]
    have g1 : ((Nat.gcd p.natAbs q.natAbs : Nat) : Int) ≠ 0 := by omega
    refine ⟨Px.divU_of g1 hg hn, Px.divU_of g1 hg hn, ?_⟩
    rw [(Px.frac_pos (by omega)).1, (Px.frac_pos (by omega)).2]
    exact h
theorem ev_plus {x y : Rat} {n m : Nat} [a : SzC x n] [b : SzC y m] (h : n + m ≤ 9000 := by decide) (k : post (fr (x + y)) S) : f_plus K [fr x, fr y] S post xp := by
  unfold f_plus u_plus fr
  try simp -implicitDefEqProofs only [dDef_2_0, dRet_m, dCall_m, dArgs_c, dArgs_n, dOp_m, dPure_m, dVar_m, mVar_s, oIx_t, at2_1, oMul_i, at2_0, oAdd_i, List.length_cons, List.length_nil, List.cons_append, List.nil_append, Nat.reduceAdd, Nat.reduceSub, List.getElem?_cons_zero, List.getElem?_cons_succ, List.set_cons_zero, List.set_cons_succ, Option.some.injEq, exists_eq_left', true_and, and_true, if_true, if_false, Bool.false_eq_true, Bool.true_eq_false, Bool.not_true, Bool.not_false, reduceIte, beq_self_eq_true, decide_true, Bool.or_false, Bool.or_true, Bool.false_or, Bool.true_or]
  refine ⟨Px.cmul a.h.1 b.h.2 (by omega), Px.cmul b.h.1 a.h.2 (by omega), Px.cmul a.h.2 b.h.2 (by omega), ?_⟩
  refine ev_fraction (Px.den_mul_ne x y) (a.h.2.mul b.h.2) h ?_
  rw [← Px.add_eq]; exact k
theorem ev_times {x y : Rat} {n m : Nat} [a : SzC x n] [b : SzC y m] (h : n + m ≤ 9000 := by decide) (k : post (fr (x * y)) S) : f_times K [fr x, fr y] S post xp := by
  unfold f_times u_times fr
  try simp -implicitDefEqProofs only [dDef_2_0, dRet_m, dCall_m, dArgs_c, dArgs_n, dOp_m, dPure_m, dVar_m, mVar_s, oIx_t, at2_1, oMul_i, at2_0, List.length_cons, List.length_nil, List.cons_append, List.nil_append, Nat.reduceAdd, Nat.reduceSub, List.getElem?_cons_zero, List.getElem?_cons_succ, List.set_cons_zero, List.set_cons_succ, Option.some.injEq, exists_eq_left', true_and, and_true, if_true, if_false, Bool.false_eq_true, Bool.true_eq_false, Bool.not_true, Bool.not_false, reduceIte, beq_self_eq_true, decide_true, Bool.or_false, Bool.or_true, Bool.false_or, Bool.true_or]
  refine ⟨Px.cmul a.h.1 b.h.1 (by omega), Px.cmul a.h.2 b.h.2 (by omega), ?_⟩
  refine ev_fraction (Px.den_mul_ne x y) (a.h.2.mul b.h.2) h ?_
  rw [← Px.mul_eq]; exact k
theorem ev_negative {x : Rat} (k : post (fr (-x)) S) : f_negative K [fr x] S post xp := by
  unfold f_negative u_negative fr
  try simp -implicitDefEqProofs only [dDef_1_0, dRet_m, dTup_m, dArgs_c, dArgs_n, dOp_m, dPure_m, dVar_m, mVar_s, oIx_t, at2_1, dUn_m, at2_0, oNeg_i, List.length_cons, List.length_nil, List.cons_append, List.nil_append, Nat.reduceAdd, Nat.reduceSub, List.getElem?_cons_zero, List.getElem?_cons_succ, List.set_cons_zero, List.set_cons_succ, Option.some.injEq, exists_eq_left', true_and, and_true, if_true, if_false, Bool.false_eq_true, Bool.true_eq_false, Bool.not_true, Bool.not_false, reduceIte, beq_self_eq_true, decide_true, Bool.or_false, Bool.or_true, Bool.false_or, Bool.true_or]
  unfold fr at k
  rw [Rat.neg_num, Rat.neg_den] at k
  exact k
theorem ev_minus {x y : Rat} {n m : Nat} [a : SzC x n] [b : SzC y m] (h : n + m ≤ 9000 := by decide) (k : post (fr (x - y)) S) : f_minus K [fr x, fr y] S post xp := by
  unfold f_minus u_minus
  try simp -implicitDefEqProofs only [dDef_2_0, dRet_m, dCall_m, dArgs_c, dArgs_n, dVar_m, mVar_s, List.length_cons, List.length_nil, List.cons_append, List.nil_append, Nat.reduceAdd, Nat.reduceSub, List.getElem?_cons_zero, List.getElem?_cons_succ, List.set_cons_zero, List.set_cons_succ, Option.some.injEq, exists_eq_left', true_and, and_true, if_true, if_false, Bool.false_eq_true, Bool.true_eq_false, Bool.not_true, Bool.not_false, reduceIte, beq_self_eq_true, decide_true, Bool.or_false, Bool.or_true, Bool.false_or, Bool.true_or]
  refine ev_negative ?_
  refine ev_plus h ?_
  rw [← Rat.sub_eq_add_neg]; exact k
theorem ev_divided {x y : Rat} {n m : Nat} [a : SzC x n] [b : SzC y m] (y0 : y ≠ 0) (h : n + m ≤ 9000 := by decide) (k : post (fr (x / y)) S) : f_divided K [fr x, fr y] S post xp := by
  unfold f_divided u_divided fr
  try simp -implicitDefEqProofs only [dDef_2_0, dRet_m, dCall_m, dArgs_c, dArgs_n, dOp_m, dPure_m, dVar_m, mVar_s, oIx_t, at2_0, at2_1, oMul_i, List.length_cons, List.length_nil, List.cons_append, List.nil_append, Nat.reduceAdd, Nat.reduceSub, List.getElem?_cons_zero, List.getElem?_cons_succ, List.set_cons_zero, List.set_cons_succ, Option.some.injEq, exists_eq_left', true_and, and_true, if_true, if_false, Bool.false_eq_true, Bool.true_eq_false, Bool.not_true, Bool.not_false, reduceIte, beq_self_eq_true, decide_true, Bool.or_false, Bool.or_true, Bool.false_or, Bool.true_or]
  refine ⟨Px.cmul a.h.1 b.h.2 (by omega), Px.cmul a.h.2 b.h.1 (by omega), ?_⟩
  refine ev_fraction (Int.mul_ne_zero (Px.den_ne x) (Px.num_ne y0)) (a.h.2.mul b.h.1) h ?_
  rw [← Px.div_eq]; exact k
end Dw
set_option maxHeartbeats 60000
namespace Dw
open PySem PySem.Spec PyProof.Rows L2
variable {K : PySem.W.Frag} {S : Sto} {post : D → Sto → Prop} {xp : Xp}
abbrev whC : DT := dtVal (dOp oGt (dVar 3) (dPure (.int 0)))
abbrev whB : DS := dPar [2, 3] [dVar 3, dOp oMod (dCall gInt [dVar 2]) (dVar 3)]
theorem common_go {a b : Option D} : ∀ (n x y : Nat) (p : Pst), y < n → p.nx [a, b, some (.int ((Nat.gcd x y : Nat) : Int)), some (.int 0)] S → wWhile whC whB n [a, b, some (.int (x : Int)), some (.int (y : Int))] S p
  | 0, x, y, p, h, _ => absurd h (Nat.not_lt_zero _)
  | n + 1, x, y, p, h, k => by
    unfold wWhile whC whB
    try simp -implicitDefEqProofs only [dPar_m, dArgs_c, setL_c, dArgs_n, setL_n, dOp_m, dVar_m, mVar_s, dCall_m, gInt_i, oMod_i, dtVal_m, dPure_m, oGt_i, mBl_b, List.length_cons, List.length_nil, List.cons_append, List.nil_append, Nat.reduceAdd, Nat.reduceSub, List.getElem?_cons_zero, List.getElem?_cons_succ, List.set_cons_zero, List.set_cons_succ, Option.some.injEq, exists_eq_left', true_and, and_true, if_true, if_false, Bool.false_eq_true, Bool.true_eq_false, Bool.not_true, Bool.not_false, reduceIte, beq_self_eq_true, decide_true, Bool.or_false, Bool.or_true, Bool.false_or, Bool.true_or]
    by_cases hy : y = 0
    · subst hy
      rw [if_neg (by simp)]
      rw [Nat.gcd_zero_right] at k
      exact k
    · rw [if_pos (by simp; omega)]
      refine ⟨by omega, ?_⟩
      have e : ((x : Int).fmod (y : Int)) = ((x % y : Nat) : Int) := by
        rw [Int.fmod_eq_emod_of_nonneg _ (by omega)]
        rfl
      rw [e]
      refine common_go n y (x % y) p (by have := Nat.mod_lt x (by omega : y > 0); omega) ?_
      rw [Nat.gcd_comm y (x % y), ← Nat.gcd_rec, Nat.gcd_comm]
      exact k
theorem ev__law_common {p q : Int} (k : post (.int ((Nat.gcd p.natAbs q.natAbs : Nat) : Int)) S) : f__law_common K [.int p, .int q] S post xp := by
  unfold f__law_common u__law_common
  try simp -implicitDefEqProofs only [dDef_2_2, dSeq_m, dRet_m, dVar_m, dWhile_m, dPar_m, dArgs_c, setL_c, dArgs_n, setL_n, dCall_m, mVar_s, gAbs_i, List.length_cons, List.length_nil, List.cons_append, List.nil_append, Nat.reduceAdd, Nat.reduceSub, List.getElem?_cons_zero, List.getElem?_cons_succ, List.set_cons_zero, List.set_cons_succ, Option.some.injEq, exists_eq_left', true_and, and_true, if_true, if_false, Bool.false_eq_true, Bool.true_eq_false, Bool.not_true, Bool.not_false, reduceIte, beq_self_eq_true, decide_true, Bool.or_false, Bool.or_true, Bool.false_or, Bool.true_or]
  exact ⟨q.natAbs + 1, common_go _ _ _ _ (Nat.lt_succ_self _) k⟩
theorem ev__law_low {p q : Int} {n : Nat} (hq : q ≠ 0) (hz : Px.Sz n q) (hn : n ≤ 9000) (h : post (fr (Rat.divInt p q)) S) : f__law_low K [.int p, .int q] S post xp := by
  unfold f__law_low u__law_low
  try simp -implicitDefEqProofs only [dDef_2_1, dSeq_m, dRet_m, dTup_m, dArgs_c, dArgs_n, dOp_m, dVar_m, dIfS_m, dSet_m, dPure_m, dNext_m, dtVal_m, mVar_s, oLt_i, mBl_b, dCall_m, oSub_i, oDiv_i, List.length_cons, List.length_nil, List.cons_append, List.nil_append, Nat.reduceAdd, Nat.reduceSub, List.getElem?_cons_zero, List.getElem?_cons_succ, List.set_cons_zero, List.set_cons_succ, Option.some.injEq, exists_eq_left', true_and, and_true, if_true, if_false, Bool.false_eq_true, Bool.true_eq_false, Bool.not_true, Bool.not_false, reduceIte, beq_self_eq_true, decide_true, Bool.or_false, Bool.or_true, Bool.false_or, Bool.true_or]
  refine ev__law_common ?_
  try simp -implicitDefEqProofs only [dDef_2_1, dSeq_m, dRet_m, dTup_m, dArgs_c, dArgs_n, dOp_m, dVar_m, dIfS_m, dSet_m, dPure_m, dNext_m, dtVal_m, mVar_s, oLt_i, mBl_b, dCall_m, oSub_i, oDiv_i, List.length_cons, List.length_nil, List.cons_append, List.nil_append, Nat.reduceAdd, Nat.reduceSub, List.getElem?_cons_zero, List.getElem?_cons_succ, List.set_cons_zero, List.set_cons_succ, Option.some.injEq, exists_eq_left', true_and, and_true, if_true, if_false, Bool.false_eq_true, Bool.true_eq_false, Bool.not_true, Bool.not_false, reduceIte, beq_self_eq_true, decide_true, Bool.or_false, Bool.or_true, Bool.false_or, Bool.true_or]
  have hg := Px.gcd_sz (p := p) hz hq
  have g0 : 0 < Nat.gcd p.natAbs q.natAbs := Nat.gcd_pos_of_pos_right _ (by omega)
  by_cases hlt : q < 0
  · rw [decide_eq_true hlt, if_pos rfl]
    have g1 : -(Nat.gcd p.natAbs q.natAbs : Nat) ≠ (0 : Int) := by omega
    rw [Int.zero_sub]
    refine ⟨Px.divU_of g1 hg.neg hn, Px.divU_of g1 hg.neg hn, ?_⟩
    rw [(Px.frac_neg hlt).1, (Px.frac_neg hlt).2]
    exact h
  · rw [decide_eq_false hlt, if_neg Bool.false_ne_true]
    have g1 : ((Nat.gcd p.natAbs q.natAbs : Nat) : Int) ≠ 0 := by omega
    refine ⟨Px.divU_of g1 hg hn, Px.divU_of g1 hg hn, ?_⟩
    rw [(Px.frac_pos (by omega)).1, (Px.frac_pos (by omega)).2]
    exact h
theorem ev__law_sum {x y : Rat} {n m : Nat} [a : SzC x n] [b : SzC y m] (h : n + m ≤ 9000 := by decide) (k : post (fr (x + y)) S) : f__law_sum K [fr x, fr y] S post xp := by
  unfold f__law_sum u__law_sum fr
  try simp -implicitDefEqProofs only [dDef_2_0, dRet_m, dCall_m, dArgs_c, dArgs_n, dOp_m, dPure_m, dVar_m, mVar_s, oIx_t, at2_1, oMul_i, at2_0, oAdd_i, List.length_cons, List.length_nil, List.cons_append, List.nil_append, Nat.reduceAdd, Nat.reduceSub, List.getElem?_cons_zero, List.getElem?_cons_succ, List.set_cons_zero, List.set_cons_succ, Option.some.injEq, exists_eq_left', true_and, and_true, if_true, if_false, Bool.false_eq_true, Bool.true_eq_false, Bool.not_true, Bool.not_false, reduceIte, beq_self_eq_true, decide_true, Bool.or_false, Bool.or_true, Bool.false_or, Bool.true_or]
  refine ⟨Px.cmul a.h.1 b.h.2 (by omega), Px.cmul b.h.1 a.h.2 (by omega), Px.cmul a.h.2 b.h.2 (by omega), ?_⟩
  refine ev__law_low (Px.den_mul_ne x y) (a.h.2.mul b.h.2) h ?_
  rw [← Px.add_eq]; exact k
theorem sub_eq' (x y : Rat) : x - y = Rat.divInt (x.num * y.den - y.num * x.den) (x.den * y.den) := by
  rw [Rat.sub_eq_add_neg, Px.add_eq, Rat.neg_num, Rat.neg_den, Int.neg_mul, Int.sub_eq_add_neg]
theorem ev__law_less {x y : Rat} {n m : Nat} [a : SzC x n] [b : SzC y m] (h : n + m ≤ 9000 := by decide) (k : post (fr (x - y)) S) : f__law_less K [fr x, fr y] S post xp := by
  unfold f__law_less u__law_less fr
  try simp -implicitDefEqProofs only [dDef_2_0, dRet_m, dCall_m, dArgs_c, dArgs_n, dOp_m, dPure_m, dVar_m, mVar_s, oIx_t, at2_1, oMul_i, at2_0, oSub_i, List.length_cons, List.length_nil, List.cons_append, List.nil_append, Nat.reduceAdd, Nat.reduceSub, List.getElem?_cons_zero, List.getElem?_cons_succ, List.set_cons_zero, List.set_cons_succ, Option.some.injEq, exists_eq_left', true_and, and_true, if_true, if_false, Bool.false_eq_true, Bool.true_eq_false, Bool.not_true, Bool.not_false, reduceIte, beq_self_eq_true, decide_true, Bool.or_false, Bool.or_true, Bool.false_or, Bool.true_or]
  refine ⟨Px.cmul a.h.1 b.h.2 (by omega), Px.cmul b.h.1 a.h.2 (by omega), Px.cmul a.h.2 b.h.2 (by omega), ?_⟩
  refine ev__law_low (Px.den_mul_ne x y) (a.h.2.mul b.h.2) h ?_
  rw [← sub_eq']; exact k
theorem ev__law_product {x y : Rat} {n m : Nat} [a : SzC x n] [b : SzC y m] (h : n + m ≤ 9000 := by decide) (k : post (fr (x * y)) S) : f__law_product K [fr x, fr y] S post xp := by
  unfold f__law_product u__law_product fr
  try simp -implicitDefEqProofs only [dDef_2_0, dRet_m, dCall_m, dArgs_c, dArgs_n, dOp_m, dPure_m, dVar_m, mVar_s, oIx_t, at2_1, oMul_i, at2_0, List.length_cons, List.length_nil, List.cons_append, List.nil_append, Nat.reduceAdd, Nat.reduceSub, List.getElem?_cons_zero, List.getElem?_cons_succ, List.set_cons_zero, List.set_cons_succ, Option.some.injEq, exists_eq_left', true_and, and_true, if_true, if_false, Bool.false_eq_true, Bool.true_eq_false, Bool.not_true, Bool.not_false, reduceIte, beq_self_eq_true, decide_true, Bool.or_false, Bool.or_true, Bool.false_or, Bool.true_or]
  refine ⟨Px.cmul a.h.1 b.h.1 (by omega), Px.cmul a.h.2 b.h.2 (by omega), ?_⟩
  refine ev__law_low (Px.den_mul_ne x y) (a.h.2.mul b.h.2) h ?_
  rw [← Px.mul_eq]; exact k
theorem den_int_pos (x : Rat) : decide ((0 : Int) < (x.den : Int)) = true := decide_eq_true (by have := x.den_pos; omega)
theorem fr_gcd (x : Rat) : ((Nat.gcd x.num.natAbs (x.den : Int).natAbs : Nat) : Int) = 1 := by
  rw [Int.natAbs_natCast]
  have := x.reduced
  unfold Nat.Coprime at this
  rw [this]; rfl
theorem ev_is_number_int {i : Int} (k : post (.bl true) S) : f_is_number K [.int i] S post xp := by
  unfold f_is_number u_is_number
  try simp -implicitDefEqProofs only [dDef_1_0, dRet_m, dAnd_m, dNot_m, dCall_m, dArgs_c, dArgs_n, dPure_m, dVar_m, mVar_s, isi_int_bool, mBl_b, isi_int_int, mAnd_t, List.length_cons, List.length_nil, List.cons_append, List.nil_append, Nat.reduceAdd, Nat.reduceSub, List.getElem?_cons_zero, List.getElem?_cons_succ, List.set_cons_zero, List.set_cons_succ, Option.some.injEq, exists_eq_left', true_and, and_true, if_true, if_false, Bool.false_eq_true, Bool.true_eq_false, Bool.not_true, Bool.not_false, reduceIte, beq_self_eq_true, decide_true, Bool.or_false, Bool.or_true, Bool.false_or, Bool.true_or]
  exact k
theorem ev_is_pair2 {a b : D} (k : post (.bl true) S) : f_is_pair K [.tup [a, b]] S post xp := by
  unfold f_is_pair u_is_pair
  try simp -implicitDefEqProofs only [dDef_1_0, dRet_m, dAnd_m, dOp_m, oEq_m, dPure_m, okEq_int, dCall_m, dArgs_c, dArgs_n, dVar_m, mVar_s, gLen_t, eqD_int, isi_tup_tuple, mAnd_t, List.length_cons, List.length_nil, List.cons_append, List.nil_append, Nat.reduceAdd, Nat.reduceSub, List.getElem?_cons_zero, List.getElem?_cons_succ, List.set_cons_zero, List.set_cons_succ, Option.some.injEq, exists_eq_left', true_and, and_true, if_true, if_false, Bool.false_eq_true, Bool.true_eq_false, Bool.not_true, Bool.not_false, reduceIte, beq_self_eq_true, decide_true, Bool.or_false, Bool.or_true, Bool.false_or, Bool.true_or]
  exact k
theorem ev_is_fraction {x : Rat} (k : post (.bl true) S) : f_is_fraction K [fr x] S post xp := by
  unfold f_is_fraction u_is_fraction
  try simp -implicitDefEqProofs only [dDef_1_0, dSeq_m, dRet_m, dAnd_m, dOp_m, oEq_m, dPure_m, okEq_int, dCall_m, dArgs_c, dArgs_n, dVar_m, dIfS_m, dNext_m, mVar_s, oIx_t, at2_1, at2_0, gGcd_i, eqD_int, oGt_i, dtOr_m, dtNot_m, dtVal_m, mBl_b, List.length_cons, List.length_nil, List.cons_append, List.nil_append, Nat.reduceAdd, Nat.reduceSub, List.getElem?_cons_zero, List.getElem?_cons_succ, List.set_cons_zero, List.set_cons_succ, Option.some.injEq, exists_eq_left', true_and, and_true, if_true, if_false, Bool.false_eq_true, Bool.true_eq_false, Bool.not_true, Bool.not_false, reduceIte, beq_self_eq_true, decide_true, Bool.or_false, Bool.or_true, Bool.false_or, Bool.true_or]
  refine ev_is_pair2 ?_
  try simp -implicitDefEqProofs only [dDef_1_0, dSeq_m, dRet_m, dAnd_m, dOp_m, oEq_m, dPure_m, okEq_int, dCall_m, dArgs_c, dArgs_n, dVar_m, dIfS_m, dNext_m, mVar_s, oIx_t, at2_1, at2_0, gGcd_i, eqD_int, oGt_i, dtOr_m, dtNot_m, dtVal_m, mBl_b, List.length_cons, List.length_nil, List.cons_append, List.nil_append, Nat.reduceAdd, Nat.reduceSub, List.getElem?_cons_zero, List.getElem?_cons_succ, List.set_cons_zero, List.set_cons_succ, Option.some.injEq, exists_eq_left', true_and, and_true, if_true, if_false, Bool.false_eq_true, Bool.true_eq_false, Bool.not_true, Bool.not_false, reduceIte, beq_self_eq_true, decide_true, Bool.or_false, Bool.or_true, Bool.false_or, Bool.true_or]
  refine ev_is_number_int ?_
  try simp -implicitDefEqProofs only [dDef_1_0, dSeq_m, dRet_m, dAnd_m, dOp_m, oEq_m, dPure_m, okEq_int, dCall_m, dArgs_c, dArgs_n, dVar_m, dIfS_m, dNext_m, mVar_s, oIx_t, at2_1, at2_0, gGcd_i, eqD_int, oGt_i, dtOr_m, dtNot_m, dtVal_m, mBl_b, List.length_cons, List.length_nil, List.cons_append, List.nil_append, Nat.reduceAdd, Nat.reduceSub, List.getElem?_cons_zero, List.getElem?_cons_succ, List.set_cons_zero, List.set_cons_succ, Option.some.injEq, exists_eq_left', true_and, and_true, if_true, if_false, Bool.false_eq_true, Bool.true_eq_false, Bool.not_true, Bool.not_false, reduceIte, beq_self_eq_true, decide_true, Bool.or_false, Bool.or_true, Bool.false_or, Bool.true_or]
  refine ev_is_number_int ?_
  try simp -implicitDefEqProofs only [dDef_1_0, dSeq_m, dRet_m, dAnd_m, dOp_m, oEq_m, dPure_m, okEq_int, dCall_m, dArgs_c, dArgs_n, dVar_m, dIfS_m, dNext_m, mVar_s, oIx_t, at2_1, at2_0, gGcd_i, eqD_int, oGt_i, dtOr_m, dtNot_m, dtVal_m, mBl_b, List.length_cons, List.length_nil, List.cons_append, List.nil_append, Nat.reduceAdd, Nat.reduceSub, List.getElem?_cons_zero, List.getElem?_cons_succ, List.set_cons_zero, List.set_cons_succ, Option.some.injEq, exists_eq_left', true_and, and_true, if_true, if_false, Bool.false_eq_true, Bool.true_eq_false, Bool.not_true, Bool.not_false, reduceIte, beq_self_eq_true, decide_true, Bool.or_false, Bool.or_true, Bool.false_or, Bool.true_or]
  rw [den_int_pos, fr_gcd]
  exact k
theorem ev_is_spot {x y : Rat} (k : post (.bl true) S) : f_is_spot K [.tup [fr x, fr y]] S post xp := by
  unfold f_is_spot u_is_spot
  try simp -implicitDefEqProofs only [dDef_1_0, dRet_m, dAnd_m, dCall_m, dArgs_c, dArgs_n, dOp_m, dPure_m, dVar_m, mVar_s, oIx_t, at2_1, at2_0, mAnd_t, List.length_cons, List.length_nil, List.cons_append, List.nil_append, Nat.reduceAdd, Nat.reduceSub, List.getElem?_cons_zero, List.getElem?_cons_succ, List.set_cons_zero, List.set_cons_succ, Option.some.injEq, exists_eq_left', true_and, and_true, if_true, if_false, Bool.false_eq_true, Bool.true_eq_false, Bool.not_true, Bool.not_false, reduceIte, beq_self_eq_true, decide_true, Bool.or_false, Bool.or_true, Bool.false_or, Bool.true_or]
  refine ev_is_pair2 ?_
  try simp -implicitDefEqProofs only [dDef_1_0, dRet_m, dAnd_m, dCall_m, dArgs_c, dArgs_n, dOp_m, dPure_m, dVar_m, mVar_s, oIx_t, at2_1, at2_0, mAnd_t, List.length_cons, List.length_nil, List.cons_append, List.nil_append, Nat.reduceAdd, Nat.reduceSub, List.getElem?_cons_zero, List.getElem?_cons_succ, List.set_cons_zero, List.set_cons_succ, Option.some.injEq, exists_eq_left', true_and, and_true, if_true, if_false, Bool.false_eq_true, Bool.true_eq_false, Bool.not_true, Bool.not_false, reduceIte, beq_self_eq_true, decide_true, Bool.or_false, Bool.or_true, Bool.false_or, Bool.true_or]
  refine ev_is_fraction ?_
  try simp -implicitDefEqProofs only [dDef_1_0, dRet_m, dAnd_m, dCall_m, dArgs_c, dArgs_n, dOp_m, dPure_m, dVar_m, mVar_s, oIx_t, at2_1, at2_0, mAnd_t, List.length_cons, List.length_nil, List.cons_append, List.nil_append, Nat.reduceAdd, Nat.reduceSub, List.getElem?_cons_zero, List.getElem?_cons_succ, List.set_cons_zero, List.set_cons_succ, Option.some.injEq, exists_eq_left', true_and, and_true, if_true, if_false, Bool.false_eq_true, Bool.true_eq_false, Bool.not_true, Bool.not_false, reduceIte, beq_self_eq_true, decide_true, Bool.or_false, Bool.or_true, Bool.false_or, Bool.true_or]
  exact ev_is_fraction k
end Dw
set_option maxHeartbeats 60000
namespace Dw
open PySem PySem.Spec PyProof.Rows L2
variable {K : PySem.W.Frag} {S : Sto} {post : D → Sto → Prop} {xp : Xp}
structure Tb where
  a : Rat
  b : Rat
  c : Rat
  d : Rat
structure Mo where
  t : Tb
  x : Rat
  y : Rat
abbrev sp (x y : Rat) : D := .tup [fr x, fr y]
abbrev tbD (K : PySem.W.Frag) (t : Tb) : D := .ins (C_Table K) ["a", "b", "c", "d"] [fr t.a, fr t.b, fr t.c, fr t.d]
abbrev moD (K : PySem.W.Frag) (m : Mo) : D := .ins (C_Motion K) ["table", "move"] [tbD K m.t, sp m.x m.y]
abbrev tT (t : Tb) : D := .tup [fr t.a, fr t.b, fr t.c, fr t.d]
abbrev tM (m : Mo) : D := .tup [tT m.t, sp m.x m.y]
theorem ev_new_Table {t : Tb} (k : post (tbD K t) S) : nNew (C_Table K) (f_Table___init__ K) true [] [fr t.a, fr t.b, fr t.c, fr t.d] S post xp := by
  intro p hp
  unfold f_Table___init__ u_Table___init__
  try simp -implicitDefEqProofs only [dDef_5_1, dSeq_m, dSto_m, dVar_m, dFor_m, cSeq_m, dTup_m, mSeq_t, dArgs_c, wFor_c, dIfS_m, dNext_m, dtNot_m, dtVal_m, dCall_m, dArgs_n, bT_nm, mVar_s, wFor_n, mBl_b, List.length_cons, List.length_nil, List.cons_append, List.nil_append, Nat.reduceAdd, Nat.reduceSub, List.getElem?_cons_zero, List.getElem?_cons_succ, List.set_cons_zero, List.set_cons_succ, Option.some.injEq, exists_eq_left', true_and, and_true, if_true, if_false, Bool.false_eq_true, Bool.true_eq_false, Bool.not_true, Bool.not_false, reduceIte, beq_self_eq_true, decide_true, Bool.or_false, Bool.or_true, Bool.false_or, Bool.true_or]
  refine ev_is_fraction ?_
  try try simp -implicitDefEqProofs only [dDef_5_1, dSeq_m, dSto_m, dVar_m, dFor_m, cSeq_m, dTup_m, mSeq_t, dArgs_c, wFor_c, dIfS_m, dNext_m, dtNot_m, dtVal_m, dCall_m, dArgs_n, bT_nm, mVar_s, wFor_n, mBl_b, List.length_cons, List.length_nil, List.cons_append, List.nil_append, Nat.reduceAdd, Nat.reduceSub, List.getElem?_cons_zero, List.getElem?_cons_succ, List.set_cons_zero, List.set_cons_succ, Option.some.injEq, exists_eq_left', true_and, and_true, if_true, if_false, Bool.false_eq_true, Bool.true_eq_false, Bool.not_true, Bool.not_false, reduceIte, beq_self_eq_true, decide_true, Bool.or_false, Bool.or_true, Bool.false_or, Bool.true_or]
  refine ev_is_fraction ?_
  try try simp -implicitDefEqProofs only [dDef_5_1, dSeq_m, dSto_m, dVar_m, dFor_m, cSeq_m, dTup_m, mSeq_t, dArgs_c, wFor_c, dIfS_m, dNext_m, dtNot_m, dtVal_m, dCall_m, dArgs_n, bT_nm, mVar_s, wFor_n, mBl_b, List.length_cons, List.length_nil, List.cons_append, List.nil_append, Nat.reduceAdd, Nat.reduceSub, List.getElem?_cons_zero, List.getElem?_cons_succ, List.set_cons_zero, List.set_cons_succ, Option.some.injEq, exists_eq_left', true_and, and_true, if_true, if_false, Bool.false_eq_true, Bool.true_eq_false, Bool.not_true, Bool.not_false, reduceIte, beq_self_eq_true, decide_true, Bool.or_false, Bool.or_true, Bool.false_or, Bool.true_or]
  refine ev_is_fraction ?_
  try try simp -implicitDefEqProofs only [dDef_5_1, dSeq_m, dSto_m, dVar_m, dFor_m, cSeq_m, dTup_m, mSeq_t, dArgs_c, wFor_c, dIfS_m, dNext_m, dtNot_m, dtVal_m, dCall_m, dArgs_n, bT_nm, mVar_s, wFor_n, mBl_b, List.length_cons, List.length_nil, List.cons_append, List.nil_append, Nat.reduceAdd, Nat.reduceSub, List.getElem?_cons_zero, List.getElem?_cons_succ, List.set_cons_zero, List.set_cons_succ, Option.some.injEq, exists_eq_left', true_and, and_true, if_true, if_false, Bool.false_eq_true, Bool.true_eq_false, Bool.not_true, Bool.not_false, reduceIte, beq_self_eq_true, decide_true, Bool.or_false, Bool.or_true, Bool.false_or, Bool.true_or]
  refine ev_is_fraction ?_
  try simp -implicitDefEqProofs only [dDef_5_1, dSeq_m, dSto_m, dVar_m, dFor_m, cSeq_m, dTup_m, mSeq_t, dArgs_c, wFor_c, dIfS_m, dNext_m, dtNot_m, dtVal_m, dCall_m, dArgs_n, bT_nm, mVar_s, wFor_n, mBl_b, List.length_cons, List.length_nil, List.cons_append, List.nil_append, Nat.reduceAdd, Nat.reduceSub, List.getElem?_cons_zero, List.getElem?_cons_succ, List.set_cons_zero, List.set_cons_succ, Option.some.injEq, exists_eq_left', true_and, and_true, if_true, if_false, Bool.false_eq_true, Bool.true_eq_false, Bool.not_true, Bool.not_false, reduceIte, beq_self_eq_true, decide_true, Bool.or_false, Bool.or_true, Bool.false_or, Bool.true_or]
  refine ev_sto putL0 (by decide) ?_
  refine ev_sto (putL1 (by decide +kernel)) (by decide) ?_
  refine ev_sto (putL2 (by decide +kernel) (by decide +kernel)) (by decide) ?_
  refine ev_sto (putL3 (by decide +kernel) (by decide +kernel) (by decide +kernel)) (by decide) ?_
  exact frz_ins hp k
theorem ev_new_Motion {t : D} {x y : Rat} (k : post (.ins (C_Motion K) ["table", "move"] [t, sp x y]) S) : nNew (C_Motion K) (f_Motion___init__ K) true [] [t, sp x y] S post xp := by
  intro p hp
  unfold f_Motion___init__ u_Motion___init__ sp
  try try simp -implicitDefEqProofs only [dDef_3_0, dSeq_m, dSto_m, dVar_m, dIfS_m, dNext_m, mVar_s, dtNot_m, dtVal_m, dCall_m, dArgs_c, dArgs_n, mBl_b, List.length_cons, List.length_nil, List.cons_append, List.nil_append, Nat.reduceAdd, Nat.reduceSub, List.getElem?_cons_zero, List.getElem?_cons_succ, List.set_cons_zero, List.set_cons_succ, Option.some.injEq, exists_eq_left', true_and, and_true, if_true, if_false, Bool.false_eq_true, Bool.true_eq_false, Bool.not_true, Bool.not_false, reduceIte, beq_self_eq_true, decide_true, Bool.or_false, Bool.or_true, Bool.false_or, Bool.true_or]
  refine ev_is_spot ?_
  try simp -implicitDefEqProofs only [dDef_3_0, dSeq_m, dSto_m, dVar_m, dIfS_m, dNext_m, mVar_s, dtNot_m, dtVal_m, dCall_m, dArgs_c, dArgs_n, mBl_b, List.length_cons, List.length_nil, List.cons_append, List.nil_append, Nat.reduceAdd, Nat.reduceSub, List.getElem?_cons_zero, List.getElem?_cons_succ, List.set_cons_zero, List.set_cons_succ, Option.some.injEq, exists_eq_left', true_and, and_true, if_true, if_false, Bool.false_eq_true, Bool.true_eq_false, Bool.not_true, Bool.not_false, reduceIte, beq_self_eq_true, decide_true, Bool.or_false, Bool.or_true, Bool.false_or, Bool.true_or]
  refine ev_sto putL0 (by decide) ?_
  refine ev_sto (putL1 (by decide +kernel)) (by decide) ?_
  exact frz_ins hp k
class SzT (t : Tb) (n : outParam Nat) : Prop where
  a : Px.SzR n t.a
  b : Px.SzR n t.b
  c : Px.SzR n t.c
  d : Px.SzR n t.d
instance {t : Tb} {n : Nat} [h : SzT t n] : SzC t.a n := ⟨h.a⟩
instance {t : Tb} {n : Nat} [h : SzT t n] : SzC t.b n := ⟨h.b⟩
instance {t : Tb} {n : Nat} [h : SzT t n] : SzC t.c n := ⟨h.c⟩
instance {t : Tb} {n : Nat} [h : SzT t n] : SzC t.d n := ⟨h.d⟩
@[reducible] def Tb.ax (t : Tb) (x y : Rat) : Rat := t.a * x + t.b * y
@[reducible] def Tb.ay (t : Tb) (x y : Rat) : Rat := t.c * x + t.d * y
def Tb.mul (s t : Tb) : Tb := ⟨s.a * t.a + s.b * t.c, s.a * t.b + s.b * t.d, s.c * t.a + s.d * t.c, s.c * t.b + s.d * t.d⟩
instance {s t : Tb} {n m : Nat} [h : SzT s n] [k : SzT t m] : SzT (s.mul t) (n + m + (n + m) + 1) :=
  ⟨SzC.h (x := s.a * t.a + s.b * t.c), SzC.h (x := s.a * t.b + s.b * t.d), SzC.h (x := s.c * t.a + s.d * t.c), SzC.h (x := s.c * t.b + s.d * t.d)⟩
theorem ev_taken {t : Tb} {x y : Rat} {n l : Nat} [h : SzT t n] [hx : SzC x l] [hy : SzC y l] (hl : n + l + (n + l) ≤ 9000 := by decide) (k : post (sp (t.ax x y) (t.ay x y)) S) : f_taken K [tbD K t, sp x y] S post xp := by
  unfold f_taken u_taken sp
  try try simp -implicitDefEqProofs only [dDef_2_2, dSeq_m, dRet_m, dTup_m, dArgs_c, dArgs_n, dCall_m, dVar_m, dFld_eq, dUnp_m, mVar_s, mTup_t, setL_c, setL_n, List.length_cons, List.length_nil, List.cons_append, List.nil_append, Nat.reduceAdd, Nat.reduceSub, List.getElem?_cons_zero, List.getElem?_cons_succ, List.set_cons_zero, List.set_cons_succ, Option.some.injEq, exists_eq_left', true_and, and_true, if_true, if_false, Bool.false_eq_true, Bool.true_eq_false, Bool.not_true, Bool.not_false, reduceIte, beq_self_eq_true, decide_true, Bool.or_false, Bool.or_true, Bool.false_or, Bool.true_or]
  refine ev_fld rfl ?_
  try try simp -implicitDefEqProofs only [dDef_2_2, dSeq_m, dRet_m, dTup_m, dArgs_c, dArgs_n, dCall_m, dVar_m, dFld_eq, dUnp_m, mVar_s, mTup_t, setL_c, setL_n, List.length_cons, List.length_nil, List.cons_append, List.nil_append, Nat.reduceAdd, Nat.reduceSub, List.getElem?_cons_zero, List.getElem?_cons_succ, List.set_cons_zero, List.set_cons_succ, Option.some.injEq, exists_eq_left', true_and, and_true, if_true, if_false, Bool.false_eq_true, Bool.true_eq_false, Bool.not_true, Bool.not_false, reduceIte, beq_self_eq_true, decide_true, Bool.or_false, Bool.or_true, Bool.false_or, Bool.true_or]
  refine ev_times (by omega) ?_
  refine ev_fld rfl ?_
  try try simp -implicitDefEqProofs only [dDef_2_2, dSeq_m, dRet_m, dTup_m, dArgs_c, dArgs_n, dCall_m, dVar_m, dFld_eq, dUnp_m, mVar_s, mTup_t, setL_c, setL_n, List.length_cons, List.length_nil, List.cons_append, List.nil_append, Nat.reduceAdd, Nat.reduceSub, List.getElem?_cons_zero, List.getElem?_cons_succ, List.set_cons_zero, List.set_cons_succ, Option.some.injEq, exists_eq_left', true_and, and_true, if_true, if_false, Bool.false_eq_true, Bool.true_eq_false, Bool.not_true, Bool.not_false, reduceIte, beq_self_eq_true, decide_true, Bool.or_false, Bool.or_true, Bool.false_or, Bool.true_or]
  refine ev_times (by omega) ?_
  refine ev_plus hl ?_
  refine ev_fld rfl ?_
  try try simp -implicitDefEqProofs only [dDef_2_2, dSeq_m, dRet_m, dTup_m, dArgs_c, dArgs_n, dCall_m, dVar_m, dFld_eq, dUnp_m, mVar_s, mTup_t, setL_c, setL_n, List.length_cons, List.length_nil, List.cons_append, List.nil_append, Nat.reduceAdd, Nat.reduceSub, List.getElem?_cons_zero, List.getElem?_cons_succ, List.set_cons_zero, List.set_cons_succ, Option.some.injEq, exists_eq_left', true_and, and_true, if_true, if_false, Bool.false_eq_true, Bool.true_eq_false, Bool.not_true, Bool.not_false, reduceIte, beq_self_eq_true, decide_true, Bool.or_false, Bool.or_true, Bool.false_or, Bool.true_or]
  refine ev_times (by omega) ?_
  refine ev_fld rfl ?_
  try try simp -implicitDefEqProofs only [dDef_2_2, dSeq_m, dRet_m, dTup_m, dArgs_c, dArgs_n, dCall_m, dVar_m, dFld_eq, dUnp_m, mVar_s, mTup_t, setL_c, setL_n, List.length_cons, List.length_nil, List.cons_append, List.nil_append, Nat.reduceAdd, Nat.reduceSub, List.getElem?_cons_zero, List.getElem?_cons_succ, List.set_cons_zero, List.set_cons_succ, Option.some.injEq, exists_eq_left', true_and, and_true, if_true, if_false, Bool.false_eq_true, Bool.true_eq_false, Bool.not_true, Bool.not_false, reduceIte, beq_self_eq_true, decide_true, Bool.or_false, Bool.or_true, Bool.false_or, Bool.true_or]
  refine ev_times (by omega) ?_
  exact ev_plus hl k
end Dw
set_option maxHeartbeats 60000
namespace Dw
open PySem PySem.Spec PyProof.Rows L2
variable {K : PySem.W.Frag} {S : Sto} {post : D → Sto → Prop} {xp : Xp}
/-- a place -/
class SzP (x y : Rat) (n : outParam Nat) : Prop where
  x : Px.SzR n x
  y : Px.SzR n y
theorem SzP.cx {x y : Rat} {n : Nat} (h : SzP x y n) : SzC x n := ⟨h.x⟩
theorem SzP.cy {x y : Rat} {n : Nat} (h : SzP x y n) : SzC y n := ⟨h.y⟩
instance {t : Tb} {x y : Rat} {n l : Nat} [h : SzT t n] [k : SzP x y l] : SzP (t.ax x y) (t.ay x y) (n + l + (n + l) + 1) :=
  have := k.cx; have := k.cy
  ⟨SzC.h (x := t.a * x + t.b * y), SzC.h (x := t.c * x + t.d * y)⟩
instance {x y x' y' : Rat} {n m : Nat} [h : SzP x y n] [k : SzP x' y' m] : SzP (x + x') (y + y') (n + m + 1) :=
  have := h.cx; have := h.cy; have := k.cx; have := k.cy
  ⟨SzC.h (x := x + x'), SzC.h (x := y + y')⟩
theorem ev_taken' {t : Tb} {x y : Rat} {n l : Nat} [h : SzT t n] [k : SzP x y l] (hl : n + l + (n + l) ≤ 9000) (q : post (sp (t.ax x y) (t.ay x y)) S) : f_taken K [tbD K t, sp x y] S post xp :=
  have := k.cx; have := k.cy
  ev_taken hl q
theorem ev_vector_plus {x y x' y' : Rat} {n m : Nat} [h : SzP x y n] [k : SzP x' y' m] (hl : n + m ≤ 9000) (q : post (sp (x + x') (y + y')) S) : f_vector_plus K [sp x y, sp x' y'] S post xp := by
  have := h.cx; have := h.cy; have := k.cx; have := k.cy
  unfold f_vector_plus u_vector_plus sp
  try simp -implicitDefEqProofs only [dDef_2_0, dRet_m, dTup_m, dArgs_c, dArgs_n, dCall_m, dOp_m, dPure_m, dVar_m, mVar_s, oIx_t, at2_1, at2_0, List.length_cons, List.length_nil, List.cons_append, List.nil_append, Nat.reduceAdd, Nat.reduceSub, List.getElem?_cons_zero, List.getElem?_cons_succ, List.set_cons_zero, List.set_cons_succ, Option.some.injEq, exists_eq_left', true_and, and_true, if_true, if_false, Bool.false_eq_true, Bool.true_eq_false, Bool.not_true, Bool.not_false, reduceIte, beq_self_eq_true, decide_true, Bool.or_false, Bool.or_true, Bool.false_or, Bool.true_or]
  refine ev_plus hl ?_
  exact ev_plus hl q
theorem ev_fld_table {m : Mo} (h : post (tbD K m.t) S) : oFld [C_Motion K] "table" (moD K m) S post xp := ev_fld rfl h
theorem ev_fld_move {m : Mo} (h : post (sp m.x m.y) S) : oFld [C_Motion K] "move" (moD K m) S post xp := ev_fld rfl h
theorem ev_fld_a {t : Tb} (h : post (fr t.a) S) : oFld [C_Table K] "a" (tbD K t) S post xp := ev_fld rfl h
theorem ev_fld_b {t : Tb} (h : post (fr t.b) S) : oFld [C_Table K] "b" (tbD K t) S post xp := ev_fld rfl h
theorem ev_fld_c {t : Tb} (h : post (fr t.c) S) : oFld [C_Table K] "c" (tbD K t) S post xp := ev_fld rfl h
theorem ev_fld_d {t : Tb} (h : post (fr t.d) S) : oFld [C_Table K] "d" (tbD K t) S post xp := ev_fld rfl h
@[reducible] def Mo.px (m : Mo) (x y : Rat) : Rat := m.t.ax x y + m.x
@[reducible] def Mo.py (m : Mo) (x y : Rat) : Rat := m.t.ay x y + m.y
theorem ev_moved_spot {m : Mo} {x y : Rat} {n l j : Nat} [h : SzT m.t n] [k : SzP x y l] [g : SzP m.x m.y j] (hl : n + l + (n + l) + 1 + j ≤ 9000) (q : post (sp (m.px x y) (m.py x y)) S) : f_moved_spot K [moD K m, sp x y] S post xp := by
  unfold f_moved_spot u_moved_spot
  try simp -implicitDefEqProofs only [dDef_2_0, dRet_m, dCall_m, dArgs_c, dArgs_n, dFld_eq, dVar_m, mVar_s, List.length_cons, List.length_nil, List.cons_append, List.nil_append, Nat.reduceAdd, Nat.reduceSub, List.getElem?_cons_zero, List.getElem?_cons_succ, List.set_cons_zero, List.set_cons_succ, Option.some.injEq, exists_eq_left', true_and, and_true, if_true, if_false, Bool.false_eq_true, Bool.true_eq_false, Bool.not_true, Bool.not_false, reduceIte, beq_self_eq_true, decide_true, Bool.or_false, Bool.or_true, Bool.false_or, Bool.true_or]
  refine ev_fld_table ?_
  try simp -implicitDefEqProofs only [dDef_2_0, dRet_m, dCall_m, dArgs_c, dArgs_n, dFld_eq, dVar_m, mVar_s, List.length_cons, List.length_nil, List.cons_append, List.nil_append, Nat.reduceAdd, Nat.reduceSub, List.getElem?_cons_zero, List.getElem?_cons_succ, List.set_cons_zero, List.set_cons_succ, Option.some.injEq, exists_eq_left', true_and, and_true, if_true, if_false, Bool.false_eq_true, Bool.true_eq_false, Bool.not_true, Bool.not_false, reduceIte, beq_self_eq_true, decide_true, Bool.or_false, Bool.or_true, Bool.false_or, Bool.true_or]
  refine ev_taken' (by omega) ?_
  try simp -implicitDefEqProofs only [dDef_2_0, dRet_m, dCall_m, dArgs_c, dArgs_n, dFld_eq, dVar_m, mVar_s, List.length_cons, List.length_nil, List.cons_append, List.nil_append, Nat.reduceAdd, Nat.reduceSub, List.getElem?_cons_zero, List.getElem?_cons_succ, List.set_cons_zero, List.set_cons_succ, Option.some.injEq, exists_eq_left', true_and, and_true, if_true, if_false, Bool.false_eq_true, Bool.true_eq_false, Bool.not_true, Bool.not_false, reduceIte, beq_self_eq_true, decide_true, Bool.or_false, Bool.or_true, Bool.false_or, Bool.true_or]
  refine ev_fld_move ?_
  try simp -implicitDefEqProofs only [dDef_2_0, dRet_m, dCall_m, dArgs_c, dArgs_n, dFld_eq, dVar_m, mVar_s, List.length_cons, List.length_nil, List.cons_append, List.nil_append, Nat.reduceAdd, Nat.reduceSub, List.getElem?_cons_zero, List.getElem?_cons_succ, List.set_cons_zero, List.set_cons_succ, Option.some.injEq, exists_eq_left', true_and, and_true, if_true, if_false, Bool.false_eq_true, Bool.true_eq_false, Bool.not_true, Bool.not_false, reduceIte, beq_self_eq_true, decide_true, Bool.or_false, Bool.or_true, Bool.false_or, Bool.true_or]
  exact ev_vector_plus hl q
theorem ev_Motion_call {m : Mo} {x y : Rat} {n l j : Nat} [h : SzT m.t n] [k : SzP x y l] [g : SzP m.x m.y j] (hl : n + l + (n + l) + 1 + j ≤ 9000) (q : post (sp (m.px x y) (m.py x y)) S) : f_Motion___call__ K [moD K m, sp x y] S post xp := by
  unfold f_Motion___call__ u_Motion___call__
  try simp -implicitDefEqProofs only [dDef_2_0, dSeq_m, dRet_m, dCall_m, dArgs_c, dArgs_n, dVar_m, dIfS_m, dNext_m, mVar_s, dtNot_m, dtVal_m, mBl_b, List.length_cons, List.length_nil, List.cons_append, List.nil_append, Nat.reduceAdd, Nat.reduceSub, List.getElem?_cons_zero, List.getElem?_cons_succ, List.set_cons_zero, List.set_cons_succ, Option.some.injEq, exists_eq_left', true_and, and_true, if_true, if_false, Bool.false_eq_true, Bool.true_eq_false, Bool.not_true, Bool.not_false, reduceIte, beq_self_eq_true, decide_true, Bool.or_false, Bool.or_true, Bool.false_or, Bool.true_or]
  refine ev_is_spot ?_
  try simp -implicitDefEqProofs only [dDef_2_0, dSeq_m, dRet_m, dCall_m, dArgs_c, dArgs_n, dVar_m, dIfS_m, dNext_m, mVar_s, dtNot_m, dtVal_m, mBl_b, List.length_cons, List.length_nil, List.cons_append, List.nil_append, Nat.reduceAdd, Nat.reduceSub, List.getElem?_cons_zero, List.getElem?_cons_succ, List.set_cons_zero, List.set_cons_succ, Option.some.injEq, exists_eq_left', true_and, and_true, if_true, if_false, Bool.false_eq_true, Bool.true_eq_false, Bool.not_true, Bool.not_false, reduceIte, beq_self_eq_true, decide_true, Bool.or_false, Bool.or_true, Bool.false_or, Bool.true_or]
  exact ev_moved_spot hl q
theorem ev_columns {a b c d : Rat} (q : post (tbD K ⟨a, b, c, d⟩) S) : f_columns K [sp a c, sp b d] S post xp := by
  unfold f_columns u_columns sp
  try simp -implicitDefEqProofs only [dDef_2_0, dRet_m, dNew_eq, dArgs_c, dArgs_n, dOp_m, dPure_m, dVar_m, mVar_s, oIx_t, at2_1, at2_0, List.length_cons, List.length_nil, List.cons_append, List.nil_append, Nat.reduceAdd, Nat.reduceSub, List.getElem?_cons_zero, List.getElem?_cons_succ, List.set_cons_zero, List.set_cons_succ, Option.some.injEq, exists_eq_left', true_and, and_true, if_true, if_false, Bool.false_eq_true, Bool.true_eq_false, Bool.not_true, Bool.not_false, reduceIte, beq_self_eq_true, decide_true, Bool.or_false, Bool.or_true, Bool.false_or, Bool.true_or]
  exact ev_new_Table (t := ⟨a, b, c, d⟩) q
instance szp_ac {t : Tb} {n : Nat} [h : SzT t n] : SzP t.a t.c n := ⟨h.a, h.c⟩
instance szp_bd {t : Tb} {n : Nat} [h : SzT t n] : SzP t.b t.d n := ⟨h.b, h.d⟩
def Mo.mul (m n : Mo) : Mo := ⟨m.t.mul n.t, m.px n.x n.y, m.py n.x n.y⟩
end Dw
set_option maxHeartbeats 60000
namespace Dw
open PySem PySem.Spec PyProof.Rows L2
variable {K : PySem.W.Frag} {S : Sto} {post : D → Sto → Prop} {xp : Xp}
theorem ev__law_led {t : Tb} {x y : Rat} {n l : Nat} [h : SzT t n] [k : SzP x y l] (hl : n + l + (n + l) ≤ 9000) (q : post (sp (t.ax x y) (t.ay x y)) S) : f__law_led K [tT t, sp x y] S post xp := by
  have := k.cx; have := k.cy
  unfold f__law_led u__law_led sp
  try simp -implicitDefEqProofs only [dDef_2_1, dSeq_m, dRet_m, dTup_m, dArgs_c, dArgs_n, dCall_m, dOp_m, dPure_m, dVar_m, dSet_m, mVar_s, oIx_t, at2_1, at4_3, at2_0, at4_2, at4_1, at4_0, List.length_cons, List.length_nil, List.cons_append, List.nil_append, Nat.reduceAdd, Nat.reduceSub, List.getElem?_cons_zero, List.getElem?_cons_succ, List.set_cons_zero, List.set_cons_succ, Option.some.injEq, exists_eq_left', true_and, and_true, if_true, if_false, Bool.false_eq_true, Bool.true_eq_false, Bool.not_true, Bool.not_false, reduceIte, beq_self_eq_true, decide_true, Bool.or_false, Bool.or_true, Bool.false_or, Bool.true_or]
  refine ev__law_product (by omega) ?_
  refine ev__law_product (by omega) ?_
  refine ev__law_sum hl ?_
  try simp -implicitDefEqProofs only [dDef_2_1, dSeq_m, dRet_m, dTup_m, dArgs_c, dArgs_n, dCall_m, dOp_m, dPure_m, dVar_m, dSet_m, mVar_s, oIx_t, at2_1, at4_3, at2_0, at4_2, at4_1, at4_0, List.length_cons, List.length_nil, List.cons_append, List.nil_append, Nat.reduceAdd, Nat.reduceSub, List.getElem?_cons_zero, List.getElem?_cons_succ, List.set_cons_zero, List.set_cons_succ, Option.some.injEq, exists_eq_left', true_and, and_true, if_true, if_false, Bool.false_eq_true, Bool.true_eq_false, Bool.not_true, Bool.not_false, reduceIte, beq_self_eq_true, decide_true, Bool.or_false, Bool.or_true, Bool.false_or, Bool.true_or]
  refine ev__law_product (by omega) ?_
  refine ev__law_product (by omega) ?_
  exact ev__law_sum hl q
theorem ev__law_moved {x y x' y' : Rat} {n m : Nat} [h : SzP x y n] [k : SzP x' y' m] (hl : n + m ≤ 9000) (q : post (sp (x + x') (y + y')) S) : f__law_moved K [sp x y, sp x' y'] S post xp := by
  have := h.cx; have := h.cy; have := k.cx; have := k.cy
  unfold f__law_moved u__law_moved sp
  try simp -implicitDefEqProofs only [dDef_2_0, dRet_m, dTup_m, dArgs_c, dArgs_n, dCall_m, dOp_m, dPure_m, dVar_m, mVar_s, oIx_t, at2_1, at2_0, List.length_cons, List.length_nil, List.cons_append, List.nil_append, Nat.reduceAdd, Nat.reduceSub, List.getElem?_cons_zero, List.getElem?_cons_succ, List.set_cons_zero, List.set_cons_succ, Option.some.injEq, exists_eq_left', true_and, and_true, if_true, if_false, Bool.false_eq_true, Bool.true_eq_false, Bool.not_true, Bool.not_false, reduceIte, beq_self_eq_true, decide_true, Bool.or_false, Bool.or_true, Bool.false_or, Bool.true_or]
  refine ev__law_sum hl ?_
  exact ev__law_sum hl q
theorem ev__law_det {t : Tb} {n : Nat} [h : SzT t n] (hl : n + n + (n + n) ≤ 9000) (q : post (fr (t.a * t.d - t.b * t.c)) S) : f__law_det K [tT t] S post xp := by
  unfold f__law_det u__law_det
  try simp -implicitDefEqProofs only [dDef_1_0, dRet_m, dCall_m, dArgs_c, dArgs_n, dOp_m, dPure_m, dVar_m, mVar_s, oIx_t, at4_2, at4_1, at4_3, at4_0, List.length_cons, List.length_nil, List.cons_append, List.nil_append, Nat.reduceAdd, Nat.reduceSub, List.getElem?_cons_zero, List.getElem?_cons_succ, List.set_cons_zero, List.set_cons_succ, Option.some.injEq, exists_eq_left', true_and, and_true, if_true, if_false, Bool.false_eq_true, Bool.true_eq_false, Bool.not_true, Bool.not_false, reduceIte, beq_self_eq_true, decide_true, Bool.or_false, Bool.or_true, Bool.false_or, Bool.true_or]
  refine ev__law_product (by omega) ?_
  refine ev__law_product (by omega) ?_
  exact ev__law_less hl q
theorem isi_own {cs : List Addr} {C : Addr} {ns : List Str} {ds : List D} (hc : C ∈ cs) (k : post (.bl true) S) : gIsi cs [.ins C ns ds, .val (.ref C)] S post xp := ⟨.C C, true, rfl, (by intro C' e; cases e; exact hc), ⟨hc, hc, .inl ⟨rfl, rfl⟩⟩, k⟩
theorem ty_ins {C : Addr} {ns : List Str} {ds : List D} {cs : List Addr} (h : C ∈ cs) : ∃ t, tyD S (.ins C ns ds) = some t ∧ (∀ C', t = .C C' → C' ∈ cs) := ⟨.C C, rfl, by intro C' e; cases e; exact h⟩
theorem ev_Table_identity (q : post (tbD K ⟨1, 0, 0, 1⟩) S) : f_Table_identity K [] S post xp := by
  unfold f_Table_identity u_Table_identity
  try simp -implicitDefEqProofs only [g_ONE, g_ZERO, fr_1, fr_0, dDef_0_0, dRet_m, dNew_eq, dArgs_c, dArgs_n, dPure_m, List.length_cons, List.length_nil, List.cons_append, List.nil_append, Nat.reduceAdd, Nat.reduceSub, List.getElem?_cons_zero, List.getElem?_cons_succ, List.set_cons_zero, List.set_cons_succ, Option.some.injEq, exists_eq_left', true_and, and_true, if_true, if_false, Bool.false_eq_true, Bool.true_eq_false, Bool.not_true, Bool.not_false, reduceIte, beq_self_eq_true, decide_true, Bool.or_false, Bool.or_true, Bool.false_or, Bool.true_or]
  exact ev_new_Table (t := ⟨1, 0, 0, 1⟩) q
end Dw
set_option maxHeartbeats 60000
namespace Dw
open PySem PySem.Spec PyProof.Rows L2
variable {K : PySem.W.Frag} {S : Sto} {post : D → Sto → Prop} {xp : Xp}
/-- what _law_same finds to be the same as itself -/
def gp (K : PySem.W.Frag) : Nat → D → Prop
  | 0, _ => False
  | n + 1, .tup ds => ds.length ≤ 1000 ∧ ∀ d ∈ ds, gp K n d
  | n + 1, .lst ds => ds.length ≤ 1000 ∧ ∀ d ∈ ds, gp K n d
  | _ + 1, .non => True
  | _ + 1, .bl _ => True
  | _ + 1, .int _ => True
  | _ + 1, .str s => PyData.strOk s = true
  | _ + 1, _ => False
theorem gp_of : ∀ {n : Nat} {d : D}, gd n d = true → gp K n d
  | 0, d, h => by unfold gd at h; cases h
  | n + 1, d, h => by
    cases d with
    | non => unfold gp; trivial
    | bl b => unfold gp; trivial
    | int i => unfold gp; trivial
    | str s => unfold gd at h; unfold gp; exact h
    | tup ds =>
      unfold gd at h
      rw [Bool.and_eq_true, decide_eq_true_eq, List.all_eq_true] at h
      unfold gp
      exact ⟨h.1, fun d hd => gp_of (h.2 d hd)⟩
    | lst ds =>
      unfold gd at h
      rw [Bool.and_eq_true, decide_eq_true_eq, List.all_eq_true] at h
      unfold gp
      exact ⟨h.1, fun d hd => gp_of (h.2 d hd)⟩
    | ins C ns ds => unfold gd at h; cases h
    | dK ks ds => unfold gd at h; cases h
    | dT ks ds => unfold gd at h; cases h
    | val v => unfold gd at h; cases h
    | fn f c q σ ρ => unfold gd at h; cases h
    | scr ns => unfold gd at h; cases h
    | exc _ _ _ _ => unfold gd at h; cases h
theorem same_n : ∀ (n : Nat) (d : D) (S : Sto) (post : D → Sto → Prop) (xp : Xp), gp K n d → post (.bl true) S → r__law_same K n [d, d] S post xp
  | 0, d, _, _, _, h, _ => by unfold gp at h; exact h.elim
  | n + 1, d, S, post, xp, h, k => by
    have ih := same_n n
    unfold r__law_same b__law_same u__law_same
    cases d with
    | non => try simp -implicitDefEqProofs only [dDef_2_2, dSeq_m, dRet_m, dOp_m, oEq_m, dVar_m, dIfS_m, dAnd_m, dCall_m, dArgs_c, dArgs_n, dPure_m, dNext_m, dtOr_m, dtVal_m, dIsi2_m, mBl_b, dLc_m, wipeL_c, wipeL_n, cZip_m, mVar_s, oNe_m, isi_non_tuple, okEq_bl, eqD_bl, isi_non_list, oIs_non, mAnd_t, isi_non_bool, mAnd_f, isi_non_int, isi_non_str, isi2_non, isi_bl_tuple, isi_bl_list, oIs_bl, isi_bl_bool, isi_bl_int, isi_bl_str, isi2_bl, isi_int_tuple, isi_int_list, oIs_int, okEq_int, eqD_int, isi_int_bool, isi_int_int, isi_int_str, isi2_int, isi_str_tuple, isi_str_list, oIs_str, eqD_str, isi_str_bool, isi_str_int, isi_str_str, isi2_str, mZip_t, gLen_t, isi_tup_tuple, isi_tup_list, isi_tup_bool, isi_tup_int, isi_tup_str, isi2_tup, mZip_l, gLen_l, isi_lst_tuple, isi_lst_list, isi_lst_bool, isi_lst_int, isi_lst_str, isi2_lst, List.length_cons, List.length_nil, List.cons_append, List.nil_append, Nat.reduceAdd, Nat.reduceSub, List.getElem?_cons_zero, List.getElem?_cons_succ, List.set_cons_zero, List.set_cons_succ, Option.some.injEq, exists_eq_left', true_and, and_true, if_true, if_false, Bool.false_eq_true, Bool.true_eq_false, Bool.not_true, Bool.not_false, reduceIte, beq_self_eq_true, decide_true, Bool.or_false, Bool.or_true, Bool.false_or, Bool.true_or]; exact k
    | bl b => try simp -implicitDefEqProofs only [dDef_2_2, dSeq_m, dRet_m, dOp_m, oEq_m, dVar_m, dIfS_m, dAnd_m, dCall_m, dArgs_c, dArgs_n, dPure_m, dNext_m, dtOr_m, dtVal_m, dIsi2_m, mBl_b, dLc_m, wipeL_c, wipeL_n, cZip_m, mVar_s, oNe_m, isi_non_tuple, okEq_bl, eqD_bl, isi_non_list, oIs_non, mAnd_t, isi_non_bool, mAnd_f, isi_non_int, isi_non_str, isi2_non, isi_bl_tuple, isi_bl_list, oIs_bl, isi_bl_bool, isi_bl_int, isi_bl_str, isi2_bl, isi_int_tuple, isi_int_list, oIs_int, okEq_int, eqD_int, isi_int_bool, isi_int_int, isi_int_str, isi2_int, isi_str_tuple, isi_str_list, oIs_str, eqD_str, isi_str_bool, isi_str_int, isi_str_str, isi2_str, mZip_t, gLen_t, isi_tup_tuple, isi_tup_list, isi_tup_bool, isi_tup_int, isi_tup_str, isi2_tup, mZip_l, gLen_l, isi_lst_tuple, isi_lst_list, isi_lst_bool, isi_lst_int, isi_lst_str, isi2_lst, List.length_cons, List.length_nil, List.cons_append, List.nil_append, Nat.reduceAdd, Nat.reduceSub, List.getElem?_cons_zero, List.getElem?_cons_succ, List.set_cons_zero, List.set_cons_succ, Option.some.injEq, exists_eq_left', true_and, and_true, if_true, if_false, Bool.false_eq_true, Bool.true_eq_false, Bool.not_true, Bool.not_false, reduceIte, beq_self_eq_true, decide_true, Bool.or_false, Bool.or_true, Bool.false_or, Bool.true_or]; exact k
    | int i => try simp -implicitDefEqProofs only [dDef_2_2, dSeq_m, dRet_m, dOp_m, oEq_m, dVar_m, dIfS_m, dAnd_m, dCall_m, dArgs_c, dArgs_n, dPure_m, dNext_m, dtOr_m, dtVal_m, dIsi2_m, mBl_b, dLc_m, wipeL_c, wipeL_n, cZip_m, mVar_s, oNe_m, isi_non_tuple, okEq_bl, eqD_bl, isi_non_list, oIs_non, mAnd_t, isi_non_bool, mAnd_f, isi_non_int, isi_non_str, isi2_non, isi_bl_tuple, isi_bl_list, oIs_bl, isi_bl_bool, isi_bl_int, isi_bl_str, isi2_bl, isi_int_tuple, isi_int_list, oIs_int, okEq_int, eqD_int, isi_int_bool, isi_int_int, isi_int_str, isi2_int, isi_str_tuple, isi_str_list, oIs_str, eqD_str, isi_str_bool, isi_str_int, isi_str_str, isi2_str, mZip_t, gLen_t, isi_tup_tuple, isi_tup_list, isi_tup_bool, isi_tup_int, isi_tup_str, isi2_tup, mZip_l, gLen_l, isi_lst_tuple, isi_lst_list, isi_lst_bool, isi_lst_int, isi_lst_str, isi2_lst, List.length_cons, List.length_nil, List.cons_append, List.nil_append, Nat.reduceAdd, Nat.reduceSub, List.getElem?_cons_zero, List.getElem?_cons_succ, List.set_cons_zero, List.set_cons_succ, Option.some.injEq, exists_eq_left', true_and, and_true, if_true, if_false, Bool.false_eq_true, Bool.true_eq_false, Bool.not_true, Bool.not_false, reduceIte, beq_self_eq_true, decide_true, Bool.or_false, Bool.or_true, Bool.false_or, Bool.true_or]; exact k
    | str s =>
      have hs : okEq (.str s) = true := okEq_str (by unfold gp at h; exact h)
      try simp -implicitDefEqProofs only [dDef_2_2, dSeq_m, dRet_m, dOp_m, oEq_m, dVar_m, dIfS_m, dAnd_m, dCall_m, dArgs_c, dArgs_n, dPure_m, dNext_m, dtOr_m, dtVal_m, dIsi2_m, mBl_b, dLc_m, wipeL_c, wipeL_n, cZip_m, mVar_s, oNe_m, isi_non_tuple, okEq_bl, eqD_bl, isi_non_list, oIs_non, mAnd_t, isi_non_bool, mAnd_f, isi_non_int, isi_non_str, isi2_non, isi_bl_tuple, isi_bl_list, oIs_bl, isi_bl_bool, isi_bl_int, isi_bl_str, isi2_bl, isi_int_tuple, isi_int_list, oIs_int, okEq_int, eqD_int, isi_int_bool, isi_int_int, isi_int_str, isi2_int, isi_str_tuple, isi_str_list, oIs_str, eqD_str, isi_str_bool, isi_str_int, isi_str_str, isi2_str, mZip_t, gLen_t, isi_tup_tuple, isi_tup_list, isi_tup_bool, isi_tup_int, isi_tup_str, isi2_tup, mZip_l, gLen_l, isi_lst_tuple, isi_lst_list, isi_lst_bool, isi_lst_int, isi_lst_str, isi2_lst, List.length_cons, List.length_nil, List.cons_append, List.nil_append, Nat.reduceAdd, Nat.reduceSub, List.getElem?_cons_zero, List.getElem?_cons_succ, List.set_cons_zero, List.set_cons_succ, Option.some.injEq, exists_eq_left', true_and, and_true, if_true, if_false, Bool.false_eq_true, Bool.true_eq_false, Bool.not_true, Bool.not_false, reduceIte, beq_self_eq_true, decide_true, Bool.or_false, Bool.or_true, Bool.false_or, Bool.true_or, eqD_str, hs]
      exact k
    | tup ds =>
      unfold gp at h
      try simp -implicitDefEqProofs only [dDef_2_2, dSeq_m, dRet_m, dOp_m, oEq_m, dVar_m, dIfS_m, dAnd_m, dCall_m, dArgs_c, dArgs_n, dPure_m, dNext_m, dtOr_m, dtVal_m, dIsi2_m, mBl_b, dLc_m, wipeL_c, wipeL_n, cZip_m, mVar_s, oNe_m, isi_non_tuple, okEq_bl, eqD_bl, isi_non_list, oIs_non, mAnd_t, isi_non_bool, mAnd_f, isi_non_int, isi_non_str, isi2_non, isi_bl_tuple, isi_bl_list, oIs_bl, isi_bl_bool, isi_bl_int, isi_bl_str, isi2_bl, isi_int_tuple, isi_int_list, oIs_int, okEq_int, eqD_int, isi_int_bool, isi_int_int, isi_int_str, isi2_int, isi_str_tuple, isi_str_list, oIs_str, eqD_str, isi_str_bool, isi_str_int, isi_str_str, isi2_str, mZip_t, gLen_t, isi_tup_tuple, isi_tup_list, isi_tup_bool, isi_tup_int, isi_tup_str, isi2_tup, mZip_l, gLen_l, isi_lst_tuple, isi_lst_list, isi_lst_bool, isi_lst_int, isi_lst_str, isi2_lst, List.length_cons, List.length_nil, List.cons_append, List.nil_append, Nat.reduceAdd, Nat.reduceSub, List.getElem?_cons_zero, List.getElem?_cons_succ, List.set_cons_zero, List.set_cons_succ, Option.some.injEq, exists_eq_left', true_and, and_true, if_true, if_false, Bool.false_eq_true, Bool.true_eq_false, Bool.not_true, Bool.not_false, reduceIte, beq_self_eq_true, decide_true, Bool.or_false, Bool.or_true, Bool.false_or, Bool.true_or]
      refine ⟨by rw [zipD_len1]; exact h.1, ?_⟩
      refine wLc_yes (fun _ => .bl true) _ _ _ (fun d hd k' hk' => ?_) ?_
      · obtain ⟨x, hx, rfl⟩ := zipD_mem hd
        refine bT_tp2 ?_
        try simp -implicitDefEqProofs only [dDef_2_2, dSeq_m, dRet_m, dOp_m, oEq_m, dVar_m, dIfS_m, dAnd_m, dCall_m, dArgs_c, dArgs_n, dPure_m, dNext_m, dtOr_m, dtVal_m, dIsi2_m, mBl_b, dLc_m, wipeL_c, wipeL_n, cZip_m, mVar_s, oNe_m, isi_non_tuple, okEq_bl, eqD_bl, isi_non_list, oIs_non, mAnd_t, isi_non_bool, mAnd_f, isi_non_int, isi_non_str, isi2_non, isi_bl_tuple, isi_bl_list, oIs_bl, isi_bl_bool, isi_bl_int, isi_bl_str, isi2_bl, isi_int_tuple, isi_int_list, oIs_int, okEq_int, eqD_int, isi_int_bool, isi_int_int, isi_int_str, isi2_int, isi_str_tuple, isi_str_list, oIs_str, eqD_str, isi_str_bool, isi_str_int, isi_str_str, isi2_str, mZip_t, gLen_t, isi_tup_tuple, isi_tup_list, isi_tup_bool, isi_tup_int, isi_tup_str, isi2_tup, mZip_l, gLen_l, isi_lst_tuple, isi_lst_list, isi_lst_bool, isi_lst_int, isi_lst_str, isi2_lst, List.length_cons, List.length_nil, List.cons_append, List.nil_append, Nat.reduceAdd, Nat.reduceSub, List.getElem?_cons_zero, List.getElem?_cons_succ, List.set_cons_zero, List.set_cons_succ, Option.some.injEq, exists_eq_left', true_and, and_true, if_true, if_false, Bool.false_eq_true, Bool.true_eq_false, Bool.not_true, Bool.not_false, reduceIte, beq_self_eq_true, decide_true, Bool.or_false, Bool.or_true, Bool.false_or, Bool.true_or]
        exact ih x _ _ _ (h.2 x hx) hk'
      · exact gAll_true k
    | lst ds =>
      unfold gp at h
      try simp -implicitDefEqProofs only [dDef_2_2, dSeq_m, dRet_m, dOp_m, oEq_m, dVar_m, dIfS_m, dAnd_m, dCall_m, dArgs_c, dArgs_n, dPure_m, dNext_m, dtOr_m, dtVal_m, dIsi2_m, mBl_b, dLc_m, wipeL_c, wipeL_n, cZip_m, mVar_s, oNe_m, isi_non_tuple, okEq_bl, eqD_bl, isi_non_list, oIs_non, mAnd_t, isi_non_bool, mAnd_f, isi_non_int, isi_non_str, isi2_non, isi_bl_tuple, isi_bl_list, oIs_bl, isi_bl_bool, isi_bl_int, isi_bl_str, isi2_bl, isi_int_tuple, isi_int_list, oIs_int, okEq_int, eqD_int, isi_int_bool, isi_int_int, isi_int_str, isi2_int, isi_str_tuple, isi_str_list, oIs_str, eqD_str, isi_str_bool, isi_str_int, isi_str_str, isi2_str, mZip_t, gLen_t, isi_tup_tuple, isi_tup_list, isi_tup_bool, isi_tup_int, isi_tup_str, isi2_tup, mZip_l, gLen_l, isi_lst_tuple, isi_lst_list, isi_lst_bool, isi_lst_int, isi_lst_str, isi2_lst, List.length_cons, List.length_nil, List.cons_append, List.nil_append, Nat.reduceAdd, Nat.reduceSub, List.getElem?_cons_zero, List.getElem?_cons_succ, List.set_cons_zero, List.set_cons_succ, Option.some.injEq, exists_eq_left', true_and, and_true, if_true, if_false, Bool.false_eq_true, Bool.true_eq_false, Bool.not_true, Bool.not_false, reduceIte, beq_self_eq_true, decide_true, Bool.or_false, Bool.or_true, Bool.false_or, Bool.true_or]
      refine ⟨by rw [zipD_len1]; exact h.1, ?_⟩
      refine wLc_yes (fun _ => .bl true) _ _ _ (fun d hd k' hk' => ?_) ?_
      · obtain ⟨x, hx, rfl⟩ := zipD_mem hd
        refine bT_tp2 ?_
        try simp -implicitDefEqProofs only [dDef_2_2, dSeq_m, dRet_m, dOp_m, oEq_m, dVar_m, dIfS_m, dAnd_m, dCall_m, dArgs_c, dArgs_n, dPure_m, dNext_m, dtOr_m, dtVal_m, dIsi2_m, mBl_b, dLc_m, wipeL_c, wipeL_n, cZip_m, mVar_s, oNe_m, isi_non_tuple, okEq_bl, eqD_bl, isi_non_list, oIs_non, mAnd_t, isi_non_bool, mAnd_f, isi_non_int, isi_non_str, isi2_non, isi_bl_tuple, isi_bl_list, oIs_bl, isi_bl_bool, isi_bl_int, isi_bl_str, isi2_bl, isi_int_tuple, isi_int_list, oIs_int, okEq_int, eqD_int, isi_int_bool, isi_int_int, isi_int_str, isi2_int, isi_str_tuple, isi_str_list, oIs_str, eqD_str, isi_str_bool, isi_str_int, isi_str_str, isi2_str, mZip_t, gLen_t, isi_tup_tuple, isi_tup_list, isi_tup_bool, isi_tup_int, isi_tup_str, isi2_tup, mZip_l, gLen_l, isi_lst_tuple, isi_lst_list, isi_lst_bool, isi_lst_int, isi_lst_str, isi2_lst, List.length_cons, List.length_nil, List.cons_append, List.nil_append, Nat.reduceAdd, Nat.reduceSub, List.getElem?_cons_zero, List.getElem?_cons_succ, List.set_cons_zero, List.set_cons_succ, Option.some.injEq, exists_eq_left', true_and, and_true, if_true, if_false, Bool.false_eq_true, Bool.true_eq_false, Bool.not_true, Bool.not_false, reduceIte, beq_self_eq_true, decide_true, Bool.or_false, Bool.or_true, Bool.false_or, Bool.true_or]
        exact ih x _ _ _ (h.2 x hx) hk'
      · exact gAll_true k
    | ins C ns ds => unfold gp at h; exact h.elim
    | dK ks ds => unfold gp at h; exact h.elim
    | dT ks ds => unfold gp at h; exact h.elim
    | val v => unfold gp at h; exact h.elim
    | fn f c q σ ρ => unfold gp at h; exact h.elim
    | scr ns => unfold gp at h; exact h.elim
    | exc _ _ _ _ => unfold gp at h; exact h.elim
theorem ev__law_sameP {d : D} (h : gp K 6 d) (k : post (.bl true) S) : f__law_same K [d, d] S post xp := by
  unfold f__law_same
  exact ⟨6, Nat.le_refl _, same_n 6 d S post xp h k⟩
theorem ev__law_same {d : D} (h : gd 6 d = true) (k : post (.bl true) S) : f__law_same K [d, d] S post xp := ev__law_sameP (gp_of h) k
end Dw
set_option maxHeartbeats 60000
namespace Dw
open PySem PySem.Spec PyProof.Rows L2
variable {K : PySem.W.Frag} {S : Sto} {post : D → Sto → Prop} {xp : Xp}
instance : SzP 0 0 1 := ⟨Px.szr_lit 1 0, Px.szr_lit 1 0⟩
end Dw
set_option maxHeartbeats 60000
namespace Dw
open PySem PySem.Spec PyProof.Rows L2
variable {K : PySem.W.Frag} {S : Sto} {post : D → Sto → Prop} {xp : Xp}
@[reducible] def Tb.det (t : Tb) : Rat := t.a * t.d - t.b * t.c
def Tb.inv (t : Tb) : Tb := ⟨t.d * (1 / t.det), -t.b * (1 / t.det), -t.c * (1 / t.det), t.a * (1 / t.det)⟩
def Mo.inv (m : Mo) : Mo := ⟨m.t.inv, m.t.inv.ax m.x m.y * (-1), m.t.inv.ay m.x m.y * (-1)⟩
instance {t : Tb} {n : Nat} [h : SzT t n] : SzT t.inv (n + (1 + (n + n + (n + n) + 1))) :=
  ⟨SzC.h (x := t.d * (1 / (t.a * t.d - t.b * t.c))), SzC.h (x := -t.b * (1 / (t.a * t.d - t.b * t.c))), SzC.h (x := -t.c * (1 / (t.a * t.d - t.b * t.c))), SzC.h (x := t.a * (1 / (t.a * t.d - t.b * t.c)))⟩
instance {x y z : Rat} {n m : Nat} [h : SzP x y n] [k : SzC z m] : SzP (x * z) (y * z) (n + m) :=
  have := h.cx; have := h.cy
  ⟨SzC.h (x := x * z), SzC.h (x := y * z)⟩
theorem ev_Table_det {t : Tb} {n : Nat} [h : SzT t n] (hl : n + n + (n + n) ≤ 9000) (q : post (fr t.det) S) : f_Table_det K [tbD K t] S post xp := by
  unfold f_Table_det u_Table_det
  try simp -implicitDefEqProofs only [dDef_1_0, dRet_m, dCall_m, dArgs_c, dArgs_n, dFld_eq, dVar_m, mVar_s, List.length_cons, List.length_nil, List.cons_append, List.nil_append, Nat.reduceAdd, Nat.reduceSub, List.getElem?_cons_zero, List.getElem?_cons_succ, List.set_cons_zero, List.set_cons_succ, Option.some.injEq, exists_eq_left', true_and, and_true, if_true, if_false, Bool.false_eq_true, Bool.true_eq_false, Bool.not_true, Bool.not_false, reduceIte, beq_self_eq_true, decide_true, Bool.or_false, Bool.or_true, Bool.false_or, Bool.true_or]
  refine ev_fld_a ?_
  refine ev_fld_d ?_
  try simp -implicitDefEqProofs only [dDef_1_0, dRet_m, dCall_m, dArgs_c, dArgs_n, dFld_eq, dVar_m, mVar_s, List.length_cons, List.length_nil, List.cons_append, List.nil_append, Nat.reduceAdd, Nat.reduceSub, List.getElem?_cons_zero, List.getElem?_cons_succ, List.set_cons_zero, List.set_cons_succ, Option.some.injEq, exists_eq_left', true_and, and_true, if_true, if_false, Bool.false_eq_true, Bool.true_eq_false, Bool.not_true, Bool.not_false, reduceIte, beq_self_eq_true, decide_true, Bool.or_false, Bool.or_true, Bool.false_or, Bool.true_or]
  refine ev_times (by omega) ?_
  refine ev_fld_b ?_
  refine ev_fld_c ?_
  try simp -implicitDefEqProofs only [dDef_1_0, dRet_m, dCall_m, dArgs_c, dArgs_n, dFld_eq, dVar_m, mVar_s, List.length_cons, List.length_nil, List.cons_append, List.nil_append, Nat.reduceAdd, Nat.reduceSub, List.getElem?_cons_zero, List.getElem?_cons_succ, List.set_cons_zero, List.set_cons_succ, Option.some.injEq, exists_eq_left', true_and, and_true, if_true, if_false, Bool.false_eq_true, Bool.true_eq_false, Bool.not_true, Bool.not_false, reduceIte, beq_self_eq_true, decide_true, Bool.or_false, Bool.or_true, Bool.false_or, Bool.true_or]
  refine ev_times (by omega) ?_
  exact ev_minus hl q
theorem ev_Table_scaled {t : Tb} {z : Rat} {n m : Nat} [h : SzT t n] [k : SzC z m] (hl : n + m ≤ 9000) (q : post (tbD K ⟨t.a * z, t.b * z, t.c * z, t.d * z⟩) S) : f_Table_scaled K [tbD K t, fr z] S post xp := by
  unfold f_Table_scaled u_Table_scaled
  try simp -implicitDefEqProofs only [dDef_2_0, dRet_m, dNew_eq, dArgs_c, dArgs_n, dCall_m, dVar_m, mVar_s, dFld_eq, List.length_cons, List.length_nil, List.cons_append, List.nil_append, Nat.reduceAdd, Nat.reduceSub, List.getElem?_cons_zero, List.getElem?_cons_succ, List.set_cons_zero, List.set_cons_succ, Option.some.injEq, exists_eq_left', true_and, and_true, if_true, if_false, Bool.false_eq_true, Bool.true_eq_false, Bool.not_true, Bool.not_false, reduceIte, beq_self_eq_true, decide_true, Bool.or_false, Bool.or_true, Bool.false_or, Bool.true_or]
  refine ev_fld_a ?_
  try simp -implicitDefEqProofs only [dDef_2_0, dRet_m, dNew_eq, dArgs_c, dArgs_n, dCall_m, dVar_m, mVar_s, dFld_eq, List.length_cons, List.length_nil, List.cons_append, List.nil_append, Nat.reduceAdd, Nat.reduceSub, List.getElem?_cons_zero, List.getElem?_cons_succ, List.set_cons_zero, List.set_cons_succ, Option.some.injEq, exists_eq_left', true_and, and_true, if_true, if_false, Bool.false_eq_true, Bool.true_eq_false, Bool.not_true, Bool.not_false, reduceIte, beq_self_eq_true, decide_true, Bool.or_false, Bool.or_true, Bool.false_or, Bool.true_or]
  refine ev_times hl ?_
  refine ev_fld_b ?_
  try simp -implicitDefEqProofs only [dDef_2_0, dRet_m, dNew_eq, dArgs_c, dArgs_n, dCall_m, dVar_m, mVar_s, dFld_eq, List.length_cons, List.length_nil, List.cons_append, List.nil_append, Nat.reduceAdd, Nat.reduceSub, List.getElem?_cons_zero, List.getElem?_cons_succ, List.set_cons_zero, List.set_cons_succ, Option.some.injEq, exists_eq_left', true_and, and_true, if_true, if_false, Bool.false_eq_true, Bool.true_eq_false, Bool.not_true, Bool.not_false, reduceIte, beq_self_eq_true, decide_true, Bool.or_false, Bool.or_true, Bool.false_or, Bool.true_or]
  refine ev_times hl ?_
  refine ev_fld_c ?_
  try simp -implicitDefEqProofs only [dDef_2_0, dRet_m, dNew_eq, dArgs_c, dArgs_n, dCall_m, dVar_m, mVar_s, dFld_eq, List.length_cons, List.length_nil, List.cons_append, List.nil_append, Nat.reduceAdd, Nat.reduceSub, List.getElem?_cons_zero, List.getElem?_cons_succ, List.set_cons_zero, List.set_cons_succ, Option.some.injEq, exists_eq_left', true_and, and_true, if_true, if_false, Bool.false_eq_true, Bool.true_eq_false, Bool.not_true, Bool.not_false, reduceIte, beq_self_eq_true, decide_true, Bool.or_false, Bool.or_true, Bool.false_or, Bool.true_or]
  refine ev_times hl ?_
  refine ev_fld_d ?_
  try simp -implicitDefEqProofs only [dDef_2_0, dRet_m, dNew_eq, dArgs_c, dArgs_n, dCall_m, dVar_m, mVar_s, dFld_eq, List.length_cons, List.length_nil, List.cons_append, List.nil_append, Nat.reduceAdd, Nat.reduceSub, List.getElem?_cons_zero, List.getElem?_cons_succ, List.set_cons_zero, List.set_cons_succ, Option.some.injEq, exists_eq_left', true_and, and_true, if_true, if_false, Bool.false_eq_true, Bool.true_eq_false, Bool.not_true, Bool.not_false, reduceIte, beq_self_eq_true, decide_true, Bool.or_false, Bool.or_true, Bool.false_or, Bool.true_or]
  refine ev_times hl ?_
  exact ev_new_Table (t := ⟨t.a * z, t.b * z, t.c * z, t.d * z⟩) q
theorem ev_Table_inverse {t : Tb} {n : Nat} [h : SzT t n] (hd : t.det ≠ 0) (hl : n + (1 + (n + n + (n + n) + 1)) ≤ 9000) (q : post (tbD K t.inv) S) : f_Table_inverse K [tbD K t] S post xp := by
  unfold f_Table_inverse u_Table_inverse
  try simp -implicitDefEqProofs only [g_ZERO, g_ONE, fr_0, fr_1, dDef_1_1, dSeq_m, dRet_m, dMeth_eq, dArgs_c, dArgs_n, dCall_m, dVar_m, dPure_m, dNew_eq, dFld_eq, dIfS_m, dNext_m, dtVal_m, dOp_m, oEq_m, mBl_b, okEq_fr, dSet_m, mVar_s, dProp_m, isOf0_i, eqD_fr, List.length_cons, List.length_nil, List.cons_append, List.nil_append, Nat.reduceAdd, Nat.reduceSub, List.getElem?_cons_zero, List.getElem?_cons_succ, List.set_cons_zero, List.set_cons_succ, Option.some.injEq, exists_eq_left', true_and, and_true, if_true, if_false, Bool.false_eq_true, Bool.true_eq_false, Bool.not_true, Bool.not_false, reduceIte, beq_self_eq_true, decide_true, Bool.or_false, Bool.or_true, Bool.false_or, Bool.true_or]
  refine ev_Table_det (by omega) ?_
  try simp -implicitDefEqProofs only [g_ZERO, g_ONE, fr_0, fr_1, dDef_1_1, dSeq_m, dRet_m, dMeth_eq, dArgs_c, dArgs_n, dCall_m, dVar_m, dPure_m, dNew_eq, dFld_eq, dIfS_m, dNext_m, dtVal_m, dOp_m, oEq_m, mBl_b, okEq_fr, dSet_m, mVar_s, dProp_m, isOf0_i, eqD_fr, List.length_cons, List.length_nil, List.cons_append, List.nil_append, Nat.reduceAdd, Nat.reduceSub, List.getElem?_cons_zero, List.getElem?_cons_succ, List.set_cons_zero, List.set_cons_succ, Option.some.injEq, exists_eq_left', true_and, and_true, if_true, if_false, Bool.false_eq_true, Bool.true_eq_false, Bool.not_true, Bool.not_false, reduceIte, beq_self_eq_true, decide_true, Bool.or_false, Bool.or_true, Bool.false_or, Bool.true_or]
  rw [decide_eq_false hd]
  try simp -implicitDefEqProofs only [g_ZERO, g_ONE, fr_0, fr_1, dDef_1_1, dSeq_m, dRet_m, dMeth_eq, dArgs_c, dArgs_n, dCall_m, dVar_m, dPure_m, dNew_eq, dFld_eq, dIfS_m, dNext_m, dtVal_m, dOp_m, oEq_m, mBl_b, okEq_fr, dSet_m, mVar_s, dProp_m, isOf0_i, eqD_fr, List.length_cons, List.length_nil, List.cons_append, List.nil_append, Nat.reduceAdd, Nat.reduceSub, List.getElem?_cons_zero, List.getElem?_cons_succ, List.set_cons_zero, List.set_cons_succ, Option.some.injEq, exists_eq_left', true_and, and_true, if_true, if_false, Bool.false_eq_true, Bool.true_eq_false, Bool.not_true, Bool.not_false, reduceIte, beq_self_eq_true, decide_true, Bool.or_false, Bool.or_true, Bool.false_or, Bool.true_or]
  refine ev_fld_d ?_
  refine ev_fld_b ?_
  try simp -implicitDefEqProofs only [g_ZERO, g_ONE, fr_0, fr_1, dDef_1_1, dSeq_m, dRet_m, dMeth_eq, dArgs_c, dArgs_n, dCall_m, dVar_m, dPure_m, dNew_eq, dFld_eq, dIfS_m, dNext_m, dtVal_m, dOp_m, oEq_m, mBl_b, okEq_fr, dSet_m, mVar_s, dProp_m, isOf0_i, eqD_fr, List.length_cons, List.length_nil, List.cons_append, List.nil_append, Nat.reduceAdd, Nat.reduceSub, List.getElem?_cons_zero, List.getElem?_cons_succ, List.set_cons_zero, List.set_cons_succ, Option.some.injEq, exists_eq_left', true_and, and_true, if_true, if_false, Bool.false_eq_true, Bool.true_eq_false, Bool.not_true, Bool.not_false, reduceIte, beq_self_eq_true, decide_true, Bool.or_false, Bool.or_true, Bool.false_or, Bool.true_or]
  refine ev_negative ?_
  refine ev_fld_c ?_
  try simp -implicitDefEqProofs only [g_ZERO, g_ONE, fr_0, fr_1, dDef_1_1, dSeq_m, dRet_m, dMeth_eq, dArgs_c, dArgs_n, dCall_m, dVar_m, dPure_m, dNew_eq, dFld_eq, dIfS_m, dNext_m, dtVal_m, dOp_m, oEq_m, mBl_b, okEq_fr, dSet_m, mVar_s, dProp_m, isOf0_i, eqD_fr, List.length_cons, List.length_nil, List.cons_append, List.nil_append, Nat.reduceAdd, Nat.reduceSub, List.getElem?_cons_zero, List.getElem?_cons_succ, List.set_cons_zero, List.set_cons_succ, Option.some.injEq, exists_eq_left', true_and, and_true, if_true, if_false, Bool.false_eq_true, Bool.true_eq_false, Bool.not_true, Bool.not_false, reduceIte, beq_self_eq_true, decide_true, Bool.or_false, Bool.or_true, Bool.false_or, Bool.true_or]
  refine ev_negative ?_
  refine ev_fld_a ?_
  try simp -implicitDefEqProofs only [g_ZERO, g_ONE, fr_0, fr_1, dDef_1_1, dSeq_m, dRet_m, dMeth_eq, dArgs_c, dArgs_n, dCall_m, dVar_m, dPure_m, dNew_eq, dFld_eq, dIfS_m, dNext_m, dtVal_m, dOp_m, oEq_m, mBl_b, okEq_fr, dSet_m, mVar_s, dProp_m, isOf0_i, eqD_fr, List.length_cons, List.length_nil, List.cons_append, List.nil_append, Nat.reduceAdd, Nat.reduceSub, List.getElem?_cons_zero, List.getElem?_cons_succ, List.set_cons_zero, List.set_cons_succ, Option.some.injEq, exists_eq_left', true_and, and_true, if_true, if_false, Bool.false_eq_true, Bool.true_eq_false, Bool.not_true, Bool.not_false, reduceIte, beq_self_eq_true, decide_true, Bool.or_false, Bool.or_true, Bool.false_or, Bool.true_or]
  have : SzT ⟨t.d, -t.b, -t.c, t.a⟩ n := ⟨h.d, Px.szr_neg h.b, Px.szr_neg h.c, h.a⟩
  refine ev_new_Table (t := ⟨t.d, -t.b, -t.c, t.a⟩) ?_
  refine ev_meth (by decide +kernel) ?_
  try simp -implicitDefEqProofs only [g_ZERO, g_ONE, fr_0, fr_1, dDef_1_1, dSeq_m, dRet_m, dMeth_eq, dArgs_c, dArgs_n, dCall_m, dVar_m, dPure_m, dNew_eq, dFld_eq, dIfS_m, dNext_m, dtVal_m, dOp_m, oEq_m, mBl_b, okEq_fr, dSet_m, mVar_s, dProp_m, isOf0_i, eqD_fr, List.length_cons, List.length_nil, List.cons_append, List.nil_append, Nat.reduceAdd, Nat.reduceSub, List.getElem?_cons_zero, List.getElem?_cons_succ, List.set_cons_zero, List.set_cons_succ, Option.some.injEq, exists_eq_left', true_and, and_true, if_true, if_false, Bool.false_eq_true, Bool.true_eq_false, Bool.not_true, Bool.not_false, reduceIte, beq_self_eq_true, decide_true, Bool.or_false, Bool.or_true, Bool.false_or, Bool.true_or]
  refine ev_divided (x := 1) (y := t.det) hd (by omega) ?_
  try simp -implicitDefEqProofs only [g_ZERO, g_ONE, fr_0, fr_1, dDef_1_1, dSeq_m, dRet_m, dMeth_eq, dArgs_c, dArgs_n, dCall_m, dVar_m, dPure_m, dNew_eq, dFld_eq, dIfS_m, dNext_m, dtVal_m, dOp_m, oEq_m, mBl_b, okEq_fr, dSet_m, mVar_s, dProp_m, isOf0_i, eqD_fr, List.length_cons, List.length_nil, List.cons_append, List.nil_append, Nat.reduceAdd, Nat.reduceSub, List.getElem?_cons_zero, List.getElem?_cons_succ, List.set_cons_zero, List.set_cons_succ, Option.some.injEq, exists_eq_left', true_and, and_true, if_true, if_false, Bool.false_eq_true, Bool.true_eq_false, Bool.not_true, Bool.not_false, reduceIte, beq_self_eq_true, decide_true, Bool.or_false, Bool.or_true, Bool.false_or, Bool.true_or]
  exact ev_Table_scaled (t := ⟨t.d, -t.b, -t.c, t.a⟩) (by omega) q
theorem ev_vector_times {x y z : Rat} {n m : Nat} [h : SzP x y n] [k : SzC z m] (hl : n + m ≤ 9000) (q : post (sp (x * z) (y * z)) S) : f_vector_times K [sp x y, fr z] S post xp := by
  have := h.cx; have := h.cy
  unfold f_vector_times u_vector_times sp
  try simp -implicitDefEqProofs only [dDef_2_0, dRet_m, dTup_m, dArgs_c, dArgs_n, dCall_m, dVar_m, mVar_s, dOp_m, dPure_m, oIx_t, at2_1, at2_0, List.length_cons, List.length_nil, List.cons_append, List.nil_append, Nat.reduceAdd, Nat.reduceSub, List.getElem?_cons_zero, List.getElem?_cons_succ, List.set_cons_zero, List.set_cons_succ, Option.some.injEq, exists_eq_left', true_and, and_true, if_true, if_false, Bool.false_eq_true, Bool.true_eq_false, Bool.not_true, Bool.not_false, reduceIte, beq_self_eq_true, decide_true, Bool.or_false, Bool.or_true, Bool.false_or, Bool.true_or]
  refine ev_times hl ?_
  exact ev_times hl q
theorem ev_Motion_inverse {m : Mo} {n j : Nat} [h : SzT m.t n] [g : SzP m.x m.y j] (hd : m.t.det ≠ 0) (hl : n + (1 + (n + n + (n + n) + 1)) + j + (n + (1 + (n + n + (n + n) + 1)) + j) + 1 + 1 ≤ 9000) (q : post (moD K m.inv) S) : f_Motion_inverse K [moD K m] S post xp := by
  unfold f_Motion_inverse u_Motion_inverse
  try simp -implicitDefEqProofs only [dDef_1_1, dSeq_m, dRet_m, dNew_eq, dArgs_c, dArgs_n, dCall_m, dTup_m, dPure_m, dUn_m, oNeg_i, fr_m1, dFld_eq, dVar_m, dSet_m, mVar_s, dMeth_eq, List.length_cons, List.length_nil, List.cons_append, List.nil_append, Nat.reduceAdd, Nat.reduceSub, List.getElem?_cons_zero, List.getElem?_cons_succ, List.set_cons_zero, List.set_cons_succ, Option.some.injEq, exists_eq_left', true_and, and_true, if_true, if_false, Bool.false_eq_true, Bool.true_eq_false, Bool.not_true, Bool.not_false, reduceIte, beq_self_eq_true, decide_true, Bool.or_false, Bool.or_true, Bool.false_or, Bool.true_or]
  refine ev_fld_table ?_
  refine ev_meth (by decide +kernel) ?_
  try simp -implicitDefEqProofs only [dDef_1_1, dSeq_m, dRet_m, dNew_eq, dArgs_c, dArgs_n, dCall_m, dTup_m, dPure_m, dUn_m, oNeg_i, fr_m1, dFld_eq, dVar_m, dSet_m, mVar_s, dMeth_eq, List.length_cons, List.length_nil, List.cons_append, List.nil_append, Nat.reduceAdd, Nat.reduceSub, List.getElem?_cons_zero, List.getElem?_cons_succ, List.set_cons_zero, List.set_cons_succ, Option.some.injEq, exists_eq_left', true_and, and_true, if_true, if_false, Bool.false_eq_true, Bool.true_eq_false, Bool.not_true, Bool.not_false, reduceIte, beq_self_eq_true, decide_true, Bool.or_false, Bool.or_true, Bool.false_or, Bool.true_or]
  refine ev_Table_inverse hd (by omega) ?_
  try simp -implicitDefEqProofs only [dDef_1_1, dSeq_m, dRet_m, dNew_eq, dArgs_c, dArgs_n, dCall_m, dTup_m, dPure_m, dUn_m, oNeg_i, fr_m1, dFld_eq, dVar_m, dSet_m, mVar_s, dMeth_eq, List.length_cons, List.length_nil, List.cons_append, List.nil_append, Nat.reduceAdd, Nat.reduceSub, List.getElem?_cons_zero, List.getElem?_cons_succ, List.set_cons_zero, List.set_cons_succ, Option.some.injEq, exists_eq_left', true_and, and_true, if_true, if_false, Bool.false_eq_true, Bool.true_eq_false, Bool.not_true, Bool.not_false, reduceIte, beq_self_eq_true, decide_true, Bool.or_false, Bool.or_true, Bool.false_or, Bool.true_or]
  refine ev_fld_move ?_
  try simp -implicitDefEqProofs only [dDef_1_1, dSeq_m, dRet_m, dNew_eq, dArgs_c, dArgs_n, dCall_m, dTup_m, dPure_m, dUn_m, oNeg_i, fr_m1, dFld_eq, dVar_m, dSet_m, mVar_s, dMeth_eq, List.length_cons, List.length_nil, List.cons_append, List.nil_append, Nat.reduceAdd, Nat.reduceSub, List.getElem?_cons_zero, List.getElem?_cons_succ, List.set_cons_zero, List.set_cons_succ, Option.some.injEq, exists_eq_left', true_and, and_true, if_true, if_false, Bool.false_eq_true, Bool.true_eq_false, Bool.not_true, Bool.not_false, reduceIte, beq_self_eq_true, decide_true, Bool.or_false, Bool.or_true, Bool.false_or, Bool.true_or]
  refine ev_taken' (t := m.t.inv) (by omega) ?_
  try simp -implicitDefEqProofs only [dDef_1_1, dSeq_m, dRet_m, dNew_eq, dArgs_c, dArgs_n, dCall_m, dTup_m, dPure_m, dUn_m, oNeg_i, fr_m1, dFld_eq, dVar_m, dSet_m, mVar_s, dMeth_eq, List.length_cons, List.length_nil, List.cons_append, List.nil_append, Nat.reduceAdd, Nat.reduceSub, List.getElem?_cons_zero, List.getElem?_cons_succ, List.set_cons_zero, List.set_cons_succ, Option.some.injEq, exists_eq_left', true_and, and_true, if_true, if_false, Bool.false_eq_true, Bool.true_eq_false, Bool.not_true, Bool.not_false, reduceIte, beq_self_eq_true, decide_true, Bool.or_false, Bool.or_true, Bool.false_or, Bool.true_or]
  refine ev_vector_times (by omega) ?_
  exact ev_new_Motion q
theorem det_one {d : Rat} (h : d ≠ 0) : d * (1 / d) = 1 := by grind
theorem inv_px (m : Mo) (h : m.t.det ≠ 0) (x y : Rat) : m.inv.px (m.px x y) (m.py x y) = x ∧ m.inv.py (m.px x y) (m.py x y) = y := by
  have e := det_one h
  unfold Mo.inv Mo.px Mo.py Tb.inv Tb.ax Tb.ay
  generalize 1 / m.t.det = i at *
  unfold Tb.det at e
  constructor <;> grind
theorem px_inv (m : Mo) (h : m.t.det ≠ 0) (x y : Rat) : m.px (m.inv.px x y) (m.inv.py x y) = x ∧ m.py (m.inv.px x y) (m.inv.py x y) = y := by
  have e := det_one h
  unfold Mo.inv Mo.px Mo.py Tb.inv Tb.ax Tb.ay
  generalize 1 / m.t.det = i at *
  unfold Tb.det at e
  constructor <;> grind
end Dw
set_option maxHeartbeats 60000
namespace Dw
open PySem PySem.Spec PyProof.Rows L2
variable {K : PySem.W.Frag} {S : Sto} {post : D → Sto → Prop} {xp : Xp}
instance {m : Mo} {n j : Nat} [h : SzT m.t n] [g : SzP m.x m.y j] : SzP m.inv.x m.inv.y (n + (1 + (n + n + (n + n) + 1)) + j + (n + (1 + (n + n + (n + n) + 1)) + j) + 1 + 1) := by
  show SzP (m.t.inv.ax m.x m.y * (-1)) (m.t.inv.ay m.x m.y * (-1)) _
  infer_instance
instance {m : Mo} {n : Nat} [h : SzT m.t n] : SzT m.inv.t (n + (1 + (n + n + (n + n) + 1))) := inferInstanceAs (SzT m.t.inv _)
instance {m : Mo} {x y : Rat} {n j l : Nat} [h : SzT m.t n] [g : SzP m.x m.y j] [k : SzP x y l] : SzP (m.px x y) (m.py x y) (n + l + (n + l) + 1 + j + 1) := by
  show SzP (m.t.ax x y + m.x) (m.t.ay x y + m.y) _
  infer_instance
end Dw
set_option maxHeartbeats 60000
namespace Dw
open PySem PySem.Spec PyProof.Rows L2
variable {K : PySem.W.Frag} {S : Sto} {post : D → Sto → Prop} {xp : Xp}
theorem one_px (x y : Rat) : (Mo.mk ⟨1, 0, 0, 1⟩ 0 0).px x y = x ∧ (Mo.mk ⟨1, 0, 0, 1⟩ 0 0).py x y = y := by
  unfold Mo.px Mo.py Tb.ax Tb.ay
  constructor <;> grind
instance {m m' : Mo} {n n' : Nat} [h : SzT m.t n] [k : SzT m'.t n'] : SzT (m.mul m').t (n + n' + (n + n') + 1) := inferInstanceAs (SzT (m.t.mul m'.t) _)
instance {m m' : Mo} {n j j' : Nat} [h : SzT m.t n] [g : SzP m.x m.y j] [g' : SzP m'.x m'.y j'] : SzP (m.mul m').x (m.mul m').y (n + j' + (n + j') + 1 + j + 1) := inferInstanceAs (SzP (m.px m'.x m'.y) (m.py m'.x m'.y) _)
instance : SzT (Tb.mk 1 0 0 1) 1 := ⟨Px.szr_lit 1 1, Px.szr_lit 1 0, Px.szr_lit 1 0, Px.szr_lit 1 1⟩
theorem ev_Motion_identity (q : post (moD K ⟨⟨1, 0, 0, 1⟩, 0, 0⟩) S) : f_Motion_identity K [] S post xp := by
  unfold f_Motion_identity u_Motion_identity
  try simp -implicitDefEqProofs only [g_ZERO, fr_0, dDef_0_0, dRet_m, dNew_eq, dArgs_c, dArgs_n, nNew_d, dStat_m, List.length_cons, List.length_nil, List.cons_append, List.nil_append, Nat.reduceAdd, Nat.reduceSub, List.getElem?_cons_zero, List.getElem?_cons_succ, List.set_cons_zero, List.set_cons_succ, Option.some.injEq, exists_eq_left', true_and, and_true, if_true, if_false, Bool.false_eq_true, Bool.true_eq_false, Bool.not_true, Bool.not_false, reduceIte, beq_self_eq_true, decide_true, Bool.or_false, Bool.or_true, Bool.false_or, Bool.true_or]
  refine ev_Table_identity ?_
  try simp -implicitDefEqProofs only [g_ZERO, fr_0, dDef_0_0, dRet_m, dNew_eq, dArgs_c, dArgs_n, nNew_d, dStat_m, List.length_cons, List.length_nil, List.cons_append, List.nil_append, Nat.reduceAdd, Nat.reduceSub, List.getElem?_cons_zero, List.getElem?_cons_succ, List.set_cons_zero, List.set_cons_succ, Option.some.injEq, exists_eq_left', true_and, and_true, if_true, if_false, Bool.false_eq_true, Bool.true_eq_false, Bool.not_true, Bool.not_false, reduceIte, beq_self_eq_true, decide_true, Bool.or_false, Bool.or_true, Bool.false_or, Bool.true_or]
  exact ev_new_Motion (x := 0) (y := 0) q
theorem wLc_mp {α : Type} {ρ : Lc} {t : Tgt} {elt : DE} {S : Sto} {xp : Xp} (enc f : α → D) : ∀ (ds : List α) (acc : List D) (post : List D → Sto → Prop), (∀ d ∈ ds, ∀ k : D → Sto → Prop, k (f d) S → bT t (enc d) ρ fun ρ' => elt ρ' S k noX) → post (acc ++ ds.map f) S → wLc ρ t dYes elt (ds.map enc) acc S post xp
  | [], acc, post, _, h => by unfold wLc; simpa using h
  | d :: ds, acc, post, he, h => by
    rw [List.map_cons]
    unfold wLc
    have e : (fun ρ' => dYes ρ' S (fun b S1 => if b = true then elt ρ' S1 (fun y S2 => wLc ρ t dYes elt (ds.map enc) (acc ++ [y]) S2 post xp) noX else wLc ρ t dYes elt (ds.map enc) acc S1 post xp) noX) = fun ρ' => elt ρ' S (fun y S2 => wLc ρ t dYes elt (ds.map enc) (acc ++ [y]) S2 post xp) noX := by
      funext ρ'
      rw [dYes_m, if_pos rfl]
    rw [e]
    refine he d (List.mem_cons_self ..) _ ?_
    refine wLc_mp enc f ds (acc ++ [f d]) post (fun d' hd => he d' (List.mem_cons_of_mem _ hd)) ?_
    rw [List.append_assoc]
    exact h
theorem wLc_n {ρ : Lc} {t : Tgt} {c : DT} {elt : DE} {acc : List D} {S : Sto} {post : List D → Sto → Prop} {xp : Xp} : wLc ρ t c elt [] acc S post xp = post acc S := by unfold wLc; rfl
theorem wLc_c {ρ : Lc} {t : Tgt} {c : DT} {elt : DE} {d : D} {ds acc : List D} {S : Sto} {post : List D → Sto → Prop} {xp : Xp} : wLc ρ t c elt (d :: ds) acc S post xp = bT t d ρ fun ρ' => c ρ' S (fun b S1 => if b = true then elt ρ' S1 (fun y S2 => wLc ρ t c elt ds (acc ++ [y]) S2 post xp) noX else wLc ρ t c elt ds acc S1 post xp) noX := by
  conv => lhs; unfold wLc
end Dw
set_option maxHeartbeats 60000
set_option maxHeartbeats 60000
namespace Dw
open PySem PySem.Spec PyProof.Rows L2
variable {K : PySem.W.Frag} {S : Sto} {post : D → Sto → Prop} {xp : Xp} {b : Addr}
def hasBag (S : Sto) (b : Addr) : Prop := ∃ c ns, S b = some (.bag c ns)
theorem ev_draw {n : Int} (hb : hasBag S b) (h0 : 0 < n) (h1 : n < 1073741824) (k : ∀ r, 0 ≤ r → r < n → post (.int r) S) : f__law_draw K [.val (.ref b), .int n] S post xp := by
  unfold f__law_draw gDraw
  exact ⟨hb, h0, h1, k⟩
theorem atI_mem {xs : List D} {r : Int} (h0 : 0 ≤ r) (h1 : r < (xs.length : Nat)) : ∃ d ∈ xs, atI xs r = some d := by
  have hx : r.toNat < xs.length := by omega
  refine ⟨xs[r.toNat], List.getElem_mem hx, ?_⟩
  unfold atI ixN
  simp only [h0, h1, hx, if_true, dif_pos]
  first
    | simp [h0, h1, hx]
    | (split <;> simp_all)
theorem ev_pick {xs : List D} (hb : hasBag S b) (hl : xs ≠ []) (hl2 : xs.length ≤ 1000) (k : ∀ d ∈ xs, post d S) : f__law_pick K [.val (.ref b), .lst xs] S post xp := by
  unfold f__law_pick u__law_pick
  try simp -implicitDefEqProofs only [dDef_2_0, dRet_m, dOp_m, dCall_m, dArgs_c, dArgs_n, dVar_m, mVar_s, gLen_l, oIx_l, List.length_cons, List.length_nil, List.cons_append, List.nil_append, Nat.reduceAdd, Nat.reduceSub, List.getElem?_cons_zero, List.getElem?_cons_succ, List.set_cons_zero, List.set_cons_succ, Option.some.injEq, exists_eq_left', true_and, and_true, if_true, if_false, Bool.false_eq_true, Bool.true_eq_false, Bool.not_true, Bool.not_false, reduceIte, beq_self_eq_true, decide_true, Bool.or_false, Bool.or_true, Bool.false_or, Bool.true_or]
  have : 0 < xs.length := List.length_pos_iff.mpr hl
  refine ev_draw hb (by omega) (by omega) (fun r h0 h1 => ?_)
  obtain ⟨d, hd, e⟩ := atI_mem h0 h1
  try simp -implicitDefEqProofs only [dDef_2_0, dRet_m, dOp_m, dCall_m, dArgs_c, dArgs_n, dVar_m, mVar_s, gLen_l, oIx_l, List.length_cons, List.length_nil, List.cons_append, List.nil_append, Nat.reduceAdd, Nat.reduceSub, List.getElem?_cons_zero, List.getElem?_cons_succ, List.set_cons_zero, List.set_cons_succ, Option.some.injEq, exists_eq_left', true_and, and_true, if_true, if_false, Bool.false_eq_true, Bool.true_eq_false, Bool.not_true, Bool.not_false, reduceIte, beq_self_eq_true, decide_true, Bool.or_false, Bool.or_true, Bool.false_or, Bool.true_or]
  exact ⟨d, e, k d hd⟩
theorem szI {n : Nat} {i : Int} (h : i.natAbs < 2 ^ n) : Px.Sz n i := h
theorem ev_small (hb : hasBag S b) (k : ∀ x : Rat, Px.SzR 5 x → post (fr x) S) : f__law_small K [.val (.ref b)] S post xp := by
  unfold f__law_small u__law_small
  try simp -implicitDefEqProofs only [dDef_1_0, dRet_m, dCall_m, dArgs_c, dArgs_n, dLst_m, dPure_m, dVar_m, mVar_s, dOp_m, oSub_i, List.length_cons, List.length_nil, List.cons_append, List.nil_append, Nat.reduceAdd, Nat.reduceSub, List.getElem?_cons_zero, List.getElem?_cons_succ, List.set_cons_zero, List.set_cons_succ, Option.some.injEq, exists_eq_left', true_and, and_true, if_true, if_false, Bool.false_eq_true, Bool.true_eq_false, Bool.not_true, Bool.not_false, reduceIte, beq_self_eq_true, decide_true, Bool.or_false, Bool.or_true, Bool.false_or, Bool.true_or]
  refine ev_draw hb (by decide) (by decide) (fun r h0 h1 => ?_)
  try simp -implicitDefEqProofs only [dDef_1_0, dRet_m, dCall_m, dArgs_c, dArgs_n, dLst_m, dPure_m, dVar_m, mVar_s, dOp_m, oSub_i, List.length_cons, List.length_nil, List.cons_append, List.nil_append, Nat.reduceAdd, Nat.reduceSub, List.getElem?_cons_zero, List.getElem?_cons_succ, List.set_cons_zero, List.set_cons_succ, Option.some.injEq, exists_eq_left', true_and, and_true, if_true, if_false, Bool.false_eq_true, Bool.true_eq_false, Bool.not_true, Bool.not_false, reduceIte, beq_self_eq_true, decide_true, Bool.or_false, Bool.or_true, Bool.false_or, Bool.true_or]
  refine ev_pick hb (by simp) (by simp) (fun d hd => ?_)
  have hq : ∃ q : Int, d = .int q ∧ 0 < q ∧ q ≤ 3 := by
    simp only [List.mem_cons, List.not_mem_nil, or_false] at hd
    rcases hd with rfl | rfl | rfl | rfl | rfl | rfl <;> exact ⟨_, rfl, by decide, by decide⟩
  obtain ⟨q, rfl, q0, q1⟩ := hq
  have s1 : Px.Sz 5 q := szI (by omega)
  refine ev__law_low (by omega) s1 (by decide) (k _ (Px.divInt_sz (szI (by omega)) s1 (by omega)))
theorem ev_frac (hb : hasBag S b) (k : ∀ x : Rat, Px.SzR 21 x → post (fr x) S) : f__law_fraction K [.val (.ref b)] S post xp := by
  unfold f__law_fraction u__law_fraction
  try simp -implicitDefEqProofs only [dDef_1_2, dSeq_m, dRet_m, dCall_m, dArgs_c, dArgs_n, dOp_m, dLst_m, dVar_m, dPure_m, dSet_m, mVar_s, oMul_i, oAdd_i, oSub_i, List.length_cons, List.length_nil, List.cons_append, List.nil_append, Nat.reduceAdd, Nat.reduceSub, List.getElem?_cons_zero, List.getElem?_cons_succ, List.set_cons_zero, List.set_cons_succ, Option.some.injEq, exists_eq_left', true_and, and_true, if_true, if_false, Bool.false_eq_true, Bool.true_eq_false, Bool.not_true, Bool.not_false, reduceIte, beq_self_eq_true, decide_true, Bool.or_false, Bool.or_true, Bool.false_or, Bool.true_or]
  refine ev_pick hb (by simp) (by simp) (fun d hd => ?_)
  have hq : ∃ q : Int, d = .int q ∧ 0 < q ∧ q ≤ 999999 := by
    simp only [List.mem_cons, List.not_mem_nil, or_false] at hd
    rcases hd with rfl | rfl | rfl | rfl | rfl | rfl | rfl <;> exact ⟨_, rfl, by decide, by decide⟩
  obtain ⟨q, rfl, q0, q1⟩ := hq
  try simp -implicitDefEqProofs only [dDef_1_2, dSeq_m, dRet_m, dCall_m, dArgs_c, dArgs_n, dOp_m, dLst_m, dVar_m, dPure_m, dSet_m, mVar_s, oMul_i, oAdd_i, oSub_i, List.length_cons, List.length_nil, List.cons_append, List.nil_append, Nat.reduceAdd, Nat.reduceSub, List.getElem?_cons_zero, List.getElem?_cons_succ, List.set_cons_zero, List.set_cons_succ, Option.some.injEq, exists_eq_left', true_and, and_true, if_true, if_false, Bool.false_eq_true, Bool.true_eq_false, Bool.not_true, Bool.not_false, reduceIte, beq_self_eq_true, decide_true, Bool.or_false, Bool.or_true, Bool.false_or, Bool.true_or]
  refine ⟨Px.cmul (a := 2) (b := 21) (szI (by decide)) (szI (by omega)) (by decide), ?_⟩
  refine ev_draw hb (by omega) (by omega) (fun r h0 h1 => ?_)
  try simp -implicitDefEqProofs only [dDef_1_2, dSeq_m, dRet_m, dCall_m, dArgs_c, dArgs_n, dOp_m, dLst_m, dVar_m, dPure_m, dSet_m, mVar_s, oMul_i, oAdd_i, oSub_i, List.length_cons, List.length_nil, List.cons_append, List.nil_append, Nat.reduceAdd, Nat.reduceSub, List.getElem?_cons_zero, List.getElem?_cons_succ, List.set_cons_zero, List.set_cons_succ, Option.some.injEq, exists_eq_left', true_and, and_true, if_true, if_false, Bool.false_eq_true, Bool.true_eq_false, Bool.not_true, Bool.not_false, reduceIte, beq_self_eq_true, decide_true, Bool.or_false, Bool.or_true, Bool.false_or, Bool.true_or]
  refine ev_pick hb (by simp) (by simp) (fun d hd => ?_)
  have hq : ∃ t : Int, d = .int t ∧ 0 < t ∧ t ≤ 999999 := by
    simp only [List.mem_cons, List.not_mem_nil, or_false] at hd
    rcases hd with rfl | rfl | rfl | rfl | rfl | rfl
    · exact ⟨_, rfl, by decide, by decide⟩
    · exact ⟨_, rfl, by decide, by decide⟩
    · exact ⟨_, rfl, by decide, by decide⟩
    · exact ⟨_, rfl, by decide, by decide⟩
    · exact ⟨_, rfl, by decide, by decide⟩
    · exact ⟨_, rfl, q0, q1⟩
  obtain ⟨t, rfl, t0, t1⟩ := hq
  refine ev_draw hb (by omega) (by omega) (fun u u0 u1 => ?_)
  try simp -implicitDefEqProofs only [dDef_1_2, dSeq_m, dRet_m, dCall_m, dArgs_c, dArgs_n, dOp_m, dLst_m, dVar_m, dPure_m, dSet_m, mVar_s, oMul_i, oAdd_i, oSub_i, List.length_cons, List.length_nil, List.cons_append, List.nil_append, Nat.reduceAdd, Nat.reduceSub, List.getElem?_cons_zero, List.getElem?_cons_succ, List.set_cons_zero, List.set_cons_succ, Option.some.injEq, exists_eq_left', true_and, and_true, if_true, if_false, Bool.false_eq_true, Bool.true_eq_false, Bool.not_true, Bool.not_false, reduceIte, beq_self_eq_true, decide_true, Bool.or_false, Bool.or_true, Bool.false_or, Bool.true_or]
  have s1 : Px.Sz 21 (1 + u) := szI (by omega)
  refine ev__law_low (by omega) s1 (by decide) (k _ (Px.divInt_sz (szI (by omega)) s1 (by omega)))
theorem ev_spot_draw (hb : hasBag S b) (k : ∀ x y : Rat, SzP x y 21 → post (sp x y) S) : f__law_spot K [.val (.ref b)] S post xp := by
  unfold f__law_spot u__law_spot
  try simp -implicitDefEqProofs only [dDef_1_0, dRet_m, dTup_m, dArgs_c, dArgs_n, dCall_m, dVar_m, mVar_s, List.length_cons, List.length_nil, List.cons_append, List.nil_append, Nat.reduceAdd, Nat.reduceSub, List.getElem?_cons_zero, List.getElem?_cons_succ, List.set_cons_zero, List.set_cons_succ, Option.some.injEq, exists_eq_left', true_and, and_true, if_true, if_false, Bool.false_eq_true, Bool.true_eq_false, Bool.not_true, Bool.not_false, reduceIte, beq_self_eq_true, decide_true, Bool.or_false, Bool.or_true, Bool.false_or, Bool.true_or]
  refine ev_frac hb (fun x hx => ?_)
  refine ev_frac hb (fun y hy => ?_)
  exact k x y ⟨hx, hy⟩
theorem ev_near (hb : hasBag S b) (k : ∀ x y : Rat, SzP x y 5 → post (sp x y) S) : f__law_near K [.val (.ref b)] S post xp := by
  unfold f__law_near u__law_near
  try simp -implicitDefEqProofs only [dDef_1_0, dRet_m, dTup_m, dArgs_c, dArgs_n, dCall_m, dVar_m, mVar_s, List.length_cons, List.length_nil, List.cons_append, List.nil_append, Nat.reduceAdd, Nat.reduceSub, List.getElem?_cons_zero, List.getElem?_cons_succ, List.set_cons_zero, List.set_cons_succ, Option.some.injEq, exists_eq_left', true_and, and_true, if_true, if_false, Bool.false_eq_true, Bool.true_eq_false, Bool.not_true, Bool.not_false, reduceIte, beq_self_eq_true, decide_true, Bool.or_false, Bool.or_true, Bool.false_or, Bool.true_or]
  refine ev_small hb (fun x hx => ?_)
  refine ev_small hb (fun y hy => ?_)
  exact k x y ⟨hx, hy⟩
theorem ev_long {x y z : Rat} {n m : Nat} [h : SzP x y n] [k : SzC z m] (hl : n + m ≤ 9000) (q : post (sp (x * z) (y * z)) S) : f__law_long K [sp x y, fr z] S post xp := by
  have := h.cx; have := h.cy
  unfold f__law_long u__law_long sp
  try simp -implicitDefEqProofs only [dDef_2_0, dRet_m, dTup_m, dArgs_c, dArgs_n, dCall_m, dVar_m, mVar_s, dOp_m, dPure_m, oIx_t, at2_1, at2_0, List.length_cons, List.length_nil, List.cons_append, List.nil_append, Nat.reduceAdd, Nat.reduceSub, List.getElem?_cons_zero, List.getElem?_cons_succ, List.set_cons_zero, List.set_cons_succ, Option.some.injEq, exists_eq_left', true_and, and_true, if_true, if_false, Bool.false_eq_true, Bool.true_eq_false, Bool.not_true, Bool.not_false, reduceIte, beq_self_eq_true, decide_true, Bool.or_false, Bool.or_true, Bool.false_or, Bool.true_or]
  refine ev__law_product hl ?_
  exact ev__law_product hl q
theorem ev_table_draw (hb : hasBag S b) (k : ∀ t : Tb, SzT t 21 → post (tT t) S) : f__law_table K [.val (.ref b)] S post xp := by
  unfold f__law_table u__law_table
  try simp -implicitDefEqProofs only [dDef_1_4, dSeq_m, dRet_m, dTup_m, dArgs_c, dArgs_n, dCall_m, dVar_m, dIfS_m, dNext_m, dtVal_m, dOp_m, dPure_m, dIf_m, oEq_m, mBl_b, okEq_int, dSet_m, dPar_m, setL_c, setL_n, fr_0, mVar_s, eqD_int, oLt_i, oIx_t, at2_1, at2_0, List.length_cons, List.length_nil, List.cons_append, List.nil_append, Nat.reduceAdd, Nat.reduceSub, List.getElem?_cons_zero, List.getElem?_cons_succ, List.set_cons_zero, List.set_cons_succ, Option.some.injEq, exists_eq_left', true_and, and_true, if_true, if_false, Bool.false_eq_true, Bool.true_eq_false, Bool.not_true, Bool.not_false, reduceIte, beq_self_eq_true, decide_true, Bool.or_false, Bool.or_true, Bool.false_or, Bool.true_or]
  refine ev_draw hb (by decide) (by decide) (fun r h0 h1 => ?_)
  try simp -implicitDefEqProofs only [dDef_1_4, dSeq_m, dRet_m, dTup_m, dArgs_c, dArgs_n, dCall_m, dVar_m, dIfS_m, dNext_m, dtVal_m, dOp_m, dPure_m, dIf_m, oEq_m, mBl_b, okEq_int, dSet_m, dPar_m, setL_c, setL_n, fr_0, mVar_s, eqD_int, oLt_i, oIx_t, at2_1, at2_0, List.length_cons, List.length_nil, List.cons_append, List.nil_append, Nat.reduceAdd, Nat.reduceSub, List.getElem?_cons_zero, List.getElem?_cons_succ, List.set_cons_zero, List.set_cons_succ, Option.some.injEq, exists_eq_left', true_and, and_true, if_true, if_false, Bool.false_eq_true, Bool.true_eq_false, Bool.not_true, Bool.not_false, reduceIte, beq_self_eq_true, decide_true, Bool.or_false, Bool.or_true, Bool.false_or, Bool.true_or]
  by_cases r0 : r = 0
  · rw [if_pos (decide_eq_true r0)]
    exact k ⟨0, 0, 0, 0⟩ ⟨Px.szr_lit 21 0, Px.szr_lit 21 0, Px.szr_lit 21 0, Px.szr_lit 21 0⟩
  rw [if_neg (by simpa using r0)]
  by_cases r3 : r < 3
  · rw [if_pos (decide_eq_true r3)]
    refine ev_near hb (fun x y hxy => ?_)
    try simp -implicitDefEqProofs only [dDef_1_4, dSeq_m, dRet_m, dTup_m, dArgs_c, dArgs_n, dCall_m, dVar_m, dIfS_m, dNext_m, dtVal_m, dOp_m, dPure_m, dIf_m, oEq_m, mBl_b, okEq_int, dSet_m, dPar_m, setL_c, setL_n, fr_0, mVar_s, eqD_int, oLt_i, oIx_t, at2_1, at2_0, List.length_cons, List.length_nil, List.cons_append, List.nil_append, Nat.reduceAdd, Nat.reduceSub, List.getElem?_cons_zero, List.getElem?_cons_succ, List.set_cons_zero, List.set_cons_succ, Option.some.injEq, exists_eq_left', true_and, and_true, if_true, if_false, Bool.false_eq_true, Bool.true_eq_false, Bool.not_true, Bool.not_false, reduceIte, beq_self_eq_true, decide_true, Bool.or_false, Bool.or_true, Bool.false_or, Bool.true_or]
    refine ev_small hb (fun z hz => ?_)
    try simp -implicitDefEqProofs only [dDef_1_4, dSeq_m, dRet_m, dTup_m, dArgs_c, dArgs_n, dCall_m, dVar_m, dIfS_m, dNext_m, dtVal_m, dOp_m, dPure_m, dIf_m, oEq_m, mBl_b, okEq_int, dSet_m, dPar_m, setL_c, setL_n, fr_0, mVar_s, eqD_int, oLt_i, oIx_t, at2_1, at2_0, List.length_cons, List.length_nil, List.cons_append, List.nil_append, Nat.reduceAdd, Nat.reduceSub, List.getElem?_cons_zero, List.getElem?_cons_succ, List.set_cons_zero, List.set_cons_succ, Option.some.injEq, exists_eq_left', true_and, and_true, if_true, if_false, Bool.false_eq_true, Bool.true_eq_false, Bool.not_true, Bool.not_false, reduceIte, beq_self_eq_true, decide_true, Bool.or_false, Bool.or_true, Bool.false_or, Bool.true_or]
    have := SzC.mk hz
    have h2 : SzP (x * z) (y * z) (5 + 5) := inferInstance
    refine ev_long (by decide) ?_
    try simp -implicitDefEqProofs only [dDef_1_4, dSeq_m, dRet_m, dTup_m, dArgs_c, dArgs_n, dCall_m, dVar_m, dIfS_m, dNext_m, dtVal_m, dOp_m, dPure_m, dIf_m, oEq_m, mBl_b, okEq_int, dSet_m, dPar_m, setL_c, setL_n, fr_0, mVar_s, eqD_int, oLt_i, oIx_t, at2_1, at2_0, List.length_cons, List.length_nil, List.cons_append, List.nil_append, Nat.reduceAdd, Nat.reduceSub, List.getElem?_cons_zero, List.getElem?_cons_succ, List.set_cons_zero, List.set_cons_succ, Option.some.injEq, exists_eq_left', true_and, and_true, if_true, if_false, Bool.false_eq_true, Bool.true_eq_false, Bool.not_true, Bool.not_false, reduceIte, beq_self_eq_true, decide_true, Bool.or_false, Bool.or_true, Bool.false_or, Bool.true_or]
    by_cases r1 : r = 1
    · rw [if_pos (decide_eq_true r1)]
      exact k ⟨x, y, x * z, y * z⟩ ⟨hxy.x.mono (by decide), hxy.y.mono (by decide), h2.x.mono (by decide), h2.y.mono (by decide)⟩
    · rw [if_neg (by simpa using r1)]
      exact k ⟨x * z, x, y * z, y⟩ ⟨h2.x.mono (by decide), hxy.x.mono (by decide), h2.y.mono (by decide), hxy.y.mono (by decide)⟩
  rw [if_neg (by simpa using r3)]
  by_cases r5 : r < 5
  · rw [if_pos (decide_eq_true r5)]
    refine ev_frac hb (fun x hx => ?_)
    refine ev_frac hb (fun y hy => ?_)
    refine ev_frac hb (fun z hz => ?_)
    refine ev_frac hb (fun w hw => ?_)
    exact k ⟨x, y, z, w⟩ ⟨hx, hy, hz, hw⟩
  rw [if_neg (by simpa using r5)]
  refine ev_small hb (fun x hx => ?_)
  refine ev_small hb (fun y hy => ?_)
  refine ev_small hb (fun z hz => ?_)
  refine ev_small hb (fun w hw => ?_)
  exact k ⟨x, y, z, w⟩ ⟨hx.mono (by decide), hy.mono (by decide), hz.mono (by decide), hw.mono (by decide)⟩
end Dw
set_option maxHeartbeats 60000
namespace Dw
open PySem PySem.Spec PyProof.Rows L2
variable {K : PySem.W.Frag} {S : Sto} {post : D → Sto → Prop} {xp : Xp} {b : Addr}
theorem oAdd_ll (a c : List D) (S : Sto) (post : D → Sto → Prop) (xp : Xp) : oAdd (.lst a) (.lst c) S post xp = (a.length + c.length ≤ 1000 ∧ post (.lst (a ++ c)) S) := by exact id rfl
end Dw
set_option maxHeartbeats 60000
set_option maxHeartbeats 60000
namespace Dw
open PySem PySem.Spec PyProof.Rows L2
variable {K : PySem.W.Frag} {S : Sto} {post : D → Sto → Prop} {xp : Xp} {b : Addr}
theorem hasBag_put {p : Addr} {c : MC} (h : hasBag S b) (hp : S p = none) : hasBag (S.put p c) b := by
  obtain ⟨a, ns, e⟩ := h
  refine ⟨a, ns, ?_⟩
  rw [put_ne (fun z => by rw [z, hp] at e; cases e)]
  exact e
end Dw
set_option maxHeartbeats 60000
set_option maxHeartbeats 60000
namespace Dw
open PySem PySem.Spec PyProof.Rows L2
variable {K : PySem.W.Frag} {S : Sto} {post : D → Sto → Prop} {xp : Xp} {b : Addr}
theorem dSl_m (e : DE) (lo hi : DO) (ρ : Lc) (S : Sto) (post : D → Sto → Prop) (xp : Xp) : dSl e lo hi ρ S post xp = e ρ S (fun d S1 => lo ρ S1 (fun l S2 => hi ρ S2 (fun h S3 => gSl d l h S3 post xp) xp) xp) xp := by exact id rfl
theorem dNoPart_m (ρ : Lc) (S : Sto) (post : Option Int → Sto → Prop) (xp : Xp) : dNoPart ρ S post xp = post none S := by exact id rfl
theorem dPart_i (i : Int) (ρ : Lc) (S : Sto) (post : Option Int → Sto → Prop) (xp : Xp) : dPart (dPure (.int i)) ρ S post xp = post (some i) S := by exact id rfl
theorem gSl_scr (ns : List Int) (lo hi : Option Int) (S : Sto) (post : D → Sto → Prop) (xp : Xp) : gSl (.scr ns) lo hi S post xp = post (.lst ((cutD ns lo hi).map .int)) S := by exact id rfl
theorem dBag_m (fs : List DE) (ρ : Lc) (S : Sto) (post : D → Sto → Prop) (xp : Xp) : dBag fs ρ S post xp = dArgs fs ρ S (fun ds S' => ∃ ns y, ds = [.lst (ns.map .int), .int 0, .int 0, .int y, .int 0] ∧ 0 ≤ y ∧ y < 2147483423 ∧ ∀ a c, S' a = none → post (.val (.ref a)) (S'.put a (.bag c ns))) xp := by exact id rfl
theorem ev_bag {ns : List Int} (hl : ns.length ≤ 63) (k : ∀ a S', hasBag S' a → post (.val (.ref a)) S') : f__law_bag K [.scr ns] S post xp := by
  unfold f__law_bag u__law_bag
  try simp -implicitDefEqProofs only [dDef_1_1, dSeq_m, dRet_m, dArgs_c, dArgs_n, dPure_m, dOp_m, dCall_m, dVar_m, dSet_m, mVar_s, gList_l, gLen_l, oMul_i, oAdd_i, List.length_cons, List.length_nil, List.cons_append, List.nil_append, Nat.reduceAdd, Nat.reduceSub, List.getElem?_cons_zero, List.getElem?_cons_succ, List.set_cons_zero, List.set_cons_succ, Option.some.injEq, exists_eq_left', true_and, and_true, if_true, if_false, Bool.false_eq_true, Bool.true_eq_false, Bool.not_true, Bool.not_false, reduceIte, beq_self_eq_true, decide_true, Bool.or_false, Bool.or_true, Bool.false_or, Bool.true_or, dSl_m, dNoPart_m, dPart_i, gSl_scr, dBag_m]
  generalize hc : cutD ns none (some 63) = cs
  have hlen : cs.length ≤ 63 := by
    rw [← hc]
    unfold cutD
    rw [List.length_take, List.length_drop]
    omega
  rw [List.length_map]
  refine ⟨Px.cmul (a := 6) (b := 6) (szI (by decide)) (szI (by omega)) (by decide), ?_⟩
  refine ⟨cs, _, rfl, by omega, by omega, fun a c ha => k a _ ⟨c, cs, put_same⟩⟩
end Dw
set_option maxHeartbeats 60000
namespace Dw
open PySem PySem.Spec PyProof.Rows L2
/-- a spot -/
structure Pt where
  x : Rat
  y : Rat
deriving DecidableEq
theorem Pt.ext' {p q : Pt} (h1 : p.x = q.x) (h2 : p.y = q.y) : p = q := by cases p; cases q; cases h1; cases h2; rfl
theorem Pt.ne_or {p q : Pt} (h : p ≠ q) : p.x - q.x ≠ 0 ∨ p.y - q.y ≠ 0 := by
  rcases Decidable.em (p.x - q.x = 0) with a | a
  · rcases Decidable.em (p.y - q.y = 0) with b | b
    · exact absurd (Pt.ext' (by grind) (by grind)) h
    · exact .inr b
  · exact .inl a
/-- the turn of three spots -/
def cr (s e p : Pt) : Rat := (e.x - s.x) * (p.y - s.y) - (e.y - s.y) * (p.x - s.x)
def reach : List Pt → Pt → Bool
  | [], _ => false
  | [c], p => decide (p = c)
  | [s, e], p => decide (cr s e p = 0)
  | _ :: _ :: _ :: _, _ => true
def addP (cs : List Pt) (p : Pt) : List Pt := if reach cs p = true then cs else cs ++ [p]
def ind (ps : List Pt) : List Pt := ps.foldl addP []
theorem cr_s (s e : Pt) : cr s e s = 0 := by unfold cr; grind
theorem cr_e (s e : Pt) : cr s e e = 0 := by unfold cr; grind
theorem cr_same (s p : Pt) : cr s s p = 0 := by unfold cr; grind
theorem reach_self : ∀ {cs : List Pt} {p : Pt}, p ∈ cs → reach cs p = true
  | [c], p, h => by have e : p = c := by simpa using h
                    subst e; unfold reach; simp
  | [s, e], p, h => by
    have : p = s ∨ p = e := by simpa using h
    unfold reach
    rcases this with rfl | rfl
    · simp [cr_s]
    · simp [cr_e]
  | _ :: _ :: _ :: _, _, _ => rfl
theorem reach_mono : ∀ {cs : List Pt} {p q : Pt}, reach cs q = true → reach (cs ++ [p]) q = true
  | [c], p, q, h => by
    have e : q = c := by unfold reach at h; simpa using h
    subst e
    show reach [q, p] q = true
    unfold reach; simp [cr_s]
  | [s, e], p, q, h => rfl
  | _ :: _ :: _ :: _, _, _, _ => rfl
theorem reach_add {cs : List Pt} {p q : Pt} (h : reach cs q = true) : reach (addP cs p) q = true := by
  unfold addP; split
  · exact h
  · exact reach_mono h
theorem reach_new {cs : List Pt} {p : Pt} : reach (addP cs p) p = true := by
  unfold addP; split
  · assumption
  · exact reach_self (by simp)
theorem fold_keep : ∀ (ps cs : List Pt) {q : Pt}, reach cs q = true → reach (ps.foldl addP cs) q = true
  | [], cs, q, h => h
  | p :: ps, cs, q, h => fold_keep ps _ (reach_add h)
theorem fold_all : ∀ (ps cs : List Pt) {q : Pt}, q ∈ ps → reach (ps.foldl addP cs) q = true
  | [], cs, q, h => by cases h
  | p :: ps, cs, q, h => by
    rcases List.mem_cons.mp h with e | e
    · subst e; exact fold_keep ps _ reach_new
    · exact fold_all ps _ e
theorem ind_all {ps : List Pt} {q : Pt} (h : q ∈ ps) : reach (ind ps) q = true := fold_all ps [] h
theorem fold_mem : ∀ (ps cs : List Pt) {q : Pt}, q ∈ ps.foldl addP cs → q ∈ cs ∨ q ∈ ps
  | [], cs, q, h => .inl h
  | p :: ps, cs, q, h => by
    rcases fold_mem ps _ h with e | e
    · unfold addP at e
      split at e
      · exact .inl e
      · rcases List.mem_append.mp e with e | e
        · exact .inl e
        · exact .inr (List.mem_cons.mpr (.inl (by simpa using e)))
    · exact .inr (List.mem_cons_of_mem _ e)
theorem ind_mem {ps : List Pt} {q : Pt} (h : q ∈ ind ps) : q ∈ ps := by
  rcases fold_mem ps [] h with e | e
  · cases e
  · exact e
/-- corners that no other reaches -/
inductive Ind : List Pt → Prop
  | zero : Ind []
  | one (c : Pt) : Ind [c]
  | two (s e : Pt) : e ≠ s → Ind [s, e]
  | three (s e t : Pt) : cr s e t ≠ 0 → Ind [s, e, t]
theorem Ind.add {cs : List Pt} (h : Ind cs) (p : Pt) : Ind (addP cs p) := by
  unfold addP
  rcases g : reach cs p with _ | _
  · rw [if_neg (by simp)]
    cases h with
    | zero => exact .one p
    | one c => exact .two c p (by unfold reach at g; simpa using g)
    | two s e hne => exact .three s e p (by unfold reach at g; simpa using g)
    | three s e t k => cases g
  · rw [if_pos rfl]; exact h
theorem fold_Ind : ∀ (ps cs : List Pt), Ind cs → Ind (ps.foldl addP cs)
  | [], cs, h => h
  | p :: ps, cs, h => fold_Ind ps _ (h.add p)
theorem ind_Ind (ps : List Pt) : Ind (ind ps) := fold_Ind ps [] .zero
theorem Ind.len {cs : List Pt} (h : Ind cs) : cs.length ≤ 3 := by cases h <;> simp
theorem Ind.ind {cs : List Pt} (h : Ind cs) : ind cs = cs := by
  cases h with
  | zero => rfl
  | one c => rfl
  | two s e g => simp [Dw.ind, addP, reach, g]
  | three s e t g =>
    have hne : e ≠ s := fun h => g (by rw [h]; exact cr_same s t)
    simp [Dw.ind, addP, reach, g, hne]
theorem ind_ind (ps : List Pt) : ind (ind ps) = ind ps := (ind_Ind ps).ind
theorem ind_snoc (ps : List Pt) (p : Pt) : ind (ps ++ [p]) = addP (ind ps) p := by unfold ind; rw [List.foldl_append]; rfl
theorem within_iff (ps : List Pt) (p : Pt) : (decide (ps ≠ []) && decide ((ind (ps ++ [p])).length = (ind ps).length)) = reach (ind ps) p := by
  rw [ind_snoc]
  rcases h : reach (ind ps) p with _ | _
  · have : addP (ind ps) p = ind ps ++ [p] := by unfold addP; rw [h]; rfl
    rw [this]; simp
  · have : addP (ind ps) p = ind ps := by unfold addP; rw [h]; rfl
    rw [this]
    have hne : ps ≠ [] := fun e => by rw [e] at h; cases h
    simp [hne]
/-- two lines: three spots of the first are in line -/
theorem line_in {s e a c p : Pt} (h : e ≠ s) (ha : cr a c s = 0) (he : cr a c e = 0) (hp : cr s e p = 0) : cr a c p = 0 := by
  rcases Pt.ne_or h with g | g
  · have : (e.x - s.x) * cr a c p = 0 := by
      unfold cr at *
      grind
    rcases Rat.mul_eq_zero.mp this with k | k
    · exact absurd k g
    · exact k
  · have : (e.y - s.y) * cr a c p = 0 := by
      unfold cr at *
      grind
    rcases Rat.mul_eq_zero.mp this with k | k
    · exact absurd k g
    · exact k
theorem line_three {s e t a c : Pt} (hac : c ≠ a) (h1 : cr a c s = 0) (h2 : cr a c e = 0) (h3 : cr a c t = 0) : cr s e t = 0 := by
  rcases Pt.ne_or hac with g | g
  · have k : (c.x - a.x) * cr s e t = 0 := by unfold cr at *; grind
    exact (Rat.mul_eq_zero.mp k).resolve_left g
  · have k : (c.y - a.y) * cr s e t = 0 := by unfold cr at *; grind
    exact (Rat.mul_eq_zero.mp k).resolve_left g
/-- what the corners of one reach, the other reaches too -/
theorem reach_in {A B : List Pt} (hA : Ind A) (hB : Ind B) (h : ∀ q ∈ B, reach A q = true) {p : Pt} (hp : reach B p = true) : reach A p = true := by
  cases hB with
  | zero => cases hp
  | one c =>
    have e : p = c := by unfold reach at hp; simpa using hp
    subst e; exact h p (by simp)
  | two s e hne =>
    have hs := h s (by simp)
    have he := h e (by simp)
    unfold reach at hp
    simp only [decide_eq_true_eq] at hp
    cases hA with
    | zero => cases hs
    | one c =>
      unfold reach at hs he
      simp only [decide_eq_true_eq] at hs he
      exact absurd (he.trans hs.symm) hne
    | two a c hac =>
      unfold reach at hs he ⊢
      simp only [decide_eq_true_eq] at hs he ⊢
      exact line_in hne hs he hp
    | three a c t g => rfl
  | three s e t g =>
    have hs := h s (by simp)
    have he := h e (by simp)
    have ht := h t (by simp)
    have hne : e ≠ s := fun k => g (by rw [k]; exact cr_same s t)
    cases hA with
    | zero => cases hs
    | one c =>
      unfold reach at hs he
      simp only [decide_eq_true_eq] at hs he
      exact absurd (he.trans hs.symm) hne
    | two a c hac =>
      unfold reach at hs he ht
      simp only [decide_eq_true_eq] at hs he ht
      exact absurd (line_three hac hs he ht) g
    | three a c t g => rfl
end Dw
set_option maxHeartbeats 60000
namespace Dw
open PySem PySem.Spec PyProof.Rows L2
variable {K : PySem.W.Frag} {S : Sto} {post : D → Sto → Prop} {xp : Xp} {b : Addr}
theorem gd_all {n : Nat} (ih : ∀ {d : D}, gd n d = true → plain d = true ∧ (toPd d).canLay0 = true ∧ (toPd d).depth ≤ n) : ∀ {ds : List D}, ds.all (gd n) = true → plains ds = true ∧ PyData.canLayAll0 (toPds ds) = true ∧ PyData.depthAll (toPds ds) ≤ n
  | [], _ => ⟨rfl, rfl, Nat.zero_le _⟩
  | d :: ds, h => by
    rw [List.all_cons, Bool.and_eq_true] at h
    obtain ⟨a1, a2, a3⟩ := ih h.1
    obtain ⟨b1, b2, b3⟩ := gd_all ih h.2
    refine ⟨by unfold plains; rw [a1, b1]; rfl, by unfold toPds PyData.canLayAll0; rw [a2, b2]; rfl, ?_⟩
    unfold toPds PyData.depthAll
    omega
theorem gd_plain : ∀ (n : Nat) {d : D}, gd n d = true → plain d = true ∧ (toPd d).canLay0 = true ∧ (toPd d).depth ≤ n
  | 0, d, h => by unfold gd at h; cases h
  | n + 1, d, h => by
    cases d with
    | non => exact ⟨rfl, rfl, Nat.zero_le _⟩
    | bl _ => exact ⟨rfl, rfl, Nat.zero_le _⟩
    | int _ => exact ⟨rfl, rfl, Nat.zero_le _⟩
    | str s => unfold gd at h; exact ⟨rfl, by unfold toPd PyData.canLay0; exact h, Nat.zero_le _⟩
    | tup ds =>
      unfold gd at h
      rw [Bool.and_eq_true] at h
      obtain ⟨a1, a2, a3⟩ := gd_all (fun {d} => gd_plain n) h.2
      exact ⟨by unfold plain; exact a1, by unfold toPd PyData.canLay0; exact a2, by unfold toPd PyData.depth; omega⟩
    | lst ds =>
      unfold gd at h
      rw [Bool.and_eq_true] at h
      obtain ⟨a1, a2, a3⟩ := gd_all (fun {d} => gd_plain n) h.2
      exact ⟨by unfold plain; exact a1, by unfold toPd PyData.canLay0; exact a2, by unfold toPd PyData.depth; omega⟩
    | _ => unfold gd at h; cases h
theorem gd_okEq {n : Nat} {d : D} (h : gd n d = true) (hn : n ≤ 64) : okEq d = true := by
  obtain ⟨a1, a2, a3⟩ := gd_plain n h
  unfold okEq SeqAt.shaped
  rw [a1, a2, decide_eq_true (Nat.le_trans a3 hn)]
  rfl
theorem eqD_l0 : eqD (.lst []) (.lst []) = true := by simp only [eqD, toPd, toPds, PyData.eqv, PyData.eqvAll]
theorem eqD_l1 (d : D) (ds : List D) : eqD (.lst (d :: ds)) (.lst []) = false := by simp only [eqD, toPd, toPds, PyData.eqv, PyData.eqvAll]
theorem wLc_all {ρ : Lc} {i : Nat} {elt : DE} {P : D → Prop} : ∀ (ds acc : List D) (post : List D → Sto → Prop), (∀ d ∈ ds, ∀ k : D → Sto → Prop, (∀ e, P e → k e S) → elt (ρ.set i (some d)) S k noX) → (∀ es, es.length = ds.length → (∀ e ∈ es, P e) → post (acc ++ es) S) → wLc ρ (.nm i) dYes elt ds acc S post xp
  | [], acc, post, _, h => by
    rw [wLc_n]
    have := h [] rfl (by simp)
    rwa [List.append_nil] at this
  | d :: ds, acc, post, he, h => by
    rw [wLc_c, bT_nm, dYes_m, if_pos rfl]
    refine he d (List.mem_cons_self ..) _ (fun e pe => ?_)
    refine wLc_all ds (acc ++ [e]) post (fun d' hd => he d' (List.mem_cons_of_mem _ hd)) (fun es hl hp => ?_)
    rw [List.append_assoc]
    exact h (e :: es) (by simp [hl]) (fun x hx => by
      rcases List.mem_cons.mp hx with rfl | z
      · exact pe
      · exact hp x z)
abbrev pD (p : Pt) : D := sp p.x p.y
theorem gd_pD {p : Pt} : gd 3 (pD p) = true := by rfl
theorem okEq_pD (p : Pt) : okEq (pD p) = true := rfl
theorem okEq_pts {ps : List Pt} (h : ps.length ≤ 1000) : okEq (.lst (ps.map pD)) = true := gd_okEq (n := 4) (by
  unfold gd
  rw [Bool.and_eq_true, decide_eq_true_eq, List.all_eq_true, List.length_map]
  refine ⟨h, fun d hd => ?_⟩
  obtain ⟨p, _, rfl⟩ := List.mem_map.mp hd
  exact gd_pD) (by decide)
theorem eqD_pD (p q : Pt) : eqD (pD p) (pD q) = decide (p = q) := by
  unfold pD sp
  rw [eqD_sp]
  congr 1
  rw [eq_iff_iff]
  exact ⟨fun h => Pt.ext' h.1 h.2, fun h => by subst h; exact ⟨rfl, rfl⟩⟩
theorem inD_pts (p : Pt) (cs : List Pt) : inD (pD p) (cs.map pD) = decide (p ∈ cs) := by
  unfold inD
  rw [Bool.eq_iff_iff, List.any_eq_true, decide_eq_true_eq]
  constructor
  · rintro ⟨d, hd, e⟩
    obtain ⟨q, hq, rfl⟩ := List.mem_map.mp hd
    rw [eqD_pD, decide_eq_true_eq] at e
    subst e; exact hq
  · intro h
    exact ⟨pD p, List.mem_map.mpr ⟨p, h, rfl⟩, by rw [eqD_pD]; simp⟩
/-- a list, changing or not -/
def Lt (S : Sto) (d : D) (xs : List D) : Prop := d = .lst xs ∨ ∃ a, d = .val (.ref a) ∧ S a = some (.lst xs)
theorem lt_l {xs : List D} : Lt S (.lst xs) xs := .inl rfl
theorem lt_r {a : Addr} {xs : List D} (h : S a = some (.lst xs)) : Lt S (.val (.ref a)) xs := .inr ⟨a, rfl, h⟩
theorem lt_see {d : D} {xs : List D} (h : Lt S d xs) : seeD S d = .lst xs := by
  rcases h with rfl | ⟨a, rfl, h⟩
  · rfl
  · unfold seeD; simp only [h]
theorem lt_len {d : D} {xs : List D} (h : Lt S d xs) (k : post (.int (xs.length : Nat)) S) : gLen [d] S post xp := by
  rcases h with rfl | ⟨a, rfl, h⟩
  · rw [gLen_l]; exact k
  · refine ⟨xs.length, ?_, k⟩
    unfold lenD; simp [h]
theorem lt_ix {d : D} {xs : List D} {i : Int} {x : D} (h : Lt S d xs) (e : atI xs i = some x) (k : post x S) : oIx d (.int i) S post xp := by
  rcases h with rfl | ⟨a, rfl, h⟩
  · rw [oIx_l]; exact ⟨x, e, k⟩
  · exact ⟨xs, h, x, e, k⟩
theorem oEqV_m (x y : D) (S : Sto) (post : D → Sto → Prop) (xp : Xp) : oEqV x y S post xp = oEq (seeD S x) (seeD S y) S post xp := by exact id rfl
theorem oNeV_m (x y : D) (S : Sto) (post : D → Sto → Prop) (xp : Xp) : oNeV x y S post xp = oNe (seeD S x) (seeD S y) S post xp := by exact id rfl
theorem dUnpV_m (is : List Nat) (e : DE) (ρ : Lc) (S : Sto) (nx : Lc → Sto → Prop) (rt : D → Sto → Prop) (bk ct : Lc → Sto → Prop) (xp : Xp) : dUnpV is e ρ S ⟨nx, rt, bk, ct, xp⟩ = e ρ S (fun d S' => ∃ ds, seeD S' d = .lst ds ∧ ds.length = is.length ∧ nx (setL ρ is ds) S') xp := by exact id rfl
theorem see_i (i : Int) : seeD S (.int i) = .int i := rfl
theorem see_t (ds : List D) : seeD S (.tup ds) = .tup ds := rfl
theorem see_l (ds : List D) : seeD S (.lst ds) = .lst ds := rfl
theorem ev_vector_minus {x y x' y' : Rat} {n m : Nat} [h : SzP x y n] [k : SzP x' y' m] (hl : n + m ≤ 9000) (q : post (sp (x - x') (y - y')) S) : f_vector_minus K [sp x y, sp x' y'] S post xp := by
  have := h.cx; have := h.cy; have := k.cx; have := k.cy
  unfold f_vector_minus u_vector_minus sp
  try simp -implicitDefEqProofs only [dDef_2_0, dRet_m, dTup_m, dArgs_c, dArgs_n, dCall_m, dOp_m, dPure_m, dVar_m, mVar_s, oIx_t, at2_1, at2_0, List.length_cons, List.length_nil, List.cons_append, List.nil_append, Nat.reduceAdd, Nat.reduceSub, List.getElem?_cons_zero, List.getElem?_cons_succ, List.set_cons_zero, List.set_cons_succ, Option.some.injEq, exists_eq_left', true_and, and_true, if_true, if_false, Bool.false_eq_true, Bool.true_eq_false, Bool.not_true, Bool.not_false, reduceIte, beq_self_eq_true, decide_true, Bool.or_false, Bool.or_true, Bool.false_or, Bool.true_or]
  refine ev_minus hl ?_
  exact ev_minus hl q
theorem ev__law_cross {x y x' y' : Rat} {n m : Nat} [h : SzP x y n] [k : SzP x' y' m] (hl : n + m + (n + m) ≤ 9000) (q : post (fr (x * y' - y * x')) S) : f__law_cross K [sp x y, sp x' y'] S post xp := by
  have := h.cx; have := h.cy; have := k.cx; have := k.cy
  unfold f__law_cross u__law_cross sp
  try simp -implicitDefEqProofs only [dDef_2_0, dRet_m, dCall_m, dArgs_c, dArgs_n, dOp_m, dPure_m, dVar_m, mVar_s, oIx_t, at2_0, at2_1, List.length_cons, List.length_nil, List.cons_append, List.nil_append, Nat.reduceAdd, Nat.reduceSub, List.getElem?_cons_zero, List.getElem?_cons_succ, List.set_cons_zero, List.set_cons_succ, Option.some.injEq, exists_eq_left', true_and, and_true, if_true, if_false, Bool.false_eq_true, Bool.true_eq_false, Bool.not_true, Bool.not_false, reduceIte, beq_self_eq_true, decide_true, Bool.or_false, Bool.or_true, Bool.false_or, Bool.true_or]
  refine ev__law_product (by omega) ?_
  refine ev__law_product (by omega) ?_
  exact ev__law_less hl q
theorem ev__law_shift {x y x' y' : Rat} {n m : Nat} [h : SzP x y n] [k : SzP x' y' m] (hl : n + m ≤ 9000) (q : post (sp (x - x') (y - y')) S) : f__law_shift K [sp x y, sp x' y'] S post xp := by
  have := h.cx; have := h.cy; have := k.cx; have := k.cy
  unfold f__law_shift u__law_shift sp
  try simp -implicitDefEqProofs only [dDef_2_0, dRet_m, dTup_m, dArgs_c, dArgs_n, dCall_m, dOp_m, dPure_m, dVar_m, mVar_s, oIx_t, at2_1, at2_0, List.length_cons, List.length_nil, List.cons_append, List.nil_append, Nat.reduceAdd, Nat.reduceSub, List.getElem?_cons_zero, List.getElem?_cons_succ, List.set_cons_zero, List.set_cons_succ, Option.some.injEq, exists_eq_left', true_and, and_true, if_true, if_false, Bool.false_eq_true, Bool.true_eq_false, Bool.not_true, Bool.not_false, reduceIte, beq_self_eq_true, decide_true, Bool.or_false, Bool.or_true, Bool.false_or, Bool.true_or]
  refine ev__law_less hl ?_
  exact ev__law_less hl q
/-- a spot of a bounded size -/
abbrev Zp (n : Nat) (p : Pt) : Prop := SzP p.x p.y n
theorem szp_sub {x y x' y' : Rat} {n m : Nat} [h : SzP x y n] [k : SzP x' y' m] : SzP (x - x') (y - y') (n + m + 1) := by
  have := h.cx; have := h.cy; have := k.cx; have := k.cy
  exact ⟨SzC.h (x := x - x'), SzC.h (x := y - y')⟩
theorem ev__law_turn {p q r : Pt} {n m : Nat} (hp : Zp n p) (hq : Zp n q) (hr : Zp m r) (hl : n + n + 1 + (m + n + 1) + (n + n + 1 + (m + n + 1)) ≤ 9000) (k : post (fr (cr p q r)) S) : f__law_turn K [pD p, pD q, pD r] S post xp := by
  unfold f__law_turn u__law_turn
  try simp -implicitDefEqProofs only [dDef_3_0, dRet_m, dCall_m, dArgs_c, dArgs_n, dVar_m, mVar_s, List.length_cons, List.length_nil, List.cons_append, List.nil_append, Nat.reduceAdd, Nat.reduceSub, List.getElem?_cons_zero, List.getElem?_cons_succ, List.set_cons_zero, List.set_cons_succ, Option.some.injEq, exists_eq_left', true_and, and_true, if_true, if_false, Bool.false_eq_true, Bool.true_eq_false, Bool.not_true, Bool.not_false, reduceIte, beq_self_eq_true, decide_true, Bool.or_false, Bool.or_true, Bool.false_or, Bool.true_or]
  have := szp_sub (h := hq) (k := hp); have := szp_sub (h := hr) (k := hp)
  refine ev__law_shift (by omega) ?_
  refine ev__law_shift (by omega) ?_
  exact ev__law_cross hl k
theorem ev_det2 {a b c d : Rat} {n m : Nat} (h1 : SzP a c n) (h2 : SzP b d m) (hl : n + m + (n + m) ≤ 9000 := by decide) (q : post (fr (Tb.mk a b c d).det) S) : f_Table_det K [tbD K ⟨a, b, c, d⟩] S post xp := by
  have := h1.cx; have := h1.cy; have := h2.cx; have := h2.cy
  unfold f_Table_det u_Table_det
  try simp -implicitDefEqProofs only [dDef_1_0, dRet_m, dCall_m, dArgs_c, dArgs_n, dFld_eq, dVar_m, mVar_s, List.length_cons, List.length_nil, List.cons_append, List.nil_append, Nat.reduceAdd, Nat.reduceSub, List.getElem?_cons_zero, List.getElem?_cons_succ, List.set_cons_zero, List.set_cons_succ, Option.some.injEq, exists_eq_left', true_and, and_true, if_true, if_false, Bool.false_eq_true, Bool.true_eq_false, Bool.not_true, Bool.not_false, reduceIte, beq_self_eq_true, decide_true, Bool.or_false, Bool.or_true, Bool.false_or, Bool.true_or]
  refine ev_fld_a (t := ⟨a, b, c, d⟩) ?_
  refine ev_fld_d (t := ⟨a, b, c, d⟩) ?_
  try simp -implicitDefEqProofs only [dDef_1_0, dRet_m, dCall_m, dArgs_c, dArgs_n, dFld_eq, dVar_m, mVar_s, List.length_cons, List.length_nil, List.cons_append, List.nil_append, Nat.reduceAdd, Nat.reduceSub, List.getElem?_cons_zero, List.getElem?_cons_succ, List.set_cons_zero, List.set_cons_succ, Option.some.injEq, exists_eq_left', true_and, and_true, if_true, if_false, Bool.false_eq_true, Bool.true_eq_false, Bool.not_true, Bool.not_false, reduceIte, beq_self_eq_true, decide_true, Bool.or_false, Bool.or_true, Bool.false_or, Bool.true_or]
  refine ev_times (by omega) ?_
  refine ev_fld_b (t := ⟨a, b, c, d⟩) ?_
  refine ev_fld_c (t := ⟨a, b, c, d⟩) ?_
  try simp -implicitDefEqProofs only [dDef_1_0, dRet_m, dCall_m, dArgs_c, dArgs_n, dFld_eq, dVar_m, mVar_s, List.length_cons, List.length_nil, List.cons_append, List.nil_append, Nat.reduceAdd, Nat.reduceSub, List.getElem?_cons_zero, List.getElem?_cons_succ, List.set_cons_zero, List.set_cons_succ, Option.some.injEq, exists_eq_left', true_and, and_true, if_true, if_false, Bool.false_eq_true, Bool.true_eq_false, Bool.not_true, Bool.not_false, reduceIte, beq_self_eq_true, decide_true, Bool.or_false, Bool.or_true, Bool.false_or, Bool.true_or]
  refine ev_times (by omega) ?_
  refine ev_minus (by omega) ?_
  exact q
/-- the corners of a line are small, and what is asked is not too big -/
def Fit (cs : List Pt) (p : Pt) : Prop := cs.length = 2 → (∀ c ∈ cs, Zp 255 c) ∧ Zp 2900 p
theorem ev__reaches {d : D} {cs : List Pt} {p : Pt} (h : Lt S d (cs.map pD)) (hc : cs.length ≤ 3) (hf : Fit cs p) (k : post (.bl (reach cs p)) S) : f__reaches K [d, pD p] S post xp := by
  unfold f__reaches u__reaches
  try simp -implicitDefEqProofs only [g_ZERO, fr_0, dDef_2_2, dSeq_m, dRet_m, dOp_m, dPure_m, dProp_m, dCall_m, dArgs_c, dArgs_n, dVar_m, dIfS_m, dNext_m, dtVal_m, mVar_s, oLt_i, mBl_b, oGt_i, setL_c, setL_n, oEq_m, okEq_fr, eqD_fr, List.length_cons, List.length_nil, List.cons_append, List.nil_append, Nat.reduceAdd, Nat.reduceSub, List.getElem?_cons_zero, List.getElem?_cons_succ, List.set_cons_zero, List.set_cons_succ, Option.some.injEq, exists_eq_left', true_and, and_true, if_true, if_false, Bool.false_eq_true, Bool.true_eq_false, Bool.not_true, Bool.not_false, reduceIte, beq_self_eq_true, decide_true, Bool.or_false, Bool.or_true, Bool.false_or, Bool.true_or]
  refine lt_len h ?_
  try simp -implicitDefEqProofs only [g_ZERO, fr_0, dDef_2_2, dSeq_m, dRet_m, dOp_m, dPure_m, dProp_m, dCall_m, dArgs_c, dArgs_n, dVar_m, dIfS_m, dNext_m, dtVal_m, mVar_s, oLt_i, mBl_b, oGt_i, setL_c, setL_n, oEq_m, okEq_fr, eqD_fr, List.length_cons, List.length_nil, List.cons_append, List.nil_append, Nat.reduceAdd, Nat.reduceSub, List.getElem?_cons_zero, List.getElem?_cons_succ, List.set_cons_zero, List.set_cons_succ, Option.some.injEq, exists_eq_left', true_and, and_true, if_true, if_false, Bool.false_eq_true, Bool.true_eq_false, Bool.not_true, Bool.not_false, reduceIte, beq_self_eq_true, decide_true, Bool.or_false, Bool.or_true, Bool.false_or, Bool.true_or, List.length_map]
  match cs, h, hc, hf, k with
  | [], h, hc, hf, k =>
    rw [if_pos (by show decide ((0 : Int) < 2) = true; decide)]
    refine oOr_r ⟨_, lt_see h, okEq_pD p, okEq_pts (ps := []) (by decide), ?_⟩
    exact k
  | [c], h, hc, hf, k =>
    rw [if_pos (by show decide ((1 : Int) < 2) = true; decide)]
    refine oOr_r ⟨_, lt_see h, okEq_pD p, okEq_pts (ps := [c]) (by simp), ?_⟩
    have e : inD (seeD S (pD p)) ([c].map pD) = reach [c] p := by
      show inD (pD p) ([c].map pD) = _
      rw [inD_pts]; unfold reach; simp
    rw [e]; exact k
  | [s, e], h, hc, hf, k =>
    rw [if_neg (by show ¬ decide ((2 : Int) < 2) = true; decide)]
    refine lt_len h ?_
    try simp -implicitDefEqProofs only [g_ZERO, fr_0, dDef_2_2, dSeq_m, dRet_m, dOp_m, dPure_m, dProp_m, dCall_m, dArgs_c, dArgs_n, dVar_m, dIfS_m, dNext_m, dtVal_m, mVar_s, oLt_i, mBl_b, oGt_i, setL_c, setL_n, oEq_m, okEq_fr, eqD_fr, List.length_cons, List.length_nil, List.cons_append, List.nil_append, Nat.reduceAdd, Nat.reduceSub, List.getElem?_cons_zero, List.getElem?_cons_succ, List.set_cons_zero, List.set_cons_succ, Option.some.injEq, exists_eq_left', true_and, and_true, if_true, if_false, Bool.false_eq_true, Bool.true_eq_false, Bool.not_true, Bool.not_false, reduceIte, beq_self_eq_true, decide_true, Bool.or_false, Bool.or_true, Bool.false_or, Bool.true_or, List.length_map, dUnpV_m]
    rw [if_neg (by decide)]
    refine ⟨_, lt_see h, rfl, ?_⟩
    try simp -implicitDefEqProofs only [g_ZERO, fr_0, dDef_2_2, dSeq_m, dRet_m, dOp_m, dPure_m, dProp_m, dCall_m, dArgs_c, dArgs_n, dVar_m, dIfS_m, dNext_m, dtVal_m, mVar_s, oLt_i, mBl_b, oGt_i, setL_c, setL_n, oEq_m, okEq_fr, eqD_fr, List.length_cons, List.length_nil, List.cons_append, List.nil_append, Nat.reduceAdd, Nat.reduceSub, List.getElem?_cons_zero, List.getElem?_cons_succ, List.set_cons_zero, List.set_cons_succ, Option.some.injEq, exists_eq_left', true_and, and_true, if_true, if_false, Bool.false_eq_true, Bool.true_eq_false, Bool.not_true, Bool.not_false, reduceIte, beq_self_eq_true, decide_true, Bool.or_false, Bool.or_true, Bool.false_or, Bool.true_or, List.map]
    obtain ⟨hz, hp⟩ := hf rfl
    have hs := hz s (by simp)
    have he := hz e (by simp)
    have h1 := szp_sub (h := he) (k := hs)
    have h2 := szp_sub (h := hp) (k := hs)
    refine ev_vector_minus (by decide) ?_
    refine ev_vector_minus (by decide) ?_
    refine ev_columns ?_
    have h3 : SzT ⟨e.x - s.x, p.x - s.x, e.y - s.y, p.y - s.y⟩ 3156 := ⟨h1.x.mono (by decide), h2.x, h1.y.mono (by decide), h2.y⟩
    refine ⟨rfl, ev_det2 h1 h2 (by decide) ?_⟩
    rw [oEqV_m, see_t, see_t]
    try simp -implicitDefEqProofs only [g_ZERO, fr_0, dDef_2_2, dSeq_m, dRet_m, dOp_m, dPure_m, dProp_m, dCall_m, dArgs_c, dArgs_n, dVar_m, dIfS_m, dNext_m, dtVal_m, mVar_s, oLt_i, mBl_b, oGt_i, setL_c, setL_n, oEq_m, okEq_fr, eqD_fr, List.length_cons, List.length_nil, List.cons_append, List.nil_append, Nat.reduceAdd, Nat.reduceSub, List.getElem?_cons_zero, List.getElem?_cons_succ, List.set_cons_zero, List.set_cons_succ, Option.some.injEq, exists_eq_left', true_and, and_true, if_true, if_false, Bool.false_eq_true, Bool.true_eq_false, Bool.not_true, Bool.not_false, reduceIte, beq_self_eq_true, decide_true, Bool.or_false, Bool.or_true, Bool.false_or, Bool.true_or]
    have e1 : (Tb.mk (e.x - s.x) (p.x - s.x) (e.y - s.y) (p.y - s.y)).det = cr s e p := by
      unfold Tb.det cr; grind
    rw [e1]
    exact k
  | [s, e, t], h, hc, hf, k =>
    rw [if_neg (by show ¬ decide ((3 : Int) < 2) = true; decide)]
    refine lt_len h ?_
    try simp -implicitDefEqProofs only [g_ZERO, fr_0, dDef_2_2, dSeq_m, dRet_m, dOp_m, dPure_m, dProp_m, dCall_m, dArgs_c, dArgs_n, dVar_m, dIfS_m, dNext_m, dtVal_m, mVar_s, oLt_i, mBl_b, oGt_i, setL_c, setL_n, oEq_m, okEq_fr, eqD_fr, List.length_cons, List.length_nil, List.cons_append, List.nil_append, Nat.reduceAdd, Nat.reduceSub, List.getElem?_cons_zero, List.getElem?_cons_succ, List.set_cons_zero, List.set_cons_succ, Option.some.injEq, exists_eq_left', true_and, and_true, if_true, if_false, Bool.false_eq_true, Bool.true_eq_false, Bool.not_true, Bool.not_false, reduceIte, beq_self_eq_true, decide_true, Bool.or_false, Bool.or_true, Bool.false_or, Bool.true_or, List.length_map]
    rw [if_pos (by decide)]
    exact k
  | _ :: _ :: _ :: _ :: _, h, hc, hf, k => simp at hc
end Dw
set_option maxHeartbeats 60000
namespace Dw
open PySem PySem.Spec PyProof.Rows L2
variable {K : PySem.W.Frag} {S : Sto} {post : D → Sto → Prop} {xp : Xp} {b : Addr}
theorem dLstM_m (fs : List DE) (ρ : Lc) (S : Sto) (post : D → Sto → Prop) (xp : Xp) : dLstM fs ρ S post xp = dArgs fs ρ S (fun ds S' => ∀ a, S' a = none → post (.val (.ref a)) (S'.put a (.lst ds))) xp := by exact id rfl
theorem dBm_m (ty : Sto → D → Prop) (g : D → List D → W D) (e : DE) (fs : List DE) (ρ : Lc) (S : Sto) (post : D → Sto → Prop) (xp : Xp) : dBm ty g e fs ρ S post xp = e ρ S (fun d S1 => ty S1 d ∧ dArgs fs ρ S1 (fun ds S2 => g d ds S2 post xp) xp) xp := by exact id rfl
theorem dFrz_m (i : Nat) (ρ : Lc) (S : Sto) (nx : Lc → Sto → Prop) (rt : D → Sto → Prop) (bk ct : Lc → Sto → Prop) (xp : Xp) : dFrz i ρ S ⟨nx, rt, bk, ct, xp⟩ = mVar ρ[i]? fun d => frz d S (fun d' S' => nx (ρ.set i (some d')) S') := by
  unfold dFrz mVar
  congr 1
theorem frz_put {a : Addr} {ds : List D} {S : Sto} {post : D → Sto → Prop} (h : S a = none) (k : post (.lst ds) S) : frz (.val (.ref a)) (S.put a (.lst ds)) post := by
  unfold frz
  simp only [put_same, put_del h]
  exact k
theorem ev_append {a : Addr} {ds : List D} {d : D} (hl : ds.length < 1000) (k : post .non (S.put a (.lst (ds ++ [d])))) : gAppend (.val (.ref a)) [d] (S.put a (.lst ds)) post xp := by
  unfold gAppend chL
  refine ⟨ds, ds ++ [d], .non, put_same, hl, rfl, ?_⟩
  rw [put_put]
  exact k
theorem isL_put {a : Addr} {ds : List D} : isL (S.put a (.lst ds)) (.val (.ref a)) := ⟨ds, put_same⟩
structure FB (S : Sto) (b : Addr) : Prop where
  bag : hasBag S b
  fl : flS S
theorem FB.put {a : Addr} {ds : List D} (h : FB S b) (ha : S a = none) (hf : ds.all (pf 9) = true) : FB (S.put a (.lst ds)) b := by
  refine ⟨hasBag_put h.bag ha, fun c m hc => ?_⟩
  by_cases e : c = a
  · subst e
    rw [put_same] at hc
    cases hc
    exact hf
  · rw [put_ne e] at hc
    exact h.fl c m hc
theorem gListM_l (xs : List D) (S : Sto) (post : D → Sto → Prop) (xp : Xp) : gListM [.lst xs] S post xp = ∀ p, S p = none → post (.val (.ref p)) (S.put p (.lst xs)) := by exact id rfl
/-- a flat by its corners -/
abbrev flD (K : PySem.W.Frag) (cs : List Pt) : D := .ins (C_Flat K) ["_corners"] [.lst (cs.map pD)]
abbrev indB (K : PySem.W.Frag) : DS := dIfS (dtNot (dtVal (dCall (f__reaches K) [(dVar 1), (dVar 2)]))) (dExpr (dBm isL gAppend (dVar 1) [(dVar 2)])) dNext
/-- a list that may be spanned -/
def Gd : List Pt → List Pt → Prop
  | _, [] => True
  | cs, p :: ps => Fit cs p ∧ Gd (addP cs p) ps
theorem addP_mem {cs : List Pt} {p c : Pt} (h : c ∈ addP cs p) : c ∈ cs ∨ c = p := by
  unfold addP at h
  split at h
  · exact .inl h
  · rcases List.mem_append.mp h with k | k
    · exact .inl k
    · exact .inr (List.mem_singleton.mp k)
/-- all small, but the last -/
theorem Gd_last : ∀ (ps : List Pt) (cs : List Pt) (q : Pt), (∀ c ∈ cs, Zp 255 c) → (∀ p ∈ ps, Zp 255 p) → Zp 2900 q → Gd cs (ps ++ [q])
  | [], cs, q, hc, hp, hq => ⟨fun _ => ⟨hc, hq⟩, trivial⟩
  | p :: ps, cs, q, hc, hp, hq => ⟨fun _ => ⟨hc, ⟨(hp p (by simp)).x.mono (by decide), (hp p (by simp)).y.mono (by decide)⟩⟩, Gd_last ps (addP cs p) q (fun c h => by
      rcases addP_mem h with k | rfl
      · exact hc c k
      · exact hp _ (by simp)) (fun p h => hp p (List.mem_cons_of_mem _ h)) hq⟩
theorem Gd_small : ∀ (ps : List Pt) (cs : List Pt), (∀ c ∈ cs, Zp 255 c) → (∀ p ∈ ps, Zp 255 p) → Gd cs ps
  | [], cs, hc, hp => trivial
  | p :: ps, cs, hc, hp => ⟨fun _ => ⟨hc, ⟨(hp p (by simp)).x.mono (by decide), (hp p (by simp)).y.mono (by decide)⟩⟩, Gd_small ps (addP cs p) (fun c h => by
      rcases addP_mem h with k | rfl
      · exact hc c k
      · exact hp _ (by simp)) (fun p h => hp p (List.mem_cons_of_mem _ h))⟩
theorem addP_len {cs : List Pt} {p : Pt} : (addP cs p).length ≤ cs.length + 1 := by
  unfold addP
  split <;> simp
theorem Gd_two {p q : Pt} : Gd [] [p, q] := by
  refine ⟨fun h => by simp at h, fun h => ?_, trivial⟩
  have := addP_len (cs := []) (p := p)
  simp at this
  omega
theorem Gd_one {p : Pt} : Gd [] [p] := ⟨fun h => by simp at h, trivial⟩
theorem ind_loop {a : Addr} {x : Option D} {nx bk ct : Lc → Sto → Prop} {rt : D → Sto → Prop} : ∀ (ps cs : List Pt) (w : Option D), Ind cs → Gd cs ps → (∀ w', nx [x, some (.val (.ref a)), w'] (S.put a (.lst ((ps.foldl addP cs).map pD)))) → wFor (.nm 2) (indB K) (ps.map pD) [x, some (.val (.ref a)), w] (S.put a (.lst (cs.map pD))) ⟨nx, rt, bk, ct, xp⟩
  | [], cs, w, _, _, h => by rw [List.map_nil, wFor_n]; exact h w
  | p :: ps, cs, w, hi, hg, h => by
    have hl := hi.len
    rw [List.map_cons, wFor_c, bT_nm]
    try simp -implicitDefEqProofs only [wFor_n, wFor_c, bT_nm, dIfS_m, dExpr_m, dArgs_c, dArgs_n, dVar_m, mVar_s, dNext_m, dtNot_m, dtVal_m, dCall_m, mBl_b, List.length_cons, List.length_nil, List.cons_append, List.nil_append, Nat.reduceAdd, Nat.reduceSub, List.getElem?_cons_zero, List.getElem?_cons_succ, List.set_cons_zero, List.set_cons_succ, Option.some.injEq, exists_eq_left', true_and, and_true, if_true, if_false, Bool.false_eq_true, Bool.true_eq_false, Bool.not_true, Bool.not_false, reduceIte, beq_self_eq_true, decide_true, Bool.or_false, Bool.or_true, Bool.false_or, Bool.true_or, dBm_m]
    refine ev__reaches (lt_r put_same) hl hg.1 ?_
    rcases g : reach cs p with _ | _
    · try simp -implicitDefEqProofs only [wFor_n, wFor_c, bT_nm, dIfS_m, dExpr_m, dArgs_c, dArgs_n, dVar_m, mVar_s, dNext_m, dtNot_m, dtVal_m, dCall_m, mBl_b, List.length_cons, List.length_nil, List.cons_append, List.nil_append, Nat.reduceAdd, Nat.reduceSub, List.getElem?_cons_zero, List.getElem?_cons_succ, List.set_cons_zero, List.set_cons_succ, Option.some.injEq, exists_eq_left', true_and, and_true, if_true, if_false, Bool.false_eq_true, Bool.true_eq_false, Bool.not_true, Bool.not_false, reduceIte, beq_self_eq_true, decide_true, Bool.or_false, Bool.or_true, Bool.false_or, Bool.true_or]
      refine ⟨isL_put, ev_append (by rw [List.length_map]; omega) ?_⟩
      have e : addP cs p = cs ++ [p] := by unfold addP; rw [g]; rfl
      have := ind_loop (a := a) (x := x) (bk := bk) (ct := ct) (rt := rt) ps (addP cs p) (some (pD p)) (hi.add p) hg.2 h
      rw [e, List.map_append] at this
      exact this
    · try simp -implicitDefEqProofs only [wFor_n, wFor_c, bT_nm, dIfS_m, dExpr_m, dArgs_c, dArgs_n, dVar_m, mVar_s, dNext_m, dtNot_m, dtVal_m, dCall_m, mBl_b, List.length_cons, List.length_nil, List.cons_append, List.nil_append, Nat.reduceAdd, Nat.reduceSub, List.getElem?_cons_zero, List.getElem?_cons_succ, List.set_cons_zero, List.set_cons_succ, Option.some.injEq, exists_eq_left', true_and, and_true, if_true, if_false, Bool.false_eq_true, Bool.true_eq_false, Bool.not_true, Bool.not_false, reduceIte, beq_self_eq_true, decide_true, Bool.or_false, Bool.or_true, Bool.false_or, Bool.true_or]
      have e : addP cs p = cs := by unfold addP; rw [g]; rfl
      have := ind_loop (a := a) (x := x) (bk := bk) (ct := ct) (rt := rt) ps (addP cs p) (some (pD p)) (hi.add p) hg.2 h
      rw [e] at this
      exact this
theorem ev__independent {ps : List Pt} (hp : Gd [] ps) (k : post (.lst ((ind ps).map pD)) S) : f__independent K [.tup (ps.map pD)] S post xp := by
  unfold f__independent u__independent
  try simp -implicitDefEqProofs only [dDef_1_2, dSeq_m, dRet_m, dVar_m, dFor_m, cSeq_m, dSet_m, mVar_s, mSeq_t, dArgs_n, List.length_cons, List.length_nil, List.cons_append, List.nil_append, Nat.reduceAdd, Nat.reduceSub, List.getElem?_cons_zero, List.getElem?_cons_succ, List.set_cons_zero, List.set_cons_succ, Option.some.injEq, exists_eq_left', true_and, and_true, if_true, if_false, Bool.false_eq_true, Bool.true_eq_false, Bool.not_true, Bool.not_false, reduceIte, beq_self_eq_true, decide_true, Bool.or_false, Bool.or_true, Bool.false_or, Bool.true_or, dLstM_m]
  intro a ha
  refine ind_loop ps [] none .zero hp (fun w' => ?_)
  try simp -implicitDefEqProofs only [dDef_1_2, dSeq_m, dRet_m, dVar_m, dFor_m, cSeq_m, dSet_m, mVar_s, mSeq_t, dArgs_n, List.length_cons, List.length_nil, List.cons_append, List.nil_append, Nat.reduceAdd, Nat.reduceSub, List.getElem?_cons_zero, List.getElem?_cons_succ, List.set_cons_zero, List.set_cons_succ, Option.some.injEq, exists_eq_left', true_and, and_true, if_true, if_false, Bool.false_eq_true, Bool.true_eq_false, Bool.not_true, Bool.not_false, reduceIte, beq_self_eq_true, decide_true, Bool.or_false, Bool.or_true, Bool.false_or, Bool.true_or, dFrz_m]
  exact frz_put ha k
theorem spot_loop {nx bk ct : Lc → Sto → Prop} {rt : D → Sto → Prop} {x y : Option D} : ∀ (ps : List Pt) (w : Option D), (∀ w', nx [x, y, w'] S) → wFor (.nm 2) (dIfS (dtNot (dtVal (dCall (f_is_spot K) [(dVar 2)]))) (fun _ _ _ => False) dNext) (ps.map pD) [x, y, w] S ⟨nx, rt, bk, ct, xp⟩
  | [], w, h => by rw [List.map_nil, wFor_n]; exact h w
  | p :: ps, w, h => by
    rw [List.map_cons, wFor_c, bT_nm]
    try simp -implicitDefEqProofs only [wFor_n, wFor_c, bT_nm, dIfS_m, dNext_m, dtNot_m, dtVal_m, dCall_m, dArgs_c, dArgs_n, dVar_m, mVar_s, mBl_b, List.length_cons, List.length_nil, List.cons_append, List.nil_append, Nat.reduceAdd, Nat.reduceSub, List.getElem?_cons_zero, List.getElem?_cons_succ, List.set_cons_zero, List.set_cons_succ, Option.some.injEq, exists_eq_left', true_and, and_true, if_true, if_false, Bool.false_eq_true, Bool.true_eq_false, Bool.not_true, Bool.not_false, reduceIte, beq_self_eq_true, decide_true, Bool.or_false, Bool.or_true, Bool.false_or, Bool.true_or]
    refine ev_is_spot ?_
    try simp -implicitDefEqProofs only [wFor_n, wFor_c, bT_nm, dIfS_m, dNext_m, dtNot_m, dtVal_m, dCall_m, dArgs_c, dArgs_n, dVar_m, mVar_s, mBl_b, List.length_cons, List.length_nil, List.cons_append, List.nil_append, Nat.reduceAdd, Nat.reduceSub, List.getElem?_cons_zero, List.getElem?_cons_succ, List.set_cons_zero, List.set_cons_succ, Option.some.injEq, exists_eq_left', true_and, and_true, if_true, if_false, Bool.false_eq_true, Bool.true_eq_false, Bool.not_true, Bool.not_false, reduceIte, beq_self_eq_true, decide_true, Bool.or_false, Bool.or_true, Bool.false_or, Bool.true_or]
    exact spot_loop ps _ h
theorem ev_new_Flat {ps : List Pt} (hl : ps.length ≤ 1000) (hp : Gd [] ps) (k : post (flD K (ind ps)) S) : nNewS (C_Flat K) (f_Flat___init__ K) (ps.map pD) S post xp := by
  refine ⟨by rw [List.length_map]; exact hl, fun a ha => ?_⟩
  unfold f_Flat___init__ u_Flat___init__
  try simp -implicitDefEqProofs only [dDef_2_1, dSeq_m, dSto_m, dVar_m, dCall_m, dArgs_c, dArgs_n, dFor_m, cSeq_m, mVar_s, mSeq_t, List.length_cons, List.length_nil, List.cons_append, List.nil_append, Nat.reduceAdd, Nat.reduceSub, List.getElem?_cons_zero, List.getElem?_cons_succ, List.set_cons_zero, List.set_cons_succ, Option.some.injEq, exists_eq_left', true_and, and_true, if_true, if_false, Bool.false_eq_true, Bool.true_eq_false, Bool.not_true, Bool.not_false, reduceIte, beq_self_eq_true, decide_true, Bool.or_false, Bool.or_true, Bool.false_or, Bool.true_or]
  refine spot_loop ps none (fun w' => ?_)
  try simp -implicitDefEqProofs only [dDef_2_1, dSeq_m, dSto_m, dVar_m, dCall_m, dArgs_c, dArgs_n, dFor_m, cSeq_m, mVar_s, mSeq_t, List.length_cons, List.length_nil, List.cons_append, List.nil_append, Nat.reduceAdd, Nat.reduceSub, List.getElem?_cons_zero, List.getElem?_cons_succ, List.set_cons_zero, List.set_cons_succ, Option.some.injEq, exists_eq_left', true_and, and_true, if_true, if_false, Bool.false_eq_true, Bool.true_eq_false, Bool.not_true, Bool.not_false, reduceIte, beq_self_eq_true, decide_true, Bool.or_false, Bool.or_true, Bool.false_or, Bool.true_or]
  refine ev__independent hp ?_
  try simp -implicitDefEqProofs only [dDef_2_1, dSeq_m, dSto_m, dVar_m, dCall_m, dArgs_c, dArgs_n, dFor_m, cSeq_m, mVar_s, mSeq_t, List.length_cons, List.length_nil, List.cons_append, List.nil_append, Nat.reduceAdd, Nat.reduceSub, List.getElem?_cons_zero, List.getElem?_cons_succ, List.set_cons_zero, List.set_cons_succ, Option.some.injEq, exists_eq_left', true_and, and_true, if_true, if_false, Bool.false_eq_true, Bool.true_eq_false, Bool.not_true, Bool.not_false, reduceIte, beq_self_eq_true, decide_true, Bool.or_false, Bool.or_true, Bool.false_or, Bool.true_or]
  refine ev_sto putL0 (by decide) ?_
  exact frz_ins ha k
end Dw
set_option maxHeartbeats 60000
namespace Dw
open PySem PySem.Spec PyProof.Rows L2
variable {K : PySem.W.Frag} {S : Sto} {post : D → Sto → Prop} {xp : Xp} {b : Addr}
theorem ev_size {cs : List Pt} (k : post (.int ((cs.length : Int) - 1)) S) : f_Flat_size K [flD K cs] S post xp := by
  unfold f_Flat_size u_Flat_size
  try simp -implicitDefEqProofs only [dDef_1_0, dRet_m, dOp_m, dPure_m, dCall_m, dArgs_c, dArgs_n, dFld_eq, dVar_m, mVar_s, gLen_l, oSub_i, List.length_cons, List.length_nil, List.cons_append, List.nil_append, Nat.reduceAdd, Nat.reduceSub, List.getElem?_cons_zero, List.getElem?_cons_succ, List.set_cons_zero, List.set_cons_succ, Option.some.injEq, exists_eq_left', true_and, and_true, if_true, if_false, Bool.false_eq_true, Bool.true_eq_false, Bool.not_true, Bool.not_false, reduceIte, beq_self_eq_true, decide_true, Bool.or_false, Bool.or_true, Bool.false_or, Bool.true_or]
  refine ev_fld rfl ?_
  try simp -implicitDefEqProofs only [dDef_1_0, dRet_m, dOp_m, dPure_m, dCall_m, dArgs_c, dArgs_n, dFld_eq, dVar_m, mVar_s, gLen_l, oSub_i, List.length_cons, List.length_nil, List.cons_append, List.nil_append, Nat.reduceAdd, Nat.reduceSub, List.getElem?_cons_zero, List.getElem?_cons_succ, List.set_cons_zero, List.set_cons_succ, Option.some.injEq, exists_eq_left', true_and, and_true, if_true, if_false, Bool.false_eq_true, Bool.true_eq_false, Bool.not_true, Bool.not_false, reduceIte, beq_self_eq_true, decide_true, Bool.or_false, Bool.or_true, Bool.false_or, Bool.true_or, List.length_map]
  exact k
theorem ev_spots {cs : List Pt} (k : ∀ p, S p = none → post (.val (.ref p)) (S.put p (.lst (cs.map pD)))) : f_Flat_spots K [flD K cs] S post xp := by
  unfold f_Flat_spots u_Flat_spots
  try simp -implicitDefEqProofs only [dDef_1_0, dRet_m, dCall_m, dArgs_c, dArgs_n, dFld_eq, dVar_m, mVar_s, List.length_cons, List.length_nil, List.cons_append, List.nil_append, Nat.reduceAdd, Nat.reduceSub, List.getElem?_cons_zero, List.getElem?_cons_succ, List.set_cons_zero, List.set_cons_succ, Option.some.injEq, exists_eq_left', true_and, and_true, if_true, if_false, Bool.false_eq_true, Bool.true_eq_false, Bool.not_true, Bool.not_false, reduceIte, beq_self_eq_true, decide_true, Bool.or_false, Bool.or_true, Bool.false_or, Bool.true_or]
  refine ev_fld rfl ?_
  rw [gListM_l]
  exact k
theorem ev_contains {cs : List Pt} {p : Pt} (hi : Ind cs) (hf : Fit cs p) (k : post (.bl (reach cs p)) S) : f_Flat___contains__ K [flD K cs, pD p] S post xp := by
  unfold f_Flat___contains__ u_Flat___contains__
  try simp -implicitDefEqProofs only [dDef_2_0, dRet_m, dAnd_m, dCall_m, dArgs_c, dArgs_n, dVar_m, mVar_s, dFld_eq, mAnd_t, List.length_cons, List.length_nil, List.cons_append, List.nil_append, Nat.reduceAdd, Nat.reduceSub, List.getElem?_cons_zero, List.getElem?_cons_succ, List.set_cons_zero, List.set_cons_succ, Option.some.injEq, exists_eq_left', true_and, and_true, if_true, if_false, Bool.false_eq_true, Bool.true_eq_false, Bool.not_true, Bool.not_false, reduceIte, beq_self_eq_true, decide_true, Bool.or_false, Bool.or_true, Bool.false_or, Bool.true_or]
  refine ev_is_spot ?_
  try simp -implicitDefEqProofs only [dDef_2_0, dRet_m, dAnd_m, dCall_m, dArgs_c, dArgs_n, dVar_m, mVar_s, dFld_eq, mAnd_t, List.length_cons, List.length_nil, List.cons_append, List.nil_append, Nat.reduceAdd, Nat.reduceSub, List.getElem?_cons_zero, List.getElem?_cons_succ, List.set_cons_zero, List.set_cons_succ, Option.some.injEq, exists_eq_left', true_and, and_true, if_true, if_false, Bool.false_eq_true, Bool.true_eq_false, Bool.not_true, Bool.not_false, reduceIte, beq_self_eq_true, decide_true, Bool.or_false, Bool.or_true, Bool.false_or, Bool.true_or]
  refine ev_fld rfl ?_
  try simp -implicitDefEqProofs only [dDef_2_0, dRet_m, dAnd_m, dCall_m, dArgs_c, dArgs_n, dVar_m, mVar_s, dFld_eq, mAnd_t, List.length_cons, List.length_nil, List.cons_append, List.nil_append, Nat.reduceAdd, Nat.reduceSub, List.getElem?_cons_zero, List.getElem?_cons_succ, List.set_cons_zero, List.set_cons_succ, Option.some.injEq, exists_eq_left', true_and, and_true, if_true, if_false, Bool.false_eq_true, Bool.true_eq_false, Bool.not_true, Bool.not_false, reduceIte, beq_self_eq_true, decide_true, Bool.or_false, Bool.or_true, Bool.false_or, Bool.true_or]
  exact ev__reaches lt_l hi.len hf k
theorem own_F : C_Flat K ∈ own K := by unfold own; simp
/-- is one flat the other -/
def eqF (A B : List Pt) : Bool := decide (A.length = B.length) && B.all fun q => reach A q
theorem oOwnIn_one {C : Addr} {g : List D → W D} {x y : D} (h : isOf0 S y C) (k : g [y, x] S (fun d S' => ∃ c, d = .bl c ∧ post (.bl c) S') xp) : oOwnIn [(C, g)] x y S post xp := ⟨C, g, List.mem_singleton.mpr rfl, h, k⟩
theorem ev_in {cs : List Pt} {p : Pt} (hi : Ind cs) (hf : Fit cs p) (k : post (.bl (reach cs p)) S) : oOwnIn [(C_Flat K, f_Flat___contains__ K)] (pD p) (flD K cs) S post xp := oOwnIn_one rfl (ev_contains hi hf ⟨_, rfl, k⟩)
theorem gAll_map {α : Type} {f : α → Bool} {xs : List α} (k : post (.bl (xs.all f)) S) : gAll [.lst (xs.map fun x => .bl (f x))] S post xp := by
  refine ⟨xs.map f, by rw [List.map_map]; rfl, ?_⟩
  rw [List.all_map]
  exact k
theorem meth_spots {cs : List Pt} {k : (List D → W D) → Prop} (h : k (f_Flat_spots K)) : nMeth [(C_Flat K, f_Flat_spots K)] "spots" (flD K cs) S k := ev_meth (by decide +kernel) h
theorem ev_eq {A B : List Pt} (hA : Ind A) (hB : Ind B) (z : ∀ c ∈ B, Fit A c) (k : post (.bl (eqF A B)) S) : f_Flat___eq__ K [flD K A, flD K B] S post xp := by
  unfold f_Flat___eq__ u_Flat___eq__
  try simp -implicitDefEqProofs only [dDef_2_1, dRet_m, dAnd_m, dCall_m, dArgs_c, dArgs_n, dLc_m, wipeL_c, wipeL_n, cSeq_m, dMeth_eq, dVar_m, mVar_s, dOp_m, oEq_m, dProp_m, isOf0_i, dPure_m, mAnd_t, okEq_int, eqD_int, mSeq_l, bT_nm, mAnd_f, List.length_cons, List.length_nil, List.cons_append, List.nil_append, Nat.reduceAdd, Nat.reduceSub, List.getElem?_cons_zero, List.getElem?_cons_succ, List.set_cons_zero, List.set_cons_succ, Option.some.injEq, exists_eq_left', true_and, and_true, if_true, if_false, Bool.false_eq_true, Bool.true_eq_false, Bool.not_true, Bool.not_false, reduceIte, beq_self_eq_true, decide_true, Bool.or_false, Bool.or_true, Bool.false_or, Bool.true_or, dFrzE_m]
  refine isi_own own_F ?_
  try simp -implicitDefEqProofs only [dDef_2_1, dRet_m, dAnd_m, dCall_m, dArgs_c, dArgs_n, dLc_m, wipeL_c, wipeL_n, cSeq_m, dMeth_eq, dVar_m, mVar_s, dOp_m, oEq_m, dProp_m, isOf0_i, dPure_m, mAnd_t, okEq_int, eqD_int, mSeq_l, bT_nm, mAnd_f, List.length_cons, List.length_nil, List.cons_append, List.nil_append, Nat.reduceAdd, Nat.reduceSub, List.getElem?_cons_zero, List.getElem?_cons_succ, List.set_cons_zero, List.set_cons_succ, Option.some.injEq, exists_eq_left', true_and, and_true, if_true, if_false, Bool.false_eq_true, Bool.true_eq_false, Bool.not_true, Bool.not_false, reduceIte, beq_self_eq_true, decide_true, Bool.or_false, Bool.or_true, Bool.false_or, Bool.true_or, dFrzE_m]
  refine ev_size ?_
  refine ev_size ?_
  try simp -implicitDefEqProofs only [dDef_2_1, dRet_m, dAnd_m, dCall_m, dArgs_c, dArgs_n, dLc_m, wipeL_c, wipeL_n, cSeq_m, dMeth_eq, dVar_m, mVar_s, dOp_m, oEq_m, dProp_m, isOf0_i, dPure_m, mAnd_t, okEq_int, eqD_int, mSeq_l, bT_nm, mAnd_f, List.length_cons, List.length_nil, List.cons_append, List.nil_append, Nat.reduceAdd, Nat.reduceSub, List.getElem?_cons_zero, List.getElem?_cons_succ, List.set_cons_zero, List.set_cons_succ, Option.some.injEq, exists_eq_left', true_and, and_true, if_true, if_false, Bool.false_eq_true, Bool.true_eq_false, Bool.not_true, Bool.not_false, reduceIte, beq_self_eq_true, decide_true, Bool.or_false, Bool.or_true, Bool.false_or, Bool.true_or, dFrzE_m]
  unfold eqF at k
  by_cases h : A.length = B.length
  · rw [decide_eq_true h, Bool.true_and] at k
    rw [decide_eq_true (by omega)]
    try simp -implicitDefEqProofs only [dDef_2_1, dRet_m, dAnd_m, dCall_m, dArgs_c, dArgs_n, dLc_m, wipeL_c, wipeL_n, cSeq_m, dMeth_eq, dVar_m, mVar_s, dOp_m, oEq_m, dProp_m, isOf0_i, dPure_m, mAnd_t, okEq_int, eqD_int, mSeq_l, bT_nm, mAnd_f, List.length_cons, List.length_nil, List.cons_append, List.nil_append, Nat.reduceAdd, Nat.reduceSub, List.getElem?_cons_zero, List.getElem?_cons_succ, List.set_cons_zero, List.set_cons_succ, Option.some.injEq, exists_eq_left', true_and, and_true, if_true, if_false, Bool.false_eq_true, Bool.true_eq_false, Bool.not_true, Bool.not_false, reduceIte, beq_self_eq_true, decide_true, Bool.or_false, Bool.or_true, Bool.false_or, Bool.true_or, dFrzE_m]
    refine meth_spots ?_
    refine ev_spots (fun p hp => ?_)
    refine frz_put hp ?_
    rw [mSeq_l]
    refine ⟨by rw [List.length_map]; have := hB.len; omega, ?_⟩
    refine wLc_mp (S := S) pD (fun q => .bl (reach A q)) B [] _ (fun q hq k' hk' => ?_) ?_
    · rw [bT_nm]
      try simp -implicitDefEqProofs only [dDef_2_1, dRet_m, dAnd_m, dCall_m, dArgs_c, dArgs_n, dLc_m, wipeL_c, wipeL_n, cSeq_m, dMeth_eq, dVar_m, mVar_s, dOp_m, oEq_m, dProp_m, isOf0_i, dPure_m, mAnd_t, okEq_int, eqD_int, mSeq_l, bT_nm, mAnd_f, List.length_cons, List.length_nil, List.cons_append, List.nil_append, Nat.reduceAdd, Nat.reduceSub, List.getElem?_cons_zero, List.getElem?_cons_succ, List.set_cons_zero, List.set_cons_succ, Option.some.injEq, exists_eq_left', true_and, and_true, if_true, if_false, Bool.false_eq_true, Bool.true_eq_false, Bool.not_true, Bool.not_false, reduceIte, beq_self_eq_true, decide_true, Bool.or_false, Bool.or_true, Bool.false_or, Bool.true_or]
      exact ev_in hA (z q hq) hk'
    · exact gAll_map (f := fun q => reach A q) k
  · rw [decide_eq_false h, Bool.false_and] at k
    rw [decide_eq_false (by omega)]
    try simp -implicitDefEqProofs only [dDef_2_1, dRet_m, dAnd_m, dCall_m, dArgs_c, dArgs_n, dLc_m, wipeL_c, wipeL_n, cSeq_m, dMeth_eq, dVar_m, mVar_s, dOp_m, oEq_m, dProp_m, isOf0_i, dPure_m, mAnd_t, okEq_int, eqD_int, mSeq_l, bT_nm, mAnd_f, List.length_cons, List.length_nil, List.cons_append, List.nil_append, Nat.reduceAdd, Nat.reduceSub, List.getElem?_cons_zero, List.getElem?_cons_succ, List.set_cons_zero, List.set_cons_succ, Option.some.injEq, exists_eq_left', true_and, and_true, if_true, if_false, Bool.false_eq_true, Bool.true_eq_false, Bool.not_true, Bool.not_false, reduceIte, beq_self_eq_true, decide_true, Bool.or_false, Bool.or_true, Bool.false_or, Bool.true_or, dFrzE_m]
    exact k
theorem ev_oeq {A B : List Pt} (hA : Ind A) (hB : Ind B) (z : ∀ c ∈ B, Fit A c) (k : post (.bl (eqF A B)) S) : oOwnEq [(C_Flat K, f_Flat___eq__ K)] (own K) (flD K A) (flD K B) S post xp := by
  rw [oOwnEq_m]
  exact ⟨rfl, ty_ins own_F, ev_eq hA hB z k⟩
theorem s0 : Px.SzR 255 (0 : Rat) := (show Px.SzR 1 (0 : Rat) from Px.szr_lit 1 0).mono (by decide)
theorem s1 : Px.SzR 255 (1 : Rat) := (show Px.SzR 1 (1 : Rat) from Px.szr_lit 1 1).mono (by decide)
abbrev three : List Pt := [⟨0, 0⟩, ⟨1, 0⟩, ⟨0, 1⟩]
theorem three_z : ∀ p ∈ three, Zp 255 p := fun p hp => by
  have : p = ⟨0, 0⟩ ∨ p = ⟨1, 0⟩ ∨ p = ⟨0, 1⟩ := by simpa using hp
  rcases this with rfl | rfl | rfl
  · exact ⟨s0, s0⟩
  · exact ⟨s1, s0⟩
  · exact ⟨s0, s1⟩
theorem three_Ind : Ind three := .three _ _ _ (by unfold cr; decide +kernel)
theorem three_ind : ind three = three := three_Ind.ind
theorem ev_whole (k : post (flD K three) S) : f_Flat_whole K [] S post xp := by
  unfold f_Flat_whole u_Flat_whole
  try simp -implicitDefEqProofs only [g_ZERO, g_ONE, fr_0, fr_1, dDef_0_0, dRet_m, dArgs_c, dArgs_n, dTup_m, dPure_m, List.length_cons, List.length_nil, List.cons_append, List.nil_append, Nat.reduceAdd, Nat.reduceSub, List.getElem?_cons_zero, List.getElem?_cons_succ, List.set_cons_zero, List.set_cons_succ, Option.some.injEq, exists_eq_left', true_and, and_true, if_true, if_false, Bool.false_eq_true, Bool.true_eq_false, Bool.not_true, Bool.not_false, reduceIte, beq_self_eq_true, decide_true, Bool.or_false, Bool.or_true, Bool.false_or, Bool.true_or, dNewS_m]
  refine ev_new_Flat (ps := three) (by decide) (Gd_small _ _ (by simp) three_z) ?_
  rw [three_ind]
  exact k
end Dw
set_option maxHeartbeats 60000
namespace Dw
open PySem PySem.Spec PyProof.Rows L2
variable {K : PySem.W.Frag} {S : Sto} {post : D → Sto → Prop} {xp : Xp} {b : Addr}
theorem lt_eq0 {d : D} {ps : List Pt} (h : Lt S d (ps.map pD)) (hl : ps.length ≤ 1000) (k : post (.bl ps.isEmpty) S) : oEqV d (.lst []) S post xp := by
  rw [oEqV_m, lt_see h, see_l, oEq_m]
  refine ⟨okEq_pts hl, okEq_pts (ps := []) (by decide), ?_⟩
  cases ps with
  | nil => rw [List.map_nil, eqD_l0]; exact k
  | cons p ps => rw [List.map_cons, eqD_l1]; exact k
theorem lt_ne0 {d : D} {ps : List Pt} (h : Lt S d (ps.map pD)) (hl : ps.length ≤ 1000) (k : post (.bl (!ps.isEmpty)) S) : oNeV d (.lst []) S post xp := by
  rw [oNeV_m, lt_see h, see_l, oNe_m]
  refine ⟨okEq_pts hl, okEq_pts (ps := []) (by decide), ?_⟩
  cases ps with
  | nil => rw [List.map_nil, eqD_l0]; exact k
  | cons p ps => rw [List.map_cons, eqD_l1]; exact k
theorem eqV_ii {i j : Int} (k : post (.bl (decide (i = j))) S) : oEqV (.int i) (.int j) S post xp := by
  rw [oEqV_m, see_i, see_i]; try simp -implicitDefEqProofs only [oEq_m, okEq_int, eqD_int, List.length_cons, List.length_nil, List.cons_append, List.nil_append, Nat.reduceAdd, Nat.reduceSub, List.getElem?_cons_zero, List.getElem?_cons_succ, List.set_cons_zero, List.set_cons_succ, Option.some.injEq, exists_eq_left', true_and, and_true, if_true, if_false, Bool.false_eq_true, Bool.true_eq_false, Bool.not_true, Bool.not_false, reduceIte, beq_self_eq_true, decide_true, Bool.or_false, Bool.or_true, Bool.false_or, Bool.true_or]; exact k
theorem neV_ii {i j : Int} (k : post (.bl (!decide (i = j))) S) : oNeV (.int i) (.int j) S post xp := by
  rw [oNeV_m, see_i, see_i]; try simp -implicitDefEqProofs only [oNe_m, okEq_int, eqD_int, List.length_cons, List.length_nil, List.cons_append, List.nil_append, Nat.reduceAdd, Nat.reduceSub, List.getElem?_cons_zero, List.getElem?_cons_succ, List.set_cons_zero, List.set_cons_succ, Option.some.injEq, exists_eq_left', true_and, and_true, if_true, if_false, Bool.false_eq_true, Bool.true_eq_false, Bool.not_true, Bool.not_false, reduceIte, beq_self_eq_true, decide_true, Bool.or_false, Bool.or_true, Bool.false_or, Bool.true_or]; exact k
theorem neV_pp {p q : Pt} (k : post (.bl (!decide (p = q))) S) : oNeV (pD p) (pD q) S post xp := by
  rw [oNeV_m, see_t, see_t, oNe_m]
  exact ⟨okEq_pD p, okEq_pD q, by rw [eqD_pD]; exact k⟩
theorem num0 (x : Rat) : decide (x.num = 0) = decide (x = 0) := by
  congr 1
  rw [eq_iff_iff]
  exact Rat.num_eq_zero
abbrev spanB (K : PySem.W.Frag) : DS := dIfS (dtOr (dtVal (dOp oEqV (dVar 1) (dLst []))) (dtAnd (dtVal (dOp oEqV (dCall gLen [(dVar 1)]) (dPure (.int 1)))) (dtVal (dOp oNeV (dVar 2) (dOp oIx (dVar 1) (dPure (.int 0))))))) (dExpr (dBm isL gAppend (dVar 1) [(dVar 2)])) (dIfS (dtAnd (dtVal (dOp oEqV (dCall gLen [(dVar 1)]) (dPure (.int 2)))) (dtVal (dOp oNeV (dOp oIx (dCall (f__law_turn K) [(dOp oIx (dVar 1) (dPure (.int 0))), (dOp oIx (dVar 1) (dPure (.int 1))), (dVar 2)]) (dPure (.int 0))) (dPure (.int 0))))) (dExpr (dBm isL gAppend (dVar 1) [(dVar 2)])) dNext)
theorem span_step {a : Addr} {x : Option D} {cs : List Pt} {p : Pt} {nx bk ct : Lc → Sto → Prop} {rt : D → Sto → Prop} (hi : Ind cs) (hf : Fit cs p) (k : nx [x, some (.val (.ref a)), some (pD p)] (S.put a (.lst ((addP cs p).map pD)))) : spanB K [x, some (.val (.ref a)), some (pD p)] (S.put a (.lst (cs.map pD))) ⟨nx, rt, bk, ct, xp⟩ := by
  have hl := hi.len
  have L : Lt (S.put a (.lst (cs.map pD))) (.val (.ref a)) (cs.map pD) := lt_r put_same
  have go : addP cs p = cs ++ [p] → (isL (S.put a (.lst (cs.map pD))) (.val (.ref a)) ∧ gAppend (.val (.ref a)) [pD p] (S.put a (.lst (cs.map pD))) (fun _ S' => nx [x, some (.val (.ref a)), some (pD p)] S') xp) := fun e => by
    refine ⟨isL_put, ev_append (by rw [List.length_map]; omega) ?_⟩
    rw [e, List.map_append] at k
    exact k
  unfold spanB
  try simp -implicitDefEqProofs only [dIfS_m, dExpr_m, dArgs_c, dArgs_n, dVar_m, mVar_s, dNext_m, dtAnd_m, dtVal_m, dOp_m, dPure_m, dCall_m, dtOr_m, dLst_m, mBl_b, oIx_t, at2_0, List.length_cons, List.length_nil, List.cons_append, List.nil_append, Nat.reduceAdd, Nat.reduceSub, List.getElem?_cons_zero, List.getElem?_cons_succ, List.set_cons_zero, List.set_cons_succ, Option.some.injEq, exists_eq_left', true_and, and_true, if_true, if_false, Bool.false_eq_true, Bool.true_eq_false, Bool.not_true, Bool.not_false, reduceIte, beq_self_eq_true, decide_true, Bool.or_false, Bool.or_true, Bool.false_or, Bool.true_or, dBm_m]
  refine lt_eq0 L (by omega) ?_
  match cs, hi, hf, L, go, k with
  | [], hi, hf, L, go, k =>
    try simp -implicitDefEqProofs only [dIfS_m, dExpr_m, dArgs_c, dArgs_n, dVar_m, mVar_s, dNext_m, dtAnd_m, dtVal_m, dOp_m, dPure_m, dCall_m, dtOr_m, dLst_m, mBl_b, oIx_t, at2_0, List.length_cons, List.length_nil, List.cons_append, List.nil_append, Nat.reduceAdd, Nat.reduceSub, List.getElem?_cons_zero, List.getElem?_cons_succ, List.set_cons_zero, List.set_cons_succ, Option.some.injEq, exists_eq_left', true_and, and_true, if_true, if_false, Bool.false_eq_true, Bool.true_eq_false, Bool.not_true, Bool.not_false, reduceIte, beq_self_eq_true, decide_true, Bool.or_false, Bool.or_true, Bool.false_or, Bool.true_or, List.isEmpty]
    exact go rfl
  | [c], hi, hf, L, go, k =>
    try simp -implicitDefEqProofs only [dIfS_m, dExpr_m, dArgs_c, dArgs_n, dVar_m, mVar_s, dNext_m, dtAnd_m, dtVal_m, dOp_m, dPure_m, dCall_m, dtOr_m, dLst_m, mBl_b, oIx_t, at2_0, List.length_cons, List.length_nil, List.cons_append, List.nil_append, Nat.reduceAdd, Nat.reduceSub, List.getElem?_cons_zero, List.getElem?_cons_succ, List.set_cons_zero, List.set_cons_succ, Option.some.injEq, exists_eq_left', true_and, and_true, if_true, if_false, Bool.false_eq_true, Bool.true_eq_false, Bool.not_true, Bool.not_false, reduceIte, beq_self_eq_true, decide_true, Bool.or_false, Bool.or_true, Bool.false_or, Bool.true_or, List.isEmpty]
    refine lt_len L ?_
    refine eqV_ii ?_
    try simp -implicitDefEqProofs only [dIfS_m, dExpr_m, dArgs_c, dArgs_n, dVar_m, mVar_s, dNext_m, dtAnd_m, dtVal_m, dOp_m, dPure_m, dCall_m, dtOr_m, dLst_m, mBl_b, oIx_t, at2_0, List.length_cons, List.length_nil, List.cons_append, List.nil_append, Nat.reduceAdd, Nat.reduceSub, List.getElem?_cons_zero, List.getElem?_cons_succ, List.set_cons_zero, List.set_cons_succ, Option.some.injEq, exists_eq_left', true_and, and_true, if_true, if_false, Bool.false_eq_true, Bool.true_eq_false, Bool.not_true, Bool.not_false, reduceIte, beq_self_eq_true, decide_true, Bool.or_false, Bool.or_true, Bool.false_or, Bool.true_or, List.length_map]
    rw [decide_eq_true (by decide)]
    try simp -implicitDefEqProofs only [dIfS_m, dExpr_m, dArgs_c, dArgs_n, dVar_m, mVar_s, dNext_m, dtAnd_m, dtVal_m, dOp_m, dPure_m, dCall_m, dtOr_m, dLst_m, mBl_b, oIx_t, at2_0, List.length_cons, List.length_nil, List.cons_append, List.nil_append, Nat.reduceAdd, Nat.reduceSub, List.getElem?_cons_zero, List.getElem?_cons_succ, List.set_cons_zero, List.set_cons_succ, Option.some.injEq, exists_eq_left', true_and, and_true, if_true, if_false, Bool.false_eq_true, Bool.true_eq_false, Bool.not_true, Bool.not_false, reduceIte, beq_self_eq_true, decide_true, Bool.or_false, Bool.or_true, Bool.false_or, Bool.true_or]
    refine lt_ix L (x := pD c) rfl ?_
    refine neV_pp ?_
    by_cases h : p = c
    · rw [decide_eq_true h]
      try simp -implicitDefEqProofs only [dIfS_m, dExpr_m, dArgs_c, dArgs_n, dVar_m, mVar_s, dNext_m, dtAnd_m, dtVal_m, dOp_m, dPure_m, dCall_m, dtOr_m, dLst_m, mBl_b, oIx_t, at2_0, List.length_cons, List.length_nil, List.cons_append, List.nil_append, Nat.reduceAdd, Nat.reduceSub, List.getElem?_cons_zero, List.getElem?_cons_succ, List.set_cons_zero, List.set_cons_succ, Option.some.injEq, exists_eq_left', true_and, and_true, if_true, if_false, Bool.false_eq_true, Bool.true_eq_false, Bool.not_true, Bool.not_false, reduceIte, beq_self_eq_true, decide_true, Bool.or_false, Bool.or_true, Bool.false_or, Bool.true_or]
      refine lt_len L ?_
      refine eqV_ii ?_
      try simp -implicitDefEqProofs only [dIfS_m, dExpr_m, dArgs_c, dArgs_n, dVar_m, mVar_s, dNext_m, dtAnd_m, dtVal_m, dOp_m, dPure_m, dCall_m, dtOr_m, dLst_m, mBl_b, oIx_t, at2_0, List.length_cons, List.length_nil, List.cons_append, List.nil_append, Nat.reduceAdd, Nat.reduceSub, List.getElem?_cons_zero, List.getElem?_cons_succ, List.set_cons_zero, List.set_cons_succ, Option.some.injEq, exists_eq_left', true_and, and_true, if_true, if_false, Bool.false_eq_true, Bool.true_eq_false, Bool.not_true, Bool.not_false, reduceIte, beq_self_eq_true, decide_true, Bool.or_false, Bool.or_true, Bool.false_or, Bool.true_or, List.length_map]
      rw [decide_eq_false (by decide)]
      try simp -implicitDefEqProofs only [dIfS_m, dExpr_m, dArgs_c, dArgs_n, dVar_m, mVar_s, dNext_m, dtAnd_m, dtVal_m, dOp_m, dPure_m, dCall_m, dtOr_m, dLst_m, mBl_b, oIx_t, at2_0, List.length_cons, List.length_nil, List.cons_append, List.nil_append, Nat.reduceAdd, Nat.reduceSub, List.getElem?_cons_zero, List.getElem?_cons_succ, List.set_cons_zero, List.set_cons_succ, Option.some.injEq, exists_eq_left', true_and, and_true, if_true, if_false, Bool.false_eq_true, Bool.true_eq_false, Bool.not_true, Bool.not_false, reduceIte, beq_self_eq_true, decide_true, Bool.or_false, Bool.or_true, Bool.false_or, Bool.true_or]
      have e : addP [c] p = [c] := by simp [addP, reach, h]
      rw [e] at k
      exact k
    · rw [decide_eq_false h]
      try simp -implicitDefEqProofs only [dIfS_m, dExpr_m, dArgs_c, dArgs_n, dVar_m, mVar_s, dNext_m, dtAnd_m, dtVal_m, dOp_m, dPure_m, dCall_m, dtOr_m, dLst_m, mBl_b, oIx_t, at2_0, List.length_cons, List.length_nil, List.cons_append, List.nil_append, Nat.reduceAdd, Nat.reduceSub, List.getElem?_cons_zero, List.getElem?_cons_succ, List.set_cons_zero, List.set_cons_succ, Option.some.injEq, exists_eq_left', true_and, and_true, if_true, if_false, Bool.false_eq_true, Bool.true_eq_false, Bool.not_true, Bool.not_false, reduceIte, beq_self_eq_true, decide_true, Bool.or_false, Bool.or_true, Bool.false_or, Bool.true_or]
      exact go (by simp [addP, reach, h])
  | [s, e], hi, hf, L, go, k =>
    try simp -implicitDefEqProofs only [dIfS_m, dExpr_m, dArgs_c, dArgs_n, dVar_m, mVar_s, dNext_m, dtAnd_m, dtVal_m, dOp_m, dPure_m, dCall_m, dtOr_m, dLst_m, mBl_b, oIx_t, at2_0, List.length_cons, List.length_nil, List.cons_append, List.nil_append, Nat.reduceAdd, Nat.reduceSub, List.getElem?_cons_zero, List.getElem?_cons_succ, List.set_cons_zero, List.set_cons_succ, Option.some.injEq, exists_eq_left', true_and, and_true, if_true, if_false, Bool.false_eq_true, Bool.true_eq_false, Bool.not_true, Bool.not_false, reduceIte, beq_self_eq_true, decide_true, Bool.or_false, Bool.or_true, Bool.false_or, Bool.true_or, List.isEmpty]
    refine lt_len L ?_
    refine eqV_ii ?_
    try simp -implicitDefEqProofs only [dIfS_m, dExpr_m, dArgs_c, dArgs_n, dVar_m, mVar_s, dNext_m, dtAnd_m, dtVal_m, dOp_m, dPure_m, dCall_m, dtOr_m, dLst_m, mBl_b, oIx_t, at2_0, List.length_cons, List.length_nil, List.cons_append, List.nil_append, Nat.reduceAdd, Nat.reduceSub, List.getElem?_cons_zero, List.getElem?_cons_succ, List.set_cons_zero, List.set_cons_succ, Option.some.injEq, exists_eq_left', true_and, and_true, if_true, if_false, Bool.false_eq_true, Bool.true_eq_false, Bool.not_true, Bool.not_false, reduceIte, beq_self_eq_true, decide_true, Bool.or_false, Bool.or_true, Bool.false_or, Bool.true_or, List.length_map]
    rw [decide_eq_false (by decide)]
    try simp -implicitDefEqProofs only [dIfS_m, dExpr_m, dArgs_c, dArgs_n, dVar_m, mVar_s, dNext_m, dtAnd_m, dtVal_m, dOp_m, dPure_m, dCall_m, dtOr_m, dLst_m, mBl_b, oIx_t, at2_0, List.length_cons, List.length_nil, List.cons_append, List.nil_append, Nat.reduceAdd, Nat.reduceSub, List.getElem?_cons_zero, List.getElem?_cons_succ, List.set_cons_zero, List.set_cons_succ, Option.some.injEq, exists_eq_left', true_and, and_true, if_true, if_false, Bool.false_eq_true, Bool.true_eq_false, Bool.not_true, Bool.not_false, reduceIte, beq_self_eq_true, decide_true, Bool.or_false, Bool.or_true, Bool.false_or, Bool.true_or]
    refine lt_len L ?_
    refine eqV_ii ?_
    try simp -implicitDefEqProofs only [dIfS_m, dExpr_m, dArgs_c, dArgs_n, dVar_m, mVar_s, dNext_m, dtAnd_m, dtVal_m, dOp_m, dPure_m, dCall_m, dtOr_m, dLst_m, mBl_b, oIx_t, at2_0, List.length_cons, List.length_nil, List.cons_append, List.nil_append, Nat.reduceAdd, Nat.reduceSub, List.getElem?_cons_zero, List.getElem?_cons_succ, List.set_cons_zero, List.set_cons_succ, Option.some.injEq, exists_eq_left', true_and, and_true, if_true, if_false, Bool.false_eq_true, Bool.true_eq_false, Bool.not_true, Bool.not_false, reduceIte, beq_self_eq_true, decide_true, Bool.or_false, Bool.or_true, Bool.false_or, Bool.true_or, List.length_map]
    rw [decide_eq_true (by decide)]
    try simp -implicitDefEqProofs only [dIfS_m, dExpr_m, dArgs_c, dArgs_n, dVar_m, mVar_s, dNext_m, dtAnd_m, dtVal_m, dOp_m, dPure_m, dCall_m, dtOr_m, dLst_m, mBl_b, oIx_t, at2_0, List.length_cons, List.length_nil, List.cons_append, List.nil_append, Nat.reduceAdd, Nat.reduceSub, List.getElem?_cons_zero, List.getElem?_cons_succ, List.set_cons_zero, List.set_cons_succ, Option.some.injEq, exists_eq_left', true_and, and_true, if_true, if_false, Bool.false_eq_true, Bool.true_eq_false, Bool.not_true, Bool.not_false, reduceIte, beq_self_eq_true, decide_true, Bool.or_false, Bool.or_true, Bool.false_or, Bool.true_or]
    refine lt_ix L (x := pD s) rfl ?_
    refine lt_ix L (x := pD e) rfl ?_
    obtain ⟨hz, hp⟩ := hf rfl
    refine ev__law_turn (hz s (by simp)) (hz e (by simp)) hp (by decide) ?_
    try simp -implicitDefEqProofs only [dIfS_m, dExpr_m, dArgs_c, dArgs_n, dVar_m, mVar_s, dNext_m, dtAnd_m, dtVal_m, dOp_m, dPure_m, dCall_m, dtOr_m, dLst_m, mBl_b, oIx_t, at2_0, List.length_cons, List.length_nil, List.cons_append, List.nil_append, Nat.reduceAdd, Nat.reduceSub, List.getElem?_cons_zero, List.getElem?_cons_succ, List.set_cons_zero, List.set_cons_succ, Option.some.injEq, exists_eq_left', true_and, and_true, if_true, if_false, Bool.false_eq_true, Bool.true_eq_false, Bool.not_true, Bool.not_false, reduceIte, beq_self_eq_true, decide_true, Bool.or_false, Bool.or_true, Bool.false_or, Bool.true_or]
    refine neV_ii ?_
    rw [num0]
    by_cases h : cr s e p = 0
    · rw [decide_eq_true h]
      try simp -implicitDefEqProofs only [dIfS_m, dExpr_m, dArgs_c, dArgs_n, dVar_m, mVar_s, dNext_m, dtAnd_m, dtVal_m, dOp_m, dPure_m, dCall_m, dtOr_m, dLst_m, mBl_b, oIx_t, at2_0, List.length_cons, List.length_nil, List.cons_append, List.nil_append, Nat.reduceAdd, Nat.reduceSub, List.getElem?_cons_zero, List.getElem?_cons_succ, List.set_cons_zero, List.set_cons_succ, Option.some.injEq, exists_eq_left', true_and, and_true, if_true, if_false, Bool.false_eq_true, Bool.true_eq_false, Bool.not_true, Bool.not_false, reduceIte, beq_self_eq_true, decide_true, Bool.or_false, Bool.or_true, Bool.false_or, Bool.true_or]
      have e : addP [s, e] p = [s, e] := by simp [addP, reach, h]
      rw [e] at k
      exact k
    · rw [decide_eq_false h]
      try simp -implicitDefEqProofs only [dIfS_m, dExpr_m, dArgs_c, dArgs_n, dVar_m, mVar_s, dNext_m, dtAnd_m, dtVal_m, dOp_m, dPure_m, dCall_m, dtOr_m, dLst_m, mBl_b, oIx_t, at2_0, List.length_cons, List.length_nil, List.cons_append, List.nil_append, Nat.reduceAdd, Nat.reduceSub, List.getElem?_cons_zero, List.getElem?_cons_succ, List.set_cons_zero, List.set_cons_succ, Option.some.injEq, exists_eq_left', true_and, and_true, if_true, if_false, Bool.false_eq_true, Bool.true_eq_false, Bool.not_true, Bool.not_false, reduceIte, beq_self_eq_true, decide_true, Bool.or_false, Bool.or_true, Bool.false_or, Bool.true_or]
      exact go (by simp [addP, reach, h])
  | [s, e, t], hi, hf, L, go, k =>
    try simp -implicitDefEqProofs only [dIfS_m, dExpr_m, dArgs_c, dArgs_n, dVar_m, mVar_s, dNext_m, dtAnd_m, dtVal_m, dOp_m, dPure_m, dCall_m, dtOr_m, dLst_m, mBl_b, oIx_t, at2_0, List.length_cons, List.length_nil, List.cons_append, List.nil_append, Nat.reduceAdd, Nat.reduceSub, List.getElem?_cons_zero, List.getElem?_cons_succ, List.set_cons_zero, List.set_cons_succ, Option.some.injEq, exists_eq_left', true_and, and_true, if_true, if_false, Bool.false_eq_true, Bool.true_eq_false, Bool.not_true, Bool.not_false, reduceIte, beq_self_eq_true, decide_true, Bool.or_false, Bool.or_true, Bool.false_or, Bool.true_or, List.isEmpty]
    refine lt_len L ?_
    refine eqV_ii ?_
    try simp -implicitDefEqProofs only [dIfS_m, dExpr_m, dArgs_c, dArgs_n, dVar_m, mVar_s, dNext_m, dtAnd_m, dtVal_m, dOp_m, dPure_m, dCall_m, dtOr_m, dLst_m, mBl_b, oIx_t, at2_0, List.length_cons, List.length_nil, List.cons_append, List.nil_append, Nat.reduceAdd, Nat.reduceSub, List.getElem?_cons_zero, List.getElem?_cons_succ, List.set_cons_zero, List.set_cons_succ, Option.some.injEq, exists_eq_left', true_and, and_true, if_true, if_false, Bool.false_eq_true, Bool.true_eq_false, Bool.not_true, Bool.not_false, reduceIte, beq_self_eq_true, decide_true, Bool.or_false, Bool.or_true, Bool.false_or, Bool.true_or, List.length_map]
    rw [decide_eq_false (by decide)]
    try simp -implicitDefEqProofs only [dIfS_m, dExpr_m, dArgs_c, dArgs_n, dVar_m, mVar_s, dNext_m, dtAnd_m, dtVal_m, dOp_m, dPure_m, dCall_m, dtOr_m, dLst_m, mBl_b, oIx_t, at2_0, List.length_cons, List.length_nil, List.cons_append, List.nil_append, Nat.reduceAdd, Nat.reduceSub, List.getElem?_cons_zero, List.getElem?_cons_succ, List.set_cons_zero, List.set_cons_succ, Option.some.injEq, exists_eq_left', true_and, and_true, if_true, if_false, Bool.false_eq_true, Bool.true_eq_false, Bool.not_true, Bool.not_false, reduceIte, beq_self_eq_true, decide_true, Bool.or_false, Bool.or_true, Bool.false_or, Bool.true_or]
    refine lt_len L ?_
    refine eqV_ii ?_
    try simp -implicitDefEqProofs only [dIfS_m, dExpr_m, dArgs_c, dArgs_n, dVar_m, mVar_s, dNext_m, dtAnd_m, dtVal_m, dOp_m, dPure_m, dCall_m, dtOr_m, dLst_m, mBl_b, oIx_t, at2_0, List.length_cons, List.length_nil, List.cons_append, List.nil_append, Nat.reduceAdd, Nat.reduceSub, List.getElem?_cons_zero, List.getElem?_cons_succ, List.set_cons_zero, List.set_cons_succ, Option.some.injEq, exists_eq_left', true_and, and_true, if_true, if_false, Bool.false_eq_true, Bool.true_eq_false, Bool.not_true, Bool.not_false, reduceIte, beq_self_eq_true, decide_true, Bool.or_false, Bool.or_true, Bool.false_or, Bool.true_or, List.length_map]
    rw [decide_eq_false (by decide)]
    try simp -implicitDefEqProofs only [dIfS_m, dExpr_m, dArgs_c, dArgs_n, dVar_m, mVar_s, dNext_m, dtAnd_m, dtVal_m, dOp_m, dPure_m, dCall_m, dtOr_m, dLst_m, mBl_b, oIx_t, at2_0, List.length_cons, List.length_nil, List.cons_append, List.nil_append, Nat.reduceAdd, Nat.reduceSub, List.getElem?_cons_zero, List.getElem?_cons_succ, List.set_cons_zero, List.set_cons_succ, Option.some.injEq, exists_eq_left', true_and, and_true, if_true, if_false, Bool.false_eq_true, Bool.true_eq_false, Bool.not_true, Bool.not_false, reduceIte, beq_self_eq_true, decide_true, Bool.or_false, Bool.or_true, Bool.false_or, Bool.true_or]
    exact k
  | _ :: _ :: _ :: _ :: _, hi, hf, L, go, k => exact absurd hi.len (by simp)
theorem span_loop {a : Addr} {x : Option D} {nx bk ct : Lc → Sto → Prop} {rt : D → Sto → Prop} : ∀ (ps cs : List Pt) (w : Option D), Ind cs → Gd cs ps → (∀ w', nx [x, some (.val (.ref a)), w'] (S.put a (.lst ((ps.foldl addP cs).map pD)))) → wFor (.nm 2) (spanB K) (ps.map pD) [x, some (.val (.ref a)), w] (S.put a (.lst (cs.map pD))) ⟨nx, rt, bk, ct, xp⟩
  | [], cs, w, _, _, h => by rw [List.map_nil, wFor_n]; exact h w
  | p :: ps, cs, w, hi, hg, h => by
    rw [List.map_cons, wFor_c, bT_nm]
    refine span_step hi hg.1 ?_
    exact span_loop ps (addP cs p) (some (pD p)) (hi.add p) hg.2 h
theorem ev__law_span {ps : List Pt} (hp : Gd [] ps) (k : post (.lst ((ind ps).map pD)) S) : f__law_span K [.lst (ps.map pD)] S post xp := by
  unfold f__law_span u__law_span
  try simp -implicitDefEqProofs only [dDef_1_2, dSeq_m, dRet_m, dVar_m, dFor_m, cSeq_m, dSet_m, mVar_s, mSeq_l, dArgs_n, List.length_cons, List.length_nil, List.cons_append, List.nil_append, Nat.reduceAdd, Nat.reduceSub, List.getElem?_cons_zero, List.getElem?_cons_succ, List.set_cons_zero, List.set_cons_succ, Option.some.injEq, exists_eq_left', true_and, and_true, if_true, if_false, Bool.false_eq_true, Bool.true_eq_false, Bool.not_true, Bool.not_false, reduceIte, beq_self_eq_true, decide_true, Bool.or_false, Bool.or_true, Bool.false_or, Bool.true_or, dLstM_m]
  intro a ha
  refine span_loop ps [] none .zero hp (fun w' => ?_)
  try simp -implicitDefEqProofs only [dDef_1_2, dSeq_m, dRet_m, dVar_m, dFor_m, cSeq_m, dSet_m, mVar_s, mSeq_l, dArgs_n, List.length_cons, List.length_nil, List.cons_append, List.nil_append, Nat.reduceAdd, Nat.reduceSub, List.getElem?_cons_zero, List.getElem?_cons_succ, List.set_cons_zero, List.set_cons_succ, Option.some.injEq, exists_eq_left', true_and, and_true, if_true, if_false, Bool.false_eq_true, Bool.true_eq_false, Bool.not_true, Bool.not_false, reduceIte, beq_self_eq_true, decide_true, Bool.or_false, Bool.or_true, Bool.false_or, Bool.true_or, dFrz_m]
  exact frz_put ha k
theorem Gd_pre : ∀ {ps : List Pt} {cs : List Pt} {q : Pt}, Gd cs (ps ++ [q]) → Gd cs ps
  | [], _, _, _ => trivial
  | _ :: _, _, _, h => ⟨h.1, Gd_pre h.2⟩
theorem ev__law_within {ps : List Pt} {p : Pt} (hl : ps.length ≤ 900) (hg : Gd [] (ps ++ [p])) (k : post (.bl (reach (ind ps) p)) S) : f__law_within K [.lst (ps.map pD), pD p] S post xp := by
  unfold f__law_within u__law_within
  try simp -implicitDefEqProofs only [dDef_2_0, dRet_m, dAnd_m, dOp_m, dCall_m, dArgs_c, dArgs_n, dVar_m, mVar_s, dLst_m, gList_l, mAnd_f, mAnd_t, gLen_l, List.length_cons, List.length_nil, List.cons_append, List.nil_append, Nat.reduceAdd, Nat.reduceSub, List.getElem?_cons_zero, List.getElem?_cons_succ, List.set_cons_zero, List.set_cons_succ, Option.some.injEq, exists_eq_left', true_and, and_true, if_true, if_false, Bool.false_eq_true, Bool.true_eq_false, Bool.not_true, Bool.not_false, reduceIte, beq_self_eq_true, decide_true, Bool.or_false, Bool.or_true, Bool.false_or, Bool.true_or]
  refine lt_ne0 lt_l (by omega) ?_
  have W := within_iff ps p
  cases ps with
  | nil => try simp -implicitDefEqProofs only [dDef_2_0, dRet_m, dAnd_m, dOp_m, dCall_m, dArgs_c, dArgs_n, dVar_m, mVar_s, dLst_m, gList_l, mAnd_f, mAnd_t, gLen_l, List.length_cons, List.length_nil, List.cons_append, List.nil_append, Nat.reduceAdd, Nat.reduceSub, List.getElem?_cons_zero, List.getElem?_cons_succ, List.set_cons_zero, List.set_cons_succ, Option.some.injEq, exists_eq_left', true_and, and_true, if_true, if_false, Bool.false_eq_true, Bool.true_eq_false, Bool.not_true, Bool.not_false, reduceIte, beq_self_eq_true, decide_true, Bool.or_false, Bool.or_true, Bool.false_or, Bool.true_or, List.isEmpty]; exact k
  | cons q qs =>
    try simp -implicitDefEqProofs only [dDef_2_0, dRet_m, dAnd_m, dOp_m, dCall_m, dArgs_c, dArgs_n, dVar_m, mVar_s, dLst_m, gList_l, mAnd_f, mAnd_t, gLen_l, List.length_cons, List.length_nil, List.cons_append, List.nil_append, Nat.reduceAdd, Nat.reduceSub, List.getElem?_cons_zero, List.getElem?_cons_succ, List.set_cons_zero, List.set_cons_succ, Option.some.injEq, exists_eq_left', true_and, and_true, if_true, if_false, Bool.false_eq_true, Bool.true_eq_false, Bool.not_true, Bool.not_false, reduceIte, beq_self_eq_true, decide_true, Bool.or_false, Bool.or_true, Bool.false_or, Bool.true_or, List.isEmpty]
    refine oOr_l ?_
    rw [oAdd_ll]
    refine ⟨by simp at hl ⊢; omega, ?_⟩
    have e : (q :: qs).map pD ++ [pD p] = ((q :: qs) ++ [p]).map pD := by rw [List.map_append]; rfl
    rw [e]
    refine ev__law_span hg ?_
    · try simp -implicitDefEqProofs only [dDef_2_0, dRet_m, dAnd_m, dOp_m, dCall_m, dArgs_c, dArgs_n, dVar_m, mVar_s, dLst_m, gList_l, mAnd_f, mAnd_t, gLen_l, List.length_cons, List.length_nil, List.cons_append, List.nil_append, Nat.reduceAdd, Nat.reduceSub, List.getElem?_cons_zero, List.getElem?_cons_succ, List.set_cons_zero, List.set_cons_succ, Option.some.injEq, exists_eq_left', true_and, and_true, if_true, if_false, Bool.false_eq_true, Bool.true_eq_false, Bool.not_true, Bool.not_false, reduceIte, beq_self_eq_true, decide_true, Bool.or_false, Bool.or_true, Bool.false_or, Bool.true_or]
      refine ev__law_span (Gd_pre hg) ?_
      try simp -implicitDefEqProofs only [dDef_2_0, dRet_m, dAnd_m, dOp_m, dCall_m, dArgs_c, dArgs_n, dVar_m, mVar_s, dLst_m, gList_l, mAnd_f, mAnd_t, gLen_l, List.length_cons, List.length_nil, List.cons_append, List.nil_append, Nat.reduceAdd, Nat.reduceSub, List.getElem?_cons_zero, List.getElem?_cons_succ, List.set_cons_zero, List.set_cons_succ, Option.some.injEq, exists_eq_left', true_and, and_true, if_true, if_false, Bool.false_eq_true, Bool.true_eq_false, Bool.not_true, Bool.not_false, reduceIte, beq_self_eq_true, decide_true, Bool.or_false, Bool.or_true, Bool.false_or, Bool.true_or, List.length_map]
      refine eqV_ii ?_
      rw [← W] at k
      have e2 : decide (q :: qs ≠ []) = true := by simp
      rw [e2, Bool.true_and] at k
      have e3 : decide (((ind (q :: qs ++ [p])).length : Int) = ((ind (q :: qs)).length : Int)) = decide ((ind (q :: qs ++ [p])).length = (ind (q :: qs)).length) := by
        congr 1
        rw [eq_iff_iff]
        omega
      simp only [List.cons_append] at e3 k
      rw [e3]
      exact k
end Dw
set_option maxHeartbeats 60000
namespace Dw
open PySem PySem.Spec PyProof.Rows L2
variable {K : PySem.W.Frag} {S : Sto} {post : D → Sto → Prop} {xp : Xp} {b : Addr}
theorem lf_no {ds : List D} {j : Int} {R rest : DS} {nx bk ct : Lc → Sto → Prop} {rt : D → Sto → Prop} (h : ¬ ((ds.length : Nat) : Int) = j) (q : rest [some (.lst ds)] S ⟨nx, rt, bk, ct, xp⟩) : (dSeq (dIfS (dtVal (dOp oEq (dCall gLen [dVar 0]) (dPure (.int j)))) R dNext) rest) [some (.lst ds)] S ⟨nx, rt, bk, ct, xp⟩ := by
  try simp -implicitDefEqProofs only [dSeq_m, dIfS_m, dNext_m, dtVal_m, dOp_m, oEq_m, mBl_b, dPure_m, okEq_int, dCall_m, dArgs_c, dArgs_n, dVar_m, mVar_s, gLen_l, eqD_int, List.length_cons, List.length_nil, List.cons_append, List.nil_append, Nat.reduceAdd, Nat.reduceSub, List.getElem?_cons_zero, List.getElem?_cons_succ, List.set_cons_zero, List.set_cons_succ, Option.some.injEq, exists_eq_left', true_and, and_true, if_true, if_false, Bool.false_eq_true, Bool.true_eq_false, Bool.not_true, Bool.not_false, reduceIte, beq_self_eq_true, decide_true, Bool.or_false, Bool.or_true, Bool.false_or, Bool.true_or]
  rw [decide_eq_false h, if_neg Bool.false_ne_true]
  exact q
theorem lf_yes {ds : List D} {j : Int} {R : DE} {rest : DS} {nx bk ct : Lc → Sto → Prop} {rt : D → Sto → Prop} (h : ((ds.length : Nat) : Int) = j) (q : R [some (.lst ds)] S rt xp) : (dSeq (dIfS (dtVal (dOp oEq (dCall gLen [dVar 0]) (dPure (.int j)))) (dRet R) dNext) rest) [some (.lst ds)] S ⟨nx, rt, bk, ct, xp⟩ := by
  try simp -implicitDefEqProofs only [dSeq_m, dIfS_m, dRet_m, dNext_m, dtVal_m, dOp_m, oEq_m, mBl_b, dPure_m, okEq_int, dCall_m, dArgs_c, dArgs_n, dVar_m, mVar_s, gLen_l, eqD_int, List.length_cons, List.length_nil, List.cons_append, List.nil_append, Nat.reduceAdd, Nat.reduceSub, List.getElem?_cons_zero, List.getElem?_cons_succ, List.set_cons_zero, List.set_cons_succ, Option.some.injEq, exists_eq_left', true_and, and_true, if_true, if_false, Bool.false_eq_true, Bool.true_eq_false, Bool.not_true, Bool.not_false, reduceIte, beq_self_eq_true, decide_true, Bool.or_false, Bool.or_true, Bool.false_or, Bool.true_or]
  rw [decide_eq_true h, if_pos rfl]
  exact q
theorem ev__law_flat {ps : List Pt} (hl : ps.length ≤ 6) (hp : Gd [] ps) (k : post (flD K (ind ps)) S) : f__law_flat K [.lst (ps.map pD)] S post xp := by
  unfold f__law_flat u__law_flat
  rw [dDef_1_0]
  match ps, hl, hp, k with
  | [], hl, hp, k =>
    refine lf_yes rfl ?_
    try simp -implicitDefEqProofs only [dDef_1_0, dArgs_n, dArgs_c, dOp_m, dPure_m, dVar_m, mVar_s, oIx_l, at1_0, at2_1, at2_0, at3_2, at3_1, at3_0, at4_3, at4_2, at4_1, at4_0, dRet_m, List.length_cons, List.length_nil, List.cons_append, List.nil_append, Nat.reduceAdd, Nat.reduceSub, List.getElem?_cons_zero, List.getElem?_cons_succ, List.set_cons_zero, List.set_cons_succ, Option.some.injEq, exists_eq_left', true_and, and_true, if_true, if_false, Bool.false_eq_true, Bool.true_eq_false, Bool.not_true, Bool.not_false, reduceIte, beq_self_eq_true, decide_true, Bool.or_false, Bool.or_true, Bool.false_or, Bool.true_or, dNewS_m, List.map]
    exact ev_new_Flat (ps := []) (by decide) hp k
  | [p0], hl, hp, k =>
    refine lf_no (by simp) ?_
    refine lf_yes rfl ?_
    try simp -implicitDefEqProofs only [dDef_1_0, dArgs_n, dArgs_c, dOp_m, dPure_m, dVar_m, mVar_s, oIx_l, at1_0, at2_1, at2_0, at3_2, at3_1, at3_0, at4_3, at4_2, at4_1, at4_0, dRet_m, List.length_cons, List.length_nil, List.cons_append, List.nil_append, Nat.reduceAdd, Nat.reduceSub, List.getElem?_cons_zero, List.getElem?_cons_succ, List.set_cons_zero, List.set_cons_succ, Option.some.injEq, exists_eq_left', true_and, and_true, if_true, if_false, Bool.false_eq_true, Bool.true_eq_false, Bool.not_true, Bool.not_false, reduceIte, beq_self_eq_true, decide_true, Bool.or_false, Bool.or_true, Bool.false_or, Bool.true_or, dNewS_m, List.map]
    exact ev_new_Flat (ps := [p0]) (by simp) hp k
  | [p0, p1], hl, hp, k =>
    refine lf_no (by simp) ?_
    refine lf_no (by simp) ?_
    refine lf_yes rfl ?_
    try simp -implicitDefEqProofs only [dDef_1_0, dArgs_n, dArgs_c, dOp_m, dPure_m, dVar_m, mVar_s, oIx_l, at1_0, at2_1, at2_0, at3_2, at3_1, at3_0, at4_3, at4_2, at4_1, at4_0, dRet_m, List.length_cons, List.length_nil, List.cons_append, List.nil_append, Nat.reduceAdd, Nat.reduceSub, List.getElem?_cons_zero, List.getElem?_cons_succ, List.set_cons_zero, List.set_cons_succ, Option.some.injEq, exists_eq_left', true_and, and_true, if_true, if_false, Bool.false_eq_true, Bool.true_eq_false, Bool.not_true, Bool.not_false, reduceIte, beq_self_eq_true, decide_true, Bool.or_false, Bool.or_true, Bool.false_or, Bool.true_or, dNewS_m, List.map]
    exact ev_new_Flat (ps := [p0, p1]) (by simp) hp k
  | [p0, p1, p2], hl, hp, k =>
    refine lf_no (by simp) ?_
    refine lf_no (by simp) ?_
    refine lf_no (by simp) ?_
    refine lf_yes rfl ?_
    try simp -implicitDefEqProofs only [dDef_1_0, dArgs_n, dArgs_c, dOp_m, dPure_m, dVar_m, mVar_s, oIx_l, at1_0, at2_1, at2_0, at3_2, at3_1, at3_0, at4_3, at4_2, at4_1, at4_0, dRet_m, List.length_cons, List.length_nil, List.cons_append, List.nil_append, Nat.reduceAdd, Nat.reduceSub, List.getElem?_cons_zero, List.getElem?_cons_succ, List.set_cons_zero, List.set_cons_succ, Option.some.injEq, exists_eq_left', true_and, and_true, if_true, if_false, Bool.false_eq_true, Bool.true_eq_false, Bool.not_true, Bool.not_false, reduceIte, beq_self_eq_true, decide_true, Bool.or_false, Bool.or_true, Bool.false_or, Bool.true_or, dNewS_m, List.map]
    exact ev_new_Flat (ps := [p0, p1, p2]) (by simp) hp k
  | [p0, p1, p2, p3], hl, hp, k =>
    refine lf_no (by simp) ?_
    refine lf_no (by simp) ?_
    refine lf_no (by simp) ?_
    refine lf_no (by simp) ?_
    refine lf_yes rfl ?_
    try simp -implicitDefEqProofs only [dDef_1_0, dArgs_n, dArgs_c, dOp_m, dPure_m, dVar_m, mVar_s, oIx_l, at1_0, at2_1, at2_0, at3_2, at3_1, at3_0, at4_3, at4_2, at4_1, at4_0, dRet_m, List.length_cons, List.length_nil, List.cons_append, List.nil_append, Nat.reduceAdd, Nat.reduceSub, List.getElem?_cons_zero, List.getElem?_cons_succ, List.set_cons_zero, List.set_cons_succ, Option.some.injEq, exists_eq_left', true_and, and_true, if_true, if_false, Bool.false_eq_true, Bool.true_eq_false, Bool.not_true, Bool.not_false, reduceIte, beq_self_eq_true, decide_true, Bool.or_false, Bool.or_true, Bool.false_or, Bool.true_or, dNewS_m, List.map]
    exact ev_new_Flat (ps := [p0, p1, p2, p3]) (by simp) hp k
  | [p0, p1, p2, p3, p4], hl, hp, k =>
    refine lf_no (by simp) ?_
    refine lf_no (by simp) ?_
    refine lf_no (by simp) ?_
    refine lf_no (by simp) ?_
    refine lf_no (by simp) ?_
    refine lf_yes rfl ?_
    try simp -implicitDefEqProofs only [dDef_1_0, dArgs_n, dArgs_c, dOp_m, dPure_m, dVar_m, mVar_s, oIx_l, at1_0, at2_1, at2_0, at3_2, at3_1, at3_0, at4_3, at4_2, at4_1, at4_0, dRet_m, List.length_cons, List.length_nil, List.cons_append, List.nil_append, Nat.reduceAdd, Nat.reduceSub, List.getElem?_cons_zero, List.getElem?_cons_succ, List.set_cons_zero, List.set_cons_succ, Option.some.injEq, exists_eq_left', true_and, and_true, if_true, if_false, Bool.false_eq_true, Bool.true_eq_false, Bool.not_true, Bool.not_false, reduceIte, beq_self_eq_true, decide_true, Bool.or_false, Bool.or_true, Bool.false_or, Bool.true_or, dNewS_m, List.map]
    exact ⟨_, rfl, _, rfl, _, rfl, _, rfl, _, rfl, ev_new_Flat (ps := [p0, p1, p2, p3, p4]) (by simp) hp k⟩
  | [p0, p1, p2, p3, p4, p5], hl, hp, k =>
    refine lf_no (by simp) ?_
    refine lf_no (by simp) ?_
    refine lf_no (by simp) ?_
    refine lf_no (by simp) ?_
    refine lf_no (by simp) ?_
    refine lf_no (by simp) ?_
    try simp -implicitDefEqProofs only [dDef_1_0, dArgs_n, dArgs_c, dOp_m, dPure_m, dVar_m, mVar_s, oIx_l, at1_0, at2_1, at2_0, at3_2, at3_1, at3_0, at4_3, at4_2, at4_1, at4_0, dRet_m, List.length_cons, List.length_nil, List.cons_append, List.nil_append, Nat.reduceAdd, Nat.reduceSub, List.getElem?_cons_zero, List.getElem?_cons_succ, List.set_cons_zero, List.set_cons_succ, Option.some.injEq, exists_eq_left', true_and, and_true, if_true, if_false, Bool.false_eq_true, Bool.true_eq_false, Bool.not_true, Bool.not_false, reduceIte, beq_self_eq_true, decide_true, Bool.or_false, Bool.or_true, Bool.false_or, Bool.true_or, dNewS_m, List.map]
    exact ⟨_, rfl, _, rfl, _, rfl, _, rfl, _, rfl, _, rfl, ev_new_Flat (ps := [p0, p1, p2, p3, p4, p5]) (by simp) hp k⟩
  | _ :: _ :: _ :: _ :: _ :: _ :: _ :: _, hl, hp, k => simp at hl
theorem ev__law_is_whole {i : Int} (k : post (.bl true) S) : f__law_is_whole K [.int i] S post xp := by
  unfold f__law_is_whole u__law_is_whole
  try simp -implicitDefEqProofs only [dDef_1_0, dRet_m, dAnd_m, dNot_m, dCall_m, dArgs_c, dArgs_n, dPure_m, dVar_m, mVar_s, isi_int_bool, mBl_b, isi_int_int, mAnd_t, List.length_cons, List.length_nil, List.cons_append, List.nil_append, Nat.reduceAdd, Nat.reduceSub, List.getElem?_cons_zero, List.getElem?_cons_succ, List.set_cons_zero, List.set_cons_succ, Option.some.injEq, exists_eq_left', true_and, and_true, if_true, if_false, Bool.false_eq_true, Bool.true_eq_false, Bool.not_true, Bool.not_false, reduceIte, beq_self_eq_true, decide_true, Bool.or_false, Bool.or_true, Bool.false_or, Bool.true_or]
  exact k
theorem ev__law_is_fraction {x : Rat} (k : post (.bl true) S) : f__law_is_fraction K [fr x] S post xp := by
  unfold f__law_is_fraction u__law_is_fraction fr
  try simp -implicitDefEqProofs only [dDef_1_0, dSeq_m, dRet_m, dAnd_m, dOp_m, oEq_m, dPure_m, okEq_int, dCall_m, dArgs_c, dArgs_n, dVar_m, dIfS_m, dNext_m, dtOr_m, dtNot_m, dtVal_m, mVar_s, oIx_t, at2_1, at2_0, oGt_i, oNe_m, mBl_b, gLen_t, eqD_int, isi_tup_tuple, mAnd_t, List.length_cons, List.length_nil, List.cons_append, List.nil_append, Nat.reduceAdd, Nat.reduceSub, List.getElem?_cons_zero, List.getElem?_cons_succ, List.set_cons_zero, List.set_cons_succ, Option.some.injEq, exists_eq_left', true_and, and_true, if_true, if_false, Bool.false_eq_true, Bool.true_eq_false, Bool.not_true, Bool.not_false, reduceIte, beq_self_eq_true, decide_true, Bool.or_false, Bool.or_true, Bool.false_or, Bool.true_or]
  try (refine ⟨_, rfl, ?_⟩)
  try try simp -implicitDefEqProofs only [dDef_1_0, dSeq_m, dRet_m, dAnd_m, dOp_m, oEq_m, dPure_m, okEq_int, dCall_m, dArgs_c, dArgs_n, dVar_m, dIfS_m, dNext_m, dtOr_m, dtNot_m, dtVal_m, mVar_s, oIx_t, at2_1, at2_0, oGt_i, oNe_m, mBl_b, gLen_t, eqD_int, isi_tup_tuple, mAnd_t, List.length_cons, List.length_nil, List.cons_append, List.nil_append, Nat.reduceAdd, Nat.reduceSub, List.getElem?_cons_zero, List.getElem?_cons_succ, List.set_cons_zero, List.set_cons_succ, Option.some.injEq, exists_eq_left', true_and, and_true, if_true, if_false, Bool.false_eq_true, Bool.true_eq_false, Bool.not_true, Bool.not_false, reduceIte, beq_self_eq_true, decide_true, Bool.or_false, Bool.or_true, Bool.false_or, Bool.true_or]
  refine ev__law_is_whole ?_
  try try simp -implicitDefEqProofs only [dDef_1_0, dSeq_m, dRet_m, dAnd_m, dOp_m, oEq_m, dPure_m, okEq_int, dCall_m, dArgs_c, dArgs_n, dVar_m, dIfS_m, dNext_m, dtOr_m, dtNot_m, dtVal_m, mVar_s, oIx_t, at2_1, at2_0, oGt_i, oNe_m, mBl_b, gLen_t, eqD_int, isi_tup_tuple, mAnd_t, List.length_cons, List.length_nil, List.cons_append, List.nil_append, Nat.reduceAdd, Nat.reduceSub, List.getElem?_cons_zero, List.getElem?_cons_succ, List.set_cons_zero, List.set_cons_succ, Option.some.injEq, exists_eq_left', true_and, and_true, if_true, if_false, Bool.false_eq_true, Bool.true_eq_false, Bool.not_true, Bool.not_false, reduceIte, beq_self_eq_true, decide_true, Bool.or_false, Bool.or_true, Bool.false_or, Bool.true_or]
  refine ev__law_is_whole ?_
  try try simp -implicitDefEqProofs only [dDef_1_0, dSeq_m, dRet_m, dAnd_m, dOp_m, oEq_m, dPure_m, okEq_int, dCall_m, dArgs_c, dArgs_n, dVar_m, dIfS_m, dNext_m, dtOr_m, dtNot_m, dtVal_m, mVar_s, oIx_t, at2_1, at2_0, oGt_i, oNe_m, mBl_b, gLen_t, eqD_int, isi_tup_tuple, mAnd_t, List.length_cons, List.length_nil, List.cons_append, List.nil_append, Nat.reduceAdd, Nat.reduceSub, List.getElem?_cons_zero, List.getElem?_cons_succ, List.set_cons_zero, List.set_cons_succ, Option.some.injEq, exists_eq_left', true_and, and_true, if_true, if_false, Bool.false_eq_true, Bool.true_eq_false, Bool.not_true, Bool.not_false, reduceIte, beq_self_eq_true, decide_true, Bool.or_false, Bool.or_true, Bool.false_or, Bool.true_or]
  rw [den_int_pos]
  try try simp -implicitDefEqProofs only [dDef_1_0, dSeq_m, dRet_m, dAnd_m, dOp_m, oEq_m, dPure_m, okEq_int, dCall_m, dArgs_c, dArgs_n, dVar_m, dIfS_m, dNext_m, dtOr_m, dtNot_m, dtVal_m, mVar_s, oIx_t, at2_1, at2_0, oGt_i, oNe_m, mBl_b, gLen_t, eqD_int, isi_tup_tuple, mAnd_t, List.length_cons, List.length_nil, List.cons_append, List.nil_append, Nat.reduceAdd, Nat.reduceSub, List.getElem?_cons_zero, List.getElem?_cons_succ, List.set_cons_zero, List.set_cons_succ, Option.some.injEq, exists_eq_left', true_and, and_true, if_true, if_false, Bool.false_eq_true, Bool.true_eq_false, Bool.not_true, Bool.not_false, reduceIte, beq_self_eq_true, decide_true, Bool.or_false, Bool.or_true, Bool.false_or, Bool.true_or]
  refine ev__law_common ?_
  try try simp -implicitDefEqProofs only [dDef_1_0, dSeq_m, dRet_m, dAnd_m, dOp_m, oEq_m, dPure_m, okEq_int, dCall_m, dArgs_c, dArgs_n, dVar_m, dIfS_m, dNext_m, dtOr_m, dtNot_m, dtVal_m, mVar_s, oIx_t, at2_1, at2_0, oGt_i, oNe_m, mBl_b, gLen_t, eqD_int, isi_tup_tuple, mAnd_t, List.length_cons, List.length_nil, List.cons_append, List.nil_append, Nat.reduceAdd, Nat.reduceSub, List.getElem?_cons_zero, List.getElem?_cons_succ, List.set_cons_zero, List.set_cons_succ, Option.some.injEq, exists_eq_left', true_and, and_true, if_true, if_false, Bool.false_eq_true, Bool.true_eq_false, Bool.not_true, Bool.not_false, reduceIte, beq_self_eq_true, decide_true, Bool.or_false, Bool.or_true, Bool.false_or, Bool.true_or]
  rw [fr_gcd]
  try try simp -implicitDefEqProofs only [dDef_1_0, dSeq_m, dRet_m, dAnd_m, dOp_m, oEq_m, dPure_m, okEq_int, dCall_m, dArgs_c, dArgs_n, dVar_m, dIfS_m, dNext_m, dtOr_m, dtNot_m, dtVal_m, mVar_s, oIx_t, at2_1, at2_0, oGt_i, oNe_m, mBl_b, gLen_t, eqD_int, isi_tup_tuple, mAnd_t, List.length_cons, List.length_nil, List.cons_append, List.nil_append, Nat.reduceAdd, Nat.reduceSub, List.getElem?_cons_zero, List.getElem?_cons_succ, List.set_cons_zero, List.set_cons_succ, Option.some.injEq, exists_eq_left', true_and, and_true, if_true, if_false, Bool.false_eq_true, Bool.true_eq_false, Bool.not_true, Bool.not_false, reduceIte, beq_self_eq_true, decide_true, Bool.or_false, Bool.or_true, Bool.false_or, Bool.true_or]
  exact k
theorem ev__law_is_spot {x y : Rat} (k : post (.bl true) S) : f__law_is_spot K [sp x y] S post xp := by
  unfold f__law_is_spot u__law_is_spot sp
  try simp -implicitDefEqProofs only [dDef_1_0, dRet_m, dAnd_m, dCall_m, dArgs_c, dArgs_n, dOp_m, dPure_m, dVar_m, mVar_s, oIx_t, at2_1, at2_0, oEq_m, okEq_int, gLen_t, eqD_int, isi_tup_tuple, mAnd_t, List.length_cons, List.length_nil, List.cons_append, List.nil_append, Nat.reduceAdd, Nat.reduceSub, List.getElem?_cons_zero, List.getElem?_cons_succ, List.set_cons_zero, List.set_cons_succ, Option.some.injEq, exists_eq_left', true_and, and_true, if_true, if_false, Bool.false_eq_true, Bool.true_eq_false, Bool.not_true, Bool.not_false, reduceIte, beq_self_eq_true, decide_true, Bool.or_false, Bool.or_true, Bool.false_or, Bool.true_or]
  refine ev__law_is_fraction ?_
  try try simp -implicitDefEqProofs only [dDef_1_0, dRet_m, dAnd_m, dCall_m, dArgs_c, dArgs_n, dOp_m, dPure_m, dVar_m, mVar_s, oIx_t, at2_1, at2_0, oEq_m, okEq_int, gLen_t, eqD_int, isi_tup_tuple, mAnd_t, List.length_cons, List.length_nil, List.cons_append, List.nil_append, Nat.reduceAdd, Nat.reduceSub, List.getElem?_cons_zero, List.getElem?_cons_succ, List.set_cons_zero, List.set_cons_succ, Option.some.injEq, exists_eq_left', true_and, and_true, if_true, if_false, Bool.false_eq_true, Bool.true_eq_false, Bool.not_true, Bool.not_false, reduceIte, beq_self_eq_true, decide_true, Bool.or_false, Bool.or_true, Bool.false_or, Bool.true_or]
  exact ev__law_is_fraction k
end Dw
set_option maxHeartbeats 60000
namespace Dw
open PySem PySem.Spec PyProof.Rows L2
namespace Dr
open Px
def sg (p q : Int) : Int := if (decide (p < 0) || (decide (p = 0) && decide (q < 0))) = true then -(Nat.gcd p.natAbs q.natAbs : Nat) else (Nat.gcd p.natAbs q.natAbs : Nat)
def ax (x y : Rat) : Int := x.num * (y.den : Int)
def ay (x y : Rat) : Int := y.num * (x.den : Int)
theorem gcd0 {p q : Int} (h : (p, q) ≠ (0, 0)) : ((Nat.gcd p.natAbs q.natAbs : Nat) : Int) ≠ 0 := fun z => by
  have z' : Nat.gcd p.natAbs q.natAbs = 0 := by omega
  obtain ⟨a, b⟩ := Nat.gcd_eq_zero_iff.mp z'
  exact h (by rw [show p = 0 by omega, show q = 0 by omega])
theorem gcd_szm {n : Nat} {p q : Int} (hp : Sz n p) (hq : Sz n q) (h : (p, q) ≠ (0, 0)) : Sz n (Nat.gcd p.natAbs q.natAbs : Nat) := by
  by_cases z : q = 0
  · subst z
    have hp0 : p ≠ 0 := fun e => h (by rw [e])
    rw [Nat.gcd_comm]
    exact gcd_sz hp hp0
  · exact gcd_sz hq z
def Prim (d e : Int) : Prop := Nat.gcd d.natAbs e.natAbs = 1 ∧ (0 < d ∨ (d = 0 ∧ 0 < e))
theorem sg_abs (p q : Int) : (sg p q).natAbs = Nat.gcd p.natAbs q.natAbs := by
  unfold sg
  split
  · rw [Int.natAbs_neg, Int.natAbs_natCast]
  · rw [Int.natAbs_natCast]
theorem sg_ne {p q : Int} (h : (p, q) ≠ (0, 0)) : sg p q ≠ 0 := fun z => by
  have e := sg_abs p q
  rw [z] at e
  exact gcd0 h (by rw [← e]; rfl)
theorem sg_dvd1 (p q : Int) : sg p q ∣ p := Int.natAbs_dvd_natAbs.mp (by rw [sg_abs]; exact Nat.gcd_dvd_left _ _)
theorem sg_dvd2 (p q : Int) : sg p q ∣ q := Int.natAbs_dvd_natAbs.mp (by rw [sg_abs]; exact Nat.gcd_dvd_right _ _)
def d0 (x y : Rat) : Int := (ax x y).fdiv (sg (ax x y) (ay x y))
def d1 (x y : Rat) : Int := (ay x y).fdiv (sg (ax x y) (ay x y))
theorem fd_mul {a b : Int} (h : b ∣ a) : b * a.fdiv b = a := by
  rw [Int.fdiv_eq_ediv_of_dvd h]
  exact Int.mul_ediv_cancel' h
theorem prim_of {p q : Int} (h : (p, q) ≠ (0, 0)) : Prim (p.fdiv (sg p q)) (q.fdiv (sg p q)) := by
  have e1 := fd_mul (sg_dvd1 p q)
  have e2 := fd_mul (sg_dvd2 p q)
  have n0 := sg_ne h
  generalize p.fdiv (sg p q) = d at *
  generalize q.fdiv (sg p q) = e at *
  have g0 : 0 < Nat.gcd p.natAbs q.natAbs := by
    have := gcd0 h
    omega
  constructor
  · have a1 : Nat.gcd p.natAbs q.natAbs * d.natAbs = p.natAbs := by rw [← sg_abs, ← Int.natAbs_mul, e1]
    have a2 : Nat.gcd p.natAbs q.natAbs * e.natAbs = q.natAbs := by rw [← sg_abs, ← Int.natAbs_mul, e2]
    have k := Nat.gcd_mul_left (Nat.gcd p.natAbs q.natAbs) d.natAbs e.natAbs
    rw [a1, a2] at k
    exact Nat.eq_of_mul_eq_mul_left g0 (by omega)
  · have hs : sg p q < 0 ∧ (p < 0 ∨ (p = 0 ∧ q < 0)) ∨ 0 < sg p q ∧ ¬ (p < 0 ∨ (p = 0 ∧ q < 0)) := by
      unfold sg
      by_cases c : p < 0 ∨ (p = 0 ∧ q < 0)
      · left
        rw [if_pos (by simpa using c)]
        exact ⟨by omega, c⟩
      · right
        rw [if_neg (by simpa using c)]
        exact ⟨by omega, c⟩
    rcases hs with ⟨s0, c⟩ | ⟨s0, c⟩
    · rcases c with c | ⟨c, c2⟩
      · left
        rcases Int.lt_trichotomy d 0 with z | z | z
        · have := Int.mul_pos_of_neg_of_neg s0 z
          omega
        · rw [z, Int.mul_zero] at e1
          omega
        · exact z
      · right
        have dz : d = 0 := by
          rcases Int.mul_eq_zero.mp (e1.trans c) with z | z
          · exact absurd z n0
          · exact z
        refine ⟨dz, ?_⟩
        rcases Int.lt_trichotomy e 0 with z | z | z
        · have := Int.mul_pos_of_neg_of_neg s0 z
          omega
        · rw [z, Int.mul_zero] at e2
          omega
        · exact z
    · rcases Int.lt_trichotomy d 0 with z | z | z
      · have := Int.mul_neg_of_pos_of_neg s0 z
        omega
      · right
        refine ⟨z, ?_⟩
        rw [z, Int.mul_zero] at e1
        have q0 : q ≠ 0 := fun z2 => h (by rw [← e1, z2])
        rcases Int.lt_trichotomy e 0 with y | y | y
        · have := Int.mul_neg_of_pos_of_neg s0 y
          omega
        · rw [y, Int.mul_zero] at e2
          omega
        · exact y
      · left
        exact z
theorem prim_uniq {d e d' e' : Int} (h : Prim d e) (h' : Prim d' e') (k : d * e' = e * d') : d = d' ∧ e = e' := by
  have a1 : d.natAbs ∣ d'.natAbs := by
    have : d.natAbs ∣ e.natAbs * d'.natAbs := by rw [← Int.natAbs_mul, ← k, Int.natAbs_mul]; exact Nat.dvd_mul_right _ _
    exact Nat.Coprime.dvd_of_dvd_mul_left h.1 this
  have a2 : d'.natAbs ∣ d.natAbs := by
    have : d'.natAbs ∣ e'.natAbs * d.natAbs := by
      rw [Nat.mul_comm, ← Int.natAbs_mul, k, Int.natAbs_mul]; exact Nat.dvd_mul_left _ _
    exact Nat.Coprime.dvd_of_dvd_mul_left h'.1 this
  have a3 := Nat.dvd_antisymm a1 a2
  have b1 : e.natAbs ∣ e'.natAbs := by
    have : e.natAbs ∣ d.natAbs * e'.natAbs := by rw [← Int.natAbs_mul, k, Int.natAbs_mul]; exact Nat.dvd_mul_right _ _
    exact Nat.Coprime.dvd_of_dvd_mul_left ((Nat.gcd_comm e.natAbs d.natAbs).trans h.1) this
  have b2 : e'.natAbs ∣ e.natAbs := by
    have : e'.natAbs ∣ d'.natAbs * e.natAbs := by
      rw [Nat.mul_comm, ← Int.natAbs_mul, ← k, Int.natAbs_mul]; exact Nat.dvd_mul_left _ _
    exact Nat.Coprime.dvd_of_dvd_mul_left ((Nat.gcd_comm e'.natAbs d'.natAbs).trans h'.1) this
  have b3 := Nat.dvd_antisymm b1 b2
  have s1 := h.2
  have s2 := h'.2
  have dd : d = d' := by omega
  refine ⟨dd, ?_⟩
  subst dd
  rcases s1 with s1 | ⟨s1, s3⟩
  · rw [Int.mul_comm e d] at k
    exact (Int.eq_of_mul_eq_mul_left (by omega) k).symm
  · omega
theorem num_rat (x : Rat) : ((x.num : Int) : Rat) = x * ((x.den : Int) : Rat) := by
  have e := Rat.num_divInt_den x
  rw [Rat.divInt_eq_div] at e
  have h : ((x.den : Int) : Rat) ≠ 0 := fun z => den_ne x (Rat.intCast_inj.mp z)
  generalize (x.num : Rat) = n at *
  generalize ((x.den : Int) : Rat) = d at *
  subst e
  grind
theorem den_rat (x : Rat) : ((x.den : Int) : Rat) ≠ 0 := fun z => den_ne x (Rat.intCast_inj.mp z)
/-- parallel, by whole numbers and by fractions -/
theorem par_iff {d e : Int} {x y : Rat} : d * ay x y = e * ax x y ↔ (d : Rat) * y = (e : Rat) * x := by
  rw [← Rat.intCast_inj, Rat.intCast_mul, Rat.intCast_mul]
  unfold ax ay
  rw [Rat.intCast_mul, Rat.intCast_mul, num_rat x, num_rat y]
  have h1 := den_rat x
  have h2 := den_rat y
  generalize ((x.den : Int) : Rat) = u at *
  generalize ((y.den : Int) : Rat) = v at *
  constructor
  · intro h
    have h3 : (u * v) * ((d : Rat) * y) = (u * v) * ((e : Rat) * x) := by grind
    have h4 : u * v ≠ 0 := by grind
    grind
  · intro h
    grind
theorem nz_iff {x y : Rat} : (ax x y, ay x y) ≠ (0, 0) ↔ ¬ (x = 0 ∧ y = 0) := by
  constructor
  · rintro h ⟨rfl, rfl⟩
    exact h rfl
  · intro h z
    have z1 : ax x y = 0 := congrArg Prod.fst z
    have z2 : ay x y = 0 := congrArg Prod.snd z
    refine h ⟨?_, ?_⟩
    · rcases Int.mul_eq_zero.mp z1 with a | a
      · exact Rat.num_eq_zero.mp a
      · exact absurd a (den_ne y)
    · rcases Int.mul_eq_zero.mp z2 with a | a
      · exact Rat.num_eq_zero.mp a
      · exact absurd a (den_ne x)
theorem dir_par {x y : Rat} : (d0 x y : Rat) * y = (d1 x y : Rat) * x := par_iff.mp (by
  have e1 := fd_mul (sg_dvd1 (ax x y) (ay x y))
  have e2 := fd_mul (sg_dvd2 (ax x y) (ay x y))
  unfold d0 d1
  generalize hs : sg (ax x y) (ay x y) = s at *
  generalize (ax x y).fdiv s = d at *
  generalize (ay x y).fdiv s = e at *
  rw [← e1, ← e2, Int.mul_left_comm d, Int.mul_left_comm e, Int.mul_comm d e])
theorem dir_prim {x y : Rat} (h : ¬ (x = 0 ∧ y = 0)) : Prim (d0 x y) (d1 x y) := prim_of (nz_iff.mpr h)
theorem dir_uniq {x y : Rat} {d e : Int} (h : ¬ (x = 0 ∧ y = 0)) (p : Prim d e) (k : (d : Rat) * y = (e : Rat) * x) : d0 x y = d ∧ d1 x y = e := by
  refine prim_uniq (dir_prim h) p ?_
  have a := @dir_par x y
  have b := k
  rw [← Rat.intCast_inj, Rat.intCast_mul, Rat.intCast_mul]
  generalize (d0 x y : Rat) = s at *
  generalize (d1 x y : Rat) = t at *
  generalize (d : Rat) = u at *
  generalize (e : Rat) = v at *
  by_cases hx : x = 0
  · have hy : y ≠ 0 := fun z => h ⟨hx, z⟩
    grind
  · grind
theorem fd_le {a b : Int} (h : b ∣ a) (h0 : b ≠ 0) : (a.fdiv b).natAbs ≤ a.natAbs := by
  have e := fd_mul h
  conv => rhs; rw [← e, Int.natAbs_mul]
  exact Nat.le_mul_of_pos_left _ (by omega)
theorem sz_dir {n : Nat} {x y : Rat} (hx : SzR n x) (hy : SzR n y) (h : ¬ (x = 0 ∧ y = 0)) : Sz (n + n) (d0 x y) ∧ Sz (n + n) (d1 x y) := by
  have s0 := sg_ne (nz_iff.mpr h)
  have za : Sz (n + n) (ax x y) := hx.1.mul hy.2
  have zb : Sz (n + n) (ay x y) := hy.1.mul hx.2
  exact ⟨Nat.lt_of_le_of_lt (fd_le (sg_dvd1 _ _) s0) za, Nat.lt_of_le_of_lt (fd_le (sg_dvd2 _ _) s0) zb⟩
end Dr
open Dr
variable {K : PySem.W.Frag} {S : Sto} {post : D → Sto → Prop} {xp : Xp} {b : Addr}
theorem ev_direction {x y : Rat} {n : Nat} (hx : Px.SzR n x) (hy : Px.SzR n y) (hn : n + n ≤ 9000) (h : ¬ (x = 0 ∧ y = 0)) (k : post (.tup [.int (d0 x y), .int (d1 x y)]) S) : f_direction K [sp x y] S post xp := by
  have h0 := nz_iff.mpr h
  have za : Px.Sz (n + n) (ax x y) := hx.1.mul hy.2
  have zb : Px.Sz (n + n) (ay x y) := hy.1.mul hx.2
  have zg := gcd_szm za zb h0
  have g0 := gcd0 h0
  have zs : Px.Sz (n + n) (sg (ax x y) (ay x y)) := by unfold Px.Sz; rw [sg_abs]; unfold Px.Sz at zg; rwa [Int.natAbs_natCast] at zg
  have s0 := sg_ne h0
  unfold f_direction u_direction sp fr
  try simp -implicitDefEqProofs only [dDef_1_3, dSeq_m, dRet_m, dTup_m, dArgs_c, dArgs_n, dOp_m, dVar_m, dIfS_m, dSet_m, dUn_m, dNext_m, dtOr_m, dtAnd_m, dtVal_m, dPure_m, oEq_m, mBl_b, okEq_int, dCall_m, mVar_s, oIx_t, at2_0, at2_1, oMul_i, oLt_i, eqD_int, gGcd_i, oNeg_i, oDiv_i, List.length_cons, List.length_nil, List.cons_append, List.nil_append, Nat.reduceAdd, Nat.reduceSub, List.getElem?_cons_zero, List.getElem?_cons_succ, List.set_cons_zero, List.set_cons_succ, Option.some.injEq, exists_eq_left', true_and, and_true, if_true, if_false, Bool.false_eq_true, Bool.true_eq_false, Bool.not_true, Bool.not_false, reduceIte, beq_self_eq_true, decide_true, Bool.or_false, Bool.or_true, Bool.false_or, Bool.true_or]
  refine ⟨Px.cmul hx.1 hy.2 (by omega), Px.cmul hy.1 hx.2 (by omega), ?_⟩
  rw [show x.num * (y.den : Int) = ax x y from rfl, show y.num * (x.den : Int) = ay x y from rfl]
  rw [decide_eq_false g0]
  try simp -implicitDefEqProofs only [dDef_1_3, dSeq_m, dRet_m, dTup_m, dArgs_c, dArgs_n, dOp_m, dVar_m, dIfS_m, dSet_m, dUn_m, dNext_m, dtOr_m, dtAnd_m, dtVal_m, dPure_m, oEq_m, mBl_b, okEq_int, dCall_m, mVar_s, oIx_t, at2_0, at2_1, oMul_i, oLt_i, eqD_int, gGcd_i, oNeg_i, oDiv_i, List.length_cons, List.length_nil, List.cons_append, List.nil_append, Nat.reduceAdd, Nat.reduceSub, List.getElem?_cons_zero, List.getElem?_cons_succ, List.set_cons_zero, List.set_cons_succ, Option.some.injEq, exists_eq_left', true_and, and_true, if_true, if_false, Bool.false_eq_true, Bool.true_eq_false, Bool.not_true, Bool.not_false, reduceIte, beq_self_eq_true, decide_true, Bool.or_false, Bool.or_true, Bool.false_or, Bool.true_or]
  have hq : Px.CDivU (ax x y) (sg (ax x y) (ay x y)) ∧ Px.CDivU (ay x y) (sg (ax x y) (ay x y)) ∧ post (.tup [.int (d0 x y), .int (d1 x y)]) S := ⟨Px.divU_of s0 zs hn, Px.divU_of s0 zs hn, k⟩
  unfold d0 d1 at hq
  unfold sg at hq
  rcases c1 : decide (ax x y < 0) with _ | _ <;> rcases c2 : decide (ax x y = 0) with _ | _ <;> rcases c3 : decide (ay x y < 0) with _ | _ <;> rw [c1, c2, c3] at hq <;> simp only [Bool.or_true, Bool.or_false, Bool.true_or, Bool.false_or, Bool.and_true, Bool.and_false, Bool.true_and, Bool.false_and, Bool.false_eq_true, if_true, if_false] at hq ⊢ <;> exact hq
def lA (s e : Pt) : Int := d0 (e.x - s.x) (e.y - s.y)
def lB (s e : Pt) : Int := d1 (e.x - s.x) (e.y - s.y)
def nA (s e : Pt) : Int := d0 ((lB s e : Int) : Rat) ((-(lA s e) : Int) : Rat)
def nB (s e : Pt) : Int := d1 ((lB s e : Int) : Rat) ((-(lA s e) : Int) : Rat)
def lW (s e : Pt) : Rat := ((nA s e : Int) : Rat) * s.x + ((nB s e : Int) : Rat) * s.y
def eqD2 : List Pt → D
  | [s, e] => .tup [.int (nA s e * ((lW s e).den : Int)), .int (nB s e * ((lW s e).den : Int)), .int (lW s e).num]
  | _ => .non
theorem pt_nz {s e : Pt} (h : e ≠ s) : ¬ (e.x - s.x = 0 ∧ e.y - s.y = 0) := fun z => h (Pt.ext' (by grind) (by grind))
theorem prim_nz {d e : Int} (h : Prim d e) : ¬ (d = 0 ∧ e = 0) := fun z => by
  have := h.1
  rw [z.1, z.2] at this
  simp at this
theorem lAB_nz {s e : Pt} (h : e ≠ s) : ¬ (((lB s e : Int) : Rat) = 0 ∧ ((-(lA s e) : Int) : Rat) = 0) := fun z => by
  refine prim_nz (dir_prim (pt_nz h)) ⟨?_, Rat.intCast_inj.mp z.1⟩
  have := Rat.intCast_inj.mp (z.2.trans rfl : ((-(lA s e) : Int) : Rat) = ((0 : Int) : Rat))
  show lA s e = 0
  omega
theorem on_line {s e p : Pt} (h : e ≠ s) (k : cr s e p = 0) : ((nA s e : Int) : Rat) * p.x + ((nB s e : Int) : Rat) * p.y = lW s e := by
  have h1 := pt_nz h
  have h2 : ((lA s e : Int) : Rat) * (e.y - s.y) = ((lB s e : Int) : Rat) * (e.x - s.x) := dir_par
  have h3 := lAB_nz h
  have h4 : ((nA s e : Int) : Rat) * ((-(lA s e) : Int) : Rat) = ((nB s e : Int) : Rat) * ((lB s e : Int) : Rat) := dir_par
  rw [Rat.intCast_neg] at h3 h4
  unfold lW
  unfold cr at k
  generalize ((nA s e : Int) : Rat) = A at *
  generalize ((nB s e : Int) : Rat) = B at *
  generalize ((lA s e : Int) : Rat) = a at *
  generalize ((lB s e : Int) : Rat) = c at *
  have k1 : c * (p.x - s.x) = a * (p.y - s.y) := by
    by_cases hx : e.x - s.x = 0
    · have hy : e.y - s.y ≠ 0 := fun z => h1 ⟨hx, z⟩
      grind
    · grind
  by_cases hc : c = 0
  · have ha : a ≠ 0 := fun z => h3 ⟨hc, by rw [z]; rfl⟩
    grind
  · grind
theorem sz_int {n : Nat} {d e : Int} (hd : Px.Sz n d) (he : Px.Sz n e) (h : ¬ (((d : Int) : Rat) = 0 ∧ ((e : Int) : Rat) = 0)) : Px.Sz n (d0 ((d : Int) : Rat) ((e : Int) : Rat)) ∧ Px.Sz n (d1 ((d : Int) : Rat) ((e : Int) : Rat)) := by
  have s0 := sg_ne (nz_iff.mpr h)
  have e1 : ax ((d : Int) : Rat) ((e : Int) : Rat) = d := by show d * 1 = d; omega
  have e2 : ay ((d : Int) : Rat) ((e : Int) : Rat) = e := by show e * 1 = e; omega
  have f1 := fd_le (sg_dvd1 (ax ((d : Int) : Rat) ((e : Int) : Rat)) (ay ((d : Int) : Rat) ((e : Int) : Rat))) s0
  have f2 := fd_le (sg_dvd2 (ax ((d : Int) : Rat) ((e : Int) : Rat)) (ay ((d : Int) : Rat) ((e : Int) : Rat))) s0
  refine ⟨Nat.lt_of_le_of_lt f1 ?_, Nat.lt_of_le_of_lt f2 ?_⟩
  · rw [e1]; exact hd
  · rw [e2]; exact he
theorem one_sz (n : Nat) (h : 0 < n) : Px.Sz n (1 : Int) := by unfold Px.Sz; exact Nat.one_lt_two_pow (by omega)
theorem line_sz {n : Nat} {s e : Pt} (h : e ≠ s) (hs : Zp n s) (he : Zp n e) : Px.Sz (4 * n + 2) (lA s e) ∧ Px.Sz (4 * n + 2) (lB s e) ∧ Px.Sz (4 * n + 2) (nA s e) ∧ Px.Sz (4 * n + 2) (nB s e) ∧ Px.SzR (10 * n + 5) (lW s e) := by
  have h1 := szp_sub (h := he) (k := hs)
  obtain ⟨z1, z2⟩ := sz_dir h1.x h1.y (pt_nz h)
  have z1 : Px.Sz (4 * n + 2) (lA s e) := Px.Sz.mono z1 (by omega)
  have z2 : Px.Sz (4 * n + 2) (lB s e) := Px.Sz.mono z2 (by omega)
  obtain ⟨z5, z6⟩ := sz_int z2 z1.neg (lAB_nz h)
  have y3 : SzC ((nA s e : Int) : Rat) (4 * n + 2) := ⟨⟨z5, one_sz _ (by omega)⟩⟩
  have y4 : SzC ((nB s e : Int) : Rat) (4 * n + 2) := ⟨⟨z6, one_sz _ (by omega)⟩⟩
  have := hs.cx; have := hs.cy
  exact ⟨z1, z2, z5, z6, (SzC.h (x := ((nA s e : Int) : Rat) * s.x + ((nB s e : Int) : Rat) * s.y)).mono (by omega)⟩
theorem ev__equation {n : Nat} {s e : Pt} (h : e ≠ s) (hs : Zp n s) (he : Zp n e) (hn : n ≤ 400) (k : post (eqD2 [s, e]) S) : f__equation K [pD s, pD e] S post xp := by
  have h1 := szp_sub (h := he) (k := hs)
  obtain ⟨z1, z2, z5, z6, zw⟩ := line_sz h hs he
  have z3 : Px.SzR (4 * n + 2) ((lB s e : Int) : Rat) := ⟨z2, one_sz _ (by omega)⟩
  have z4 : Px.SzR (4 * n + 2) ((-(lA s e) : Int) : Rat) := ⟨z1.neg, one_sz _ (by omega)⟩
  unfold f__equation u__equation
  try simp -implicitDefEqProofs only [dDef_2_6, dSeq_m, dRet_m, dTup_m, dArgs_c, dArgs_n, dVar_m, dOp_m, dUnp_m, dCall_m, dPure_m, dUn_m, mVar_s, mTup_t, setL_c, setL_n, oNeg_i, oIx_t, at2_1, at2_0, oMul_i, List.length_cons, List.length_nil, List.cons_append, List.nil_append, Nat.reduceAdd, Nat.reduceSub, List.getElem?_cons_zero, List.getElem?_cons_succ, List.set_cons_zero, List.set_cons_succ, Option.some.injEq, exists_eq_left', true_and, and_true, if_true, if_false, Bool.false_eq_true, Bool.true_eq_false, Bool.not_true, Bool.not_false, reduceIte, beq_self_eq_true, decide_true, Bool.or_false, Bool.or_true, Bool.false_or, Bool.true_or]
  refine ev_vector_minus (by omega) ?_
  refine ev_direction h1.x h1.y (by omega) (pt_nz h) ?_
  try simp -implicitDefEqProofs only [dDef_2_6, dSeq_m, dRet_m, dTup_m, dArgs_c, dArgs_n, dVar_m, dOp_m, dUnp_m, dCall_m, dPure_m, dUn_m, mVar_s, mTup_t, setL_c, setL_n, oNeg_i, oIx_t, at2_1, at2_0, oMul_i, List.length_cons, List.length_nil, List.cons_append, List.nil_append, Nat.reduceAdd, Nat.reduceSub, List.getElem?_cons_zero, List.getElem?_cons_succ, List.set_cons_zero, List.set_cons_succ, Option.some.injEq, exists_eq_left', true_and, and_true, if_true, if_false, Bool.false_eq_true, Bool.true_eq_false, Bool.not_true, Bool.not_false, reduceIte, beq_self_eq_true, decide_true, Bool.or_false, Bool.or_true, Bool.false_or, Bool.true_or]
  refine ev_direction (x := ((lB s e : Int) : Rat)) (y := ((-(lA s e) : Int) : Rat)) z3 z4 (by omega) (lAB_nz h) ?_
  try simp -implicitDefEqProofs only [dDef_2_6, dSeq_m, dRet_m, dTup_m, dArgs_c, dArgs_n, dVar_m, dOp_m, dUnp_m, dCall_m, dPure_m, dUn_m, mVar_s, mTup_t, setL_c, setL_n, oNeg_i, oIx_t, at2_1, at2_0, oMul_i, List.length_cons, List.length_nil, List.cons_append, List.nil_append, Nat.reduceAdd, Nat.reduceSub, List.getElem?_cons_zero, List.getElem?_cons_succ, List.set_cons_zero, List.set_cons_succ, Option.some.injEq, exists_eq_left', true_and, and_true, if_true, if_false, Bool.false_eq_true, Bool.true_eq_false, Bool.not_true, Bool.not_false, reduceIte, beq_self_eq_true, decide_true, Bool.or_false, Bool.or_true, Bool.false_or, Bool.true_or]
  have y3 : SzC ((nA s e : Int) : Rat) (4 * n + 2) := ⟨⟨z5, one_sz _ (by omega)⟩⟩
  have y4 : SzC ((nB s e : Int) : Rat) (4 * n + 2) := ⟨⟨z6, one_sz _ (by omega)⟩⟩
  have := hs.cx; have := hs.cy
  refine ev_times (x := ((nA s e : Int) : Rat)) (by omega) ?_
  refine ev_times (x := ((nB s e : Int) : Rat)) (by omega) ?_
  refine ev_plus (by omega) ?_
  rw [show ((nA s e : Int) : Rat) * s.x + ((nB s e : Int) : Rat) * s.y = lW s e from rfl]
  unfold fr
  try simp -implicitDefEqProofs only [dDef_2_6, dSeq_m, dRet_m, dTup_m, dArgs_c, dArgs_n, dVar_m, dOp_m, dUnp_m, dCall_m, dPure_m, dUn_m, mVar_s, mTup_t, setL_c, setL_n, oNeg_i, oIx_t, at2_1, at2_0, oMul_i, List.length_cons, List.length_nil, List.cons_append, List.nil_append, Nat.reduceAdd, Nat.reduceSub, List.getElem?_cons_zero, List.getElem?_cons_succ, List.set_cons_zero, List.set_cons_succ, Option.some.injEq, exists_eq_left', true_and, and_true, if_true, if_false, Bool.false_eq_true, Bool.true_eq_false, Bool.not_true, Bool.not_false, reduceIte, beq_self_eq_true, decide_true, Bool.or_false, Bool.or_true, Bool.false_or, Bool.true_or]
  refine ⟨Px.cmul z5 zw.2 (by omega), Px.cmul z6 zw.2 (by omega), ?_⟩
  exact k
theorem eqD2_no {cs : List Pt} (h : cs.length ≠ 2) : eqD2 cs = .non := by
  match cs, h with
  | [], _ => rfl
  | [_], _ => rfl
  | [_, _], h => exact absurd rfl h
  | _ :: _ :: _ :: _, _ => rfl
theorem ev_Flat_equation {n : Nat} {cs : List Pt} (hi : Ind cs) (hn : n ≤ 400) (hz : cs.length = 2 → ∀ c ∈ cs, Zp n c) (k : post (eqD2 cs) S) : f_Flat_equation K [flD K cs] S post xp := by
  unfold f_Flat_equation u_Flat_equation
  try simp -implicitDefEqProofs only [dDef_1_0, dSeq_m, dRet_m, dCall_m, dArgs_c, dArgs_n, dOp_m, dPure_m, dFld_eq, dVar_m, dIfS_m, dNext_m, mVar_s, dtVal_m, oNe_m, mBl_b, okEq_int, dProp_m, isOf0_i, eqD_int, List.length_cons, List.length_nil, List.cons_append, List.nil_append, Nat.reduceAdd, Nat.reduceSub, List.getElem?_cons_zero, List.getElem?_cons_succ, List.set_cons_zero, List.set_cons_succ, Option.some.injEq, exists_eq_left', true_and, and_true, if_true, if_false, Bool.false_eq_true, Bool.true_eq_false, Bool.not_true, Bool.not_false, reduceIte, beq_self_eq_true, decide_true, Bool.or_false, Bool.or_true, Bool.false_or, Bool.true_or]
  refine ev_size ?_
  try simp -implicitDefEqProofs only [dDef_1_0, dSeq_m, dRet_m, dCall_m, dArgs_c, dArgs_n, dOp_m, dPure_m, dFld_eq, dVar_m, dIfS_m, dNext_m, mVar_s, dtVal_m, oNe_m, mBl_b, okEq_int, dProp_m, isOf0_i, eqD_int, List.length_cons, List.length_nil, List.cons_append, List.nil_append, Nat.reduceAdd, Nat.reduceSub, List.getElem?_cons_zero, List.getElem?_cons_succ, List.set_cons_zero, List.set_cons_succ, Option.some.injEq, exists_eq_left', true_and, and_true, if_true, if_false, Bool.false_eq_true, Bool.true_eq_false, Bool.not_true, Bool.not_false, reduceIte, beq_self_eq_true, decide_true, Bool.or_false, Bool.or_true, Bool.false_or, Bool.true_or]
  by_cases h : cs.length = 2
  · rw [decide_eq_true (by omega)]
    try simp -implicitDefEqProofs only [dDef_1_0, dSeq_m, dRet_m, dCall_m, dArgs_c, dArgs_n, dOp_m, dPure_m, dFld_eq, dVar_m, dIfS_m, dNext_m, mVar_s, dtVal_m, oNe_m, mBl_b, okEq_int, dProp_m, isOf0_i, eqD_int, List.length_cons, List.length_nil, List.cons_append, List.nil_append, Nat.reduceAdd, Nat.reduceSub, List.getElem?_cons_zero, List.getElem?_cons_succ, List.set_cons_zero, List.set_cons_succ, Option.some.injEq, exists_eq_left', true_and, and_true, if_true, if_false, Bool.false_eq_true, Bool.true_eq_false, Bool.not_true, Bool.not_false, reduceIte, beq_self_eq_true, decide_true, Bool.or_false, Bool.or_true, Bool.false_or, Bool.true_or]
    refine ev_fld rfl ?_
    have hz := hz h
    cases hi with
    | zero => cases h
    | one c => cases h
    | two s e hne =>
      refine lt_ix lt_l (x := pD s) rfl ?_
      refine ev_fld rfl ?_
      refine lt_ix lt_l (x := pD e) rfl ?_
      exact ev__equation hne (hz s (by simp)) (hz e (by simp)) hn k
    | three s e t g => cases h
  · rw [decide_eq_false (by omega)]
    try simp -implicitDefEqProofs only [dDef_1_0, dSeq_m, dRet_m, dCall_m, dArgs_c, dArgs_n, dOp_m, dPure_m, dFld_eq, dVar_m, dIfS_m, dNext_m, mVar_s, dtVal_m, oNe_m, mBl_b, okEq_int, dProp_m, isOf0_i, eqD_int, List.length_cons, List.length_nil, List.cons_append, List.nil_append, Nat.reduceAdd, Nat.reduceSub, List.getElem?_cons_zero, List.getElem?_cons_succ, List.set_cons_zero, List.set_cons_succ, Option.some.injEq, exists_eq_left', true_and, and_true, if_true, if_false, Bool.false_eq_true, Bool.true_eq_false, Bool.not_true, Bool.not_false, reduceIte, beq_self_eq_true, decide_true, Bool.or_false, Bool.or_true, Bool.false_or, Bool.true_or]
    rw [eqD2_no h] at k
    exact k
/-- the equation is that of the line, not of its corners -/
theorem eqD2_line {s e s' e' : Pt} (h : e ≠ s) (h' : e' ≠ s') (hs : cr s e s' = 0) (he : cr s e e' = 0) : eqD2 [s', e'] = eqD2 [s, e] := by
  have a1 := on_line h hs
  have a2 := on_line h he
  have p : Prim (nA s e) (nB s e) := dir_prim (lAB_nz h)
  have h1 := pt_nz h'
  have h2 : ((lA s' e' : Int) : Rat) * (e'.y - s'.y) = ((lB s' e' : Int) : Rat) * (e'.x - s'.x) := dir_par
  have h3 := lAB_nz h'
  have k : ((nA s e : Int) : Rat) * ((-(lA s' e') : Int) : Rat) = ((nB s e : Int) : Rat) * ((lB s' e' : Int) : Rat) := by
    rw [Rat.intCast_neg] at h3 ⊢
    generalize ((nA s e : Int) : Rat) = A at *
    generalize ((nB s e : Int) : Rat) = B at *
    generalize ((lA s' e' : Int) : Rat) = a at *
    generalize ((lB s' e' : Int) : Rat) = c at *
    have k1 : A * (e'.x - s'.x) + B * (e'.y - s'.y) = 0 := by grind
    by_cases hx : e'.x - s'.x = 0
    · have hy : e'.y - s'.y ≠ 0 := fun z => h1 ⟨hx, z⟩
      grind
    · grind
  obtain ⟨u1, u2⟩ := dir_uniq h3 p k
  have v1 : nA s' e' = nA s e := u1
  have v2 : nB s' e' = nB s e := u2
  have w : lW s' e' = lW s e := by
    rw [← a1]
    unfold lW
    rw [v1, v2]
  show D.tup [_, _, _] = D.tup [_, _, _]
  rw [v1, v2, w]
end Dw
set_option maxHeartbeats 60000
namespace Dw
open PySem PySem.Spec PyProof.Rows L2
open Dr
theorem off_line {s e p : Pt} (h : e ≠ s) (k : ((nA s e : Int) : Rat) * p.x + ((nB s e : Int) : Rat) * p.y = lW s e) : cr s e p = 0 := by
  have q := on_line h (cr_e s e)
  have pr : Prim (nA s e) (nB s e) := dir_prim (lAB_nz h)
  have nz : ¬ (((nA s e : Int) : Rat) = 0 ∧ ((nB s e : Int) : Rat) = 0) := fun z => prim_nz pr ⟨Rat.intCast_inj.mp z.1, Rat.intCast_inj.mp z.2⟩
  unfold lW at q k
  unfold cr
  generalize ((nA s e : Int) : Rat) = A at *
  generalize ((nB s e : Int) : Rat) = B at *
  by_cases ha : A = 0
  · have hb : B ≠ 0 := fun z => nz ⟨ha, z⟩
    grind
  · grind
def dD (s e s' e' : Pt) : Int := nA s e * nB s' e' - nB s e * nA s' e'
/-- the numbers of a line -/
def eI (s e : Pt) : Int := nA s e * ((lW s e).den : Int)
def eJ (s e : Pt) : Int := nB s e * ((lW s e).den : Int)
def eK (s e : Pt) : Int := (lW s e).num
def eDet (s e s' e' : Pt) : Int := eI s e * eJ s' e' - eJ s e * eI s' e'
def crossP (s e s' e' : Pt) : Pt := ⟨Rat.divInt (eK s e * eJ s' e' - eJ s e * eK s' e') (eDet s e s' e'), Rat.divInt (eI s e * eK s' e' - eK s e * eI s' e') (eDet s e s' e')⟩
theorem den_ne0 (x : Rat) : (x.den : Int) ≠ 0 := by have := x.den_pos; omega
theorem eDet_eq (s e s' e' : Pt) : eDet s e s' e' = (((lW s e).den : Int) * ((lW s' e').den : Int)) * dD s e s' e' := by
  unfold eDet eI eJ dD
  grind
theorem eDet_zero {s e s' e' : Pt} : eDet s e s' e' = 0 ↔ dD s e s' e' = 0 := by
  rw [eDet_eq]
  constructor
  · intro h
    rcases Int.mul_eq_zero.mp h with z | z
    · rcases Int.mul_eq_zero.mp z with y | y
      · exact absurd y (den_ne0 _)
      · exact absurd y (den_ne0 _)
    · exact z
  · intro h; rw [h, Int.mul_zero]
theorem cross_xy {s e s' e' : Pt} (h : dD s e s' e' ≠ 0) : (dD s e s' e' : Rat) * (crossP s e s' e').x = lW s e * (nB s' e' : Rat) - (nB s e : Rat) * lW s' e' ∧ (dD s e s' e' : Rat) * (crossP s e s' e').y = (nA s e : Rat) * lW s' e' - lW s e * (nA s' e' : Rat) := by
  have n1 := num_rat (lW s e)
  have n2 := num_rat (lW s' e')
  have m1 := den_rat (lW s e)
  have m2 := den_rat (lW s' e')
  have hD : ((dD s e s' e' : Int) : Rat) ≠ 0 := fun z => h (Rat.intCast_inj.mp z)
  have hE : ((eDet s e s' e' : Int) : Rat) = (((lW s e).den : Int) : Rat) * (((lW s' e').den : Int) : Rat) * ((dD s e s' e' : Int) : Rat) := by rw [eDet_eq, Rat.intCast_mul, Rat.intCast_mul]
  unfold crossP
  simp only [Rat.divInt_eq_div, Rat.intCast_sub, Rat.intCast_mul]
  rw [hE]
  unfold eI eJ eK
  simp only [Rat.intCast_mul]
  rw [n1, n2]
  generalize ((dD s e s' e' : Int) : Rat) = D at *
  generalize (((lW s e).den : Int) : Rat) = u at *
  generalize (((lW s' e').den : Int) : Rat) = v at *
  generalize lW s e = w at *
  generalize lW s' e' = w' at *
  generalize ((nA s e : Int) : Rat) = A at *
  generalize ((nB s e : Int) : Rat) = B at *
  generalize ((nA s' e' : Int) : Rat) = A' at *
  generalize ((nB s' e' : Int) : Rat) = B' at *
  have huv : u * v * D ≠ 0 := by
    intro z
    rcases Rat.mul_eq_zero.mp z with y | y
    · rcases Rat.mul_eq_zero.mp y with x | x
      · exact m1 x
      · exact m2 x
    · exact hD y
  constructor
  · grind
  · grind
theorem cross_iff {s e s' e' p : Pt} (h : e ≠ s) (h' : e' ≠ s') (hd : dD s e s' e' ≠ 0) : (cr s e p = 0 ∧ cr s' e' p = 0) ↔ p = crossP s e s' e' := by
  obtain ⟨cx, cy⟩ := cross_xy hd
  have hD : ((dD s e s' e' : Int) : Rat) ≠ 0 := fun z => hd (Rat.intCast_inj.mp z)
  have eD : ((dD s e s' e' : Int) : Rat) = (nA s e : Rat) * (nB s' e' : Rat) - (nB s e : Rat) * (nA s' e' : Rat) := by unfold dD; rw [Rat.intCast_sub, Rat.intCast_mul, Rat.intCast_mul]
  constructor
  · rintro ⟨a, c⟩
    have l1 := on_line h a
    have l2 := on_line h' c
    refine Pt.ext' ?_ ?_
    · generalize (crossP s e s' e').x = x at *
      generalize ((dD s e s' e' : Int) : Rat) = D at *
      have : D * (p.x - x) = 0 := by grind
      rcases Rat.mul_eq_zero.mp this with z | z
      · exact absurd z hD
      · grind
    · generalize (crossP s e s' e').y = y at *
      generalize ((dD s e s' e' : Int) : Rat) = D at *
      have : D * (p.y - y) = 0 := by grind
      rcases Rat.mul_eq_zero.mp this with z | z
      · exact absurd z hD
      · grind
  · rintro rfl
    refine ⟨off_line h ?_, off_line h' ?_⟩
    · generalize (crossP s e s' e').x = x at *
      generalize (crossP s e s' e').y = y at *
      generalize ((dD s e s' e' : Int) : Rat) = D at *
      generalize lW s e = w at *
      generalize lW s' e' = w' at *
      generalize ((nA s e : Int) : Rat) = A at *
      generalize ((nB s e : Int) : Rat) = B at *
      generalize ((nA s' e' : Int) : Rat) = A' at *
      generalize ((nB s' e' : Int) : Rat) = B' at *
      have : D * (A * x + B * y - w) = 0 := by grind
      rcases Rat.mul_eq_zero.mp this with z | z
      · exact absurd z hD
      · grind
    · generalize (crossP s e s' e').x = x at *
      generalize (crossP s e s' e').y = y at *
      generalize ((dD s e s' e' : Int) : Rat) = D at *
      generalize lW s e = w at *
      generalize lW s' e' = w' at *
      generalize ((nA s e : Int) : Rat) = A at *
      generalize ((nB s e : Int) : Rat) = B at *
      generalize ((nA s' e' : Int) : Rat) = A' at *
      generalize ((nB s' e' : Int) : Rat) = B' at *
      have : D * (A' * x + B' * y - w') = 0 := by grind
      rcases Rat.mul_eq_zero.mp this with z | z
      · exact absurd z hD
      · grind
/-- lines of the same slant with a spot in common are the same -/
theorem slant {s e s' e' p : Pt} (h : e ≠ s) (h' : e' ≠ s') (hd : dD s e s' e' = 0) (a : cr s e p = 0) (c : cr s' e' p = 0) {q : Pt} (hq : cr s e q = 0) : cr s' e' q = 0 := by
  have p1 : Prim (nA s e) (nB s e) := dir_prim (lAB_nz h)
  have p2 : Prim (nA s' e') (nB s' e') := dir_prim (lAB_nz h')
  obtain ⟨u1, u2⟩ := prim_uniq p1 p2 (by unfold dD at hd; omega)
  have l1 := on_line h a
  have l2 := on_line h' c
  have l3 := on_line h hq
  refine off_line h' ?_
  rw [← u1, ← u2] at l2 ⊢
  rw [l3, ← l1, l2]
def crossC : List Pt → List Pt → List Pt
  | [s, e], [s', e'] => if dD s e s' e' = 0 then [] else [crossP s e s' e']
  | _, _ => []
def meet1 (A B : List Pt) : List Pt := if (A.all fun q => reach B q) = true then A else if A.length < 2 then [] else crossC A B
def meetC (A B : List Pt) : List Pt := if B.length < A.length then meet1 B A else meet1 A B
theorem meet1_Ind {A B : List Pt} (hA : Ind A) : Ind (meet1 A B) := by
  unfold meet1
  split
  · exact hA
  · split
    · exact .zero
    · unfold crossC
      split
      · split
        · exact .zero
        · exact .one _
      · exact .zero
theorem meetC_Ind {A B : List Pt} (hA : Ind A) (hB : Ind B) : Ind (meetC A B) := by
  unfold meetC
  split
  · exact meet1_Ind hB
  · exact meet1_Ind hA
theorem meet1_reach {A B : List Pt} (hA : Ind A) (hB : Ind B) (hl : A.length ≤ B.length) (p : Pt) : reach (meet1 A B) p = (reach A p && reach B p) := by
  unfold meet1
  by_cases h : (A.all fun q => reach B q) = true
  · rw [if_pos h]
    rw [List.all_eq_true] at h
    rcases ha : reach A p with _ | _
    · rfl
    · rw [reach_in hB hA h ha]; rfl
  · rw [if_neg h]
    have h3 : B.length ≠ 3 := fun z => h (by
      rw [List.all_eq_true]
      intro q _
      cases hB with
      | three s e t g => rfl
      | _ => simp at z)
    cases hA with
    | zero => exact absurd rfl h
    | one c =>
      rw [if_pos (by simp)]
      simp only [List.all_cons, List.all_nil, Bool.and_true] at h
      show false = _
      by_cases e : p = c
      · subst e; simp [h]
      · unfold reach; simp [e]
    | two s e hne =>
      rw [if_neg (by simp)]
      cases hB with
      | zero => simp at hl
      | one c => simp at hl
      | three s e t g => exact absurd rfl h3
      | two s' e' hne' =>
        unfold crossC
        simp only
        by_cases d : dD s e s' e' = 0
        · rw [if_pos d]
          show false = _
          rcases ha : reach [s, e] p with _ | _
          · rfl
          · rcases hb : reach [s', e'] p with _ | _
            · rfl
            · exfalso
              unfold reach at ha hb
              simp only [decide_eq_true_eq] at ha hb
              refine h ?_
              rw [List.all_eq_true]
              intro q hq
              have hqs : reach [s, e] q = true := reach_self hq
              unfold reach at hqs ⊢
              simp only [decide_eq_true_eq] at hqs ⊢
              exact slant hne hne' d ha hb hqs
        · rw [if_neg d]
          have := cross_iff (p := p) hne hne' d
          unfold reach
          rw [Bool.eq_iff_iff]
          simp only [Bool.and_eq_true, decide_eq_true_eq]
          exact this.symm
    | three s e t g =>
      have := hB.len
      simp at hl
      omega
theorem meetC_reach {A B : List Pt} (hA : Ind A) (hB : Ind B) (p : Pt) : reach (meetC A B) p = (reach A p && reach B p) := by
  unfold meetC
  split
  · rw [meet1_reach hB hA (by omega), Bool.and_comm]
  · exact meet1_reach hA hB (by omega) p
/-- what reaches the same is the same flat -/
theorem len_of_reach {A B : List Pt} (hA : Ind A) (hB : Ind B) (h : ∀ p, reach A p = reach B p) : A.length = B.length := by
  have ab : ∀ {A B : List Pt}, Ind A → Ind B → (∀ p, reach A p = reach B p) → A.length ≤ B.length := by
    intro A B hA hB h
    have sub : ∀ q ∈ A, reach B q = true := fun q hq => by rw [← h]; exact reach_self hq
    cases hA with
    | zero => simp
    | one c =>
      have := sub c (by simp)
      cases hB <;> first | (cases this; done) | simp
    | two s e hne =>
      have h1 := sub s (by simp)
      have h2 := sub e (by simp)
      cases hB with
      | zero => cases h1
      | one c =>
        unfold reach at h1 h2
        simp only [decide_eq_true_eq] at h1 h2
        exact absurd (h2.trans h1.symm) hne
      | two _ _ _ => simp
      | three _ _ _ _ => simp
    | three s e t g =>
      have h1 := sub s (by simp)
      have h2 := sub e (by simp)
      have h3 := sub t (by simp)
      have hne : e ≠ s := fun k => g (by rw [k]; exact cr_same s t)
      cases hB with
      | zero => cases h1
      | one c =>
        unfold reach at h1 h2
        simp only [decide_eq_true_eq] at h1 h2
        exact absurd (h2.trans h1.symm) hne
      | two a c hac =>
        unfold reach at h1 h2 h3
        simp only [decide_eq_true_eq] at h1 h2 h3
        exact absurd (line_three hac h1 h2 h3) g
      | three _ _ _ _ => simp
  have := ab hA hB h
  have := ab hB hA (fun p => (h p).symm)
  omega
theorem eqF_reach {A B : List Pt} (hA : Ind A) (hB : Ind B) (h : ∀ p, reach A p = reach B p) : eqF A B = true := by
  unfold eqF
  rw [decide_eq_true (len_of_reach hA hB h), Bool.true_and, List.all_eq_true]
  intro q hq
  rw [h]
  exact reach_self hq
/-- lists that reach one another -/
theorem ind_reach {L M : List Pt} (h1 : ∀ q ∈ L, reach (ind M) q = true) (h2 : ∀ q ∈ M, reach (ind L) q = true) (p : Pt) : reach (ind L) p = reach (ind M) p := by
  rw [Bool.eq_iff_iff]
  constructor
  · exact fun h => reach_in (ind_Ind M) (ind_Ind L) (fun q hq => h1 q (ind_mem hq)) h
  · exact fun h => reach_in (ind_Ind L) (ind_Ind M) (fun q hq => h2 q (ind_mem hq)) h
theorem eqD2_reach {A B : List Pt} (hA : Ind A) (hB : Ind B) (h : ∀ p, reach A p = reach B p) : eqD2 A = eqD2 B := by
  have l := len_of_reach hA hB h
  by_cases e0 : A.length = 2
  · cases hA with
    | zero => cases e0
    | one c => cases e0
    | three _ _ _ _ => cases e0
    | two s e hne =>
      cases hB with
      | zero => cases l
      | one c => cases l
      | three _ _ _ _ => cases l
      | two s' e' hne' =>
        have h1 : reach [s, e] s' = true := by rw [h]; exact reach_self (by simp)
        have h2 : reach [s, e] e' = true := by rw [h]; exact reach_self (by simp)
        unfold reach at h1 h2
        simp only [decide_eq_true_eq] at h1 h2
        exact (eqD2_line hne hne' h1 h2).symm
  · rw [eqD2_no e0, eqD2_no (by omega)]
end Dw
set_option maxHeartbeats 60000
namespace Dw
open PySem PySem.Spec PyProof.Rows L2
open Dr
variable {K : PySem.W.Frag} {S : Sto} {post : D → Sto → Prop} {xp : Xp} {b : Addr}
theorem meth_eqn {cs : List Pt} {k : (List D → W D) → Prop} (h : k (f_Flat_equation K)) : nMeth [(C_Flat K, f_Flat_equation K)] "equation" (flD K cs) S k := ev_meth (by decide +kernel) h
/-- a line's corners are of so many bits -/
def Ln (n : Nat) (A : List Pt) : Prop := A.length = 2 → ∀ c ∈ A, Zp n c
theorem crossC_eq (s e s' e' : Pt) : crossC [s, e] [s', e'] = if dD s e s' e' = 0 then [] else [crossP s e s' e'] := rfl
theorem cross_sz {n : Nat} {s e s' e' : Pt} (h : e ≠ s) (h' : e' ≠ s') (hs : Zp n s) (he : Zp n e) (hs' : Zp n s') (he' : Zp n e') : (Px.Sz (14 * n + 7) (eI s e) ∧ Px.Sz (14 * n + 7) (eJ s e) ∧ Px.Sz (14 * n + 7) (eK s e)) ∧ (Px.Sz (14 * n + 7) (eI s' e') ∧ Px.Sz (14 * n + 7) (eJ s' e') ∧ Px.Sz (14 * n + 7) (eK s' e')) := by
  obtain ⟨_, _, a1, a2, a3⟩ := line_sz h hs he
  obtain ⟨_, _, b1, b2, b3⟩ := line_sz h' hs' he'
  exact ⟨⟨(a1.mul a3.2).mono (by omega), (a2.mul a3.2).mono (by omega), a3.1.mono (by omega)⟩, ⟨(b1.mul b3.2).mono (by omega), (b2.mul b3.2).mono (by omega), b3.1.mono (by omega)⟩⟩
theorem ev__crossing {n : Nat} {s e s' e' : Pt} (h : e ≠ s) (h' : e' ≠ s') (hs : Zp n s) (he : Zp n e) (hs' : Zp n s') (he' : Zp n e') (hn : n ≤ 255) (k : post (flD K (crossC [s, e] [s', e'])) S) : f__crossing K [eqD2 [s, e], eqD2 [s', e']] S post xp := by
  obtain ⟨⟨a1, a2, a3⟩, ⟨b1, b2, b3⟩⟩ := cross_sz h h' hs he hs' he'
  have g1 := Px.Sz.sub (a1.mul b2) (a2.mul b1)
  unfold f__crossing u__crossing eqD2
  try simp -implicitDefEqProofs only [dDef_2_3, dSeq_m, dRet_m, dArgs_c, dArgs_n, dTup_m, dCall_m, dVar_m, dSet_m, dOp_m, dPure_m, dIfS_m, dNext_m, dtVal_m, oEq_m, mBl_b, okEq_int, mVar_s, oIx_t, at3_0, at3_2, oMul_i, oSub_i, at3_1, eqD_int, List.length_cons, List.length_nil, List.cons_append, List.nil_append, Nat.reduceAdd, Nat.reduceSub, List.getElem?_cons_zero, List.getElem?_cons_succ, List.set_cons_zero, List.set_cons_succ, Option.some.injEq, exists_eq_left', true_and, and_true, if_true, if_false, Bool.false_eq_true, Bool.true_eq_false, Bool.not_true, Bool.not_false, reduceIte, beq_self_eq_true, decide_true, Bool.or_false, Bool.or_true, Bool.false_or, Bool.true_or, dNewS_m]
  rw [show nA s e * ((lW s e).den : Int) = eI s e from rfl, show nB s e * ((lW s e).den : Int) = eJ s e from rfl, show (lW s e).num = eK s e from rfl, show nA s' e' * ((lW s' e').den : Int) = eI s' e' from rfl, show nB s' e' * ((lW s' e').den : Int) = eJ s' e' from rfl, show (lW s' e').num = eK s' e' from rfl]
  refine ⟨Px.cmul a1 b2 (by omega), Px.cmul a2 b1 (by omega), ?_⟩
  rw [show eI s e * eJ s' e' - eJ s e * eI s' e' = eDet s e s' e' from rfl]
  by_cases d : dD s e s' e' = 0
  · rw [decide_eq_true (eDet_zero.mpr d)]
    try simp -implicitDefEqProofs only [dDef_2_3, dSeq_m, dRet_m, dArgs_c, dArgs_n, dTup_m, dCall_m, dVar_m, dSet_m, dOp_m, dPure_m, dIfS_m, dNext_m, dtVal_m, oEq_m, mBl_b, okEq_int, mVar_s, oIx_t, at3_0, at3_2, oMul_i, oSub_i, at3_1, eqD_int, List.length_cons, List.length_nil, List.cons_append, List.nil_append, Nat.reduceAdd, Nat.reduceSub, List.getElem?_cons_zero, List.getElem?_cons_succ, List.set_cons_zero, List.set_cons_succ, Option.some.injEq, exists_eq_left', true_and, and_true, if_true, if_false, Bool.false_eq_true, Bool.true_eq_false, Bool.not_true, Bool.not_false, reduceIte, beq_self_eq_true, decide_true, Bool.or_false, Bool.or_true, Bool.false_or, Bool.true_or, dNewS_m]
    refine ev_new_Flat (ps := []) (by decide) trivial ?_
    rw [crossC_eq, if_pos d] at k
    exact k
  · have d' : eDet s e s' e' ≠ 0 := fun z => d (eDet_zero.mp z)
    rw [decide_eq_false d']
    try simp -implicitDefEqProofs only [dDef_2_3, dSeq_m, dRet_m, dArgs_c, dArgs_n, dTup_m, dCall_m, dVar_m, dSet_m, dOp_m, dPure_m, dIfS_m, dNext_m, dtVal_m, oEq_m, mBl_b, okEq_int, mVar_s, oIx_t, at3_0, at3_2, oMul_i, oSub_i, at3_1, eqD_int, List.length_cons, List.length_nil, List.cons_append, List.nil_append, Nat.reduceAdd, Nat.reduceSub, List.getElem?_cons_zero, List.getElem?_cons_succ, List.set_cons_zero, List.set_cons_succ, Option.some.injEq, exists_eq_left', true_and, and_true, if_true, if_false, Bool.false_eq_true, Bool.true_eq_false, Bool.not_true, Bool.not_false, reduceIte, beq_self_eq_true, decide_true, Bool.or_false, Bool.or_true, Bool.false_or, Bool.true_or, dNewS_m]
    refine ⟨Px.cmul a3 b2 (by omega), Px.cmul a2 b3 (by omega), Px.cmul a1 b3 (by omega), Px.cmul a3 b1 (by omega), ?_⟩
    have zd : Px.Sz 7155 (eDet s e s' e') := g1.mono (by omega)
    refine ev_fraction d' zd (by decide) ?_
    refine ev_fraction d' zd (by decide) ?_
    refine ev_new_Flat (ps := [crossP s e s' e']) (by simp) Gd_one ?_
    rw [crossC_eq, if_neg d] at k
    exact k
theorem ev_and1 {n : Nat} {A B : List Pt} {g : List D → W D} (hA : Ind A) (hB : Ind B) (hl : A.length ≤ B.length) (zA : Ln n A) (zB : Ln n B) (hn : n ≤ 255) (hf : ∀ c ∈ A, Fit B c) (k : post (flD K (meet1 A B)) S) : b_Flat___and__ K g [flD K A, flD K B] S post xp := by
  unfold b_Flat___and__ u_Flat___and__
  try simp -implicitDefEqProofs only [dDef_2_1, dSeq_m, dRet_m, dCall_m, dArgs_c, dArgs_n, dMeth_eq, dVar_m, dIfS_m, dNext_m, dtVal_m, dOp_m, dPure_m, dProp_m, dLc_m, wipeL_c, wipeL_n, cSeq_m, dFld_eq, oOwn_m, mVar_s, isOf0_i, oGt_i, mBl_b, mSeq_l, bT_nm, oLt_i, List.length_cons, List.length_nil, List.cons_append, List.nil_append, Nat.reduceAdd, Nat.reduceSub, List.getElem?_cons_zero, List.getElem?_cons_succ, List.set_cons_zero, List.set_cons_succ, Option.some.injEq, exists_eq_left', true_and, and_true, if_true, if_false, Bool.false_eq_true, Bool.true_eq_false, Bool.not_true, Bool.not_false, reduceIte, beq_self_eq_true, decide_true, Bool.or_false, Bool.or_true, Bool.false_or, Bool.true_or]
  refine ev_size ?_
  refine ev_size ?_
  try simp -implicitDefEqProofs only [dDef_2_1, dSeq_m, dRet_m, dCall_m, dArgs_c, dArgs_n, dMeth_eq, dVar_m, dIfS_m, dNext_m, dtVal_m, dOp_m, dPure_m, dProp_m, dLc_m, wipeL_c, wipeL_n, cSeq_m, dFld_eq, oOwn_m, mVar_s, isOf0_i, oGt_i, mBl_b, mSeq_l, bT_nm, oLt_i, List.length_cons, List.length_nil, List.cons_append, List.nil_append, Nat.reduceAdd, Nat.reduceSub, List.getElem?_cons_zero, List.getElem?_cons_succ, List.set_cons_zero, List.set_cons_succ, Option.some.injEq, exists_eq_left', true_and, and_true, if_true, if_false, Bool.false_eq_true, Bool.true_eq_false, Bool.not_true, Bool.not_false, reduceIte, beq_self_eq_true, decide_true, Bool.or_false, Bool.or_true, Bool.false_or, Bool.true_or]
  rw [decide_eq_false (by omega)]
  try simp -implicitDefEqProofs only [dDef_2_1, dSeq_m, dRet_m, dCall_m, dArgs_c, dArgs_n, dMeth_eq, dVar_m, dIfS_m, dNext_m, dtVal_m, dOp_m, dPure_m, dProp_m, dLc_m, wipeL_c, wipeL_n, cSeq_m, dFld_eq, oOwn_m, mVar_s, isOf0_i, oGt_i, mBl_b, mSeq_l, bT_nm, oLt_i, List.length_cons, List.length_nil, List.cons_append, List.nil_append, Nat.reduceAdd, Nat.reduceSub, List.getElem?_cons_zero, List.getElem?_cons_succ, List.set_cons_zero, List.set_cons_succ, Option.some.injEq, exists_eq_left', true_and, and_true, if_true, if_false, Bool.false_eq_true, Bool.true_eq_false, Bool.not_true, Bool.not_false, reduceIte, beq_self_eq_true, decide_true, Bool.or_false, Bool.or_true, Bool.false_or, Bool.true_or]
  refine ev_fld rfl ?_
  rw [mSeq_l]
  refine ⟨by rw [List.length_map]; have := hA.len; omega, ?_⟩
  refine wLc_mp pD (fun q => .bl (reach B q)) A [] _ (fun q hq k' hk' => ?_) ?_
  · rw [bT_nm]
    try simp -implicitDefEqProofs only [dDef_2_1, dSeq_m, dRet_m, dCall_m, dArgs_c, dArgs_n, dMeth_eq, dVar_m, dIfS_m, dNext_m, dtVal_m, dOp_m, dPure_m, dProp_m, dLc_m, wipeL_c, wipeL_n, cSeq_m, dFld_eq, oOwn_m, mVar_s, isOf0_i, oGt_i, mBl_b, mSeq_l, bT_nm, oLt_i, List.length_cons, List.length_nil, List.cons_append, List.nil_append, Nat.reduceAdd, Nat.reduceSub, List.getElem?_cons_zero, List.getElem?_cons_succ, List.set_cons_zero, List.set_cons_succ, Option.some.injEq, exists_eq_left', true_and, and_true, if_true, if_false, Bool.false_eq_true, Bool.true_eq_false, Bool.not_true, Bool.not_false, reduceIte, beq_self_eq_true, decide_true, Bool.or_false, Bool.or_true, Bool.false_or, Bool.true_or]
    exact oOr_r (ev_in hB (hf q hq) hk')
  refine gAll_map (f := fun q => reach B q) ?_
  unfold meet1 at k
  by_cases h : (A.all fun q => reach B q) = true
  · rw [if_pos h] at k
    rw [h]
    try simp -implicitDefEqProofs only [dDef_2_1, dSeq_m, dRet_m, dCall_m, dArgs_c, dArgs_n, dMeth_eq, dVar_m, dIfS_m, dNext_m, dtVal_m, dOp_m, dPure_m, dProp_m, dLc_m, wipeL_c, wipeL_n, cSeq_m, dFld_eq, oOwn_m, mVar_s, isOf0_i, oGt_i, mBl_b, mSeq_l, bT_nm, oLt_i, List.length_cons, List.length_nil, List.cons_append, List.nil_append, Nat.reduceAdd, Nat.reduceSub, List.getElem?_cons_zero, List.getElem?_cons_succ, List.set_cons_zero, List.set_cons_succ, Option.some.injEq, exists_eq_left', true_and, and_true, if_true, if_false, Bool.false_eq_true, Bool.true_eq_false, Bool.not_true, Bool.not_false, reduceIte, beq_self_eq_true, decide_true, Bool.or_false, Bool.or_true, Bool.false_or, Bool.true_or]
    exact k
  · rw [if_neg h] at k
    rw [show (A.all fun q => reach B q) = false by simpa using h]
    try simp -implicitDefEqProofs only [dDef_2_1, dSeq_m, dRet_m, dCall_m, dArgs_c, dArgs_n, dMeth_eq, dVar_m, dIfS_m, dNext_m, dtVal_m, dOp_m, dPure_m, dProp_m, dLc_m, wipeL_c, wipeL_n, cSeq_m, dFld_eq, oOwn_m, mVar_s, isOf0_i, oGt_i, mBl_b, mSeq_l, bT_nm, oLt_i, List.length_cons, List.length_nil, List.cons_append, List.nil_append, Nat.reduceAdd, Nat.reduceSub, List.getElem?_cons_zero, List.getElem?_cons_succ, List.set_cons_zero, List.set_cons_succ, Option.some.injEq, exists_eq_left', true_and, and_true, if_true, if_false, Bool.false_eq_true, Bool.true_eq_false, Bool.not_true, Bool.not_false, reduceIte, beq_self_eq_true, decide_true, Bool.or_false, Bool.or_true, Bool.false_or, Bool.true_or]
    refine ev_size ?_
    try simp -implicitDefEqProofs only [dDef_2_1, dSeq_m, dRet_m, dCall_m, dArgs_c, dArgs_n, dMeth_eq, dVar_m, dIfS_m, dNext_m, dtVal_m, dOp_m, dPure_m, dProp_m, dLc_m, wipeL_c, wipeL_n, cSeq_m, dFld_eq, oOwn_m, mVar_s, isOf0_i, oGt_i, mBl_b, mSeq_l, bT_nm, oLt_i, List.length_cons, List.length_nil, List.cons_append, List.nil_append, Nat.reduceAdd, Nat.reduceSub, List.getElem?_cons_zero, List.getElem?_cons_succ, List.set_cons_zero, List.set_cons_succ, Option.some.injEq, exists_eq_left', true_and, and_true, if_true, if_false, Bool.false_eq_true, Bool.true_eq_false, Bool.not_true, Bool.not_false, reduceIte, beq_self_eq_true, decide_true, Bool.or_false, Bool.or_true, Bool.false_or, Bool.true_or]
    by_cases h2 : A.length < 2
    · rw [if_pos h2] at k
      rw [decide_eq_true (by omega)]
      try simp -implicitDefEqProofs only [dDef_2_1, dSeq_m, dRet_m, dCall_m, dArgs_c, dArgs_n, dMeth_eq, dVar_m, dIfS_m, dNext_m, dtVal_m, dOp_m, dPure_m, dProp_m, dLc_m, wipeL_c, wipeL_n, cSeq_m, dFld_eq, oOwn_m, mVar_s, isOf0_i, oGt_i, mBl_b, mSeq_l, bT_nm, oLt_i, List.length_cons, List.length_nil, List.cons_append, List.nil_append, Nat.reduceAdd, Nat.reduceSub, List.getElem?_cons_zero, List.getElem?_cons_succ, List.set_cons_zero, List.set_cons_succ, Option.some.injEq, exists_eq_left', true_and, and_true, if_true, if_false, Bool.false_eq_true, Bool.true_eq_false, Bool.not_true, Bool.not_false, reduceIte, beq_self_eq_true, decide_true, Bool.or_false, Bool.or_true, Bool.false_or, Bool.true_or, dNewS_m]
      exact ev_new_Flat (ps := []) (by decide) trivial k
    · rw [if_neg h2] at k
      rw [decide_eq_false (by omega)]
      try simp -implicitDefEqProofs only [dDef_2_1, dSeq_m, dRet_m, dCall_m, dArgs_c, dArgs_n, dMeth_eq, dVar_m, dIfS_m, dNext_m, dtVal_m, dOp_m, dPure_m, dProp_m, dLc_m, wipeL_c, wipeL_n, cSeq_m, dFld_eq, oOwn_m, mVar_s, isOf0_i, oGt_i, mBl_b, mSeq_l, bT_nm, oLt_i, List.length_cons, List.length_nil, List.cons_append, List.nil_append, Nat.reduceAdd, Nat.reduceSub, List.getElem?_cons_zero, List.getElem?_cons_succ, List.set_cons_zero, List.set_cons_succ, Option.some.injEq, exists_eq_left', true_and, and_true, if_true, if_false, Bool.false_eq_true, Bool.true_eq_false, Bool.not_true, Bool.not_false, reduceIte, beq_self_eq_true, decide_true, Bool.or_false, Bool.or_true, Bool.false_or, Bool.true_or]
      refine meth_eqn ?_
      refine ev_Flat_equation hA (by omega) zA ?_
      refine meth_eqn ?_
      refine ev_Flat_equation hB (by omega) zB ?_
      have h3 : B.length ≠ 3 := fun z => h (by
        rw [List.all_eq_true]
        intro q _
        cases hB with
        | three s e t g => rfl
        | _ => simp at z)
      have := hB.len
      cases hA with
      | zero => simp at h2
      | one c => simp at h2
      | three s e t g => simp at hl; omega
      | two s e hne =>
        cases hB with
        | zero => simp at hl
        | one c => simp at hl
        | three s e t g => exact absurd rfl h3
        | two s' e' hne' => exact ev__crossing hne hne' (zA rfl s (by simp)) (zA rfl e (by simp)) (zB rfl s' (by simp)) (zB rfl e' (by simp)) hn k
theorem ev_and {n : Nat} {A B : List Pt} (hA : Ind A) (hB : Ind B) (zA : Ln n A) (zB : Ln n B) (hn : n ≤ 255) (hf : ∀ c ∈ A, Fit B c) (hf' : ∀ c ∈ B, Fit A c) (k : post (flD K (meetC A B)) S) : f_Flat___and__ K [flD K A, flD K B] S post xp := by
  unfold f_Flat___and__
  unfold meetC at k
  refine ⟨2, Nat.le_refl _, ?_⟩
  show b_Flat___and__ K (r_Flat___and__ K 1) [flD K A, flD K B] S post xp
  by_cases h : B.length < A.length
  · rw [if_pos h] at k
    unfold b_Flat___and__ u_Flat___and__
    try simp -implicitDefEqProofs only [dDef_2_1, dSeq_m, dRet_m, dCall_m, dArgs_c, dArgs_n, dMeth_eq, dVar_m, dIfS_m, dNext_m, dtVal_m, dOp_m, dPure_m, dProp_m, dLc_m, wipeL_c, wipeL_n, cSeq_m, dFld_eq, oOwn_m, mVar_s, isOf0_i, oGt_i, mBl_b, List.length_cons, List.length_nil, List.cons_append, List.nil_append, Nat.reduceAdd, Nat.reduceSub, List.getElem?_cons_zero, List.getElem?_cons_succ, List.set_cons_zero, List.set_cons_succ, Option.some.injEq, exists_eq_left', true_and, and_true, if_true, if_false, Bool.false_eq_true, Bool.true_eq_false, Bool.not_true, Bool.not_false, reduceIte, beq_self_eq_true, decide_true, Bool.or_false, Bool.or_true, Bool.false_or, Bool.true_or]
    refine ev_size ?_
    refine ev_size ?_
    try simp -implicitDefEqProofs only [dDef_2_1, dSeq_m, dRet_m, dCall_m, dArgs_c, dArgs_n, dMeth_eq, dVar_m, dIfS_m, dNext_m, dtVal_m, dOp_m, dPure_m, dProp_m, dLc_m, wipeL_c, wipeL_n, cSeq_m, dFld_eq, oOwn_m, mVar_s, isOf0_i, oGt_i, mBl_b, List.length_cons, List.length_nil, List.cons_append, List.nil_append, Nat.reduceAdd, Nat.reduceSub, List.getElem?_cons_zero, List.getElem?_cons_succ, List.set_cons_zero, List.set_cons_succ, Option.some.injEq, exists_eq_left', true_and, and_true, if_true, if_false, Bool.false_eq_true, Bool.true_eq_false, Bool.not_true, Bool.not_false, reduceIte, beq_self_eq_true, decide_true, Bool.or_false, Bool.or_true, Bool.false_or, Bool.true_or]
    rw [decide_eq_true (by omega)]
    try simp -implicitDefEqProofs only [dDef_2_1, dSeq_m, dRet_m, dCall_m, dArgs_c, dArgs_n, dMeth_eq, dVar_m, dIfS_m, dNext_m, dtVal_m, dOp_m, dPure_m, dProp_m, dLc_m, wipeL_c, wipeL_n, cSeq_m, dFld_eq, oOwn_m, mVar_s, isOf0_i, oGt_i, mBl_b, List.length_cons, List.length_nil, List.cons_append, List.nil_append, Nat.reduceAdd, Nat.reduceSub, List.getElem?_cons_zero, List.getElem?_cons_succ, List.set_cons_zero, List.set_cons_succ, Option.some.injEq, exists_eq_left', true_and, and_true, if_true, if_false, Bool.false_eq_true, Bool.true_eq_false, Bool.not_true, Bool.not_false, reduceIte, beq_self_eq_true, decide_true, Bool.or_false, Bool.or_true, Bool.false_or, Bool.true_or]
    refine ev_and1 hB hA (by omega) zB zA hn hf' k
  · rw [if_neg h] at k
    exact ev_and1 hA hB (by omega) zA zB hn hf k
theorem ev_oand {n : Nat} {A B : List Pt} (hA : Ind A) (hB : Ind B) (zA : Ln n A) (zB : Ln n B) (hn : n ≤ 255) (hf : ∀ c ∈ A, Fit B c) (hf' : ∀ c ∈ B, Fit A c) (k : post (flD K (meetC A B)) S) : oOwn [(C_Flat K, f_Flat___and__ K)] (flD K A) (flD K B) S post xp := ⟨C_Flat K, _, List.mem_singleton.mpr rfl, rfl, rfl, ev_and hA hB zA zB hn hf hf' k⟩
theorem ev_or {A B : List Pt} (hA : Ind A) (hB : Ind B) (hg : Gd [] (A ++ B)) (k : post (flD K (ind (A ++ B))) S) : f_Flat___or__ K [flD K A, flD K B] S post xp := by
  unfold f_Flat___or__ u_Flat___or__
  try simp -implicitDefEqProofs only [dDef_2_1, dSeq_m, dRet_m, dVar_m, dSet_m, mVar_s, dOp_m, dMeth_eq, dArgs_n, List.length_cons, List.length_nil, List.cons_append, List.nil_append, Nat.reduceAdd, Nat.reduceSub, List.getElem?_cons_zero, List.getElem?_cons_succ, List.set_cons_zero, List.set_cons_succ, Option.some.injEq, exists_eq_left', true_and, and_true, if_true, if_false, Bool.false_eq_true, Bool.true_eq_false, Bool.not_true, Bool.not_false, reduceIte, beq_self_eq_true, decide_true, Bool.or_false, Bool.or_true, Bool.false_or, Bool.true_or, dFrzE_m, dNewX_m]
  refine meth_spots ?_
  refine ev_spots (fun a ha => ?_)
  refine frz_put ha ?_
  refine meth_spots ?_
  refine ev_spots (fun a ha => ?_)
  refine frz_put ha ?_
  have h1 := hA.len
  have h2 := hB.len
  rw [oAdd_ll]
  refine ⟨by rw [List.length_map, List.length_map]; omega, ?_⟩
  rw [← List.map_append]
  try simp -implicitDefEqProofs only [dDef_2_1, dSeq_m, dRet_m, dVar_m, dSet_m, mVar_s, dOp_m, dMeth_eq, dArgs_n, List.length_cons, List.length_nil, List.cons_append, List.nil_append, Nat.reduceAdd, Nat.reduceSub, List.getElem?_cons_zero, List.getElem?_cons_succ, List.set_cons_zero, List.set_cons_succ, Option.some.injEq, exists_eq_left', true_and, and_true, if_true, if_false, Bool.false_eq_true, Bool.true_eq_false, Bool.not_true, Bool.not_false, reduceIte, beq_self_eq_true, decide_true, Bool.or_false, Bool.or_true, Bool.false_or, Bool.true_or, dNewX_m]
  refine ⟨_, rfl, ?_⟩
  exact ev_new_Flat (by rw [List.length_append]; omega) hg k
theorem ev_oor {A B : List Pt} (hA : Ind A) (hB : Ind B) (hg : Gd [] (A ++ B)) (k : post (flD K (ind (A ++ B))) S) : oOwn [(C_Flat K, f_Flat___or__ K)] (flD K A) (flD K B) S post xp := ⟨C_Flat K, _, List.mem_singleton.mpr rfl, rfl, rfl, ev_or hA hB hg k⟩
end Dw
set_option maxHeartbeats 60000
namespace Dw
open PySem PySem.Spec PyProof.Rows L2
variable {K : PySem.W.Frag} {S : Sto} {post : D → Sto → Prop} {xp : Xp} {b : Addr}
theorem Zp.up {n m : Nat} {p : Pt} (h : Zp n p) (l : n ≤ m) : Zp m p := ⟨h.x.mono l, h.y.mono l⟩
theorem ev_pickL {d : D} {xs : List D} (h : Lt S d xs) (hb : hasBag S b) (hl : xs ≠ []) (hl2 : xs.length ≤ 1000) (k : ∀ d ∈ xs, post d S) : f__law_pick K [.val (.ref b), d] S post xp := by
  unfold f__law_pick u__law_pick
  try simp -implicitDefEqProofs only [dDef_2_0, dRet_m, dOp_m, dCall_m, dArgs_c, dArgs_n, dVar_m, mVar_s, List.length_cons, List.length_nil, List.cons_append, List.nil_append, Nat.reduceAdd, Nat.reduceSub, List.getElem?_cons_zero, List.getElem?_cons_succ, List.set_cons_zero, List.set_cons_succ, Option.some.injEq, exists_eq_left', true_and, and_true, if_true, if_false, Bool.false_eq_true, Bool.true_eq_false, Bool.not_true, Bool.not_false, reduceIte, beq_self_eq_true, decide_true, Bool.or_false, Bool.or_true, Bool.false_or, Bool.true_or]
  have : 0 < xs.length := List.length_pos_iff.mpr hl
  refine lt_len h ?_
  refine ev_draw hb (by omega) (by omega) (fun r h0 h1 => ?_)
  obtain ⟨d', hd, e⟩ := atI_mem h0 h1
  exact lt_ix h e (k d' hd)
/-- a spot added to another -/
def pa (p v : Pt) : Pt := ⟨p.x + v.x, p.y + v.y⟩
theorem zp_add {p v : Pt} {n m : Nat} (h : Zp n p) (k : Zp m v) : Zp (n + m + 1) (pa p v) := by
  have := h.cx; have := h.cy; have := k.cx; have := k.cy
  exact ⟨SzC.h (x := p.x + v.x), SzC.h (x := p.y + v.y)⟩
theorem ev_movedP {p v : Pt} {n m l : Nat} (h : Zp n p) (k : Zp m v) (hl : n + m + 1 ≤ l) (h9 : l ≤ 9000) (q : ∀ r, Zp l r → post (pD r) S) : f__law_moved K [pD p, pD v] S post xp := by
  have := h; have := k
  exact ev__law_moved (by omega) (q (pa p v) ((zp_add h k).up hl))
theorem ev_longP {v : Pt} {z : Rat} {n m l : Nat} (h : Zp n v) (k : Px.SzR m z) (hl : n + m ≤ l) (h9 : l ≤ 9000) (q : ∀ r, Zp l r → post (pD r) S) : f__law_long K [pD v, fr z] S post xp := by
  have := h; have : SzC z m := ⟨k⟩
  have := h.cx; have := h.cy
  refine ev_long (by omega) (q ⟨v.x * z, v.y * z⟩ ?_)
  exact Zp.up (n := n + m) ⟨SzC.h (x := v.x * z), SzC.h (x := v.y * z)⟩ hl
theorem ev_shiftP {p v : Pt} {n m l : Nat} (h : Zp n p) (k : Zp m v) (hl : n + m + 1 ≤ l) (h9 : l ≤ 9000) (q : ∀ r, Zp l r → post (pD r) S) : f__law_shift K [pD p, pD v] S post xp := by
  have := h; have := k
  exact ev__law_shift (by omega) (q ⟨p.x - v.x, p.y - v.y⟩ (Zp.up (szp_sub (h := h) (k := k)) hl))
theorem ev_nearP (hb : hasBag S b) (k : ∀ p, Zp 5 p → post (pD p) S) : f__law_near K [.val (.ref b)] S post xp := ev_near hb fun x y h => k ⟨x, y⟩ h
theorem ev_spotP (hb : hasBag S b) (k : ∀ p, Zp 21 p → post (pD p) S) : f__law_spot K [.val (.ref b)] S post xp := ev_spot_draw hb fun x y h => k ⟨x, y⟩ h
theorem mem_pD {ps : List Pt} {d : D} (h : d ∈ ps.map pD) : ∃ p ∈ ps, d = pD p := by
  obtain ⟨p, hp, e⟩ := List.mem_map.mp h
  exact ⟨p, hp, e.symm⟩
abbrev cloB (K : PySem.W.Frag) : DS := (dIfS (dtAnd (dtVal (dOp oNeV (dVar 5) (dLst []))) (dtVal (dOp oEqV (dCall (f__law_draw K) [(dVar 0), (dPure (.int 5))]) (dPure (.int 0))))) (dExpr (dBm isL gAppend (dVar 5) [(dCall (f__law_pick K) [(dVar 0), (dVar 5)])])) (dIfS (dtVal (dOp oLt (dVar 4) (dPure (.int 2)))) (dExpr (dBm isL gAppend (dVar 5) [(dCall (f__law_moved K) [(dVar 2), (dCall (f__law_long K) [(dVar 3), (dCall (f__law_small K) [(dVar 0)])])])])) (dExpr (dBm isL gAppend (dVar 5) [(dCall (f__law_pick K) [(dVar 0), (dLst [(dVar 2), (dCall (f__law_near K) [(dVar 0)]), (dCall (f__law_moved K) [(dVar 2), (dCall (f__law_near K) [(dVar 0)])])])])]))))
theorem clo_step {a : Addr} {x k : Option D} {p v : Pt} {way : Int} {ps : List Pt} {nx bk ct : Lc → Sto → Prop} {rt : D → Sto → Prop} (hb : hasBag S b) (ha : S a = none) (hp : Zp 21 p) (hv : Zp 5 v) (hl : ps.length < 900) (hz : ∀ q ∈ ps, Zp 32 q)
    (q : ∀ r, Zp 32 r → nx [some (.val (.ref b)), x, some (pD p), some (pD v), some (.int way), some (.val (.ref a)), k] (S.put a (.lst ((ps ++ [r]).map pD)))) :
    cloB K [some (.val (.ref b)), x, some (pD p), some (pD v), some (.int way), some (.val (.ref a)), k] (S.put a (.lst (ps.map pD))) ⟨nx, rt, bk, ct, xp⟩ := by
  have hb1 : hasBag (S.put a (.lst (ps.map pD))) b := hasBag_put hb ha
  have L : Lt (S.put a (.lst (ps.map pD))) (.val (.ref a)) (ps.map pD) := lt_r put_same
  have app : ∀ r, Zp 32 r → gAppend (.val (.ref a)) [pD r] (S.put a (.lst (ps.map pD))) (fun _ S' => nx [some (.val (.ref b)), x, some (pD p), some (pD v), some (.int way), some (.val (.ref a)), k] S') xp := fun r hr => by
    refine ev_append (by rw [List.length_map]; omega) ?_
    have := q r hr
    rw [List.map_append] at this
    exact this
  have rest : (dIfS (dtVal (dOp oLt (dVar 4) (dPure (.int 2)))) (dExpr (dBm isL gAppend (dVar 5) [(dCall (f__law_moved K) [(dVar 2), (dCall (f__law_long K) [(dVar 3), (dCall (f__law_small K) [(dVar 0)])])])])) (dExpr (dBm isL gAppend (dVar 5) [(dCall (f__law_pick K) [(dVar 0), (dLst [(dVar 2), (dCall (f__law_near K) [(dVar 0)]), (dCall (f__law_moved K) [(dVar 2), (dCall (f__law_near K) [(dVar 0)])])])])]))) [some (.val (.ref b)), x, some (pD p), some (pD v), some (.int way), some (.val (.ref a)), k] (S.put a (.lst (ps.map pD))) ⟨nx, rt, bk, ct, xp⟩ := by
    try simp -implicitDefEqProofs only [dIfS_m, dExpr_m, dArgs_c, dArgs_n, dCall_m, dVar_m, mVar_s, dLst_m, dtVal_m, dOp_m, dPure_m, oLt_i, mBl_b, dtAnd_m, List.length_cons, List.length_nil, List.cons_append, List.nil_append, Nat.reduceAdd, Nat.reduceSub, List.getElem?_cons_zero, List.getElem?_cons_succ, List.set_cons_zero, List.set_cons_succ, Option.some.injEq, exists_eq_left', true_and, and_true, if_true, if_false, Bool.false_eq_true, Bool.true_eq_false, Bool.not_true, Bool.not_false, reduceIte, beq_self_eq_true, decide_true, Bool.or_false, Bool.or_true, Bool.false_or, Bool.true_or, dBm_m]
    by_cases hw : way < 2
    · rw [decide_eq_true hw]
      try simp -implicitDefEqProofs only [dIfS_m, dExpr_m, dArgs_c, dArgs_n, dCall_m, dVar_m, mVar_s, dLst_m, dtVal_m, dOp_m, dPure_m, oLt_i, mBl_b, dtAnd_m, List.length_cons, List.length_nil, List.cons_append, List.nil_append, Nat.reduceAdd, Nat.reduceSub, List.getElem?_cons_zero, List.getElem?_cons_succ, List.set_cons_zero, List.set_cons_succ, Option.some.injEq, exists_eq_left', true_and, and_true, if_true, if_false, Bool.false_eq_true, Bool.true_eq_false, Bool.not_true, Bool.not_false, reduceIte, beq_self_eq_true, decide_true, Bool.or_false, Bool.or_true, Bool.false_or, Bool.true_or, dBm_m]
      refine ⟨isL_put, ?_⟩
      refine ev_small hb1 (fun z hz => ?_)
      refine ev_longP hv hz (l := 10) (by decide) (by decide) (fun r hr => ?_)
      exact ev_movedP hp hr (l := 32) (by decide) (by decide) (fun r hr => app r hr)
    · rw [decide_eq_false hw]
      try simp -implicitDefEqProofs only [dIfS_m, dExpr_m, dArgs_c, dArgs_n, dCall_m, dVar_m, mVar_s, dLst_m, dtVal_m, dOp_m, dPure_m, oLt_i, mBl_b, dtAnd_m, List.length_cons, List.length_nil, List.cons_append, List.nil_append, Nat.reduceAdd, Nat.reduceSub, List.getElem?_cons_zero, List.getElem?_cons_succ, List.set_cons_zero, List.set_cons_succ, Option.some.injEq, exists_eq_left', true_and, and_true, if_true, if_false, Bool.false_eq_true, Bool.true_eq_false, Bool.not_true, Bool.not_false, reduceIte, beq_self_eq_true, decide_true, Bool.or_false, Bool.or_true, Bool.false_or, Bool.true_or, dBm_m]
      refine ⟨isL_put, ?_⟩
      refine ev_nearP hb1 (fun p1 h1 => ?_)
      refine ev_nearP hb1 (fun p2 h2 => ?_)
      refine ev_movedP hp h2 (l := 32) (by decide) (by decide) (fun p3 h3 => ?_)
      refine ev_pick hb1 (by simp) (by simp) (fun d hd => ?_)
      have : d = pD p ∨ d = pD p1 ∨ d = pD p3 := by simpa using hd
      rcases this with rfl | rfl | rfl
      · exact app p (hp.up (by decide))
      · exact app p1 (h1.up (by decide))
      · exact app p3 h3
  unfold cloB
  rw [dIfS_m]
  try simp -implicitDefEqProofs only [dIfS_m, dExpr_m, dArgs_c, dArgs_n, dCall_m, dVar_m, mVar_s, dLst_m, dtVal_m, dOp_m, dPure_m, oLt_i, mBl_b, dtAnd_m, List.length_cons, List.length_nil, List.cons_append, List.nil_append, Nat.reduceAdd, Nat.reduceSub, List.getElem?_cons_zero, List.getElem?_cons_succ, List.set_cons_zero, List.set_cons_succ, Option.some.injEq, exists_eq_left', true_and, and_true, if_true, if_false, Bool.false_eq_true, Bool.true_eq_false, Bool.not_true, Bool.not_false, reduceIte, beq_self_eq_true, decide_true, Bool.or_false, Bool.or_true, Bool.false_or, Bool.true_or, dBm_m] at rest ⊢
  refine lt_ne0 L (by omega) ?_
  cases ps with
  | nil =>
    try simp -implicitDefEqProofs only [dIfS_m, dExpr_m, dArgs_c, dArgs_n, dCall_m, dVar_m, mVar_s, dLst_m, dtVal_m, dOp_m, dPure_m, oLt_i, mBl_b, dtAnd_m, List.length_cons, List.length_nil, List.cons_append, List.nil_append, Nat.reduceAdd, Nat.reduceSub, List.getElem?_cons_zero, List.getElem?_cons_succ, List.set_cons_zero, List.set_cons_succ, Option.some.injEq, exists_eq_left', true_and, and_true, if_true, if_false, Bool.false_eq_true, Bool.true_eq_false, Bool.not_true, Bool.not_false, reduceIte, beq_self_eq_true, decide_true, Bool.or_false, Bool.or_true, Bool.false_or, Bool.true_or, List.isEmpty]
    exact rest
  | cons p0 ps =>
    try simp -implicitDefEqProofs only [dIfS_m, dExpr_m, dArgs_c, dArgs_n, dCall_m, dVar_m, mVar_s, dLst_m, dtVal_m, dOp_m, dPure_m, oLt_i, mBl_b, dtAnd_m, List.length_cons, List.length_nil, List.cons_append, List.nil_append, Nat.reduceAdd, Nat.reduceSub, List.getElem?_cons_zero, List.getElem?_cons_succ, List.set_cons_zero, List.set_cons_succ, Option.some.injEq, exists_eq_left', true_and, and_true, if_true, if_false, Bool.false_eq_true, Bool.true_eq_false, Bool.not_true, Bool.not_false, reduceIte, beq_self_eq_true, decide_true, Bool.or_false, Bool.or_true, Bool.false_or, Bool.true_or, List.isEmpty]
    refine ev_draw hb1 (by decide) (by decide) (fun r r0 r1 => ?_)
    refine eqV_ii ?_
    rcases h0 : decide (r = 0) with _ | _
    · try simp -implicitDefEqProofs only [dIfS_m, dExpr_m, dArgs_c, dArgs_n, dCall_m, dVar_m, mVar_s, dLst_m, dtVal_m, dOp_m, dPure_m, oLt_i, mBl_b, dtAnd_m, List.length_cons, List.length_nil, List.cons_append, List.nil_append, Nat.reduceAdd, Nat.reduceSub, List.getElem?_cons_zero, List.getElem?_cons_succ, List.set_cons_zero, List.set_cons_succ, Option.some.injEq, exists_eq_left', true_and, and_true, if_true, if_false, Bool.false_eq_true, Bool.true_eq_false, Bool.not_true, Bool.not_false, reduceIte, beq_self_eq_true, decide_true, Bool.or_false, Bool.or_true, Bool.false_or, Bool.true_or]
      exact rest
    · try simp -implicitDefEqProofs only [dIfS_m, dExpr_m, dArgs_c, dArgs_n, dCall_m, dVar_m, mVar_s, dLst_m, dtVal_m, dOp_m, dPure_m, oLt_i, mBl_b, dtAnd_m, List.length_cons, List.length_nil, List.cons_append, List.nil_append, Nat.reduceAdd, Nat.reduceSub, List.getElem?_cons_zero, List.getElem?_cons_succ, List.set_cons_zero, List.set_cons_succ, Option.some.injEq, exists_eq_left', true_and, and_true, if_true, if_false, Bool.false_eq_true, Bool.true_eq_false, Bool.not_true, Bool.not_false, reduceIte, beq_self_eq_true, decide_true, Bool.or_false, Bool.or_true, Bool.false_or, Bool.true_or, dBm_m]
      refine ⟨isL_put, ?_⟩
      refine ev_pickL L hb1 (by simp) (by simp at hl ⊢; omega) (fun d hd => ?_)
      obtain ⟨p', hp', rfl⟩ := mem_pD hd
      exact app p' (hz p' hp')
theorem clo_loop {a : Addr} {x : Option D} {p v : Pt} {way : Int} {nx bk ct : Lc → Sto → Prop} {rt : D → Sto → Prop} (hb : hasBag S b) (ha : S a = none) (hp : Zp 21 p) (hv : Zp 5 v) : ∀ (ds : List D) (ps : List Pt) (k : Option D), ps.length + ds.length < 900 → (∀ q ∈ ps, Zp 32 q) → (∀ (qs : List Pt) k', qs.length = ps.length + ds.length → (∀ q ∈ qs, Zp 32 q) → nx [some (.val (.ref b)), x, some (pD p), some (pD v), some (.int way), some (.val (.ref a)), k'] (S.put a (.lst (qs.map pD)))) →
    wFor (.nm 6) (cloB K) ds [some (.val (.ref b)), x, some (pD p), some (pD v), some (.int way), some (.val (.ref a)), k] (S.put a (.lst (ps.map pD))) ⟨nx, rt, bk, ct, xp⟩
  | [], ps, k, hl, hz, q => by rw [wFor_n]; exact q ps k rfl hz
  | d :: ds, ps, k, hl, hz, q => by
    rw [wFor_c, bT_nm]
    simp only [List.length_cons] at hl
    refine clo_step hb ha hp hv (by omega) hz (fun r hr => ?_)
    refine clo_loop hb ha hp hv ds (ps ++ [r]) _ (by simp; omega) (fun c hc => ?_) (fun qs k' e h => q qs k' (by rw [e]; simp; omega) h)
    rcases List.mem_append.mp hc with z | z
    · exact hz c z
    · rw [List.mem_singleton.mp z]; exact hr
theorem ev_cloud {n : Nat} (hn : n < 100) (hb : hasBag S b) (q : ∀ ps : List Pt, ps.length = n → (∀ p ∈ ps, Zp 32 p) → post (.lst (ps.map pD)) S) : f__law_cloud K [.val (.ref b), .int (n : Int)] S post xp := by
  unfold f__law_cloud u__law_cloud
  try simp -implicitDefEqProofs only [dDef_2_5, dSeq_m, dRet_m, dVar_m, dFor_m, cRng_m, dArgs_c, dArgs_n, dIfS_m, dSet_m, dCall_m, dNext_m, dtVal_m, dOp_m, dPure_m, dUnp_m, dTup_m, mTup_t, setL_c, setL_n, mVar_s, mBl_b, List.length_cons, List.length_nil, List.cons_append, List.nil_append, Nat.reduceAdd, Nat.reduceSub, List.getElem?_cons_zero, List.getElem?_cons_succ, List.set_cons_zero, List.set_cons_succ, Option.some.injEq, exists_eq_left', true_and, and_true, if_true, if_false, Bool.false_eq_true, Bool.true_eq_false, Bool.not_true, Bool.not_false, reduceIte, beq_self_eq_true, decide_true, Bool.or_false, Bool.or_true, Bool.false_or, Bool.true_or, dLstM_m]
  refine ev_nearP hb (fun p hp => ?_)
  refine ev_nearP hb (fun v hv => ?_)
  refine ev_draw hb (by decide) (by decide) (fun way w0 w1 => ?_)
  intro a ha
  have hb1 : hasBag (S.put a (.lst [])) b := hasBag_put hb ha
  have go : ∀ (p : Pt), Zp 21 p → ∀ (nx bk ct : Lc → Sto → Prop) (rt : D → Sto → Prop), (∀ (qs : List Pt) k', qs.length = n → (∀ q ∈ qs, Zp 32 q) → nx [some (.val (.ref b)), some (.int n), some (pD p), some (pD v), some (.int way), some (.val (.ref a)), k'] (S.put a (.lst (qs.map pD)))) → mRng [.int n] fun xs => wFor (.nm 6) (cloB K) xs [some (.val (.ref b)), some (.int n), some (pD p), some (pD v), some (.int way), some (.val (.ref a)), none] (S.put a (.lst [])) ⟨nx, rt, bk, ct, xp⟩ := fun p hp nx bk ct rt h => by
    refine ⟨by omega, ?_⟩
    have hr : (rngD 0 (n : Int).toNat).length = n := by unfold rngD; simp
    refine clo_loop hb ha hp hv _ [] none (by rw [hr]; simp; omega) (by simp) (fun qs k' e z => h qs k' (by rw [e, hr]; simp) z)
  try simp -implicitDefEqProofs only [dDef_2_5, dSeq_m, dRet_m, dVar_m, dFor_m, cRng_m, dArgs_c, dArgs_n, dIfS_m, dSet_m, dCall_m, dNext_m, dtVal_m, dOp_m, dPure_m, dUnp_m, dTup_m, mTup_t, setL_c, setL_n, mVar_s, mBl_b, List.length_cons, List.length_nil, List.cons_append, List.nil_append, Nat.reduceAdd, Nat.reduceSub, List.getElem?_cons_zero, List.getElem?_cons_succ, List.set_cons_zero, List.set_cons_succ, Option.some.injEq, exists_eq_left', true_and, and_true, if_true, if_false, Bool.false_eq_true, Bool.true_eq_false, Bool.not_true, Bool.not_false, reduceIte, beq_self_eq_true, decide_true, Bool.or_false, Bool.or_true, Bool.false_or, Bool.true_or, dLstM_m]
  refine ev_draw hb1 (by decide) (by decide) (fun r r0 r1 => ?_)
  refine eqV_ii ?_
  rcases decide (r = 0) with _ | _
  · try simp -implicitDefEqProofs only [dDef_2_5, dSeq_m, dRet_m, dVar_m, dFor_m, cRng_m, dArgs_c, dArgs_n, dIfS_m, dSet_m, dCall_m, dNext_m, dtVal_m, dOp_m, dPure_m, dUnp_m, dTup_m, mTup_t, setL_c, setL_n, mVar_s, mBl_b, List.length_cons, List.length_nil, List.cons_append, List.nil_append, Nat.reduceAdd, Nat.reduceSub, List.getElem?_cons_zero, List.getElem?_cons_succ, List.set_cons_zero, List.set_cons_succ, Option.some.injEq, exists_eq_left', true_and, and_true, if_true, if_false, Bool.false_eq_true, Bool.true_eq_false, Bool.not_true, Bool.not_false, reduceIte, beq_self_eq_true, decide_true, Bool.or_false, Bool.or_true, Bool.false_or, Bool.true_or]
    refine go p (hp.up (by decide)) _ _ _ _ (fun qs k' e h => ?_)
    try simp -implicitDefEqProofs only [dDef_2_5, dSeq_m, dRet_m, dVar_m, dFor_m, cRng_m, dArgs_c, dArgs_n, dIfS_m, dSet_m, dCall_m, dNext_m, dtVal_m, dOp_m, dPure_m, dUnp_m, dTup_m, mTup_t, setL_c, setL_n, mVar_s, mBl_b, List.length_cons, List.length_nil, List.cons_append, List.nil_append, Nat.reduceAdd, Nat.reduceSub, List.getElem?_cons_zero, List.getElem?_cons_succ, List.set_cons_zero, List.set_cons_succ, Option.some.injEq, exists_eq_left', true_and, and_true, if_true, if_false, Bool.false_eq_true, Bool.true_eq_false, Bool.not_true, Bool.not_false, reduceIte, beq_self_eq_true, decide_true, Bool.or_false, Bool.or_true, Bool.false_or, Bool.true_or, dFrz_m]
    exact frz_put ha (q qs e h)
  · try simp -implicitDefEqProofs only [dDef_2_5, dSeq_m, dRet_m, dVar_m, dFor_m, cRng_m, dArgs_c, dArgs_n, dIfS_m, dSet_m, dCall_m, dNext_m, dtVal_m, dOp_m, dPure_m, dUnp_m, dTup_m, mTup_t, setL_c, setL_n, mVar_s, mBl_b, List.length_cons, List.length_nil, List.cons_append, List.nil_append, Nat.reduceAdd, Nat.reduceSub, List.getElem?_cons_zero, List.getElem?_cons_succ, List.set_cons_zero, List.set_cons_succ, Option.some.injEq, exists_eq_left', true_and, and_true, if_true, if_false, Bool.false_eq_true, Bool.true_eq_false, Bool.not_true, Bool.not_false, reduceIte, beq_self_eq_true, decide_true, Bool.or_false, Bool.or_true, Bool.false_or, Bool.true_or]
    refine ev_spotP hb1 (fun p2 hp2 => ?_)
    refine go p2 hp2 _ _ _ _ (fun qs k' e h => ?_)
    try simp -implicitDefEqProofs only [dDef_2_5, dSeq_m, dRet_m, dVar_m, dFor_m, cRng_m, dArgs_c, dArgs_n, dIfS_m, dSet_m, dCall_m, dNext_m, dtVal_m, dOp_m, dPure_m, dUnp_m, dTup_m, mTup_t, setL_c, setL_n, mVar_s, mBl_b, List.length_cons, List.length_nil, List.cons_append, List.nil_append, Nat.reduceAdd, Nat.reduceSub, List.getElem?_cons_zero, List.getElem?_cons_succ, List.set_cons_zero, List.set_cons_succ, Option.some.injEq, exists_eq_left', true_and, and_true, if_true, if_false, Bool.false_eq_true, Bool.true_eq_false, Bool.not_true, Bool.not_false, reduceIte, beq_self_eq_true, decide_true, Bool.or_false, Bool.or_true, Bool.false_or, Bool.true_or, dFrz_m]
    exact frz_put ha (q qs e h)
end Dw
set_option maxHeartbeats 60000
namespace Dw
open PySem PySem.Spec PyProof.Rows L2
variable {K : PySem.W.Frag} {S : Sto} {post : D → Sto → Prop} {xp : Xp} {b : Addr}
theorem cut_map {ps : List Pt} {lo hi : Option Int} : cutD (ps.map pD) lo hi = (cutD ps lo hi).map pD := by
  unfold cutD
  rw [List.length_map, ← List.map_drop, ← List.map_take]
theorem cut_mem {ps : List Pt} {lo hi : Option Int} {q : Pt} (h : q ∈ cutD ps lo hi) : q ∈ ps := List.mem_of_mem_drop (List.mem_of_mem_take h)
theorem cut_take {α : Type} {xs : List α} (k : Nat) : cutD xs none (some (k : Int)) = xs.take k := by
  unfold cutD
  rw [HT.sIx_none, HT.sIx_nat, List.drop_zero, Nat.sub_zero, List.take_eq_take_iff]
  omega
theorem gSl_l (xs : List D) (lo hi : Option Int) (S : Sto) (post : D → Sto → Prop) (xp : Xp) : gSl (.lst xs) lo hi S post xp = post (.lst (cutD xs lo hi)) S := by exact id rfl
theorem oAddM_go {x y : D} {xs ys : List D} (hx : Lt S x xs) (hy : Lt S y ys) (hl : xs.length + ys.length ≤ 1000) (k : ∀ p, S p = none → post (.val (.ref p)) (S.put p (.lst (xs ++ ys)))) : oAddM x y S post xp := ⟨xs, ys, lt_see hx, lt_see hy, hl, k⟩
theorem half : D.tup [.int 1, .int 2] = fr (1 / 2 : Rat) := by
  unfold fr
  rw [show ((1 : Rat) / 2).num = 1 by decide +kernel, show ((1 : Rat) / 2).den = 2 by decide +kernel]
  rfl
theorem ask_const {d : D} (h : d ∈ [D.tup [fr 1, fr 0], D.tup [fr 0, fr (-1)], D.tup [D.tup [D.int 1, D.int 2], D.tup [D.int 1, D.int 2]]]) : ∃ v : Pt, Zp 2 v ∧ d = pD v := by
  have h0 : Px.SzR 2 (0 : Rat) := (show Px.SzR 1 (0 : Rat) from Px.szr_lit 1 0).mono (by decide)
  have h1 : Px.SzR 2 (1 : Rat) := (show Px.SzR 1 (1 : Rat) from Px.szr_lit 1 1).mono (by decide)
  have hm : Px.SzR 2 (-1 : Rat) := (show Px.SzR 1 (-1 : Rat) from Px.szr_lit 1 (-1)).mono (by decide)
  have hh : Px.SzR 2 (1 / 2 : Rat) := by
    unfold Px.SzR Px.Sz
    rw [show ((1 : Rat) / 2).num = 1 by decide +kernel, show ((1 : Rat) / 2).den = 2 by decide +kernel]
    decide
  have : d = D.tup [fr 1, fr 0] ∨ d = D.tup [fr 0, fr (-1)] ∨ d = D.tup [D.tup [D.int 1, D.int 2], D.tup [D.int 1, D.int 2]] := by simpa using h
  rcases this with rfl | rfl | rfl
  · exact ⟨⟨1, 0⟩, ⟨h1, h0⟩, rfl⟩
  · exact ⟨⟨0, -1⟩, ⟨h0, hm⟩, rfl⟩
  · exact ⟨⟨1 / 2, 1 / 2⟩, ⟨hh, hh⟩, by rw [half]⟩
abbrev askB (K : PySem.W.Frag) : DS := (dIfS (dtVal (dOp oNeV (dVar 1) (dLst []))) (dSeq (dPar [4, 5] [(dCall (f__law_pick K) [(dVar 0), (dVar 1)]), (dCall (f__law_pick K) [(dVar 0), (dVar 1)])]) (dSeq (dExpr (dBm isL gAppend (dVar 2) [(dCall (f__law_moved K) [(dVar 4), (dCall (f__law_long K) [(dCall (f__law_shift K) [(dVar 5), (dVar 4)]), (dCall (f__law_small K) [(dVar 0)])])])])) (dExpr (dBm isL gAppend (dVar 2) [(dCall (f__law_moved K) [(dVar 4), (dCall (f__law_pick K) [(dVar 0), (dLst [(dTup [(dTup [(dPure (.int 1)), (dPure (.int 1))]), (dTup [(dPure (.int 0)), (dPure (.int 1))])]), (dTup [(dTup [(dPure (.int 0)), (dPure (.int 1))]), (dTup [(dUn oNeg (dPure (.int 1))), (dPure (.int 1))])]), (dTup [(dTup [(dPure (.int 1)), (dPure (.int 2))]), (dTup [(dPure (.int 1)), (dPure (.int 2))])])])])])])))) dNext)
theorem ask_step {a : Addr} {n : Nat} {ps qs : List Pt} {k3 k4 k5 : Option D} {nx bk ct : Lc → Sto → Prop} {rt : D → Sto → Prop} (hb : hasBag S b) (ha : S a = none) (hn : n ≤ 400) (hp : ∀ p ∈ ps, Zp n p) (hl : ps.length ≤ 900) (hlq : qs.length < 900) (hq : ∀ q ∈ qs, Zp (3 * n + 7) q)
    (q : ∀ (rs : List Pt) k4 k5, (∀ r ∈ rs, Zp (3 * n + 7) r) → rs.length ≤ 2 → nx [some (.val (.ref b)), some (.lst (ps.map pD)), some (.val (.ref a)), k3, k4, k5] (S.put a (.lst ((qs ++ rs).map pD)))) :
    askB K [some (.val (.ref b)), some (.lst (ps.map pD)), some (.val (.ref a)), k3, k4, k5] (S.put a (.lst (qs.map pD))) ⟨nx, rt, bk, ct, xp⟩ := by
  have hb1 : ∀ ds, hasBag (S.put a (.lst ds)) b := fun ds => hasBag_put hb ha
  unfold askB
  try simp -implicitDefEqProofs only [dIfS_m, dSeq_m, dExpr_m, dArgs_c, dArgs_n, dCall_m, dLst_m, dTup_m, dPure_m, dUn_m, oNeg_i, fr_m1, fr_0, fr_1, dVar_m, dPar_m, setL_c, setL_n, mVar_s, dNext_m, dtVal_m, dOp_m, mBl_b, List.length_cons, List.length_nil, List.cons_append, List.nil_append, Nat.reduceAdd, Nat.reduceSub, List.getElem?_cons_zero, List.getElem?_cons_succ, List.set_cons_zero, List.set_cons_succ, Option.some.injEq, exists_eq_left', true_and, and_true, if_true, if_false, Bool.false_eq_true, Bool.true_eq_false, Bool.not_true, Bool.not_false, reduceIte, beq_self_eq_true, decide_true, Bool.or_false, Bool.or_true, Bool.false_or, Bool.true_or, dBm_m]
  refine lt_ne0 lt_l (by omega) ?_
  cases ps with
  | nil =>
    try simp -implicitDefEqProofs only [dIfS_m, dSeq_m, dExpr_m, dArgs_c, dArgs_n, dCall_m, dLst_m, dTup_m, dPure_m, dUn_m, oNeg_i, fr_m1, fr_0, fr_1, dVar_m, dPar_m, setL_c, setL_n, mVar_s, dNext_m, dtVal_m, dOp_m, mBl_b, List.length_cons, List.length_nil, List.cons_append, List.nil_append, Nat.reduceAdd, Nat.reduceSub, List.getElem?_cons_zero, List.getElem?_cons_succ, List.set_cons_zero, List.set_cons_succ, Option.some.injEq, exists_eq_left', true_and, and_true, if_true, if_false, Bool.false_eq_true, Bool.true_eq_false, Bool.not_true, Bool.not_false, reduceIte, beq_self_eq_true, decide_true, Bool.or_false, Bool.or_true, Bool.false_or, Bool.true_or, List.isEmpty]
    have := q [] k4 k5 (by simp) (by simp)
    rwa [List.append_nil] at this
  | cons p0 ps =>
    have hne : (p0 :: ps).map pD ≠ [] := by simp
    try simp -implicitDefEqProofs only [dIfS_m, dSeq_m, dExpr_m, dArgs_c, dArgs_n, dCall_m, dLst_m, dTup_m, dPure_m, dUn_m, oNeg_i, fr_m1, fr_0, fr_1, dVar_m, dPar_m, setL_c, setL_n, mVar_s, dNext_m, dtVal_m, dOp_m, mBl_b, List.length_cons, List.length_nil, List.cons_append, List.nil_append, Nat.reduceAdd, Nat.reduceSub, List.getElem?_cons_zero, List.getElem?_cons_succ, List.set_cons_zero, List.set_cons_succ, Option.some.injEq, exists_eq_left', true_and, and_true, if_true, if_false, Bool.false_eq_true, Bool.true_eq_false, Bool.not_true, Bool.not_false, reduceIte, beq_self_eq_true, decide_true, Bool.or_false, Bool.or_true, Bool.false_or, Bool.true_or, List.isEmpty]
    refine ev_pick (hb1 _) hne (by rw [List.length_map]; omega) (fun d hd => ?_)
    obtain ⟨p, hp1, rfl⟩ := mem_pD hd
    refine ev_pick (hb1 _) hne (by rw [List.length_map]; omega) (fun d hd => ?_)
    obtain ⟨p', hp2, rfl⟩ := mem_pD hd
    try simp -implicitDefEqProofs only [dIfS_m, dSeq_m, dExpr_m, dArgs_c, dArgs_n, dCall_m, dLst_m, dTup_m, dPure_m, dUn_m, oNeg_i, fr_m1, fr_0, fr_1, dVar_m, dPar_m, setL_c, setL_n, mVar_s, dNext_m, dtVal_m, dOp_m, mBl_b, List.length_cons, List.length_nil, List.cons_append, List.nil_append, Nat.reduceAdd, Nat.reduceSub, List.getElem?_cons_zero, List.getElem?_cons_succ, List.set_cons_zero, List.set_cons_succ, Option.some.injEq, exists_eq_left', true_and, and_true, if_true, if_false, Bool.false_eq_true, Bool.true_eq_false, Bool.not_true, Bool.not_false, reduceIte, beq_self_eq_true, decide_true, Bool.or_false, Bool.or_true, Bool.false_or, Bool.true_or, dBm_m]
    refine ⟨isL_put, ?_⟩
    refine ev_shiftP (hp _ hp2) (hp _ hp1) (l := n + n + 1) (by omega) (by omega) (fun r hr => ?_)
    refine ev_small (hb1 _) (fun z hz => ?_)
    refine ev_longP hr hz (l := n + n + 6) (by omega) (by omega) (fun r hr => ?_)
    refine ev_movedP (hp _ hp1) hr (l := 3 * n + 7) (by omega) (by omega) (fun r1 hr1 => ?_)
    refine ev_append (by rw [List.length_map]; omega) ?_
    try simp -implicitDefEqProofs only [dIfS_m, dSeq_m, dExpr_m, dArgs_c, dArgs_n, dCall_m, dLst_m, dTup_m, dPure_m, dUn_m, oNeg_i, fr_m1, fr_0, fr_1, dVar_m, dPar_m, setL_c, setL_n, mVar_s, dNext_m, dtVal_m, dOp_m, mBl_b, List.length_cons, List.length_nil, List.cons_append, List.nil_append, Nat.reduceAdd, Nat.reduceSub, List.getElem?_cons_zero, List.getElem?_cons_succ, List.set_cons_zero, List.set_cons_succ, Option.some.injEq, exists_eq_left', true_and, and_true, if_true, if_false, Bool.false_eq_true, Bool.true_eq_false, Bool.not_true, Bool.not_false, reduceIte, beq_self_eq_true, decide_true, Bool.or_false, Bool.or_true, Bool.false_or, Bool.true_or, dBm_m]
    refine ⟨isL_put, ?_⟩
    refine ev_pick (hb1 _) (by simp) (by simp) (fun d hd => ?_)
    obtain ⟨v, hv, rfl⟩ := ask_const hd
    refine ev_movedP (hp _ hp1) hv (l := 3 * n + 7) (by omega) (by omega) (fun r2 hr2 => ?_)
    refine ev_append (by simp; omega) ?_
    have := q [r1, r2] (some (pD p)) (some (pD p')) (by
      intro r hr
      have : r = r1 ∨ r = r2 := by simpa using hr
      rcases this with rfl | rfl
      · exact hr1
      · exact hr2) (by simp)
    rw [List.map_append] at this
    rw [List.append_assoc]
    exact this
theorem ask_loop {a : Addr} {n : Nat} {ps : List Pt} {nx bk ct : Lc → Sto → Prop} {rt : D → Sto → Prop} (hb : hasBag S b) (ha : S a = none) (hn : n ≤ 400) (hp : ∀ p ∈ ps, Zp n p) (hl : ps.length ≤ 900) : ∀ (ds : List D) (qs : List Pt) (k3 k4 k5 : Option D), qs.length + 2 * ds.length < 900 → (∀ q ∈ qs, Zp (3 * n + 7) q) →
    (∀ (rs : List Pt) k3 k4 k5, (∀ r ∈ rs, Zp (3 * n + 7) r) → rs.length ≤ qs.length + 2 * ds.length → nx [some (.val (.ref b)), some (.lst (ps.map pD)), some (.val (.ref a)), k3, k4, k5] (S.put a (.lst (rs.map pD)))) →
    wFor (.nm 3) (askB K) ds [some (.val (.ref b)), some (.lst (ps.map pD)), some (.val (.ref a)), k3, k4, k5] (S.put a (.lst (qs.map pD))) ⟨nx, rt, bk, ct, xp⟩
  | [], qs, k3, k4, k5, hlq, hq, q => by rw [wFor_n]; exact q qs k3 k4 k5 hq (by omega)
  | d :: ds, qs, k3, k4, k5, hlq, hq, q => by
    rw [wFor_c, bT_nm]
    simp only [List.length_cons] at hlq
    refine ask_step hb ha hn hp hl (by omega) hq (fun rs k4 k5 hr hlr => ?_)
    refine ask_loop hb ha hn hp hl ds (qs ++ rs) _ k4 k5 (by rw [List.length_append]; omega) (fun c hc => ?_) (fun ts k3 k4 k5 ht hlt => q ts k3 k4 k5 ht (by rw [List.length_append] at hlt; simp only [List.length_cons]; omega))
    rcases List.mem_append.mp hc with z | z
    · exact hq c z
    · exact hr c z
theorem ev_asked {n : Nat} {ps : List Pt} (hn : n ≤ 400) (h5 : 21 ≤ n) (hp : ∀ p ∈ ps, Zp n p) (hl : ps.length ≤ 800) (hb : hasBag S b) (q : ∀ rs : List Pt, (∀ r ∈ rs, Zp (3 * n + 7) r) → rs.length ≤ 10 → post (.lst (rs.map pD)) S) : f__law_asked K [.val (.ref b), .lst (ps.map pD)] S post xp := by
  unfold f__law_asked u__law_asked
  try simp -implicitDefEqProofs only [dDef_2_4, dSeq_m, dRet_m, dVar_m, dFor_m, cRng_m, dArgs_c, dArgs_n, dPure_m, dSet_m, dOp_m, dCall_m, mVar_s, gList_l, dLst_m, List.length_cons, List.length_nil, List.cons_append, List.nil_append, Nat.reduceAdd, Nat.reduceSub, List.getElem?_cons_zero, List.getElem?_cons_succ, List.set_cons_zero, List.set_cons_succ, Option.some.injEq, exists_eq_left', true_and, and_true, if_true, if_false, Bool.false_eq_true, Bool.true_eq_false, Bool.not_true, Bool.not_false, reduceIte, beq_self_eq_true, decide_true, Bool.or_false, Bool.or_true, Bool.false_or, Bool.true_or, dSl_m, dNoPart_m, dPart_i, gSl_l, cut_map]
  refine ev_nearP hb (fun p1 h1 => ?_)
  refine ev_spotP hb (fun p2 h2 => ?_)
  have hc : (cutD ps none (some 2)).length ≤ 2 := by
    rw [show (some 2 : Option Int) = some ((2 : Nat) : Int) from rfl, cut_take, List.length_take]
    omega
  refine oAddM_go lt_l lt_l (by rw [List.length_map]; simp; omega) (fun a ha => ?_)
  have e : [pD p1, pD p2] ++ (cutD ps none (some 2)).map pD = ([p1, p2] ++ cutD ps none (some 2)).map pD := by rw [List.map_append]; rfl
  rw [e]
  refine ⟨by decide, ?_⟩
  have hr : (rngD 0 (3 : Int).toNat).length = 3 := rfl
  refine ask_loop hb ha hn hp (by omega) _ _ none none none (by rw [List.length_append, hr]; simp; omega) (fun c hcc => ?_) (fun rs k3 k4 k5 hz hlr => ?_)
  · rcases List.mem_append.mp hcc with z | z
    · have : c = p1 ∨ c = p2 := by simpa using z
      rcases this with rfl | rfl
      · exact h1.up (by omega)
      · exact h2.up (by omega)
    · exact (hp c (cut_mem z)).up (by omega)
  · try simp -implicitDefEqProofs only [dDef_2_4, dSeq_m, dRet_m, dVar_m, dFor_m, cRng_m, dArgs_c, dArgs_n, dPure_m, dSet_m, dOp_m, dCall_m, mVar_s, gList_l, dLst_m, List.length_cons, List.length_nil, List.cons_append, List.nil_append, Nat.reduceAdd, Nat.reduceSub, List.getElem?_cons_zero, List.getElem?_cons_succ, List.set_cons_zero, List.set_cons_succ, Option.some.injEq, exists_eq_left', true_and, and_true, if_true, if_false, Bool.false_eq_true, Bool.true_eq_false, Bool.not_true, Bool.not_false, reduceIte, beq_self_eq_true, decide_true, Bool.or_false, Bool.or_true, Bool.false_or, Bool.true_or, dFrz_m]
    refine frz_put ha (q rs hz ?_)
    rw [List.length_append, hr] at hlr
    simp at hlr
    omega
end Dw
set_option maxHeartbeats 60000
namespace Dw
open PySem PySem.Spec PyProof.Rows L2
open Dr
variable {K : PySem.W.Frag} {S : Sto} {post : D → Sto → Prop} {xp : Xp} {b : Addr}
theorem gd_eqD2 : ∀ cs : List Pt, gd 5 (eqD2 cs) = true
  | [] => rfl
  | [_] => rfl
  | [_, _] => rfl
  | _ :: _ :: _ :: _ => rfl
theorem gd_eqL (cs : List Pt) : gd 6 (.lst [.bl true, eqD2 cs]) = true := by
  unfold gd
  simp [gd_eqD2, show gd 5 (.bl true) = true from rfl]
/-- what a list spans, told of a flat -/
theorem ev_is_flat {n : Nat} {A ps qs : List Pt} (hA : Ind A) (h : ∀ p, reach A p = reach (ind ps) p) (hg : Gd [] ps) (hgp : ∀ p ∈ ps ++ qs, Gd [] (ps ++ [p])) (hgA : ∀ p ∈ A, Gd [] (ps ++ [p])) (fA : ∀ p ∈ ps ++ qs, Fit A p) (fI : ∀ p ∈ ind ps, Fit A p) (gA : Gd [] A) (gI : Gd [] (ind ps)) (zA : Ln n A) (zI : Ln n (ind ps)) (hn : n ≤ 255) (hl : ps.length ≤ 400) (hm : qs.length ≤ 400) (q : post (.bl true) S) : f__law_is_flat K [flD K A, .lst (ps.map pD), .lst (qs.map pD)] S post xp := by
  have hI := ind_Ind ps
  have l1 := len_of_reach hA hI h
  have l2 := hA.len
  unfold f__law_is_flat u__law_is_flat
  try simp -implicitDefEqProofs only [dDef_3_2, dSeq_m, dRet_m, dCall_m, dArgs_c, dArgs_n, dLst_m, dMeth_eq, dVar_m, dPure_m, dOp_m, dIfS_m, dNext_m, dtOr_m, dtVal_m, oNe_m, mBl_b, dtNot_m, dLc_m, wipeL_c, wipeL_n, cSeq_m, dSet_m, mVar_s, gList_l, dProp_m, isOf0_i, gLen_l, oSub_i, mSeq_l, bT_nm, isi_lst_list, dAnd_m, mAnd_t, okEq_int, eqD_int, List.length_cons, List.length_nil, List.cons_append, List.nil_append, Nat.reduceAdd, Nat.reduceSub, List.getElem?_cons_zero, List.getElem?_cons_succ, List.set_cons_zero, List.set_cons_succ, Option.some.injEq, exists_eq_left', true_and, and_true, if_true, if_false, Bool.false_eq_true, Bool.true_eq_false, Bool.not_true, Bool.not_false, reduceIte, beq_self_eq_true, decide_true, Bool.or_false, Bool.or_true, Bool.false_or, Bool.true_or, dFrzE_m]
  refine isi_own own_F ?_
  try simp -implicitDefEqProofs only [dDef_3_2, dSeq_m, dRet_m, dCall_m, dArgs_c, dArgs_n, dLst_m, dMeth_eq, dVar_m, dPure_m, dOp_m, dIfS_m, dNext_m, dtOr_m, dtVal_m, oNe_m, mBl_b, dtNot_m, dLc_m, wipeL_c, wipeL_n, cSeq_m, dSet_m, mVar_s, gList_l, dProp_m, isOf0_i, gLen_l, oSub_i, mSeq_l, bT_nm, isi_lst_list, dAnd_m, mAnd_t, okEq_int, eqD_int, List.length_cons, List.length_nil, List.cons_append, List.nil_append, Nat.reduceAdd, Nat.reduceSub, List.getElem?_cons_zero, List.getElem?_cons_succ, List.set_cons_zero, List.set_cons_succ, Option.some.injEq, exists_eq_left', true_and, and_true, if_true, if_false, Bool.false_eq_true, Bool.true_eq_false, Bool.not_true, Bool.not_false, reduceIte, beq_self_eq_true, decide_true, Bool.or_false, Bool.or_true, Bool.false_or, Bool.true_or, dFrzE_m]
  refine ev_size ?_
  refine ev__law_span hg ?_
  try simp -implicitDefEqProofs only [dDef_3_2, dSeq_m, dRet_m, dCall_m, dArgs_c, dArgs_n, dLst_m, dMeth_eq, dVar_m, dPure_m, dOp_m, dIfS_m, dNext_m, dtOr_m, dtVal_m, oNe_m, mBl_b, dtNot_m, dLc_m, wipeL_c, wipeL_n, cSeq_m, dSet_m, mVar_s, gList_l, dProp_m, isOf0_i, gLen_l, oSub_i, mSeq_l, bT_nm, isi_lst_list, dAnd_m, mAnd_t, okEq_int, eqD_int, List.length_cons, List.length_nil, List.cons_append, List.nil_append, Nat.reduceAdd, Nat.reduceSub, List.getElem?_cons_zero, List.getElem?_cons_succ, List.set_cons_zero, List.set_cons_succ, Option.some.injEq, exists_eq_left', true_and, and_true, if_true, if_false, Bool.false_eq_true, Bool.true_eq_false, Bool.not_true, Bool.not_false, reduceIte, beq_self_eq_true, decide_true, Bool.or_false, Bool.or_true, Bool.false_or, Bool.true_or, List.length_map]
  rw [l1]
  refine ev__law_same rfl ?_
  try simp -implicitDefEqProofs only [dDef_3_2, dSeq_m, dRet_m, dCall_m, dArgs_c, dArgs_n, dLst_m, dMeth_eq, dVar_m, dPure_m, dOp_m, dIfS_m, dNext_m, dtOr_m, dtVal_m, oNe_m, mBl_b, dtNot_m, dLc_m, wipeL_c, wipeL_n, cSeq_m, dSet_m, mVar_s, gList_l, dProp_m, isOf0_i, gLen_l, oSub_i, mSeq_l, bT_nm, isi_lst_list, dAnd_m, mAnd_t, okEq_int, eqD_int, List.length_cons, List.length_nil, List.cons_append, List.nil_append, Nat.reduceAdd, Nat.reduceSub, List.getElem?_cons_zero, List.getElem?_cons_succ, List.set_cons_zero, List.set_cons_succ, Option.some.injEq, exists_eq_left', true_and, and_true, if_true, if_false, Bool.false_eq_true, Bool.true_eq_false, Bool.not_true, Bool.not_false, reduceIte, beq_self_eq_true, decide_true, Bool.or_false, Bool.or_true, Bool.false_or, Bool.true_or, oAdd_ll, dFrzE_m]
  refine ⟨by rw [List.length_map, List.length_map]; omega, ?_⟩
  rw [← List.map_append]
  try simp -implicitDefEqProofs only [dDef_3_2, dSeq_m, dRet_m, dCall_m, dArgs_c, dArgs_n, dLst_m, dMeth_eq, dVar_m, dPure_m, dOp_m, dIfS_m, dNext_m, dtOr_m, dtVal_m, oNe_m, mBl_b, dtNot_m, dLc_m, wipeL_c, wipeL_n, cSeq_m, dSet_m, mVar_s, gList_l, dProp_m, isOf0_i, gLen_l, oSub_i, mSeq_l, bT_nm, isi_lst_list, dAnd_m, mAnd_t, okEq_int, eqD_int, List.length_cons, List.length_nil, List.cons_append, List.nil_append, Nat.reduceAdd, Nat.reduceSub, List.getElem?_cons_zero, List.getElem?_cons_succ, List.set_cons_zero, List.set_cons_succ, Option.some.injEq, exists_eq_left', true_and, and_true, if_true, if_false, Bool.false_eq_true, Bool.true_eq_false, Bool.not_true, Bool.not_false, reduceIte, beq_self_eq_true, decide_true, Bool.or_false, Bool.or_true, Bool.false_or, Bool.true_or]
  refine ⟨by rw [List.length_map, List.length_append]; omega, ?_⟩
  refine wLc_mp pD (fun _ => .bl true) (ps ++ qs) [] _ (fun p hp k hk => ?_) ?_
  · rw [bT_nm]
    try simp -implicitDefEqProofs only [dDef_3_2, dSeq_m, dRet_m, dCall_m, dArgs_c, dArgs_n, dLst_m, dMeth_eq, dVar_m, dPure_m, dOp_m, dIfS_m, dNext_m, dtOr_m, dtVal_m, oNe_m, mBl_b, dtNot_m, dLc_m, wipeL_c, wipeL_n, cSeq_m, dSet_m, mVar_s, gList_l, dProp_m, isOf0_i, gLen_l, oSub_i, mSeq_l, bT_nm, isi_lst_list, dAnd_m, mAnd_t, okEq_int, eqD_int, List.length_cons, List.length_nil, List.cons_append, List.nil_append, Nat.reduceAdd, Nat.reduceSub, List.getElem?_cons_zero, List.getElem?_cons_succ, List.set_cons_zero, List.set_cons_succ, Option.some.injEq, exists_eq_left', true_and, and_true, if_true, if_false, Bool.false_eq_true, Bool.true_eq_false, Bool.not_true, Bool.not_false, reduceIte, beq_self_eq_true, decide_true, Bool.or_false, Bool.or_true, Bool.false_or, Bool.true_or]
    refine oOr_r (ev_in hA (fA p hp) ?_)
    refine ev__law_within (by omega) (hgp p hp) ?_
    rw [h]
    exact ev__law_same rfl hk
  refine gAll_map (f := fun _ => true) ?_
  rw [show (ps ++ qs).all (fun _ => true) = true by simp]
  try simp -implicitDefEqProofs only [dDef_3_2, dSeq_m, dRet_m, dCall_m, dArgs_c, dArgs_n, dLst_m, dMeth_eq, dVar_m, dPure_m, dOp_m, dIfS_m, dNext_m, dtOr_m, dtVal_m, oNe_m, mBl_b, dtNot_m, dLc_m, wipeL_c, wipeL_n, cSeq_m, dSet_m, mVar_s, gList_l, dProp_m, isOf0_i, gLen_l, oSub_i, mSeq_l, bT_nm, isi_lst_list, dAnd_m, mAnd_t, okEq_int, eqD_int, List.length_cons, List.length_nil, List.cons_append, List.nil_append, Nat.reduceAdd, Nat.reduceSub, List.getElem?_cons_zero, List.getElem?_cons_succ, List.set_cons_zero, List.set_cons_succ, Option.some.injEq, exists_eq_left', true_and, and_true, if_true, if_false, Bool.false_eq_true, Bool.true_eq_false, Bool.not_true, Bool.not_false, reduceIte, beq_self_eq_true, decide_true, Bool.or_false, Bool.or_true, Bool.false_or, Bool.true_or, dFrzE_m]
  refine meth_spots ?_
  refine ev_spots (fun a ha => ?_)
  refine frz_put ha ?_
  try simp -implicitDefEqProofs only [dDef_3_2, dSeq_m, dRet_m, dCall_m, dArgs_c, dArgs_n, dLst_m, dMeth_eq, dVar_m, dPure_m, dOp_m, dIfS_m, dNext_m, dtOr_m, dtVal_m, oNe_m, mBl_b, dtNot_m, dLc_m, wipeL_c, wipeL_n, cSeq_m, dSet_m, mVar_s, gList_l, dProp_m, isOf0_i, gLen_l, oSub_i, mSeq_l, bT_nm, isi_lst_list, dAnd_m, mAnd_t, okEq_int, eqD_int, List.length_cons, List.length_nil, List.cons_append, List.nil_append, Nat.reduceAdd, Nat.reduceSub, List.getElem?_cons_zero, List.getElem?_cons_succ, List.set_cons_zero, List.set_cons_succ, Option.some.injEq, exists_eq_left', true_and, and_true, if_true, if_false, Bool.false_eq_true, Bool.true_eq_false, Bool.not_true, Bool.not_false, reduceIte, beq_self_eq_true, decide_true, Bool.or_false, Bool.or_true, Bool.false_or, Bool.true_or]
  refine ⟨by rw [List.length_map]; omega, ?_⟩
  refine wLc_mp pD (fun _ => .bl true) A [] _ (fun p hp k hk => ?_) ?_
  · rw [bT_nm]
    try simp -implicitDefEqProofs only [dDef_3_2, dSeq_m, dRet_m, dCall_m, dArgs_c, dArgs_n, dLst_m, dMeth_eq, dVar_m, dPure_m, dOp_m, dIfS_m, dNext_m, dtOr_m, dtVal_m, oNe_m, mBl_b, dtNot_m, dLc_m, wipeL_c, wipeL_n, cSeq_m, dSet_m, mVar_s, gList_l, dProp_m, isOf0_i, gLen_l, oSub_i, mSeq_l, bT_nm, isi_lst_list, dAnd_m, mAnd_t, okEq_int, eqD_int, List.length_cons, List.length_nil, List.cons_append, List.nil_append, Nat.reduceAdd, Nat.reduceSub, List.getElem?_cons_zero, List.getElem?_cons_succ, List.set_cons_zero, List.set_cons_succ, Option.some.injEq, exists_eq_left', true_and, and_true, if_true, if_false, Bool.false_eq_true, Bool.true_eq_false, Bool.not_true, Bool.not_false, reduceIte, beq_self_eq_true, decide_true, Bool.or_false, Bool.or_true, Bool.false_or, Bool.true_or]
    refine ev__law_is_spot ?_
    try simp -implicitDefEqProofs only [dDef_3_2, dSeq_m, dRet_m, dCall_m, dArgs_c, dArgs_n, dLst_m, dMeth_eq, dVar_m, dPure_m, dOp_m, dIfS_m, dNext_m, dtOr_m, dtVal_m, oNe_m, mBl_b, dtNot_m, dLc_m, wipeL_c, wipeL_n, cSeq_m, dSet_m, mVar_s, gList_l, dProp_m, isOf0_i, gLen_l, oSub_i, mSeq_l, bT_nm, isi_lst_list, dAnd_m, mAnd_t, okEq_int, eqD_int, List.length_cons, List.length_nil, List.cons_append, List.nil_append, Nat.reduceAdd, Nat.reduceSub, List.getElem?_cons_zero, List.getElem?_cons_succ, List.set_cons_zero, List.set_cons_succ, Option.some.injEq, exists_eq_left', true_and, and_true, if_true, if_false, Bool.false_eq_true, Bool.true_eq_false, Bool.not_true, Bool.not_false, reduceIte, beq_self_eq_true, decide_true, Bool.or_false, Bool.or_true, Bool.false_or, Bool.true_or]
    refine ev__law_within (by omega) (hgA p hp) ?_
    rw [← h, reach_self hp]
    exact hk
  refine gAll_map (f := fun _ => true) ?_
  rw [show A.all (fun _ => true) = true by simp]
  try simp -implicitDefEqProofs only [dDef_3_2, dSeq_m, dRet_m, dCall_m, dArgs_c, dArgs_n, dLst_m, dMeth_eq, dVar_m, dPure_m, dOp_m, dIfS_m, dNext_m, dtOr_m, dtVal_m, oNe_m, mBl_b, dtNot_m, dLc_m, wipeL_c, wipeL_n, cSeq_m, dSet_m, mVar_s, gList_l, dProp_m, isOf0_i, gLen_l, oSub_i, mSeq_l, bT_nm, isi_lst_list, dAnd_m, mAnd_t, okEq_int, eqD_int, List.length_cons, List.length_nil, List.cons_append, List.nil_append, Nat.reduceAdd, Nat.reduceSub, List.getElem?_cons_zero, List.getElem?_cons_succ, List.set_cons_zero, List.set_cons_succ, Option.some.injEq, exists_eq_left', true_and, and_true, if_true, if_false, Bool.false_eq_true, Bool.true_eq_false, Bool.not_true, Bool.not_false, reduceIte, beq_self_eq_true, decide_true, Bool.or_false, Bool.or_true, Bool.false_or, Bool.true_or]
  refine ev__law_span gA ?_
  rw [hA.ind]
  try simp -implicitDefEqProofs only [dDef_3_2, dSeq_m, dRet_m, dCall_m, dArgs_c, dArgs_n, dLst_m, dMeth_eq, dVar_m, dPure_m, dOp_m, dIfS_m, dNext_m, dtOr_m, dtVal_m, oNe_m, mBl_b, dtNot_m, dLc_m, wipeL_c, wipeL_n, cSeq_m, dSet_m, mVar_s, gList_l, dProp_m, isOf0_i, gLen_l, oSub_i, mSeq_l, bT_nm, isi_lst_list, dAnd_m, mAnd_t, okEq_int, eqD_int, List.length_cons, List.length_nil, List.cons_append, List.nil_append, Nat.reduceAdd, Nat.reduceSub, List.getElem?_cons_zero, List.getElem?_cons_succ, List.set_cons_zero, List.set_cons_succ, Option.some.injEq, exists_eq_left', true_and, and_true, if_true, if_false, Bool.false_eq_true, Bool.true_eq_false, Bool.not_true, Bool.not_false, reduceIte, beq_self_eq_true, decide_true, Bool.or_false, Bool.or_true, Bool.false_or, Bool.true_or, List.length_map]
  refine ev__law_span hg ?_
  try simp -implicitDefEqProofs only [dDef_3_2, dSeq_m, dRet_m, dCall_m, dArgs_c, dArgs_n, dLst_m, dMeth_eq, dVar_m, dPure_m, dOp_m, dIfS_m, dNext_m, dtOr_m, dtVal_m, oNe_m, mBl_b, dtNot_m, dLc_m, wipeL_c, wipeL_n, cSeq_m, dSet_m, mVar_s, gList_l, dProp_m, isOf0_i, gLen_l, oSub_i, mSeq_l, bT_nm, isi_lst_list, dAnd_m, mAnd_t, okEq_int, eqD_int, List.length_cons, List.length_nil, List.cons_append, List.nil_append, Nat.reduceAdd, Nat.reduceSub, List.getElem?_cons_zero, List.getElem?_cons_succ, List.set_cons_zero, List.set_cons_succ, Option.some.injEq, exists_eq_left', true_and, and_true, if_true, if_false, Bool.false_eq_true, Bool.true_eq_false, Bool.not_true, Bool.not_false, reduceIte, beq_self_eq_true, decide_true, Bool.or_false, Bool.or_true, Bool.false_or, Bool.true_or, List.length_map]
  rw [decide_eq_true (by omega)]
  try simp -implicitDefEqProofs only [dDef_3_2, dSeq_m, dRet_m, dCall_m, dArgs_c, dArgs_n, dLst_m, dMeth_eq, dVar_m, dPure_m, dOp_m, dIfS_m, dNext_m, dtOr_m, dtVal_m, oNe_m, mBl_b, dtNot_m, dLc_m, wipeL_c, wipeL_n, cSeq_m, dSet_m, mVar_s, gList_l, dProp_m, isOf0_i, gLen_l, oSub_i, mSeq_l, bT_nm, isi_lst_list, dAnd_m, mAnd_t, okEq_int, eqD_int, List.length_cons, List.length_nil, List.cons_append, List.nil_append, Nat.reduceAdd, Nat.reduceSub, List.getElem?_cons_zero, List.getElem?_cons_succ, List.set_cons_zero, List.set_cons_succ, Option.some.injEq, exists_eq_left', true_and, and_true, if_true, if_false, Bool.false_eq_true, Bool.true_eq_false, Bool.not_true, Bool.not_false, reduceIte, beq_self_eq_true, decide_true, Bool.or_false, Bool.or_true, Bool.false_or, Bool.true_or]
  refine ev__law_span hg ?_
  refine ev__law_flat (by have := hI.len; omega) gI ?_
  rw [ind_ind]
  refine oOr_r (ev_oeq hA hI fI ?_)
  rw [eqF_reach hA hI h]
  refine meth_eqn ?_
  refine ev_Flat_equation hA (by omega) zA ?_
  refine ev__law_span hg ?_
  refine ev__law_flat (by have := hI.len; omega) gI ?_
  rw [ind_ind]
  refine meth_eqn ?_
  refine ev_Flat_equation hI (by omega) zI ?_
  rw [eqD2_reach hA hI h]
  exact ev__law_same (gd_eqL _) q
end Dw
set_option maxHeartbeats 60000
namespace Dw
open PySem PySem.Spec PyProof.Rows L2
open Dr
variable {K : PySem.W.Frag} {S : Sto} {post : D → Sto → Prop} {xp : Xp} {b : Addr}
theorem ev__law_quotient {x y : Rat} {n m : Nat} [a : SzC x n] [c : SzC y m] (hy : y ≠ 0) (h : n + m ≤ 9000) (k : post (fr (x / y)) S) : f__law_quotient K [fr x, fr y] S post xp := by
  unfold f__law_quotient u__law_quotient fr
  try simp -implicitDefEqProofs only [dDef_2_0, dRet_m, dCall_m, dArgs_c, dArgs_n, dOp_m, dPure_m, dVar_m, mVar_s, oIx_t, at2_0, at2_1, oMul_i, List.length_cons, List.length_nil, List.cons_append, List.nil_append, Nat.reduceAdd, Nat.reduceSub, List.getElem?_cons_zero, List.getElem?_cons_succ, List.set_cons_zero, List.set_cons_succ, Option.some.injEq, exists_eq_left', true_and, and_true, if_true, if_false, Bool.false_eq_true, Bool.true_eq_false, Bool.not_true, Bool.not_false, reduceIte, beq_self_eq_true, decide_true, Bool.or_false, Bool.or_true, Bool.false_or, Bool.true_or]
  refine ⟨Px.cmul a.h.1 c.h.2 (by omega), Px.cmul a.h.2 c.h.1 (by omega), ?_⟩
  have hn : y.num ≠ 0 := fun z => hy (Rat.num_eq_zero.mp z)
  refine ev__law_low (Int.mul_ne_zero (den_ne0 x) hn) (a.h.2.mul c.h.1) (by omega) ?_
  rw [← Px.div_eq]
  exact k
/-- where two lines cross, as the law reckons -/
def tn (s s' e' : Pt) : Rat := (s'.x - s.x) * (e'.y - s'.y) - (s'.y - s.y) * (e'.x - s'.x)
def ar (s e s' e' : Pt) : Rat := (e.x - s.x) * (e'.y - s'.y) - (e.y - s.y) * (e'.x - s'.x)
def lP (s e s' e' : Pt) : Pt := ⟨s.x + (e.x - s.x) * (tn s s' e' / ar s e s' e'), s.y + (e.y - s.y) * (tn s s' e' / ar s e s' e')⟩
theorem lP_iff {s e s' e' p : Pt} (h : e ≠ s) (h' : e' ≠ s') (hd : ar s e s' e' ≠ 0) : p = lP s e s' e' ↔ (cr s e p = 0 ∧ cr s' e' p = 0) := by
  have ht : ar s e s' e' * (tn s s' e' / ar s e s' e') = tn s s' e' := by
    generalize ar s e s' e' = a at *
    generalize tn s s' e' = t at *
    grind
  unfold lP
  generalize tn s s' e' / ar s e s' e' = t at *
  constructor
  · rintro rfl
    unfold cr ar tn at *
    constructor
    · grind
    · grind
  · rintro ⟨a, c⟩
    refine Pt.ext' ?_ ?_
    · have : ar s e s' e' * (p.x - (s.x + (e.x - s.x) * t)) = 0 := by
        unfold cr ar tn at *
        grind
      rcases Rat.mul_eq_zero.mp this with z | z
      · exact absurd z hd
      · grind
    · have : ar s e s' e' * (p.y - (s.y + (e.y - s.y) * t)) = 0 := by
        unfold cr ar tn at *
        grind
      rcases Rat.mul_eq_zero.mp this with z | z
      · exact absurd z hd
      · grind
theorem par_same {s e s' e' p : Pt} (h : e ≠ s) (h' : e' ≠ s') (hd : ar s e s' e' = 0) (k : cr s' e' s = 0) : cr s e p = 0 ↔ cr s' e' p = 0 := by
  have g := Pt.ne_or h
  have g' := Pt.ne_or h'
  unfold ar at hd
  unfold cr at *
  constructor
  · intro a
    rcases g with x | x
    · have : (e.x - s.x) * ((e'.x - s'.x) * (p.y - s'.y) - (e'.y - s'.y) * (p.x - s'.x)) = 0 := by grind
      exact (Rat.mul_eq_zero.mp this).resolve_left x
    · have : (e.y - s.y) * ((e'.x - s'.x) * (p.y - s'.y) - (e'.y - s'.y) * (p.x - s'.x)) = 0 := by grind
      exact (Rat.mul_eq_zero.mp this).resolve_left x
  · intro a
    rcases g' with x | x
    · have : (e'.x - s'.x) * ((e.x - s.x) * (p.y - s.y) - (e.y - s.y) * (p.x - s.x)) = 0 := by grind
      exact (Rat.mul_eq_zero.mp this).resolve_left x
    · have : (e'.y - s'.y) * ((e.x - s.x) * (p.y - s.y) - (e.y - s.y) * (p.x - s.x)) = 0 := by grind
      exact (Rat.mul_eq_zero.mp this).resolve_left x
theorem par_none {s e s' e' p : Pt} (h : e ≠ s) (hd : ar s e s' e' = 0) (a : cr s e p = 0) (c : cr s' e' p = 0) : cr s' e' s = 0 := by
  have g := Pt.ne_or h
  unfold ar at hd
  unfold cr at *
  rcases g with x | x
  · have : (e.x - s.x) * ((e'.x - s'.x) * (s.y - s'.y) - (e'.y - s'.y) * (s.x - s'.x)) = 0 := by grind
    exact (Rat.mul_eq_zero.mp this).resolve_left x
  · have : (e.y - s.y) * ((e'.x - s'.x) * (s.y - s'.y) - (e'.y - s'.y) * (s.x - s'.x)) = 0 := by grind
    exact (Rat.mul_eq_zero.mp this).resolve_left x
def lineC : List Pt → List Pt → List Pt
  | [s, e], [s', e'] => if ar s e s' e' = 0 then (if cr s' e' s = 0 then [s, e] else []) else [lP s e s' e']
  | _, _ => []
def lmeet (P Q : List Pt) : List Pt := if P.length = 3 then Q else if Q.length = 3 then P else if P.length < 2 then P.filter (fun x => reach Q x) else if Q.length < 2 then Q.filter (fun x => reach P x) else lineC P Q
theorem filt_reach {P Q : List Pt} (hP : Ind P) (h : P.length < 2) (p : Pt) : reach (ind (P.filter fun x => reach Q x)) p = (reach P p && reach Q p) := by
  cases hP with
  | zero => rfl
  | one c =>
    rcases g : reach Q c with _ | _
    · rw [List.filter_cons_of_neg (by simp [g])]
      show false = _
      by_cases e : p = c
      · subst e; simp [g]
      · unfold reach; simp [e]
    · rw [List.filter_cons_of_pos (by simp [g])]
      show reach [c] p = _
      by_cases e : p = c
      · subst e; rw [g]; simp
      · unfold reach; simp [e]
  | two _ _ _ => simp at h
  | three _ _ _ _ => simp at h
theorem lmeet_reach {P Q : List Pt} (hP : Ind P) (hQ : Ind Q) (p : Pt) : reach (ind (lmeet P Q)) p = (reach P p && reach Q p) := by
  unfold lmeet
  have tt : ∀ {A : List Pt}, Ind A → A.length = 3 → reach A p = true := by
    intro A hA h
    cases hA with
    | three _ _ _ _ => rfl
    | _ => simp at h
  split
  · rw [hQ.ind, tt hP (by assumption), Bool.true_and]
  split
  · rw [hP.ind, tt hQ (by assumption), Bool.and_true]
  split
  · exact filt_reach hP (by assumption) p
  split
  · rw [filt_reach hQ (by assumption) p, Bool.and_comm]
  · rename_i h1 h2 h3 h4
    cases hP with
    | zero => simp at h3
    | one c => simp at h3
    | three _ _ _ _ => simp at h1
    | two s e hne =>
      cases hQ with
      | zero => simp at h4
      | one c => simp at h4
      | three _ _ _ _ => simp at h2
      | two s' e' hne' =>
        unfold lineC
        simp only
        by_cases d : ar s e s' e' = 0
        · rw [if_pos d]
          by_cases k : cr s' e' s = 0
          · rw [if_pos k, (Ind.two s e hne).ind]
            have := par_same (p := p) hne hne' d k
            unfold reach
            rw [Bool.eq_iff_iff]
            simp only [Bool.and_eq_true, decide_eq_true_eq]
            exact ⟨fun a => ⟨a, this.mp a⟩, fun a => a.1⟩
          · rw [if_neg k]
            show false = _
            unfold reach
            rw [Bool.eq_iff_iff]
            simp only [Bool.and_eq_true, decide_eq_true_eq, Bool.false_eq_true, false_iff]
            exact fun z => k (par_none hne d z.1 z.2)
        · rw [if_neg d]
          have := lP_iff (p := p) hne hne' d
          show reach [lP s e s' e'] p = _
          unfold reach
          rw [Bool.eq_iff_iff]
          simp only [Bool.and_eq_true, decide_eq_true_eq]
          exact this
end Dw
set_option maxHeartbeats 60000
namespace Dw
open PySem PySem.Spec PyProof.Rows L2
open Dr
variable {K : PySem.W.Frag} {S : Sto} {post : D → Sto → Prop} {xp : Xp} {b : Addr}
theorem wLc_fp {ρ : Lc} {i : Nat} {c : DT} {elt : DE} {f : Pt → Bool} : ∀ (ps acc : List Pt) (post : List D → Sto → Prop), (∀ p ∈ ps, ∀ k : Bool → Sto → Prop, k (f p) S → c (ρ.set i (some (pD p))) S k noX) → (∀ p ∈ ps, ∀ k : D → Sto → Prop, k (pD p) S → elt (ρ.set i (some (pD p))) S k noX) → post ((acc ++ ps.filter f).map pD) S → wLc ρ (.nm i) c elt (ps.map pD) (acc.map pD) S post xp
  | [], acc, post, _, _, h => by
    rw [List.map_nil, wLc_n]
    simpa using h
  | p :: ps, acc, post, hc, he, h => by
    rw [List.map_cons, wLc_c, bT_nm]
    refine hc p (List.mem_cons_self ..) _ ?_
    by_cases hp : f p = true
    · rw [if_pos hp]
      refine he p (List.mem_cons_self ..) _ ?_
      have := wLc_fp ps (acc ++ [p]) post (fun d' hd => hc d' (List.mem_cons_of_mem _ hd)) (fun d' hd => he d' (List.mem_cons_of_mem _ hd)) (by
        rw [List.filter_cons_of_pos hp] at h
        rw [List.append_assoc]
        exact h)
      rw [List.map_append] at this
      exact this
    · rw [if_neg hp]
      refine wLc_fp ps acc post (fun d' hd => hc d' (List.mem_cons_of_mem _ hd)) (fun d' hd => he d' (List.mem_cons_of_mem _ hd)) ?_
      rw [List.filter_cons_of_neg hp] at h
      exact h
theorem sz_ar {n : Nat} {s e s' e' : Pt} (hs : Zp n s) (he : Zp n e) (hs' : Zp n s') (he' : Zp n e') : Px.SzR (8 * n + 5) (ar s e s' e') ∧ Px.SzR (8 * n + 5) (tn s s' e') := by
  have := hs.cx; have := hs.cy; have := he.cx; have := he.cy; have := hs'.cx; have := hs'.cy; have := he'.cx; have := he'.cy
  exact ⟨(SzC.h (x := (e.x - s.x) * (e'.y - s'.y) - (e.y - s.y) * (e'.x - s'.x))).mono (by omega), (SzC.h (x := (s'.x - s.x) * (e'.y - s'.y) - (s'.y - s.y) * (e'.x - s'.x))).mono (by omega)⟩
theorem sz_lP {n : Nat} {s e s' e' : Pt} (hs : Zp n s) (he : Zp n e) (hs' : Zp n s') (he' : Zp n e') (hd : ar s e s' e' ≠ 0) : Zp (19 * n + 12) (lP s e s' e') := by
  obtain ⟨a1, a2⟩ := sz_ar hs he hs' he'
  have := hs.cx; have := hs.cy; have := he.cx; have := he.cy
  have : SzC (tn s s' e' / ar s e s' e') (16 * n + 10) := ⟨Px.szr_div a2 a1 hd (by omega)⟩
  exact ⟨(SzC.h (x := s.x + (e.x - s.x) * (tn s s' e' / ar s e s' e'))).mono (by omega), (SzC.h (x := s.y + (e.y - s.y) * (tn s s' e' / ar s e s' e'))).mono (by omega)⟩
theorem ev__law_meet {n : Nat} {ps qs : List Pt} (hn : n ≤ 120) (hp : ∀ p ∈ ps, Zp n p) (hq : ∀ p ∈ qs, Zp n p) (k : post (.lst ((lmeet (ind ps) (ind qs)).map pD)) S) : f__law_meet K [.lst (ps.map pD), .lst (qs.map pD)] S post xp := by
  have up : ∀ {p : Pt}, Zp n p → Zp 255 p := fun h => h.up (by omega)
  have gp := Gd_small ps [] (by simp) (fun p h => up (hp p h))
  have gq := Gd_small qs [] (by simp) (fun p h => up (hq p h))
  have hP := ind_Ind ps
  have hQ := ind_Ind qs
  have zP : ∀ c ∈ ind ps, Zp n c := fun c h => hp c (ind_mem h)
  have zQ : ∀ c ∈ ind qs, Zp n c := fun c h => hq c (ind_mem h)
  have lP' := hP.len
  have lQ' := hQ.len
  unfold f__law_meet u__law_meet
  try simp -implicitDefEqProofs only [dDef_2_6, dSeq_m, dRet_m, dLst_m, dArgs_c, dArgs_n, dCall_m, dVar_m, dOp_m, dPure_m, dIfS_m, dIf_m, dtVal_m, dNext_m, dSet_m, dPar_m, setL_c, setL_n, dLc_m, wipeL_c, wipeL_n, cSeq_m, dUnp_m, dTup_m, mTup_t, mVar_s, mSeq_l, oIx_l, gLen_l, oLt_i, mBl_b, at2_1, at2_0, oIx_t, List.length_cons, List.length_nil, List.cons_append, List.nil_append, Nat.reduceAdd, Nat.reduceSub, List.getElem?_cons_zero, List.getElem?_cons_succ, List.set_cons_zero, List.set_cons_succ, Option.some.injEq, exists_eq_left', true_and, and_true, if_true, if_false, Bool.false_eq_true, Bool.true_eq_false, Bool.not_true, Bool.not_false, reduceIte, beq_self_eq_true, decide_true, Bool.or_false, Bool.or_true, Bool.false_or, Bool.true_or]
  refine ev__law_span gp ?_
  refine ev__law_span gq ?_
  try simp -implicitDefEqProofs only [dDef_2_6, dSeq_m, dRet_m, dLst_m, dArgs_c, dArgs_n, dCall_m, dVar_m, dOp_m, dPure_m, dIfS_m, dIf_m, dtVal_m, dNext_m, dSet_m, dPar_m, setL_c, setL_n, dLc_m, wipeL_c, wipeL_n, cSeq_m, dUnp_m, dTup_m, mTup_t, mVar_s, mSeq_l, oIx_l, gLen_l, oLt_i, mBl_b, at2_1, at2_0, oIx_t, List.length_cons, List.length_nil, List.cons_append, List.nil_append, Nat.reduceAdd, Nat.reduceSub, List.getElem?_cons_zero, List.getElem?_cons_succ, List.set_cons_zero, List.set_cons_succ, Option.some.injEq, exists_eq_left', true_and, and_true, if_true, if_false, Bool.false_eq_true, Bool.true_eq_false, Bool.not_true, Bool.not_false, reduceIte, beq_self_eq_true, decide_true, Bool.or_false, Bool.or_true, Bool.false_or, Bool.true_or, List.length_map]
  generalize ind ps = P at *
  generalize ind qs = Q at *
  have wQ : ∀ c ∈ P, Gd [] (Q ++ [c]) := fun c h => Gd_last Q [] c (by simp) (fun p h => up (zQ p h)) ((zP c h).up (by omega))
  have wP : ∀ c ∈ Q, Gd [] (P ++ [c]) := fun c h => Gd_last P [] c (by simp) (fun p h => up (zP p h)) ((zQ c h).up (by omega))
  unfold lmeet at k
  refine eqV_ii ?_
  by_cases h3 : P.length = 3
  · rw [if_pos h3] at k
    rw [decide_eq_true (by omega)]
    try simp -implicitDefEqProofs only [dDef_2_6, dSeq_m, dRet_m, dLst_m, dArgs_c, dArgs_n, dCall_m, dVar_m, dOp_m, dPure_m, dIfS_m, dIf_m, dtVal_m, dNext_m, dSet_m, dPar_m, setL_c, setL_n, dLc_m, wipeL_c, wipeL_n, cSeq_m, dUnp_m, dTup_m, mTup_t, mVar_s, mSeq_l, oIx_l, gLen_l, oLt_i, mBl_b, at2_1, at2_0, oIx_t, List.length_cons, List.length_nil, List.cons_append, List.nil_append, Nat.reduceAdd, Nat.reduceSub, List.getElem?_cons_zero, List.getElem?_cons_succ, List.set_cons_zero, List.set_cons_succ, Option.some.injEq, exists_eq_left', true_and, and_true, if_true, if_false, Bool.false_eq_true, Bool.true_eq_false, Bool.not_true, Bool.not_false, reduceIte, beq_self_eq_true, decide_true, Bool.or_false, Bool.or_true, Bool.false_or, Bool.true_or]
    exact k
  rw [if_neg h3] at k
  rw [decide_eq_false (by omega)]
  try simp -implicitDefEqProofs only [dDef_2_6, dSeq_m, dRet_m, dLst_m, dArgs_c, dArgs_n, dCall_m, dVar_m, dOp_m, dPure_m, dIfS_m, dIf_m, dtVal_m, dNext_m, dSet_m, dPar_m, setL_c, setL_n, dLc_m, wipeL_c, wipeL_n, cSeq_m, dUnp_m, dTup_m, mTup_t, mVar_s, mSeq_l, oIx_l, gLen_l, oLt_i, mBl_b, at2_1, at2_0, oIx_t, List.length_cons, List.length_nil, List.cons_append, List.nil_append, Nat.reduceAdd, Nat.reduceSub, List.getElem?_cons_zero, List.getElem?_cons_succ, List.set_cons_zero, List.set_cons_succ, Option.some.injEq, exists_eq_left', true_and, and_true, if_true, if_false, Bool.false_eq_true, Bool.true_eq_false, Bool.not_true, Bool.not_false, reduceIte, beq_self_eq_true, decide_true, Bool.or_false, Bool.or_true, Bool.false_or, Bool.true_or, List.length_map]
  refine eqV_ii ?_
  by_cases h4 : Q.length = 3
  · rw [if_pos h4] at k
    rw [decide_eq_true (by omega)]
    try simp -implicitDefEqProofs only [dDef_2_6, dSeq_m, dRet_m, dLst_m, dArgs_c, dArgs_n, dCall_m, dVar_m, dOp_m, dPure_m, dIfS_m, dIf_m, dtVal_m, dNext_m, dSet_m, dPar_m, setL_c, setL_n, dLc_m, wipeL_c, wipeL_n, cSeq_m, dUnp_m, dTup_m, mTup_t, mVar_s, mSeq_l, oIx_l, gLen_l, oLt_i, mBl_b, at2_1, at2_0, oIx_t, List.length_cons, List.length_nil, List.cons_append, List.nil_append, Nat.reduceAdd, Nat.reduceSub, List.getElem?_cons_zero, List.getElem?_cons_succ, List.set_cons_zero, List.set_cons_succ, Option.some.injEq, exists_eq_left', true_and, and_true, if_true, if_false, Bool.false_eq_true, Bool.true_eq_false, Bool.not_true, Bool.not_false, reduceIte, beq_self_eq_true, decide_true, Bool.or_false, Bool.or_true, Bool.false_or, Bool.true_or]
    exact k
  rw [if_neg h4] at k
  rw [decide_eq_false (by omega)]
  try simp -implicitDefEqProofs only [dDef_2_6, dSeq_m, dRet_m, dLst_m, dArgs_c, dArgs_n, dCall_m, dVar_m, dOp_m, dPure_m, dIfS_m, dIf_m, dtVal_m, dNext_m, dSet_m, dPar_m, setL_c, setL_n, dLc_m, wipeL_c, wipeL_n, cSeq_m, dUnp_m, dTup_m, mTup_t, mVar_s, mSeq_l, oIx_l, gLen_l, oLt_i, mBl_b, at2_1, at2_0, oIx_t, List.length_cons, List.length_nil, List.cons_append, List.nil_append, Nat.reduceAdd, Nat.reduceSub, List.getElem?_cons_zero, List.getElem?_cons_succ, List.set_cons_zero, List.set_cons_succ, Option.some.injEq, exists_eq_left', true_and, and_true, if_true, if_false, Bool.false_eq_true, Bool.true_eq_false, Bool.not_true, Bool.not_false, reduceIte, beq_self_eq_true, decide_true, Bool.or_false, Bool.or_true, Bool.false_or, Bool.true_or, List.length_map]
  by_cases h5 : P.length < 2
  · rw [if_pos h5] at k
    rw [decide_eq_true (by omega)]
    try simp -implicitDefEqProofs only [dDef_2_6, dSeq_m, dRet_m, dLst_m, dArgs_c, dArgs_n, dCall_m, dVar_m, dOp_m, dPure_m, dIfS_m, dIf_m, dtVal_m, dNext_m, dSet_m, dPar_m, setL_c, setL_n, dLc_m, wipeL_c, wipeL_n, cSeq_m, dUnp_m, dTup_m, mTup_t, mVar_s, mSeq_l, oIx_l, gLen_l, oLt_i, mBl_b, at2_1, at2_0, oIx_t, List.length_cons, List.length_nil, List.cons_append, List.nil_append, Nat.reduceAdd, Nat.reduceSub, List.getElem?_cons_zero, List.getElem?_cons_succ, List.set_cons_zero, List.set_cons_succ, Option.some.injEq, exists_eq_left', true_and, and_true, if_true, if_false, Bool.false_eq_true, Bool.true_eq_false, Bool.not_true, Bool.not_false, reduceIte, beq_self_eq_true, decide_true, Bool.or_false, Bool.or_true, Bool.false_or, Bool.true_or]
    refine ⟨by omega, ?_⟩
    refine wLc_fp (f := fun x => reach Q x) P [] _ (fun p hpp k' hk => ?_) (fun p hpp k' hk => ?_) k
    · try simp -implicitDefEqProofs only [dDef_2_6, dSeq_m, dRet_m, dLst_m, dArgs_c, dArgs_n, dCall_m, dVar_m, dOp_m, dPure_m, dIfS_m, dIf_m, dtVal_m, dNext_m, dSet_m, dPar_m, setL_c, setL_n, dLc_m, wipeL_c, wipeL_n, cSeq_m, dUnp_m, dTup_m, mTup_t, mVar_s, mSeq_l, oIx_l, gLen_l, oLt_i, mBl_b, at2_1, at2_0, oIx_t, List.length_cons, List.length_nil, List.cons_append, List.nil_append, Nat.reduceAdd, Nat.reduceSub, List.getElem?_cons_zero, List.getElem?_cons_succ, List.set_cons_zero, List.set_cons_succ, Option.some.injEq, exists_eq_left', true_and, and_true, if_true, if_false, Bool.false_eq_true, Bool.true_eq_false, Bool.not_true, Bool.not_false, reduceIte, beq_self_eq_true, decide_true, Bool.or_false, Bool.or_true, Bool.false_or, Bool.true_or]
      refine ev__law_within (by omega) (wQ p hpp) ?_
      rw [hQ.ind]
      try simp -implicitDefEqProofs only [dDef_2_6, dSeq_m, dRet_m, dLst_m, dArgs_c, dArgs_n, dCall_m, dVar_m, dOp_m, dPure_m, dIfS_m, dIf_m, dtVal_m, dNext_m, dSet_m, dPar_m, setL_c, setL_n, dLc_m, wipeL_c, wipeL_n, cSeq_m, dUnp_m, dTup_m, mTup_t, mVar_s, mSeq_l, oIx_l, gLen_l, oLt_i, mBl_b, at2_1, at2_0, oIx_t, List.length_cons, List.length_nil, List.cons_append, List.nil_append, Nat.reduceAdd, Nat.reduceSub, List.getElem?_cons_zero, List.getElem?_cons_succ, List.set_cons_zero, List.set_cons_succ, Option.some.injEq, exists_eq_left', true_and, and_true, if_true, if_false, Bool.false_eq_true, Bool.true_eq_false, Bool.not_true, Bool.not_false, reduceIte, beq_self_eq_true, decide_true, Bool.or_false, Bool.or_true, Bool.false_or, Bool.true_or]
      exact hk
    · try simp -implicitDefEqProofs only [dDef_2_6, dSeq_m, dRet_m, dLst_m, dArgs_c, dArgs_n, dCall_m, dVar_m, dOp_m, dPure_m, dIfS_m, dIf_m, dtVal_m, dNext_m, dSet_m, dPar_m, setL_c, setL_n, dLc_m, wipeL_c, wipeL_n, cSeq_m, dUnp_m, dTup_m, mTup_t, mVar_s, mSeq_l, oIx_l, gLen_l, oLt_i, mBl_b, at2_1, at2_0, oIx_t, List.length_cons, List.length_nil, List.cons_append, List.nil_append, Nat.reduceAdd, Nat.reduceSub, List.getElem?_cons_zero, List.getElem?_cons_succ, List.set_cons_zero, List.set_cons_succ, Option.some.injEq, exists_eq_left', true_and, and_true, if_true, if_false, Bool.false_eq_true, Bool.true_eq_false, Bool.not_true, Bool.not_false, reduceIte, beq_self_eq_true, decide_true, Bool.or_false, Bool.or_true, Bool.false_or, Bool.true_or]
      exact hk
  rw [if_neg h5] at k
  rw [decide_eq_false (by omega)]
  try simp -implicitDefEqProofs only [dDef_2_6, dSeq_m, dRet_m, dLst_m, dArgs_c, dArgs_n, dCall_m, dVar_m, dOp_m, dPure_m, dIfS_m, dIf_m, dtVal_m, dNext_m, dSet_m, dPar_m, setL_c, setL_n, dLc_m, wipeL_c, wipeL_n, cSeq_m, dUnp_m, dTup_m, mTup_t, mVar_s, mSeq_l, oIx_l, gLen_l, oLt_i, mBl_b, at2_1, at2_0, oIx_t, List.length_cons, List.length_nil, List.cons_append, List.nil_append, Nat.reduceAdd, Nat.reduceSub, List.getElem?_cons_zero, List.getElem?_cons_succ, List.set_cons_zero, List.set_cons_succ, Option.some.injEq, exists_eq_left', true_and, and_true, if_true, if_false, Bool.false_eq_true, Bool.true_eq_false, Bool.not_true, Bool.not_false, reduceIte, beq_self_eq_true, decide_true, Bool.or_false, Bool.or_true, Bool.false_or, Bool.true_or, List.length_map]
  by_cases h6 : Q.length < 2
  · rw [if_pos h6] at k
    rw [decide_eq_true (by omega)]
    try simp -implicitDefEqProofs only [dDef_2_6, dSeq_m, dRet_m, dLst_m, dArgs_c, dArgs_n, dCall_m, dVar_m, dOp_m, dPure_m, dIfS_m, dIf_m, dtVal_m, dNext_m, dSet_m, dPar_m, setL_c, setL_n, dLc_m, wipeL_c, wipeL_n, cSeq_m, dUnp_m, dTup_m, mTup_t, mVar_s, mSeq_l, oIx_l, gLen_l, oLt_i, mBl_b, at2_1, at2_0, oIx_t, List.length_cons, List.length_nil, List.cons_append, List.nil_append, Nat.reduceAdd, Nat.reduceSub, List.getElem?_cons_zero, List.getElem?_cons_succ, List.set_cons_zero, List.set_cons_succ, Option.some.injEq, exists_eq_left', true_and, and_true, if_true, if_false, Bool.false_eq_true, Bool.true_eq_false, Bool.not_true, Bool.not_false, reduceIte, beq_self_eq_true, decide_true, Bool.or_false, Bool.or_true, Bool.false_or, Bool.true_or]
    refine ⟨by omega, ?_⟩
    refine wLc_fp (f := fun x => reach P x) Q [] _ (fun p hpp k' hk => ?_) (fun p hpp k' hk => ?_) k
    · try simp -implicitDefEqProofs only [dDef_2_6, dSeq_m, dRet_m, dLst_m, dArgs_c, dArgs_n, dCall_m, dVar_m, dOp_m, dPure_m, dIfS_m, dIf_m, dtVal_m, dNext_m, dSet_m, dPar_m, setL_c, setL_n, dLc_m, wipeL_c, wipeL_n, cSeq_m, dUnp_m, dTup_m, mTup_t, mVar_s, mSeq_l, oIx_l, gLen_l, oLt_i, mBl_b, at2_1, at2_0, oIx_t, List.length_cons, List.length_nil, List.cons_append, List.nil_append, Nat.reduceAdd, Nat.reduceSub, List.getElem?_cons_zero, List.getElem?_cons_succ, List.set_cons_zero, List.set_cons_succ, Option.some.injEq, exists_eq_left', true_and, and_true, if_true, if_false, Bool.false_eq_true, Bool.true_eq_false, Bool.not_true, Bool.not_false, reduceIte, beq_self_eq_true, decide_true, Bool.or_false, Bool.or_true, Bool.false_or, Bool.true_or]
      refine ev__law_within (by omega) (wP p hpp) ?_
      rw [hP.ind]
      try simp -implicitDefEqProofs only [dDef_2_6, dSeq_m, dRet_m, dLst_m, dArgs_c, dArgs_n, dCall_m, dVar_m, dOp_m, dPure_m, dIfS_m, dIf_m, dtVal_m, dNext_m, dSet_m, dPar_m, setL_c, setL_n, dLc_m, wipeL_c, wipeL_n, cSeq_m, dUnp_m, dTup_m, mTup_t, mVar_s, mSeq_l, oIx_l, gLen_l, oLt_i, mBl_b, at2_1, at2_0, oIx_t, List.length_cons, List.length_nil, List.cons_append, List.nil_append, Nat.reduceAdd, Nat.reduceSub, List.getElem?_cons_zero, List.getElem?_cons_succ, List.set_cons_zero, List.set_cons_succ, Option.some.injEq, exists_eq_left', true_and, and_true, if_true, if_false, Bool.false_eq_true, Bool.true_eq_false, Bool.not_true, Bool.not_false, reduceIte, beq_self_eq_true, decide_true, Bool.or_false, Bool.or_true, Bool.false_or, Bool.true_or]
      exact hk
    · try simp -implicitDefEqProofs only [dDef_2_6, dSeq_m, dRet_m, dLst_m, dArgs_c, dArgs_n, dCall_m, dVar_m, dOp_m, dPure_m, dIfS_m, dIf_m, dtVal_m, dNext_m, dSet_m, dPar_m, setL_c, setL_n, dLc_m, wipeL_c, wipeL_n, cSeq_m, dUnp_m, dTup_m, mTup_t, mVar_s, mSeq_l, oIx_l, gLen_l, oLt_i, mBl_b, at2_1, at2_0, oIx_t, List.length_cons, List.length_nil, List.cons_append, List.nil_append, Nat.reduceAdd, Nat.reduceSub, List.getElem?_cons_zero, List.getElem?_cons_succ, List.set_cons_zero, List.set_cons_succ, Option.some.injEq, exists_eq_left', true_and, and_true, if_true, if_false, Bool.false_eq_true, Bool.true_eq_false, Bool.not_true, Bool.not_false, reduceIte, beq_self_eq_true, decide_true, Bool.or_false, Bool.or_true, Bool.false_or, Bool.true_or]
      exact hk
  rw [if_neg h6] at k
  rw [decide_eq_false (by omega)]
  try simp -implicitDefEqProofs only [dDef_2_6, dSeq_m, dRet_m, dLst_m, dArgs_c, dArgs_n, dCall_m, dVar_m, dOp_m, dPure_m, dIfS_m, dIf_m, dtVal_m, dNext_m, dSet_m, dPar_m, setL_c, setL_n, dLc_m, wipeL_c, wipeL_n, cSeq_m, dUnp_m, dTup_m, mTup_t, mVar_s, mSeq_l, oIx_l, gLen_l, oLt_i, mBl_b, at2_1, at2_0, oIx_t, List.length_cons, List.length_nil, List.cons_append, List.nil_append, Nat.reduceAdd, Nat.reduceSub, List.getElem?_cons_zero, List.getElem?_cons_succ, List.set_cons_zero, List.set_cons_succ, Option.some.injEq, exists_eq_left', true_and, and_true, if_true, if_false, Bool.false_eq_true, Bool.true_eq_false, Bool.not_true, Bool.not_false, reduceIte, beq_self_eq_true, decide_true, Bool.or_false, Bool.or_true, Bool.false_or, Bool.true_or]
  cases hP with
  | zero => simp at h5
  | one c => simp at h5
  | three _ _ _ _ => simp at h3
  | two s e hne =>
    cases hQ with
    | zero => simp at h6
    | one c => simp at h6
    | three _ _ _ _ => simp at h4
    | two s' e' hne' =>
      have hs := zP s (by simp)
      have he := zP e (by simp)
      have hs' := zQ s' (by simp)
      have he' := zQ e' (by simp)
      obtain ⟨z1, z2⟩ := sz_ar hs he hs' he'
      have u1 := szp_sub (h := he) (k := hs)
      have u2 := szp_sub (h := he') (k := hs')
      have u3 := szp_sub (h := hs') (k := hs)
      try simp -implicitDefEqProofs only [dDef_2_6, dSeq_m, dRet_m, dLst_m, dArgs_c, dArgs_n, dCall_m, dVar_m, dOp_m, dPure_m, dIfS_m, dIf_m, dtVal_m, dNext_m, dSet_m, dPar_m, setL_c, setL_n, dLc_m, wipeL_c, wipeL_n, cSeq_m, dUnp_m, dTup_m, mTup_t, mVar_s, mSeq_l, oIx_l, gLen_l, oLt_i, mBl_b, at2_1, at2_0, oIx_t, List.length_cons, List.length_nil, List.cons_append, List.nil_append, Nat.reduceAdd, Nat.reduceSub, List.getElem?_cons_zero, List.getElem?_cons_succ, List.set_cons_zero, List.set_cons_succ, Option.some.injEq, exists_eq_left', true_and, and_true, if_true, if_false, Bool.false_eq_true, Bool.true_eq_false, Bool.not_true, Bool.not_false, reduceIte, beq_self_eq_true, decide_true, Bool.or_false, Bool.or_true, Bool.false_or, Bool.true_or, List.map]
      refine ev__law_shift (by omega) ?_
      refine ev__law_shift (by omega) ?_
      try simp -implicitDefEqProofs only [dDef_2_6, dSeq_m, dRet_m, dLst_m, dArgs_c, dArgs_n, dCall_m, dVar_m, dOp_m, dPure_m, dIfS_m, dIf_m, dtVal_m, dNext_m, dSet_m, dPar_m, setL_c, setL_n, dLc_m, wipeL_c, wipeL_n, cSeq_m, dUnp_m, dTup_m, mTup_t, mVar_s, mSeq_l, oIx_l, gLen_l, oLt_i, mBl_b, at2_1, at2_0, oIx_t, List.length_cons, List.length_nil, List.cons_append, List.nil_append, Nat.reduceAdd, Nat.reduceSub, List.getElem?_cons_zero, List.getElem?_cons_succ, List.set_cons_zero, List.set_cons_succ, Option.some.injEq, exists_eq_left', true_and, and_true, if_true, if_false, Bool.false_eq_true, Bool.true_eq_false, Bool.not_true, Bool.not_false, reduceIte, beq_self_eq_true, decide_true, Bool.or_false, Bool.or_true, Bool.false_or, Bool.true_or]
      refine ev__law_cross (by omega) ?_
      try simp -implicitDefEqProofs only [dDef_2_6, dSeq_m, dRet_m, dLst_m, dArgs_c, dArgs_n, dCall_m, dVar_m, dOp_m, dPure_m, dIfS_m, dIf_m, dtVal_m, dNext_m, dSet_m, dPar_m, setL_c, setL_n, dLc_m, wipeL_c, wipeL_n, cSeq_m, dUnp_m, dTup_m, mTup_t, mVar_s, mSeq_l, oIx_l, gLen_l, oLt_i, mBl_b, at2_1, at2_0, oIx_t, List.length_cons, List.length_nil, List.cons_append, List.nil_append, Nat.reduceAdd, Nat.reduceSub, List.getElem?_cons_zero, List.getElem?_cons_succ, List.set_cons_zero, List.set_cons_succ, Option.some.injEq, exists_eq_left', true_and, and_true, if_true, if_false, Bool.false_eq_true, Bool.true_eq_false, Bool.not_true, Bool.not_false, reduceIte, beq_self_eq_true, decide_true, Bool.or_false, Bool.or_true, Bool.false_or, Bool.true_or]
      rw [show (e.x - s.x) * (e'.y - s'.y) - (e.y - s.y) * (e'.x - s'.x) = ar s e s' e' from rfl]
      refine eqV_ii ?_
      rw [num0]
      have lq : lineC [s, e] [s', e'] = if ar s e s' e' = 0 then (if cr s' e' s = 0 then [s, e] else []) else [lP s e s' e'] := rfl
      rw [lq] at k
      by_cases hd : ar s e s' e' = 0
      · rw [if_pos hd] at k
        rw [decide_eq_true hd]
        try simp -implicitDefEqProofs only [dDef_2_6, dSeq_m, dRet_m, dLst_m, dArgs_c, dArgs_n, dCall_m, dVar_m, dOp_m, dPure_m, dIfS_m, dIf_m, dtVal_m, dNext_m, dSet_m, dPar_m, setL_c, setL_n, dLc_m, wipeL_c, wipeL_n, cSeq_m, dUnp_m, dTup_m, mTup_t, mVar_s, mSeq_l, oIx_l, gLen_l, oLt_i, mBl_b, at2_1, at2_0, oIx_t, List.length_cons, List.length_nil, List.cons_append, List.nil_append, Nat.reduceAdd, Nat.reduceSub, List.getElem?_cons_zero, List.getElem?_cons_succ, List.set_cons_zero, List.set_cons_succ, Option.some.injEq, exists_eq_left', true_and, and_true, if_true, if_false, Bool.false_eq_true, Bool.true_eq_false, Bool.not_true, Bool.not_false, reduceIte, beq_self_eq_true, decide_true, Bool.or_false, Bool.or_true, Bool.false_or, Bool.true_or]
        refine ev__law_within (ps := [s', e']) (p := s) (by simp) (wQ s (by simp)) ?_
        rw [(Ind.two s' e' hne').ind, show reach [s', e'] s = decide (cr s' e' s = 0) from rfl]
        by_cases hc : cr s' e' s = 0
        · rw [if_pos hc] at k
          rw [decide_eq_true hc]
          try simp -implicitDefEqProofs only [dDef_2_6, dSeq_m, dRet_m, dLst_m, dArgs_c, dArgs_n, dCall_m, dVar_m, dOp_m, dPure_m, dIfS_m, dIf_m, dtVal_m, dNext_m, dSet_m, dPar_m, setL_c, setL_n, dLc_m, wipeL_c, wipeL_n, cSeq_m, dUnp_m, dTup_m, mTup_t, mVar_s, mSeq_l, oIx_l, gLen_l, oLt_i, mBl_b, at2_1, at2_0, oIx_t, List.length_cons, List.length_nil, List.cons_append, List.nil_append, Nat.reduceAdd, Nat.reduceSub, List.getElem?_cons_zero, List.getElem?_cons_succ, List.set_cons_zero, List.set_cons_succ, Option.some.injEq, exists_eq_left', true_and, and_true, if_true, if_false, Bool.false_eq_true, Bool.true_eq_false, Bool.not_true, Bool.not_false, reduceIte, beq_self_eq_true, decide_true, Bool.or_false, Bool.or_true, Bool.false_or, Bool.true_or]
          exact k
        · rw [if_neg hc] at k
          rw [decide_eq_false hc]
          try simp -implicitDefEqProofs only [dDef_2_6, dSeq_m, dRet_m, dLst_m, dArgs_c, dArgs_n, dCall_m, dVar_m, dOp_m, dPure_m, dIfS_m, dIf_m, dtVal_m, dNext_m, dSet_m, dPar_m, setL_c, setL_n, dLc_m, wipeL_c, wipeL_n, cSeq_m, dUnp_m, dTup_m, mTup_t, mVar_s, mSeq_l, oIx_l, gLen_l, oLt_i, mBl_b, at2_1, at2_0, oIx_t, List.length_cons, List.length_nil, List.cons_append, List.nil_append, Nat.reduceAdd, Nat.reduceSub, List.getElem?_cons_zero, List.getElem?_cons_succ, List.set_cons_zero, List.set_cons_succ, Option.some.injEq, exists_eq_left', true_and, and_true, if_true, if_false, Bool.false_eq_true, Bool.true_eq_false, Bool.not_true, Bool.not_false, reduceIte, beq_self_eq_true, decide_true, Bool.or_false, Bool.or_true, Bool.false_or, Bool.true_or]
          exact k
      · rw [if_neg hd] at k
        rw [decide_eq_false hd]
        try simp -implicitDefEqProofs only [dDef_2_6, dSeq_m, dRet_m, dLst_m, dArgs_c, dArgs_n, dCall_m, dVar_m, dOp_m, dPure_m, dIfS_m, dIf_m, dtVal_m, dNext_m, dSet_m, dPar_m, setL_c, setL_n, dLc_m, wipeL_c, wipeL_n, cSeq_m, dUnp_m, dTup_m, mTup_t, mVar_s, mSeq_l, oIx_l, gLen_l, oLt_i, mBl_b, at2_1, at2_0, oIx_t, List.length_cons, List.length_nil, List.cons_append, List.nil_append, Nat.reduceAdd, Nat.reduceSub, List.getElem?_cons_zero, List.getElem?_cons_succ, List.set_cons_zero, List.set_cons_succ, Option.some.injEq, exists_eq_left', true_and, and_true, if_true, if_false, Bool.false_eq_true, Bool.true_eq_false, Bool.not_true, Bool.not_false, reduceIte, beq_self_eq_true, decide_true, Bool.or_false, Bool.or_true, Bool.false_or, Bool.true_or]
        refine ev__law_shift (by omega) ?_
        refine ev__law_cross (by omega) ?_
        rw [show (s'.x - s.x) * (e'.y - s'.y) - (s'.y - s.y) * (e'.x - s'.x) = tn s s' e' from rfl]
        have c1 : SzC (tn s s' e') (8 * n + 5) := ⟨z2⟩
        have c2 : SzC (ar s e s' e') (8 * n + 5) := ⟨z1⟩
        refine ev__law_quotient hd (by omega) ?_
        have c3 : SzC (tn s s' e' / ar s e s' e') (16 * n + 10) := ⟨Px.szr_div z2 z1 hd (by omega)⟩
        refine ev_long (x := e.x - s.x) (y := e.y - s.y) (by omega) ?_
        have c4 : SzP ((e.x - s.x) * (tn s s' e' / ar s e s' e')) ((e.y - s.y) * (tn s s' e' / ar s e s' e')) (n + n + 1 + (16 * n + 10)) := by
          have := u1.cx; have := u1.cy
          exact ⟨SzC.h (x := (e.x - s.x) * (tn s s' e' / ar s e s' e')), SzC.h (x := (e.y - s.y) * (tn s s' e' / ar s e s' e'))⟩
        refine ev__law_moved (x := s.x) (y := s.y) (by omega) ?_
        exact k
end Dw
set_option maxHeartbeats 60000
namespace Dw
open PySem PySem.Spec PyProof.Rows L2
open Dr
variable {K : PySem.W.Frag} {S : Sto} {post : D → Sto → Prop} {xp : Xp} {b : Addr}
/-- small spots, or one that is not too big -/
def Tl (M : List Pt) : Prop := (∀ c ∈ M, Zp 2900 c) ∧ (M.length ≤ 1 ∨ ∀ c ∈ M, Zp 255 c)
theorem Tl.of {n : Nat} {M : List Pt} (hn : n ≤ 255) (h : ∀ c ∈ M, Zp n c) : Tl M := ⟨fun c hc => (h c hc).up (by omega), .inr fun c hc => (h c hc).up hn⟩
theorem Tl.fit {M : List Pt} (h : Tl M) {p : Pt} (hp : Zp 2900 p) : Fit M p := fun l => ⟨by
  rcases h.2 with z | z
  · omega
  · exact z, hp⟩
theorem Tl.gd {M : List Pt} (h : Tl M) : Gd [] M := by
  rcases h.2 with z | z
  · match M, z with
    | [], _ => trivial
    | [c], _ => exact Gd_one
    | _ :: _ :: _, z => simp at z
  · exact Gd_small M [] (by simp) z
theorem Tl.gd1 {M : List Pt} (h : Tl M) {p : Pt} (hp : Zp 2900 p) : Gd [] (M ++ [p]) := by
  rcases h.2 with z | z
  · match M, z with
    | [], _ => exact Gd_one
    | [c], _ => exact Gd_two
    | _ :: _ :: _, z => simp at z
  · exact Gd_last M [] p (by simp) z hp
theorem Tl.app {A M : List Pt} (h : Tl M) (hA : ∀ c ∈ A, Zp 255 c) : Gd [] (A ++ M) := by
  rcases h.2 with z | z
  · match M, h, z with
    | [], h, _ => rw [List.append_nil]; exact Gd_small A [] (by simp) hA
    | [c], h, _ => exact Gd_last A [] c (by simp) hA (h.1 c (by simp))
    | _ :: _ :: _, h, z => simp at z
  · refine Gd_small _ [] (by simp) (fun c hc => ?_)
    rcases List.mem_append.mp hc with k | k
    · exact hA c k
    · exact z c k
theorem Tl.ind {M : List Pt} (h : Tl M) : Tl (ind M) := by
  refine ⟨fun c hc => h.1 c (ind_mem hc), ?_⟩
  rcases h.2 with z | z
  · left
    match M, z with
    | [], _ => simp [Dw.ind]
    | [c], _ => simp [Dw.ind, addP, reach]
    | _ :: _ :: _, z => simp at z
  · exact .inr fun c hc => z c (ind_mem hc)
theorem Tl.ln {n : Nat} {M : List Pt} (h : Tl M) : Ln 255 M := fun l => by
  rcases h.2 with z | z
  · omega
  · exact z
theorem cross_zp {n : Nat} {s e s' e' : Pt} (h : e ≠ s) (h' : e' ≠ s') (hs : Zp n s) (he : Zp n e) (hs' : Zp n s') (he' : Zp n e') (hd : dD s e s' e' ≠ 0) : Zp (28 * n + 15) (crossP s e s' e') := by
  obtain ⟨⟨a1, a2, a3⟩, ⟨b1, b2, b3⟩⟩ := cross_sz h h' hs he hs' he'
  have g1 := (Px.Sz.sub (a1.mul b2) (a2.mul b1)).mono (show _ ≤ 28 * n + 15 by omega)
  have g2 := (Px.Sz.sub (a3.mul b2) (a2.mul b3)).mono (show _ ≤ 28 * n + 15 by omega)
  have g3 := (Px.Sz.sub (a1.mul b3) (a3.mul b1)).mono (show _ ≤ 28 * n + 15 by omega)
  have d' : eDet s e s' e' ≠ 0 := fun z => hd (eDet_zero.mp z)
  exact ⟨Px.divInt_sz g2 g1 d', Px.divInt_sz g3 g1 d'⟩
theorem meet1_Tl {A B : List Pt} (hA : Ind A) (hB : Ind B) (zA : ∀ c ∈ A, Zp 103 c) (zB : ∀ c ∈ B, Zp 103 c) : Tl (meet1 A B) := by
  unfold meet1
  split
  · exact Tl.of (by decide) zA
  split
  · exact ⟨by simp, .inl (by simp)⟩
  · cases hA with
    | zero => exact ⟨by simp [crossC], .inl (by simp [crossC])⟩
    | one c => exact ⟨by simp [crossC], .inl (by simp [crossC])⟩
    | three _ _ _ _ => exact ⟨by simp [crossC], .inl (by simp [crossC])⟩
    | two s e hne =>
      cases hB with
      | zero => exact ⟨by simp [crossC], .inl (by simp [crossC])⟩
      | one c => exact ⟨by simp [crossC], .inl (by simp [crossC])⟩
      | three _ _ _ _ => exact ⟨by simp [crossC], .inl (by simp [crossC])⟩
      | two s' e' hne' =>
        rw [crossC_eq]
        by_cases d : dD s e s' e' = 0
        · rw [if_pos d]; exact ⟨by simp, .inl (by simp)⟩
        · rw [if_neg d]
          refine ⟨fun c hc => ?_, .inl (by simp)⟩
          rw [List.mem_singleton.mp hc]
          exact (cross_zp hne hne' (zA s (by simp)) (zA e (by simp)) (zB s' (by simp)) (zB e' (by simp)) d).up (by decide)
theorem meetC_Tl {A B : List Pt} (hA : Ind A) (hB : Ind B) (zA : ∀ c ∈ A, Zp 103 c) (zB : ∀ c ∈ B, Zp 103 c) : Tl (meetC A B) := by
  unfold meetC
  split
  · exact meet1_Tl hB hA zB zA
  · exact meet1_Tl hA hB zA zB
theorem lmeet_Tl {A B : List Pt} (hA : Ind A) (hB : Ind B) (zA : ∀ c ∈ A, Zp 103 c) (zB : ∀ c ∈ B, Zp 103 c) : Tl (lmeet A B) := by
  unfold lmeet
  split
  · exact Tl.of (by decide) zB
  split
  · exact Tl.of (by decide) zA
  split
  · exact Tl.of (by decide) (fun c hc => zA c (List.mem_filter.mp hc).1)
  split
  · exact Tl.of (by decide) (fun c hc => zB c (List.mem_filter.mp hc).1)
  · cases hA with
    | zero => exact ⟨by simp [lineC], .inl (by simp [lineC])⟩
    | one c => exact ⟨by simp [lineC], .inl (by simp [lineC])⟩
    | three _ _ _ _ => exact ⟨by simp [lineC], .inl (by simp [lineC])⟩
    | two s e hne =>
      cases hB with
      | zero => exact ⟨by simp [lineC], .inl (by simp [lineC])⟩
      | one c => exact ⟨by simp [lineC], .inl (by simp [lineC])⟩
      | three _ _ _ _ => exact ⟨by simp [lineC], .inl (by simp [lineC])⟩
      | two s' e' hne' =>
        rw [show lineC [s, e] [s', e'] = if ar s e s' e' = 0 then (if cr s' e' s = 0 then [s, e] else []) else [lP s e s' e'] from rfl]
        by_cases d : ar s e s' e' = 0
        · rw [if_pos d]
          split
          · exact Tl.of (by decide) zA
          · exact ⟨by simp, .inl (by simp)⟩
        · rw [if_neg d]
          refine ⟨fun c hc => ?_, .inl (by simp)⟩
          rw [List.mem_singleton.mp hc]
          exact (sz_lP (zA s (by simp)) (zA e (by simp)) (zB s' (by simp)) (zB e' (by simp)) d).up (by decide)
/-- what a list spans, told of a flat (sizes by Tl) -/
theorem ev_is_flatT {A ps qs : List Pt} (hA : Ind A) (h : ∀ p, reach A p = reach (ind ps) p) (tA : Tl A) (tp : Tl ps) (hq : ∀ p ∈ qs, Zp 2900 p) (hl : ps.length ≤ 400) (hm : qs.length ≤ 400) (q : post (.bl true) S) : f__law_is_flat K [flD K A, .lst (ps.map pD), .lst (qs.map pD)] S post xp := by
  have all : ∀ p ∈ ps ++ qs, Zp 2900 p := fun p hp => by
    rcases List.mem_append.mp hp with k | k
    · exact tp.1 p k
    · exact hq p k
  exact ev_is_flat (n := 255) hA h tp.gd (fun p hp => tp.gd1 (all p hp)) (fun p hp => tp.gd1 (tA.1 p hp)) (fun p hp => tA.fit (all p hp)) (fun p hp => tA.fit (tp.ind.1 p hp)) tA.gd tp.ind.gd (Tl.ln (n := 0) tA) (Tl.ln (n := 0) tp.ind) (by decide) hl hm q
end Dw
set_option maxHeartbeats 60000
namespace Dw
open PySem PySem.Spec PyProof.Rows L2
open Dr
variable {K : PySem.W.Frag} {S : Sto} {post : D → Sto → Prop} {xp : Xp} {b : Addr}
theorem ind_perm {L M : List Pt} (h1 : ∀ q ∈ L, q ∈ M) (h2 : ∀ q ∈ M, q ∈ L) (p : Pt) : reach (ind L) p = reach (ind M) p := ind_reach (fun q hq => ind_all (h1 q hq)) (fun q hq => ind_all (h2 q hq)) p
theorem fold_abs : ∀ (M A : List Pt), (∀ q ∈ M, reach A q = true) → M.foldl addP A = A
  | [], A, _ => rfl
  | q :: M, A, h => by
    have e : addP A q = A := by unfold addP; rw [h q (by simp)]; rfl
    rw [List.foldl_cons, e]
    exact fold_abs M A (fun q hq => h q (List.mem_cons_of_mem _ hq))
theorem ind_abs_eq {A M : List Pt} (hA : Ind A) (h : ∀ q ∈ M, reach A q = true) : ind (A ++ M) = A := by
  have e := hA.ind
  unfold ind at e ⊢
  rw [List.foldl_append, e]
  exact fold_abs M A h
theorem ev_same_flat {X Y : List Pt} (hX : Ind X) (hY : Ind Y) (tX : Tl X) (tY : Tl Y) (h : ∀ p, reach X p = reach Y p) (k : post (.bl true) S) : oOwnEq [(C_Flat K, f_Flat___eq__ K)] (own K) (flD K X) (flD K Y) S post xp := by
  refine ev_oeq hX hY (fun c hc => tX.fit (tY.1 c hc)) ?_
  rw [eqF_reach hX hY h]
  exact k
theorem ev_oandT {A B : List Pt} (hA : Ind A) (hB : Ind B) (tA : Tl A) (tB : Tl B) (k : post (flD K (meetC A B)) S) : oOwn [(C_Flat K, f_Flat___and__ K)] (flD K A) (flD K B) S post xp :=
  ev_oand (n := 255) hA hB (Tl.ln (n := 0) tA) (Tl.ln (n := 0) tB) (by decide) (fun c hc => tB.fit (tA.1 c hc)) (fun c hc => tA.fit (tB.1 c hc)) k
theorem sm_app {n : Nat} {A B : List Pt} (hA : ∀ c ∈ A, Zp n c) (hB : ∀ c ∈ B, Zp n c) : ∀ c ∈ A ++ B, Zp n c := fun c hc => by
  rcases List.mem_append.mp hc with k | k
  · exact hA c k
  · exact hB c k
theorem sm_ind {n : Nat} {A : List Pt} (hA : ∀ c ∈ A, Zp n c) : ∀ c ∈ ind A, Zp n c := fun c hc => hA c (ind_mem hc)
theorem reach_sub {A J : List Pt} (hA : Ind A) (hJ : Ind J) (h : ∀ q ∈ A, reach J q = true) (p : Pt) : (reach A p && reach J p) = reach A p := by
  rcases ha : reach A p with _ | _
  · rfl
  · rw [reach_in hJ hA h ha]; rfl
theorem len_le {A B : List Pt} (hA : Ind A) (hB : Ind B) (sub : ∀ q ∈ A, reach B q = true) : A.length ≤ B.length := by
  cases hA with
  | zero => simp
  | one c =>
    have := sub c (by simp)
    cases hB <;> first | (cases this; done) | simp
  | two s e hne =>
    have h1 := sub s (by simp)
    have h2 := sub e (by simp)
    cases hB with
    | zero => cases h1
    | one c =>
      unfold reach at h1 h2
      simp only [decide_eq_true_eq] at h1 h2
      exact absurd (h2.trans h1.symm) hne
    | two _ _ _ => simp
    | three _ _ _ _ => simp
  | three s e t g =>
    have h1 := sub s (by simp)
    have h2 := sub e (by simp)
    have h3 := sub t (by simp)
    have hne : e ≠ s := fun k => g (by rw [k]; exact cr_same s t)
    cases hB with
    | zero => cases h1
    | one c =>
      unfold reach at h1 h2
      simp only [decide_eq_true_eq] at h1 h2
      exact absurd (h2.trans h1.symm) hne
    | two a c hac =>
      unfold reach at h1 h2 h3
      simp only [decide_eq_true_eq] at h1 h2 h3
      exact absurd (line_three hac h1 h2 h3) g
    | three _ _ _ _ => simp
theorem meetC_sub {M A : List Pt} (hM : Ind M) (hA : Ind A) (h : ∀ q ∈ M, reach A q = true) : meetC M A = M := by
  have := len_le hM hA h
  unfold meetC
  rw [if_neg (by omega)]
  unfold meet1
  rw [if_pos (by rw [List.all_eq_true]; exact h)]
theorem ev_new0 (k : post (flD K []) S) : nNewS (C_Flat K) (f_Flat___init__ K) [] S post xp := ev_new_Flat (ps := []) (by decide) trivial k
theorem meetC_nil (A : List Pt) : meetC A [] = [] := by
  cases A with
  | nil => rfl
  | cons c A => rfl
@[irreducible] def boT3 (K : PySem.W.Frag) : DS :=
  (dRet (dAnd (dCall (f__law_is_flat K) [(dVar 3), (dVar 1), (dVar 5)]) (dCall (f__law_is_flat K) [(dVar 4), (dVar 2), (dVar 5)])))
@[irreducible] def boT2 (K : PySem.W.Frag) : DS :=
  (dSeq (dSet 8 (dLst [(dOp (oOr oEqV (oOwnEq [(C_Flat K, f_Flat___eq__ K)] (own K))) (dOp (oOwn [(C_Flat K, f_Flat___and__ K)]) (dVar 3) (dNewS (C_Flat K) (f_Flat___init__ K) [])) (dNewS (C_Flat K) (f_Flat___init__ K) [])), (dOp (oOwnEq [(C_Flat K, f_Flat___eq__ K)] (own K)) (dOp (oOwn [(C_Flat K, f_Flat___or__ K)]) (dVar 3) (dNewS (C_Flat K) (f_Flat___init__ K) [])) (dVar 3)), (dOp (oOr oEqV (oOwnEq [(C_Flat K, f_Flat___eq__ K)] (own K))) (dOp (oOwn [(C_Flat K, f_Flat___and__ K)]) (dVar 3) (dStat (f_Flat_whole K))) (dVar 3)), (dOp (oOwnEq [(C_Flat K, f_Flat___eq__ K)] (own K)) (dOp (oOwn [(C_Flat K, f_Flat___or__ K)]) (dStat (f_Flat_whole K)) (dVar 4)) (dStat (f_Flat_whole K))), (dOp (oOwnEq [(C_Flat K, f_Flat___eq__ K)] (own K)) (dOp (oOwn [(C_Flat K, f_Flat___or__ K)]) (dNewS (C_Flat K) (f_Flat___init__ K) []) (dNewS (C_Flat K) (f_Flat___init__ K) [])) (dNewS (C_Flat K) (f_Flat___init__ K) []))])) (dSeq (dIfS (dtNot (dtVal (dCall (f__law_same K) [(dVar 8), (dLst [(dPure (.bl true)), (dPure (.bl true)), (dPure (.bl true)), (dPure (.bl true)), (dPure (.bl true))])]))) (dRet (dPure (.bl false))) dNext) (boT3 K)))
@[irreducible] def boT1 (K : PySem.W.Frag) : DS :=
  (dSeq (dSet 8 (dLst [(dOp (oOr oEqV (oOwnEq [(C_Flat K, f_Flat___eq__ K)] (own K))) (dOp (oOwn [(C_Flat K, f_Flat___and__ K)]) (dVar 4) (dVar 3)) (dVar 6)), (dOp (oOwnEq [(C_Flat K, f_Flat___eq__ K)] (own K)) (dOp (oOwn [(C_Flat K, f_Flat___or__ K)]) (dVar 4) (dVar 3)) (dVar 7)), (dOp (oOwnEq [(C_Flat K, f_Flat___eq__ K)] (own K)) (dOp (oOwn [(C_Flat K, f_Flat___or__ K)]) (dVar 3) (dVar 6)) (dVar 3)), (dOp (oOr oEqV (oOwnEq [(C_Flat K, f_Flat___eq__ K)] (own K))) (dOp (oOwn [(C_Flat K, f_Flat___and__ K)]) (dVar 3) (dVar 7)) (dVar 3)), (dOp (oOr oEqV (oOwnEq [(C_Flat K, f_Flat___eq__ K)] (own K))) (dOp (oOwn [(C_Flat K, f_Flat___and__ K)]) (dVar 6) (dVar 3)) (dVar 6)), (dOp (oOwnEq [(C_Flat K, f_Flat___eq__ K)] (own K)) (dOp (oOwn [(C_Flat K, f_Flat___or__ K)]) (dVar 7) (dVar 4)) (dVar 7)), (dOp (oOr oEqV (oOwnEq [(C_Flat K, f_Flat___eq__ K)] (own K))) (dOp (oOwn [(C_Flat K, f_Flat___and__ K)]) (dVar 3) (dVar 3)) (dVar 3)), (dOp (oOwnEq [(C_Flat K, f_Flat___eq__ K)] (own K)) (dOp (oOwn [(C_Flat K, f_Flat___or__ K)]) (dVar 3) (dVar 3)) (dVar 3))])) (dSeq (dIfS (dtNot (dtVal (dCall (f__law_same K) [(dVar 8), (dLst [(dPure (.bl true)), (dPure (.bl true)), (dPure (.bl true)), (dPure (.bl true)), (dPure (.bl true)), (dPure (.bl true)), (dPure (.bl true)), (dPure (.bl true))])]))) (dRet (dPure (.bl false))) dNext) (boT2 K)))
@[irreducible] def boT0 (K : PySem.W.Frag) : DS :=
  (dSeq (dPar [6, 7] [(dOp (oOwn [(C_Flat K, f_Flat___and__ K)]) (dVar 3) (dVar 4)), (dOp (oOwn [(C_Flat K, f_Flat___or__ K)]) (dVar 3) (dVar 4))]) (dSeq (dIfS (dtOr (dtNot (dtVal (dCall (f__law_is_flat K) [(dVar 6), (dCall (f__law_meet K) [(dVar 1), (dVar 2)]), (dVar 5)]))) (dtNot (dtVal (dCall (f__law_is_flat K) [(dVar 7), (dOp (oOr oAdd oAddV) (dCall gList [(dVar 1)]) (dCall gList [(dVar 2)])), (dVar 5)])))) (dRet (dPure (.bl false))) dNext) (boT1 K)))
theorem bo_eq : u__law_both_so K = (dSeq (dPar [3, 4] [(dCall (f__law_flat K) [(dVar 1)]), (dCall (f__law_flat K) [(dVar 2)])]) (dSeq (dSet 5 (dOp (oOr oAdd oAddV) (dCall (f__law_asked K) [(dVar 0), (dVar 1)]) (dCall (f__law_asked K) [(dVar 0), (dVar 2)]))) (boT0 K))) := by
  unfold u__law_both_so boT0 boT1 boT2 boT3
  rfl
theorem ev_both_so {ps qs : List Pt} (hl : ps.length ≤ 6) (hm : qs.length ≤ 6) (hp : ∀ p ∈ ps, Zp 103 p) (hq : ∀ p ∈ qs, Zp 103 p) (hb : hasBag S b) (q : post (.bl true) S) : f__law_both_so K [.val (.ref b), .lst (ps.map pD), .lst (qs.map pD)] S post xp := by
  have up : ∀ {p : Pt}, Zp 103 p → Zp 255 p := fun h => h.up (by decide)
  have gp := Gd_small ps [] (by simp) (fun p h => up (hp p h))
  have gq := Gd_small qs [] (by simp) (fun p h => up (hq p h))
  have hA := ind_Ind ps
  have hB := ind_Ind qs
  have zA := sm_ind hp
  have zB := sm_ind hq
  have lA := hA.len
  have lB := hB.len
  have hM := meetC_Ind hA hB
  have tM := meetC_Tl hA hB zA zB
  have rM := meetC_reach hA hB
  have tA : Tl (ind ps) := Tl.of (by decide) zA
  have tB : Tl (ind qs) := Tl.of (by decide) zB
  have hJ := ind_Ind (ind ps ++ ind qs)
  have zJ := sm_ind (sm_app zA zB)
  have tJ : Tl (ind (ind ps ++ ind qs)) := Tl.of (by decide) zJ
  have AJ : ∀ q ∈ ind ps, reach (ind (ind ps ++ ind qs)) q = true := fun q h => ind_all (List.mem_append_left _ h)
  have BJ : ∀ q ∈ ind qs, reach (ind (ind ps ++ ind qs)) q = true := fun q h => ind_all (List.mem_append_right _ h)
  have MA : ∀ q ∈ meetC (ind ps) (ind qs), reach (ind ps) q = true := fun q h => by
    have := reach_self h
    rw [rM] at this
    exact (Bool.and_eq_true_iff.mp this).1
  have up3 : ∀ {A : List Pt}, (∀ c ∈ A, Zp 103 c) → ∀ c ∈ A, Zp 255 c := fun h c hc => up (h c hc)
  unfold f__law_both_so
  rw [bo_eq]
  try simp -implicitDefEqProofs only [dDef_3_6, dSeq_m, dSet_m, dOp_m, dCall_m, dArgs_c, dArgs_n, dVar_m, dPar_m, setL_c, setL_n, mVar_s, dIfS_m, dRet_m, dPure_m, dNext_m, dtOr_m, dtNot_m, dtVal_m, gList_l, mBl_b, dLst_m, dStat_m, dAnd_m, mAnd_t, List.length_cons, List.length_nil, List.cons_append, List.nil_append, Nat.reduceAdd, Nat.reduceSub, List.getElem?_cons_zero, List.getElem?_cons_succ, List.set_cons_zero, List.set_cons_succ, Option.some.injEq, exists_eq_left', true_and, and_true, if_true, if_false, Bool.false_eq_true, Bool.true_eq_false, Bool.not_true, Bool.not_false, reduceIte, beq_self_eq_true, decide_true, Bool.or_false, Bool.or_true, Bool.false_or, Bool.true_or, dNewS_m, -oOwn_m, -oOwnEq_m]
  refine ev__law_flat hl gp ?_
  refine ev__law_flat hm gq ?_
  try simp -implicitDefEqProofs only [dDef_3_6, dSeq_m, dSet_m, dOp_m, dCall_m, dArgs_c, dArgs_n, dVar_m, dPar_m, setL_c, setL_n, mVar_s, dIfS_m, dRet_m, dPure_m, dNext_m, dtOr_m, dtNot_m, dtVal_m, gList_l, mBl_b, dLst_m, dStat_m, dAnd_m, mAnd_t, List.length_cons, List.length_nil, List.cons_append, List.nil_append, Nat.reduceAdd, Nat.reduceSub, List.getElem?_cons_zero, List.getElem?_cons_succ, List.set_cons_zero, List.set_cons_succ, Option.some.injEq, exists_eq_left', true_and, and_true, if_true, if_false, Bool.false_eq_true, Bool.true_eq_false, Bool.not_true, Bool.not_false, reduceIte, beq_self_eq_true, decide_true, Bool.or_false, Bool.or_true, Bool.false_or, Bool.true_or, dNewS_m, -oOwn_m, -oOwnEq_m]
  refine ev_asked (n := 103) (by decide) (by decide) hp (by omega) hb (fun rs hr hlr => ?_)
  refine ev_asked (n := 103) (by decide) (by decide) hq (by omega) hb (fun ts ht hlt => ?_)
  refine oOr_l ?_
  rw [oAdd_ll]
  refine ⟨by rw [List.length_map, List.length_map]; omega, ?_⟩
  rw [← List.map_append]
  have zas : ∀ p ∈ rs ++ ts, Zp 2900 p := fun p h => (sm_app hr ht p h).up (by decide)
  have las : (rs ++ ts).length ≤ 400 := by rw [List.length_append]; omega
  try simp -implicitDefEqProofs only [dDef_3_6, dSeq_m, dSet_m, dOp_m, dCall_m, dArgs_c, dArgs_n, dVar_m, dPar_m, setL_c, setL_n, mVar_s, dIfS_m, dRet_m, dPure_m, dNext_m, dtOr_m, dtNot_m, dtVal_m, gList_l, mBl_b, dLst_m, dStat_m, dAnd_m, mAnd_t, List.length_cons, List.length_nil, List.cons_append, List.nil_append, Nat.reduceAdd, Nat.reduceSub, List.getElem?_cons_zero, List.getElem?_cons_succ, List.set_cons_zero, List.set_cons_succ, Option.some.injEq, exists_eq_left', true_and, and_true, if_true, if_false, Bool.false_eq_true, Bool.true_eq_false, Bool.not_true, Bool.not_false, reduceIte, beq_self_eq_true, decide_true, Bool.or_false, Bool.or_true, Bool.false_or, Bool.true_or, dNewS_m, -oOwn_m, -oOwnEq_m]
  unfold boT0
  try simp -implicitDefEqProofs only [dDef_3_6, dSeq_m, dSet_m, dOp_m, dCall_m, dArgs_c, dArgs_n, dVar_m, dPar_m, setL_c, setL_n, mVar_s, dIfS_m, dRet_m, dPure_m, dNext_m, dtOr_m, dtNot_m, dtVal_m, gList_l, mBl_b, dLst_m, dStat_m, dAnd_m, mAnd_t, List.length_cons, List.length_nil, List.cons_append, List.nil_append, Nat.reduceAdd, Nat.reduceSub, List.getElem?_cons_zero, List.getElem?_cons_succ, List.set_cons_zero, List.set_cons_succ, Option.some.injEq, exists_eq_left', true_and, and_true, if_true, if_false, Bool.false_eq_true, Bool.true_eq_false, Bool.not_true, Bool.not_false, reduceIte, beq_self_eq_true, decide_true, Bool.or_false, Bool.or_true, Bool.false_or, Bool.true_or, dNewS_m, -oOwn_m, -oOwnEq_m]
  generalize hAA : ind ps = A at *
  generalize hBB : ind qs = B at *
  refine ev_oandT hA hB tA tB ?_
  refine ev_oor hA hB (tB.app (up3 zA)) ?_
  try simp -implicitDefEqProofs only [dDef_3_6, dSeq_m, dSet_m, dOp_m, dCall_m, dArgs_c, dArgs_n, dVar_m, dPar_m, setL_c, setL_n, mVar_s, dIfS_m, dRet_m, dPure_m, dNext_m, dtOr_m, dtNot_m, dtVal_m, gList_l, mBl_b, dLst_m, dStat_m, dAnd_m, mAnd_t, List.length_cons, List.length_nil, List.cons_append, List.nil_append, Nat.reduceAdd, Nat.reduceSub, List.getElem?_cons_zero, List.getElem?_cons_succ, List.set_cons_zero, List.set_cons_succ, Option.some.injEq, exists_eq_left', true_and, and_true, if_true, if_false, Bool.false_eq_true, Bool.true_eq_false, Bool.not_true, Bool.not_false, reduceIte, beq_self_eq_true, decide_true, Bool.or_false, Bool.or_true, Bool.false_or, Bool.true_or, dNewS_m, -oOwn_m, -oOwnEq_m]
  refine ev__law_meet (n := 103) (by decide) hp hq ?_
  rw [hAA, hBB]
  have tL := lmeet_Tl hA hB zA zB
  have lL : (lmeet A B).length ≤ 3 := by
    unfold lmeet
    split
    · exact lB
    split
    · exact lA
    split
    · exact Nat.le_trans (List.length_filter_le _ _) lA
    split
    · exact Nat.le_trans (List.length_filter_le _ _) lB
    · unfold lineC
      split
      · split
        · split <;> simp
        · simp
      · simp
  refine ev_is_flatT hM (fun p => by rw [rM, lmeet_reach hA hB]) tM tL zas (by omega) las ?_
  try simp -implicitDefEqProofs only [dDef_3_6, dSeq_m, dSet_m, dOp_m, dCall_m, dArgs_c, dArgs_n, dVar_m, dPar_m, setL_c, setL_n, mVar_s, dIfS_m, dRet_m, dPure_m, dNext_m, dtOr_m, dtNot_m, dtVal_m, gList_l, mBl_b, dLst_m, dStat_m, dAnd_m, mAnd_t, List.length_cons, List.length_nil, List.cons_append, List.nil_append, Nat.reduceAdd, Nat.reduceSub, List.getElem?_cons_zero, List.getElem?_cons_succ, List.set_cons_zero, List.set_cons_succ, Option.some.injEq, exists_eq_left', true_and, and_true, if_true, if_false, Bool.false_eq_true, Bool.true_eq_false, Bool.not_true, Bool.not_false, reduceIte, beq_self_eq_true, decide_true, Bool.or_false, Bool.or_true, Bool.false_or, Bool.true_or, dNewS_m, -oOwn_m, -oOwnEq_m]
  refine oOr_l ?_
  rw [oAdd_ll]
  refine ⟨by rw [List.length_map, List.length_map]; omega, ?_⟩
  rw [← List.map_append]
  have tpq : Tl (ps ++ qs) := Tl.of (n := 103) (by decide) (sm_app hp hq)
  refine ev_is_flatT hJ (fun p => ?_) tJ tpq zas (by rw [List.length_append]; omega) las ?_
  · refine ind_reach (fun q h => ?_) (fun q h => ?_) p
    · rcases List.mem_append.mp h with k | k
      · rw [← hAA] at k; exact ind_all (List.mem_append_left _ (ind_mem k))
      · rw [← hBB] at k; exact ind_all (List.mem_append_right _ (ind_mem k))
    · rcases List.mem_append.mp h with k | k
      · exact reach_in hJ hA AJ (by rw [← hAA]; exact ind_all k)
      · exact reach_in hJ hB BJ (by rw [← hBB]; exact ind_all k)
  try simp -implicitDefEqProofs only [dDef_3_6, dSeq_m, dSet_m, dOp_m, dCall_m, dArgs_c, dArgs_n, dVar_m, dPar_m, setL_c, setL_n, mVar_s, dIfS_m, dRet_m, dPure_m, dNext_m, dtOr_m, dtNot_m, dtVal_m, gList_l, mBl_b, dLst_m, dStat_m, dAnd_m, mAnd_t, List.length_cons, List.length_nil, List.cons_append, List.nil_append, Nat.reduceAdd, Nat.reduceSub, List.getElem?_cons_zero, List.getElem?_cons_succ, List.set_cons_zero, List.set_cons_succ, Option.some.injEq, exists_eq_left', true_and, and_true, if_true, if_false, Bool.false_eq_true, Bool.true_eq_false, Bool.not_true, Bool.not_false, reduceIte, beq_self_eq_true, decide_true, Bool.or_false, Bool.or_true, Bool.false_or, Bool.true_or, dNewS_m, -oOwn_m, -oOwnEq_m]
  unfold boT1
  try simp -implicitDefEqProofs only [dDef_3_6, dSeq_m, dSet_m, dOp_m, dCall_m, dArgs_c, dArgs_n, dVar_m, dPar_m, setL_c, setL_n, mVar_s, dIfS_m, dRet_m, dPure_m, dNext_m, dtOr_m, dtNot_m, dtVal_m, gList_l, mBl_b, dLst_m, dStat_m, dAnd_m, mAnd_t, List.length_cons, List.length_nil, List.cons_append, List.nil_append, Nat.reduceAdd, Nat.reduceSub, List.getElem?_cons_zero, List.getElem?_cons_succ, List.set_cons_zero, List.set_cons_succ, Option.some.injEq, exists_eq_left', true_and, and_true, if_true, if_false, Bool.false_eq_true, Bool.true_eq_false, Bool.not_true, Bool.not_false, reduceIte, beq_self_eq_true, decide_true, Bool.or_false, Bool.or_true, Bool.false_or, Bool.true_or, dNewS_m, -oOwn_m, -oOwnEq_m]
  refine ev_oandT hB hA tB tA ?_
  refine oOr_r (ev_same_flat (meetC_Ind hB hA) hM (meetC_Tl hB hA zB zA) tM (fun p => by rw [rM, meetC_reach hB hA, Bool.and_comm]) ?_)
  refine ev_oor hB hA (tA.app (up3 zB)) ?_
  refine ev_same_flat (ind_Ind _) hJ (Tl.of (by decide) (sm_ind (sm_app zB zA))) tJ (fun p => ind_perm (fun q h => by simp at h ⊢; exact h.symm) (fun q h => by simp at h ⊢; exact h.symm) p) ?_
  refine ev_oor hA hM (tM.app (up3 zA)) ?_
  rw [ind_abs_eq hA MA]
  refine ev_same_flat hA hA tA tA (fun _ => rfl) ?_
  refine ev_oandT hA hJ tA tJ ?_
  refine oOr_r (ev_same_flat (meetC_Ind hA hJ) hA (meetC_Tl hA hJ zA zJ) tA (fun p => by rw [meetC_reach hA hJ, reach_sub hA hJ AJ]) ?_)
  refine ev_oandT hM hA tM tA ?_
  have eMA : meetC (meetC A B) A = meetC A B := meetC_sub hM hA MA
  rw [eMA]
  refine oOr_r (ev_same_flat hM hM tM tM (fun _ => rfl) ?_)
  refine ev_oor hJ hB (tB.app (up3 zJ)) ?_
  rw [ind_abs_eq hJ BJ]
  refine ev_same_flat hJ hJ tJ tJ (fun _ => rfl) ?_
  refine ev_oandT hA hA tA tA ?_
  rw [meetC_sub hA hA (fun q h => reach_self h)]
  refine oOr_r (ev_same_flat hA hA tA tA (fun _ => rfl) ?_)
  refine ev_oor hA hA (tA.app (up3 zA)) ?_
  rw [ind_abs_eq hA (fun q h => reach_self h)]
  refine ev_same_flat hA hA tA tA (fun _ => rfl) ?_
  try simp -implicitDefEqProofs only [dDef_3_6, dSeq_m, dSet_m, dOp_m, dCall_m, dArgs_c, dArgs_n, dVar_m, dPar_m, setL_c, setL_n, mVar_s, dIfS_m, dRet_m, dPure_m, dNext_m, dtOr_m, dtNot_m, dtVal_m, gList_l, mBl_b, dLst_m, dStat_m, dAnd_m, mAnd_t, List.length_cons, List.length_nil, List.cons_append, List.nil_append, Nat.reduceAdd, Nat.reduceSub, List.getElem?_cons_zero, List.getElem?_cons_succ, List.set_cons_zero, List.set_cons_succ, Option.some.injEq, exists_eq_left', true_and, and_true, if_true, if_false, Bool.false_eq_true, Bool.true_eq_false, Bool.not_true, Bool.not_false, reduceIte, beq_self_eq_true, decide_true, Bool.or_false, Bool.or_true, Bool.false_or, Bool.true_or, dNewS_m, -oOwn_m, -oOwnEq_m]
  refine ev__law_same rfl ?_
  try simp -implicitDefEqProofs only [dDef_3_6, dSeq_m, dSet_m, dOp_m, dCall_m, dArgs_c, dArgs_n, dVar_m, dPar_m, setL_c, setL_n, mVar_s, dIfS_m, dRet_m, dPure_m, dNext_m, dtOr_m, dtNot_m, dtVal_m, gList_l, mBl_b, dLst_m, dStat_m, dAnd_m, mAnd_t, List.length_cons, List.length_nil, List.cons_append, List.nil_append, Nat.reduceAdd, Nat.reduceSub, List.getElem?_cons_zero, List.getElem?_cons_succ, List.set_cons_zero, List.set_cons_succ, Option.some.injEq, exists_eq_left', true_and, and_true, if_true, if_false, Bool.false_eq_true, Bool.true_eq_false, Bool.not_true, Bool.not_false, reduceIte, beq_self_eq_true, decide_true, Bool.or_false, Bool.or_true, Bool.false_or, Bool.true_or, dNewS_m, -oOwn_m, -oOwnEq_m]
  unfold boT2
  try simp -implicitDefEqProofs only [dDef_3_6, dSeq_m, dSet_m, dOp_m, dCall_m, dArgs_c, dArgs_n, dVar_m, dPar_m, setL_c, setL_n, mVar_s, dIfS_m, dRet_m, dPure_m, dNext_m, dtOr_m, dtNot_m, dtVal_m, gList_l, mBl_b, dLst_m, dStat_m, dAnd_m, mAnd_t, List.length_cons, List.length_nil, List.cons_append, List.nil_append, Nat.reduceAdd, Nat.reduceSub, List.getElem?_cons_zero, List.getElem?_cons_succ, List.set_cons_zero, List.set_cons_succ, Option.some.injEq, exists_eq_left', true_and, and_true, if_true, if_false, Bool.false_eq_true, Bool.true_eq_false, Bool.not_true, Bool.not_false, reduceIte, beq_self_eq_true, decide_true, Bool.or_false, Bool.or_true, Bool.false_or, Bool.true_or, dNewS_m, -oOwn_m, -oOwnEq_m]
  have h0 : Ind ([] : List Pt) := .zero
  have t0 : Tl [] := ⟨by simp, .inl (by simp)⟩
  have t3 : Tl three := Tl.of (by decide) three_z
  refine ev_new0 ?_
  refine ev_oandT hA h0 tA t0 ?_
  rw [meetC_nil]
  refine ev_new0 ?_
  refine oOr_r (ev_same_flat h0 h0 t0 t0 (fun _ => rfl) ?_)
  refine ev_new0 ?_
  refine ev_oor hA h0 (t0.app (up3 zA)) ?_
  rw [ind_abs_eq hA (fun q h => by cases h)]
  refine ev_same_flat hA hA tA tA (fun _ => rfl) ?_
  refine ev_whole ?_
  refine ev_oandT hA three_Ind tA t3 ?_
  rw [meetC_sub hA three_Ind (fun q h => rfl)]
  refine oOr_r (ev_same_flat hA hA tA tA (fun _ => rfl) ?_)
  refine ev_whole ?_
  refine ev_oor three_Ind hB (tB.app three_z) ?_
  rw [ind_abs_eq three_Ind (fun q h => rfl)]
  refine ev_whole ?_
  refine ev_same_flat three_Ind three_Ind t3 t3 (fun _ => rfl) ?_
  refine ev_new0 ?_
  refine ev_new0 ?_
  refine ev_oor h0 h0 trivial ?_
  rw [show ind (([] : List Pt) ++ []) = [] from rfl]
  refine ev_new0 ?_
  refine ev_same_flat h0 h0 t0 t0 (fun _ => rfl) ?_
  try simp -implicitDefEqProofs only [dDef_3_6, dSeq_m, dSet_m, dOp_m, dCall_m, dArgs_c, dArgs_n, dVar_m, dPar_m, setL_c, setL_n, mVar_s, dIfS_m, dRet_m, dPure_m, dNext_m, dtOr_m, dtNot_m, dtVal_m, gList_l, mBl_b, dLst_m, dStat_m, dAnd_m, mAnd_t, List.length_cons, List.length_nil, List.cons_append, List.nil_append, Nat.reduceAdd, Nat.reduceSub, List.getElem?_cons_zero, List.getElem?_cons_succ, List.set_cons_zero, List.set_cons_succ, Option.some.injEq, exists_eq_left', true_and, and_true, if_true, if_false, Bool.false_eq_true, Bool.true_eq_false, Bool.not_true, Bool.not_false, reduceIte, beq_self_eq_true, decide_true, Bool.or_false, Bool.or_true, Bool.false_or, Bool.true_or, dNewS_m, -oOwn_m, -oOwnEq_m]
  refine ev__law_same rfl ?_
  try simp -implicitDefEqProofs only [dDef_3_6, dSeq_m, dSet_m, dOp_m, dCall_m, dArgs_c, dArgs_n, dVar_m, dPar_m, setL_c, setL_n, mVar_s, dIfS_m, dRet_m, dPure_m, dNext_m, dtOr_m, dtNot_m, dtVal_m, gList_l, mBl_b, dLst_m, dStat_m, dAnd_m, mAnd_t, List.length_cons, List.length_nil, List.cons_append, List.nil_append, Nat.reduceAdd, Nat.reduceSub, List.getElem?_cons_zero, List.getElem?_cons_succ, List.set_cons_zero, List.set_cons_succ, Option.some.injEq, exists_eq_left', true_and, and_true, if_true, if_false, Bool.false_eq_true, Bool.true_eq_false, Bool.not_true, Bool.not_false, reduceIte, beq_self_eq_true, decide_true, Bool.or_false, Bool.or_true, Bool.false_or, Bool.true_or, dNewS_m, -oOwn_m, -oOwnEq_m]
  unfold boT3
  try simp -implicitDefEqProofs only [dDef_3_6, dSeq_m, dSet_m, dOp_m, dCall_m, dArgs_c, dArgs_n, dVar_m, dPar_m, setL_c, setL_n, mVar_s, dIfS_m, dRet_m, dPure_m, dNext_m, dtOr_m, dtNot_m, dtVal_m, gList_l, mBl_b, dLst_m, dStat_m, dAnd_m, mAnd_t, List.length_cons, List.length_nil, List.cons_append, List.nil_append, Nat.reduceAdd, Nat.reduceSub, List.getElem?_cons_zero, List.getElem?_cons_succ, List.set_cons_zero, List.set_cons_succ, Option.some.injEq, exists_eq_left', true_and, and_true, if_true, if_false, Bool.false_eq_true, Bool.true_eq_false, Bool.not_true, Bool.not_false, reduceIte, beq_self_eq_true, decide_true, Bool.or_false, Bool.or_true, Bool.false_or, Bool.true_or, dNewS_m, -oOwn_m, -oOwnEq_m]
  have tp : Tl ps := Tl.of (by decide) hp
  have tq : Tl qs := Tl.of (by decide) hq
  refine ev_is_flatT hA (fun p => by rw [← hAA]) tA tp zas (by omega) las ?_
  try simp -implicitDefEqProofs only [dDef_3_6, dSeq_m, dSet_m, dOp_m, dCall_m, dArgs_c, dArgs_n, dVar_m, dPar_m, setL_c, setL_n, mVar_s, dIfS_m, dRet_m, dPure_m, dNext_m, dtOr_m, dtNot_m, dtVal_m, gList_l, mBl_b, dLst_m, dStat_m, dAnd_m, mAnd_t, List.length_cons, List.length_nil, List.cons_append, List.nil_append, Nat.reduceAdd, Nat.reduceSub, List.getElem?_cons_zero, List.getElem?_cons_succ, List.set_cons_zero, List.set_cons_succ, Option.some.injEq, exists_eq_left', true_and, and_true, if_true, if_false, Bool.false_eq_true, Bool.true_eq_false, Bool.not_true, Bool.not_false, reduceIte, beq_self_eq_true, decide_true, Bool.or_false, Bool.or_true, Bool.false_or, Bool.true_or, dNewS_m, -oOwn_m, -oOwnEq_m]
  exact ev_is_flatT hB (fun p => by rw [← hBB]) tB tq zas (by omega) las q
end Dw
set_option maxHeartbeats 60000
namespace Dw
open PySem PySem.Spec PyProof.Rows L2
open Dr
variable {K : PySem.W.Frag} {S : Sto} {post : D → Sto → Prop} {xp : Xp} {b : Addr}
/-- spots of the law's own size, or one that is not too big -/
def Tm (M : List Pt) : Prop := (∀ c ∈ M, Zp 2900 c) ∧ (M.length ≤ 1 ∨ ∀ c ∈ M, Zp 103 c)
theorem Tm.tl {M : List Pt} (h : Tm M) : Tl M := ⟨h.1, h.2.imp id fun z c hc => (z c hc).up (by decide)⟩
theorem Tm.of {M : List Pt} (h : ∀ c ∈ M, Zp 103 c) : Tm M := ⟨fun c hc => (h c hc).up (by decide), .inr h⟩
theorem Tm.nil : Tm [] := ⟨by simp, .inl (by simp)⟩
theorem meet1_Tm {A B : List Pt} (hA : Ind A) (hB : Ind B) (hl : A.length ≤ B.length) (tA : Tm A) (tB : Tm B) : Tm (meet1 A B) := by
  unfold meet1
  split
  · exact tA
  split
  · exact Tm.nil
  · rename_i h2
    cases hA with
    | zero => exact Tm.nil
    | one c => exact Tm.nil
    | three _ _ _ _ => exact Tm.nil
    | two s e hne =>
      cases hB with
      | zero => exact Tm.nil
      | one c => exact Tm.nil
      | three _ _ _ _ => exact Tm.nil
      | two s' e' hne' =>
        have zA : ∀ c ∈ [s, e], Zp 103 c := tA.2.resolve_left (by simp)
        have zB : ∀ c ∈ [s', e'], Zp 103 c := tB.2.resolve_left (by simp)
        rw [crossC_eq]
        by_cases d : dD s e s' e' = 0
        · rw [if_pos d]; exact Tm.nil
        · rw [if_neg d]
          refine ⟨fun c hc => ?_, .inl (by simp)⟩
          rw [List.mem_singleton.mp hc]
          exact (cross_zp hne hne' (zA s (by simp)) (zA e (by simp)) (zB s' (by simp)) (zB e' (by simp)) d).up (by decide)
theorem meetC_Tm {A B : List Pt} (hA : Ind A) (hB : Ind B) (tA : Tm A) (tB : Tm B) : Tm (meetC A B) := by
  unfold meetC
  split
  · exact meet1_Tm hB hA (by omega) tB tA
  · exact meet1_Tm hA hB (by omega) tA tB
theorem ev_three_so {ps qs rs : List Pt} (hl : ps.length ≤ 6) (hm : qs.length ≤ 6) (hn : rs.length ≤ 6) (hp : ∀ p ∈ ps, Zp 103 p) (hq : ∀ p ∈ qs, Zp 103 p) (hr : ∀ p ∈ rs, Zp 103 p) (q : post (.bl true) S) : f__law_three_so K [.lst (ps.map pD), .lst (qs.map pD), .lst (rs.map pD)] S post xp := by
  have up : ∀ {p : Pt}, Zp 103 p → Zp 255 p := fun h => h.up (by decide)
  have up3 : ∀ {A : List Pt}, (∀ c ∈ A, Zp 103 c) → ∀ c ∈ A, Zp 255 c := fun h c hc => up (h c hc)
  have hA := ind_Ind ps
  have hB := ind_Ind qs
  have hC := ind_Ind rs
  have zA := sm_ind hp
  have zB := sm_ind hq
  have zC := sm_ind hr
  unfold f__law_three_so u__law_three_so
  try simp -implicitDefEqProofs only [dDef_3_3, dSeq_m, dRet_m, dCall_m, dArgs_c, dArgs_n, dLst_m, dPure_m, dOp_m, dVar_m, dPar_m, setL_c, setL_n, mVar_s, List.length_cons, List.length_nil, List.cons_append, List.nil_append, Nat.reduceAdd, Nat.reduceSub, List.getElem?_cons_zero, List.getElem?_cons_succ, List.set_cons_zero, List.set_cons_succ, Option.some.injEq, exists_eq_left', true_and, and_true, if_true, if_false, Bool.false_eq_true, Bool.true_eq_false, Bool.not_true, Bool.not_false, reduceIte, beq_self_eq_true, decide_true, Bool.or_false, Bool.or_true, Bool.false_or, Bool.true_or, -oOwn_m, -oOwnEq_m]
  refine ev__law_flat hl (Gd_small ps [] (by simp) (up3 hp)) ?_
  refine ev__law_flat hm (Gd_small qs [] (by simp) (up3 hq)) ?_
  refine ev__law_flat hn (Gd_small rs [] (by simp) (up3 hr)) ?_
  try simp -implicitDefEqProofs only [dDef_3_3, dSeq_m, dRet_m, dCall_m, dArgs_c, dArgs_n, dLst_m, dPure_m, dOp_m, dVar_m, dPar_m, setL_c, setL_n, mVar_s, List.length_cons, List.length_nil, List.cons_append, List.nil_append, Nat.reduceAdd, Nat.reduceSub, List.getElem?_cons_zero, List.getElem?_cons_succ, List.set_cons_zero, List.set_cons_succ, Option.some.injEq, exists_eq_left', true_and, and_true, if_true, if_false, Bool.false_eq_true, Bool.true_eq_false, Bool.not_true, Bool.not_false, reduceIte, beq_self_eq_true, decide_true, Bool.or_false, Bool.or_true, Bool.false_or, Bool.true_or, -oOwn_m, -oOwnEq_m]
  generalize ind ps = A at *
  generalize ind qs = B at *
  generalize ind rs = C at *
  have tA := Tm.of zA
  have tB := Tm.of zB
  have tC := Tm.of zC
  have hAB := meetC_Ind hA hB
  have hBC := meetC_Ind hB hC
  have tAB := meetC_Tm hA hB tA tB
  have tBC := meetC_Tm hB hC tB tC
  refine ev_oandT hA hB tA.tl tB.tl ?_
  refine ev_oandT hAB hC tAB.tl tC.tl ?_
  refine ev_oandT hB hC tB.tl tC.tl ?_
  refine ev_oandT hA hBC tA.tl tBC.tl ?_
  refine oOr_r (ev_same_flat (meetC_Ind hAB hC) (meetC_Ind hA hBC) (meetC_Tm hAB hC tAB tC).tl (meetC_Tm hA hBC tA tBC).tl (fun p => by rw [meetC_reach hAB hC, meetC_reach hA hBC, meetC_reach hA hB, meetC_reach hB hC, Bool.and_assoc]) ?_)
  have jAB := ind_Ind (A ++ B)
  have jBC := ind_Ind (B ++ C)
  have zAB := sm_ind (sm_app zA zB)
  have zBC := sm_ind (sm_app zB zC)
  refine ev_oor hA hB (tB.tl.app (up3 zA)) ?_
  refine ev_oor jAB hC (tC.tl.app (up3 zAB)) ?_
  refine ev_oor hB hC (tC.tl.app (up3 zB)) ?_
  refine ev_oor hA jBC ((Tm.of zBC).tl.app (up3 zA)) ?_
  refine ev_same_flat (ind_Ind _) (ind_Ind _) (Tm.of (sm_ind (sm_app zAB zC))).tl (Tm.of (sm_ind (sm_app zA zBC))).tl (fun p => ?_) ?_
  · have k1 := ind_Ind (A ++ ind (B ++ C))
    have k2 := ind_Ind (ind (A ++ B) ++ C)
    refine ind_reach (fun q h => ?_) (fun q h => ?_) p
    · rcases List.mem_append.mp h with k | k
      · rcases List.mem_append.mp (ind_mem k) with y | y
        · exact ind_all (List.mem_append_left _ y)
        · exact reach_in k1 jBC (fun c hc => ind_all (List.mem_append_right _ hc)) (ind_all (List.mem_append_left _ y))
      · exact reach_in k1 jBC (fun c hc => ind_all (List.mem_append_right _ hc)) (ind_all (List.mem_append_right _ k))
    · rcases List.mem_append.mp h with k | k
      · exact reach_in k2 jAB (fun c hc => ind_all (List.mem_append_left _ hc)) (ind_all (List.mem_append_left _ k))
      · rcases List.mem_append.mp (ind_mem k) with y | y
        · exact reach_in k2 jAB (fun c hc => ind_all (List.mem_append_left _ hc)) (ind_all (List.mem_append_right _ y))
        · exact ind_all (List.mem_append_right _ y)
  try simp -implicitDefEqProofs only [dDef_3_3, dSeq_m, dRet_m, dCall_m, dArgs_c, dArgs_n, dLst_m, dPure_m, dOp_m, dVar_m, dPar_m, setL_c, setL_n, mVar_s, List.length_cons, List.length_nil, List.cons_append, List.nil_append, Nat.reduceAdd, Nat.reduceSub, List.getElem?_cons_zero, List.getElem?_cons_succ, List.set_cons_zero, List.set_cons_succ, Option.some.injEq, exists_eq_left', true_and, and_true, if_true, if_false, Bool.false_eq_true, Bool.true_eq_false, Bool.not_true, Bool.not_false, reduceIte, beq_self_eq_true, decide_true, Bool.or_false, Bool.or_true, Bool.false_or, Bool.true_or, -oOwn_m, -oOwnEq_m]
  exact ev__law_same rfl q
end Dw
set_option maxHeartbeats 60000
namespace Dw
open PySem PySem.Spec PyProof.Rows L2
open Dr
/-- a spot's image -/
def im (m : Mo) (p : Pt) : Pt := ⟨m.px p.x p.y, m.py p.x p.y⟩
theorem im_line {m : Mo} {a c s e q : Pt} (h : e ≠ s) (hq : cr s e q = 0) (h1 : cr a c (im m s) = 0) (h2 : cr a c (im m e) = 0) : cr a c (im m q) = 0 := by
  have g := Pt.ne_or h
  unfold im Mo.px Mo.py Tb.ax Tb.ay cr at *
  rcases g with x | x
  · have : (e.x - s.x) * ((c.x - a.x) * (m.t.c * q.x + m.t.d * q.y + m.y - a.y) - (c.y - a.y) * (m.t.a * q.x + m.t.b * q.y + m.x - a.x)) = 0 := by grind
    exact (Rat.mul_eq_zero.mp this).resolve_left x
  · have : (e.y - s.y) * ((c.x - a.x) * (m.t.c * q.x + m.t.d * q.y + m.y - a.y) - (c.y - a.y) * (m.t.a * q.x + m.t.b * q.y + m.x - a.x)) = 0 := by grind
    exact (Rat.mul_eq_zero.mp this).resolve_left x
theorem im_spot {m : Mo} {s e q : Pt} (h : e ≠ s) (hq : cr s e q = 0) (h1 : im m e = im m s) : im m q = im m s := by
  have g := Pt.ne_or h
  have x1 : (im m e).x = (im m s).x := by rw [h1]
  have x2 : (im m e).y = (im m s).y := by rw [h1]
  refine Pt.ext' ?_ ?_
  · unfold im Mo.px Mo.py Tb.ax Tb.ay cr at *
    simp only at *
    rcases g with x | x
    · have : (e.x - s.x) * ((m.t.a * q.x + m.t.b * q.y + m.x) - (m.t.a * s.x + m.t.b * s.y + m.x)) = 0 := by grind
      have := (Rat.mul_eq_zero.mp this).resolve_left x
      grind
    · have : (e.y - s.y) * ((m.t.a * q.x + m.t.b * q.y + m.x) - (m.t.a * s.x + m.t.b * s.y + m.x)) = 0 := by grind
      have := (Rat.mul_eq_zero.mp this).resolve_left x
      grind
  · unfold im Mo.px Mo.py Tb.ax Tb.ay cr at *
    simp only at *
    rcases g with x | x
    · have : (e.x - s.x) * ((m.t.c * q.x + m.t.d * q.y + m.y) - (m.t.c * s.x + m.t.d * s.y + m.y)) = 0 := by grind
      have := (Rat.mul_eq_zero.mp this).resolve_left x
      grind
    · have : (e.y - s.y) * ((m.t.c * q.x + m.t.d * q.y + m.y) - (m.t.c * s.x + m.t.d * s.y + m.y)) = 0 := by grind
      have := (Rat.mul_eq_zero.mp this).resolve_left x
      grind
theorem im_plane {m : Mo} {a c s e t : Pt} (q : Pt) (h : cr s e t ≠ 0) (h1 : cr a c (im m s) = 0) (h2 : cr a c (im m e) = 0) (h3 : cr a c (im m t) = 0) : cr a c (im m q) = 0 := by
  have : cr s e t * cr a c (im m q) = 0 := by
    unfold im Mo.px Mo.py Tb.ax Tb.ay cr at *
    grind
  exact (Rat.mul_eq_zero.mp this).resolve_left h
theorem im_all {m : Mo} {s e t : Pt} (q : Pt) (h : cr s e t ≠ 0) (h1 : im m e = im m s) (h2 : im m t = im m s) : im m q = im m s := by
  have x1 : (im m e).x = (im m s).x := by rw [h1]
  have x2 : (im m e).y = (im m s).y := by rw [h1]
  have x3 : (im m t).x = (im m s).x := by rw [h2]
  have x4 : (im m t).y = (im m s).y := by rw [h2]
  refine Pt.ext' ?_ ?_
  · have : cr s e t * ((im m q).x - (im m s).x) = 0 := by
      unfold im Mo.px Mo.py Tb.ax Tb.ay cr at *
      simp only at *
      grind
    have := (Rat.mul_eq_zero.mp this).resolve_left h
    grind
  · have : cr s e t * ((im m q).y - (im m s).y) = 0 := by
      unfold im Mo.px Mo.py Tb.ax Tb.ay cr at *
      simp only at *
      grind
    have := (Rat.mul_eq_zero.mp this).resolve_left h
    grind
/-- what reaches the images of the corners reaches the image of all that they reach -/
theorem im_reach {m : Mo} {A X : List Pt} (hA : Ind A) (hX : Ind X) (h : ∀ c ∈ A, reach X (im m c) = true) {q : Pt} (hq : reach A q = true) : reach X (im m q) = true := by
  cases hA with
  | zero => cases hq
  | one c =>
    have e : q = c := by unfold reach at hq; simpa using hq
    subst e; exact h q (by simp)
  | two s e hne =>
    have h1 := h s (by simp)
    have h2 := h e (by simp)
    unfold reach at hq
    simp only [decide_eq_true_eq] at hq
    cases hX with
    | zero => cases h1
    | one c =>
      unfold reach at h1 h2 ⊢
      simp only [decide_eq_true_eq] at h1 h2 ⊢
      rw [im_spot hne hq (h2.trans h1.symm), h1]
    | two a c hac =>
      unfold reach at h1 h2 ⊢
      simp only [decide_eq_true_eq] at h1 h2 ⊢
      exact im_line hne hq h1 h2
    | three _ _ _ _ => rfl
  | three s e t g =>
    have h1 := h s (by simp)
    have h2 := h e (by simp)
    have h3 := h t (by simp)
    cases hX with
    | zero => cases h1
    | one c =>
      unfold reach at h1 h2 h3 ⊢
      simp only [decide_eq_true_eq] at h1 h2 h3 ⊢
      rw [im_all q g (h2.trans h1.symm) (h3.trans h1.symm), h1]
    | two a c hac =>
      unfold reach at h1 h2 h3 ⊢
      simp only [decide_eq_true_eq] at h1 h2 h3 ⊢
      exact im_plane q g h1 h2 h3
    | three _ _ _ _ => rfl
/-- the image of a flat -/
def imF (m : Mo) (A : List Pt) : List Pt := ind (A.map (im m))
theorem imF_Ind (m : Mo) (A : List Pt) : Ind (imF m A) := ind_Ind _
theorem imF_in {m : Mo} {A : List Pt} (hA : Ind A) {q : Pt} (h : reach A q = true) : reach (imF m A) (im m q) = true := im_reach hA (imF_Ind m A) (fun c hc => ind_all (List.mem_map.mpr ⟨c, hc, rfl⟩)) h
theorem imF_mem {m : Mo} {A : List Pt} {q : Pt} (h : q ∈ imF m A) : ∃ a ∈ A, q = im m a := by
  obtain ⟨a, ha, e⟩ := List.mem_map.mp (ind_mem h)
  exact ⟨a, ha, e.symm⟩
/-- the images of a list, and of the flat through it -/
theorem imF_list (m : Mo) (ps : List Pt) (p : Pt) : reach (imF m (ind ps)) p = reach (ind (ps.map (im m))) p := by
  unfold imF
  refine ind_reach (fun q h => ?_) (fun q h => ?_) p
  · obtain ⟨a, ha, rfl⟩ := List.mem_map.mp h
    exact ind_all (List.mem_map.mpr ⟨a, ind_mem ha, rfl⟩)
  · obtain ⟨a, ha, rfl⟩ := List.mem_map.mp h
    exact imF_in (ind_Ind ps) (ind_all ha)
theorem imF_or (m : Mo) {A B : List Pt} (hA : Ind A) (hB : Ind B) (p : Pt) : reach (imF m (ind (A ++ B))) p = reach (ind (imF m A ++ imF m B)) p := by
  have k := ind_Ind (imF m A ++ imF m B)
  rw [imF_list]
  refine ind_reach (fun q h => ?_) (fun q h => ?_) p
  · obtain ⟨a, ha, rfl⟩ := List.mem_map.mp h
    rcases List.mem_append.mp ha with z | z
    · exact reach_in k (imF_Ind m A) (fun c hc => ind_all (List.mem_append_left _ hc)) (imF_in hA (reach_self z))
    · exact reach_in k (imF_Ind m B) (fun c hc => ind_all (List.mem_append_right _ hc)) (imF_in hB (reach_self z))
  · rcases List.mem_append.mp h with z | z
    · obtain ⟨a, ha, rfl⟩ := imF_mem z
      exact ind_all (List.mem_map.mpr ⟨a, List.mem_append_left _ ha, rfl⟩)
    · obtain ⟨a, ha, rfl⟩ := imF_mem z
      exact ind_all (List.mem_map.mpr ⟨a, List.mem_append_right _ ha, rfl⟩)
theorem im_back {m : Mo} (h : m.t.det ≠ 0) (p : Pt) : im m.inv (im m p) = p := by
  obtain ⟨a, c⟩ := inv_px m h p.x p.y
  exact Pt.ext' a c
theorem im_forth {m : Mo} (h : m.t.det ≠ 0) (p : Pt) : im m (im m.inv p) = p := by
  obtain ⟨a, c⟩ := px_inv m h p.x p.y
  exact Pt.ext' a c
theorem imF_reach {m : Mo} {A : List Pt} (hA : Ind A) (h : m.t.det ≠ 0) (p : Pt) : reach (imF m A) p = reach A (im m.inv p) := by
  rw [Bool.eq_iff_iff]
  constructor
  · intro k
    refine im_reach (imF_Ind m A) hA (fun c hc => ?_) k
    obtain ⟨a, ha, rfl⟩ := imF_mem hc
    rw [im_back h]
    exact reach_self ha
  · intro k
    have := imF_in (m := m) hA k
    rwa [im_forth h] at this
theorem imF_meet {m : Mo} {A B : List Pt} (hA : Ind A) (hB : Ind B) (h : m.t.det ≠ 0) (p : Pt) : reach (imF m (meetC A B)) p = reach (meetC (imF m A) (imF m B)) p := by
  rw [imF_reach (meetC_Ind hA hB) h, meetC_reach hA hB, meetC_reach (imF_Ind m A) (imF_Ind m B), imF_reach hA h, imF_reach hB h]
theorem imF_back {m : Mo} {A : List Pt} (hA : Ind A) (h : m.t.det ≠ 0) (p : Pt) : reach (imF m.inv (imF m A)) p = reach A p := by
  have e : ∀ q ∈ (imF m A).map (im m.inv), q ∈ A := fun q hq => by
    obtain ⟨c, hc, rfl⟩ := List.mem_map.mp hq
    obtain ⟨a, ha, rfl⟩ := imF_mem hc
    rw [im_back h]
    exact ha
  rw [Bool.eq_iff_iff]
  constructor
  · exact fun k => reach_in hA (imF_Ind _ _) (fun q hq => reach_self (e q (ind_mem hq))) k
  · intro k
    have := imF_in (m := m.inv) (imF_Ind m A) (imF_in (m := m) hA k)
    rwa [im_back h] at this
theorem imF_whole {m : Mo} (h : m.t.det ≠ 0) (p : Pt) : reach (imF m three) p = reach three p := by
  rw [imF_reach three_Ind h]
  rfl
end Dw
set_option maxHeartbeats 60000
namespace Dw
open PySem PySem.Spec PyProof.Rows L2
open Dr
variable {K : PySem.W.Frag} {S : Sto} {post : D → Sto → Prop} {xp : Xp} {b : Addr}
theorem dDef_3_10 (u : DS) (a0 a1 a2 : D) (S : Sto) (post : D → Sto → Prop) (xp : Xp) : dDef 13 u [a0, a1, a2] S post xp = u [some a0, some a1, some a2, none, none, none, none, none, none, none, none, none, none] S { nx := fun _ S' => post .non S', rt := post, xp := xp } := by exact id rfl
theorem zp_im {m : Mo} {n l j : Nat} {p : Pt} (h : SzT m.t n) (k : Zp l p) (g : SzP m.x m.y j) : Zp (n + l + (n + l) + 1 + j + 1) (im m p) := by
  have a : SzP (m.t.ax p.x p.y) (m.t.ay p.x p.y) (n + l + (n + l) + 1) := inferInstance
  exact (inferInstance : SzP (m.t.ax p.x p.y + m.x) (m.t.ay p.x p.y + m.y) (n + l + (n + l) + 1 + j + 1))
theorem ev_moved {m : Mo} {A : List Pt} {n j l : Nat} (h : SzT m.t n) (g : SzP m.x m.y j) (hA : Ind A) (zA : ∀ c ∈ A, Zp l c) (hl : n + l + (n + l) + 1 + j ≤ 9000) (hg : Gd [] (A.map (im m))) (k : post (flD K (imF m A)) S) : f_Flat_moved K [flD K A, moD K m] S post xp := by
  have lA := hA.len
  unfold f_Flat_moved u_Flat_moved
  try simp -implicitDefEqProofs only [dDef_2_2, dSeq_m, dRet_m, dVar_m, dSet_m, mVar_s, dLc_m, wipeL_c, wipeL_n, cSeq_m, dFld_eq, mSeq_l, bT_nm, dOcall_m, dArgs_c, dArgs_n, isOf0_i, List.length_cons, List.length_nil, List.cons_append, List.nil_append, Nat.reduceAdd, Nat.reduceSub, List.getElem?_cons_zero, List.getElem?_cons_succ, List.set_cons_zero, List.set_cons_succ, Option.some.injEq, exists_eq_left', true_and, and_true, if_true, if_false, Bool.false_eq_true, Bool.true_eq_false, Bool.not_true, Bool.not_false, reduceIte, beq_self_eq_true, decide_true, Bool.or_false, Bool.or_true, Bool.false_or, Bool.true_or, dNewX_m]
  refine ev_fld rfl ?_
  rw [mSeq_l]
  refine ⟨by rw [List.length_map]; omega, ?_⟩
  refine wLc_mp pD (fun q => pD (im m q)) A [] _ (fun q hq k' hk' => ?_) ?_
  · rw [bT_nm]
    try simp -implicitDefEqProofs only [dDef_2_2, dSeq_m, dRet_m, dVar_m, dSet_m, mVar_s, dLc_m, wipeL_c, wipeL_n, cSeq_m, dFld_eq, mSeq_l, bT_nm, dOcall_m, dArgs_c, dArgs_n, isOf0_i, List.length_cons, List.length_nil, List.cons_append, List.nil_append, Nat.reduceAdd, Nat.reduceSub, List.getElem?_cons_zero, List.getElem?_cons_succ, List.set_cons_zero, List.set_cons_succ, Option.some.injEq, exists_eq_left', true_and, and_true, if_true, if_false, Bool.false_eq_true, Bool.true_eq_false, Bool.not_true, Bool.not_false, reduceIte, beq_self_eq_true, decide_true, Bool.or_false, Bool.or_true, Bool.false_or, Bool.true_or]
    have := zA q hq
    exact ev_Motion_call (l := l) hl hk'
  rw [List.nil_append, show A.map (fun q => pD (im m q)) = (A.map (im m)).map pD by rw [List.map_map]; rfl]
  refine ⟨_, rfl, ?_⟩
  exact ev_new_Flat (by rw [List.length_map]; omega) hg k
theorem sm_im {m : Mo} {A : List Pt} (h : SzT m.t 21) (g : SzP m.x m.y 5) (zA : ∀ c ∈ A, Zp 103 c) : ∀ c ∈ A.map (im m), Zp 255 c := fun c hc => by
  obtain ⟨a, ha, rfl⟩ := List.mem_map.mp hc
  exact (zp_im h (zA a ha) g).up (by decide)
theorem ev_movedS {m : Mo} {A : List Pt} (h : SzT m.t 21) (g : SzP m.x m.y 5) (hA : Ind A) (zA : ∀ c ∈ A, Zp 103 c) (k : post (flD K (imF m A)) S) : f_Flat_moved K [flD K A, moD K m] S post xp :=
  ev_moved h g hA zA (by decide) (Gd_small _ [] (by simp) (sm_im h g zA)) k
theorem meth_moved {cs : List Pt} {k : (List D → W D) → Prop} (h : k (f_Flat_moved K)) : nMeth [(C_Flat K, f_Flat_moved K)] "moved" (flD K cs) S k := ev_meth (by decide +kernel) h
theorem wLc_im {m : Mo} {ρ : Lc} {A : List Pt} {n : Nat} {t : Tb} {v : Pt} (e : m = ⟨t, v.x, v.y⟩) (h : SzT t 21) (g : Zp 5 v) (zA : ∀ c ∈ A, Zp n c) (hn : n ≤ 400) (r3 : ∀ d, (ρ.set 12 (some d))[3]? = some (some (tT t))) (r4 : ∀ d, (ρ.set 12 (some d))[4]? = some (some (pD v))) (r12 : ∀ d, (ρ.set 12 (some d))[12]? = some (some d)) {pst : List D → Sto → Prop} (k : pst ((A.map (im m)).map pD) S) : wLc ρ (.nm 12) dYes (dCall (f__law_moved K) [(dCall (f__law_led K) [(dVar 3), (dVar 12)]), (dVar 4)]) (A.map pD) [] S pst xp := by
  refine wLc_mp pD (fun q => pD (im m q)) A [] _ (fun q hq k' hk' => ?_) ?_
  · rw [bT_nm]
    try simp -implicitDefEqProofs only [bT_nm, dCall_m, dArgs_c, dArgs_n, dVar_m, mVar_s, List.length_cons, List.length_nil, List.cons_append, List.nil_append, Nat.reduceAdd, Nat.reduceSub, List.getElem?_cons_zero, List.getElem?_cons_succ, List.set_cons_zero, List.set_cons_succ, Option.some.injEq, exists_eq_left', true_and, and_true, if_true, if_false, Bool.false_eq_true, Bool.true_eq_false, Bool.not_true, Bool.not_false, reduceIte, beq_self_eq_true, decide_true, Bool.or_false, Bool.or_true, Bool.false_or, Bool.true_or, r3, r4, r12]
    have := zA q hq
    refine ev__law_led (by omega) ?_
    have a : SzP (t.ax q.x q.y) (t.ay q.x q.y) (21 + n + (21 + n) + 1) := inferInstance
    refine ev__law_moved (by omega) ?_
    subst e
    exact hk'
  · rw [List.nil_append, show A.map (fun q => pD (im m q)) = (A.map (im m)).map pD by rw [List.map_map]; rfl]
    exact k
theorem three_z1 : ∀ p ∈ three, Zp 103 p := fun p hp => by
  have h0 : Px.SzR 103 (0 : Rat) := (show Px.SzR 1 (0 : Rat) from Px.szr_lit 1 0).mono (by decide)
  have h1 : Px.SzR 103 (1 : Rat) := (show Px.SzR 1 (1 : Rat) from Px.szr_lit 1 1).mono (by decide)
  have : p = ⟨0, 0⟩ ∨ p = ⟨1, 0⟩ ∨ p = ⟨0, 1⟩ := by simpa using hp
  rcases this with rfl | rfl | rfl
  · exact ⟨h0, h0⟩
  · exact ⟨h1, h0⟩
  · exact ⟨h0, h1⟩
theorem imF_one {A : List Pt} (hA : Ind A) : imF ⟨⟨1, 0, 0, 1⟩, 0, 0⟩ A = A := by
  have e : A.map (im ⟨⟨1, 0, 0, 1⟩, 0, 0⟩) = A := by
    have : ∀ p, im ⟨⟨1, 0, 0, 1⟩, 0, 0⟩ p = p := fun p => by
      obtain ⟨a, c⟩ := one_px p.x p.y
      exact Pt.ext' a c
    rw [List.map_congr_left (fun p _ => this p)]
    exact List.map_id' A
  unfold imF
  rw [e, hA.ind]
theorem ev_moved1 {A : List Pt} (hA : Ind A) (zA : ∀ c ∈ A, Zp 103 c) (k : post (flD K A) S) : f_Flat_moved K [flD K A, moD K ⟨⟨1, 0, 0, 1⟩, 0, 0⟩] S post xp := by
  have h : SzT (Mo.mk ⟨1, 0, 0, 1⟩ 0 0).t 21 := ⟨(show Px.SzR 1 (1 : Rat) from Px.szr_lit 1 1).mono (by decide), (show Px.SzR 1 (0 : Rat) from Px.szr_lit 1 0).mono (by decide), (show Px.SzR 1 (0 : Rat) from Px.szr_lit 1 0).mono (by decide), (show Px.SzR 1 (1 : Rat) from Px.szr_lit 1 1).mono (by decide)⟩
  have g : SzP (Mo.mk ⟨1, 0, 0, 1⟩ 0 0).x (Mo.mk ⟨1, 0, 0, 1⟩ 0 0).y 5 := ⟨(show Px.SzR 1 (0 : Rat) from Px.szr_lit 1 0).mono (by decide), (show Px.SzR 1 (0 : Rat) from Px.szr_lit 1 0).mono (by decide)⟩
  refine ev_movedS h g hA zA ?_
  rw [imF_one hA]
  exact k
theorem ev_movedT {m : Mo} {A : List Pt} (h : SzT m.t 21) (g : SzP m.x m.y 5) (hA : Ind A) (tA : Tm A) (k : post (flD K (imF m A)) S) : f_Flat_moved K [flD K A, moD K m] S post xp := by
  rcases tA.2 with z | z
  · refine ev_moved (l := 2900) h g hA tA.1 (by decide) ?_ k
    match A, z with
    | [], _ => trivial
    | [c], _ => exact Gd_one
    | _ :: _ :: _, z => simp at z
  · exact ev_movedS h g hA z k
theorem meetC_two {A B : List Pt} (h : (meetC A B).length = 2) : ∀ c ∈ meetC A B, c ∈ A ∨ c ∈ B := by
  have one : ∀ A B : List Pt, (meet1 A B).length = 2 → ∀ c ∈ meet1 A B, c ∈ A := by
    intro A B h
    unfold meet1 at *
    split
    · exact fun c hc => hc
    · rename_i h1
      rw [if_neg h1] at h
      split
      · intro c hc; cases hc
      · rename_i h2
        rw [if_neg h2] at h
        unfold crossC at h
        split at h
        · split at h <;> simp at h
        · simp at h
  unfold meetC at *
  split
  · rename_i g
    rw [if_pos g] at h
    exact fun c hc => .inr (one B A h c hc)
  · rename_i g
    rw [if_neg g] at h
    exact fun c hc => .inl (one A B h c hc)
@[irreducible] def imT2 (K : PySem.W.Frag) : DS :=
  (dSeq (dIfS (dtVal (dOp oEq (dOp oIx (dCall (f__law_det K) [(dVar 3)]) (dPure (.int 0))) (dPure (.int 0)))) (dRet (dCall (f__law_same K) [(dProp [(C_Flat K, f_Flat_size K)] (dMeth [(C_Flat K, f_Flat_moved K)] "moved" (dStat (f_Flat_whole K)) [(dVar 5)])), (dOp oSub (dCall gLen [(dCall (f__law_span K) [(dLst [(dVar 4), (dCall (f__law_moved K) [(dTup [(dOp oIx (dVar 3) (dPure (.int 0))), (dOp oIx (dVar 3) (dPure (.int 2)))]), (dVar 4)]), (dCall (f__law_moved K) [(dTup [(dOp oIx (dVar 3) (dPure (.int 1))), (dOp oIx (dVar 3) (dPure (.int 3)))]), (dVar 4)])])])]) (dPure (.int 1)))])) dNext) (dRet (dCall (f__law_same K) [(dLst [(dOp (oOwnEq [(C_Flat K, f_Flat___eq__ K)] (own K)) (dMeth [(C_Flat K, f_Flat_moved K)] "moved" (dOp (oOwn [(C_Flat K, f_Flat___and__ K)]) (dVar 6) (dVar 7)) [(dVar 5)]) (dOp (oOwn [(C_Flat K, f_Flat___and__ K)]) (dVar 10) (dMeth [(C_Flat K, f_Flat_moved K)] "moved" (dVar 7) [(dVar 5)]))), (dOp (oOwnEq [(C_Flat K, f_Flat___eq__ K)] (own K)) (dMeth [(C_Flat K, f_Flat_moved K)] "moved" (dVar 10) [(dMeth [(C_Motion K, f_Motion_inverse K)] "inverse" (dVar 5) [])]) (dVar 6)), (dOp (oOwnEq [(C_Flat K, f_Flat___eq__ K)] (own K)) (dMeth [(C_Flat K, f_Flat_moved K)] "moved" (dStat (f_Flat_whole K)) [(dVar 5)]) (dStat (f_Flat_whole K)))]), (dLst [(dPure (.bl true)), (dPure (.bl true)), (dPure (.bl true))])])))
@[irreducible] def imT1 (K : PySem.W.Frag) : DS :=
  (dSeq (dIfS (dtNot (dtVal (dCall (f__law_same K) [(dLst [(dOp (oOwnEq [(C_Flat K, f_Flat___eq__ K)] (own K)) (dMeth [(C_Flat K, f_Flat_moved K)] "moved" (dOp (oOwn [(C_Flat K, f_Flat___or__ K)]) (dVar 6) (dVar 7)) [(dVar 5)]) (dOp (oOwn [(C_Flat K, f_Flat___or__ K)]) (dVar 10) (dMeth [(C_Flat K, f_Flat_moved K)] "moved" (dVar 7) [(dVar 5)]))), (dOp (oOwnEq [(C_Flat K, f_Flat___eq__ K)] (own K)) (dMeth [(C_Flat K, f_Flat_moved K)] "moved" (dVar 6) [(dStat (f_Motion_identity K))]) (dVar 6))]), (dLst [(dPure (.bl true)), (dPure (.bl true))])]))) (dRet (dPure (.bl false))) dNext) (imT2 K))
@[irreducible] def imT0 (K : PySem.W.Frag) : DS :=
  (dSeq (dPar [10, 11] [(dMeth [(C_Flat K, f_Flat_moved K)] "moved" (dVar 6) [(dVar 5)]), (dMethN [(C_Flat K, f_Flat_moved K)] "moved" [0, 1] (dVar 6) [(dVar 5)])]) (dSeq (dIfS (dtOr (dtNot (dtVal (dCall (f__law_is_flat K) [(dVar 10), (dVar 8), (dVar 9)]))) (dtNot (dtVal (dCall (f__law_is_flat K) [(dVar 11), (dVar 8), (dVar 9)])))) (dRet (dPure (.bl false))) dNext) (imT1 K)))
theorem im_eq : u__law_images_so K = (dSeq (dUnp [3, 4] (dTup [(dCall (f__law_table K) [(dVar 0)]), (dCall (f__law_near K) [(dVar 0)])])) (dSeq (dSet 5 (dNew (C_Motion K) (f_Motion___init__ K) true [] [(dNew (C_Table K) (f_Table___init__ K) true [] [(dOp oIx (dVar 3) (dPure (.int 0))), (dOp oIx (dVar 3) (dPure (.int 1))), (dOp oIx (dVar 3) (dPure (.int 2))), (dOp oIx (dVar 3) (dPure (.int 3)))]), (dVar 4)])) (dSeq (dPar [6, 7] [(dCall (f__law_flat K) [(dVar 1)]), (dCall (f__law_flat K) [(dVar 2)])]) (dSeq (dSet 8 (dLc [12] (.nm 12) (cSeq (dVar 1)) dYes (dCall (f__law_moved K) [(dCall (f__law_led K) [(dVar 3), (dVar 12)]), (dVar 4)]))) (dSeq (dSet 9 (dOp oAdd (dLc [12] (.nm 12) (cSeq (dCall (f__law_asked K) [(dVar 0), (dVar 1)])) dYes (dCall (f__law_moved K) [(dCall (f__law_led K) [(dVar 3), (dVar 12)]), (dVar 4)])) (dLst [(dCall (f__law_near K) [(dVar 0)]), (dVar 4)]))) (imT0 K)))))) := by
  unfold u__law_images_so imT0 imT1 imT2
  rfl
theorem ev_images_so {ps qs : List Pt} (hl : ps.length ≤ 6) (hm : qs.length ≤ 6) (hp : ∀ p ∈ ps, Zp 103 p) (hq : ∀ p ∈ qs, Zp 103 p) (hb : hasBag S b) (q : post (.bl true) S) : f__law_images_so K [.val (.ref b), .lst (ps.map pD), .lst (qs.map pD)] S post xp := by
  have up3 : ∀ {A : List Pt}, (∀ c ∈ A, Zp 103 c) → ∀ c ∈ A, Zp 255 c := fun h c hc => (h c hc).up (by decide)
  have hA := ind_Ind ps
  have hB := ind_Ind qs
  have zA := sm_ind hp
  have zB := sm_ind hq
  have lA := hA.len
  have lB := hB.len
  unfold f__law_images_so
  rw [im_eq]
  try simp -implicitDefEqProofs only [dSeq_m, dSet_m, dOp_m, dLst_m, dArgs_c, dArgs_n, dVar_m, dCall_m, dLc_m, wipeL_c, wipeL_n, cSeq_m, dPar_m, setL_c, setL_n, dNew_eq, dPure_m, dUnp_m, dTup_m, mTup_t, mVar_s, mSeq_l, oIx_t, at4_3, at4_2, at4_1, at4_0, dIfS_m, dRet_m, dNext_m, dtOr_m, dtNot_m, dtVal_m, dMeth_eq, permD_01, mBl_b, dStat_m, dProp_m, oEq_m, okEq_int, at2_0, eqD_int, gLen_l, oSub_i, List.length_cons, List.length_nil, List.cons_append, List.nil_append, Nat.reduceAdd, Nat.reduceSub, List.getElem?_cons_zero, List.getElem?_cons_succ, List.set_cons_zero, List.set_cons_succ, Option.some.injEq, exists_eq_left', true_and, and_true, if_true, if_false, Bool.false_eq_true, Bool.true_eq_false, Bool.not_true, Bool.not_false, reduceIte, beq_self_eq_true, decide_true, Bool.or_false, Bool.or_true, Bool.false_or, Bool.true_or, dDef_3_10, -oOwn_m, -oOwnEq_m]
  refine ev_table_draw hb (fun t ht => ?_)
  refine ev_nearP hb (fun v hv => ?_)
  try simp -implicitDefEqProofs only [dSeq_m, dSet_m, dOp_m, dLst_m, dArgs_c, dArgs_n, dVar_m, dCall_m, dLc_m, wipeL_c, wipeL_n, cSeq_m, dPar_m, setL_c, setL_n, dNew_eq, dPure_m, dUnp_m, dTup_m, mTup_t, mVar_s, mSeq_l, oIx_t, at4_3, at4_2, at4_1, at4_0, dIfS_m, dRet_m, dNext_m, dtOr_m, dtNot_m, dtVal_m, dMeth_eq, permD_01, mBl_b, dStat_m, dProp_m, oEq_m, okEq_int, at2_0, eqD_int, gLen_l, oSub_i, List.length_cons, List.length_nil, List.cons_append, List.nil_append, Nat.reduceAdd, Nat.reduceSub, List.getElem?_cons_zero, List.getElem?_cons_succ, List.set_cons_zero, List.set_cons_succ, Option.some.injEq, exists_eq_left', true_and, and_true, if_true, if_false, Bool.false_eq_true, Bool.true_eq_false, Bool.not_true, Bool.not_false, reduceIte, beq_self_eq_true, decide_true, Bool.or_false, Bool.or_true, Bool.false_or, Bool.true_or, -oOwn_m, -oOwnEq_m]
  refine ev_new_Table ?_
  refine ev_new_Motion ?_
  have sT : SzT (Mo.mk t v.x v.y).t 21 := ht
  have sP : SzP (Mo.mk t v.x v.y).x (Mo.mk t v.x v.y).y 5 := hv
  try simp -implicitDefEqProofs only [dSeq_m, dSet_m, dOp_m, dLst_m, dArgs_c, dArgs_n, dVar_m, dCall_m, dLc_m, wipeL_c, wipeL_n, cSeq_m, dPar_m, setL_c, setL_n, dNew_eq, dPure_m, dUnp_m, dTup_m, mTup_t, mVar_s, mSeq_l, oIx_t, at4_3, at4_2, at4_1, at4_0, dIfS_m, dRet_m, dNext_m, dtOr_m, dtNot_m, dtVal_m, dMeth_eq, permD_01, mBl_b, dStat_m, dProp_m, oEq_m, okEq_int, at2_0, eqD_int, gLen_l, oSub_i, List.length_cons, List.length_nil, List.cons_append, List.nil_append, Nat.reduceAdd, Nat.reduceSub, List.getElem?_cons_zero, List.getElem?_cons_succ, List.set_cons_zero, List.set_cons_succ, Option.some.injEq, exists_eq_left', true_and, and_true, if_true, if_false, Bool.false_eq_true, Bool.true_eq_false, Bool.not_true, Bool.not_false, reduceIte, beq_self_eq_true, decide_true, Bool.or_false, Bool.or_true, Bool.false_or, Bool.true_or, -oOwn_m, -oOwnEq_m]
  refine ev__law_flat hl (Gd_small ps [] (by simp) (up3 hp)) ?_
  refine ev__law_flat hm (Gd_small qs [] (by simp) (up3 hq)) ?_
  try simp -implicitDefEqProofs only [dSeq_m, dSet_m, dOp_m, dLst_m, dArgs_c, dArgs_n, dVar_m, dCall_m, dLc_m, wipeL_c, wipeL_n, cSeq_m, dPar_m, setL_c, setL_n, dNew_eq, dPure_m, dUnp_m, dTup_m, mTup_t, mVar_s, mSeq_l, oIx_t, at4_3, at4_2, at4_1, at4_0, dIfS_m, dRet_m, dNext_m, dtOr_m, dtNot_m, dtVal_m, dMeth_eq, permD_01, mBl_b, dStat_m, dProp_m, oEq_m, okEq_int, at2_0, eqD_int, gLen_l, oSub_i, List.length_cons, List.length_nil, List.cons_append, List.nil_append, Nat.reduceAdd, Nat.reduceSub, List.getElem?_cons_zero, List.getElem?_cons_succ, List.set_cons_zero, List.set_cons_succ, Option.some.injEq, exists_eq_left', true_and, and_true, if_true, if_false, Bool.false_eq_true, Bool.true_eq_false, Bool.not_true, Bool.not_false, reduceIte, beq_self_eq_true, decide_true, Bool.or_false, Bool.or_true, Bool.false_or, Bool.true_or, -oOwn_m, -oOwnEq_m]
  refine ⟨by rw [List.length_map]; omega, ?_⟩
  refine wLc_im (m := ⟨t, v.x, v.y⟩) rfl ht hv hp (by decide) (fun _ => rfl) (fun _ => rfl) (fun _ => rfl) ?_
  try simp -implicitDefEqProofs only [dSeq_m, dSet_m, dOp_m, dLst_m, dArgs_c, dArgs_n, dVar_m, dCall_m, dLc_m, wipeL_c, wipeL_n, cSeq_m, dPar_m, setL_c, setL_n, dNew_eq, dPure_m, dUnp_m, dTup_m, mTup_t, mVar_s, mSeq_l, oIx_t, at4_3, at4_2, at4_1, at4_0, dIfS_m, dRet_m, dNext_m, dtOr_m, dtNot_m, dtVal_m, dMeth_eq, permD_01, mBl_b, dStat_m, dProp_m, oEq_m, okEq_int, at2_0, eqD_int, gLen_l, oSub_i, List.length_cons, List.length_nil, List.cons_append, List.nil_append, Nat.reduceAdd, Nat.reduceSub, List.getElem?_cons_zero, List.getElem?_cons_succ, List.set_cons_zero, List.set_cons_succ, Option.some.injEq, exists_eq_left', true_and, and_true, if_true, if_false, Bool.false_eq_true, Bool.true_eq_false, Bool.not_true, Bool.not_false, reduceIte, beq_self_eq_true, decide_true, Bool.or_false, Bool.or_true, Bool.false_or, Bool.true_or, -oOwn_m, -oOwnEq_m]
  refine ev_asked (n := 103) (by decide) (by decide) hp (by omega) hb (fun rs hr hlr => ?_)
  try simp -implicitDefEqProofs only [dSeq_m, dSet_m, dOp_m, dLst_m, dArgs_c, dArgs_n, dVar_m, dCall_m, dLc_m, wipeL_c, wipeL_n, cSeq_m, dPar_m, setL_c, setL_n, dNew_eq, dPure_m, dUnp_m, dTup_m, mTup_t, mVar_s, mSeq_l, oIx_t, at4_3, at4_2, at4_1, at4_0, dIfS_m, dRet_m, dNext_m, dtOr_m, dtNot_m, dtVal_m, dMeth_eq, permD_01, mBl_b, dStat_m, dProp_m, oEq_m, okEq_int, at2_0, eqD_int, gLen_l, oSub_i, List.length_cons, List.length_nil, List.cons_append, List.nil_append, Nat.reduceAdd, Nat.reduceSub, List.getElem?_cons_zero, List.getElem?_cons_succ, List.set_cons_zero, List.set_cons_succ, Option.some.injEq, exists_eq_left', true_and, and_true, if_true, if_false, Bool.false_eq_true, Bool.true_eq_false, Bool.not_true, Bool.not_false, reduceIte, beq_self_eq_true, decide_true, Bool.or_false, Bool.or_true, Bool.false_or, Bool.true_or, -oOwn_m, -oOwnEq_m]
  refine ⟨by rw [List.length_map]; omega, ?_⟩
  refine wLc_im (m := ⟨t, v.x, v.y⟩) rfl ht hv hr (by decide) (fun _ => rfl) (fun _ => rfl) (fun _ => rfl) ?_
  try simp -implicitDefEqProofs only [dSeq_m, dSet_m, dOp_m, dLst_m, dArgs_c, dArgs_n, dVar_m, dCall_m, dLc_m, wipeL_c, wipeL_n, cSeq_m, dPar_m, setL_c, setL_n, dNew_eq, dPure_m, dUnp_m, dTup_m, mTup_t, mVar_s, mSeq_l, oIx_t, at4_3, at4_2, at4_1, at4_0, dIfS_m, dRet_m, dNext_m, dtOr_m, dtNot_m, dtVal_m, dMeth_eq, permD_01, mBl_b, dStat_m, dProp_m, oEq_m, okEq_int, at2_0, eqD_int, gLen_l, oSub_i, List.length_cons, List.length_nil, List.cons_append, List.nil_append, Nat.reduceAdd, Nat.reduceSub, List.getElem?_cons_zero, List.getElem?_cons_succ, List.set_cons_zero, List.set_cons_succ, Option.some.injEq, exists_eq_left', true_and, and_true, if_true, if_false, Bool.false_eq_true, Bool.true_eq_false, Bool.not_true, Bool.not_false, reduceIte, beq_self_eq_true, decide_true, Bool.or_false, Bool.or_true, Bool.false_or, Bool.true_or, -oOwn_m, -oOwnEq_m]
  refine ev_nearP hb (fun w hw => ?_)
  rw [oAdd_ll]
  refine ⟨by simp; omega, ?_⟩
  rw [show ((rs.map (im ⟨t, v.x, v.y⟩)).map pD ++ [pD w, pD v]) = ((rs.map (im ⟨t, v.x, v.y⟩)) ++ [w, v]).map pD by rw [List.map_append]; rfl]
  have zth : ∀ p ∈ (rs.map (im ⟨t, v.x, v.y⟩)) ++ [w, v], Zp 2900 p := fun p h => by
    rcases List.mem_append.mp h with k | k
    · obtain ⟨a, ha, rfl⟩ := List.mem_map.mp k
      exact (zp_im sT (hr a ha) sP).up (by decide)
    · have : p = w ∨ p = v := by simpa using k
      rcases this with rfl | rfl
      · exact hw.up (by decide)
      · exact hv.up (by decide)
  have lth : ((rs.map (im ⟨t, v.x, v.y⟩)) ++ [w, v]).length ≤ 400 := by simp; omega
  try simp -implicitDefEqProofs only [dSeq_m, dSet_m, dOp_m, dLst_m, dArgs_c, dArgs_n, dVar_m, dCall_m, dLc_m, wipeL_c, wipeL_n, cSeq_m, dPar_m, setL_c, setL_n, dNew_eq, dPure_m, dUnp_m, dTup_m, mTup_t, mVar_s, mSeq_l, oIx_t, at4_3, at4_2, at4_1, at4_0, dIfS_m, dRet_m, dNext_m, dtOr_m, dtNot_m, dtVal_m, dMeth_eq, permD_01, mBl_b, dStat_m, dProp_m, oEq_m, okEq_int, at2_0, eqD_int, gLen_l, oSub_i, List.length_cons, List.length_nil, List.cons_append, List.nil_append, Nat.reduceAdd, Nat.reduceSub, List.getElem?_cons_zero, List.getElem?_cons_succ, List.set_cons_zero, List.set_cons_succ, Option.some.injEq, exists_eq_left', true_and, and_true, if_true, if_false, Bool.false_eq_true, Bool.true_eq_false, Bool.not_true, Bool.not_false, reduceIte, beq_self_eq_true, decide_true, Bool.or_false, Bool.or_true, Bool.false_or, Bool.true_or, -oOwn_m, -oOwnEq_m]
  unfold imT0
  try simp -implicitDefEqProofs only [dSeq_m, dSet_m, dOp_m, dLst_m, dArgs_c, dArgs_n, dVar_m, dCall_m, dLc_m, wipeL_c, wipeL_n, cSeq_m, dPar_m, setL_c, setL_n, dNew_eq, dPure_m, dUnp_m, dTup_m, mTup_t, mVar_s, mSeq_l, oIx_t, at4_3, at4_2, at4_1, at4_0, dIfS_m, dRet_m, dNext_m, dtOr_m, dtNot_m, dtVal_m, dMeth_eq, permD_01, mBl_b, dStat_m, dProp_m, oEq_m, okEq_int, at2_0, eqD_int, gLen_l, oSub_i, List.length_cons, List.length_nil, List.cons_append, List.nil_append, Nat.reduceAdd, Nat.reduceSub, List.getElem?_cons_zero, List.getElem?_cons_succ, List.set_cons_zero, List.set_cons_succ, Option.some.injEq, exists_eq_left', true_and, and_true, if_true, if_false, Bool.false_eq_true, Bool.true_eq_false, Bool.not_true, Bool.not_false, reduceIte, beq_self_eq_true, decide_true, Bool.or_false, Bool.or_true, Bool.false_or, Bool.true_or, -oOwn_m, -oOwnEq_m]
  refine meth_moved ?_
  refine ev_movedS (m := ⟨t, v.x, v.y⟩) sT sP hA zA ?_
  try simp -implicitDefEqProofs only [dSeq_m, dSet_m, dOp_m, dLst_m, dArgs_c, dArgs_n, dVar_m, dCall_m, dLc_m, wipeL_c, wipeL_n, cSeq_m, dPar_m, setL_c, setL_n, dNew_eq, dPure_m, dUnp_m, dTup_m, mTup_t, mVar_s, mSeq_l, oIx_t, at4_3, at4_2, at4_1, at4_0, dIfS_m, dRet_m, dNext_m, dtOr_m, dtNot_m, dtVal_m, dMeth_eq, permD_01, mBl_b, dStat_m, dProp_m, oEq_m, okEq_int, at2_0, eqD_int, gLen_l, oSub_i, List.length_cons, List.length_nil, List.cons_append, List.nil_append, Nat.reduceAdd, Nat.reduceSub, List.getElem?_cons_zero, List.getElem?_cons_succ, List.set_cons_zero, List.set_cons_succ, Option.some.injEq, exists_eq_left', true_and, and_true, if_true, if_false, Bool.false_eq_true, Bool.true_eq_false, Bool.not_true, Bool.not_false, reduceIte, beq_self_eq_true, decide_true, Bool.or_false, Bool.or_true, Bool.false_or, Bool.true_or, dMethN_m, -oOwn_m, -oOwnEq_m]
  refine ⟨⟨rfl, by decide +kernel⟩, ?_⟩
  refine ev_movedS (m := ⟨t, v.x, v.y⟩) sT sP hA zA ?_
  try simp -implicitDefEqProofs only [dSeq_m, dSet_m, dOp_m, dLst_m, dArgs_c, dArgs_n, dVar_m, dCall_m, dLc_m, wipeL_c, wipeL_n, cSeq_m, dPar_m, setL_c, setL_n, dNew_eq, dPure_m, dUnp_m, dTup_m, mTup_t, mVar_s, mSeq_l, oIx_t, at4_3, at4_2, at4_1, at4_0, dIfS_m, dRet_m, dNext_m, dtOr_m, dtNot_m, dtVal_m, dMeth_eq, permD_01, mBl_b, dStat_m, dProp_m, oEq_m, okEq_int, at2_0, eqD_int, gLen_l, oSub_i, List.length_cons, List.length_nil, List.cons_append, List.nil_append, Nat.reduceAdd, Nat.reduceSub, List.getElem?_cons_zero, List.getElem?_cons_succ, List.set_cons_zero, List.set_cons_succ, Option.some.injEq, exists_eq_left', true_and, and_true, if_true, if_false, Bool.false_eq_true, Bool.true_eq_false, Bool.not_true, Bool.not_false, reduceIte, beq_self_eq_true, decide_true, Bool.or_false, Bool.or_true, Bool.false_or, Bool.true_or, -oOwn_m, -oOwnEq_m]
  have iA := imF_Ind (⟨t, v.x, v.y⟩ : Mo) (ind ps)
  have iB := imF_Ind (⟨t, v.x, v.y⟩ : Mo) (ind qs)
  have zIA := sm_ind (sm_im (m := ⟨t, v.x, v.y⟩) sT sP zA)
  have zIB := sm_ind (sm_im (m := ⟨t, v.x, v.y⟩) sT sP zB)
  have tIA : Tl (imF ⟨t, v.x, v.y⟩ (ind ps)) := Tl.of (n := 255) (by decide) zIA
  have tIB : Tl (imF ⟨t, v.x, v.y⟩ (ind qs)) := Tl.of (n := 255) (by decide) zIB
  have tL : Tl (ps.map (im ⟨t, v.x, v.y⟩)) := Tl.of (n := 255) (by decide) (sm_im (m := ⟨t, v.x, v.y⟩) sT sP hp)
  refine ev_is_flatT iA (fun p => imF_list _ ps p) tIA tL zth (by rw [List.length_map]; omega) lth ?_
  try simp -implicitDefEqProofs only [dSeq_m, dSet_m, dOp_m, dLst_m, dArgs_c, dArgs_n, dVar_m, dCall_m, dLc_m, wipeL_c, wipeL_n, cSeq_m, dPar_m, setL_c, setL_n, dNew_eq, dPure_m, dUnp_m, dTup_m, mTup_t, mVar_s, mSeq_l, oIx_t, at4_3, at4_2, at4_1, at4_0, dIfS_m, dRet_m, dNext_m, dtOr_m, dtNot_m, dtVal_m, dMeth_eq, permD_01, mBl_b, dStat_m, dProp_m, oEq_m, okEq_int, at2_0, eqD_int, gLen_l, oSub_i, List.length_cons, List.length_nil, List.cons_append, List.nil_append, Nat.reduceAdd, Nat.reduceSub, List.getElem?_cons_zero, List.getElem?_cons_succ, List.set_cons_zero, List.set_cons_succ, Option.some.injEq, exists_eq_left', true_and, and_true, if_true, if_false, Bool.false_eq_true, Bool.true_eq_false, Bool.not_true, Bool.not_false, reduceIte, beq_self_eq_true, decide_true, Bool.or_false, Bool.or_true, Bool.false_or, Bool.true_or, -oOwn_m, -oOwnEq_m]
  refine ev_is_flatT iA (fun p => imF_list _ ps p) tIA tL zth (by rw [List.length_map]; omega) lth ?_
  try simp -implicitDefEqProofs only [dSeq_m, dSet_m, dOp_m, dLst_m, dArgs_c, dArgs_n, dVar_m, dCall_m, dLc_m, wipeL_c, wipeL_n, cSeq_m, dPar_m, setL_c, setL_n, dNew_eq, dPure_m, dUnp_m, dTup_m, mTup_t, mVar_s, mSeq_l, oIx_t, at4_3, at4_2, at4_1, at4_0, dIfS_m, dRet_m, dNext_m, dtOr_m, dtNot_m, dtVal_m, dMeth_eq, permD_01, mBl_b, dStat_m, dProp_m, oEq_m, okEq_int, at2_0, eqD_int, gLen_l, oSub_i, List.length_cons, List.length_nil, List.cons_append, List.nil_append, Nat.reduceAdd, Nat.reduceSub, List.getElem?_cons_zero, List.getElem?_cons_succ, List.set_cons_zero, List.set_cons_succ, Option.some.injEq, exists_eq_left', true_and, and_true, if_true, if_false, Bool.false_eq_true, Bool.true_eq_false, Bool.not_true, Bool.not_false, reduceIte, beq_self_eq_true, decide_true, Bool.or_false, Bool.or_true, Bool.false_or, Bool.true_or, -oOwn_m, -oOwnEq_m]
  unfold imT1
  try simp -implicitDefEqProofs only [dSeq_m, dSet_m, dOp_m, dLst_m, dArgs_c, dArgs_n, dVar_m, dCall_m, dLc_m, wipeL_c, wipeL_n, cSeq_m, dPar_m, setL_c, setL_n, dNew_eq, dPure_m, dUnp_m, dTup_m, mTup_t, mVar_s, mSeq_l, oIx_t, at4_3, at4_2, at4_1, at4_0, dIfS_m, dRet_m, dNext_m, dtOr_m, dtNot_m, dtVal_m, dMeth_eq, permD_01, mBl_b, dStat_m, dProp_m, oEq_m, okEq_int, at2_0, eqD_int, gLen_l, oSub_i, List.length_cons, List.length_nil, List.cons_append, List.nil_append, Nat.reduceAdd, Nat.reduceSub, List.getElem?_cons_zero, List.getElem?_cons_succ, List.set_cons_zero, List.set_cons_succ, Option.some.injEq, exists_eq_left', true_and, and_true, if_true, if_false, Bool.false_eq_true, Bool.true_eq_false, Bool.not_true, Bool.not_false, reduceIte, beq_self_eq_true, decide_true, Bool.or_false, Bool.or_true, Bool.false_or, Bool.true_or, -oOwn_m, -oOwnEq_m]
  have tA : Tl (ind ps) := Tl.of (by decide) zA
  have tB : Tl (ind qs) := Tl.of (by decide) zB
  have hJ := ind_Ind (ind ps ++ ind qs)
  have zJ := sm_ind (sm_app zA zB)
  refine ev_oor hA hB (tB.app (up3 zA)) ?_
  refine meth_moved ?_
  refine ev_movedS (m := ⟨t, v.x, v.y⟩) sT sP hJ zJ ?_
  refine meth_moved ?_
  refine ev_movedS (m := ⟨t, v.x, v.y⟩) sT sP hB zB ?_
  refine ev_oor iA iB (tIB.app zIA) ?_
  refine ev_same_flat (imF_Ind _ _) (ind_Ind _) (Tl.of (n := 255) (by decide) (sm_ind (sm_im (m := ⟨t, v.x, v.y⟩) sT sP zJ))) (Tl.of (n := 255) (by decide) (sm_ind (sm_app zIA zIB))) (imF_or _ hA hB) ?_
  refine meth_moved ?_
  refine ev_Motion_identity ?_
  refine ev_moved1 hA zA ?_
  refine ev_same_flat hA hA tA tA (fun _ => rfl) ?_
  refine ev__law_same rfl ?_
  try simp -implicitDefEqProofs only [dSeq_m, dSet_m, dOp_m, dLst_m, dArgs_c, dArgs_n, dVar_m, dCall_m, dLc_m, wipeL_c, wipeL_n, cSeq_m, dPar_m, setL_c, setL_n, dNew_eq, dPure_m, dUnp_m, dTup_m, mTup_t, mVar_s, mSeq_l, oIx_t, at4_3, at4_2, at4_1, at4_0, dIfS_m, dRet_m, dNext_m, dtOr_m, dtNot_m, dtVal_m, dMeth_eq, permD_01, mBl_b, dStat_m, dProp_m, oEq_m, okEq_int, at2_0, eqD_int, gLen_l, oSub_i, List.length_cons, List.length_nil, List.cons_append, List.nil_append, Nat.reduceAdd, Nat.reduceSub, List.getElem?_cons_zero, List.getElem?_cons_succ, List.set_cons_zero, List.set_cons_succ, Option.some.injEq, exists_eq_left', true_and, and_true, if_true, if_false, Bool.false_eq_true, Bool.true_eq_false, Bool.not_true, Bool.not_false, reduceIte, beq_self_eq_true, decide_true, Bool.or_false, Bool.or_true, Bool.false_or, Bool.true_or, -oOwn_m, -oOwnEq_m]
  unfold imT2
  try simp -implicitDefEqProofs only [dSeq_m, dSet_m, dOp_m, dLst_m, dArgs_c, dArgs_n, dVar_m, dCall_m, dLc_m, wipeL_c, wipeL_n, cSeq_m, dPar_m, setL_c, setL_n, dNew_eq, dPure_m, dUnp_m, dTup_m, mTup_t, mVar_s, mSeq_l, oIx_t, at4_3, at4_2, at4_1, at4_0, dIfS_m, dRet_m, dNext_m, dtOr_m, dtNot_m, dtVal_m, dMeth_eq, permD_01, mBl_b, dStat_m, dProp_m, oEq_m, okEq_int, at2_0, eqD_int, gLen_l, oSub_i, List.length_cons, List.length_nil, List.cons_append, List.nil_append, Nat.reduceAdd, Nat.reduceSub, List.getElem?_cons_zero, List.getElem?_cons_succ, List.set_cons_zero, List.set_cons_succ, Option.some.injEq, exists_eq_left', true_and, and_true, if_true, if_false, Bool.false_eq_true, Bool.true_eq_false, Bool.not_true, Bool.not_false, reduceIte, beq_self_eq_true, decide_true, Bool.or_false, Bool.or_true, Bool.false_or, Bool.true_or, -oOwn_m, -oOwnEq_m]
  refine ev__law_det (by decide) ?_
  rw [show t.a * t.d - t.b * t.c = t.det from rfl]
  try simp -implicitDefEqProofs only [dSeq_m, dSet_m, dOp_m, dLst_m, dArgs_c, dArgs_n, dVar_m, dCall_m, dLc_m, wipeL_c, wipeL_n, cSeq_m, dPar_m, setL_c, setL_n, dNew_eq, dPure_m, dUnp_m, dTup_m, mTup_t, mVar_s, mSeq_l, oIx_t, at4_3, at4_2, at4_1, at4_0, dIfS_m, dRet_m, dNext_m, dtOr_m, dtNot_m, dtVal_m, dMeth_eq, permD_01, mBl_b, dStat_m, dProp_m, oEq_m, okEq_int, at2_0, eqD_int, gLen_l, oSub_i, List.length_cons, List.length_nil, List.cons_append, List.nil_append, Nat.reduceAdd, Nat.reduceSub, List.getElem?_cons_zero, List.getElem?_cons_succ, List.set_cons_zero, List.set_cons_succ, Option.some.injEq, exists_eq_left', true_and, and_true, if_true, if_false, Bool.false_eq_true, Bool.true_eq_false, Bool.not_true, Bool.not_false, reduceIte, beq_self_eq_true, decide_true, Bool.or_false, Bool.or_true, Bool.false_or, Bool.true_or, -oOwn_m, -oOwnEq_m]
  rw [num0]
  by_cases hd : t.det = 0
  · rw [decide_eq_true hd]
    try simp -implicitDefEqProofs only [dSeq_m, dSet_m, dOp_m, dLst_m, dArgs_c, dArgs_n, dVar_m, dCall_m, dLc_m, wipeL_c, wipeL_n, cSeq_m, dPar_m, setL_c, setL_n, dNew_eq, dPure_m, dUnp_m, dTup_m, mTup_t, mVar_s, mSeq_l, oIx_t, at4_3, at4_2, at4_1, at4_0, dIfS_m, dRet_m, dNext_m, dtOr_m, dtNot_m, dtVal_m, dMeth_eq, permD_01, mBl_b, dStat_m, dProp_m, oEq_m, okEq_int, at2_0, eqD_int, gLen_l, oSub_i, List.length_cons, List.length_nil, List.cons_append, List.nil_append, Nat.reduceAdd, Nat.reduceSub, List.getElem?_cons_zero, List.getElem?_cons_succ, List.set_cons_zero, List.set_cons_succ, Option.some.injEq, exists_eq_left', true_and, and_true, if_true, if_false, Bool.false_eq_true, Bool.true_eq_false, Bool.not_true, Bool.not_false, reduceIte, beq_self_eq_true, decide_true, Bool.or_false, Bool.or_true, Bool.false_or, Bool.true_or, -oOwn_m, -oOwnEq_m]
    refine ev_whole ?_
    refine meth_moved ?_
    refine ev_movedS (m := ⟨t, v.x, v.y⟩) sT sP three_Ind three_z1 ?_
    refine ⟨rfl, ev_size ?_⟩
    refine ev__law_moved (by decide) ?_
    refine ev__law_moved (by decide) ?_
    have e3 : D.lst [pD v, sp (t.a + v.x) (t.c + v.y), sp (t.b + v.x) (t.d + v.y)] = .lst ((three.map (im ⟨t, v.x, v.y⟩)).map pD) := by
      have q1 : im ⟨t, v.x, v.y⟩ ⟨0, 0⟩ = v := Pt.ext' (by show t.a * 0 + t.b * 0 + v.x = v.x; grind) (by show t.c * 0 + t.d * 0 + v.y = v.y; grind)
      have q2 : im ⟨t, v.x, v.y⟩ ⟨1, 0⟩ = ⟨t.a + v.x, t.c + v.y⟩ := Pt.ext' (by show t.a * 1 + t.b * 0 + v.x = t.a + v.x; grind) (by show t.c * 1 + t.d * 0 + v.y = t.c + v.y; grind)
      have q3 : im ⟨t, v.x, v.y⟩ ⟨0, 1⟩ = ⟨t.b + v.x, t.d + v.y⟩ := Pt.ext' (by show t.a * 0 + t.b * 1 + v.x = t.b + v.x; grind) (by show t.c * 0 + t.d * 1 + v.y = t.d + v.y; grind)
      simp only [List.map_cons, List.map_nil, q1, q2, q3]
    rw [e3]
    refine ev__law_span (Gd_small _ [] (by simp) (sm_im (m := ⟨t, v.x, v.y⟩) sT sP three_z1)) ?_
    try simp -implicitDefEqProofs only [dSeq_m, dSet_m, dOp_m, dLst_m, dArgs_c, dArgs_n, dVar_m, dCall_m, dLc_m, wipeL_c, wipeL_n, cSeq_m, dPar_m, setL_c, setL_n, dNew_eq, dPure_m, dUnp_m, dTup_m, mTup_t, mVar_s, mSeq_l, oIx_t, at4_3, at4_2, at4_1, at4_0, dIfS_m, dRet_m, dNext_m, dtOr_m, dtNot_m, dtVal_m, dMeth_eq, permD_01, mBl_b, dStat_m, dProp_m, oEq_m, okEq_int, at2_0, eqD_int, gLen_l, oSub_i, List.length_cons, List.length_nil, List.cons_append, List.nil_append, Nat.reduceAdd, Nat.reduceSub, List.getElem?_cons_zero, List.getElem?_cons_succ, List.set_cons_zero, List.set_cons_succ, Option.some.injEq, exists_eq_left', true_and, and_true, if_true, if_false, Bool.false_eq_true, Bool.true_eq_false, Bool.not_true, Bool.not_false, reduceIte, beq_self_eq_true, decide_true, Bool.or_false, Bool.or_true, Bool.false_or, Bool.true_or, List.length_map]
    exact ev__law_same rfl q
  · rw [decide_eq_false hd]
    try simp -implicitDefEqProofs only [dSeq_m, dSet_m, dOp_m, dLst_m, dArgs_c, dArgs_n, dVar_m, dCall_m, dLc_m, wipeL_c, wipeL_n, cSeq_m, dPar_m, setL_c, setL_n, dNew_eq, dPure_m, dUnp_m, dTup_m, mTup_t, mVar_s, mSeq_l, oIx_t, at4_3, at4_2, at4_1, at4_0, dIfS_m, dRet_m, dNext_m, dtOr_m, dtNot_m, dtVal_m, dMeth_eq, permD_01, mBl_b, dStat_m, dProp_m, oEq_m, okEq_int, at2_0, eqD_int, gLen_l, oSub_i, List.length_cons, List.length_nil, List.cons_append, List.nil_append, Nat.reduceAdd, Nat.reduceSub, List.getElem?_cons_zero, List.getElem?_cons_succ, List.set_cons_zero, List.set_cons_succ, Option.some.injEq, exists_eq_left', true_and, and_true, if_true, if_false, Bool.false_eq_true, Bool.true_eq_false, Bool.not_true, Bool.not_false, reduceIte, beq_self_eq_true, decide_true, Bool.or_false, Bool.or_true, Bool.false_or, Bool.true_or, -oOwn_m, -oOwnEq_m]
    have hM := meetC_Ind hA hB
    have mM := meetC_Tm hA hB (Tm.of zA) (Tm.of zB)
    refine ev_oandT hA hB tA tB ?_
    refine meth_moved ?_
    refine ev_movedT (m := ⟨t, v.x, v.y⟩) sT sP hM mM ?_
    refine meth_moved ?_
    refine ev_movedS (m := ⟨t, v.x, v.y⟩) sT sP hB zB ?_
    refine ev_oandT iA iB tIA tIB ?_
    have hr2 := imF_meet (m := ⟨t, v.x, v.y⟩) hA hB hd
    refine ev_oeq (imF_Ind _ _) (meetC_Ind iA iB) (fun c hc l => ?_) ?_
    · have l2 := len_of_reach (imF_Ind _ _) (meetC_Ind iA iB) hr2
      have l3 : (meetC (imF ⟨t, v.x, v.y⟩ (ind ps)) (imF ⟨t, v.x, v.y⟩ (ind qs))).length = 2 := by omega
      have zc : Zp 255 c := by
        rcases meetC_two l3 c hc with y | y
        · exact zIA c y
        · exact zIB c y
      refine ⟨fun p hpp => ?_, zc.up (by decide)⟩
      obtain ⟨a, ha, rfl⟩ := imF_mem hpp
      rcases mM.2 with y | y
      · exfalso
        have e1 : (imF ⟨t, v.x, v.y⟩ (meetC (ind ps) (ind qs))).length ≤ 1 := by
          unfold imF
          generalize meetC (ind ps) (ind qs) = M at *
          match M, y with
          | [], _ => simp [Dw.ind]
          | [c], _ => simp [Dw.ind, addP, reach]
          | _ :: _ :: _, y => simp at y
        omega
      · exact (zp_im sT (y a ha) sP).up (by decide)
    rw [eqF_reach (imF_Ind _ _) (meetC_Ind iA iB) hr2]
    refine meth_moved ?_
    refine ev_meth (by decide +kernel) ?_
    refine ev_Motion_inverse (m := ⟨t, v.x, v.y⟩) hd (by decide) ?_
    have back : ∀ c ∈ (imF ⟨t, v.x, v.y⟩ (ind ps)).map (im (Mo.inv ⟨t, v.x, v.y⟩)), Zp 103 c := fun c hc => by
      obtain ⟨y, hy, rfl⟩ := List.mem_map.mp hc
      obtain ⟨a, ha, rfl⟩ := imF_mem hy
      rw [im_back (m := ⟨t, v.x, v.y⟩) hd]
      exact zA a ha
    have sI : SzT (Mo.inv ⟨t, v.x, v.y⟩).t _ := (inferInstance : SzT (Mo.inv ⟨t, v.x, v.y⟩).t (21 + (1 + (21 + 21 + (21 + 21) + 1))))
    have pI : SzP (Mo.inv ⟨t, v.x, v.y⟩).x (Mo.inv ⟨t, v.x, v.y⟩).y _ := (inferInstance : SzP (Mo.inv ⟨t, v.x, v.y⟩).x (Mo.inv ⟨t, v.x, v.y⟩).y (21 + (1 + (21 + 21 + (21 + 21) + 1)) + 5 + (21 + (1 + (21 + 21 + (21 + 21) + 1)) + 5) + 1 + 1))
    refine ev_moved (m := Mo.inv ⟨t, v.x, v.y⟩) (l := 255) sI pI iA zIA (by decide) (Gd_small _ [] (by simp) (up3 back)) ?_
    refine ev_same_flat (imF_Ind _ _) hA (Tl.of (n := 103) (by decide) (sm_ind back)) tA (imF_back hA hd) ?_
    refine ev_whole ?_
    refine meth_moved ?_
    refine ev_movedS (m := ⟨t, v.x, v.y⟩) sT sP three_Ind three_z1 ?_
    refine ev_whole ?_
    refine ev_same_flat (imF_Ind _ _) three_Ind (Tl.of (n := 255) (by decide) (sm_ind (sm_im (m := ⟨t, v.x, v.y⟩) sT sP three_z1))) (Tl.of (by decide) three_z) (imF_whole hd) ?_
    exact ev__law_same rfl q
end Dw
set_option maxHeartbeats 60000
namespace Dw
open PySem PySem.Spec PyProof.Rows L2
variable {K : PySem.W.Frag} {S : Sto} {post : D → Sto → Prop} {xp : Xp} {b : Addr}
@[irreducible] def lawT (K : PySem.W.Frag) : DS :=
  (dSeq (dSet 6 (dOp (oOr oAdd oAddV) (dCall (f__law_cloud K) [(dVar 1), (dCall (f__law_draw K) [(dVar 1), (dPure (.int 4))])]) (dSl (dVar 3) dNoPart (dPart (dPure (.int 1)))))) (dSeq (dIfS (dtOr (dtNot (dtVal (dCall (f__law_both_so K) [(dVar 1), (dVar 3), (dVar 4)]))) (dtOr (dtNot (dtVal (dCall (f__law_images_so K) [(dVar 1), (dVar 3), (dVar 4)]))) (dtNot (dtVal (dCall (f__law_images_so K) [(dVar 1), (dVar 4), (dVar 6)]))))) (dRet (dPure (.bl false))) dNext) (dIfS (dtOr (dtNot (dtVal (dCall (f__law_three_so K) [(dVar 3), (dVar 4), (dVar 6)]))) (dtNot (dtVal (dCall (f__law_both_so K) [(dVar 1), (dVar 4), (dVar 6)])))) (dRet (dPure (.bl false))) dNext)))
@[irreducible] def lawV (K : PySem.W.Frag) : DS :=
  (dSeq (dIfS (dtAnd (dtVal (dOp oEqV (dCall (f__law_draw K) [(dVar 1), (dPure (.int 3))]) (dPure (.int 0)))) (dtVal (dOp oNeV (dVar 3) (dLst [])))) (dSeq (dSet 5 (dCall (f__law_near K) [(dVar 1)])) (dSet 4 (dLc [7] (.nm 7) (cSeq (dVar 3)) dYes (dCall (f__law_moved K) [(dVar 7), (dVar 5)])))) dNext) (lawT K))
@[irreducible] def lawB (K : PySem.W.Frag) : DS :=
  (dSeq (dPar [3, 4] [(dCall (f__law_cloud K) [(dVar 1), (dCall (f__law_draw K) [(dVar 1), (dPure (.int 4))])]), (dCall (f__law_cloud K) [(dVar 1), (dCall (f__law_draw K) [(dVar 1), (dPure (.int 4))])])]) (dSeq (dIfS (dtVal (dOp oEqV (dCall (f__law_draw K) [(dVar 1), (dPure (.int 2))]) (dPure (.int 0)))) (dSet 4 (dCall (f__law_pick K) [(dVar 1), (dLst [(dSl (dCall (f__law_asked K) [(dVar 1), (dVar 3)]) (dPart (dPure (.int 4))) (dPart (dPure (.int 6)))), (dSl (dCall (f__law_asked K) [(dVar 1), (dVar 3)]) (dPart (dPure (.int 5))) (dPart (dPure (.int 8)))), (dCall gList [(dVar 3)]), (dLc [7] (.nm 7) (cSeq (dVar 3)) dYes (dCall (f__law_moved K) [(dVar 7), (dCall (f__law_near K) [(dVar 1)])]))])])) dNext) (dSeq (dIfS (dtAnd (dtVal (dOp oEqV (dCall (f__law_draw K) [(dVar 1), (dPure (.int 3))]) (dPure (.int 0)))) (dtVal (dOp oNeV (dVar 3) (dLst [])))) (dSeq (dSet 5 (dCall (f__law_near K) [(dVar 1)])) (dSet 4 (dLc [7] (.nm 7) (cSeq (dVar 3)) dYes (dCall (f__law_moved K) [(dVar 7), (dVar 5)])))) dNext) (dSeq (dSet 6 (dOp (oOr oAdd oAddV) (dCall (f__law_cloud K) [(dVar 1), (dCall (f__law_draw K) [(dVar 1), (dPure (.int 4))])]) (dSl (dVar 3) dNoPart (dPart (dPure (.int 1)))))) (dSeq (dIfS (dtOr (dtNot (dtVal (dCall (f__law_both_so K) [(dVar 1), (dVar 3), (dVar 4)]))) (dtOr (dtNot (dtVal (dCall (f__law_images_so K) [(dVar 1), (dVar 3), (dVar 4)]))) (dtNot (dtVal (dCall (f__law_images_so K) [(dVar 1), (dVar 4), (dVar 6)]))))) (dRet (dPure (.bl false))) dNext) (dIfS (dtOr (dtNot (dtVal (dCall (f__law_three_so K) [(dVar 3), (dVar 4), (dVar 6)]))) (dtNot (dtVal (dCall (f__law_both_so K) [(dVar 1), (dVar 4), (dVar 6)])))) (dRet (dPure (.bl false))) dNext))))))
theorem lawB_eq : lawB K = (dSeq (dPar [3, 4] [(dCall (f__law_cloud K) [(dVar 1), (dCall (f__law_draw K) [(dVar 1), (dPure (.int 4))])]), (dCall (f__law_cloud K) [(dVar 1), (dCall (f__law_draw K) [(dVar 1), (dPure (.int 4))])])]) (dSeq (dIfS (dtVal (dOp oEqV (dCall (f__law_draw K) [(dVar 1), (dPure (.int 2))]) (dPure (.int 0)))) (dSet 4 (dCall (f__law_pick K) [(dVar 1), (dLst [(dSl (dCall (f__law_asked K) [(dVar 1), (dVar 3)]) (dPart (dPure (.int 4))) (dPart (dPure (.int 6)))), (dSl (dCall (f__law_asked K) [(dVar 1), (dVar 3)]) (dPart (dPure (.int 5))) (dPart (dPure (.int 8)))), (dCall gList [(dVar 3)]), (dLc [7] (.nm 7) (cSeq (dVar 3)) dYes (dCall (f__law_moved K) [(dVar 7), (dCall (f__law_near K) [(dVar 1)])]))])])) dNext) (lawV K))) := by
  unfold lawB lawV lawT
  rfl
theorem law_eq : u_law K = (dSeq (dSet 1 (dCall (f__law_bag K) [(dVar 0)])) (dSeq (dFor (.nm 2) (cRng [(dPure (.int 2))]) (lawB K)) (dRet (dPure (.bl true))))) := by
  unfold u_law lawB
  rfl
/-- spots, as data -/
def PD (d : D) : Prop := ∃ p : Pt, Zp 103 p ∧ d = pD p
theorem PD_all : ∀ {es : List D}, (∀ e ∈ es, PD e) → ∃ qs : List Pt, es = qs.map pD ∧ ∀ q ∈ qs, Zp 103 q
  | [], _ => ⟨[], rfl, by simp⟩
  | e :: es, h => by
    obtain ⟨qs, e1, h1⟩ := PD_all (fun e he => h e (List.mem_cons_of_mem _ he))
    obtain ⟨p, hp, rfl⟩ := h e (by simp)
    refine ⟨p :: qs, by rw [e1]; rfl, fun q hq => ?_⟩
    rcases List.mem_cons.mp hq with rfl | k
    · exact hp
    · exact h1 q k
theorem law_tail {ps qs : List Pt} {c0 c2 c5 c6 c7 : Option D} {nx : Lc → Sto → Prop} {rt : D → Sto → Prop} {bk ct : Lc → Sto → Prop} (hb : hasBag S b) (hl : ps.length ≤ 3) (hm : qs.length ≤ 3) (hp : ∀ p ∈ ps, Zp 32 p) (hq : ∀ p ∈ qs, Zp 103 p)
    (q : ∀ c3' c4' c5' c6' c7', nx [c0, some (.val (.ref b)), c2, c3', c4', c5', c6', c7'] S) : lawT K [c0, some (.val (.ref b)), c2, some (.lst (ps.map pD)), some (.lst (qs.map pD)), c5, c6, c7] S ⟨nx, rt, bk, ct, xp⟩ := by
  have hp1 : ∀ p ∈ ps, Zp 103 p := fun p h => (hp p h).up (by decide)
  unfold lawT
  try simp -implicitDefEqProofs only [dSeq_m, dIfS_m, dRet_m, dPure_m, dNext_m, dtOr_m, dtNot_m, dtVal_m, dCall_m, dArgs_c, dArgs_n, dVar_m, dSet_m, mVar_s, dOp_m, mBl_b, List.length_cons, List.length_nil, List.cons_append, List.nil_append, Nat.reduceAdd, Nat.reduceSub, List.getElem?_cons_zero, List.getElem?_cons_succ, List.set_cons_zero, List.set_cons_succ, Option.some.injEq, exists_eq_left', true_and, and_true, if_true, if_false, Bool.false_eq_true, Bool.true_eq_false, Bool.not_true, Bool.not_false, reduceIte, beq_self_eq_true, decide_true, Bool.or_false, Bool.or_true, Bool.false_or, Bool.true_or, dSl_m, dNoPart_m, dPart_i]
  refine ev_draw hb (by decide) (by decide) (fun r r0 r1 => ?_)
  obtain ⟨m, rfl⟩ : ∃ m : Nat, r = (m : Int) := ⟨r.toNat, by omega⟩
  refine ev_cloud (n := m) (by omega) hb (fun ts ht hts => ?_)
  rw [gSl_l, cut_map, show (some 1 : Option Int) = some ((1 : Nat) : Int) from rfl, cut_take]
  refine oOr_l ?_
  rw [oAdd_ll]
  have l1 : (ps.take 1).length ≤ 1 := by rw [List.length_take]; omega
  refine ⟨by rw [List.length_map, List.length_map]; omega, ?_⟩
  rw [← List.map_append]
  have lr : (ts ++ ps.take 1).length ≤ 6 := by rw [List.length_append]; omega
  have hr : ∀ p ∈ ts ++ ps.take 1, Zp 103 p := fun p h => by
    rcases List.mem_append.mp h with k | k
    · exact (hts p k).up (by decide)
    · exact hp1 p (List.mem_of_mem_take k)
  try simp -implicitDefEqProofs only [dSeq_m, dIfS_m, dRet_m, dPure_m, dNext_m, dtOr_m, dtNot_m, dtVal_m, dCall_m, dArgs_c, dArgs_n, dVar_m, dSet_m, mVar_s, dOp_m, mBl_b, List.length_cons, List.length_nil, List.cons_append, List.nil_append, Nat.reduceAdd, Nat.reduceSub, List.getElem?_cons_zero, List.getElem?_cons_succ, List.set_cons_zero, List.set_cons_succ, Option.some.injEq, exists_eq_left', true_and, and_true, if_true, if_false, Bool.false_eq_true, Bool.true_eq_false, Bool.not_true, Bool.not_false, reduceIte, beq_self_eq_true, decide_true, Bool.or_false, Bool.or_true, Bool.false_or, Bool.true_or]
  refine ev_both_so (by omega) (by omega) hp1 hq hb ?_
  try simp -implicitDefEqProofs only [dSeq_m, dIfS_m, dRet_m, dPure_m, dNext_m, dtOr_m, dtNot_m, dtVal_m, dCall_m, dArgs_c, dArgs_n, dVar_m, dSet_m, mVar_s, dOp_m, mBl_b, List.length_cons, List.length_nil, List.cons_append, List.nil_append, Nat.reduceAdd, Nat.reduceSub, List.getElem?_cons_zero, List.getElem?_cons_succ, List.set_cons_zero, List.set_cons_succ, Option.some.injEq, exists_eq_left', true_and, and_true, if_true, if_false, Bool.false_eq_true, Bool.true_eq_false, Bool.not_true, Bool.not_false, reduceIte, beq_self_eq_true, decide_true, Bool.or_false, Bool.or_true, Bool.false_or, Bool.true_or]
  refine ev_images_so (by omega) (by omega) hp1 hq hb ?_
  try simp -implicitDefEqProofs only [dSeq_m, dIfS_m, dRet_m, dPure_m, dNext_m, dtOr_m, dtNot_m, dtVal_m, dCall_m, dArgs_c, dArgs_n, dVar_m, dSet_m, mVar_s, dOp_m, mBl_b, List.length_cons, List.length_nil, List.cons_append, List.nil_append, Nat.reduceAdd, Nat.reduceSub, List.getElem?_cons_zero, List.getElem?_cons_succ, List.set_cons_zero, List.set_cons_succ, Option.some.injEq, exists_eq_left', true_and, and_true, if_true, if_false, Bool.false_eq_true, Bool.true_eq_false, Bool.not_true, Bool.not_false, reduceIte, beq_self_eq_true, decide_true, Bool.or_false, Bool.or_true, Bool.false_or, Bool.true_or]
  refine ev_images_so (by omega) lr hq hr hb ?_
  try simp -implicitDefEqProofs only [dSeq_m, dIfS_m, dRet_m, dPure_m, dNext_m, dtOr_m, dtNot_m, dtVal_m, dCall_m, dArgs_c, dArgs_n, dVar_m, dSet_m, mVar_s, dOp_m, mBl_b, List.length_cons, List.length_nil, List.cons_append, List.nil_append, Nat.reduceAdd, Nat.reduceSub, List.getElem?_cons_zero, List.getElem?_cons_succ, List.set_cons_zero, List.set_cons_succ, Option.some.injEq, exists_eq_left', true_and, and_true, if_true, if_false, Bool.false_eq_true, Bool.true_eq_false, Bool.not_true, Bool.not_false, reduceIte, beq_self_eq_true, decide_true, Bool.or_false, Bool.or_true, Bool.false_or, Bool.true_or]
  refine ev_three_so (by omega) (by omega) lr hp1 hq hr ?_
  try simp -implicitDefEqProofs only [dSeq_m, dIfS_m, dRet_m, dPure_m, dNext_m, dtOr_m, dtNot_m, dtVal_m, dCall_m, dArgs_c, dArgs_n, dVar_m, dSet_m, mVar_s, dOp_m, mBl_b, List.length_cons, List.length_nil, List.cons_append, List.nil_append, Nat.reduceAdd, Nat.reduceSub, List.getElem?_cons_zero, List.getElem?_cons_succ, List.set_cons_zero, List.set_cons_succ, Option.some.injEq, exists_eq_left', true_and, and_true, if_true, if_false, Bool.false_eq_true, Bool.true_eq_false, Bool.not_true, Bool.not_false, reduceIte, beq_self_eq_true, decide_true, Bool.or_false, Bool.or_true, Bool.false_or, Bool.true_or]
  refine ev_both_so (by omega) lr hq hr hb ?_
  try simp -implicitDefEqProofs only [dSeq_m, dIfS_m, dRet_m, dPure_m, dNext_m, dtOr_m, dtNot_m, dtVal_m, dCall_m, dArgs_c, dArgs_n, dVar_m, dSet_m, mVar_s, dOp_m, mBl_b, List.length_cons, List.length_nil, List.cons_append, List.nil_append, Nat.reduceAdd, Nat.reduceSub, List.getElem?_cons_zero, List.getElem?_cons_succ, List.set_cons_zero, List.set_cons_succ, Option.some.injEq, exists_eq_left', true_and, and_true, if_true, if_false, Bool.false_eq_true, Bool.true_eq_false, Bool.not_true, Bool.not_false, reduceIte, beq_self_eq_true, decide_true, Bool.or_false, Bool.or_true, Bool.false_or, Bool.true_or]
  exact q _ _ _ _ _
theorem law_v {ps qs : List Pt} {c0 c2 c5 c6 c7 : Option D} {nx : Lc → Sto → Prop} {rt : D → Sto → Prop} {bk ct : Lc → Sto → Prop} (hb : hasBag S b) (hl : ps.length ≤ 3) (hm : qs.length ≤ 3) (hp : ∀ p ∈ ps, Zp 32 p) (hq : ∀ p ∈ qs, Zp 103 p)
    (q : ∀ c3' c4' c5' c6' c7', nx [c0, some (.val (.ref b)), c2, c3', c4', c5', c6', c7'] S) : lawV K [c0, some (.val (.ref b)), c2, some (.lst (ps.map pD)), some (.lst (qs.map pD)), c5, c6, c7] S ⟨nx, rt, bk, ct, xp⟩ := by
  have T : ∀ (rs : List Pt) (d5 : Option D), rs.length ≤ 3 → (∀ p ∈ rs, Zp 103 p) → lawT K [c0, some (.val (.ref b)), c2, some (.lst (ps.map pD)), some (.lst (rs.map pD)), d5, c6, c7] S ⟨nx, rt, bk, ct, xp⟩ := fun rs d5 h1 h2 => law_tail hb hl h1 hp h2 q
  unfold lawV
  try simp -implicitDefEqProofs only [dSeq_m, dIfS_m, dSet_m, dLc_m, wipeL_c, wipeL_n, cSeq_m, dVar_m, mVar_s, mSeq_l, dCall_m, dArgs_c, dArgs_n, dNext_m, dtAnd_m, dtVal_m, dOp_m, dLst_m, dPure_m, mBl_b, bT_nm, List.length_cons, List.length_nil, List.cons_append, List.nil_append, Nat.reduceAdd, Nat.reduceSub, List.getElem?_cons_zero, List.getElem?_cons_succ, List.set_cons_zero, List.set_cons_succ, Option.some.injEq, exists_eq_left', true_and, and_true, if_true, if_false, Bool.false_eq_true, Bool.true_eq_false, Bool.not_true, Bool.not_false, reduceIte, beq_self_eq_true, decide_true, Bool.or_false, Bool.or_true, Bool.false_or, Bool.true_or, dSl_m, dNoPart_m, dPart_i]
  refine ev_draw hb (by decide) (by decide) (fun r r0 r1 => ?_)
  refine eqV_ii ?_
  rcases decide (r = 0) with _ | _
  · try simp -implicitDefEqProofs only [dSeq_m, dIfS_m, dSet_m, dLc_m, wipeL_c, wipeL_n, cSeq_m, dVar_m, mVar_s, mSeq_l, dCall_m, dArgs_c, dArgs_n, dNext_m, dtAnd_m, dtVal_m, dOp_m, dLst_m, dPure_m, mBl_b, bT_nm, List.length_cons, List.length_nil, List.cons_append, List.nil_append, Nat.reduceAdd, Nat.reduceSub, List.getElem?_cons_zero, List.getElem?_cons_succ, List.set_cons_zero, List.set_cons_succ, Option.some.injEq, exists_eq_left', true_and, and_true, if_true, if_false, Bool.false_eq_true, Bool.true_eq_false, Bool.not_true, Bool.not_false, reduceIte, beq_self_eq_true, decide_true, Bool.or_false, Bool.or_true, Bool.false_or, Bool.true_or]
    exact T qs _ hm hq
  · try simp -implicitDefEqProofs only [dSeq_m, dIfS_m, dSet_m, dLc_m, wipeL_c, wipeL_n, cSeq_m, dVar_m, mVar_s, mSeq_l, dCall_m, dArgs_c, dArgs_n, dNext_m, dtAnd_m, dtVal_m, dOp_m, dLst_m, dPure_m, mBl_b, bT_nm, List.length_cons, List.length_nil, List.cons_append, List.nil_append, Nat.reduceAdd, Nat.reduceSub, List.getElem?_cons_zero, List.getElem?_cons_succ, List.set_cons_zero, List.set_cons_succ, Option.some.injEq, exists_eq_left', true_and, and_true, if_true, if_false, Bool.false_eq_true, Bool.true_eq_false, Bool.not_true, Bool.not_false, reduceIte, beq_self_eq_true, decide_true, Bool.or_false, Bool.or_true, Bool.false_or, Bool.true_or]
    refine lt_ne0 lt_l (by omega) ?_
    rcases ps.isEmpty with _ | _
    · try simp -implicitDefEqProofs only [dSeq_m, dIfS_m, dSet_m, dLc_m, wipeL_c, wipeL_n, cSeq_m, dVar_m, mVar_s, mSeq_l, dCall_m, dArgs_c, dArgs_n, dNext_m, dtAnd_m, dtVal_m, dOp_m, dLst_m, dPure_m, mBl_b, bT_nm, List.length_cons, List.length_nil, List.cons_append, List.nil_append, Nat.reduceAdd, Nat.reduceSub, List.getElem?_cons_zero, List.getElem?_cons_succ, List.set_cons_zero, List.set_cons_succ, Option.some.injEq, exists_eq_left', true_and, and_true, if_true, if_false, Bool.false_eq_true, Bool.true_eq_false, Bool.not_true, Bool.not_false, reduceIte, beq_self_eq_true, decide_true, Bool.or_false, Bool.or_true, Bool.false_or, Bool.true_or]
      refine ev_nearP hb (fun v hv => ?_)
      try simp -implicitDefEqProofs only [dSeq_m, dIfS_m, dSet_m, dLc_m, wipeL_c, wipeL_n, cSeq_m, dVar_m, mVar_s, mSeq_l, dCall_m, dArgs_c, dArgs_n, dNext_m, dtAnd_m, dtVal_m, dOp_m, dLst_m, dPure_m, mBl_b, bT_nm, List.length_cons, List.length_nil, List.cons_append, List.nil_append, Nat.reduceAdd, Nat.reduceSub, List.getElem?_cons_zero, List.getElem?_cons_succ, List.set_cons_zero, List.set_cons_succ, Option.some.injEq, exists_eq_left', true_and, and_true, if_true, if_false, Bool.false_eq_true, Bool.true_eq_false, Bool.not_true, Bool.not_false, reduceIte, beq_self_eq_true, decide_true, Bool.or_false, Bool.or_true, Bool.false_or, Bool.true_or]
      refine ⟨by rw [List.length_map]; omega, ?_⟩
      refine wLc_mp pD (fun p => pD (pa p v)) ps [] _ (fun p hpp k hk => ?_) ?_
      · rw [bT_nm]
        try simp -implicitDefEqProofs only [dSeq_m, dIfS_m, dSet_m, dLc_m, wipeL_c, wipeL_n, cSeq_m, dVar_m, mVar_s, mSeq_l, dCall_m, dArgs_c, dArgs_n, dNext_m, dtAnd_m, dtVal_m, dOp_m, dLst_m, dPure_m, mBl_b, bT_nm, List.length_cons, List.length_nil, List.cons_append, List.nil_append, Nat.reduceAdd, Nat.reduceSub, List.getElem?_cons_zero, List.getElem?_cons_succ, List.set_cons_zero, List.set_cons_succ, Option.some.injEq, exists_eq_left', true_and, and_true, if_true, if_false, Bool.false_eq_true, Bool.true_eq_false, Bool.not_true, Bool.not_false, reduceIte, beq_self_eq_true, decide_true, Bool.or_false, Bool.or_true, Bool.false_or, Bool.true_or]
        have := hp p hpp
        have := hv
        exact ev__law_moved (by decide) hk
      rw [List.nil_append, show ps.map (fun p => pD (pa p v)) = (ps.map (fun p => pa p v)).map pD by rw [List.map_map]; rfl]
      refine T _ _ (by rw [List.length_map]; exact hl) (fun c hc => ?_)
      obtain ⟨p, hpp, rfl⟩ := List.mem_map.mp hc
      exact (zp_add (hp p hpp) hv).up (by decide)
    · try simp -implicitDefEqProofs only [dSeq_m, dIfS_m, dSet_m, dLc_m, wipeL_c, wipeL_n, cSeq_m, dVar_m, mVar_s, mSeq_l, dCall_m, dArgs_c, dArgs_n, dNext_m, dtAnd_m, dtVal_m, dOp_m, dLst_m, dPure_m, mBl_b, bT_nm, List.length_cons, List.length_nil, List.cons_append, List.nil_append, Nat.reduceAdd, Nat.reduceSub, List.getElem?_cons_zero, List.getElem?_cons_succ, List.set_cons_zero, List.set_cons_succ, Option.some.injEq, exists_eq_left', true_and, and_true, if_true, if_false, Bool.false_eq_true, Bool.true_eq_false, Bool.not_true, Bool.not_false, reduceIte, beq_self_eq_true, decide_true, Bool.or_false, Bool.or_true, Bool.false_or, Bool.true_or]
      exact T qs _ hm hq
theorem turn {c0 c2 c3 c4 c5 c6 c7 : Option D} {nx : Lc → Sto → Prop} {rt : D → Sto → Prop} {bk ct : Lc → Sto → Prop} (hb : hasBag S b)
    (q : ∀ c3' c4' c5' c6' c7', nx [c0, some (.val (.ref b)), c2, c3', c4', c5', c6', c7'] S) : lawB K [c0, some (.val (.ref b)), c2, c3, c4, c5, c6, c7] S ⟨nx, rt, bk, ct, xp⟩ := by
  rw [lawB_eq]
  try simp -implicitDefEqProofs only [dSeq_m, dIfS_m, dSet_m, dCall_m, dArgs_c, dArgs_n, dLst_m, dLc_m, wipeL_c, wipeL_n, cSeq_m, dVar_m, dNext_m, dtVal_m, dOp_m, dPure_m, dPar_m, setL_c, setL_n, mVar_s, mSeq_l, gList_l, mBl_b, List.length_cons, List.length_nil, List.cons_append, List.nil_append, Nat.reduceAdd, Nat.reduceSub, List.getElem?_cons_zero, List.getElem?_cons_succ, List.set_cons_zero, List.set_cons_succ, Option.some.injEq, exists_eq_left', true_and, and_true, if_true, if_false, Bool.false_eq_true, Bool.true_eq_false, Bool.not_true, Bool.not_false, reduceIte, beq_self_eq_true, decide_true, Bool.or_false, Bool.or_true, Bool.false_or, Bool.true_or]
  refine ev_draw hb (by decide) (by decide) (fun r r0 r1 => ?_)
  obtain ⟨m, rfl⟩ : ∃ m : Nat, r = (m : Int) := ⟨r.toNat, by omega⟩
  refine ev_cloud (n := m) (by omega) hb (fun ps hl hp => ?_)
  refine ev_draw hb (by decide) (by decide) (fun r r0 r1 => ?_)
  obtain ⟨k, rfl⟩ : ∃ m : Nat, r = (m : Int) := ⟨r.toNat, by omega⟩
  refine ev_cloud (n := k) (by omega) hb (fun qs hm hq => ?_)
  have hp1 : ∀ p ∈ ps, Zp 103 p := fun p h => (hp p h).up (by decide)
  have hq1 : ∀ p ∈ qs, Zp 103 p := fun p h => (hq p h).up (by decide)
  have T : ∀ (rs : List Pt) (d7 : Option D), rs.length ≤ 3 → (∀ p ∈ rs, Zp 103 p) → lawV K [c0, some (.val (.ref b)), c2, some (.lst (ps.map pD)), some (.lst (rs.map pD)), c5, c6, d7] S ⟨nx, rt, bk, ct, xp⟩ := fun rs d7 h1 h2 => law_v hb (by omega) h1 hp h2 q
  try simp -implicitDefEqProofs only [dSeq_m, dIfS_m, dSet_m, dCall_m, dArgs_c, dArgs_n, dLst_m, dLc_m, wipeL_c, wipeL_n, cSeq_m, dVar_m, dNext_m, dtVal_m, dOp_m, dPure_m, dPar_m, setL_c, setL_n, mVar_s, mSeq_l, gList_l, mBl_b, List.length_cons, List.length_nil, List.cons_append, List.nil_append, Nat.reduceAdd, Nat.reduceSub, List.getElem?_cons_zero, List.getElem?_cons_succ, List.set_cons_zero, List.set_cons_succ, Option.some.injEq, exists_eq_left', true_and, and_true, if_true, if_false, Bool.false_eq_true, Bool.true_eq_false, Bool.not_true, Bool.not_false, reduceIte, beq_self_eq_true, decide_true, Bool.or_false, Bool.or_true, Bool.false_or, Bool.true_or, dSl_m, dNoPart_m, dPart_i]
  refine ev_draw hb (by decide) (by decide) (fun r r0 r1 => ?_)
  refine eqV_ii ?_
  rcases decide (r = 0) with _ | _
  · try simp -implicitDefEqProofs only [dSeq_m, dIfS_m, dSet_m, dCall_m, dArgs_c, dArgs_n, dLst_m, dLc_m, wipeL_c, wipeL_n, cSeq_m, dVar_m, dNext_m, dtVal_m, dOp_m, dPure_m, dPar_m, setL_c, setL_n, mVar_s, mSeq_l, gList_l, mBl_b, List.length_cons, List.length_nil, List.cons_append, List.nil_append, Nat.reduceAdd, Nat.reduceSub, List.getElem?_cons_zero, List.getElem?_cons_succ, List.set_cons_zero, List.set_cons_succ, Option.some.injEq, exists_eq_left', true_and, and_true, if_true, if_false, Bool.false_eq_true, Bool.true_eq_false, Bool.not_true, Bool.not_false, reduceIte, beq_self_eq_true, decide_true, Bool.or_false, Bool.or_true, Bool.false_or, Bool.true_or]
    exact T qs _ (by omega) hq1
  · try simp -implicitDefEqProofs only [dSeq_m, dIfS_m, dSet_m, dCall_m, dArgs_c, dArgs_n, dLst_m, dLc_m, wipeL_c, wipeL_n, cSeq_m, dVar_m, dNext_m, dtVal_m, dOp_m, dPure_m, dPar_m, setL_c, setL_n, mVar_s, mSeq_l, gList_l, mBl_b, List.length_cons, List.length_nil, List.cons_append, List.nil_append, Nat.reduceAdd, Nat.reduceSub, List.getElem?_cons_zero, List.getElem?_cons_succ, List.set_cons_zero, List.set_cons_succ, Option.some.injEq, exists_eq_left', true_and, and_true, if_true, if_false, Bool.false_eq_true, Bool.true_eq_false, Bool.not_true, Bool.not_false, reduceIte, beq_self_eq_true, decide_true, Bool.or_false, Bool.or_true, Bool.false_or, Bool.true_or]
    refine ev_asked (n := 32) (by decide) (by decide) hp (by omega) hb (fun as ha hla => ?_)
    rw [gSl_l, cut_map]
    refine ev_asked (n := 32) (by decide) (by decide) hp (by omega) hb (fun cs hcs hlc => ?_)
    rw [gSl_l, cut_map]
    try simp -implicitDefEqProofs only [dSeq_m, dIfS_m, dSet_m, dCall_m, dArgs_c, dArgs_n, dLst_m, dLc_m, wipeL_c, wipeL_n, cSeq_m, dVar_m, dNext_m, dtVal_m, dOp_m, dPure_m, dPar_m, setL_c, setL_n, mVar_s, mSeq_l, gList_l, mBl_b, List.length_cons, List.length_nil, List.cons_append, List.nil_append, Nat.reduceAdd, Nat.reduceSub, List.getElem?_cons_zero, List.getElem?_cons_succ, List.set_cons_zero, List.set_cons_succ, Option.some.injEq, exists_eq_left', true_and, and_true, if_true, if_false, Bool.false_eq_true, Bool.true_eq_false, Bool.not_true, Bool.not_false, reduceIte, beq_self_eq_true, decide_true, Bool.or_false, Bool.or_true, Bool.false_or, Bool.true_or]
    refine ⟨by rw [List.length_map]; omega, ?_⟩
    refine wLc_all (P := PD) _ [] _ (fun d hd k hk => ?_) (fun es hle hes => ?_)
    · obtain ⟨p, hpp, rfl⟩ := mem_pD hd
      try simp -implicitDefEqProofs only [dSeq_m, dIfS_m, dSet_m, dCall_m, dArgs_c, dArgs_n, dLst_m, dLc_m, wipeL_c, wipeL_n, cSeq_m, dVar_m, dNext_m, dtVal_m, dOp_m, dPure_m, dPar_m, setL_c, setL_n, mVar_s, mSeq_l, gList_l, mBl_b, List.length_cons, List.length_nil, List.cons_append, List.nil_append, Nat.reduceAdd, Nat.reduceSub, List.getElem?_cons_zero, List.getElem?_cons_succ, List.set_cons_zero, List.set_cons_succ, Option.some.injEq, exists_eq_left', true_and, and_true, if_true, if_false, Bool.false_eq_true, Bool.true_eq_false, Bool.not_true, Bool.not_false, reduceIte, beq_self_eq_true, decide_true, Bool.or_false, Bool.or_true, Bool.false_or, Bool.true_or]
      refine ev_nearP hb (fun v hv => ?_)
      exact ev_movedP (hp p hpp) hv (l := 103) (by decide) (by decide) (fun r hr => hk _ ⟨r, hr, rfl⟩)
    obtain ⟨ws, rfl, hws⟩ := PD_all hes
    rw [List.nil_append]
    refine ev_pick hb (by simp) (by simp) (fun d hd => ?_)
    have c1 : (cutD as (some 4) (some 6)).length ≤ 3 := by
      unfold cutD
      rw [List.length_take, show HT.sIx as.length as.length (some 6) = min 6 as.length from HT.sIx_nat _ _ 6, show HT.sIx as.length 0 (some 4) = min 4 as.length from HT.sIx_nat _ _ 4]
      omega
    have c2 : (cutD cs (some 5) (some 8)).length ≤ 3 := by
      unfold cutD
      rw [List.length_take, show HT.sIx cs.length cs.length (some 8) = min 8 cs.length from HT.sIx_nat _ _ 8, show HT.sIx cs.length 0 (some 5) = min 5 cs.length from HT.sIx_nat _ _ 5]
      omega
    have hd' : d = .lst ((cutD as (some 4) (some 6)).map pD) ∨ d = .lst ((cutD cs (some 5) (some 8)).map pD) ∨ d = .lst (ps.map pD) ∨ d = .lst (ws.map pD) := by simpa using hd
    rcases hd' with rfl | rfl | rfl | rfl
    · exact T _ _ c1 (fun c hc => ha c (cut_mem hc))
    · exact T _ _ c2 (fun c hc => hcs c (cut_mem hc))
    · exact T _ _ (by omega) hp1
    · refine T _ _ ?_ hws
      rw [List.length_map, List.length_map] at hle
      omega
theorem law_true {ns : List Int} (hlen : ns.length ≤ 63) : f_law K [.scr ns] (fun _ => none) (fun d _ => d = .bl true) noX := by
  unfold f_law
  rw [law_eq]
  try simp -implicitDefEqProofs only [dDef_1_7, dSeq_m, dRet_m, dPure_m, dFor_m, cRng_m, dArgs_c, dArgs_n, dSet_m, dCall_m, dVar_m, mVar_s, wFor_c, wFor_n, bT_nm, List.length_cons, List.length_nil, List.cons_append, List.nil_append, Nat.reduceAdd, Nat.reduceSub, List.getElem?_cons_zero, List.getElem?_cons_succ, List.set_cons_zero, List.set_cons_succ, Option.some.injEq, exists_eq_left', true_and, and_true, if_true, if_false, Bool.false_eq_true, Bool.true_eq_false, Bool.not_true, Bool.not_false, reduceIte, beq_self_eq_true, decide_true, Bool.or_false, Bool.or_true, Bool.false_or, Bool.true_or]
  refine ev_bag hlen (fun a S hb => ?_)
  try simp -implicitDefEqProofs only [dDef_1_7, dSeq_m, dRet_m, dPure_m, dFor_m, cRng_m, dArgs_c, dArgs_n, dSet_m, dCall_m, dVar_m, mVar_s, wFor_c, wFor_n, bT_nm, List.length_cons, List.length_nil, List.cons_append, List.nil_append, Nat.reduceAdd, Nat.reduceSub, List.getElem?_cons_zero, List.getElem?_cons_succ, List.set_cons_zero, List.set_cons_succ, Option.some.injEq, exists_eq_left', true_and, and_true, if_true, if_false, Bool.false_eq_true, Bool.true_eq_false, Bool.not_true, Bool.not_false, reduceIte, beq_self_eq_true, decide_true, Bool.or_false, Bool.or_true, Bool.false_or, Bool.true_or]
  refine mRng_of (xs := [.int 0, .int 1]) (by decide) rfl ?_
  try simp -implicitDefEqProofs only [dDef_1_7, dSeq_m, dRet_m, dPure_m, dFor_m, cRng_m, dArgs_c, dArgs_n, dSet_m, dCall_m, dVar_m, mVar_s, wFor_c, wFor_n, bT_nm, List.length_cons, List.length_nil, List.cons_append, List.nil_append, Nat.reduceAdd, Nat.reduceSub, List.getElem?_cons_zero, List.getElem?_cons_succ, List.set_cons_zero, List.set_cons_succ, Option.some.injEq, exists_eq_left', true_and, and_true, if_true, if_false, Bool.false_eq_true, Bool.true_eq_false, Bool.not_true, Bool.not_false, reduceIte, beq_self_eq_true, decide_true, Bool.or_false, Bool.or_true, Bool.false_or, Bool.true_or]
  refine turn hb (fun x3 x4 x5 x6 x7 => ?_)
  try simp -implicitDefEqProofs only [dDef_1_7, dSeq_m, dRet_m, dPure_m, dFor_m, cRng_m, dArgs_c, dArgs_n, dSet_m, dCall_m, dVar_m, mVar_s, wFor_c, wFor_n, bT_nm, List.length_cons, List.length_nil, List.cons_append, List.nil_append, Nat.reduceAdd, Nat.reduceSub, List.getElem?_cons_zero, List.getElem?_cons_succ, List.set_cons_zero, List.set_cons_succ, Option.some.injEq, exists_eq_left', true_and, and_true, if_true, if_false, Bool.false_eq_true, Bool.true_eq_false, Bool.not_true, Bool.not_false, reduceIte, beq_self_eq_true, decide_true, Bool.or_false, Bool.or_true, Bool.false_or, Bool.true_or]
  refine turn hb (fun y3 y4 y5 y6 y7 => ?_)
  try simp -implicitDefEqProofs only [dDef_1_7, dSeq_m, dRet_m, dPure_m, dFor_m, cRng_m, dArgs_c, dArgs_n, dSet_m, dCall_m, dVar_m, mVar_s, wFor_c, wFor_n, bT_nm, List.length_cons, List.length_nil, List.cons_append, List.nil_append, Nat.reduceAdd, Nat.reduceSub, List.getElem?_cons_zero, List.getElem?_cons_succ, List.set_cons_zero, List.set_cons_succ, Option.some.injEq, exists_eq_left', true_and, and_true, if_true, if_false, Bool.false_eq_true, Bool.true_eq_false, Bool.not_true, Bool.not_false, reduceIte, beq_self_eq_true, decide_true, Bool.or_false, Bool.or_true, Bool.false_or, Bool.true_or]
end Dw
set_option maxHeartbeats 2000000
namespace Dw
open PySem PySem.Spec PyProof.Rows L2
def fa : List He.Fa := [.free "list", .free "len", .glo "_law_bag", .free "range", .free "abs", .free "int", .glo "_law_common", .glo "_law_low", .glo "_law_draw", .glo "_law_pick", .glo "_law_small", .glo "_law_near", .glo "_law_fraction", .glo "_law_spot", .glo "_law_sum", .glo "_law_moved", .glo "_law_product", .glo "_law_long", .glo "_law_cloud", .glo "_law_less", .glo "_law_shift", .glo "_law_asked", .free "isinstance", .free "tuple", .glo "is_pair", .free "bool", .glo "is_number", .glo "is_fraction", .glo "is_spot", .glo "fraction", .glo "plus", .glo "negative", .glo "minus", .glo "times", .glo "Table", .noat "Table" "a", .noat "Table" "d", .noat "Table" "b", .noat "Table" "c", .mkr "Table", .glo "columns", .glo "vector_minus", .glo "_reaches", .glo "_independent", .glo "Flat", .noat "Flat" "_corners", .mkr "Flat", .glo "_law_flat", .free "all", .glo "_crossing", .glo "direction", .glo "_equation", .meth "Flat" "equation", .meth "Flat" "spots", .free "zip", .free "str", .glo "_law_same", .glo "_law_cross", .glo "_law_turn", .glo "_law_span", .glo "_law_within", .glo "_law_is_whole", .glo "_law_is_fraction", .glo "_law_is_spot", .glo "_law_is_flat", .glo "_law_quotient", .glo "_law_meet", .glo "_law_both_so", .glo "_law_table", .glo "Motion", .noat "Motion" "table", .noat "Motion" "move", .mkr "Motion", .glo "_law_led", .glo "vector_plus", .glo "taken", .glo "moved_spot", .meth "Flat" "moved", .glo "_law_det", .meth "Table" "scaled", .glo "divided", .meth "Table" "inverse", .glo "vector_times", .meth "Motion" "inverse", .glo "_law_images_so", .glo "_law_three_so", .glo "law"]
def fx : List DefX := [⟨fun K => He.ga K "_law_bag", "_law_bag", "_law_bag", defArgs s__law_bag, defBody s__law_bag, defScope s__law_bag, [], []⟩,
  ⟨fun K => He.ga K "_law_common", "_law_common", "_law_common", defArgs s__law_common, defBody s__law_common, defScope s__law_common, [], []⟩,
  ⟨fun K => He.ga K "_law_low", "_law_low", "_law_low", defArgs s__law_low, defBody s__law_low, defScope s__law_low, [], []⟩,
  ⟨fun K => He.ga K "_law_draw", "_law_draw", "_law_draw", defArgs s__law_draw, defBody s__law_draw, defScope s__law_draw, [], []⟩,
  ⟨fun K => He.ga K "_law_pick", "_law_pick", "_law_pick", defArgs s__law_pick, defBody s__law_pick, defScope s__law_pick, [], []⟩,
  ⟨fun K => He.ga K "_law_small", "_law_small", "_law_small", defArgs s__law_small, defBody s__law_small, defScope s__law_small, [], []⟩,
  ⟨fun K => He.ga K "_law_near", "_law_near", "_law_near", defArgs s__law_near, defBody s__law_near, defScope s__law_near, [], []⟩,
  ⟨fun K => He.ga K "_law_fraction", "_law_fraction", "_law_fraction", defArgs s__law_fraction, defBody s__law_fraction, defScope s__law_fraction, [], []⟩,
  ⟨fun K => He.ga K "_law_spot", "_law_spot", "_law_spot", defArgs s__law_spot, defBody s__law_spot, defScope s__law_spot, [], []⟩,
  ⟨fun K => He.ga K "_law_sum", "_law_sum", "_law_sum", defArgs s__law_sum, defBody s__law_sum, defScope s__law_sum, [], []⟩,
  ⟨fun K => He.ga K "_law_moved", "_law_moved", "_law_moved", defArgs s__law_moved, defBody s__law_moved, defScope s__law_moved, [], []⟩,
  ⟨fun K => He.ga K "_law_product", "_law_product", "_law_product", defArgs s__law_product, defBody s__law_product, defScope s__law_product, [], []⟩,
  ⟨fun K => He.ga K "_law_long", "_law_long", "_law_long", defArgs s__law_long, defBody s__law_long, defScope s__law_long, [], []⟩,
  ⟨fun K => He.ga K "_law_cloud", "_law_cloud", "_law_cloud", defArgs s__law_cloud, defBody s__law_cloud, defScope s__law_cloud, [], []⟩,
  ⟨fun K => He.ga K "_law_less", "_law_less", "_law_less", defArgs s__law_less, defBody s__law_less, defScope s__law_less, [], []⟩,
  ⟨fun K => He.ga K "_law_shift", "_law_shift", "_law_shift", defArgs s__law_shift, defBody s__law_shift, defScope s__law_shift, [], []⟩,
  ⟨fun K => He.ga K "_law_asked", "_law_asked", "_law_asked", defArgs s__law_asked, defBody s__law_asked, defScope s__law_asked, [], []⟩,
  ⟨fun K => He.ga K "is_pair", "is_pair", "is_pair", defArgs s_is_pair, defBody s_is_pair, defScope s_is_pair, [], []⟩,
  ⟨fun K => He.ga K "is_number", "is_number", "is_number", defArgs s_is_number, defBody s_is_number, defScope s_is_number, [], []⟩,
  ⟨fun K => He.ga K "is_fraction", "is_fraction", "is_fraction", defArgs s_is_fraction, defBody s_is_fraction, defScope s_is_fraction, [], []⟩,
  ⟨fun K => He.ga K "is_spot", "is_spot", "is_spot", defArgs s_is_spot, defBody s_is_spot, defScope s_is_spot, [], []⟩,
  ⟨fun K => He.ga K "fraction", "fraction", "fraction", defArgs s_fraction, defBody s_fraction, defScope s_fraction, [.int 1], []⟩,
  ⟨fun K => He.ga K "plus", "plus", "plus", defArgs s_plus, defBody s_plus, defScope s_plus, [], []⟩,
  ⟨fun K => He.ga K "negative", "negative", "negative", defArgs s_negative, defBody s_negative, defScope s_negative, [], []⟩,
  ⟨fun K => He.ga K "minus", "minus", "minus", defArgs s_minus, defBody s_minus, defScope s_minus, [], []⟩,
  ⟨fun K => He.ga K "times", "times", "times", defArgs s_times, defBody s_times, defScope s_times, [], []⟩,
  ⟨fun K => ad_Table_det K, "det", "Table.det", defArgs s_Table_det, defBody s_Table_det, defScope s_Table_det, [], []⟩,
  ⟨fun K => ad_Table___init__ K, "__init__", "Table.__init__", defArgs s_Table___init__, defBody s_Table___init__, defScope s_Table___init__, [], []⟩,
  ⟨fun K => He.ga K "columns", "columns", "columns", defArgs s_columns, defBody s_columns, defScope s_columns, [], []⟩,
  ⟨fun K => He.ga K "vector_minus", "vector_minus", "vector_minus", defArgs s_vector_minus, defBody s_vector_minus, defScope s_vector_minus, [], []⟩,
  ⟨fun K => He.ga K "_reaches", "_reaches", "_reaches", defArgs s__reaches, defBody s__reaches, defScope s__reaches, [], []⟩,
  ⟨fun K => He.ga K "_independent", "_independent", "_independent", defArgs s__independent, defBody s__independent, defScope s__independent, [], []⟩,
  ⟨fun K => ad_Flat___init__ K, "__init__", "Flat.__init__", defArgs s_Flat___init__, defBody s_Flat___init__, defScope s_Flat___init__, [], []⟩,
  ⟨fun K => He.ga K "_law_flat", "_law_flat", "_law_flat", defArgs s__law_flat, defBody s__law_flat, defScope s__law_flat, [], []⟩,
  ⟨fun K => ad_Flat_size K, "size", "Flat.size", defArgs s_Flat_size, defBody s_Flat_size, defScope s_Flat_size, [], []⟩,
  ⟨fun K => ad_Flat___contains__ K, "__contains__", "Flat.__contains__", defArgs s_Flat___contains__, defBody s_Flat___contains__, defScope s_Flat___contains__, [], []⟩,
  ⟨fun K => He.ga K "_crossing", "_crossing", "_crossing", defArgs s__crossing, defBody s__crossing, defScope s__crossing, [], []⟩,
  ⟨fun K => He.ga K "direction", "direction", "direction", defArgs s_direction, defBody s_direction, defScope s_direction, [], []⟩,
  ⟨fun K => He.ga K "_equation", "_equation", "_equation", defArgs s__equation, defBody s__equation, defScope s__equation, [], []⟩,
  ⟨fun K => ad_Flat_equation K, "equation", "Flat.equation", defArgs s_Flat_equation, defBody s_Flat_equation, defScope s_Flat_equation, [], []⟩,
  ⟨fun K => ad_Flat___and__ K, "__and__", "Flat.__and__", defArgs s_Flat___and__, defBody s_Flat___and__, defScope s_Flat___and__, [], []⟩,
  ⟨fun K => ad_Flat_spots K, "spots", "Flat.spots", defArgs s_Flat_spots, defBody s_Flat_spots, defScope s_Flat_spots, [], []⟩,
  ⟨fun K => ad_Flat___or__ K, "__or__", "Flat.__or__", defArgs s_Flat___or__, defBody s_Flat___or__, defScope s_Flat___or__, [], []⟩,
  ⟨fun K => He.ga K "_law_same", "_law_same", "_law_same", defArgs s__law_same, defBody s__law_same, defScope s__law_same, [], []⟩,
  ⟨fun K => He.ga K "_law_cross", "_law_cross", "_law_cross", defArgs s__law_cross, defBody s__law_cross, defScope s__law_cross, [], []⟩,
  ⟨fun K => He.ga K "_law_turn", "_law_turn", "_law_turn", defArgs s__law_turn, defBody s__law_turn, defScope s__law_turn, [], []⟩,
  ⟨fun K => He.ga K "_law_span", "_law_span", "_law_span", defArgs s__law_span, defBody s__law_span, defScope s__law_span, [], []⟩,
  ⟨fun K => He.ga K "_law_within", "_law_within", "_law_within", defArgs s__law_within, defBody s__law_within, defScope s__law_within, [], []⟩,
  ⟨fun K => He.ga K "_law_is_whole", "_law_is_whole", "_law_is_whole", defArgs s__law_is_whole, defBody s__law_is_whole, defScope s__law_is_whole, [], []⟩,
  ⟨fun K => He.ga K "_law_is_fraction", "_law_is_fraction", "_law_is_fraction", defArgs s__law_is_fraction, defBody s__law_is_fraction, defScope s__law_is_fraction, [], []⟩,
  ⟨fun K => He.ga K "_law_is_spot", "_law_is_spot", "_law_is_spot", defArgs s__law_is_spot, defBody s__law_is_spot, defScope s__law_is_spot, [], []⟩,
  ⟨fun K => ad_Flat___eq__ K, "__eq__", "Flat.__eq__", defArgs s_Flat___eq__, defBody s_Flat___eq__, defScope s_Flat___eq__, [], []⟩,
  ⟨fun K => He.ga K "_law_is_flat", "_law_is_flat", "_law_is_flat", defArgs s__law_is_flat, defBody s__law_is_flat, defScope s__law_is_flat, [], []⟩,
  ⟨fun K => He.ga K "_law_quotient", "_law_quotient", "_law_quotient", defArgs s__law_quotient, defBody s__law_quotient, defScope s__law_quotient, [], []⟩,
  ⟨fun K => He.ga K "_law_meet", "_law_meet", "_law_meet", defArgs s__law_meet, defBody s__law_meet, defScope s__law_meet, [], []⟩,
  ⟨fun K => ad_Flat_whole K, "whole", "Flat.whole", defArgs s_Flat_whole, defBody s_Flat_whole, defScope s_Flat_whole, [], []⟩,
  ⟨fun K => He.ga K "_law_both_so", "_law_both_so", "_law_both_so", defArgs s__law_both_so, defBody s__law_both_so, defScope s__law_both_so, [], []⟩,
  ⟨fun K => He.ga K "_law_table", "_law_table", "_law_table", defArgs s__law_table, defBody s__law_table, defScope s__law_table, [], []⟩,
  ⟨fun K => ad_Motion___init__ K, "__init__", "Motion.__init__", defArgs s_Motion___init__, defBody s_Motion___init__, defScope s_Motion___init__, [.adr (He.dflAt ("Motion", some "__init__") 0)], []⟩,
  ⟨fun K => He.ga K "_law_led", "_law_led", "_law_led", defArgs s__law_led, defBody s__law_led, defScope s__law_led, [], []⟩,
  ⟨fun K => He.ga K "vector_plus", "vector_plus", "vector_plus", defArgs s_vector_plus, defBody s_vector_plus, defScope s_vector_plus, [], []⟩,
  ⟨fun K => He.ga K "taken", "taken", "taken", defArgs s_taken, defBody s_taken, defScope s_taken, [], []⟩,
  ⟨fun K => He.ga K "moved_spot", "moved_spot", "moved_spot", defArgs s_moved_spot, defBody s_moved_spot, defScope s_moved_spot, [], []⟩,
  ⟨fun K => ad_Motion___call__ K, "__call__", "Motion.__call__", defArgs s_Motion___call__, defBody s_Motion___call__, defScope s_Motion___call__, [], []⟩,
  ⟨fun K => ad_Flat_moved K, "moved", "Flat.moved", defArgs s_Flat_moved, defBody s_Flat_moved, defScope s_Flat_moved, [], []⟩,
  ⟨fun K => ad_Table_identity K, "identity", "Table.identity", defArgs s_Table_identity, defBody s_Table_identity, defScope s_Table_identity, [], []⟩,
  ⟨fun K => ad_Motion_identity K, "identity", "Motion.identity", defArgs s_Motion_identity, defBody s_Motion_identity, defScope s_Motion_identity, [], []⟩,
  ⟨fun K => He.ga K "_law_det", "_law_det", "_law_det", defArgs s__law_det, defBody s__law_det, defScope s__law_det, [], []⟩,
  ⟨fun K => ad_Table_scaled K, "scaled", "Table.scaled", defArgs s_Table_scaled, defBody s_Table_scaled, defScope s_Table_scaled, [], []⟩,
  ⟨fun K => He.ga K "divided", "divided", "divided", defArgs s_divided, defBody s_divided, defScope s_divided, [], []⟩,
  ⟨fun K => ad_Table_inverse K, "inverse", "Table.inverse", defArgs s_Table_inverse, defBody s_Table_inverse, defScope s_Table_inverse, [], []⟩,
  ⟨fun K => He.ga K "vector_times", "vector_times", "vector_times", defArgs s_vector_times, defBody s_vector_times, defScope s_vector_times, [], []⟩,
  ⟨fun K => ad_Motion_inverse K, "inverse", "Motion.inverse", defArgs s_Motion_inverse, defBody s_Motion_inverse, defScope s_Motion_inverse, [], []⟩,
  ⟨fun K => He.ga K "_law_images_so", "_law_images_so", "_law_images_so", defArgs s__law_images_so, defBody s__law_images_so, defScope s__law_images_so, [], []⟩,
  ⟨fun K => He.ga K "_law_three_so", "_law_three_so", "_law_three_so", defArgs s__law_three_so, defBody s__law_three_so, defScope s__law_three_so, [], []⟩,
  ⟨fun K => He.ga K "law", "law", "law", defArgs s_law, defBody s_law, defScope s_law, [], []⟩]
def tf : List He.Defn := []
def lamQ (x : He.Defn) : Str := x.1 ++ ".<locals>.<lambda>"
def ex : List (PySem.W.Frag → Bool) := [fun K => clsB K (C_Table K),
  fun K => propB K (C_Table K) "det",
  fun K => gloB K "ZERO" g_ZERO,
  fun K => clsB K (C_Flat K),
  fun K => propB K (C_Flat K) "size",
  fun K => fnB K (C_Flat K) "__contains__" (ad_Flat___contains__ K),
  fun K => PySem.W.selfFirst K (C_Flat K),
  fun K => fnB K (C_Flat K) "__and__" (ad_Flat___and__ K),
  fun K => fnB K (C_Flat K) "__or__" (ad_Flat___or__ K),
  fun K => eqFB K (own K) (C_Flat K) (ad_Flat___eq__ K),
  fun K => gloB K "ONE" g_ONE,
  fun K => statB K (C_Flat K) "whole",
  fun K => clsB K (C_Motion K),
  fun K => kD K (.tup [g_ZERO, g_ZERO]) (.ref (He.dflAt ("Motion", some "__init__") 0 K)),
  fun K => callB K (C_Motion K) (ad_Motion___call__ K),
  fun K => statB K (C_Table K) "identity",
  fun K => statB K (C_Motion K) "identity",
  fun K => decide (PySem.W.nsIn K mainGlobals "gcd" = some (some (.builtin "math.gcd"))),
  fun K => isiKB K (own K),
  fun K => boolB K (ownB K)]
theorem law_at {w : World} {K : PySem.W.Frag} {h : Heap} {mg : Str → Option Value} {f0 : Addr} (X : K.In h) (c : SaysY fa fx tf ex h K) (G : h.Ns mainGlobals mg) (hfa : mg "law" = some (.ref f0)) :
    LamX.LawAtS PySem.Challenge.rw_lostland_k08_flats_together_and_moved w K (L2.CX PySem.Challenge.pw_lostland_k08_flats_together_and_moved w) 14 63 "_law_script" mg f0 h := by
  obtain ⟨fd__law_bag, D__law_bag⟩ := c.funD 0
  obtain ⟨fd__law_common, D__law_common⟩ := c.funD 1
  obtain ⟨fd__law_low, D__law_low⟩ := c.funD 2
  obtain ⟨fd__law_draw, D__law_draw⟩ := c.funD 3
  obtain ⟨fd__law_pick, D__law_pick⟩ := c.funD 4
  obtain ⟨fd__law_small, D__law_small⟩ := c.funD 5
  obtain ⟨fd__law_near, D__law_near⟩ := c.funD 6
  obtain ⟨fd__law_fraction, D__law_fraction⟩ := c.funD 7
  obtain ⟨fd__law_spot, D__law_spot⟩ := c.funD 8
  obtain ⟨fd__law_sum, D__law_sum⟩ := c.funD 9
  obtain ⟨fd__law_moved, D__law_moved⟩ := c.funD 10
  obtain ⟨fd__law_product, D__law_product⟩ := c.funD 11
  obtain ⟨fd__law_long, D__law_long⟩ := c.funD 12
  obtain ⟨fd__law_cloud, D__law_cloud⟩ := c.funD 13
  obtain ⟨fd__law_less, D__law_less⟩ := c.funD 14
  obtain ⟨fd__law_shift, D__law_shift⟩ := c.funD 15
  obtain ⟨fd__law_asked, D__law_asked⟩ := c.funD 16
  obtain ⟨fd_is_pair, D_is_pair⟩ := c.funD 17
  obtain ⟨fd_is_number, D_is_number⟩ := c.funD 18
  obtain ⟨fd_is_fraction, D_is_fraction⟩ := c.funD 19
  obtain ⟨fd_is_spot, D_is_spot⟩ := c.funD 20
  obtain ⟨fd_fraction, D_fraction⟩ := c.funD 21
  obtain ⟨fd_plus, D_plus⟩ := c.funD 22
  obtain ⟨fd_negative, D_negative⟩ := c.funD 23
  obtain ⟨fd_minus, D_minus⟩ := c.funD 24
  obtain ⟨fd_times, D_times⟩ := c.funD 25
  obtain ⟨fd_Table_det, D_Table_det⟩ := c.funD 26
  obtain ⟨fd_Table___init__, D_Table___init__⟩ := c.funD 27
  obtain ⟨fd_columns, D_columns⟩ := c.funD 28
  obtain ⟨fd_vector_minus, D_vector_minus⟩ := c.funD 29
  obtain ⟨fd__reaches, D__reaches⟩ := c.funD 30
  obtain ⟨fd__independent, D__independent⟩ := c.funD 31
  obtain ⟨fd_Flat___init__, D_Flat___init__⟩ := c.funD 32
  obtain ⟨fd__law_flat, D__law_flat⟩ := c.funD 33
  obtain ⟨fd_Flat_size, D_Flat_size⟩ := c.funD 34
  obtain ⟨fd_Flat___contains__, D_Flat___contains__⟩ := c.funD 35
  obtain ⟨fd__crossing, D__crossing⟩ := c.funD 36
  obtain ⟨fd_direction, D_direction⟩ := c.funD 37
  obtain ⟨fd__equation, D__equation⟩ := c.funD 38
  obtain ⟨fd_Flat_equation, D_Flat_equation⟩ := c.funD 39
  obtain ⟨fd_Flat___and__, D_Flat___and__⟩ := c.funD 40
  obtain ⟨fd_Flat_spots, D_Flat_spots⟩ := c.funD 41
  obtain ⟨fd_Flat___or__, D_Flat___or__⟩ := c.funD 42
  obtain ⟨fd__law_same, D__law_same⟩ := c.funD 43
  obtain ⟨fd__law_cross, D__law_cross⟩ := c.funD 44
  obtain ⟨fd__law_turn, D__law_turn⟩ := c.funD 45
  obtain ⟨fd__law_span, D__law_span⟩ := c.funD 46
  obtain ⟨fd__law_within, D__law_within⟩ := c.funD 47
  obtain ⟨fd__law_is_whole, D__law_is_whole⟩ := c.funD 48
  obtain ⟨fd__law_is_fraction, D__law_is_fraction⟩ := c.funD 49
  obtain ⟨fd__law_is_spot, D__law_is_spot⟩ := c.funD 50
  obtain ⟨fd_Flat___eq__, D_Flat___eq__⟩ := c.funD 51
  obtain ⟨fd__law_is_flat, D__law_is_flat⟩ := c.funD 52
  obtain ⟨fd__law_quotient, D__law_quotient⟩ := c.funD 53
  obtain ⟨fd__law_meet, D__law_meet⟩ := c.funD 54
  obtain ⟨fd_Flat_whole, D_Flat_whole⟩ := c.funD 55
  obtain ⟨fd__law_both_so, D__law_both_so⟩ := c.funD 56
  obtain ⟨fd__law_table, D__law_table⟩ := c.funD 57
  obtain ⟨fd_Motion___init__, D_Motion___init__⟩ := c.funD 58
  obtain ⟨fd__law_led, D__law_led⟩ := c.funD 59
  obtain ⟨fd_vector_plus, D_vector_plus⟩ := c.funD 60
  obtain ⟨fd_taken, D_taken⟩ := c.funD 61
  obtain ⟨fd_moved_spot, D_moved_spot⟩ := c.funD 62
  obtain ⟨fd_Motion___call__, D_Motion___call__⟩ := c.funD 63
  obtain ⟨fd_Flat_moved, D_Flat_moved⟩ := c.funD 64
  obtain ⟨fd_Table_identity, D_Table_identity⟩ := c.funD 65
  obtain ⟨fd_Motion_identity, D_Motion_identity⟩ := c.funD 66
  obtain ⟨fd__law_det, D__law_det⟩ := c.funD 67
  obtain ⟨fd_Table_scaled, D_Table_scaled⟩ := c.funD 68
  obtain ⟨fd_divided, D_divided⟩ := c.funD 69
  obtain ⟨fd_Table_inverse, D_Table_inverse⟩ := c.funD 70
  obtain ⟨fd_vector_times, D_vector_times⟩ := c.funD 71
  obtain ⟨fd_Motion_inverse, D_Motion_inverse⟩ := c.funD 72
  obtain ⟨fd__law_images_so, D__law_images_so⟩ := c.funD 73
  obtain ⟨fd__law_three_so, D__law_three_so⟩ := c.funD 74
  obtain ⟨fd_law, D_law⟩ := c.funD 75
  have M_law : mg "law" = some (.ref (He.ga K "law")) := (He.glo_ok X G (c.fact 86))
  have e := hfa.symm.trans M_law
  cases e
  have Flaw : Fun K "law" "law" s_law (He.ga K "law") fd_law := Px.fun_of D_law
  have YY : ∀ base : Heap, (∀ p ∈ tf.map (He.cT K), LamX.TabB base mg p.1 p.2) → Tx PySem.Challenge.pw_lostland_k08_flats_together_and_moved w K mg base (tf.map fun x => ((He.cT K x).2, lamQ x)) := fun base hTB => { gcd := PySem.W.mg_of X G (of_decide_eq_true (c.more 17)), isi := isiKB_ok (c.more 18), boo := boolB_ok (c.more 19), b_list := He.free_ok X G (c.fact 0), b_len := He.free_ok X G (c.fact 1), d__law_bag := ⟨_, _, (Px.fun_of D__law_bag), (He.glo_ok X G (c.fact 2))⟩, b_range := He.free_ok X G (c.fact 3), b_abs := He.free_ok X G (c.fact 4), b_int := He.free_ok X G (c.fact 5), d__law_common := ⟨_, _, (Px.fun_of D__law_common), (He.glo_ok X G (c.fact 6))⟩, d__law_low := ⟨_, _, (Px.fun_of D__law_low), (He.glo_ok X G (c.fact 7))⟩, d__law_draw := ⟨_, _, (Px.fun_of D__law_draw), (He.glo_ok X G (c.fact 8))⟩, d__law_pick := ⟨_, _, (Px.fun_of D__law_pick), (He.glo_ok X G (c.fact 9))⟩, d__law_small := ⟨_, _, (Px.fun_of D__law_small), (He.glo_ok X G (c.fact 10))⟩, d__law_near := ⟨_, _, (Px.fun_of D__law_near), (He.glo_ok X G (c.fact 11))⟩, d__law_fraction := ⟨_, _, (Px.fun_of D__law_fraction), (He.glo_ok X G (c.fact 12))⟩, d__law_spot := ⟨_, _, (Px.fun_of D__law_spot), (He.glo_ok X G (c.fact 13))⟩, d__law_sum := ⟨_, _, (Px.fun_of D__law_sum), (He.glo_ok X G (c.fact 14))⟩, d__law_moved := ⟨_, _, (Px.fun_of D__law_moved), (He.glo_ok X G (c.fact 15))⟩, d__law_product := ⟨_, _, (Px.fun_of D__law_product), (He.glo_ok X G (c.fact 16))⟩, d__law_long := ⟨_, _, (Px.fun_of D__law_long), (He.glo_ok X G (c.fact 17))⟩, d__law_cloud := ⟨_, _, (Px.fun_of D__law_cloud), (He.glo_ok X G (c.fact 18))⟩, d__law_less := ⟨_, _, (Px.fun_of D__law_less), (He.glo_ok X G (c.fact 19))⟩, d__law_shift := ⟨_, _, (Px.fun_of D__law_shift), (He.glo_ok X G (c.fact 20))⟩, d__law_asked := ⟨_, _, (Px.fun_of D__law_asked), (He.glo_ok X G (c.fact 21))⟩, b_isinstance := He.free_ok X G (c.fact 22), b_tuple := He.free_ok X G (c.fact 23), d_is_pair := ⟨_, _, (Px.fun_of D_is_pair), (He.glo_ok X G (c.fact 24))⟩, b_bool := He.free_ok X G (c.fact 25), d_is_number := ⟨_, _, (Px.fun_of D_is_number), (He.glo_ok X G (c.fact 26))⟩, d_is_fraction := ⟨_, _, (Px.fun_of D_is_fraction), (He.glo_ok X G (c.fact 27))⟩, d_is_spot := ⟨_, _, (Px.fun_of D_is_spot), (He.glo_ok X G (c.fact 28))⟩, d_fraction := ⟨_, _, D_fraction, (He.glo_ok X G (c.fact 29))⟩, d_plus := ⟨_, _, (Px.fun_of D_plus), (He.glo_ok X G (c.fact 30))⟩, d_negative := ⟨_, _, (Px.fun_of D_negative), (He.glo_ok X G (c.fact 31))⟩, d_minus := ⟨_, _, (Px.fun_of D_minus), (He.glo_ok X G (c.fact 32))⟩, d_times := ⟨_, _, (Px.fun_of D_times), (He.glo_ok X G (c.fact 33))⟩, c_Table := (He.glo_ok X G (c.fact 34)), cls_Table := clsB_ok (c.more 0), na_Table_a := He.noat_ok (c.fact 35), na_Table_d := He.noat_ok (c.fact 36), na_Table_b := He.noat_ok (c.fact 37), na_Table_c := He.noat_ok (c.fact 38), fn_Table_det := ⟨_, (Px.fun_of D_Table_det)⟩, po_Table_det := propB_ok (c.more 1), fn_Table___init__ := ⟨_, (Px.fun_of D_Table___init__)⟩, mk_Table := He.mkr_ok (c.fact 39), d_columns := ⟨_, _, (Px.fun_of D_columns), (He.glo_ok X G (c.fact 40))⟩, d_vector_minus := ⟨_, _, (Px.fun_of D_vector_minus), (He.glo_ok X G (c.fact 41))⟩, gl_ZERO := gloB_ok X G (c.more 2), d__reaches := ⟨_, _, (Px.fun_of D__reaches), (He.glo_ok X G (c.fact 42))⟩, d__independent := ⟨_, _, (Px.fun_of D__independent), (He.glo_ok X G (c.fact 43))⟩, c_Flat := (He.glo_ok X G (c.fact 44)), cls_Flat := clsB_ok (c.more 3), na_Flat__corners := He.noat_ok (c.fact 45), fn_Flat___init__ := ⟨_, (Px.fun_of D_Flat___init__)⟩, mk_Flat := He.mkr_ok (c.fact 46), d__law_flat := ⟨_, _, (Px.fun_of D__law_flat), (He.glo_ok X G (c.fact 47))⟩, fn_Flat_size := ⟨_, (Px.fun_of D_Flat_size)⟩, po_Flat_size := propB_ok (c.more 4), b_all := He.free_ok X G (c.fact 48), fn_Flat___contains__ := ⟨_, (Px.fun_of D_Flat___contains__)⟩, in_Flat := fnB_ok (c.more 5), d__crossing := ⟨_, _, (Px.fun_of D__crossing), (He.glo_ok X G (c.fact 49))⟩, d_direction := ⟨_, _, (Px.fun_of D_direction), (He.glo_ok X G (c.fact 50))⟩, d__equation := ⟨_, _, (Px.fun_of D__equation), (He.glo_ok X G (c.fact 51))⟩, fn_Flat_equation := ⟨_, (Px.fun_of D_Flat_equation)⟩, me_Flat_equation := He.meth_ok (c.fact 52), fn_Flat___and__ := ⟨_, (Px.fun_of D_Flat___and__)⟩, sf_Flat := (c.more 6), op_Flat___and__ := fnB_ok (c.more 7), fn_Flat_spots := ⟨_, (Px.fun_of D_Flat_spots)⟩, me_Flat_spots := He.meth_ok (c.fact 53), fn_Flat___or__ := ⟨_, (Px.fun_of D_Flat___or__)⟩, op_Flat___or__ := fnB_ok (c.more 8), b_zip := He.free_ok X G (c.fact 54), b_str := He.free_ok X G (c.fact 55), d__law_same := ⟨_, _, (Px.fun_of D__law_same), (He.glo_ok X G (c.fact 56))⟩, d__law_cross := ⟨_, _, (Px.fun_of D__law_cross), (He.glo_ok X G (c.fact 57))⟩, d__law_turn := ⟨_, _, (Px.fun_of D__law_turn), (He.glo_ok X G (c.fact 58))⟩, d__law_span := ⟨_, _, (Px.fun_of D__law_span), (He.glo_ok X G (c.fact 59))⟩, d__law_within := ⟨_, _, (Px.fun_of D__law_within), (He.glo_ok X G (c.fact 60))⟩, d__law_is_whole := ⟨_, _, (Px.fun_of D__law_is_whole), (He.glo_ok X G (c.fact 61))⟩, d__law_is_fraction := ⟨_, _, (Px.fun_of D__law_is_fraction), (He.glo_ok X G (c.fact 62))⟩, d__law_is_spot := ⟨_, _, (Px.fun_of D__law_is_spot), (He.glo_ok X G (c.fact 63))⟩, fn_Flat___eq__ := ⟨_, (Px.fun_of D_Flat___eq__)⟩, eq_Flat := eqFB_ok (c.more 9), d__law_is_flat := ⟨_, _, (Px.fun_of D__law_is_flat), (He.glo_ok X G (c.fact 64))⟩, d__law_quotient := ⟨_, _, (Px.fun_of D__law_quotient), (He.glo_ok X G (c.fact 65))⟩, d__law_meet := ⟨_, _, (Px.fun_of D__law_meet), (He.glo_ok X G (c.fact 66))⟩, gl_ONE := gloB_ok X G (c.more 10), fn_Flat_whole := ⟨_, (Px.fun_of D_Flat_whole)⟩, st_Flat_whole := statB_ok (c.more 11), d__law_both_so := ⟨_, _, (Px.fun_of D__law_both_so), (He.glo_ok X G (c.fact 67))⟩, d__law_table := ⟨_, _, (Px.fun_of D__law_table), (He.glo_ok X G (c.fact 68))⟩, c_Motion := (He.glo_ok X G (c.fact 69)), cls_Motion := clsB_ok (c.more 12), na_Motion_table := He.noat_ok (c.fact 70), na_Motion_move := He.noat_ok (c.fact 71), df_Motion___init___0 := kD_ref (c.more 13), fn_Motion___init__ := ⟨_, D_Motion___init__⟩, mk_Motion := He.mkr_ok (c.fact 72), d__law_led := ⟨_, _, (Px.fun_of D__law_led), (He.glo_ok X G (c.fact 73))⟩, d_vector_plus := ⟨_, _, (Px.fun_of D_vector_plus), (He.glo_ok X G (c.fact 74))⟩, d_taken := ⟨_, _, (Px.fun_of D_taken), (He.glo_ok X G (c.fact 75))⟩, d_moved_spot := ⟨_, _, (Px.fun_of D_moved_spot), (He.glo_ok X G (c.fact 76))⟩, fn_Motion___call__ := ⟨_, (Px.fun_of D_Motion___call__)⟩, oc_Motion := callB_ok (c.more 14), fn_Flat_moved := ⟨_, (Px.fun_of D_Flat_moved)⟩, me_Flat_moved := He.meth_ok (c.fact 77), fn_Table_identity := ⟨_, (Px.fun_of D_Table_identity)⟩, st_Table_identity := statB_ok (c.more 15), fn_Motion_identity := ⟨_, (Px.fun_of D_Motion_identity)⟩, st_Motion_identity := statB_ok (c.more 16), d__law_det := ⟨_, _, (Px.fun_of D__law_det), (He.glo_ok X G (c.fact 78))⟩, fn_Table_scaled := ⟨_, (Px.fun_of D_Table_scaled)⟩, me_Table_scaled := He.meth_ok (c.fact 79), d_divided := ⟨_, _, (Px.fun_of D_divided), (He.glo_ok X G (c.fact 80))⟩, fn_Table_inverse := ⟨_, (Px.fun_of D_Table_inverse)⟩, me_Table_inverse := He.meth_ok (c.fact 81), d_vector_times := ⟨_, _, (Px.fun_of D_vector_times), (He.glo_ok X G (c.fact 82))⟩, fn_Motion_inverse := ⟨_, (Px.fun_of D_Motion_inverse)⟩, me_Motion_inverse := He.meth_ok (c.fact 83), d__law_images_so := ⟨_, _, (Px.fun_of D__law_images_so), (He.glo_ok X G (c.fact 84))⟩, d__law_three_so := ⟨_, _, (Px.fun_of D__law_three_so), (He.glo_ok X G (c.fact 85))⟩, d_law := ⟨_, _, (Px.fun_of D_law), (He.glo_ok X G (c.fact 86))⟩ }
  refine ⟨fd_law, tf.map (He.cT K), spD K (tf.map fun x => ((He.cT K x).2, lamQ x)) 1 (f_law K), fun p hp => ?_, fun p hp => ?_, fun p hp => ?_, fun s u => ?_, fun H a ns hlen _ hT hS => ?_, fun base _ _ hT => ?_⟩
  · obtain ⟨x, hx, rfl⟩ := List.mem_map.mp hp
    exact c.empty _ hx
  · obtain ⟨x, hx, rfl⟩ := List.mem_map.mp hp
    exact c.out _ hx
  · obtain ⟨x, hx, rfl⟩ := List.mem_map.mp hp
    exact PySem.W.codeHd_of_K X (c.hd _ hx)
  · obtain ⟨oc, od, kV, doc, pm, an, cdv, ct, osl, rfl, _, _⟩ := Flaw.ex
    exact .of_eq rfl
  · refine law_end (fun p hp => ?_) (fun p hp => ?_) hS (law_true hlen)
    · obtain ⟨x, hx, rfl⟩ := List.mem_map.mp hp
      exact hT _ (List.mem_map_of_mem hx)
    · obtain ⟨x, hx, rfl⟩ := List.mem_map.mp hp
      exact c.out _ hx
  · obtain ⟨f', fd', F', M'⟩ := ok_law (YY base hT)
    have e1 := M'.at_.symm.trans M_law
    cases e1
    obtain ⟨oc', od', kV', dc', pm', an', cd', ct', osl', rfl, lk', _⟩ := F'.ex
    obtain ⟨oc, od, kV, doc, pm, an, cdv, ct, osl, rfl, lk, _⟩ := Flaw.ex
    have e2 := lk'.symm.trans lk
    cases e2
    exact M'.ok
end Dw
open PySem PySem.W PyProof.Rows
set_option maxHeartbeats 0 in
theorem PySem.Challenge.cw_lostland_k08_flats_together_and_moved_holds : PySem.Challenge.rw_lostland_k08_flats_together_and_moved.Holds := by
  w_on; o_law; o_head (Dw.hookY 6 Dw.fa Dw.fx Dw.tf Dw.ex); (case hw => w_witness2)
  refine LamX.walk_ofTsE (l := PySem.Challenge.rw_lostland_k08_flats_together_and_moved) (n := 63) (k := 14) (x := "_law_script") (CX := fun w => L2.CX PySem.Challenge.pw_lostland_k08_flats_together_and_moved w) rfl (by decide) rfl ⟨rfl, by decide, by decide⟩ ?F (fun _ _ _ _ _ h => Dw.cx_no h)
  case F =>
    rintro w mg f0 h ⟨K, KX, c⟩ G hmg
    exact ⟨K, KX, Dw.law_at KX c G hmg⟩
