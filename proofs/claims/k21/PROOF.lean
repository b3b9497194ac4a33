import PyProof.Rows.All
import Wide.All
import OpenK.AllK
import Wide.FinOn
import HandS.ForMost
import HandS.Steps
import HandS.Wide
import HandS.Gcd
import HandS.Defaults
import HandS.ForExc
import HandS.IsInst
import HandS.Style
import HandS.ClsMeth
import HandS.NoneIn
import HandS.TryOnly
import HandS.More
import HandS.Zip
import HandS.TupAny
import HandS.ExcInit
import KE.KExcSuper
import KE.KSuper
import HandS.Lambda
import HandS.HotCalls
import HandS.ExcField
import KE.KTryMore
import HandS.HeadHook4
import HandS.HeadWalk
import HandS.Head3
import HandS.CallSlots
import HandS.Property
import HandS.StrMore
import HandS.DeepEq
import HandS.Deep
import HandS.Star
import HandS.RaiseMore
import HandS.MakeKw
import HandS.Small
import HandS.Text
import HandS.HeadHook3
import HandS.FStr
import HandS.RevTup
import HandS.WideBits
import HandS.Rev
import PyProof.JoinWalk
import OpenK.KMeth
import HandS.Iter
import KE.KExcIs
import HandS.ExcIs
import HandS.ExcValue
import KE.GoesEnum
import PyProof.EnumMake
import PyProof.MeetsIn
import PyProof.ExcBaseAll.LookupError
import KE.KExcInit
import HandS.List
import HandS.Call
import HandS.DictComp
import HandS.MakeKwOnly
import HandS.Set
import HandS.Strs
import HandS.TupSets
import PyProof.Rows.SortShellAny
import PyProof.SumWalkG
import PyProof.ListOps
import HandS.OwnEq
import KE.HD3
import HandS.IterVal
import KE.KOwnIter
import HandS.Conv
import KE.KDictPairs
import KE.SortData
import PySem.Challenge.RW_lostland_k21_forms_put_together
set_option Elab.async false
set_option linter.all false
set_option maxRecDepth 100000
set_option exponentiation.threshold 20000
namespace Px
open PySem PySem.Spec PyProof.Rows L2
inductive D where
  | non
  | bl (b : Bool)
  | int (i : Int)
  | str (s : Str)
  | tup (xs : List D)
  | lst (xs : List D)
  | ins (C : Addr) (ns : List Str) (ds : List D)
section
variable (K : PySem.W.Frag) (M : Addr → Prop) (H : Hp)
mutual
/-- the value v stands for the datum -/
def Rep : D → V → Prop
  | .non, v => v = .non
  | .bl b, v => v = .bl b
  | .int i, v => v = .int i
  | .str s, v => v = .str s
  | .tup ds, v => ∃ a xs, v = .ref a ∧ SqT K H a xs ∧ Reps ds xs
  | .lst ds, v => ∃ a xs, v = .ref a ∧ ¬ M a ∧ Rd H a (.lst xs) ∧ Reps ds xs
  | .ins C ns ds, v => ∃ a dx fs, v = .ref a ∧ ¬ M a ∧ H a = some (.ins C dx fs) ∧ fs.map (·.1) = ns ∧ Reps ds (fs.map (·.2))
def Reps : List D → List V → Prop
  | [], xs => xs = []
  | d :: ds, xs => ∃ v r, xs = v :: r ∧ Rep d v ∧ Reps ds r
end
end
/-- all but the changing ones stays -/
def Ex (M : Addr → Prop) (H H' : Hp) : Prop := ∀ a o, H a = some o → ¬ M a → H' a = some o
theorem Ex.of {M : Addr → Prop} {H H' : Hp} (e : Same H H') : Ex M H H' := fun a o h _ => e a o h
theorem Ex.trans {M : Addr → Prop} {H H1 H2 : Hp} (a : Ex M H H1) (b : Ex M H1 H2) : Ex M H H2 := fun c o h n => b c o (a c o h n) n
/-- what changes (lists alone), and what is known of it -/
structure Bg where
  M : Addr → Prop
  B : Hp → Prop
  isl : ∀ H a, B H → M a → (∃ xs, H a = some (.lst xs)) ∨ (∃ C dx fs, H a = some (.ins C dx fs)) ∨ ∃ ps, H a = some (.tbl ps)
  st : ∀ H H', B H → Same H H' → B H'
  fr : ∀ H d, B H → H d = none → ∀ H1 H2, B H1 → (∃ xs, H1 d = some (.lst xs)) → Ex (fun a => a = d) H1 H2 → B H2
section
variable {K : PySem.W.Frag} {G : Bg} {H H' : Hp}
/-- no tuple changes -/
def NoTup (M : Addr → Prop) (H : Hp) : Prop := ∀ a xs, M a → ¬ Rd H a (.tup xs)
theorem Bg.nt (b : G.B H) : NoTup G.M H := fun a xs m h => by
  rcases G.isl H a b m with ⟨ys, hy⟩ | ⟨C, dx, fs, hy⟩ | ⟨tb, hy⟩ <;> rcases h with h | ⟨o, h⟩ <;> (rw [hy] at h; cases h)
theorem rd_up {M : Addr → Prop} {a : Addr} {u : HO} (nm : ¬ M a) (e : Ex M H H') (h : Rd H a u) : Rd H' a u := by
  rcases h with h | ⟨o, h⟩
  · exact .inl (e _ _ h nm)
  · exact .inr ⟨o, e _ _ h nm⟩
theorem sqT_upC {M : Addr → Prop} {a : Addr} {xs : List V} (c : NoTup M H) (e : Ex M H H') (h : SqT K H a xs) : SqT K H' a xs := by
  rcases h with h | h
  · exact .inl (rd_up (fun m => c a xs m h) e h)
  · exact .inr h
section
variable {M : Addr → Prop}
mutual
theorem Rep.upC (b : NoTup M H) (e : Ex M H H') : ∀ {d : D} {v : V}, Rep K M H d v → Rep K M H' d v
  | .non, _, h => by unfold Rep at *; exact h
  | .bl _, _, h => by unfold Rep at *; exact h
  | .int _, _, h => by unfold Rep at *; exact h
  | .str _, _, h => by unfold Rep at *; exact h
  | .tup ds, v, h => by
    unfold Rep at *
    obtain ⟨a, xs, e1, e2, e3⟩ := h
    exact ⟨a, xs, e1, sqT_upC b e e2, Reps.upC b e e3⟩
  | .lst ds, v, h => by
    unfold Rep at *
    obtain ⟨a, xs, e1, n, e2, e3⟩ := h
    exact ⟨a, xs, e1, n, rd_up n e e2, Reps.upC b e e3⟩
  | .ins C ns ds, v, h => by
    unfold Rep at *
    obtain ⟨a, dx, fs, e1, n, e2, e3, e4⟩ := h
    exact ⟨a, dx, fs, e1, n, e _ _ e2 n, e3, Reps.upC b e e4⟩
theorem Reps.upC (b : NoTup M H) (e : Ex M H H') : ∀ {ds : List D} {xs : List V}, Reps K M H ds xs → Reps K M H' ds xs
  | [], _, h => by unfold Reps at *; exact h
  | d :: ds, xs, h => by
    unfold Reps at *
    obtain ⟨v, r, e1, e2, e3⟩ := h
    exact ⟨v, r, e1, Rep.upC b e e2, Reps.upC b e e3⟩
end
end
theorem Rep.up (b : G.B H) (e : Ex G.M H H') {d : D} {v : V} (r : Rep K G.M H d v) : Rep K G.M H' d v := r.upC (Bg.nt b) e
theorem Reps.up (b : G.B H) (e : Ex G.M H H') {ds : List D} {xs : List V} (r : Reps K G.M H ds xs) : Reps K G.M H' ds xs := r.upC (Bg.nt b) e
variable {M : Addr → Prop}
theorem rint (i : Int) : Rep K M H (.int i) (.int i) := by unfold Rep; rfl
theorem rbl (b : Bool) : Rep K M H (.bl b) (.bl b) := by unfold Rep; rfl
theorem rstr (s : Str) : Rep K M H (.str s) (.str s) := by unfold Rep; rfl
theorem rnon : Rep K M H .non .non := by unfold Rep; rfl
theorem rtup {ds : List D} {a : Addr} {xs : List V} (h : SqT K H a xs) (r : Reps K M H ds xs) : Rep K M H (.tup ds) (.ref a) := by unfold Rep; exact ⟨a, xs, rfl, h, r⟩
theorem rlst {ds : List D} {a : Addr} {xs : List V} (n : ¬ M a) (h : Rd H a (.lst xs)) (r : Reps K M H ds xs) : Rep K M H (.lst ds) (.ref a) := by unfold Rep; exact ⟨a, xs, rfl, n, h, r⟩
theorem rnil : Reps K M H [] [] := by unfold Reps; rfl
theorem rcons {d : D} {ds : List D} {v : V} {r : List V} (h : Rep K M H d v) (t : Reps K M H ds r) : Reps K M H (d :: ds) (v :: r) := by unfold Reps; exact ⟨v, r, rfl, h, t⟩
theorem int_of {i : Int} {v : V} (h : Rep K M H (.int i) v) : v = .int i := by unfold Rep at h; exact h
theorem bl_of {b : Bool} {v : V} (h : Rep K M H (.bl b) v) : v = .bl b := by unfold Rep at h; exact h
theorem str_of {s : Str} {v : V} (h : Rep K M H (.str s) v) : v = .str s := by unfold Rep at h; exact h
theorem non_of {v : V} (h : Rep K M H .non v) : v = .non := by unfold Rep at h; exact h
theorem tup_of {ds : List D} {v : V} (h : Rep K M H (.tup ds) v) : ∃ a xs, v = .ref a ∧ SqT K H a xs ∧ Reps K M H ds xs := by unfold Rep at h; exact h
theorem lst_of {ds : List D} {v : V} (h : Rep K M H (.lst ds) v) : ∃ a xs, v = .ref a ∧ ¬ M a ∧ Rd H a (.lst xs) ∧ Reps K M H ds xs := by unfold Rep at h; exact h
theorem ins_of {C : Addr} {ns : List Str} {ds : List D} {v : V} (h : Rep K M H (.ins C ns ds) v) : ∃ a dx fs, v = .ref a ∧ ¬ M a ∧ H a = some (.ins C dx fs) ∧ fs.map (·.1) = ns ∧ Reps K M H ds (fs.map (·.2)) := by unfold Rep at h; exact h
theorem rins {C a dx : Addr} {ns : List Str} {ds : List D} {fs : List (Str × V)} (n : ¬ M a) (h : H a = some (.ins C dx fs)) (e : fs.map (·.1) = ns) (r : Reps K M H ds (fs.map (·.2))) : Rep K M H (.ins C ns ds) (.ref a) := by unfold Rep; exact ⟨a, dx, fs, rfl, n, h, e, r⟩
theorem nil_of {xs : List V} (h : Reps K M H [] xs) : xs = [] := by unfold Reps at h; exact h
theorem cons_of {d : D} {ds : List D} {xs : List V} (h : Reps K M H (d :: ds) xs) : ∃ v r, xs = v :: r ∧ Rep K M H d v ∧ Reps K M H ds r := by unfold Reps at h; exact h
theorem Reps.len : ∀ {ds : List D} {xs : List V}, Reps K M H ds xs → xs.length = ds.length
  | [], _, h => by rw [nil_of h]; rfl
  | d :: ds, _, h => by
    obtain ⟨v, r, rfl, _, h⟩ := cons_of h
    simp [Reps.len h]
theorem Reps.at : ∀ {ds : List D} {xs : List V} {k : Nat} {d : D}, Reps K M H ds xs → ds[k]? = some d → ∃ v, xs[k]? = some v ∧ Rep K M H d v
  | [], _, _, _, _, e => by simp at e
  | d :: ds, _, 0, _, h, e => by
    obtain ⟨v, r, rfl, h1, _⟩ := cons_of h
    simp at e; subst e
    exact ⟨v, rfl, h1⟩
  | d :: ds, _, k + 1, _, h, e => by
    obtain ⟨v, r, rfl, _, h2⟩ := cons_of h
    obtain ⟨w, e1, e2⟩ := Reps.at (k := k) h2 (by simpa using e)
    exact ⟨w, by simpa using e1, e2⟩
theorem Reps.snoc {d : D} {v : V} : ∀ {ds : List D} {xs : List V}, Reps K M H ds xs → Rep K M H d v → Reps K M H (ds ++ [d]) (xs ++ [v])
  | [], _, h, r => by rw [nil_of h]; exact rcons r rnil
  | d0 :: ds, _, h, r => by
    obtain ⟨w, t, rfl, h1, h2⟩ := cons_of h
    exact rcons h1 (Reps.snoc h2 r)
end
abbrev fr (x : Rat) : D := .tup [.int x.num, .int (x.den : Int)]
def Sz (n : Nat) (i : Int) : Prop := i.natAbs < 2 ^ n
theorem Sz.mono {a b : Nat} {i : Int} (h : Sz a i) (l : a ≤ b) : Sz b i := Nat.lt_of_lt_of_le h (Nat.pow_le_pow_right (by decide) l)
theorem Sz.mul {a b : Nat} {i j : Int} (h : Sz a i) (k : Sz b j) : Sz (a + b) (i * j) := L2.wide_lt h k
theorem Sz.add {a b : Nat} {i j : Int} (h : Sz a i) (k : Sz b j) : Sz (max a b + 1) (i + j) := by
  have h1 := h.mono (Nat.le_max_left a b)
  have h2 := k.mono (Nat.le_max_right a b)
  unfold Sz at *
  rw [Nat.pow_succ]
  have := Int.natAbs_add_le i j
  omega
theorem Sz.neg {a : Nat} {i : Int} (h : Sz a i) : Sz a (-i) := by unfold Sz at *; rwa [Int.natAbs_neg]
def SzR (n : Nat) (x : Rat) : Prop := Sz n x.num ∧ Sz n (x.den : Int)
section
variable {K : PySem.W.Frag} {G : Bg} {H : Hp} {σ : L2.St} {te ta tb : TE} {Q : VK} {D' : Ends} {t u : TS}
theorem k_val {v : V} (h : Val te σ H v) (q : Q v H) : te σ H Q := h Q q
theorem same_upd {H : Hp} {p : Addr} {o : HO} (h : H p = none) : Same H (upd H p o) := fun b x e => by
  rw [upd_ne (ne_of_none e h)]; exact e
theorem v_op0 {g : Int → Int → V} {i j : Int} (ha : Val ta σ H (.int i)) (hb : Val tb σ H (.int j)) : Val (tOp (rI0 g) ta tb) σ H (g i j) := fun _ q => ha _ (hb _ ⟨i, j, rfl, rfl, q⟩)
theorem v_op {C : Int → Int → Prop} {g : Int → Int → V} {i j : Int} (ha : Val ta σ H (.int i)) (hb : Val tb σ H (.int j)) (c : C i j) : Val (tOp (rI C g) ta tb) σ H (g i j) := fun _ q => ha _ (hb _ ⟨i, j, rfl, rfl, c, q⟩)
theorem v_opB {g : Int → Int → Bool} {i j : Int} (ha : Val ta σ H (.int i)) (hb : Val tb σ H (.int j)) : Val (tOp (rI0 fun i j => .bl (g i j)) ta tb) σ H (.bl (g i j)) := fun _ q => ha _ (hb _ ⟨i, j, rfl, rfl, q⟩)
theorem a_test {b : Bool} (h : Val te σ H (.bl b)) : Ans (tTest te) σ H b := fun _ q => h _ ⟨b, rfl, q⟩
theorem k_seq (h : t { D' with nx := u D' } σ H) : tSeq t u D' σ H := h
theorem k_set {i : Nat} (h : te σ H fun v H1 => D'.nx (σ.set i (some v)) H1) : tAsg te (gName i) D' σ H := h
theorem k_ret (h : te σ H D'.rt) : tRet te D' σ H := h
theorem k_next (h : D'.nx σ H) : tNext D' σ H := h
end
section
variable {X : Cx}
def CDivU (_ j : Int) : Prop := j ≠ 0 ∧ j.natAbs.log2 < 9000
theorem op_fdivU : OpR X (binaryOp .FloorDiv) (rI CDivU fun i j => .int (i.fdiv j)) := opI fun _ _ _ _ _ _ _ hc q => floordiv_int hc.1 q (.inl (PyProof.noPylong_of_log2 hc.2))
end
theorem divU_of {i j : Int} {n : Nat} (h0 : j ≠ 0) (h : Sz n j) (hn : n ≤ 9000) : CDivU i j := by
  refine ⟨h0, ?_⟩
  have h1 : j.natAbs ≠ 0 := by omega
  rw [Nat.log2_lt h1]
  exact Nat.lt_of_lt_of_le h (Nat.pow_le_pow_right (by decide) hn)
/-- the mathematics: dividing by the signed common divisor -/
theorem frac_pos {p q : Int} (hq : 0 < q) : p.fdiv (Nat.gcd p.natAbs q.natAbs : Nat) = (Rat.divInt p q).num ∧ q.fdiv (Nat.gcd p.natAbs q.natAbs : Nat) = ((Rat.divInt p q).den : Int) := by
  have g0 : 0 < Nat.gcd p.natAbs q.natAbs := Nat.gcd_pos_of_pos_right _ (by omega)
  have eg : Int.gcd q p = Nat.gcd p.natAbs q.natAbs := by rw [Int.gcd_comm]; rfl
  constructor
  · rw [Rat.num_divInt, eg, Int.sign_eq_one_of_pos hq, Int.one_mul, Int.fdiv_eq_ediv_of_nonneg _ (by omega)]
  · rw [Rat.den_divInt, eg, if_neg (by omega), Int.fdiv_eq_ediv_of_nonneg _ (by omega)]
    rw [Int.natCast_ediv]
    congr 1
    omega
theorem frac_neg {p q : Int} (hq : q < 0) : p.fdiv (-(Nat.gcd p.natAbs q.natAbs : Nat)) = (Rat.divInt p q).num ∧ q.fdiv (-(Nat.gcd p.natAbs q.natAbs : Nat)) = ((Rat.divInt p q).den : Int) := by
  have h := @frac_pos (-p) (-q) (by omega)
  rw [Int.natAbs_neg, Int.natAbs_neg, Rat.neg_divInt_neg] at h
  have e1 : p.fdiv (-(Nat.gcd p.natAbs q.natAbs : Nat)) = (-p).fdiv (Nat.gcd p.natAbs q.natAbs : Nat) := by
    rw [← Int.neg_fdiv_neg, Int.neg_neg]
  have e2 : q.fdiv (-(Nat.gcd p.natAbs q.natAbs : Nat)) = (-q).fdiv (Nat.gcd p.natAbs q.natAbs : Nat) := by
    rw [← Int.neg_fdiv_neg, Int.neg_neg]
  rw [e1, e2]
  exact h
theorem gcd_sz {n : Nat} {p q : Int} (h : Sz n q) (hq : q ≠ 0) : Sz n (Nat.gcd p.natAbs q.natAbs : Nat) := by
  have : Nat.gcd p.natAbs q.natAbs ≤ q.natAbs := Nat.le_of_dvd (by omega) (Nat.gcd_dvd_right _ _)
  unfold Sz at *
  rw [Int.natAbs_natCast]
  omega
end Px
namespace Px
open PySem PySem.Spec PyProof.Rows L2
theorem vals_getD {i : Nat} : ∀ {vs : List V} {us : List Value}, Vals vs us → ∀ i, L2.RelV (vs.getD i .non) (us.getD i .none)
  | _, _, .nil, i => by simp [L2.RelV]
  | _, _, .cons r t, 0 => by simpa using r
  | _, _, .cons r t, i + 1 => by simpa using vals_getD (i := i) t i
theorem vals_perm {vs : List V} {us : List Value} (r : Vals vs us) : ∀ perm : List Nat, Vals (perm.map fun i => vs.getD i .non) (perm.map fun i => us.getD i .none)
  | [] => .nil
  | i :: l => .cons (vals_getD (i := i) r i) (vals_perm r l)
def permV (perm : List Nat) : List V → List V → List V := fun vs zs => perm.map fun i => (vs ++ zs).getD i .non
def permU (perm : List Nat) : List Value → List Value → List Value := fun vs zs => perm.map fun i => (vs ++ zs).getD i .none
theorem kbn_of {K : PySem.W.Frag} {fd : FuncData} {ps ks : List Str} {n : Nat} (perm : List Nat) (h : ∀ us ws : List Value, us.length = n → ws.length = ks.length → bindArgs fd ⟨us, ks.zip ws⟩ = pure (ps.zip (permU perm us ws))) :
    KBn K fd ps n ks (permU perm) (permV perm) := ⟨fun _ us ws _ l1 l2 => .of_eq (h us ws l1 l2), fun r1 r2 => vals_perm (r1.append r2) perm⟩
section
variable {K : PySem.W.Frag} {G : Bg} {H : Hp} {σ : L2.St} {te ta tb : TE} {Q : VK} {D' : Ends} {t u : TS} {M : Addr → Prop}
theorem dec_int (i j : Int) : decide (V.int i = V.int j) = decide (i = j) := by
  by_cases e : i = j
  · subst e; simp
  · rw [decide_eq_false e, decide_eq_false fun z => e (V.int.inj z)]
theorem f_eqI {i j : Int} (q : Q (.bl (decide (i = j))) H) : rEq (.int i) (.int j) H Q := ⟨rfl, by rw [dec_int]; exact q⟩
theorem v_eqI {i j : Int} (ha : Val ta σ H (.int i)) (hb : Val tb σ H (.int j)) : Val (tOp rEq ta tb) σ H (.bl (decide (i = j))) := fun _ q => ha _ (hb _ (f_eqI q))
def rInt : List V → Hp → VK → Prop := fun xs H Q => (∃ i, xs = [.int i] ∧ Q (.int i) H) ∨ ∃ k, xs = [.bl k] ∧ Q (.int (if k then 1 else 0)) H
theorem abs_eq (i : Int) : (if i < 0 then -i else i) = ((i.natAbs : Nat) : Int) := by
  split <;> omega
theorem v_int {i : Int} (h : Val ta σ H (.int i)) : Val (tCB rInt (tCons ta tNil)) σ H (.int i) := fun _ q => h _ (.inl ⟨i, rfl, q⟩)
theorem k_T {Q : Bool → Hp → Prop} (q : te σ H fun x H1 => ∃ c, x = .bl c ∧ Q c H1) : tTest te σ H Q := q
theorem k_ifX {c : TT} (q : c σ H fun b H1 => if b = true then t D' σ H1 else u D' σ H1) : tIfS c t u D' σ H := q
theorem k_ite {b : Bool} {A B : Prop} (h1 : b = true → A) (h2 : b = false → B) : if b = true then A else B := by
  cases b with
  | true => rw [if_pos rfl]; exact h1 rfl
  | false => rw [if_neg Bool.false_ne_true]; exact h2 rfl
end
theorem cmul {a b : Nat} {i j : Int} (h : Sz a i) (k : Sz b j) (l : a + b ≤ 900000) : CMulW i j := wide_mul (h.mono (Nat.le_succ a)) (k.mono (Nat.le_succ b)) (by omega) (by omega) (by omega)
theorem divInt_sz {n : Nat} {p q : Int} (hp : Sz n p) (hq : Sz n q) (h0 : q ≠ 0) : SzR n (Rat.divInt p q) := by
  have g0 : 0 < Int.gcd q p := Int.gcd_pos_of_ne_zero_left p h0
  constructor
  · rw [Rat.num_divInt]
    unfold Sz at *
    have h1 : (q.sign * p / (Int.gcd q p : Int)).natAbs ≤ (q.sign * p).natAbs := by
      rw [Int.natAbs_ediv_of_dvd]
      · exact Nat.div_le_self _ _
      · exact Int.dvd_mul_of_dvd_right (Int.gcd_dvd_right ..)
    rw [Int.natAbs_mul, Int.natAbs_sign_of_ne_zero h0, Nat.one_mul] at h1
    omega
  · rw [Rat.den_divInt, if_neg h0]
    unfold Sz at *
    rw [Int.natAbs_natCast]
    exact Nat.lt_of_le_of_lt (Nat.div_le_self _ _) hq
theorem den_ne (x : Rat) : ((x.den : Nat) : Int) ≠ 0 := by have := x.den_nz; omega
theorem rat_eq (x : Rat) : x = Rat.divInt x.num x.den := (Rat.num_divInt_den x).symm
theorem add_eq (x y : Rat) : x + y = Rat.divInt (x.num * y.den + y.num * x.den) (x.den * y.den) := by
  conv => lhs; rw [rat_eq x, rat_eq y, Rat.divInt_add_divInt _ _ (den_ne x) (den_ne y)]
theorem mul_eq (x y : Rat) : x * y = Rat.divInt (x.num * y.num) (x.den * y.den) := by
  conv => lhs; rw [rat_eq x, rat_eq y, Rat.divInt_mul_divInt]
theorem den_mul_ne (x y : Rat) : ((x.den : Nat) : Int) * (y.den : Int) ≠ 0 := Int.mul_ne_zero (den_ne x) (den_ne y)
theorem SzR.mono {a b : Nat} {x : Rat} (h : SzR a x) (l : a ≤ b) : SzR b x := ⟨h.1.mono l, h.2.mono l⟩
theorem szr_add {a b n : Nat} {x y : Rat} (h : SzR a x) (k : SzR b y) (l : a + b + 1 ≤ n) : SzR n (x + y) := by
  rw [add_eq]
  exact divInt_sz (((h.1.mul k.2).add (k.1.mul h.2)).mono (by omega)) ((h.2.mul k.2).mono (by omega)) (den_mul_ne x y)
theorem szr_lit (n : Nat) (x : Rat) (h : (decide (x.num.natAbs < 2 ^ n) && decide (x.den < 2 ^ n)) = true := by decide +kernel) : SzR n x := by
  simp only [Bool.and_eq_true, decide_eq_true_eq] at h
  exact ⟨h.1, by unfold Sz; rw [Int.natAbs_natCast]; exact h.2⟩
theorem szr_neg {a : Nat} {x : Rat} (h : SzR a x) : SzR a (-x) := ⟨by rw [Rat.neg_num]; exact h.1.neg, by rw [Rat.neg_den]; exact h.2⟩
theorem szr_sub {a b n : Nat} {x y : Rat} (h : SzR a x) (k : SzR b y) (l : a + b + 1 ≤ n) : SzR n (x - y) := by
  rw [Rat.sub_eq_add_neg]; exact szr_add h (szr_neg k) l
theorem szr_mul {a b n : Nat} {x y : Rat} (h : SzR a x) (k : SzR b y) (l : a + b ≤ n) : SzR n (x * y) := by
  rw [mul_eq]
  exact divInt_sz ((h.1.mul k.1).mono l) ((h.2.mul k.2).mono l) (den_mul_ne x y)
theorem num_ne {y : Rat} (h : y ≠ 0) : y.num ≠ 0 := fun e => h (Rat.num_eq_zero.mp e)
end Px
namespace Px
open PySem PySem.Spec PyProof.Rows L2
theorem Ex.imp {M M' : Addr → Prop} {H H' : Hp} (e : Ex M H H') (h : ∀ a, M a → M' a) : Ex M' H H' := fun a o q n => e a o q fun z => n (h a z)
def Bg.plus (G : Bg) (d : Addr) : Bg where
  M := fun a => G.M a ∨ a = d
  B := fun H => G.B H ∧ ∃ xs, H d = some (.lst xs)
  isl := fun H a b m => by
    rcases m with m | rfl
    · exact G.isl H a b.1 m
    · obtain ⟨_, xs, h⟩ := b
      exact .inl ⟨xs, h⟩
  st := fun H H' b s => ⟨G.st H H' b.1 s, let ⟨xs, h⟩ := b.2; ⟨xs, s _ _ h⟩⟩
  fr := fun H e b n H1 H2 b1 el x => ⟨G.fr H e b.1 n H1 H2 b1.1 el x, by
    obtain ⟨xs, h⟩ := b.2
    obtain ⟨ys, h1⟩ := b1.2
    exact ⟨ys, x _ _ h1 fun z => by subst z; rw [n] at h; cases h⟩⟩
section
variable {K : PySem.W.Frag} {G : Bg} {H H' : Hp} {M M' : Addr → Prop}
mutual
theorem Rep.widen (h : ∀ a o, H a = some o → M' a → M a) : ∀ {d : D} {v : V}, Rep K M H d v → Rep K M' H d v
  | .non, _, r => by unfold Rep at *; exact r
  | .bl _, _, r => by unfold Rep at *; exact r
  | .int _, _, r => by unfold Rep at *; exact r
  | .str _, _, r => by unfold Rep at *; exact r
  | .tup ds, v, r => by
    unfold Rep at *
    obtain ⟨a, xs, e1, e2, e3⟩ := r
    exact ⟨a, xs, e1, e2, Reps.widen h e3⟩
  | .lst ds, v, r => by
    unfold Rep at *
    obtain ⟨a, xs, e1, n, e2, e3⟩ := r
    have t : ∃ o, H a = some o := by
      rcases e2 with e | ⟨o, e⟩
      · exact ⟨_, e⟩
      · exact ⟨_, e⟩
    exact ⟨a, xs, e1, fun z => n (h _ _ t.choose_spec z), e2, Reps.widen h e3⟩
  | .ins C ns ds, v, r => by
    unfold Rep at *
    obtain ⟨a, dx, fs, e1, n, e2, e3, e4⟩ := r
    exact ⟨a, dx, fs, e1, fun z => n (h _ _ e2 z), e2, e3, Reps.widen h e4⟩
theorem Reps.widen (h : ∀ a o, H a = some o → M' a → M a) : ∀ {ds : List D} {xs : List V}, Reps K M H ds xs → Reps K M' H ds xs
  | [], _, r => by unfold Reps at *; exact r
  | d :: ds, xs, r => by
    unfold Reps at *
    obtain ⟨v, t, e1, e2, e3⟩ := r
    exact ⟨v, t, e1, Rep.widen h e2, Reps.widen h e3⟩
end
/-- a fact of before, within the making of the list at d -/
theorem Rep.enter {d : Addr} {x : D} {v : V} (hB : G.B H) (nd : H d = none) (r : Rep K G.M H x v) : Rep K (G.plus d).M (upd H d (.lst [])) x v := by
  have r1 : Rep K (G.plus d).M H x v := r.widen fun a o e m => by
    rcases m with m | rfl
    · exact m
    · rw [nd] at e; cases e
  refine r1.upC (fun a xs m h => ?_) (Ex.of (same_upd nd))
  rcases m with m | rfl
  · exact Bg.nt hB a xs m h
  · rcases h with h | ⟨o, h⟩ <;> (rw [nd] at h; cases h)
end
section
variable {K : PySem.W.Frag} {G : Bg} {H : Hp} {σ : L2.St} {te : TE} {Q : VK} {W : Addr → Prop}
/-- what holds while the list at d is being made -/
structure Mk1 (K : PySem.W.Frag) (G : Bg) (W : Addr → Prop) (H : Hp) (P : Nat → D → Prop) (d : Addr) (i : Nat) (H' : Hp) : Prop where
  a : ∃ acc ds, H' d = some (.lst acc) ∧ Reps K (G.plus d).M H' ds acc ∧ ds.length = i ∧ ∀ k x, ds[k]? = some x → P k x
  e : Ex W H H'
  b : G.B H'
theorem Mk1.start {P : Nat → D → Prop} {d : Addr} (hB : G.B H) (nd : H d = none) : Mk1 K G W H P d 0 (upd H d (.lst [])) :=
  ⟨⟨[], [], upd_same, rnil, rfl, fun k x h => by simp at h⟩, Ex.of (same_upd nd), G.st _ _ hB (same_upd nd)⟩
theorem Mk1.bp {P : Nat → D → Prop} {d : Addr} {i : Nat} {H' : Hp} (m : Mk1 K G W H P d i H') : (G.plus d).B H' := ⟨m.b, let ⟨acc, _, h, _⟩ := m.a; ⟨acc, h⟩⟩
theorem Mk1.step {P : Nat → D → Prop} {d : Addr} {i : Nat} {H' H4 : Hp} {x : D} {v : V} (hW : ∀ a, W a → G.M a) (hB : G.B H) (nd : H d = none) (hi : i < 1000) (m : Mk1 K G W H P d i H') (hp : P i x) (r : Rep K (G.plus d).M H4 x v) (e : Ex W H' H4) (b : (G.plus d).B H4) :
    ∃ acc, H4 d = some (.lst acc) ∧ acc.length < sizeLine ∧ Mk1 K G W H P d (i + 1) (upd H4 d (.lst (acc ++ [v]))) := by
  obtain ⟨acc, ds, h1, h2, h3, h4⟩ := m.a
  have nW : ¬ W d := fun z => by
    rcases G.isl H d hB (hW d z) with ⟨ys, hy⟩ | ⟨C, dx, fs, hy⟩ | ⟨tb, hy⟩ <;> (rw [nd] at hy; cases hy)
  have g1 : H4 d = some (.lst acc) := e _ _ h1 nW
  have hl : acc.length = i := by rw [h2.len, h3]
  have ch : Ex (fun a => a = d) H4 (upd H4 d (.lst (acc ++ [v]))) := fun a o h n => by rw [upd_ne n]; exact h
  have chp : Ex (G.plus d).M H4 (upd H4 d (.lst (acc ++ [v]))) := ch.imp fun a z => .inr z
  have eW : Ex (G.plus d).M H' H4 := e.imp fun a z => .inl (hW a z)
  refine ⟨acc, g1, by rw [hl]; exact Nat.lt_of_lt_of_le hi (by decide), ⟨⟨acc ++ [v], ds ++ [x], upd_same, ?_, by simp [h3], fun k y hk => ?_⟩, fun a o h n => ?_, G.fr H d hB nd _ _ b.1 ⟨_, g1⟩ ch⟩⟩
  · have r1 := (h2.up m.bp eW).up b chp
    have r2 := r.up b chp
    exact r1.snoc r2
  · by_cases hk1 : k < ds.length
    · rw [List.getElem?_append_left hk1] at hk
      exact h4 k y hk
    · rw [List.getElem?_append_right (by omega)] at hk
      cases q : k - ds.length with
      | zero =>
        rw [q] at hk
        have : k = i := by omega
        cases hk
        rw [this]
        exact hp
      | succ j => rw [q] at hk; simp at hk
  · have n1 : a ≠ d := ne_of_none h nd
    rw [upd_ne n1]
    exact e _ _ (m.e a o h n) n
end
end Px
namespace Px
open PySem PySem.Spec PyProof.Rows L2
def tyN : D → String
  | .non => "NoneType"
  | .bl _ => "bool"
  | .int _ => "int"
  | .str _ => "str"
  | .tup _ => "tuple"
  | .lst _ => "list"
  | .ins _ _ _ => ""
section
variable {K : PySem.W.Frag} {M : Addr → Prop} {H : Hp} {σ : L2.St} {te ta tb : TE} {Q : VK} {v : V} {d : D}
theorem tyx_of (r : Rep K M H d v) (n : ∀ C ns ds, d ≠ .ins C ns ds) : TyX K H v (.type (tyN d)) := by
  cases d with
  | non => rw [non_of r]; exact .base .non
  | bl b => rw [bl_of r]; exact .base (.bl b)
  | int i => rw [int_of r]; exact .base (.int i)
  | str s => rw [str_of r]; exact .base (.str s)
  | tup ds =>
    obtain ⟨a, xs, rfl, h, _⟩ := tup_of r
    rcases h with (h | ⟨o, h⟩) | ⟨o, its, n, h1, h2, _⟩
    · exact .base (.tup h)
    · exact .fTuple h
    · exact .kTuple h1 h2
  | lst ds =>
    obtain ⟨a, xs, rfl, _, h, _⟩ := lst_of r
    rcases h with h | ⟨o, h⟩
    · exact .base (.lst h)
    · exact .base (.frz h)
  | ins C ns ds => exact absurd rfl (n C ns ds)
end
end Px
namespace Px
open PySem PySem.Spec PyProof.Rows L2
def gNames : List Nat → TGs
  | [] => gNil
  | i :: is => gCons (gName i) (gNames is)
def setAll : L2.St → List Nat → List V → L2.St
  | σ, i :: is, w :: ws => setAll (σ.set i (some w)) is ws
  | σ, _, _ => σ
theorem f_names : ∀ {is : List Nat} {ws : List V} {σ : L2.St} {H : Hp} {Q : L2.St → Hp → Prop}, ws.length = is.length → Q (setAll σ is ws) H → gNames is ws σ H Q
  | [], [], _, _, _, _, q => ⟨rfl, q⟩
  | i :: is, w :: ws, σ, H, Q, e, q => ⟨w, ws, rfl, f_names (is := is) (ws := ws) (by simpa using e) q⟩
  | [], _ :: _, _, _, _, e, _ => by simp at e
  | _ :: _, [], _, _, _, e, _ => by simp at e
end Px
namespace Px
open PySem PySem.Spec PyProof.Rows L2
mutual
def toPd : D → PyData
  | .non => .none
  | .bl b => .bool b
  | .int i => .int i
  | .str s => .str s
  | .tup ds => .tuple (toPds ds)
  | .lst ds => .list (toPds ds)
  | .ins _ _ _ => .none
def toPds : List D → List PyData
  | [] => []
  | d :: ds => toPd d :: toPds ds
end
mutual
/-- no instances within -/
def plain : D → Bool
  | .ins _ _ _ => false
  | .tup ds => plains ds
  | .lst ds => plains ds
  | _ => true
def plains : List D → Bool
  | [] => true
  | d :: ds => plain d && plains ds
end
section
variable {K : PySem.W.Frag} {M : Addr → Prop} {H : Hp}
mutual
theorem dp_of : ∀ {d : D} {v : V}, plain d = true → Rep K M H d v → Dp K H v (toPd d)
  | .non, _, _, r => by rw [non_of r]; unfold toPd; exact .non
  | .bl b, _, _, r => by rw [bl_of r]; unfold toPd; exact .bl b
  | .int i, _, _, r => by rw [int_of r]; unfold toPd; exact .int i
  | .str s, _, _, r => by rw [str_of r]; unfold toPd; exact .str s
  | .tup ds, _, p, r => by
    obtain ⟨a, xs, rfl, h, rs⟩ := tup_of r
    unfold toPd
    unfold plain at p
    exact .tup h (dps_of p rs)
  | .lst ds, _, p, r => by
    obtain ⟨a, xs, rfl, _, h, rs⟩ := lst_of r
    unfold toPd
    unfold plain at p
    exact .lst (.inl h) (dps_of p rs)
  | .ins C ns ds, _, p, r => by unfold plain at p; cases p
theorem dps_of : ∀ {ds : List D} {vs : List V}, plains ds = true → Reps K M H ds vs → DpAll K H vs (toPds ds)
  | [], _, _, r => by rw [nil_of r]; unfold toPds; exact .nil
  | d :: ds, _, p, r => by
    obtain ⟨v, vs, rfl, r1, r2⟩ := cons_of r
    unfold toPds
    unfold plains at p
    rw [Bool.and_eq_true] at p
    exact .cons (dp_of p.1 r1) (dps_of p.2 r2)
end
end
/-- what isinstance asks of a class -/
structure IsiC (K : PySem.W.Frag) (C : Addr) : Prop where
  cl : Cls K C
  ha : PySem.W.findIn K (.ref C) "__class__" = some (some (.builtin "object.__class__"))
  hn : PySem.W.specialIn K (.builtin "object.__class__") "__get__" = some (some (.builtin "getset_descriptor.__get__"))
  htk : PySem.W.takesIn K (.builtin "object.__class__") = some true
  hm : PySem.W.mroIn K C (.type "object") = some true
  kit : PySem.W.kitOne K (.ref C) (.ref C) = some true
section
variable {K : PySem.W.Frag} {M : Addr → Prop} {H : Hp} {σ : L2.St} {te ta tb : TE} {Q : VK} {v : V} {d : D}
theorem reps_bl {bs : List Bool} : ∀ {xs : List V}, Reps K M H (bs.map .bl) xs → xs = bs.map .bl := by
  induction bs with
  | nil => exact fun r => nil_of r
  | cons b bs ih =>
    intro xs r
    obtain ⟨w, ws, rfl, r1, r2⟩ := cons_of r
    rw [bl_of r1, ih r2]
    rfl
def noneD : D → Bool
  | .non => true
  | _ => false
/-- is None, is not None: of what stands for a datum -/
theorem is_non (r : Rep K M H d v) : decide (v = .non) = noneD d := by
  cases d with
  | non => have e := non_of r; subst e; rfl
  | bl b => have e := bl_of r; subst e; rfl
  | int i => have e := int_of r; subst e; rfl
  | str s => have e := str_of r; subst e; rfl
  | tup ds => obtain ⟨a, xs, rfl, _⟩ := tup_of r; rfl
  | lst ds => obtain ⟨a, xs, rfl, _⟩ := lst_of r; rfl
  | ins C ns ds => obtain ⟨a, dx, fs, rfl, _⟩ := ins_of r; rfl
variable {G : Bg}
theorem Reps.take : ∀ {ds : List D} {xs : List V} (n : Nat), Reps K M H ds xs → Reps K M H (ds.take n) (xs.take n)
  | _, _, 0, _ => by rw [List.take_zero, List.take_zero]; exact rnil
  | [], _, n + 1, r => by rw [nil_of r]; exact rnil
  | d :: ds, _, n + 1, r => by
    obtain ⟨w, ws, rfl, r1, r2⟩ := cons_of r
    exact rcons r1 (Reps.take n r2)
end
end Px
namespace Px
open PySem PySem.Spec PyProof.Rows L2 RZ
end Px
namespace Px
open PySem PySem.Spec PyProof.Rows L2
section
variable {K : PySem.W.Frag} {M : Addr → Prop} {H : Hp} {σ : L2.St} {te ta tb : TE} {Q : VK} {v : V} {d : D}
variable {G : Bg}
theorem Reps.app {M : Addr → Prop} {H : Hp} : ∀ {ds es : List D} {xs ys : List V}, Reps K M H ds xs → Reps K M H es ys → Reps K M H (ds ++ es) (xs ++ ys)
  | [], _, _, _, h, r => by rw [nil_of h]; exact r
  | d :: ds, _, _, _, h, r => by
    obtain ⟨w, t, rfl, h1, h2⟩ := cons_of h
    exact rcons h1 (Reps.app h2 r)
theorem Reps.drop {M : Addr → Prop} {H : Hp} : ∀ {ds : List D} {xs : List V} (n : Nat), Reps K M H ds xs → Reps K M H (ds.drop n) (xs.drop n)
  | _, _, 0, r => by rw [List.drop_zero, List.drop_zero]; exact r
  | [], _, n + 1, r => by rw [nil_of r]; exact rnil
  | d :: ds, _, n + 1, r => by
    obtain ⟨w, ws, rfl, r1, r2⟩ := cons_of r
    exact Reps.drop n r2
end
end Px
namespace Px
open PySem PySem.Spec PyProof.Rows L2
/-- the value is a list made between the two heaps (or no address) -/
def Own (H H' : Hp) (v : V) : Prop := ∀ p, v = .ref p → H p = none ∧ ∃ xs, H' p = some (.lst xs)
theorem none_back {H0 H : Hp} {p : Addr} (s : Same H0 H) (n : H p = none) : H0 p = none := by
  cases h : H0 p with
  | none => rfl
  | some o =>
    have h1 := s _ _ h
    rw [n] at h1
    cases h1
theorem Own.at {H0 H H' H2 : Hp} {v : V} (f : Own H H' v) (s : Same H0 H) (s' : Same H' H2) : Own H0 H2 v := fun p e => by
  obtain ⟨n, xs, h⟩ := f p e
  exact ⟨none_back s n, xs, s' _ _ h⟩
end Px
namespace Px
open PySem PySem.Spec PyProof.Rows L2
section
variable {K : PySem.W.Frag} {G : Bg} {H : Hp} {σ : L2.St} {te ta tb : TE} {Q : VK} {W : Addr → Prop} {v : V}
theorem ty_list {M : Addr → Prop} {ds : List D} (r : Rep K M H (.lst ds) v) : tyV K "list" v H := by
  obtain ⟨a, xs, rfl, _, hs, rs⟩ := lst_of r
  exact .inl ⟨rfl, xs, .inl hs⟩
variable {D' : Ends} {tbs : TS}
end
end Px
namespace Px
open PySem PySem.Spec PyProof.Rows L2
end Px
namespace Px
open PySem PySem.Spec PyProof.Rows L2
end Px
namespace Px
open PySem PySem.Spec PyProof.Rows L2
end Px
set_option maxHeartbeats 2000000
namespace Px
open PySem PySem.Spec PyProof.Rows L2 LamX
end Px
set_option maxHeartbeats 2000000
namespace Px
open PySem PySem.Spec PyProof.Rows L2 LamX
section
variable {X : Cx} {pins : List (Addr × Obj)} {σ : L2.St} {H : Hp} {s : Shared}
/-- all but the tables of T stays -/
def ExtT (T : List (Addr × Str)) (H H' : Hp) : Prop := ∀ b o, H b = some o → (∀ q, (b, q) ∉ T) → H' b = some o
end
end Px
set_option maxHeartbeats 2000000
namespace Px
open PySem PySem.Spec PyProof.Rows L2 LamX
end Px
set_option maxHeartbeats 2000000
namespace Px
open PySem PySem.Spec PyProof.Rows L2 LamX
end Px
set_option maxHeartbeats 2000000
namespace Px
open PySem PySem.Spec PyProof.Rows L2 LamX
structure TabG (T : List (Addr × Str)) (G : Bg) : Prop where
  m : ∀ p ∈ T, G.M p.1
  ok : ∀ H, G.B H → Tabs T H
  stb : ∀ H H', G.B H → ExtT T H H' → Tabs T H' → G.B H'
section
variable {T : List (Addr × Str)} {G : Bg} {H H' : Hp} {K : PySem.W.Frag}
theorem TabG.ex (t : TabG T G) (e : ExtT T H H') : Ex G.M H H' := fun a o h n => e a o h fun q hm => n (t.m _ hm)
theorem TabG.plus {d : Addr} (t : TabG T G) (hB : G.B H) (nd : H d = none) : TabG T (G.plus d) where
  m := fun p hp => .inl (t.m p hp)
  ok := fun H' b => t.ok H' b.1
  stb := fun H1 H2 b e tb => ⟨t.stb H1 H2 b.1 e tb, by
    obtain ⟨xs, h⟩ := b.2
    exact ⟨xs, e _ _ h fun q hm => by
      obtain ⟨ps, hP, _⟩ := t.ok H hB _ hm
      rw [nd] at hP
      cases hP⟩⟩
/-- all but the tables stays -/
def onT (T : List (Addr × Str)) : Addr → Prop := fun a => ∃ q, (a, q) ∈ T
theorem Ex.ext (e : Ex (onT T) H H') : ExtT T H H' := fun a o h n => e a o h fun ⟨q, hm⟩ => n q hm
end
end Px
set_option maxHeartbeats 2000000
namespace Px
open PySem PySem.Spec PyProof.Rows L2 He
structure ErrD where
  cls : Str
  params : Arguments
  body : List Stmt
  scope : Scope
abbrev FnC : Type := Option (Str × Str × Arguments × FuncBody × Scope × Addr × List Str × Addr)
def ErrD.val (d : ErrD) : FnC := some ("__init__", d.cls ++ ".__init__", d.params, .stmts d.body, d.scope, mainGlobals, ["__class__"], builtinsNs)
end Px
set_option maxHeartbeats 2000000
namespace Px
open PySem PySem.Spec PyProof.Rows L2 He
theorem fun_of {K : PySem.W.Frag} {x qual : Str} {st : Stmt} {f : Addr} {fd : FuncData} {ks : List (Str × V)} (F : FunD K x qual (defArgs st) (defBody st) (defScope st) [] ks f fd) : Fun K x qual st f fd := by
  obtain ⟨oc, od, dV, kV, doc, pm, an, cdv, ct, osl, e, lk, hc, hD, _⟩ := F.ex
  rcases hD with ⟨_, rfl⟩ | ⟨h, _⟩
  · exact ⟨⟨oc, od, kV, doc, pm, an, cdv, ct, osl, e, lk, hc⟩, F.kp⟩
  · exact absurd rfl h
end Px
namespace Dw
open PySem PySem.Spec PyProof.Rows L2
inductive D where
  | non
  | bl (b : Bool)
  | int (i : Int)
  | str (s : Str)
  | tup (xs : List D)
  | lst (xs : List D)
  | ins (C : Addr) (ns : List Str) (ds : List D)
  | dK (ks : List Key) (ds : List D)
  | dT (ks : List (List Key)) (ds : List D)
  | val (v : V)
  /-- a lambda at f, its code at c, told q; σ, ρ: what its maker's names stand for -/
  | fn (f c : Addr) (q : Str) (σ : List (Option V)) (ρ : List (Option D))
  /-- the law's script -/
  | scr (ns : List Int)
  /-- an exception object at a, held as a value: its class, its attributes -/
  | exc (a C : Addr) (ns : List Str) (ds : List D)
/-- what stands at an address that may change -/
inductive MC where
  | lst (xs : List D)
  | ins (C : Addr) (ns : List Str) (ds : List D)
  | dK (ks : List Key) (ds : List D)
  | dT (ks : List (List Key)) (ds : List D)
  | bag (c : Addr) (ns : List Int)
abbrev Sto := Addr → Option MC
def Sto.put (S : Sto) (a : Addr) (m : MC) : Sto := fun b => if b = a then some m else S b
def Sto.del (S : Sto) (a : Addr) : Sto := fun b => if b = a then none else S b
/-- an exception object of the class at C, its dict at dx -/
def ExV (C dx a : Addr) : HO := .ext fun h => ∃ (oe : Obj) (vs : Array Value), h.get? a = some oe ∧ Zc (.ref C) (some dx) oe ∧ oe.data = .fields vs
/-- what may be a key of a dict whose keys are tuples: no constant of a module is one -/
def keyish : List V → Bool
  | .str _ :: r => decide (r.length ≤ 2) || (match r.getLast? with
    | some (.int _) => true
    | _ => false)
  | _ => false
section
variable (K : PySem.W.Frag) (M : Addr → Prop) (H : Hp)
mutual
/-- the value v stands for the datum -/
def Rep : D → V → Prop
  | .non, v => v = .non
  | .bl b, v => v = .bl b
  | .int i, v => v = .int i
  | .str s, v => v = .str s
  | .tup ds, v => ∃ a xs, v = .ref a ∧ (SqT K H a xs ∧ (keyish xs = true → H a = some (.tup xs))) ∧ Reps ds xs
  | .lst ds, v => ∃ a xs, v = .ref a ∧ ¬ M a ∧ H a = some (.lst xs) ∧ Reps ds xs
  | .ins C ns ds, v => ∃ a dx fs, v = .ref a ∧ ¬ M a ∧ H a = some (.ins C dx fs) ∧ fs.map (·.1) = ns ∧ Reps ds (fs.map (·.2))
  | .dK ks ds, v => ∃ a kvs, v = .ref a ∧ ¬ M a ∧ Rd H a (.dK kvs) ∧ kvs.map (·.1) = ks ∧ Reps ds (kvs.map (·.2))
  | .dT ks ds, v => ∃ a o kvs, v = .ref a ∧ ¬ M a ∧ H a = some (.frz o (.dT kvs)) ∧ kvs.map (·.1) = ks ∧ Reps ds (kvs.map (·.2))
  | .val x, v => v = x
  | .fn f c q σ ρ, v => v = .ref f ∧ ¬ M c ∧ H c = some (LamX.CodeO c q) ∧ RepO ρ σ
  | .scr ns, v => ∃ a, v = .ref a ∧ ((Rd H a (.lst (ns.map V.int)) ∧ ¬ M a) ∨ ∃ (o : Obj) (its : Array Value) (n : Nat), K.lookup a = some o ∧ o.cls = .type "list" ∧ o.dict = none ∧ o.data = .seq its n ∧ its.size ≤ sizeLine ∧ Vals (ns.map V.int) its.toList)
  | .exc a C ns ds, v => v = .ref a ∧ ¬ M a ∧ ∃ dx fs, H a = some (ExV C dx a) ∧ ¬ M dx ∧ H dx = some (.xd fs) ∧ fs.map (·.1) = ns ∧ Reps ds (fs.map (·.2))
def RepO : List (Option D) → List (Option V) → Prop
  | [], σ => σ = []
  | none :: r, σ => ∃ v σ', σ = v :: σ' ∧ RepO r σ'
  | some d :: r, σ => ∃ w σ', σ = some w :: σ' ∧ Rep d w ∧ RepO r σ'
def Reps : List D → List V → Prop
  | [], xs => xs = []
  | d :: ds, xs => ∃ v r, xs = v :: r ∧ Rep d v ∧ Reps ds r
end
end
section
variable {K : PySem.W.Frag} {M M' : Addr → Prop} {H H' : Hp}
theorem rint (i : Int) : Rep K M H (.int i) (.int i) := by unfold Rep; rfl
theorem rbl (b : Bool) : Rep K M H (.bl b) (.bl b) := by unfold Rep; rfl
theorem rstr (s : Str) : Rep K M H (.str s) (.str s) := by unfold Rep; rfl
theorem rnon : Rep K M H .non .non := by unfold Rep; rfl
theorem rval (v : V) : Rep K M H (.val v) v := by unfold Rep; rfl
theorem rtup {ds : List D} {a : Addr} {xs : List V} (h : H a = some (.tup xs)) (r : Reps K M H ds xs) : Rep K M H (.tup ds) (.ref a) := by unfold Rep; exact ⟨a, xs, rfl, ⟨.inl (.inl h), fun _ => h⟩, r⟩
theorem rtupK {ds : List D} {a : Addr} {xs : List V} (h : SqT K H a xs ∧ (keyish xs = true → H a = some (.tup xs))) (r : Reps K M H ds xs) : Rep K M H (.tup ds) (.ref a) := by unfold Rep; exact ⟨a, xs, rfl, h, r⟩
theorem rlst {ds : List D} {a : Addr} {xs : List V} (n : ¬ M a) (h : H a = some (.lst xs)) (r : Reps K M H ds xs) : Rep K M H (.lst ds) (.ref a) := by unfold Rep; exact ⟨a, xs, rfl, n, h, r⟩
theorem rdK {ks : List Key} {ds : List D} {a : Addr} {kvs : List (Key × V)} (n : ¬ M a) (h : Rd H a (.dK kvs)) (e : kvs.map (·.1) = ks) (r : Reps K M H ds (kvs.map (·.2))) : Rep K M H (.dK ks ds) (.ref a) := by unfold Rep; exact ⟨a, kvs, rfl, n, h, e, r⟩
theorem rdT {ks : List (List Key)} {ds : List D} {a : Addr} {o : Obj} {kvs : List (List Key × V)} (n : ¬ M a) (h : H a = some (.frz o (.dT kvs))) (e : kvs.map (·.1) = ks) (r : Reps K M H ds (kvs.map (·.2))) : Rep K M H (.dT ks ds) (.ref a) := by unfold Rep; exact ⟨a, o, kvs, rfl, n, h, e, r⟩
theorem rins {C a dx : Addr} {ns : List Str} {ds : List D} {fs : List (Str × V)} (n : ¬ M a) (h : H a = some (.ins C dx fs)) (e : fs.map (·.1) = ns) (r : Reps K M H ds (fs.map (·.2))) : Rep K M H (.ins C ns ds) (.ref a) := by unfold Rep; exact ⟨a, dx, fs, rfl, n, h, e, r⟩
theorem rnil : Reps K M H [] [] := by unfold Reps; rfl
theorem rcons {d : D} {ds : List D} {v : V} {r : List V} (h : Rep K M H d v) (t : Reps K M H ds r) : Reps K M H (d :: ds) (v :: r) := by unfold Reps; exact ⟨v, r, rfl, h, t⟩
theorem int_of {i : Int} {v : V} (h : Rep K M H (.int i) v) : v = .int i := by unfold Rep at h; exact h
theorem bl_of {b : Bool} {v : V} (h : Rep K M H (.bl b) v) : v = .bl b := by unfold Rep at h; exact h
theorem str_of {s : Str} {v : V} (h : Rep K M H (.str s) v) : v = .str s := by unfold Rep at h; exact h
theorem non_of {v : V} (h : Rep K M H .non v) : v = .non := by unfold Rep at h; exact h
theorem val_of {x v : V} (h : Rep K M H (.val x) v) : v = x := by unfold Rep at h; exact h
theorem tup_ofK {ds : List D} {v : V} (h : Rep K M H (.tup ds) v) : ∃ a xs, v = .ref a ∧ (SqT K H a xs ∧ (keyish xs = true → H a = some (.tup xs))) ∧ Reps K M H ds xs := by unfold Rep at h; exact h
theorem tup_of {ds : List D} {v : V} (h : Rep K M H (.tup ds) v) : ∃ a xs, v = .ref a ∧ SqT K H a xs ∧ Reps K M H ds xs := by obtain ⟨a, xs, e, h, r⟩ := tup_ofK h; exact ⟨a, xs, e, h.1, r⟩
theorem lst_of {ds : List D} {v : V} (h : Rep K M H (.lst ds) v) : ∃ a xs, v = .ref a ∧ ¬ M a ∧ H a = some (.lst xs) ∧ Reps K M H ds xs := by unfold Rep at h; exact h
theorem ins_of {C : Addr} {ns : List Str} {ds : List D} {v : V} (h : Rep K M H (.ins C ns ds) v) : ∃ a dx fs, v = .ref a ∧ ¬ M a ∧ H a = some (.ins C dx fs) ∧ fs.map (·.1) = ns ∧ Reps K M H ds (fs.map (·.2)) := by unfold Rep at h; exact h
theorem dK_of {ks : List Key} {ds : List D} {v : V} (h : Rep K M H (.dK ks ds) v) : ∃ a kvs, v = .ref a ∧ ¬ M a ∧ Rd H a (.dK kvs) ∧ kvs.map (·.1) = ks ∧ Reps K M H ds (kvs.map (·.2)) := by unfold Rep at h; exact h
theorem dT_of {ks : List (List Key)} {ds : List D} {v : V} (h : Rep K M H (.dT ks ds) v) : ∃ a o kvs, v = .ref a ∧ ¬ M a ∧ H a = some (.frz o (.dT kvs)) ∧ kvs.map (·.1) = ks ∧ Reps K M H ds (kvs.map (·.2)) := by unfold Rep at h; exact h
theorem fn_of {f c : Addr} {q : Str} {σ : List (Option V)} {ρ : List (Option D)} {v : V} (h : Rep K M H (.fn f c q σ ρ) v) : v = .ref f ∧ ¬ M c ∧ H c = some (LamX.CodeO c q) ∧ RepO K M H ρ σ := by unfold Rep at h; exact h
theorem scr_of {ns : List Int} {v : V} (h : Rep K M H (.scr ns) v) : ∃ a, v = .ref a ∧ SqL K H a (ns.map V.int) := by
  unfold Rep at h
  obtain ⟨a, e, h⟩ := h
  exact ⟨a, e, h.imp (fun z => z.1) id⟩
theorem rscr {ns : List Int} {a : Addr} (n : (∃ o, H a = some o) → ¬ M a) (h : SqL K H a (ns.map V.int)) : Rep K M H (.scr ns) (.ref a) := by
  unfold Rep
  exact ⟨a, rfl, h.imp (fun z => ⟨z, n (by rcases z with z | ⟨o, z⟩ <;> exact ⟨_, z⟩)⟩) id⟩
theorem exc_of {a C : Addr} {ns : List Str} {ds : List D} {v : V} (h : Rep K M H (.exc a C ns ds) v) : v = .ref a ∧ ¬ M a ∧ ∃ dx fs, H a = some (ExV C dx a) ∧ ¬ M dx ∧ H dx = some (.xd fs) ∧ fs.map (·.1) = ns ∧ Reps K M H ds (fs.map (·.2)) := by unfold Rep at h; exact h
theorem nil_of {xs : List V} (h : Reps K M H [] xs) : xs = [] := by unfold Reps at h; exact h
theorem cons_of {d : D} {ds : List D} {xs : List V} (h : Reps K M H (d :: ds) xs) : ∃ v r, xs = v :: r ∧ Rep K M H d v ∧ Reps K M H ds r := by unfold Reps at h; exact h
def isStrD : D → Bool
  | .str _ => true
  | _ => false
/-- a constant of a module that is no key -/
def okc : List D → Bool
  | [] => true
  | .str _ :: r => decide (3 ≤ r.length) && r.all isStrD
  | .non :: _ => true
  | .bl _ :: _ => true
  | .int _ :: _ => true
  | .tup _ :: _ => true
  | _ => false
theorem strs_last : ∀ (r : List D) (xs : List V), r.all isStrD = true → Reps K M H r xs → r.length = xs.length ∧ ∀ v, xs.getLast? = some v → ∃ s, v = .str s
  | [], xs, _, h => by rw [nil_of h]; exact ⟨rfl, fun v e => by cases e⟩
  | d :: r, xs, a, h => by
    obtain ⟨v, ys, rfl, h1, h2⟩ := cons_of h
    rw [List.all_cons, Bool.and_eq_true] at a
    obtain ⟨l, q⟩ := strs_last r ys a.2 h2
    refine ⟨by rw [List.length_cons, List.length_cons, l], fun w e => ?_⟩
    cases ys with
    | nil =>
      cases e
      cases d with
      | str s => exact ⟨s, str_of h1⟩
      | _ => cases a.1
    | cons y ys => rw [List.getLast?_cons_cons] at e; exact q w e
theorem okc_key {ds : List D} {xs : List V} (c : okc ds = true) (h : Reps K M H ds xs) : keyish xs = false := by
  cases ds with
  | nil => rw [nil_of h]; rfl
  | cons d r =>
    obtain ⟨v, ys, rfl, h1, h2⟩ := cons_of h
    cases d with
    | str s =>
      rw [str_of h1]
      unfold okc at c
      rw [Bool.and_eq_true] at c
      obtain ⟨l, q⟩ := strs_last r ys c.2 h2
      have c1 := of_decide_eq_true c.1
      unfold keyish
      show (decide (ys.length ≤ 2) || (match ys.getLast? with
        | some (.int _) => true
        | _ => false)) = false
      rw [decide_eq_false (by omega : ¬ ys.length ≤ 2)]
      cases e : ys.getLast? with
      | none => rfl
      | some w => obtain ⟨s, rfl⟩ := q w e; rfl
    | non => rw [non_of h1]; rfl
    | bl b => rw [bl_of h1]; rfl
    | int i => rw [int_of h1]; rfl
    | tup ds => obtain ⟨a, zs, rfl, _⟩ := tup_of h1; rfl
    | _ => cases c
/-- what does not change stands as it was, and does not begin to -/
def Keeps (M M' : Addr → Prop) (H H' : Hp) : Prop := ∀ a o, H a = some o → ¬ M a → H' a = some o ∧ ¬ M' a
def NoTup (M : Addr → Prop) (H : Hp) : Prop := ∀ a xs, M a → ¬ Rd H a (.tup xs)
theorem rd_keep {a : Addr} {u : HO} (e : Keeps M M' H H') (n : ¬ M a) (h : Rd H a u) : Rd H' a u ∧ ¬ M' a := by
  rcases h with h | ⟨o, h⟩
  · exact ⟨.inl (e _ _ h n).1, (e _ _ h n).2⟩
  · exact ⟨.inr ⟨o, (e _ _ h n).1⟩, (e _ _ h n).2⟩
theorem sqT_keep {a : Addr} {xs : List V} (c : NoTup M H) (e : Keeps M M' H H') (h : SqT K H a xs) : SqT K H' a xs := by
  rcases h with h | h
  · exact .inl (rd_keep e (fun m => c a xs m h) h).1
  · exact .inr h
mutual
theorem Rep.keep (b : NoTup M H) (e : Keeps M M' H H') : ∀ {d : D} {v : V}, Rep K M H d v → Rep K M' H' d v
  | .non, _, h => by unfold Rep at *; exact h
  | .bl _, _, h => by unfold Rep at *; exact h
  | .int _, _, h => by unfold Rep at *; exact h
  | .str _, _, h => by unfold Rep at *; exact h
  | .val _, _, h => by unfold Rep at *; exact h
  | .tup ds, v, h => by
    unfold Rep at *
    obtain ⟨a, xs, e1, ⟨e2, e4⟩, e3⟩ := h
    exact ⟨a, xs, e1, ⟨sqT_keep b e e2, fun z => (e _ _ (e4 z) (fun m => b a xs m (.inl (e4 z)))).1⟩, Reps.keep b e e3⟩
  | .lst ds, v, h => by
    unfold Rep at *
    obtain ⟨a, xs, e1, n, e2, e3⟩ := h
    exact ⟨a, xs, e1, (e _ _ e2 n).2, (e _ _ e2 n).1, Reps.keep b e e3⟩
  | .dK ks ds, v, h => by
    unfold Rep at *
    obtain ⟨a, xs, e1, n, e2, e3, e4⟩ := h
    exact ⟨a, xs, e1, (rd_keep e n e2).2, (rd_keep e n e2).1, e3, Reps.keep b e e4⟩
  | .dT ks ds, v, h => by
    unfold Rep at *
    obtain ⟨a, o, xs, e1, n, e2, e3, e4⟩ := h
    exact ⟨a, o, xs, e1, (e _ _ e2 n).2, (e _ _ e2 n).1, e3, Reps.keep b e e4⟩
  | .ins C ns ds, v, h => by
    unfold Rep at *
    obtain ⟨a, dx, fs, e1, n, e2, e3, e4⟩ := h
    exact ⟨a, dx, fs, e1, (e _ _ e2 n).2, (e _ _ e2 n).1, e3, Reps.keep b e e4⟩
  | .fn f c q σ ρ, v, h => by
    unfold Rep at *
    obtain ⟨e1, n, e2, e3⟩ := h
    exact ⟨e1, (e _ _ e2 n).2, (e _ _ e2 n).1, RepO.keep b e e3⟩
  | .scr ns, v, h => by
    unfold Rep at *
    obtain ⟨a, e1, h⟩ := h
    rcases h with ⟨h, n⟩ | h
    · exact ⟨a, e1, .inl (rd_keep e n h)⟩
    · exact ⟨a, e1, .inr h⟩
  | .exc a C ns ds, v, h => by
    unfold Rep at *
    obtain ⟨e1, n, dx, fs, e2, n2, e3, e4, e5⟩ := h
    exact ⟨e1, (e _ _ e2 n).2, dx, fs, (e _ _ e2 n).1, (e _ _ e3 n2).2, (e _ _ e3 n2).1, e4, Reps.keep b e e5⟩
theorem RepO.keep (b : NoTup M H) (e : Keeps M M' H H') : ∀ {ρ : List (Option D)} {σ : List (Option V)}, RepO K M H ρ σ → RepO K M' H' ρ σ
  | [], _, h => by unfold RepO at *; exact h
  | none :: r, σ, h => by
    unfold RepO at *
    obtain ⟨v, σ', e1, e2⟩ := h
    exact ⟨v, σ', e1, RepO.keep b e e2⟩
  | some d :: r, σ, h => by
    unfold RepO at *
    obtain ⟨w, σ', e1, e2, e3⟩ := h
    exact ⟨w, σ', e1, Rep.keep b e e2, RepO.keep b e e3⟩
theorem Reps.keep (b : NoTup M H) (e : Keeps M M' H H') : ∀ {ds : List D} {xs : List V}, Reps K M H ds xs → Reps K M' H' ds xs
  | [], _, h => by unfold Reps at *; exact h
  | d :: ds, xs, h => by
    unfold Reps at *
    obtain ⟨v, r, e1, e2, e3⟩ := h
    exact ⟨v, r, e1, Rep.keep b e e2, Reps.keep b e e3⟩
end
theorem Reps.len : ∀ {ds : List D} {xs : List V}, Reps K M H ds xs → xs.length = ds.length
  | [], _, h => by rw [nil_of h]; rfl
  | d :: ds, _, h => by
    obtain ⟨v, r, rfl, _, h⟩ := cons_of h
    simp [Reps.len h]
theorem Reps.at : ∀ {ds : List D} {xs : List V} {k : Nat} {d : D}, Reps K M H ds xs → ds[k]? = some d → ∃ v, xs[k]? = some v ∧ Rep K M H d v
  | [], _, _, _, _, e => by simp at e
  | d :: ds, _, 0, _, h, e => by
    obtain ⟨v, r, rfl, h1, _⟩ := cons_of h
    simp at e; subst e
    exact ⟨v, rfl, h1⟩
  | d :: ds, _, k + 1, _, h, e => by
    obtain ⟨v, r, rfl, _, h2⟩ := cons_of h
    obtain ⟨w, e1, e2⟩ := Reps.at (k := k) h2 (by simpa using e)
    exact ⟨w, by simpa using e1, e2⟩
theorem Reps.snoc {d : D} {v : V} : ∀ {ds : List D} {xs : List V}, Reps K M H ds xs → Rep K M H d v → Reps K M H (ds ++ [d]) (xs ++ [v])
  | [], _, h, r => by rw [nil_of h]; exact rcons r rnil
  | d0 :: ds, _, h, r => by
    obtain ⟨w, t, rfl, h1, h2⟩ := cons_of h
    exact rcons h1 (Reps.snoc h2 r)
theorem Reps.app : ∀ {ds es : List D} {xs ys : List V}, Reps K M H ds xs → Reps K M H es ys → Reps K M H (ds ++ es) (xs ++ ys)
  | [], _, _, _, h, r => by rw [nil_of h]; exact r
  | d :: ds, _, _, _, h, r => by
    obtain ⟨w, t, rfl, h1, h2⟩ := cons_of h
    exact rcons h1 (Reps.app h2 r)
theorem Reps.take : ∀ {ds : List D} {xs : List V} (n : Nat), Reps K M H ds xs → Reps K M H (ds.take n) (xs.take n)
  | _, _, 0, _ => by rw [List.take_zero, List.take_zero]; exact rnil
  | [], _, n + 1, r => by rw [nil_of r]; exact rnil
  | d :: ds, _, n + 1, r => by
    obtain ⟨w, ws, rfl, r1, r2⟩ := cons_of r
    exact rcons r1 (Reps.take n r2)
theorem Reps.drop : ∀ {ds : List D} {xs : List V} (n : Nat), Reps K M H ds xs → Reps K M H (ds.drop n) (xs.drop n)
  | _, _, 0, r => by rw [List.drop_zero, List.drop_zero]; exact r
  | [], _, n + 1, r => by rw [nil_of r]; exact rnil
  | d :: ds, _, n + 1, r => by
    obtain ⟨w, ws, rfl, r1, r2⟩ := cons_of r
    exact Reps.drop n r2
theorem Reps.set : ∀ {ds : List D} {xs : List V} (k : Nat) {d : D} {v : V}, Reps K M H ds xs → Rep K M H d v → Reps K M H (ds.set k d) (xs.set k v)
  | [], _, _, _, _, h, _ => by rw [nil_of h]; exact rnil
  | d0 :: ds, _, 0, _, _, h, r => by
    obtain ⟨w, t, rfl, _, h2⟩ := cons_of h
    exact rcons r h2
  | d0 :: ds, _, k + 1, _, _, h, r => by
    obtain ⟨w, t, rfl, h1, h2⟩ := cons_of h
    exact rcons h1 (Reps.set k h2 r)
end
def bagL (c : Addr) (i x y z : Int) : List V := [.ref c, .int i, .int x, .int y, .int z]
structure BagAt (K : PySem.W.Frag) (b c : Addr) (ns : List Int) (i x y z : Int) (H : Hp) : Prop where
  ne : c ≠ b
  cells : SqL K H c (ns.map V.int)
  i0 : 0 ≤ i
  x0 : 0 ≤ x
  y0 : 0 ≤ y
  y1 : y < 2147483648
def BagOk (K : PySem.W.Frag) (b c : Addr) (ns : List Int) (H : Hp) : Prop := ∃ i x y z, H b = some (.lst (bagL c i x y z)) ∧ BagAt K b c ns i x y z H
/-- tables of code objects, that may grow; lists that are being made, which nobody but their maker sees -/
structure Gx where
  tab : List (Addr × Str)
  busy : List Addr
/-- what may change -/
def Mv (T : Gx) (S : Sto) : Addr → Prop := fun a => (∃ m, S a = some m) ∨ Px.onT T.tab a
/-- what no datum stands at -/
def Mu (T : Gx) (S : Sto) : Addr → Prop := fun a => Mv T S a ∨ a ∈ T.busy
section
variable (K : PySem.W.Frag) (T : Gx)
def OkM (S : Sto) (H : Hp) (a : Addr) : MC → Prop
  | .lst ds => ∃ xs, H a = some (.lst xs) ∧ Reps K (Mu T S) H ds xs
  | .ins C ns ds => ∃ dx fs, H a = some (.ins C dx fs) ∧ fs.map (·.1) = ns ∧ Reps K (Mu T S) H ds (fs.map (·.2))
  | .dK ks ds => ∃ kvs, H a = some (.dK kvs) ∧ kvs.map (·.1) = ks ∧ Reps K (Mu T S) H ds (kvs.map (·.2))
  | .dT ks ds => ∃ kvs, H a = some (.dT kvs) ∧ kvs.map (·.1) = ks ∧ Reps K (Mu T S) H ds (kvs.map (·.2))
  | .bag c ns => ∃ i x y z, H a = some (.lst (bagL c i x y z)) ∧ BagAt K a c ns i x y z H ∧ Rd H c (.lst (ns.map V.int)) ∧ ¬ Mu T S c
structure Ok (S : Sto) (H : Hp) : Prop where
  tabs : LamX.Tabs T.tab H
  bus : ∀ a ∈ T.busy, (∃ xs, H a = some (.lst xs)) ∧ S a = none
  cel : ∀ a m, S a = some m → OkM K T S H a m
def Step (S : Sto) (H : Hp) (S' : Sto) (H' : Hp) : Prop := Keeps (Mv T S) (Mv T S') H H'
end
section
variable {K : PySem.W.Frag} {T : Gx} {S S' S2 : Sto} {H H' H2 : Hp}
theorem Step.refl (S : Sto) (H : Hp) : Step T S H S H := fun a o h n => ⟨h, n⟩
theorem Step.trans (a : Step T S H S' H') (b : Step T S' H' S2 H2) : Step T S H S2 H2 := fun x o h n => b x o (a x o h n).1 (a x o h n).2
theorem Step.mu (st : Step T S H S' H') : Keeps (Mu T S) (Mu T S') H H' := fun a o h n => ⟨(st a o h fun z => n (.inl z)).1, fun z => z.elim (st a o h fun z => n (.inl z)).2 fun z => n (.inr z)⟩
theorem Ok.kind (k : Ok K T S H) {a : Addr} (m : Mu T S a) : (∃ xs, H a = some (.lst xs)) ∨ (∃ C dx fs, H a = some (.ins C dx fs)) ∨ (∃ ps, H a = some (.tbl ps)) ∨ (∃ kvs, H a = some (.dK kvs)) ∨ ∃ kvs, H a = some (.dT kvs) := by
  rcases m with (⟨m, h⟩ | ⟨q, h⟩) | h
  · have c := k.cel a m h
    cases m with
    | lst ds => obtain ⟨xs, e, _⟩ := c; exact .inl ⟨xs, e⟩
    | ins C ns ds => obtain ⟨dx, fs, e, _⟩ := c; exact .inr (.inl ⟨C, dx, fs, e⟩)
    | dK ks ds => obtain ⟨kvs, e, _⟩ := c; exact .inr (.inr (.inr (.inl ⟨kvs, e⟩)))
    | dT ks ds => obtain ⟨kvs, e, _⟩ := c; exact .inr (.inr (.inr (.inr ⟨kvs, e⟩)))
    | bag c ns => obtain ⟨i, x, y, z, e, _⟩ := c; exact .inl ⟨_, e⟩
  · obtain ⟨ps, e, _⟩ := k.tabs _ h
    exact .inr (.inr (.inl ⟨ps, e⟩))
  · exact .inl (k.bus a h).1
theorem Ok.nt (k : Ok K T S H) : NoTup (Mu T S) H := fun a xs m h => by
  rcases k.kind m with ⟨_, e⟩ | ⟨_, _, _, e⟩ | ⟨_, e⟩ | ⟨_, e⟩ | ⟨_, e⟩ <;> rcases h with h | ⟨o, h⟩ <;> (rw [e] at h; cases h)
theorem Ok.there (k : Ok K T S H) {a : Addr} (m : Mu T S a) : H a ≠ none := fun z => by
  rcases k.kind m with ⟨_, e⟩ | ⟨_, _, _, e⟩ | ⟨_, e⟩ | ⟨_, e⟩ | ⟨_, e⟩ <;> (rw [z] at e; cases e)
theorem Ok.new (k : Ok K T S H) {a : Addr} (n : H a = none) : ¬ Mu T S a := fun m => k.there m n
theorem Ok.off (k : Ok K T S H) {a : Addr} (m : ∃ c, S a = some c) : ¬ Px.onT T.tab a := fun ⟨q, hq⟩ => by
  obtain ⟨c, hc⟩ := m
  obtain ⟨ps, e, _⟩ := k.tabs _ hq
  have x := k.cel a c hc
  cases c with
  | lst ds => obtain ⟨xs, e2, _⟩ := x; rw [e] at e2; cases e2
  | ins C ns ds => obtain ⟨dx, fs, e2, _⟩ := x; rw [e] at e2; cases e2
  | dK ks ds => obtain ⟨kvs, e2, _⟩ := x; rw [e] at e2; cases e2
  | dT ks ds => obtain ⟨kvs, e2, _⟩ := x; rw [e] at e2; cases e2
  | bag c ns => obtain ⟨i, x, y, z, e2, _⟩ := x; rw [e] at e2; cases e2
theorem Rep.step (k : Ok K T S H) (st : Step T S H S' H') {d : D} {v : V} (r : Rep K (Mu T S) H d v) : Rep K (Mu T S') H' d v := r.keep k.nt st.mu
theorem Reps.step (k : Ok K T S H) (st : Step T S H S' H') {ds : List D} {vs : List V} (r : Reps K (Mu T S) H ds vs) : Reps K (Mu T S') H' ds vs := r.keep k.nt st.mu
/-- a new object that does not change -/
theorem OkM.keep (k : Ok K T S H) (st : Step T S H S' H') {a : Addr} {m : MC} (h : OkM K T S H a m) (e : H' a = H a) : OkM K T S' H' a m := by
  cases m with
  | lst ds => obtain ⟨xs, e1, r⟩ := h; exact ⟨xs, by rw [e]; exact e1, r.step k st⟩
  | ins C ns ds => obtain ⟨dx, fs, e1, e2, r⟩ := h; exact ⟨dx, fs, by rw [e]; exact e1, e2, r.step k st⟩
  | dK ks ds => obtain ⟨kvs, e1, e2, r⟩ := h; exact ⟨kvs, by rw [e]; exact e1, e2, r.step k st⟩
  | dT ks ds => obtain ⟨kvs, e1, e2, r⟩ := h; exact ⟨kvs, by rw [e]; exact e1, e2, r.step k st⟩
  | bag c ns =>
    obtain ⟨i, x, y, z, e1, A, hc, nc⟩ := h
    have q := rd_keep st.mu nc hc
    exact ⟨i, x, y, z, by rw [e]; exact e1, ⟨A.ne, .inl q.1, A.i0, A.x0, A.y0, A.y1⟩, q.1, q.2⟩
theorem step_new {p : Addr} {o : HO} (n : H p = none) : Step T S H S (upd H p o) := fun a u e q => by
  rw [upd_ne (ne_of_none e n)]
  exact ⟨e, q⟩
/-- a new object, which is not going to change -/
theorem Ok.laid (k : Ok K T S H) {p : Addr} {o : HO} (n : H p = none) : Ok K T S (upd H p o) := by
  have s : Same H (upd H p o) := Px.same_upd n
  refine ⟨k.tabs.ext s, fun a h => ⟨let ⟨xs, e⟩ := (k.bus a h).1; ⟨xs, s _ _ e⟩, (k.bus a h).2⟩, fun a m h => (k.cel a m h).keep k (step_new n) ?_⟩
  exact upd_ne fun z => k.there (.inl (.inl ⟨m, h⟩)) (by rw [z]; exact n)
theorem put_same {S : Sto} {a : Addr} {m : MC} : S.put a m a = some m := by unfold Sto.put; rw [if_pos rfl]
theorem put_ne {S : Sto} {a b : Addr} {m : MC} (h : b ≠ a) : S.put a m b = S b := by unfold Sto.put; rw [if_neg h]
theorem del_same {S : Sto} {a : Addr} : S.del a a = none := by unfold Sto.del; rw [if_pos rfl]
theorem del_ne {S : Sto} {a b : Addr} (h : b ≠ a) : S.del a b = S b := by unfold Sto.del; rw [if_neg h]
theorem step_put {p : Addr} {o : HO} {m : MC} (n : H p = none ∨ Mv T S p) : Step T S H (S.put p m) (upd H p o) := fun a u e q => by
  have ne : a ≠ p := fun z => by
    subst z
    rcases n with n | n
    · rw [n] at e; cases e
    · exact q n
  rw [upd_ne ne]
  refine ⟨e, fun z => ?_⟩
  rcases z with ⟨c, z⟩ | z
  · rw [put_ne ne] at z; exact q (.inl ⟨c, z⟩)
  · exact q (.inr z)
/-- what stood at p may be read of the new store, once it is said of the old one's reader -/
theorem Ok.put (k : Ok K T S H) {p : Addr} {o : HO} {m : MC} (n : H p = none ∨ ∃ c, S p = some c) (hm : OkM K T (S.put p m) (upd H p o) p m) : Ok K T (S.put p m) (upd H p o) := by
  have n' : H p = none ∨ Mv T S p := n.imp id .inl
  have st : Step T S H (S.put p m) (upd H p o) := step_put n'
  refine ⟨fun q hq => ?_, fun a h => ?_, fun a c h => ?_⟩
  rotate_left
  · obtain ⟨⟨xs, e⟩, e2⟩ := k.bus a h
    have ne : a ≠ p := fun z => by
      subst z
      rcases n with n | ⟨c, n⟩
      · rw [n] at e; cases e
      · rw [n] at e2; cases e2
    exact ⟨⟨xs, by rw [upd_ne ne]; exact e⟩, by rw [put_ne ne]; exact e2⟩
  rotate_left
  · obtain ⟨ps, h1, h2, h3⟩ := k.tabs q hq
    have nT : ∀ a u, H a = some u → (∀ xs, u ≠ .lst xs) → (∀ C dx fs, u ≠ .ins C dx fs) → (∀ x, u ≠ .dK x) → (∀ x, u ≠ .dT x) → a ≠ p := fun a u e z1 z2 z3 z4 z => by
      subst z
      rcases n with n | ⟨c, hc⟩
      · rw [n] at e; cases e
      · have x := k.cel a c hc
        cases c with
        | lst ds => obtain ⟨xs, e2, _⟩ := x; rw [e] at e2; cases e2; exact z1 _ rfl
        | ins C ns ds => obtain ⟨dx, fs, e2, _⟩ := x; rw [e] at e2; cases e2; exact z2 _ _ _ rfl
        | dK ks ds => obtain ⟨kvs, e2, _⟩ := x; rw [e] at e2; cases e2; exact z3 _ rfl
        | dT ks ds => obtain ⟨kvs, e2, _⟩ := x; rw [e] at e2; cases e2; exact z4 _ rfl
        | bag c ns => obtain ⟨i, x, y, z, e2, _⟩ := x; rw [e] at e2; cases e2; exact z1 _ rfl
    refine ⟨ps, by rw [upd_ne (nT _ _ h1 (by intro _ z; cases z) (by intro _ _ _ z; cases z) (by intro _ z; cases z) (by intro _ z; cases z))]; exact h1, h2, fun pos cv hc => ?_⟩
    obtain ⟨c, e1, e2⟩ := h3 pos cv hc
    refine ⟨c, e1, ?_⟩
    rw [upd_ne (nT _ _ e2 (by intro _ z; unfold LamX.CodeO at z; cases z) (by intro _ _ _ z; unfold LamX.CodeO at z; cases z) (by intro _ z; unfold LamX.CodeO at z; cases z) (by intro _ z; unfold LamX.CodeO at z; cases z))]
    exact e2
  · by_cases z : a = p
    · subst z
      rw [put_same] at h
      cases h
      exact hm
    · rw [put_ne z] at h
      exact (k.cel a c h).keep k st (upd_ne z)
theorem step_del {p : Addr} : Step T S H (S.del p) H := fun a u e q => ⟨e, fun z => by
  rcases z with ⟨c, z⟩ | z
  · by_cases h : a = p
    · subst h; rw [del_same] at z; cases z
    · rw [del_ne h] at z; exact q (.inl ⟨c, z⟩)
  · exact q (.inr z)⟩
/-- it changes no more -/
theorem Ok.del (k : Ok K T S H) (p : Addr) : Ok K T (S.del p) H := ⟨k.tabs, fun a h => ⟨(k.bus a h).1, by
  by_cases z : a = p
  · subst z; exact del_same
  · rw [del_ne z]; exact (k.bus a h).2⟩, fun a m h => by
  have ne : a ≠ p := fun z => by subst z; rw [del_same] at h; cases h
  rw [del_ne ne] at h
  exact (k.cel a m h).keep k step_del rfl⟩
theorem mu_del (k : Ok K T S H) {p : Addr} (h : ∃ c, S p = some c) : ¬ Mu T (S.del p) p := fun z => by
  rcases z with (⟨c, z⟩ | z) | z
  · rw [del_same] at z; cases z
  · exact k.off h z
  · obtain ⟨c, h⟩ := h
    rw [(k.bus p z).2] at h; cases h
end
end Dw
namespace Dw
open PySem PySem.Spec PyProof.Rows L2
abbrev Lc := List (Option D)
structure Exc where
  cls : Addr
  ns : List Str
  ds : List D
abbrev Xp := Exc → Sto → Prop
abbrev W (α : Type) := Sto → (α → Sto → Prop) → Xp → Prop
abbrev DE := Lc → W D
abbrev DA := Lc → W (List D)
abbrev DT := Lc → W Bool
structure Pst where
  nx : Lc → Sto → Prop
  rt : D → Sto → Prop
  bk : Lc → Sto → Prop := fun _ _ => False
  ct : Lc → Sto → Prop := fun _ _ => False
  xp : Xp
abbrev DS := Lc → Sto → Pst → Prop
def noX : Xp := fun _ _ => False
section
variable (K : PySem.W.Frag) (T : Gx)
def RepL (M : Addr → Prop) (H : Hp) : Lc → L2.St → Prop
  | [], σ => σ = []
  | d :: ρ, σ => ∃ v σ', σ = v :: σ' ∧ (∀ x, d = some x → ∃ w, v = some w ∧ Rep K M H x w) ∧ RepL M H ρ σ'
def PostD {α β : Type} (R : (Addr → Prop) → Hp → α → β → Prop) (S : Sto) (H : Hp) (post : α → Sto → Prop) (Q : β → Hp → Prop) : Prop :=
  ∀ d S' v H', post d S' → R (Mu T S') H' d v → Ok K T S' H' → Step T S H S' H' → Q v H'
def RepX (M : Addr → Prop) (H : Hp) (x : Exc) (cv : Value) (od : Option Addr) : Prop :=
  ∃ dd fs, cv = .ref x.cls ∧ od = some dd ∧ H dd = some (.xd fs) ∧ fs.map (·.1) = x.ns ∧ Reps K M H x.ds (fs.map (·.2))
def ExI (E : XK) (S : Sto) (H : Hp) (xp : Xp) : Prop := ∀ x S' cv od H', xp x S' → RepX K (Mu T S') H' x cv od → Ok K T S' H' → Step T S H S' H' → E cv od H'
def tG (E : XK) {α β : Type} (R : (Addr → Prop) → Hp → α → β → Prop) (f : Lc → W α) : L2.St → Hp → (β → Hp → Prop) → Prop := fun σ H Q =>
  ∃ ρ S post xp, RepL K (Mu T S) H ρ σ ∧ Ok K T S H ∧ f ρ S post xp ∧ PostD K T R S H post Q ∧ ExI K T E S H xp
abbrev tE (E : XK) (f : DE) : TE := tG K T E (Rep K) f
abbrev tA (E : XK) (f : DA) : TA := tG K T E (Reps K) f
abbrev tB (E : XK) (f : DT) : TT := tG K T E (fun _ _ (b c : Bool) => b = c) f
def tS (E : XK) (f : DS) : TS := fun Dd σ H => ∃ ρ S p, RepL K (Mu T S) H ρ σ ∧ Ok K T S H ∧ f ρ S p ∧ PostD K T (RepL K) S H p.nx Dd.nx ∧ PostD K T (Rep K) S H p.rt Dd.rt ∧ PostD K T (RepL K) S H p.bk Dd.bk ∧ PostD K T (RepL K) S H p.ct Dd.ct ∧ ExI K T E S H p.xp
end
section
variable {K : PySem.W.Frag} {T : Gx} {E : XK} {S S' : Sto} {H H' : Hp} {M : Addr → Prop}
theorem RepL.step (k : Ok K T S H) (st : Step T S H S' H') : ∀ {ρ : Lc} {σ : L2.St}, RepL K (Mu T S) H ρ σ → RepL K (Mu T S') H' ρ σ
  | [], _, h => h
  | d :: ρ, σ, h => by
    obtain ⟨v, σ', e, h1, h2⟩ := h
    exact ⟨v, σ', e, fun x ex => let ⟨w, e1, r⟩ := h1 x ex; ⟨w, e1, r.step k st⟩, RepL.step k st h2⟩
theorem RepL.len : ∀ {ρ : Lc} {σ : L2.St}, RepL K M H ρ σ → σ.length = ρ.length
  | [], _, h => by rw [show _ = [] from h]; rfl
  | d :: ρ, _, h => by
    obtain ⟨v, σ', rfl, _, h⟩ := h
    simp [RepL.len h]
theorem RepL.at : ∀ {ρ : Lc} {σ : L2.St} {i : Nat} {d : D}, RepL K M H ρ σ → ρ[i]? = some (some d) → ∃ v, σ[i]? = some (some v) ∧ Rep K M H d v
  | [], _, _, _, _, e => by simp at e
  | d0 :: ρ, _, 0, d, h, e => by
    obtain ⟨v, σ', rfl, h1, _⟩ := h
    simp at e; subst e
    obtain ⟨w, rfl, r⟩ := h1 _ rfl
    exact ⟨w, rfl, r⟩
  | d0 :: ρ, _, i + 1, d, h, e => by
    obtain ⟨v, σ', rfl, _, h2⟩ := h
    obtain ⟨w, e1, r⟩ := RepL.at (i := i) h2 (by simpa using e)
    exact ⟨w, by simpa using e1, r⟩
theorem RepL.set : ∀ {ρ : Lc} {σ : L2.St} (i : Nat) {d : D} {v : V}, RepL K M H ρ σ → Rep K M H d v → RepL K M H (ρ.set i (some d)) (σ.set i (some v))
  | [], _, _, _, _, h, _ => by rw [show _ = [] from h]; rfl
  | d0 :: ρ, _, 0, d, v, h, r => by
    obtain ⟨v0, σ', rfl, h1, h2⟩ := h
    exact ⟨some v, σ', rfl, fun x e => ⟨v, rfl, by cases e; exact r⟩, h2⟩
  | d0 :: ρ, _, i + 1, d, v, h, r => by
    obtain ⟨v0, σ', rfl, h1, h2⟩ := h
    exact ⟨v0, σ'.set i (some v), rfl, h1, RepL.set i h2 r⟩
theorem RepL.nones : ∀ (n : Nat), RepL K M H (List.replicate n (none : Option D)) (List.replicate n (none : Option V))
  | 0 => rfl
  | n + 1 => ⟨none, _, rfl, fun _ e => (by cases e), RepL.nones n⟩
theorem RepL.app : ∀ {ρ ρ' : Lc} {σ σ' : L2.St}, RepL K M H ρ σ → RepL K M H ρ' σ' → RepL K M H (ρ ++ ρ') (σ ++ σ')
  | [], _, _, _, h, h' => by rw [show _ = [] from h]; exact h'
  | d :: ρ, _, _, _, h, h' => by
    obtain ⟨v, σ1, rfl, h1, h2⟩ := h
    exact ⟨v, σ1 ++ _, rfl, h1, RepL.app h2 h'⟩
theorem RepL.of_reps : ∀ {ds : List D} {vs : List V}, Reps K M H ds vs → RepL K M H (ds.map some) (vs.map some)
  | [], _, h => by rw [nil_of h]; rfl
  | d :: ds, _, h => by
    obtain ⟨v, r, rfl, h1, h2⟩ := cons_of h
    exact ⟨some v, _, rfl, fun x e => ⟨v, rfl, by cases e; exact h1⟩, RepL.of_reps h2⟩
theorem PostD.from {α β : Type} {R : (Addr → Prop) → Hp → α → β → Prop} {S1 : Sto} {H1 : Hp} {post : α → Sto → Prop} {Q : β → Hp → Prop} (h : PostD K T R S H post Q) (st : Step T S H S1 H1) : PostD K T R S1 H1 post Q :=
  fun d S' v H' p r k s => h d S' v H' p r k (st.trans s)
theorem ExI.from {S1 : Sto} {H1 : Hp} {xp : Xp} (h : ExI K T E S H xp) (st : Step T S H S1 H1) : ExI K T E S1 H1 xp := fun x S' cv od H' p r k s => h x S' cv od H' p r k (st.trans s)
theorem PostD.now {α β : Type} {R : (Addr → Prop) → Hp → α → β → Prop} {post : α → Sto → Prop} {Q : β → Hp → Prop} {d : α} {v : β} (h : PostD K T R S H post Q) (k : Ok K T S H) (p : post d S) (r : R (Mu T S) H d v) : Q v H := h d S v H p r k (Step.refl _ _)
theorem noX_ex : ExI K T E S H noX := fun _ _ _ _ _ p => p.elim
end
section
variable {X : Cx} {e : Expr}
theorem pe_imp {t t' : TE} (h : PE X e t) (i : ∀ σ H Q, t' σ H Q → t σ H Q) : PE X e t' := ⟨fun pins s σ H Q I q => h.run pins s σ H Q I (i σ H Q q)⟩
theorem pt_imp {t t' : TT} (h : PT X e t) (i : ∀ σ H Q, t' σ H Q → t σ H Q) : PT X e t' := ⟨fun pins s σ H Q I q => h.run pins s σ H Q I (i σ H Q q)⟩
theorem pw_imp {t t' : TT} (h : PW X e t) (i : ∀ σ H Q, t' σ H Q → t σ H Q) : PW X e t' := ⟨fun wh pins s σ H Q I q => h.run wh pins s σ H Q I (i σ H Q q)⟩
theorem pa_imp {es : List Expr} {t t' : TA} (h : PA X es t) (i : ∀ σ H Q, t' σ H Q → t σ H Q) : PA X es t' := ⟨fun ps pins s σ H Q I q => h.run ps pins s σ H Q I (i σ H Q q)⟩
theorem ps_imp {st : Stmt} {t t' : TS} (h : PS X st t) (i : ∀ Dd σ H, t' Dd σ H → t Dd σ H) : PS X st t' := ⟨fun pins s σ H Dd I q => h.run pins s σ H Dd I (i Dd σ H q)⟩
theorem pss_imp {st : List Stmt} {t t' : TS} (h : PSs X st t) (i : ∀ Dd σ H, t' Dd σ H → t Dd σ H) : PSs X st t' := ⟨fun pins s σ H Dd I q => h.run pins s σ H Dd I (i Dd σ H q)⟩
end
def dPure (d : D) : DE := fun _ S post _ => post d S
def dVar (i : Nat) : DE := fun ρ S post _ => match ρ[i]? with
  | some (some d) => post d S
  | _ => False
def dNil : DA := fun _ S post _ => post [] S
def dCons (f : DE) (g : DA) : DA := fun ρ S post xp => f ρ S (fun d S1 => g ρ S1 (fun ds S2 => post (d :: ds) S2) xp) xp
def dArgs : List DE → DA
  | [] => dNil
  | f :: fs => dCons f (dArgs fs)
def dTup (fs : List DE) : DE := fun ρ S post xp => dArgs fs ρ S (fun ds S' => post (.tup ds) S') xp
def dLst (fs : List DE) : DE := fun ρ S post xp => dArgs fs ρ S (fun ds S' => post (.lst ds) S') xp
/-- a new list that is going to change -/
def dLstM (fs : List DE) : DE := fun ρ S post xp => dArgs fs ρ S (fun ds S' => ∀ a, S' a = none → post (.val (.ref a)) (S'.put a (.lst ds))) xp
def dOp (o : D → D → W D) (a b : DE) : DE := fun ρ S post xp => a ρ S (fun x S1 => b ρ S1 (fun y S2 => o x y S2 post xp) xp) xp
def dUn (o : D → W D) (a : DE) : DE := fun ρ S post xp => a ρ S (fun x S1 => o x S1 post xp) xp
def dApp (g : List D → W D) (f : DA) : DE := fun ρ S post xp => f ρ S (fun ds S1 => g ds S1 post xp) xp
def dIf (c : DT) (a b : DE) : DE := fun ρ S post xp => c ρ S (fun k S1 => if k = true then a ρ S1 post xp else b ρ S1 post xp) xp
def dtVal (f : DE) : DT := fun ρ S post xp => f ρ S (fun d S' => match d with
  | .bl b => post b S'
  | _ => False) xp
def dtNot (c : DT) : DT := fun ρ S post xp => c ρ S (fun b S' => post (!b) S') xp
def dtAnd (a b : DT) : DT := fun ρ S post xp => a ρ S (fun k S1 => if k = true then b ρ S1 post xp else post false S1) xp
def dtOr (a b : DT) : DT := fun ρ S post xp => a ρ S (fun k S1 => if k = true then post true S1 else b ρ S1 post xp) xp
def dAnd (a b : DE) : DE := fun ρ S post xp => a ρ S (fun d S1 => match d with
  | .bl true => b ρ S1 post xp
  | .bl false => post (.bl false) S1
  | _ => False) xp
theorem dArgs_len : ∀ (fs : List DE) (ρ : Lc) (S : Sto) (post : List D → Sto → Prop) (xp : Xp), dArgs fs ρ S post xp = dArgs fs ρ S (fun ds S' => ds.length = fs.length ∧ post ds S') xp
  | [], ρ, S, post, xp => by
    show post [] S = (0 = 0 ∧ post [] S)
    simp
  | f :: fs, ρ, S, post, xp => by
    show f ρ S (fun d S1 => dArgs fs ρ S1 (fun ds S2 => post (d :: ds) S2) xp) xp = f ρ S (fun d S1 => dArgs fs ρ S1 (fun ds S2 => (d :: ds).length = (f :: fs).length ∧ post (d :: ds) S2) xp) xp
    congr 1
    funext d S1
    rw [dArgs_len fs ρ S1 (fun ds S2 => post (d :: ds) S2) xp]
    simp
section
variable {X : Cx} {K : PySem.W.Frag} {T : Gx} {E : XK} {a b : Expr} {es : List Expr} {pos : Pos}
theorem de_var (i : Nat) {x : Str} (hN : X.N[i]? = some x := by rfl) (hv : Vis X.env.scope x := by first | exact Or.inl rfl | exact Or.inr (Or.inl rfl) | exact Or.inr (Or.inr rfl)) (hd : (x == ("__debug__" : Str)) = false := by decide)
    (hcd : (x == ("__classdict__" : Str)) = false := by decide) : PE X (.Name x pos) (tE K T E (dVar i)) := pe_imp (pe_var hN hv hd hcd) (by
  rintro σ H Q ⟨ρ, S, post, xp, rl, k, h, q, _⟩
  unfold dVar at h
  split at h
  · rename_i d hd
    obtain ⟨v, e, r⟩ := rl.at hd
    exact ⟨v, e, q.now k h r⟩
  · exact h.elim)
theorem de_c {v : V} {d : D} (h : PE X a (tC v)) (r : ∀ M H, Rep K M H d v) : PE X a (tE K T E (dPure d)) := pe_imp h (by
  rintro σ H Q ⟨ρ, S, post, xp, rl, k, h, q, _⟩
  exact q.now k h (r _ _))
theorem de_int {i j} : PE X (.Constant (.int i) j pos) (tE K T E (dPure (.int i))) := de_c pe_int fun _ _ => rint _
theorem de_bl {i j} : PE X (.Constant (.bool i) j pos) (tE K T E (dPure (.bl i))) := de_c pe_bl fun _ _ => rbl _
theorem de_non {j} : PE X (.Constant .none j pos) (tE K T E (dPure .non)) := de_c pe_non fun _ _ => rnon
theorem de_str {x j} : PE X (.Constant (.str x) j pos) (tE K T E (dPure (.str x))) := de_c pe_str fun _ _ => rstr _
theorem da_nil : PA X [] (tA K T E dNil) := pa_imp pa_nil (by
  rintro σ H Q ⟨ρ, S, post, xp, rl, k, h, q, _⟩
  exact q.now k h rnil)
theorem da_cons {f : DE} {g : DA} (ha : PE X a (tE K T E f)) (hr : PA X es (tA K T E g)) (hs : starEach (a :: es) X.env = (false, eval a X.env) :: starEach es X.env := by rfl) : PA X (a :: es) (tA K T E (dCons f g)) := pa_imp (pa_cons ha hr hs) (by
  rintro σ H Q ⟨ρ, S, post, xp, rl, k, h, q, x⟩
  refine ⟨ρ, S, _, xp, rl, k, h, ?_, x⟩
  intro d S1 v H1 h1 r1 k1 s1
  refine ⟨ρ, S1, _, xp, rl.step k s1, k1, h1, ?_, x.from s1⟩
  intro ds S2 vs H2 h2 r2 k2 s2
  exact q _ _ _ _ h2 (rcons (r1.step k1 s2) r2) k2 (s1.trans s2))
theorem da_nil' : PA X [] (tA K T E (dArgs [])) := da_nil
theorem da_cons' {f : DE} {fs : List DE} (ha : PE X a (tE K T E f)) (hr : PA X es (tA K T E (dArgs fs))) (hs : starEach (a :: es) X.env = (false, eval a X.env) :: starEach es X.env := by rfl) : PA X (a :: es) (tA K T E (dArgs (f :: fs))) := da_cons ha hr hs
theorem de_tup {x1} {fs : List DE} (h : PA X es (tA K T E (dArgs fs))) (hl : Nat.ble fs.length 1000 = true := by rfl) : PE X (.Tuple es x1 pos) (tE K T E (dTup fs)) := pe_imp (pe_tup h) (by
  rintro σ H Q ⟨ρ, S, post, xp, rl, k, h, q, x⟩
  refine ⟨ρ, S, _, xp, rl, k, (by rw [← dArgs_len]; exact h), ?_, x⟩
  rintro ds S1 vs H1 ⟨l1, h1⟩ r1 k1 s1
  refine ⟨by rw [r1.len, l1]; exact Nat.le_trans (Nat.le_of_ble_eq_true hl) (by decide), fun p hp => ?_⟩
  have s2 : Step T S1 H1 S1 (upd H1 p (.tup vs)) := step_new hp
  exact q _ _ _ _ h1 (rtup upd_same (r1.step k1 s2)) (k1.laid hp) (s1.trans s2))
theorem de_lst {fs : List DE} (h : PA X es (tA K T E (dArgs fs))) (hl : Nat.ble fs.length 1000 = true := by rfl) : PE X (.List es pos) (tE K T E (dLst fs)) := pe_imp (pe_lst h) (by
  rintro σ H Q ⟨ρ, S, post, xp, rl, k, h, q, x⟩
  refine ⟨ρ, S, _, xp, rl, k, (by rw [← dArgs_len]; exact h), ?_, x⟩
  rintro ds S1 vs H1 ⟨l1, h1⟩ r1 k1 s1
  refine ⟨by rw [r1.len, l1]; exact Nat.le_trans (Nat.le_of_ble_eq_true hl) (by decide), fun p hp => ?_⟩
  have s2 : Step T S1 H1 S1 (upd H1 p (.lst vs)) := step_new hp
  exact q _ _ _ _ h1 (rlst (k1.new hp) upd_same (r1.step k1 s2)) (k1.laid hp) (s1.trans s2))
theorem Ok.unsto {S : Sto} {H : Hp} {p : Addr} (k : Ok K T S H) (n : H p = none) : S p = none := by
  cases h : S p with
  | none => rfl
  | some m => exact absurd n (k.there (.inl (.inl ⟨m, h⟩)))
theorem de_lstM {fs : List DE} (h : PA X es (tA K T E (dArgs fs))) (hl : Nat.ble fs.length 1000 = true := by rfl) : PE X (.List es pos) (tE K T E (dLstM fs)) := pe_imp (pe_lst h) (by
  rintro σ H Q ⟨ρ, S, post, xp, rl, k, h, q, x⟩
  refine ⟨ρ, S, _, xp, rl, k, (by rw [← dArgs_len]; exact h), ?_, x⟩
  rintro ds S1 vs H1 ⟨l1, h1⟩ r1 k1 s1
  refine ⟨by rw [r1.len, l1]; exact Nat.le_trans (Nat.le_of_ble_eq_true hl) (by decide), fun p hp => ?_⟩
  have s2 : Step T S1 H1 (S1.put p (.lst ds)) (upd H1 p (.lst vs)) := step_put (.inl hp)
  exact q _ _ _ _ (h1 p (k1.unsto hp)) (rval _) (k1.put (.inl hp) ⟨vs, upd_same, r1.step k1 s2⟩) (s1.trans s2))
def rD2 (K : PySem.W.Frag) (T : Gx) (E : XK) (o : D → D → W D) : R2 := fun v w H Q => ∃ x y S post xp, Rep K (Mu T S) H x v ∧ Rep K (Mu T S) H y w ∧ Ok K T S H ∧ o x y S post xp ∧ PostD K T (Rep K) S H post Q ∧ ExI K T E S H xp
def rD1 (K : PySem.W.Frag) (T : Gx) (E : XK) (o : D → W D) : V → Hp → VK → Prop := fun v H Q => ∃ x S post xp, Rep K (Mu T S) H x v ∧ Ok K T S H ∧ o x S post xp ∧ PostD K T (Rep K) S H post Q ∧ ExI K T E S H xp
def rDs (K : PySem.W.Frag) (T : Gx) (E : XK) (g : List D → W D) : List V → Hp → VK → Prop := fun vs H Q => ∃ ds S post xp, Reps K (Mu T S) H ds vs ∧ Ok K T S H ∧ g ds S post xp ∧ PostD K T (Rep K) S H post Q ∧ ExI K T E S H xp
variable {f g : DE} {o : D → D → W D}
theorem two_conv {t : R2} (ht : ∀ v w H Q, rD2 K T E o v w H Q → t v w H Q) : ∀ σ H Q, tE K T E (dOp o f g) σ H Q → tOp t (tE K T E f) (tE K T E g) σ H Q := by
  rintro σ H Q ⟨ρ, S, post, xp, rl, k, h, q, x⟩
  refine ⟨ρ, S, _, xp, rl, k, h, ?_, x⟩
  intro d S1 v H1 h1 r1 k1 s1
  refine ⟨ρ, S1, _, xp, rl.step k s1, k1, h1, ?_, x.from s1⟩
  intro d2 S2 w H2 h2 r2 k2 s2
  exact ht _ _ _ _ ⟨d, d2, S2, post, xp, r1.step k1 s2, r2, k2, h2, q.from (s1.trans s2), x.from (s1.trans s2)⟩
theorem de_op {op : Operator} (ho : OpR X (binaryOp op) (rD2 K T E o)) (ha : PE X a (tE K T E f)) (hb : PE X b (tE K T E g)) : PE X (.BinOp a op b pos) (tE K T E (dOp o f g)) := pe_imp (pe_op ho ha hb) (two_conv fun _ _ _ _ h => h)
theorem de_cmp {op : CmpOp} (ho : OpR X (compareOp op) (rD2 K T E o)) (ha : PE X a (tE K T E f)) (hb : PE X b (tE K T E g)) (hm : behindInMarks op b = false := by first | exact nomark _ | rfl) : PE X (.Compare a [op] [b] pos) (tE K T E (dOp o f g)) :=
  pe_imp (pe_cmpR ho ha hb hm) (two_conv fun _ _ _ _ h => h)
theorem de_ix (ho : IxR X (rD2 K T E o)) (ha : PE X a (tE K T E f)) (hb : PE X b (tE K T E g)) (hs : PlainIx b := by exact fun _ _ => rfl) : PE X (.Subscript a b pos) (tE K T E (dOp o f g)) := pe_imp (pe_ix ho ha hb hs) (two_conv fun _ _ _ _ h => h)
theorem de_un {op : UnaryOp} {o : D → W D} (ho : UnR X (unaryOp op) (rD1 K T E o)) (ha : PE X a (tE K T E f)) : PE X (.UnaryOp op a pos) (tE K T E (dUn o f)) := pe_imp (pe_un ho ha) (by
  rintro σ H Q ⟨ρ, S, post, xp, rl, k, h, q, x⟩
  refine ⟨ρ, S, _, xp, rl, k, h, ?_, x⟩
  intro d S1 v H1 h1 r1 k1 s1
  exact ⟨d, S1, post, xp, r1, k1, h1, q.from s1, x.from s1⟩)
theorem app_conv {g : List D → W D} {f : DA} {σ : L2.St} {H : Hp} {Q : VK} (h : tE K T E (dApp g f) σ H Q) : tA K T E f σ H fun vs H1 => rDs K T E g vs H1 Q := by
  obtain ⟨ρ, S, post, xp, rl, k, h, q, x⟩ := h
  refine ⟨ρ, S, _, xp, rl, k, h, ?_, x⟩
  intro d S1 v H1 h1 r1 k1 s1
  exact ⟨d, S1, post, xp, r1, k1, h1, q.from s1, x.from s1⟩
variable {c c' : DT}
theorem val_conv {σ : L2.St} {H : Hp} {Q : Bool → Hp → Prop} (h : tB K T E (dtVal f) σ H Q) : tE K T E f σ H fun v H1 => ∃ c, v = .bl c ∧ Q c H1 := by
  obtain ⟨ρ, S, post, xp, rl, k, h, q, x⟩ := h
  refine ⟨ρ, S, _, xp, rl, k, h, ?_, x⟩
  intro d S1 v H1 h1 r1 k1 s1
  cases d with
  | bl b => exact ⟨b, bl_of r1, q _ _ _ _ h1 rfl k1 s1⟩
  | _ => exact False.elim h1
theorem dt_cmp {op : CmpOp} (ho : OpR X (compareOp op) (rD2 K T E o)) (ha : PE X a (tE K T E f)) (hb : PE X b (tE K T E g)) (hm : behindInMarks op b = false := by first | exact nomark _ | rfl) : PT X (.Compare a [op] [b] pos) (tB K T E (dtVal (dOp o f g))) :=
  pt_imp (pt_cmpR ho ha hb hm) fun σ H Q h => two_conv (fun _ _ _ _ h => h) _ _ _ (val_conv h)
theorem dt_val (h : PE X a (tE K T E f)) (he : ∀ whole, isTrue a X.env whole = (do let v ← whole; standAt a.pos; holding [v] (truthy v)) := by intro _; rfl) : PT X a (tB K T E (dtVal f)) :=
  pt_imp (pt_val h he) fun σ H Q h => val_conv h
theorem dt_not (h : PT X a (tB K T E c)) : PT X (.UnaryOp .Not a pos) (tB K T E (dtNot c)) := pt_imp (pt_not h) (by
  rintro σ H Q ⟨ρ, S, post, xp, rl, k, h, q, x⟩
  refine ⟨ρ, S, _, xp, rl, k, h, ?_, x⟩
  rintro d S1 v H1 h1 rfl k1 s1
  exact q _ _ _ _ h1 rfl k1 s1)
theorem dw_and1 (h : PT X a (tB K T E c)) : PW X (.BoolOp .And [a] pos) (tB K T E c) := pw_and1 h
theorem dw_or1 (h : PT X a (tB K T E c)) : PW X (.BoolOp .Or [a] pos) (tB K T E c) := pw_or1 h
theorem dw_and (h : PT X a (tB K T E c)) (h' : PW X (.BoolOp .And (b :: es) pos) (tB K T E c')) : PW X (.BoolOp .And (a :: b :: es) pos) (tB K T E (dtAnd c c')) := pw_imp (pw_and h h') (by
  rintro σ H Q ⟨ρ, S, post, xp, rl, k, h, q, x⟩
  refine ⟨ρ, S, _, xp, rl, k, h, ?_, x⟩
  rintro d S1 v H1 h1 rfl k1 s1
  cases d with
  | true =>
    rw [if_pos rfl] at h1 ⊢
    exact ⟨ρ, S1, post, xp, rl.step k s1, k1, h1, q.from s1, x.from s1⟩
  | false =>
    rw [if_neg Bool.false_ne_true] at h1 ⊢
    exact q _ _ _ _ h1 rfl k1 s1)
theorem dw_or (h : PT X a (tB K T E c)) (h' : PW X (.BoolOp .Or (b :: es) pos) (tB K T E c')) : PW X (.BoolOp .Or (a :: b :: es) pos) (tB K T E (dtOr c c')) := pw_imp (pw_or h h') (by
  rintro σ H Q ⟨ρ, S, post, xp, rl, k, h, q, x⟩
  refine ⟨ρ, S, _, xp, rl, k, h, ?_, x⟩
  rintro d S1 v H1 h1 rfl k1 s1
  cases d with
  | true =>
    rw [if_pos rfl] at h1 ⊢
    exact q _ _ _ _ h1 rfl k1 s1
  | false =>
    rw [if_neg Bool.false_ne_true] at h1 ⊢
    exact ⟨ρ, S1, post, xp, rl.step k s1, k1, h1, q.from s1, x.from s1⟩)
theorem dt_w (h : PW X a (tB K T E c)) : PT X a (tB K T E c) := PW.pt h
theorem de_one {op} (h : PE X a (tE K T E f)) : PE X (.BoolOp op [a] pos) (tE K T E f) := pe_one h
theorem de_and (ha : PE X a (tE K T E f)) (hb : PE X (.BoolOp .And (b :: es) pos) (tE K T E g)) : PE X (.BoolOp .And (a :: b :: es) pos) (tE K T E (dAnd f g)) := pe_imp (pe_and ha hb) (by
  rintro σ H Q ⟨ρ, S, post, xp, rl, k, h, q, x⟩
  refine ⟨ρ, S, _, xp, rl, k, h, ?_, x⟩
  intro d S1 v H1 h1 r1 k1 s1
  cases d with
  | bl b =>
    refine ⟨b, bl_of r1, ?_⟩
    cases b with
    | true =>
      rw [if_pos rfl]
      exact ⟨ρ, S1, post, xp, rl.step k s1, k1, h1, q.from s1, x.from s1⟩
    | false =>
      rw [if_neg Bool.false_ne_true]
      exact q _ _ _ _ h1 (rbl _) k1 s1
  | _ => exact False.elim h1)
theorem de_if {e : Expr} (hc : PT X e (tB K T E c)) (ha : PE X a (tE K T E f)) (hb : PE X b (tE K T E g)) : PE X (.IfExp e a b pos) (tE K T E (dIf c f g)) := pe_imp (pe_ifExp hc ha hb) (by
  rintro σ H Q ⟨ρ, S, post, xp, rl, k, h, q, x⟩
  refine ⟨ρ, S, _, xp, rl, k, h, ?_, x⟩
  rintro d S1 v H1 h1 rfl k1 s1
  cases d with
  | true =>
    rw [if_pos rfl] at h1 ⊢
    exact ⟨ρ, S1, post, xp, rl.step k s1, k1, h1, q.from s1, x.from s1⟩
  | false =>
    rw [if_neg Bool.false_ne_true] at h1 ⊢
    exact ⟨ρ, S1, post, xp, rl.step k s1, k1, h1, q.from s1, x.from s1⟩)
end
end Dw
namespace Dw
open PySem PySem.Spec PyProof.Rows L2
def setL (ρ : Lc) : List Nat → List D → Lc
  | i :: is, d :: ds => setL (ρ.set i (some d)) is ds
  | _, _ => ρ
def dNext : DS := fun ρ S p => p.nx ρ S
def dSet (i : Nat) (e : DE) : DS := fun ρ S p => e ρ S (fun d S' => p.nx (ρ.set i (some d)) S') p.xp
def dSeq (a b : DS) : DS := fun ρ S p => a ρ S { p with nx := fun ρ' S' => b ρ' S' p }
def dRet (e : DE) : DS := fun ρ S p => e ρ S p.rt p.xp
def dExpr (e : DE) : DS := fun ρ S p => e ρ S (fun _ S' => p.nx ρ S') p.xp
def dIfS (c : DT) (a b : DS) : DS := fun ρ S p => c ρ S (fun k S' => if k = true then a ρ S' p else b ρ S' p) p.xp
def dPar (is : List Nat) (fs : List DE) : DS := fun ρ S p => dArgs fs ρ S (fun ds S' => p.nx (setL ρ is ds) S') p.xp
/-- a, b = e -/
def dUnp (is : List Nat) (e : DE) : DS := fun ρ S p => e ρ S (fun d S' => match d with
  | .tup ds => ds.length = is.length ∧ p.nx (setL ρ is ds) S'
  | _ => False) p.xp
/-- the value in slot i changes no more -/
def frz (d : D) (S : Sto) (post : D → Sto → Prop) : Prop := match d with
  | .val (.ref a) => (match S a with
    | some (.lst ds) => post (.lst ds) (S.del a)
    | some (.ins C ns ds) => post (.ins C ns ds) (S.del a)
    | some (.dK ks ds) => post (.dK ks ds) (S.del a)
    | _ => False)
  | _ => False
def dFrz (i : Nat) : DS := fun ρ S p => match ρ[i]? with
  | some (some d) => frz d S (fun d' S' => p.nx (ρ.set i (some d')) S')
  | _ => False
section
variable {K : PySem.W.Frag} {T : Gx} {E : XK} {S : Sto} {H : Hp} {M : Addr → Prop}
theorem frz_ok {d : D} {v : V} {post : D → Sto → Prop} (k : Ok K T S H) (r : Rep K (Mu T S) H d v) (h : frz d S post) : ∃ d' S', post d' S' ∧ Rep K (Mu T S') H d' v ∧ Ok K T S' H ∧ Step T S H S' H := by
  unfold frz at h
  split at h
  · rename_i a
    obtain rfl := val_of r
    split at h
    · rename_i ds e
      obtain ⟨xs, e1, r1⟩ := k.cel a _ e
      exact ⟨_, _, h, rlst (mu_del k ⟨_, e⟩) e1 (r1.step k step_del), k.del a, step_del⟩
    · rename_i C ns ds e
      obtain ⟨dx, fs, e1, e2, r1⟩ := k.cel a _ e
      exact ⟨_, _, h, rins (mu_del k ⟨_, e⟩) e1 e2 (r1.step k step_del), k.del a, step_del⟩
    · rename_i ks ds e
      obtain ⟨kvs, e1, e2, r1⟩ := k.cel a _ e
      exact ⟨_, _, h, rdK (mu_del k ⟨_, e⟩) (.inl e1) e2 (r1.step k step_del), k.del a, step_del⟩
    · exact h.elim
  · exact h.elim
theorem RepL.setAll : ∀ {is : List Nat} {ds : List D} {vs : List V} {ρ : Lc} {σ : L2.St}, RepL K M H ρ σ → Reps K M H ds vs → RepL K M H (setL ρ is ds) (Px.setAll σ is vs)
  | [], _, _, _, _, h, _ => by unfold setL Px.setAll; exact h
  | i :: is, [], vs, _, _, h, r => by rw [nil_of r]; exact h
  | i :: is, d :: ds, vs, ρ, σ, h, r => by
    obtain ⟨w, ws, rfl, r1, r2⟩ := cons_of r
    exact RepL.setAll (is := is) (ρ := ρ.set i (some d)) (h.set i r1) r2
end
section
variable {X : Cx} {K : PySem.W.Frag} {T : Gx} {E : XK} {a b : Expr} {es : List Expr} {pos : Pos} {f g : DE} {c : DT} {st : Stmt} {sts sts' : List Stmt} {u v : DS}
theorem ds_nil : PSs X [] (tS K T E dNext) := pss_imp pss_nil (by
  rintro Dd σ H ⟨ρ, S, p, rl, k, h, n, _⟩
  exact n.now k h rl)
theorem ds_one (h : PS X st (tS K T E u)) : PSs X [st] (tS K T E u) := pss_one h
theorem ds_cons (h1 : PS X st (tS K T E u)) (h2 : PSs X sts (tS K T E v)) : PSs X (st :: sts) (tS K T E (dSeq u v)) := pss_imp (pss_cons h1 h2) (by
  rintro Dd σ H ⟨ρ, S, p, rl, k, h, n, r, bk, ct, x⟩
  refine ⟨ρ, S, _, rl, k, h, ?_, r, bk, ct, x⟩
  intro ρ' S' σ' H' h' rl' k' s'
  exact ⟨ρ', S', p, rl', k', h', n.from s', r.from s', bk.from s', ct.from s', x.from s'⟩)
theorem ds_set {i : Nat} {x : Str} {pos' : Pos} (hN : X.N.Nodup) (hi : X.N[i]? = some x) (hx : Loc X.env.scope x) (he : PE X a (tE K T E f)) (hs : swapsWith a (some (.Name x pos')) pos.line X.env = pure false := by rfl) (hf : X.fn x = true ∨ X.env.scope.names.lookup x = some .local := by first | exact .inl rfl | exact .inr rfl | assumption) :
    PS X (.Assign [.Name x pos'] a pos) (tS K T E (dSet i f)) := ps_imp (ps_set (i := i) hN hi hx he hs hf) (by
  rintro Dd σ H ⟨ρ, S, p, rl, k, h, n, r, bk, ct, x⟩
  refine ⟨ρ, S, _, p.xp, rl, k, h, ?_, x⟩
  intro d S' v H' h' r' k' s'
  exact n _ _ _ _ h' ((rl.step k s').set i r') k' s')
theorem ds_ret (he : PE X a (tE K T E f)) : PS X (.Return (some a) pos) (tS K T E (dRet f)) := ps_imp (ps_ret he) (by
  rintro Dd σ H ⟨ρ, S, p, rl, k, h, n, r, bk, ct, x⟩
  exact ⟨ρ, S, p.rt, p.xp, rl, k, h, r, x⟩)
theorem ds_expr (he : PE X a (tE K T E f)) (hs : swapsWith a none pos.line X.env = pure false := by rfl) : PS X (.Expr a pos) (tS K T E (dExpr f)) := ps_imp (ps_expr he hs) (by
  rintro Dd σ H ⟨ρ, S, p, rl, k, h, n, r, bk, ct, x⟩
  refine ⟨ρ, S, _, p.xp, rl, k, h, ?_, x⟩
  intro d S' v H' h' r' k' s'
  exact n _ _ _ _ h' (rl.step k s') k' s')
theorem ds_if (hc : PT X a (tB K T E c)) (ha : PSs X sts (tS K T E u)) (hb : PSs X sts' (tS K T E v)) : PS X (.If a sts sts' pos) (tS K T E (dIfS c u v)) := ps_imp (ps_if hc ha hb) (by
  rintro Dd σ H ⟨ρ, S, p, rl, k, h, n, r, bk, ct, x⟩
  refine ⟨ρ, S, _, p.xp, rl, k, h, ?_, x⟩
  rintro d S' v H' h' rfl k' s'
  cases d with
  | true =>
    rw [if_pos rfl] at h' ⊢
    exact ⟨ρ, S', p, rl.step k s', k', h', n.from s', r.from s', bk.from s', ct.from s', x.from s'⟩
  | false =>
    rw [if_neg Bool.false_ne_true] at h' ⊢
    exact ⟨ρ, S', p, rl.step k s', k', h', n.from s', r.from s', bk.from s', ct.from s', x.from s'⟩)
/-- behind a statement what stands in slot i is frozen -/
theorem ds_frz {i : Nat} (h : PS X st (tS K T E u)) : PS X st (tS K T E (dSeq u (dFrz i))) := ps_imp h (by
  rintro Dd σ H ⟨ρ, S, p, rl, k, h, n, r, bk, ct, x⟩
  refine ⟨ρ, S, _, rl, k, h, ?_, r, bk, ct, x⟩
  intro ρ' S' σ' H' h' rl' k' s'
  replace h' : dFrz i ρ' S' p := h'
  unfold dFrz at h'
  split at h'
  · rename_i d hd
    obtain ⟨v, e, r'⟩ := rl'.at hd
    obtain ⟨d2, S2, p2, r2, k2, s2⟩ := frz_ok k' r' h'
    have rl2 := (rl'.step k' s2).set i r2
    have es : σ'.set i (some v) = σ' := by
      obtain ⟨hl, e'⟩ := List.getElem?_eq_some_iff.mp e
      rw [← e']
      exact List.set_getElem_self ..
    rw [es] at rl2
    exact n _ _ _ _ p2 rl2 k2 (s'.trans s2)
  · exact h'.elim)
theorem ds_unp {is : List Nat} {n : Nat} (hp : PS X st (tAsg (tE K T E f) (gTup K n (Px.gNames is)))) (e1 : n = is.length := by rfl) : PS X st (tS K T E (dUnp is f)) := ps_imp hp (by
  rintro Dd σ H ⟨ρ, S, p, rl, k, h, n', r, bk, ct, x⟩
  refine ⟨ρ, S, _, p.xp, rl, k, h, ?_, x⟩
  intro d S' v H' h' r' k' s'
  cases d with
  | tup ds =>
    obtain ⟨hl, h'⟩ := h'
    obtain ⟨ad, xs, rfl, sq, rs⟩ := tup_of r'
    exact ⟨ad, xs, rfl, sq, by rw [rs.len, hl, e1], Px.f_names (by rw [rs.len, hl]) (n' _ _ _ _ h' ((rl.step k s').setAll rs) k' s')⟩
  | _ => exact False.elim h')
theorem ds_par {i j : Nat} {fs : List DE} (hp : PS X st (tPar i j (tA K T E (dArgs fs)))) (hl : fs.length = 2 := by rfl) : PS X st (tS K T E (dPar [i, j] fs)) := ps_imp hp (by
  rintro Dd σ H ⟨ρ, S, p, rl, k, h, n, r, bk, ct, x⟩
  refine ⟨ρ, S, _, p.xp, rl, k, (by unfold dPar at h; rw [dArgs_len] at h; exact h), ?_, x⟩
  rintro ds S' vs H' ⟨l1, h'⟩ r' k' s'
  rw [hl] at l1
  have q := n _ _ _ _ h' ((rl.step k s').setAll (is := [i, j]) r') k' s'
  have l2 := r'.len
  rw [l1] at l2
  match vs, l2 with
  | [v, w], _ => exact ⟨v, w, rfl, q⟩)
theorem ds_par3 {i j l : Nat} {fs : List DE} (hp : PS X st (tPar3 i j l (tA K T E (dArgs fs)))) (hl : fs.length = 3 := by rfl) : PS X st (tS K T E (dPar [i, j, l] fs)) := ps_imp hp (by
  rintro Dd σ H ⟨ρ, S, p, rl, k, h, n, r, bk, ct, x⟩
  refine ⟨ρ, S, _, p.xp, rl, k, (by unfold dPar at h; rw [dArgs_len] at h; exact h), ?_, x⟩
  rintro ds S' vs H' ⟨l1, h'⟩ r' k' s'
  rw [hl] at l1
  have q := n _ _ _ _ h' ((rl.step k s').setAll (is := [i, j, l]) r') k' s'
  have l2 := r'.len
  rw [l1] at l2
  match vs, l2 with
  | [v, w, z], _ => exact ⟨v, w, z, rfl, q⟩)
end
def spD (K : PySem.W.Frag) (tb : List (Addr × Str)) (n : Nat) (g : List D → W D) : Sp := fun vs H Q E =>
  ∃ (T : Gx) (ds : List D) (S : Sto) (post : D → Sto → Prop) (xp : Xp), T.tab = tb ∧ ds.length = n ∧ Reps K (Mu T S) H ds vs ∧ Ok K T S H ∧ g ds S post xp ∧ PostD K T (Rep K) S H post Q ∧ ExI K T E S H xp
/-- a def by its body: m slots -/
def dDef (m : Nat) (u : DS) : List D → W D := fun ds S post xp => u (ds.map some ++ List.replicate (m - ds.length) none) S { nx := fun _ S' => post .non S', rt := post, xp := xp }
section
variable {P : Program} {w : World} {K : PySem.W.Frag} {mg : Str → Option Value} {base : Heap} {tb : List (Addr × Str)}
/-- a def of the text: its name, how it is called, what it does -/
structure DefOk (P : Program) (w : World) (K : PySem.W.Frag) (mg : Str → Option Value) (base : Heap) (tb : List (Addr × Str)) (x : Str) (ps : List Str) (lv : Nat) (g : List D → W D) (f : Addr) (fd : FuncData) : Prop where
  at_ : mg x = some (.ref f)
  kp : PySem.W.keepIn K (.ref f) = true
  bd : Binds K fd ps []
  ok : FnOk P w K mg base (L2.CX P w) lv f fd ps (spD K tb ps.length g)
theorem def_start {m : Nat} {ds : List D} {vs : List V} {M : Addr → Prop} {H : Hp} {N : List Str} (r : Reps K M H ds vs) (hm : N.length = m) : RepL K M H (ds.map some ++ List.replicate (m - ds.length) none) (L2.start N vs) := by
  unfold L2.start
  rw [r.len, hm]
  exact (RepL.of_reps r).app (RepL.nones _)
theorem fun_okD {x qual : Str} {st : Stmt} {f : Addr} {fd : FuncData} {N ps : List Str} {k m : Nat} {u : DS} (F : Fun K x qual st f fd) (S : FnScope N ps (defScope st)) (hm : N.length = m := by rfl)
    (hb : ∀ (T : Gx) (cdv : Value) (A : Around) (outer : List Env) (s : Shared) (H : Hp) (E : XK), T.tab = tb → Room k (A.deeper (envOfC qual (defScope st) s.heap.objs.size f cdv)) →
      PSs (cxOf (L2.CX P w) P w K mg base N qual (defScope st) f cdv A outer s H E) (defBody st) (tS K T E u)) : FnOk P w K mg base (L2.CX P w) (k + 1) f fd ps (spD K tb ps.length (dDef m u)) := by
  refine F.okX S (fun vs H Q E h => ?_) fun cdv A outer s H vs Q E hr h => ?_
  · obtain ⟨T, ds, S, post, xp, _, l, r, _⟩ := h
    rw [r.len, l]
  · obtain ⟨T, ds, S0, post, xp, et, l, r, ok, g, q, x⟩ := h
    refine ⟨_, hb T cdv A outer s H E et hr, ?_⟩
    refine ⟨_, S0, _, def_start r hm, ok, g, ?_, q, fun _ _ _ _ z => z.elim, fun _ _ _ _ z => z.elim, x⟩
    intro ρ' S' σ' H' h' _ k' s'
    exact q _ _ _ _ h' rnon k' s'
theorem pass_own {N : List Str} {qual : Str} {scope : Scope} {f : Addr} {cdv : Value} {A : Around} {outer : List Env} {s : Shared} {H : Hp} {E : XK} :
    Passes (L2.CX P w) (cxOf (L2.CX P w) P w K mg base N qual scope f cdv A outer s H E) E :=
  passes_call (W := fun cls d _ H => E cls d H) (takes_of rfl rfl rfl rfl) fun _ _ _ _ h => h
end
section
variable {X : Cx} {T : Gx} {E : XK} {a b : Expr} {es : List Expr} {pos p apos : Pos} {fs : List DE} {x : Str} {ps : List Str} {lv j : Nat} {g : List D → W D} {f : Addr} {fd : FuncData} {us : List Value}
def dCall (g : List D → W D) (fs : List DE) : DE := dApp g (dArgs fs)
theorem spD_of {K : PySem.W.Frag} {n : Nat} {vs : List V} {H : Hp} {Q : VK} {ds : List D} {S : Sto} {post : D → Sto → Prop} {xp : Xp} (l : ds.length = n) (r : Reps K (Mu T S) H ds vs) (k : Ok K T S H) (h : g ds S post xp) (q : PostD K T (Rep K) S H post Q) (x : ExI K T E S H xp) : spD K T.tab n g vs H Q E := ⟨T, ds, S, post, xp, rfl, l, r, k, h, q, x⟩
theorem call_conv {K : PySem.W.Frag} {n : Nat} {dd : List D} {dvs : List V} (rd : ∀ M H, Reps K M H dd dvs) (hn : fs.length + dd.length = n) {σ : L2.St} {H : Hp} {Q : VK} (h : tE K T E (dApp (fun ds => g (ds ++ dd)) (dArgs fs)) σ H Q) :
    tA K T E (dArgs fs) σ H fun vs H1 => spD K T.tab n g (vs ++ dvs) H1 Q E := by
  obtain ⟨ρ, S, post, xp, rl, k, h, q, x⟩ := h
  refine ⟨ρ, S, _, xp, rl, k, (by unfold dApp at h; rw [dArgs_len] at h; exact h), ?_, x⟩
  rintro ds S1 vs H1 ⟨l1, h1⟩ r1 k1 s1
  exact spD_of (by rw [List.length_append, l1, hn]) (r1.app (rd _ _)) k1 h1 (q.from s1) (x.from s1)
theorem de_call {tb : List (Addr × Str)} (F : DefOk X.prog X.w X.K X.mg X.base tb x ps lv g f fd) (hT : T.tab = tb) (hr : Room j X.A) (px : Passes (L2.CX X.prog X.w) X E) (ha : PA X (a :: es) (tA X.K T E (dArgs fs))) (hn : fs.length = ps.length := by rfl)
    (hg : Gl X x := by rfl) (hj : Nat.ble lv j = true := by rfl) (hdb : (x == ("__debug__" : Str)) = false := by decide) (he : starEach (a :: es) X.env = (false, eval a X.env) :: starEach es X.env := by rfl) (hpl : (backTo pos (starEach es X.env)).any (·.1) = false := by rfl) :
    PE X (.Call (.Name x p) (a :: es) [] pos) (tE X.K T E (dCall g fs)):= by
  subst hT
  exact (
  pe_imp (pe_call F.ok (hr.mono (Nat.le_of_ble_eq_true hj)) hg F.at_ F.kp F.bd .nil px ha hdb he hpl) fun σ H Q h => call_conv (dd := []) (fun _ _ => rnil) hn (by
    simp only [List.append_nil]
    exact h))
abbrev Ms := List (Addr × (List D → W D))
end
end Dw
namespace Dw
open PySem PySem.Spec PyProof.Rows L2
mutual
def toPd : D → PyData
  | .non => .none
  | .bl b => .bool b
  | .int i => .int i
  | .str s => .str s
  | .tup ds => .tuple (toPds ds)
  | .lst ds => .list (toPds ds)
  | _ => .none
def toPds : List D → List PyData
  | [] => []
  | d :: ds => toPd d :: toPds ds
end
mutual
/-- nothing but numbers, texts, tuples, lists -/
def plain : D → Bool
  | .non => true
  | .bl _ => true
  | .int _ => true
  | .str _ => true
  | .tup ds => plains ds
  | .lst ds => plains ds
  | _ => false
def plains : List D → Bool
  | [] => true
  | d :: ds => plain d && plains ds
end
section
variable {K : PySem.W.Frag} {M : Addr → Prop} {H : Hp}
mutual
theorem dp_of : ∀ {d : D} {v : V}, plain d = true → Rep K M H d v → Dp K H v (toPd d)
  | .non, _, _, r => by rw [non_of r]; unfold toPd; exact .non
  | .bl b, _, _, r => by rw [bl_of r]; unfold toPd; exact .bl b
  | .int i, _, _, r => by rw [int_of r]; unfold toPd; exact .int i
  | .str s, _, _, r => by rw [str_of r]; unfold toPd; exact .str s
  | .tup ds, _, p, r => by
    obtain ⟨a, xs, rfl, h, rs⟩ := tup_of r
    unfold toPd
    unfold plain at p
    exact .tup h (dps_of p rs)
  | .lst ds, _, p, r => by
    obtain ⟨a, xs, rfl, _, h, rs⟩ := lst_of r
    unfold toPd
    unfold plain at p
    exact .lst (.inl (.inl h)) (dps_of p rs)
  | .ins C ns ds, _, p, r => by unfold plain at p; cases p
  | .dK ks ds, _, p, r => by unfold plain at p; cases p
  | .dT ks ds, _, p, r => by unfold plain at p; cases p
  | .val v, _, p, r => by unfold plain at p; cases p
  | .fn _ _ _ _ _, _, p, r => by unfold plain at p; cases p
  | .scr _, _, p, r => by unfold plain at p; cases p
  | .exc _ _ _ _, _, p, r => by unfold plain at p; cases p
theorem dps_of : ∀ {ds : List D} {vs : List V}, plains ds = true → Reps K M H ds vs → DpAll K H vs (toPds ds)
  | [], _, _, r => by rw [nil_of r]; unfold toPds; exact .nil
  | d :: ds, _, p, r => by
    obtain ⟨v, vs, rfl, r1, r2⟩ := cons_of r
    unfold toPds
    unfold plains at p
    rw [Bool.and_eq_true] at p
    exact .cons (dp_of p.1 r1) (dps_of p.2 r2)
end
end
def eqD (x y : D) : Bool := PyData.eqv (toPd x) (toPd y)
/-- data that may be compared as data -/
def okEq (x : D) : Bool := plain x && SeqAt.shaped (toPd x)
def oAdd : D → D → W D
  | .int i, .int j => fun S post _ => post (.int (i + j)) S
  | .int i, .bl j => fun S post _ => post (.int (i + b2i j)) S
  | .str a, .str b => fun S post _ => a.length + b.length ≤ sizeLine ∧ post (.str (a ++ b)) S
  | .tup a, .tup b => fun S post _ => a.length + b.length ≤ 1000 ∧ post (.tup (a ++ b)) S
  | .lst a, .lst b => fun S post _ => a.length + b.length ≤ 1000 ∧ post (.lst (a ++ b)) S
  | _, _ => fun _ _ _ => False
def oSub : D → D → W D
  | .int i, .int j => fun S post _ => post (.int (i - j)) S
  | _, _ => fun _ _ _ => False
def oMul : D → D → W D
  | .int i, .int j => fun S post _ => CMulW i j ∧ post (.int (i * j)) S
  | _, _ => fun _ _ _ => False
def oDiv : D → D → W D
  | .int i, .int j => fun S post _ => Px.CDivU i j ∧ post (.int (i.fdiv j)) S
  | _, _ => fun _ _ _ => False
def oMod : D → D → W D
  | .int i, .int j => fun S post _ => j ≠ 0 ∧ post (.int (i.fmod j)) S
  | _, _ => fun _ _ _ => False
def oPow : D → D → W D
  | .int i, .int j => fun S post _ => CPow i j ∧ post (.int (i ^ j.toNat)) S
  | _, _ => fun _ _ _ => False
def oNeg : D → W D
  | .int i => fun S post _ => post (.int (-i)) S
  | _ => fun _ _ _ => False
def oEq (x y : D) : W D := fun S post _ => okEq x = true ∧ okEq y = true ∧ post (.bl (eqD x y)) S
def oNe (x y : D) : W D := fun S post _ => okEq x = true ∧ okEq y = true ∧ post (.bl (!eqD x y)) S
def strLt (a b : Str) : Bool := decide (a.cps.toList < b.cps.toList)
def oLt : D → D → W D
  | .int i, .int j => fun S post _ => post (.bl (decide (i < j))) S
  | .str i, .str j => fun S post _ => post (.bl (strLt i j)) S
  | _, _ => fun _ _ _ => False
def oGt : D → D → W D
  | .int i, .int j => fun S post _ => post (.bl (decide (j < i))) S
  | .str i, .str j => fun S post _ => post (.bl (strLt j i)) S
  | _, _ => fun _ _ _ => False
def isNon : D → Bool
  | .non => true
  | _ => false
/-- is None -/
def oIs : D → D → W D
  | x, .non => fun S post _ => (∀ v, x ≠ .val v) ∧ post (.bl (isNon x)) S
  | _, _ => fun _ _ _ => False
/-- an item by its place -/
def oIx : D → D → W D
  | .tup xs, .int i => fun S post _ => ∃ d, atI xs i = some d ∧ post d S
  | .lst xs, .int i => fun S post _ => ∃ d, atI xs i = some d ∧ post d S
  | .str z, .int i => fun S post _ => z.length ≤ sizeLine ∧ ∃ c, atI z.cps.toList i = some c ∧ post (.str ⟨#[c]⟩) S
  | .val (.ref a), .int i => fun S post _ => ∃ xs, S a = some (.lst xs) ∧ ∃ d, atI xs i = some d ∧ post d S
  | _, _ => fun _ _ _ => False
section
variable {X : Cx} {K : PySem.W.Frag} {T : Gx} {E : XK}
theorem at_rep {M : Addr → Prop} {H : Hp} {ds : List D} {xs : List V} {i : Int} {d : D} (r : Reps K M H ds xs) (h : atI ds i = some d) : ∃ v, atI xs i = some v ∧ Rep K M H d v := by
  unfold atI at *
  rw [r.len]
  cases q : ixN ds.length i with
  | none => rw [q] at h; cases h
  | some j =>
    rw [q] at h
    exact r.at h
theorem or_add : OpR X (binaryOp .Add) (rD2 X.K T E oAdd) := by
  rintro pins s σ H v w u1 u2 Q I ra rb ⟨x, y, S, post, xp, rx, ry, k, h, q, xx⟩
  unfold oAdd at h
  split at h
  · rename_i i j
    exact op_add pins s σ H _ _ _ _ Q I ra rb ⟨i, j, int_of rx, int_of ry, q.now k h (rint _)⟩
  · rename_i i j
    exact op_add_ib pins s σ H _ _ _ _ Q I ra rb ⟨i, j, int_of rx, bl_of ry, q.now k h (rint _)⟩
  · rename_i a b
    exact op_add_str pins s σ H _ _ _ _ Q I ra rb ⟨a, b, str_of rx, str_of ry, h.1, q.now k h.2 (rstr _)⟩
  · rename_i a b
    obtain ⟨hl, h⟩ := h
    obtain ⟨ad, xs, rfl, sq, rs⟩ := tup_of rx
    obtain ⟨bd, ys, rfl, sq', rs'⟩ := tup_of ry
    have l1 := rs.len
    have l2 := rs'.len
    refine op_catA pins s σ H _ _ _ _ Q I ra rb ⟨ad, bd, xs, ys, rfl, rfl, sq, sq', Nat.le_trans (by omega : xs.length + ys.length ≤ 1000) (by decide), fun e => ?_, fun _ e => ?_, fun _ _ p hp => ?_⟩
    · subst e
      have : a = [] := by cases a with
        | nil => rfl
        | cons _ _ => simp at l1
      subst this
      exact q.now k h ry
    · subst e
      have : b = [] := by cases b with
        | nil => rfl
        | cons _ _ => simp at l2
      subst this
      rw [List.append_nil] at h
      exact q.now k h rx
    · exact q _ _ _ _ h (rtup upd_same ((rs.app rs').step k (step_new hp))) (k.laid hp) (step_new hp)
  · rename_i a b
    obtain ⟨hl, h⟩ := h
    obtain ⟨ad, xs, rfl, _, sq, rs⟩ := lst_of rx
    obtain ⟨bd, ys, rfl, _, sq', rs'⟩ := lst_of ry
    have l1 := rs.len
    have l2 := rs'.len
    exact op_cat pins s σ H _ _ _ _ Q I ra rb ⟨ad, bd, xs, ys, rfl, rfl, sq, sq', Nat.le_trans (by omega : xs.length + ys.length ≤ 1000) (by decide), fun p hp => q _ _ _ _ h (rlst (k.new hp) upd_same ((rs.app rs').step k (step_new hp))) (k.laid hp) (step_new hp)⟩
  · exact h.elim
theorem or_sub : OpR X (binaryOp .Sub) (rD2 X.K T E oSub) := by
  rintro pins s σ H v w u1 u2 Q I ra rb ⟨x, y, S, post, xp, rx, ry, k, h, q, xx⟩
  unfold oSub at h
  split at h
  · rename_i i j
    exact op_sub pins s σ H _ _ _ _ Q I ra rb ⟨i, j, int_of rx, int_of ry, q.now k h (rint _)⟩
  · exact h.elim
theorem or_mul : OpR X (binaryOp .Mult) (rD2 X.K T E oMul) := by
  rintro pins s σ H v w u1 u2 Q I ra rb ⟨x, y, S, post, xp, rx, ry, k, h, q, xx⟩
  unfold oMul at h
  split at h
  · rename_i i j
    exact op_mulW pins s σ H _ _ _ _ Q I ra rb ⟨i, j, int_of rx, int_of ry, h.1, q.now k h.2 (rint _)⟩
  · exact h.elim
theorem or_div : OpR X (binaryOp .FloorDiv) (rD2 X.K T E oDiv) := by
  rintro pins s σ H v w u1 u2 Q I ra rb ⟨x, y, S, post, xp, rx, ry, k, h, q, xx⟩
  unfold oDiv at h
  split at h
  · rename_i i j
    exact Px.op_fdivU pins s σ H _ _ _ _ Q I ra rb ⟨i, j, int_of rx, int_of ry, h.1, q.now k h.2 (rint _)⟩
  · exact h.elim
theorem or_mod : OpR X (binaryOp .Mod) (rD2 X.K T E oMod) := by
  rintro pins s σ H v w u1 u2 Q I ra rb ⟨x, y, S, post, xp, rx, ry, k, h, q, xx⟩
  unfold oMod at h
  split at h
  · rename_i i j
    exact op_modN pins s σ H _ _ _ _ Q I ra rb ⟨i, j, int_of rx, int_of ry, h.1, q.now k h.2 (rint _)⟩
  · exact h.elim
theorem or_pow : OpR X (binaryOp .Pow) (rD2 X.K T E oPow) := by
  rintro pins s σ H v w u1 u2 Q I ra rb ⟨x, y, S, post, xp, rx, ry, k, h, q, xx⟩
  unfold oPow at h
  split at h
  · rename_i i j
    exact op_pow pins s σ H _ _ _ _ Q I ra rb ⟨i, j, int_of rx, int_of ry, h.1, q.now k h.2 (rint _)⟩
  · exact h.elim
theorem or_neg : UnR X (unaryOp .USub) (rD1 X.K T E oNeg) := by
  rintro pins s σ H v u Q I ra ⟨x, S, post, xp, rx, k, h, q, xx⟩
  unfold oNeg at h
  split at h
  · rename_i i
    exact un_neg pins s σ H _ _ Q I ra ⟨i, int_of rx, q.now k h (rint _)⟩
  · exact h.elim
theorem or_eq (hu : X.A.units + 64 < cLine) : OpR X (compareOp .Eq) (rD2 X.K T E oEq) := by
  rintro pins s σ H v w u1 u2 Q I ra rb ⟨x, y, S, post, xp, rx, ry, k, ⟨hx, hy, h⟩, q, xx⟩
  unfold okEq at hx hy
  rw [Bool.and_eq_true] at hx hy
  exact op_eqD hu pins s σ H _ _ _ _ Q I ra rb ⟨_, _, dp_of hx.1 rx, dp_of hy.1 ry, hx.2, hy.2, q.now k h (rbl _)⟩
theorem or_ne (hu : X.A.units + 64 < cLine) : OpR X (compareOp .NotEq) (rD2 X.K T E oNe) := by
  rintro pins s σ H v w u1 u2 Q I ra rb ⟨x, y, S, post, xp, rx, ry, k, ⟨hx, hy, h⟩, q, xx⟩
  unfold okEq at hx hy
  rw [Bool.and_eq_true] at hx hy
  exact op_neD hu pins s σ H _ _ _ _ Q I ra rb ⟨_, _, dp_of hx.1 rx, dp_of hy.1 ry, hx.2, hy.2, q.now k h (rbl _)⟩
theorem or_lt : OpR X (compareOp .Lt) (rD2 X.K T E oLt) := by
  rintro pins s σ H v w u1 u2 Q I ra rb ⟨x, y, S, post, xp, rx, ry, k, h, q, xx⟩
  unfold oLt at h
  split at h
  · rename_i i j
    exact op_lt pins s σ H _ _ _ _ Q I ra rb ⟨i, j, int_of rx, int_of ry, q.now k h (rbl _)⟩
  · rename_i i j
    exact op_lt_str pins s σ H _ _ _ _ Q I ra rb ⟨i, j, str_of rx, str_of ry, q.now k h (rbl _)⟩
  · exact h.elim
theorem or_gt : OpR X (compareOp .Gt) (rD2 X.K T E oGt) := by
  rintro pins s σ H v w u1 u2 Q I ra rb ⟨x, y, S, post, xp, rx, ry, k, h, q, xx⟩
  unfold oGt at h
  split at h
  · rename_i i j
    exact op_gt pins s σ H _ _ _ _ Q I ra rb ⟨i, j, int_of rx, int_of ry, q.now k h (rbl _)⟩
  · rename_i i j
    exact op_gt_str pins s σ H _ _ _ _ Q I ra rb ⟨i, j, str_of rx, str_of ry, q.now k h (rbl _)⟩
  · exact h.elim
theorem is_non {M : Addr → Prop} {H : Hp} {d : D} {v : V} (r : Rep K M H d v) (n : ∀ w, d ≠ .val w) : decide (v = .non) = isNon d := by
  cases d with
  | non => have e := non_of r; subst e; rfl
  | bl b => have e := bl_of r; subst e; rfl
  | int i => have e := int_of r; subst e; rfl
  | str s => have e := str_of r; subst e; rfl
  | tup ds => obtain ⟨a, xs, rfl, _⟩ := tup_of r; rfl
  | lst ds => obtain ⟨a, xs, rfl, _⟩ := lst_of r; rfl
  | ins C ns ds => obtain ⟨a, dx, fs, rfl, _⟩ := ins_of r; rfl
  | dK ks ds => obtain ⟨a, dx, rfl, _⟩ := dK_of r; rfl
  | dT ks ds => obtain ⟨a, o, dx, rfl, _⟩ := dT_of r; rfl
  | val w => exact absurd rfl (n w)
  | fn f c q σ ρ => obtain ⟨rfl, _⟩ := fn_of r; rfl
  | scr ns => obtain ⟨a, rfl, _⟩ := scr_of r; rfl
  | exc a C ns ds => obtain ⟨rfl, _⟩ := exc_of r; rfl
theorem or_is : OpR X (compareOp .Is) (rD2 X.K T E oIs) := by
  rintro pins s σ H v w u1 u2 Q I ra rb ⟨x, y, S, post, xp, rx, ry, k, h, q, xx⟩
  unfold oIs at h
  split at h
  · exact op_isN pins s σ H _ _ _ _ Q I ra rb ⟨non_of ry, by rw [is_non rx h.1]; exact q.now k h.2 (rbl _)⟩
  · exact h.elim
theorem or_ix : IxR X (rD2 X.K T E oIx) := by
  rintro value slice pins s σ H v w u1 u2 Q I ra rb ⟨x, y, S, post, xp, rx, ry, k, h, q, xx⟩ hs
  unfold oIx at h
  split at h
  · rename_i xs i
    obtain ⟨d, e, h⟩ := h
    obtain ⟨ad, vs, rfl, sq, rs⟩ := tup_of rx
    obtain ⟨z, e1, r1⟩ := at_rep rs e
    exact ix_tup value slice pins s σ H _ _ _ _ Q I ra rb ⟨ad, vs, i, z, rfl, int_of ry, sq, e1, q.now k h r1⟩ hs
  · rename_i xs i
    obtain ⟨d, e, h⟩ := h
    obtain ⟨ad, vs, rfl, _, sq, rs⟩ := lst_of rx
    obtain ⟨z, e1, r1⟩ := at_rep rs e
    exact ix_list value slice pins s σ H _ _ _ _ Q I ra rb ⟨ad, vs, i, z, rfl, int_of ry, .inl (.inl sq), e1, q.now k h r1⟩ hs
  · rename_i z i
    obtain ⟨hl, c, e, h⟩ := h
    exact ix_str value slice pins s σ H _ _ _ _ Q I ra rb ⟨z, i, c, str_of rx, int_of ry, hl, e, q.now k h (rstr _)⟩ hs
  · rename_i a i
    obtain ⟨xs, ea, d, e, h⟩ := h
    obtain rfl := val_of rx
    obtain ⟨vs, sq, rs⟩ := k.cel a _ ea
    obtain ⟨z, e1, r1⟩ := at_rep rs e
    exact ix_list value slice pins s σ H _ _ _ _ Q I ra rb ⟨a, vs, i, z, rfl, int_of ry, .inl (.inl sq), e1, q.now k h r1⟩ hs
  · exact h.elim
end
end Dw
namespace Dw
open PySem PySem.Spec PyProof.Rows L2
section
variable {X : Cx} {T : Gx} {E : XK} {a b : Expr} {es : List Expr} {pos p apos : Pos} {fs : List DE} {x : Str} {g : List D → W D} {id : String}
theorem de_callB (hc : CallR X (.builtin id) (rDs X.K T E g)) (hm : X.mg x = none) (ha : PA X (a :: es) (tA X.K T E (dArgs fs))) (hg : Gl X x := by rfl) (hv : bootBuiltins x = some (.builtin id) := by decide +kernel) (hn : x ≠ "__name__" := by decide) (hdb : (x == ("__debug__" : Str)) = false := by decide)
    (he : starEach (a :: es) X.env = (false, eval a X.env) :: starEach es X.env := by rfl) (hpl : (backTo pos (starEach es X.env)).any (·.1) = false := by rfl) : PE X (.Call (.Name x p) (a :: es) [] pos) (tE X.K T E (dCall g fs)) :=
  pe_imp (pe_callB hc hg hm hv ha hn hdb he hpl) fun σ H Q h => app_conv h
theorem de_callTy (hc : CallR X (.type id) (rDs X.K T E g)) (hm : X.mg x = none) (ha : PA X (a :: es) (tA X.K T E (dArgs fs))) (hg : Gl X x := by rfl) (hv : bootBuiltins x = some (.type id) := by decide +kernel) (hn : x ≠ "__name__" := by decide) (hdb : (x == ("__debug__" : Str)) = false := by decide)
    (he : starEach (a :: es) X.env = (false, eval a X.env) :: starEach es X.env := by rfl) (hpl : (backTo pos (starEach es X.env)).any (·.1) = false := by rfl) : PE X (.Call (.Name x p) (a :: es) [] pos) (tE X.K T E (dCall g fs)) :=
  pe_imp (pe_callTy hc hg hm hv ha hn hdb he hpl) fun σ H Q h => app_conv h
theorem de_callFun (hc : CallR X (.builtin id) (rDs X.K T E g)) (hm : X.mg x = some (.builtin id)) (ha : PA X (a :: es) (tA X.K T E (dArgs fs))) (hg : Gl X x := by rfl) (hdb : (x == ("__debug__" : Str)) = false := by decide)
    (he : starEach (a :: es) X.env = (false, eval a X.env) :: starEach es X.env := by rfl) (hpl : (backTo pos (starEach es X.env)).any (·.1) = false := by rfl) : PE X (.Call (.Name x p) (a :: es) [] pos) (tE X.K T E (dCall g fs)) :=
  pe_imp (pe_callBfun hc hg hm ha hdb he hpl) fun σ H Q h => app_conv h
theorem de_glob {v : V} {d : D} {u : Value} (hm : X.mg x = some u) (rv : L2.RelV v u) (r : ∀ M H, Rep X.K M H d v) (hg : Gl X x := by rfl) (hd : (x == ("__debug__" : Str)) = false := by decide) : PE X (.Name x pos) (tE X.K T E (dPure d)) := de_c (pe_glob hg hm rv hd) r
theorem de_bltn {v : V} {u : Value} (hm : X.mg x = none) (hv : bootBuiltins x = some u := by decide +kernel) (rv : L2.RelV v u := by rfl) (hg : Gl X x := by rfl) (hn : x ≠ "__name__" := by decide) (hd : (x == ("__debug__" : Str)) = false := by decide) : PE X (.Name x pos) (tE X.K T E (dPure (.val v))) := de_c (pe_bltn hg hm hv rv hn hd) fun _ _ => rval _
end
def lenD (S : Sto) : D → Option Nat
  | .tup xs => some xs.length
  | .lst xs => some xs.length
  | .val (.ref a) => (match S a with
    | some (.lst xs) => some xs.length
    | _ => none)
  | _ => none
def gLen : List D → W D
  | [.str z] => fun S post _ => z.length ≤ sizeLine ∧ post (.int z.length) S
  | [x] => fun S post _ => ∃ n, lenD S x = some n ∧ post (.int (n : Nat)) S
  | _ => fun _ _ _ => False
def gAbs : List D → W D
  | [.int i] => fun S post _ => post (.int (i.natAbs : Nat)) S
  | _ => fun _ _ _ => False
def gInt : List D → W D
  | [.int i] => fun S post _ => post (.int i) S
  | [.bl b] => fun S post _ => post (.int (b2i b)) S
  | _ => fun _ _ _ => False
def gGcd : List D → W D
  | [.int a, .int b] => fun S post _ => post (.int ((Nat.gcd a.natAbs b.natAbs : Nat) : Int)) S
  | _ => fun _ _ _ => False
def gAll : List D → W D
  | [.lst xs] => fun S post _ => ∃ bs : List Bool, xs = bs.map .bl ∧ post (.bl (bs.all id)) S
  | _ => fun _ _ _ => False
def gTuple : List D → W D
  | [.lst xs] => fun S post _ => post (.tup xs) S
  | [.tup xs] => fun S post _ => post (.tup xs) S
  | [.val (.ref a)] => fun S post _ => ∃ xs, S a = some (.lst xs) ∧ post (.tup xs) S
  | _ => fun _ _ _ => False
def gList : List D → W D
  | [.lst xs] => fun S post _ => post (.lst xs) S
  | [.tup xs] => fun S post _ => post (.lst xs) S
  | [.val (.ref a)] => fun S post _ => ∃ xs, S a = some (.lst xs) ∧ post (.lst xs) S
  | _ => fun _ _ _ => False
section
variable {X : Cx} {K : PySem.W.Frag} {T : Gx} {E : XK}
theorem lenV_of {S : Sto} {H : Hp} {d : D} {v : V} {n : Nat} (k : Ok K T S H) (r : Rep K (Mu T S) H d v) (h : lenD S d = some n) : LenV K v H n := by
  unfold lenD at h
  split at h
  · obtain ⟨a, vs, rfl, sq, rs⟩ := tup_of r
    cases h
    exact .inr ⟨vs, sq, rs.len.symm⟩
  · obtain ⟨a, vs, rfl, _, sq, rs⟩ := lst_of r
    cases h
    exact .inl ⟨vs, .inl (.inl sq), rs.len.symm⟩
  · rename_i a
    obtain rfl := val_of r
    split at h
    · rename_i xs e
      cases h
      obtain ⟨vs, sq, rs⟩ := k.cel a _ e
      exact .inl ⟨vs, .inl (.inl sq), rs.len.symm⟩
    · cases h
  · cases h
theorem one_of {M : Addr → Prop} {H : Hp} {d : D} {vs : List V} (r : Reps K M H [d] vs) : ∃ v, vs = [v] ∧ Rep K M H d v := by
  obtain ⟨v, r', rfl, r1, r2⟩ := cons_of r
  rw [nil_of r2]
  exact ⟨v, rfl, r1⟩
theorem two_of {M : Addr → Prop} {H : Hp} {d e : D} {vs : List V} (r : Reps K M H [d, e] vs) : ∃ v w, vs = [v, w] ∧ Rep K M H d v ∧ Rep K M H e w := by
  obtain ⟨v, r', rfl, r1, r2⟩ := cons_of r
  obtain ⟨w, rfl, r3⟩ := one_of r2
  exact ⟨v, w, rfl, r1, r3⟩
theorem cb_len : CallR X (.builtin "len") (rDs X.K T E gLen) := by
  rintro pins s σ H vs us Q I ra ⟨ds, S, post, xp, r, k, h, q, x⟩
  unfold gLen at h
  split at h
  · rename_i z
    obtain ⟨v, rfl, r1⟩ := one_of r
    exact call_len pins s σ H _ _ Q I ra ⟨_, _, rfl, by rw [str_of r1]; exact ⟨h.1, rfl⟩, q.now k h.2 (rint _)⟩
  · rename_i d _
    obtain ⟨v, rfl, r1⟩ := one_of r
    obtain ⟨n, e, h⟩ := h
    exact call_len pins s σ H _ _ Q I ra ⟨_, _, rfl, lenV_of k r1 e, q.now k h (rint _)⟩
  · exact h.elim
theorem cb_abs : CallR X (.builtin "abs") (rDs X.K T E gAbs) := by
  rintro pins s σ H vs us Q I ra ⟨ds, S, post, xp, r, k, h, q, x⟩
  unfold gAbs at h
  split at h
  · rename_i i
    obtain ⟨v, rfl, r1⟩ := one_of r
    exact call_abs pins s σ H _ _ Q I ra ⟨i, by rw [int_of r1], by rw [Px.abs_eq]; exact q.now k h (rint _)⟩
  · exact h.elim
theorem cb_int : CallR X (.type "int") (rDs X.K T E gInt) := by
  rintro pins s σ H vs us Q I ra ⟨ds, S, post, xp, r, k, h, q, x⟩
  unfold gInt at h
  split at h
  · rename_i i
    obtain ⟨v, rfl, r1⟩ := one_of r
    exact call_int1 pins s σ H _ _ Q I ra (.inl ⟨i, by rw [int_of r1], q.now k h (rint _)⟩)
  · rename_i b
    obtain ⟨v, rfl, r1⟩ := one_of r
    exact call_int1 pins s σ H _ _ Q I ra (.inr ⟨b, by rw [bl_of r1], by
      have z := q.now k h (rint _)
      cases b <;> exact z⟩)
  · exact h.elim
theorem cb_gcd : CallR X (.builtin "math.gcd") (rDs X.K T E gGcd) := by
  rintro pins s σ H vs us Q I ra ⟨ds, S, post, xp, r, k, h, q, x⟩
  unfold gGcd at h
  split at h
  · rename_i i j
    obtain ⟨v, w, rfl, r1, r2⟩ := two_of r
    exact cr_gcd pins s σ H _ _ Q I ra ⟨i, j, by rw [int_of r1, int_of r2], q.now k h (rint _)⟩
  · exact h.elim
theorem reps_bl {M : Addr → Prop} {H : Hp} : ∀ {bs : List Bool} {xs : List V}, Reps K M H (bs.map .bl) xs → xs = bs.map .bl
  | [], _, r => nil_of r
  | b :: bs, xs, r => by
    obtain ⟨w, ws, rfl, r1, r2⟩ := cons_of (ds := bs.map .bl) (d := .bl b) r
    rw [bl_of r1, reps_bl r2]
    rfl
theorem reps_int {M : Addr → Prop} {H : Hp} : ∀ {bs : List Int} {xs : List V}, Reps K M H (bs.map .int) xs → xs = bs.map .int
  | [], _, r => nil_of r
  | b :: bs, xs, r => by
    obtain ⟨w, ws, rfl, r1, r2⟩ := cons_of (ds := bs.map .int) (d := .int b) r
    rw [int_of r1, reps_int r2]
    rfl
theorem cb_all (hc : X.calm = true) : CallR X (.builtin "all") (rDs X.K T E gAll) := by
  rintro pins s σ H vs us Q I ra ⟨ds, S, post, xp, r, k, h, q, x⟩
  unfold gAll at h
  split at h
  · obtain ⟨v, rfl, r1⟩ := one_of r
    obtain ⟨bs, rfl, h⟩ := h
    obtain ⟨a, vs, rfl, _, sq, rs⟩ := lst_of r1
    rw [reps_bl rs] at sq
    exact cr_all hc pins s σ H _ _ Q I ra ⟨a, bs, rfl, .inl (.inl sq), q.now k h (rbl _)⟩
  · exact h.elim
theorem cb_tuple : CallR X (.type "tuple") (rDs X.K T E gTuple) := by
  rintro pins s σ H vs us Q I ra ⟨ds, S, post, xp, r, k, h, q, x⟩
  unfold gTuple at h
  split at h
  · obtain ⟨v, rfl, r1⟩ := one_of r
    obtain ⟨a, vs, rfl, _, sq, rs⟩ := lst_of r1
    exact call_tuple_of pins s σ H _ _ Q I ra ⟨a, vs, rfl, .inl ⟨.inl (.inl sq), fun l hl => q _ _ _ _ h (rtup upd_same (rs.step k (step_new hl))) (k.laid hl) (step_new hl)⟩⟩
  · obtain ⟨v, rfl, r1⟩ := one_of r
    obtain ⟨a, vs, rfl, sq, rs⟩ := tup_of r1
    exact call_tuple_of pins s σ H _ _ Q I ra ⟨a, vs, rfl, .inr ⟨sq, q.now k h r1⟩⟩
  · rename_i a
    obtain ⟨v, rfl, r1⟩ := one_of r
    obtain rfl := val_of r1
    obtain ⟨xs, e, h⟩ := h
    obtain ⟨vs, sq, rs⟩ := k.cel a _ e
    exact call_tuple_of pins s σ H _ _ Q I ra ⟨a, vs, rfl, .inl ⟨.inl (.inl sq), fun l hl => q _ _ _ _ h (rtup upd_same (rs.step k (step_new hl))) (k.laid hl) (step_new hl)⟩⟩
  · exact h.elim
theorem cb_list : CallR X (.type "list") (rDs X.K T E gList) := by
  rintro pins s σ H vs us Q I ra ⟨ds, S, post, xp, r, k, h, q, x⟩
  unfold gList at h
  split at h
  · obtain ⟨v, rfl, r1⟩ := one_of r
    obtain ⟨a, vs, rfl, _, sq, rs⟩ := lst_of r1
    exact call_list_of pins s σ H _ _ Q I ra ⟨a, vs, rfl, .inl (.inl (.inl sq)), fun l hl => q _ _ _ _ h (rlst (k.new hl) upd_same (rs.step k (step_new hl))) (k.laid hl) (step_new hl)⟩
  · obtain ⟨v, rfl, r1⟩ := one_of r
    obtain ⟨a, vs, rfl, sq, rs⟩ := tup_of r1
    exact call_list_of pins s σ H _ _ Q I ra ⟨a, vs, rfl, .inr sq, fun l hl => q _ _ _ _ h (rlst (k.new hl) upd_same (rs.step k (step_new hl))) (k.laid hl) (step_new hl)⟩
  · rename_i a
    obtain ⟨v, rfl, r1⟩ := one_of r
    obtain rfl := val_of r1
    obtain ⟨xs, e, h⟩ := h
    obtain ⟨vs, sq, rs⟩ := k.cel a _ e
    exact call_list_of pins s σ H _ _ Q I ra ⟨a, vs, rfl, .inl (.inl (.inl sq)), fun l hl => q _ _ _ _ h (rlst (k.new hl) upd_same (rs.step k (step_new hl))) (k.laid hl) (step_new hl)⟩
  · exact h.elim
end
inductive Ty where
  | B (n : String)
  | C (a : Addr)
def Ty.v : Ty → V
  | .B n => .ty n
  | .C a => .ref a
def Ty.val : Ty → Value
  | .B n => .type n
  | .C a => .ref a
def tyM : MC → Option Ty
  | .lst _ => some (.B "list")
  | .ins C _ _ => some (.C C)
  | .dK _ _ => some (.B "dict")
  | .dT _ _ => some (.B "dict")
  | .bag _ _ => some (.B "list")
def tyD (S : Sto) : D → Option Ty
  | .non => some (.B "NoneType")
  | .bl _ => some (.B "bool")
  | .int _ => some (.B "int")
  | .str _ => some (.B "str")
  | .tup _ => some (.B "tuple")
  | .lst _ => some (.B "list")
  | .ins C _ _ => some (.C C)
  | .dK _ _ => some (.B "dict")
  | .val (.ref a) => (S a).bind tyM
  | _ => none
def tyNames : List String := ["NoneType", "bool", "int", "str", "tuple", "list", "dict"]
/-- what is known of own classes -/
structure IsiK (K : PySem.W.Frag) (cs : List Addr) : Prop where
  isi : ∀ c ∈ cs, Px.IsiC K c
  own : ∀ c ∈ cs, ∀ c' ∈ cs, c ≠ c' → PySem.W.kitOne K (.ref c) (.ref c') = some false
  ty : ∀ c ∈ cs, ∀ n ∈ tyNames, PySem.W.kitOne K (.type n) (.ref c) = some false
  to : ∀ c ∈ cs, ∀ n ∈ tyNames, PySem.W.kitOne K (.ref c) (.type n) = some false
def isT (cs : List Addr) : Ty → Ty → Bool → Prop
  | .B n, .B m, b => kitB n m = some b
  | .B n, .C c, b => n ∈ tyNames ∧ c ∈ cs ∧ b = false
  | .C c, .B m, b => m ∈ tyNames ∧ c ∈ cs ∧ b = false
  | .C c, .C c', b => c ∈ cs ∧ c' ∈ cs ∧ ((c = c' ∧ b = true) ∨ (c ≠ c' ∧ b = false))
def gIsi (cs : List Addr) : List D → W D
  | [x, .val (.ty n)] => fun S post _ => ∃ t b, tyD S x = some t ∧ (∀ C, t = .C C → C ∈ cs) ∧ isT cs t (.B n) b ∧ post (.bl b) S
  | [x, .val (.ref c)] => fun S post _ => ∃ t b, tyD S x = some t ∧ (∀ C, t = .C C → C ∈ cs) ∧ isT cs t (.C c) b ∧ post (.bl b) S
  | _ => fun _ _ _ => False
section
variable {X : Cx} {K : PySem.W.Frag} {T : Gx} {E : XK}
theorem tyx_ins {H : Hp} {a C dx : Addr} {fs : List (Str × V)} (i : Px.IsiC K C) (h : H a = some (.ins C dx fs)) : TyX K H (.ref a) (.ref C) := .base (.ins h i.cl i.ha i.hn i.htk i.hm)
theorem tyx_of {S : Sto} {H : Hp} {d : D} {v : V} {t : Ty} (k : Ok K T S H) (r : Rep K (Mu T S) H d v) (h : tyD S d = some t) (hC : ∀ C, t = .C C → Px.IsiC K C) : TyX K H v t.val := by
  unfold tyD at h
  split at h
  · cases h; rw [non_of r]; exact .base .non
  · cases h; rw [bl_of r]; exact .base (.bl _)
  · cases h; rw [int_of r]; exact .base (.int _)
  · cases h; rw [str_of r]; exact .base (.str _)
  · cases h
    obtain ⟨a, xs, rfl, h, _⟩ := tup_of r
    rcases h with (h | ⟨o, h⟩) | ⟨o, its, n, h1, h2, _⟩
    · exact .base (.tup h)
    · exact .fTuple h
    · exact .kTuple h1 h2
  · cases h
    obtain ⟨a, xs, rfl, _, h, _⟩ := lst_of r
    exact .base (.lst h)
  · cases h
    obtain ⟨a, dx, fs, rfl, _, h, _⟩ := ins_of r
    exact tyx_ins (hC _ rfl) h
  · cases h
    obtain ⟨a, kvs, rfl, _, h, _⟩ := dK_of r
    rcases h with h | ⟨o, h⟩
    · exact .base (.dK h)
    · exact .fDict h
  · rename_i a
    obtain rfl := val_of r
    cases e : S a with
    | none => rw [e] at h; cases h
    | some m =>
      rw [e] at h
      have c := k.cel a m e
      cases m with
      | lst ds => cases h; obtain ⟨xs, e1, _⟩ := c; exact .base (.lst e1)
      | ins C ns ds => cases h; obtain ⟨dx, fs, e1, _⟩ := c; exact tyx_ins (hC _ rfl) e1
      | dK ks ds => cases h; obtain ⟨kvs, e1, _⟩ := c; exact .base (.dK e1)
      | dT ks ds => cases h; obtain ⟨kvs, e1, _⟩ := c; exact .base (.dT e1)
      | bag c ns => cases h; obtain ⟨i, x, y, z, e1, _⟩ := c; exact .base (.lst e1)
  · cases h
theorem kit_of {cs : List Addr} (i : IsiK K cs) {t u : Ty} {b : Bool} (h : isT cs t u b) : PySem.W.kitOne K t.val u.val = some b := by
  cases t with
  | B n => cases u with
    | B m => exact kit_ty h
    | C c => obtain ⟨h1, h2, rfl⟩ := h; exact i.ty c h2 n h1
  | C c => cases u with
    | B m => obtain ⟨h1, h2, rfl⟩ := h; exact i.to c h2 m h1
    | C c' =>
      obtain ⟨h1, h2, h⟩ := h
      rcases h with ⟨rfl, rfl⟩ | ⟨n, rfl⟩
      · exact (i.isi c h1).kit
      · exact i.own c h1 c' h2 n
theorem cb_isi {cs : List Addr} (i : IsiK X.K cs) : CallR X (.builtin "isinstance") (rDs X.K T E (gIsi cs)) := by
  rintro pins s σ H vs us Q I ra ⟨ds, S, post, xp, r, k, h, q, x⟩
  unfold gIsi at h
  split at h
  · rename_i d n
    obtain ⟨v, w, rfl, r1, r2⟩ := two_of r
    obtain rfl := val_of r2
    obtain ⟨t, b, e1, e2, e3, h⟩ := h
    exact call_isi pins s σ H _ _ Q I ra ⟨v, .ty n, _, _, b, rfl, .ty n, tyx_of k r1 e1 fun C hC => i.isi C (e2 C hC), kit_of i e3, q.now k h (rbl _)⟩
  · rename_i d c
    obtain ⟨v, w, rfl, r1, r2⟩ := two_of r
    obtain rfl := val_of r2
    obtain ⟨t, b, e1, e2, e3, h⟩ := h
    exact call_isi pins s σ H _ _ Q I ra ⟨v, .ref c, _, _, b, rfl, .own c, tyx_of k r1 e1 fun C hC => i.isi C (e2 C hC), kit_of i e3, q.now k h (rbl _)⟩
  · exact h.elim
/-- isinstance(x, (t, u)): the tuple is laid by the call -/
def dIsi2 (cs : List Addr) (t u : Ty) (e : DE) : DE := fun ρ S post xp => e ρ S (fun d S1 => ∃ y b c, tyD S1 d = some y ∧ (∀ C, y = .C C → C ∈ cs) ∧ isT cs y t b ∧ isT cs y u c ∧ post (.bl (b || c)) S1) xp
theorem clsv (t : Ty) : ClsV t.v t.val := by
  cases t with
  | B n => exact .ty n
  | C a => exact .own a
theorem de_isi2 {cs : List Addr} {t u : Ty} {e : DE} {a : Expr} (i : IsiK X.K cs) (hp : PE X a (tCB (rIsiT X.K) (tCons (tE X.K T E e) (tCons (tTup (tCons (tC t.v) (tCons (tC u.v) tNil))) tNil)))) : PE X a (tE X.K T E (dIsi2 cs t u e)) := pe_imp hp (by
  rintro σ H Q ⟨ρ, S, post, xp, rl, k, h, q, x⟩
  refine ⟨ρ, S, _, xp, rl, k, h, ?_, x⟩
  rintro d S1 v H1 ⟨y, b, c, e1, e2, e3, e4, h1⟩ r1 k1 s1
  refine ⟨by show 2 ≤ sizeLine; decide, fun p hp => ?_⟩
  have s2 : Step T S1 H1 S1 (upd H1 p (.tup [t.v, u.v])) := step_new hp
  refine ⟨v, p, [t.v, u.v], _, [t.val, u.val], b || c, rfl, upd_same, .cons (clsv t) (.cons (clsv u) .nil), tyx_of (k1.laid hp) (r1.step k1 s2) e1 fun C hC => i.isi C (e2 C hC), ?_, q _ _ _ _ h1 (rbl _) (k1.laid hp) (s1.trans s2)⟩
  refine kitAny_cons (b := b) (kit_of i e3) (fun hb => ?_) fun hb => by rw [hb]; rfl
  subst hb
  refine kitAny_cons (b := c) (kit_of i e4) (fun hb => ?_) fun hb => by rw [hb]; rfl
  subst hb
  rfl)
end
end Dw
namespace Dw
open PySem PySem.Spec PyProof.Rows L2
inductive Tgt where
  | nm (i : Nat)
  | tp (ts : List Tgt)
mutual
def gT (K : PySem.W.Frag) : Tgt → TG
  | .nm i => gName i
  | .tp ts => gTup K ts.length (gTs K ts)
def gTs (K : PySem.W.Frag) : List Tgt → TGs
  | [] => gNil
  | t :: ts => gCons (gT K t) (gTs K ts)
end
mutual
def bT : Tgt → D → Lc → (Lc → Prop) → Prop
  | .nm i, d, ρ, k => k (ρ.set i (some d))
  | .tp ts, .tup ds, ρ, k => ds.length = ts.length ∧ bTs ts ds ρ k
  | .tp _, _, _, _ => False
def bTs : List Tgt → List D → Lc → (Lc → Prop) → Prop
  | [], _, ρ, k => k ρ
  | t :: ts, d :: ds, ρ, k => bT t d ρ fun ρ' => bTs ts ds ρ' k
  | _ :: _, [], _, _ => False
end
mutual
def sT : Tgt → List Nat
  | .nm i => [i]
  | .tp ts => sTs ts
def sTs : List Tgt → List Nat
  | [] => []
  | t :: ts => sT t ++ sTs ts
end
def wipeL (ρ : Lc) : List Nat → Lc
  | [] => ρ
  | v :: vs => (wipeL ρ vs).set v none
theorem wipe_in {σ : L2.St} {i : Nat} : ∀ {vs : List Nat}, i ∈ vs → (wipe σ vs)[i]? = (σ[i]?).map fun _ => none
  | [], h => nomatch h
  | v :: vs, h => by
    unfold wipe
    by_cases e : v = i
    · subst e
      by_cases hl : v < σ.length
      · rw [List.getElem?_set_self (by rw [wipe_length]; exact hl), List.getElem?_eq_getElem hl]
        rfl
      · rw [List.getElem?_eq_none (by rw [List.length_set, wipe_length]; omega), List.getElem?_eq_none (by omega)]
        rfl
    · rw [List.getElem?_set_ne e]
      exact wipe_in ((List.mem_cons.mp h).resolve_left fun z => e z.symm)
theorem wipe_set {σ : L2.St} {i : Nat} {x : Option V} {vs : List Nat} (h : i ∈ vs) : wipe (σ.set i x) vs = wipe σ vs := by
  apply List.ext_getElem?
  intro j
  by_cases hj : j ∈ vs
  · rw [wipe_in hj, wipe_in hj]
    by_cases e : i = j
    · subst e
      by_cases hl : i < σ.length
      · rw [List.getElem?_set_self hl, List.getElem?_eq_getElem hl]
        rfl
      · rw [List.getElem?_eq_none (by rw [List.length_set]; omega), List.getElem?_eq_none (by omega)]
    · rw [List.getElem?_set_ne e]
  · rw [wipe_out hj, wipe_out hj, List.getElem?_set_ne fun z => hj (by rw [← z]; exact h)]
section
variable {K : PySem.W.Frag} {M : Addr → Prop} {H : Hp}
theorem RepL.setN : ∀ {ρ : Lc} {σ : L2.St} (i : Nat), RepL K M H ρ σ → RepL K M H (ρ.set i none) (σ.set i none)
  | [], _, _, h => by rw [show _ = [] from h]; rfl
  | d0 :: ρ, _, 0, h => by
    obtain ⟨v0, σ', rfl, h1, h2⟩ := h
    exact ⟨none, σ', rfl, fun x e => (by cases e), h2⟩
  | d0 :: ρ, _, i + 1, h => by
    obtain ⟨v0, σ', rfl, h1, h2⟩ := h
    exact ⟨v0, σ'.set i none, rfl, h1, RepL.setN i h2⟩
theorem RepL.wipe {ρ : Lc} {σ : L2.St} (h : RepL K M H ρ σ) : ∀ vs : List Nat, RepL K M H (wipeL ρ vs) (L2.wipe σ vs)
  | [] => h
  | v :: vs => RepL.setN v (RepL.wipe h vs)
mutual
theorem gT_ok : ∀ (t : Tgt) {d : D} {v : V} {ρ : Lc} {σ : L2.St} {k : Lc → Prop} {Q : L2.St → Hp → Prop}, bT t d ρ k → Rep K M H d v → RepL K M H ρ σ → (∀ ρ' σ', k ρ' → RepL K M H ρ' σ' → (∀ vs, (∀ i ∈ sT t, i ∈ vs) → L2.wipe σ' vs = L2.wipe σ vs) → Q σ' H) → gT K t v σ H Q
  | .nm i, d, v, ρ, σ, k, Q, h, r, rl, q => by
    unfold gT
    unfold bT at h
    exact q _ _ h (rl.set i r) fun vs hv => wipe_set (hv i (by unfold sT; simp))
  | .tp ts, d, v, ρ, σ, k, Q, h, r, rl, q => by
    cases d with
    | tup ds =>
      unfold gT
      unfold bT at h
      obtain ⟨a, xs, rfl, sq, rs⟩ := tup_of r
      exact ⟨a, xs, rfl, sq, by rw [rs.len, h.1], gTs_ok ts h.1 h.2 rs rl fun ρ' σ' h1 h2 h3 => q ρ' σ' h1 h2 fun vs hv => h3 vs (by unfold sT at hv; exact hv)⟩
    | _ => unfold bT at h; exact h.elim
theorem gTs_ok : ∀ (ts : List Tgt) {ds : List D} {xs : List V} {ρ : Lc} {σ : L2.St} {k : Lc → Prop} {Q : L2.St → Hp → Prop}, ds.length = ts.length → bTs ts ds ρ k → Reps K M H ds xs → RepL K M H ρ σ → (∀ ρ' σ', k ρ' → RepL K M H ρ' σ' → (∀ vs, (∀ i ∈ sTs ts, i ∈ vs) → L2.wipe σ' vs = L2.wipe σ vs) → Q σ' H) → gTs K ts xs σ H Q
  | [], ds, xs, ρ, σ, k, Q, l, h, r, rl, q => by
    unfold gTs
    unfold bTs at h
    have e : ds = [] := List.length_eq_zero_iff.mp l
    subst e
    exact ⟨nil_of r, q _ _ h rl fun _ _ => rfl⟩
  | t :: ts, [], xs, ρ, σ, k, Q, l, h, r, rl, q => by simp at l
  | t :: ts, d :: ds, xs, ρ, σ, k, Q, l, h, r, rl, q => by
    unfold gTs
    unfold bTs at h
    obtain ⟨w, ws, rfl, r1, r2⟩ := cons_of r
    refine ⟨w, ws, rfl, gT_ok t h r1 rl fun ρ' σ' h1 h2 h3 => gTs_ok ts (by simpa using l) h1 r2 h2 fun ρ2 σ2 k1 k2 k3 => q ρ2 σ2 k1 k2 fun vs hv => ?_⟩
    unfold sTs at hv
    rw [k3 vs fun i hi => hv i (List.mem_append_right _ hi), h3 vs fun i hi => hv i (List.mem_append_left _ hi)]
end
end
abbrev DC := Lc → W (List D)
section
variable {K : PySem.W.Frag} {T : Gx} {E : XK} {S S' : Sto} {H H' : Hp}
/-- the heap as it was, but for lists that are being made -/
def NewB (T : Gx) (H : Hp) (B : List Addr) : Prop := ∀ a ∈ B, a ∈ T.busy ∨ H a = none
def SrcOk (K : PySem.W.Frag) (T : Gx) (J : It) (ds : List D) (S : Sto) (H : Hp) : Prop :=
  ∀ B, NewB T H B → ∀ S' H', Ok K ⟨T.tab, B⟩ S' H' → Step T S H S' H' → ∀ i,
    (ds.length ≤ i → J.stop i H') ∧ ∀ d, ds[i]? = some d → J.go i H' ∧ ∀ x H2, J.yld i H' x H2 → Rep K (Mu ⟨T.tab, B⟩ S') H2 d x ∧ Ok K ⟨T.tab, B⟩ S' H2 ∧ Step T S' H' S' H2
def tI (K : PySem.W.Frag) (T : Gx) (E : XK) (f : DC) : TI := fun σ H R => ∃ ρ S post xp, RepL K (Mu T S) H ρ σ ∧ Ok K T S H ∧ f ρ S post xp ∧ (∀ ds S' J H', post ds S' → Ok K T S' H' → Step T S H S' H' → SrcOk K T J ds S' H' → R J H') ∧ ExI K T E S H xp
theorem keepB {B : List Addr} (hB : NewB T H B) (st : Step T S H S' H') : Keeps (Mu T S) (Mu ⟨T.tab, B⟩ S') H H' := fun a o h n => ⟨(st a o h fun z => n (.inl z)).1, fun z => by
  rcases z with z | z
  · exact (st a o h fun z => n (.inl z)).2 z
  · rcases hB a z with z | z
    · exact n (.inr z)
    · rw [h] at z; cases z⟩
theorem src_list {a : Addr} {ds : List D} {xs : List V} (k : Ok K T S H) (nm : ¬ Mu T S a) (h : H a = some (.lst xs)) (r : Reps K (Mu T S) H ds xs) : SrcOk K T (Itl K a) ds S H := fun B hB S' H' k' st i => by
  have kp := keepB hB st
  have h' := (kp a _ h nm).1
  have r' := r.keep k.nt kp
  refine ⟨fun hi => ⟨xs, .inl (.inl h'), by rw [r'.len]; exact hi⟩, fun d hd => ?_⟩
  obtain ⟨v, e, rv⟩ := r'.at hd
  refine ⟨⟨xs, v, .inl (.inl h'), e⟩, ?_⟩
  rintro x H2 ⟨rfl, hx⟩
  have := hx xs (.inl (.inl h'))
  rw [e] at this
  cases this
  exact ⟨rv, k', Step.refl _ _⟩
theorem src_tup {a : Addr} {ds : List D} {xs : List V} (k : Ok K T S H) (h : SqT K H a xs) (r : Reps K (Mu T S) H ds xs) : SrcOk K T (Itt K a) ds S H := fun B hB S' H' k' st i => by
  have kp := keepB hB st
  have h' := sqT_keep k.nt kp h
  have r' := r.keep k.nt kp
  refine ⟨fun hi => ⟨xs, h', by rw [r'.len]; exact hi⟩, fun d hd => ?_⟩
  obtain ⟨v, e, rv⟩ := r'.at hd
  refine ⟨⟨xs, v, h', e⟩, ?_⟩
  rintro x H2 ⟨rfl, hx⟩
  have := hx xs h'
  rw [e] at this
  cases this
  exact ⟨rv, k', Step.refl _ _⟩
def rngD (lo : Int) (n : Nat) : List D := (List.range n).map fun (i : Nat) => .int (lo + (i : Int))
theorem src_rng {lo : Int} {n : Nat} : SrcOk K T (Itr lo n) (rngD lo n) S H := fun B hB S' H' k' st i => by
  unfold rngD
  refine ⟨fun hi => (show n ≤ i by simpa using hi), fun d hd => ?_⟩
  rw [List.getElem?_map] at hd
  by_cases hi : i < n
  · rw [List.getElem?_range hi] at hd
    cases hd
    refine ⟨hi, ?_⟩
    rintro x H2 ⟨rfl, rfl⟩
    exact ⟨rint _, k', Step.refl _ _⟩
  · rw [List.getElem?_eq_none (by simpa using hi)] at hd
    cases hd
def zipD : List D → List D → List D
  | x :: xs, y :: ys => .tup [x, y] :: zipD xs ys
  | _, _ => []
theorem zipD_at : ∀ {xs ys : List D} {i : Nat} {d : D}, (zipD xs ys)[i]? = some d → ∃ x y, d = .tup [x, y] ∧ xs[i]? = some x ∧ ys[i]? = some y
  | [], _, i, d, h => by unfold zipD at h; simp at h
  | _ :: _, [], i, d, h => by unfold zipD at h; simp at h
  | x :: xs, y :: ys, 0, d, h => by
    unfold zipD at h
    simp at h
    exact ⟨x, y, h.symm, rfl, rfl⟩
  | x :: xs, y :: ys, i + 1, d, h => by
    unfold zipD at h
    simp only [List.getElem?_cons_succ] at h ⊢
    exact zipD_at h
theorem zipD_len : ∀ {xs ys : List D} {i : Nat}, (zipD xs ys).length ≤ i → xs.length ≤ i ∨ ys.length ≤ i
  | [], _, i, h => .inl (Nat.zero_le _)
  | _ :: _, [], i, h => .inr (Nat.zero_le _)
  | x :: xs, y :: ys, 0, h => by unfold zipD at h; simp at h
  | x :: xs, y :: ys, i + 1, h => by
    unfold zipD at h
    simp only [List.length_cons, Nat.add_le_add_iff_right] at h ⊢
    exact zipD_len h
theorem src_zipL {a b : Addr} {ds es : List D} {xs ys : List V} (k : Ok K T S H) (nm : ¬ Mu T S a) (h : H a = some (.lst xs)) (r : Reps K (Mu T S) H ds xs) (nm2 : ¬ Mu T S b) (h2 : H b = some (.lst ys)) (r2 : Reps K (Mu T S) H es ys) : SrcOk K T (Itz K a b) (zipD ds es) S H := fun B hB S' H' k' st i => by
  have kp := keepB hB st
  have h' := (kp a _ h nm).1
  have h2' := (kp b _ h2 nm2).1
  have r' := r.keep k.nt kp
  have r2' := r2.keep k.nt kp
  refine ⟨fun hi => ⟨xs, ys, .inl (.inl h'), .inl (.inl h2'), by rw [r'.len, r2'.len]; exact zipD_len hi⟩, fun d hd => ?_⟩
  obtain ⟨x, y, rfl, e1, e2⟩ := zipD_at hd
  obtain ⟨v, f1, rv⟩ := r'.at e1
  obtain ⟨w, f2, rw_⟩ := r2'.at e2
  refine ⟨⟨xs, ys, v, w, .inl (.inl h'), .inl (.inl h2'), f1, f2⟩, ?_⟩
  rintro z H2 ⟨Tt, x', y', rfl, nT, rfl, hx, hy⟩
  obtain rfl : x' = v := Option.some.inj ((hx xs (.inl (.inl h'))).symm.trans f1)
  obtain rfl : y' = w := Option.some.inj ((hy ys (.inl (.inl h2'))).symm.trans f2)
  have s2 : Step ⟨T.tab, B⟩ S' H' S' (upd H' Tt (.tup [x', y'])) := step_new nT
  exact ⟨rtup upd_same (rcons (rv.step k' s2) (rcons (rw_.step k' s2) rnil)), k'.laid nT, s2⟩
theorem src_zipT {a b : Addr} {ds es : List D} {xs ys : List V} (k : Ok K T S H) (h : SqT K H a xs) (r : Reps K (Mu T S) H ds xs) (h2 : SqT K H b ys) (r2 : Reps K (Mu T S) H es ys) : SrcOk K T (RZ.ItzT K a b) (zipD ds es) S H := fun B hB S' H' k' st i => by
  have kp := keepB hB st
  have h' := sqT_keep k.nt kp h
  have h2' := sqT_keep k.nt kp h2
  have r' := r.keep k.nt kp
  have r2' := r2.keep k.nt kp
  refine ⟨fun hi => ⟨xs, ys, h', h2', by rw [r'.len, r2'.len]; exact zipD_len hi⟩, fun d hd => ?_⟩
  obtain ⟨x, y, rfl, e1, e2⟩ := zipD_at hd
  obtain ⟨v, f1, rv⟩ := r'.at e1
  obtain ⟨w, f2, rw_⟩ := r2'.at e2
  refine ⟨⟨xs, ys, v, w, h', h2', f1, f2⟩, ?_⟩
  rintro z H2 ⟨Tt, x', y', rfl, nT, rfl, hx, hy⟩
  obtain rfl : x' = v := Option.some.inj ((hx xs h').symm.trans f1)
  obtain rfl : y' = w := Option.some.inj ((hy ys h2').symm.trans f2)
  have s2 : Step ⟨T.tab, B⟩ S' H' S' (upd H' Tt (.tup [x', y'])) := step_new nT
  exact ⟨rtup upd_same (rcons (rv.step k' s2) (rcons (rw_.step k' s2) rnil)), k'.laid nT, s2⟩
end
def cRng (fs : List DE) : DC := fun ρ S post xp => dArgs fs ρ S (fun ds S' => match ds with
  | [.int j] => (-(2 ^ 62) ≤ j ∧ j < 2 ^ 62) ∧ post (rngD 0 j.toNat) S'
  | _ => False) xp
def cZip (fs : List DE) : DC := fun ρ S post xp => dArgs fs ρ S (fun ds S' => match ds with
  | [.lst xs, .lst ys] => post (zipD xs ys) S'
  | [.tup xs, .tup ys] => post (zipD xs ys) S'
  | _ => False) xp
section
variable {X : Cx} {T : Gx} {E : XK} {a b tg : Expr} {es elts : List Expr} {kk : Nat} {tpos p pos : Pos} {f : DE} {fs : List DE}
theorem pi_imp {w w' : TI} (h : PI X tg a w) (i : ∀ σ H R, w' σ H R → w σ H R) : PI X tg a w' := ⟨fun pins s σ H R I q => h.run pins s σ H R I (i σ H R q)⟩
theorem ci_rng (hm : X.mg "range" = none) (ha : PA X [a] (tA X.K T E (dArgs fs))) (hg : Gl X "range" := by rfl) (hs : starEach [a] X.env = [(false, eval a X.env)] := by rfl) : PI X tg (.Call (.Name "range" p) [a] [] pos) (tI X.K T E (cRng fs)) := pi_imp (pi_range1 hg hm ha hs) (by
  rintro σ H R ⟨ρ, S, post, xp, rl, k, h, q, x⟩
  refine ⟨ρ, S, _, xp, rl, k, h, ?_, x⟩
  intro ds S1 vs H1 h1 r1 k1 s1
  split at h1
  · rename_i j
    obtain ⟨v, rfl, r2⟩ := one_of r1
    exact ⟨j, by rw [int_of r2], h1.1.1, h1.1.2, q _ _ _ _ h1.2 k1 s1 src_rng⟩
  · exact h1.elim)
theorem ci_zip (hm : X.mg "zip" = none) (ha : PA X [a, b] (tA X.K T E (dArgs fs))) (hg : Gl X "zip" := by rfl) (hs : starEach [a, b] X.env = (false, eval a X.env) :: starEach [b] X.env := by rfl) (hpl : (backTo pos (starEach [b] X.env)).any (·.1) = false := by rfl) :
    PI X (.Tuple elts kk tpos) (.Call (.Name "zip" p) [a, b] [] pos) (tI X.K T E (cZip fs)) := pi_imp (RZ.pi_zipA hg hm ha hs hpl) (by
  rintro σ H R ⟨ρ, S, post, xp, rl, k, h, q, x⟩
  refine ⟨ρ, S, _, xp, rl, k, h, ?_, x⟩
  intro ds S1 vs H1 h1 r1 k1 s1
  split at h1
  · obtain ⟨v, w, rfl, r2, r3⟩ := two_of r1
    obtain ⟨ad, xs, rfl, nm, e, rs⟩ := lst_of r2
    obtain ⟨bd, ys, rfl, nm2, e2, rs2⟩ := lst_of r3
    exact ⟨ad, bd, xs, ys, rfl, .inl ⟨.inl (.inl e), .inl (.inl e2), q _ _ _ _ h1 k1 s1 (src_zipL k1 nm e rs nm2 e2 rs2)⟩⟩
  · obtain ⟨v, w, rfl, r2, r3⟩ := two_of r1
    obtain ⟨ad, xs, rfl, e, rs⟩ := tup_of r2
    obtain ⟨bd, ys, rfl, e2, rs2⟩ := tup_of r3
    exact ⟨ad, bd, xs, ys, rfl, .inr ⟨e, e2, q _ _ _ _ h1 k1 s1 (src_zipT k1 e rs e2 rs2)⟩⟩
  · exact h1.elim)
end
def wFor (t : Tgt) (body : DS) : List D → DS
  | [], ρ, S, p => p.nx ρ S
  | d :: ds, ρ, S, p => bT t d ρ fun ρ' => body ρ' S { nx := fun ρ2 S2 => wFor t body ds ρ2 S2 p, rt := p.rt, bk := p.nx, ct := fun ρ2 S2 => wFor t body ds ρ2 S2 p, xp := p.xp }
def dFor (t : Tgt) (src : DC) (body : DS) : DS := fun ρ S p => src ρ S (fun ds S' => wFor t body ds ρ S' p) p.xp
section
variable {X : Cx} {T : Gx} {E : XK} {iter tg : Expr} {body : List Stmt} {pos : Pos} {src : DC} {t : Tgt} {u : DS}
theorem newB_self {H : Hp} : NewB T H T.busy := fun _ h => .inl h
theorem for_conv {K : PySem.W.Frag} {Dd : Ends} {σ : L2.St} {H : Hp} (h : tS K T E (dFor t src u) Dd σ H) : tFor (tI K T E src) (gT K t) (tS K T E u) Dd σ H := by
  obtain ⟨ρ, S, p, rl, k, h, n, r, bk, ct, x⟩ := h
  refine ⟨ρ, S, _, p.xp, rl, k, h, ?_, x⟩
  intro ds S1 J H1 h1 k1 s1 so
  refine ⟨fun i m σ' H' => m = ds.length - i ∧ i ≤ ds.length ∧ ∃ ρ' S', RepL K (Mu T S') H' ρ' σ' ∧ Ok K T S' H' ∧ Step T S1 H1 S' H' ∧ wFor t u (ds.drop i) ρ' S' p, ⟨ds.length, by simp, Nat.zero_le _, ρ, S1, rl.step k s1, k1, Step.refl _ _, by rw [List.drop_zero]; exact h1⟩, ?_⟩
  rintro i m σ' H' ⟨rfl, hi, ρ', S', rl', k', s', hw⟩
  obtain ⟨so1, so2⟩ := so T.busy newB_self S' H' k' s' i
  by_cases hlt : i < ds.length
  · have hd : ds[i]? = some ds[i] := List.getElem?_eq_getElem hlt
    obtain ⟨hgo, hy⟩ := so2 _ hd
    refine .inr ⟨hgo, fun σ2 H2 => ∃ ρ2 S2, RepL K (Mu T S2) H2 ρ2 σ2 ∧ Ok K T S2 H2 ∧ Step T S1 H1 S2 H2 ∧ wFor t u (ds.drop (i + 1)) ρ2 S2 p, fun σ2 H2 q => ⟨ds.length - (i + 1), by omega, rfl, hlt, q⟩, ?_⟩
    intro v H2 hyl
    obtain ⟨rv, k2, s2⟩ := hy v H2 hyl
    rw [List.drop_eq_getElem_cons hlt] at hw
    unfold wFor at hw
    refine gT_ok t hw rv (rl'.step k' s2) fun ρ2 σ2 hb rl2 _ => ?_
    have st2 := s'.trans s2
    refine ⟨ρ2, S', _, rl2, k2, hb, ?_, (r.from s1).from st2, ?_, ?_, (x.from s1).from st2⟩
    · exact fun ρ3 S3 σ3 H3 h3 rl3 k3 s3 => ⟨ρ3, S3, rl3, k3, st2.trans s3, h3⟩
    · exact (n.from s1).from st2
    · exact fun ρ3 S3 σ3 H3 h3 rl3 k3 s3 => ⟨ρ3, S3, rl3, k3, st2.trans s3, h3⟩
  · have e : i = ds.length := by omega
    subst e
    rw [List.drop_length] at hw
    exact .inl ⟨so1 (Nat.le_refl _), n _ _ _ _ hw rl' k' (s1.trans s')⟩
theorem ds_for (hp : PassesOwn (model X.prog X.w) X.A X.env X.xe) (hi : PI X tg iter (tI X.K T E src)) (hg : PG X tg (gT X.K t)) (hb : PSs X body (tS X.K T E u)) (hc : X.calm = true := by rfl) (hs : ∀ x, foldedSetIterable iter X.env x = pure x := by intro _; rfl) :
    PS X (.For tg iter body [] pos) (tS X.K T E (dFor t src u)) := ps_imp (ps_for hp hc hi hg hb hs) fun Dd σ H h => for_conv h
end
def wWhile (c : DT) (body : DS) : Nat → DS
  | 0, _, _, _ => False
  | n + 1, ρ, S, p => c ρ S (fun b S1 => if b = true then body ρ S1 { nx := fun ρ2 S2 => wWhile c body n ρ2 S2 p, rt := p.rt, bk := p.nx, ct := fun ρ2 S2 => wWhile c body n ρ2 S2 p, xp := p.xp } else p.nx ρ S1) p.xp
/-- so many turns at most -/
def dWhile (c : DT) (body : DS) : DS := fun ρ S p => ∃ n, wWhile c body n ρ S p
section
variable {X : Cx} {T : Gx} {E : XK} {c : Expr} {body : List Stmt} {pos : Pos} {ct : DT} {u : DS}
theorem ds_while {K : PySem.W.Frag} (hp : PassesOwn (model X.prog X.w) X.A X.env X.xe) (hc : PT X c (tB K T E ct)) (hb : PSs X body (tS K T E u)) : PS X (.While c body [] pos) (tS K T E (dWhile ct u)) := ps_imp (ps_while hp hc hb) (by
  rintro Dd σ H ⟨ρ, S, p, rl, k, ⟨m, h⟩, n, r, bk, ct', x⟩
  refine ⟨fun m σ' H' => ∃ ρ' S', RepL K (Mu T S') H' ρ' σ' ∧ Ok K T S' H' ∧ Step T S H S' H' ∧ wWhile ct u m ρ' S' p, ⟨m, ρ, S, rl, k, Step.refl _ _, h⟩, ?_⟩
  rintro m σ' H' ⟨ρ', S', rl', k', s', hw⟩
  cases m with
  | zero => exact hw.elim
  | succ m =>
    unfold wWhile at hw
    refine ⟨ρ', S', _, p.xp, rl', k', hw, ?_, x.from s'⟩
    rintro b S1 b' H1 h1 rfl k1 s1
    have st := s'.trans s1
    cases b with
    | true =>
      rw [if_pos rfl] at h1 ⊢
      refine ⟨fun σ2 H2 => ∃ ρ2 S2, RepL K (Mu T S2) H2 ρ2 σ2 ∧ Ok K T S2 H2 ∧ Step T S H S2 H2 ∧ wWhile ct u m ρ2 S2 p, fun σ2 H2 q => ⟨m, Nat.lt_succ_self _, q⟩, ρ', S1, _, rl'.step k' s1, k1, h1, ?_, r.from st, n.from st, ?_, x.from st⟩
      · exact fun ρ3 S3 σ3 H3 h3 rl3 k3 s3 => ⟨ρ3, S3, rl3, k3, st.trans s3, h3⟩
      · exact fun ρ3 S3 σ3 H3 h3 rl3 k3 s3 => ⟨ρ3, S3, rl3, k3, st.trans s3, h3⟩
    | false =>
      rw [if_neg Bool.false_ne_true] at h1 ⊢
      exact n _ _ _ _ h1 (rl'.step k' s1) k1 st)
end
end Dw
namespace Dw
open PySem PySem.Spec PyProof.Rows L2
def dYes : DT := fun _ S post _ => post true S
def wLc (ρ : Lc) (t : Tgt) (c : DT) (elt : DE) : List D → List D → W (List D)
  | [], acc, S, post, _ => post acc S
  | d :: ds, acc, S, post, xp => bT t d ρ fun ρ' => c ρ' S (fun b S1 => if b = true then elt ρ' S1 (fun y S2 => wLc ρ t c elt ds (acc ++ [y]) S2 post xp) noX else wLc ρ t c elt ds acc S1 post xp) noX
def dLc (vs : List Nat) (t : Tgt) (src : DC) (c : DT) (elt : DE) : DE := fun ρ S post xp => src ρ S (fun ds S1 => ds.length ≤ 1000 ∧ wLc (wipeL ρ vs) t c elt ds [] S1 (fun acc S2 => post (.lst acc) S2) xp) xp
section
variable {K : PySem.W.Frag} {T : Gx} {E : XK} {S S' : Sto} {H H' : Hp} {Dd : Addr}
def Gx.more (T : Gx) (d : Addr) : Gx := ⟨T.tab, d :: T.busy⟩
theorem Ok.enter (k : Ok K T S H) {xs : List V} (n : H Dd = none) : Ok K (T.more Dd) S (upd H Dd (.lst xs)) := by
  have k1 := k.laid (o := .lst xs) n
  have kp : Keeps (Mu T S) (Mu (T.more Dd) S) (upd H Dd (.lst xs)) (upd H Dd (.lst xs)) → True := fun _ => trivial
  refine ⟨k1.tabs, fun a ha => ?_, fun a m h => ?_⟩
  · rcases List.mem_cons.mp ha with rfl | ha
    · exact ⟨⟨xs, upd_same⟩, k.unsto n⟩
    · exact k1.bus a ha
  · have c := k.cel a m h
    have ne : a ≠ Dd := fun z => k.there (.inl (.inl ⟨m, h⟩)) (by rw [z]; exact n)
    have st : Keeps (Mu T S) (Mu (T.more Dd) S) H (upd H Dd (.lst xs)) := fun b u e q => by
      have nb := ne_of_none e n
      rw [upd_ne nb]
      refine ⟨e, fun z => ?_⟩
      rcases z with z | z
      · exact q (.inl z)
      · rcases List.mem_cons.mp z with z | z
        · exact nb z
        · exact q (.inr z)
    cases m with
    | lst ds => obtain ⟨ys, e1, r⟩ := c; exact ⟨ys, by rw [upd_ne ne]; exact e1, r.keep k.nt st⟩
    | ins C ns ds => obtain ⟨dx, fs, e1, e2, r⟩ := c; exact ⟨dx, fs, by rw [upd_ne ne]; exact e1, e2, r.keep k.nt st⟩
    | dK ks ds => obtain ⟨kvs, e1, e2, r⟩ := c; exact ⟨kvs, by rw [upd_ne ne]; exact e1, e2, r.keep k.nt st⟩
    | dT ks ds => obtain ⟨kvs, e1, e2, r⟩ := c; exact ⟨kvs, by rw [upd_ne ne]; exact e1, e2, r.keep k.nt st⟩
    | bag cc ns =>
      obtain ⟨i, x, y, z, e1, A, hc, nc⟩ := c
      have q := rd_keep st nc hc
      exact ⟨i, x, y, z, by rw [upd_ne ne]; exact e1, ⟨A.ne, .inl q.1, A.i0, A.x0, A.y0, A.y1⟩, q.1, q.2⟩
theorem mu_less {a : Addr} (h : Mu T S a) : Mu (T.more Dd) S a := h.imp id fun z => List.mem_cons_of_mem _ z
theorem Reps.less {ds : List D} {vs : List V} (k : Ok K (T.more Dd) S H) (r : Reps K (Mu (T.more Dd) S) H ds vs) : Reps K (Mu T S) H ds vs := r.keep k.nt fun a o e n => ⟨e, fun z => n (mu_less z)⟩
theorem Ok.leave (k : Ok K (T.more Dd) S H) : Ok K T S H := by
  refine ⟨k.tabs, fun a ha => k.bus a (List.mem_cons_of_mem _ ha), fun a m h => ?_⟩
  have c := k.cel a m h
  have st : Keeps (Mu (T.more Dd) S) (Mu T S) H H := fun b u e q => ⟨e, fun z => q (mu_less z)⟩
  cases m with
  | lst ds => obtain ⟨ys, e1, r⟩ := c; exact ⟨ys, e1, r.keep k.nt st⟩
  | ins C ns ds => obtain ⟨dx, fs, e1, e2, r⟩ := c; exact ⟨dx, fs, e1, e2, r.keep k.nt st⟩
  | dK ks ds => obtain ⟨kvs, e1, e2, r⟩ := c; exact ⟨kvs, e1, e2, r.keep k.nt st⟩
  | dT ks ds => obtain ⟨kvs, e1, e2, r⟩ := c; exact ⟨kvs, e1, e2, r.keep k.nt st⟩
  | bag cc ns =>
    obtain ⟨i, x, y, z, e1, A, hc, nc⟩ := c
    have q := rd_keep st nc hc
    exact ⟨i, x, y, z, e1, ⟨A.ne, .inl q.1, A.i0, A.x0, A.y0, A.y1⟩, q.1, q.2⟩
theorem busy_nm (k : Ok K (T.more Dd) S H) (nb : Dd ∉ T.busy) : ¬ Mu T S Dd := fun z => by
  obtain ⟨⟨xs, e⟩, e2⟩ := k.bus Dd (List.mem_cons_self ..)
  rcases z with (⟨m, z⟩ | ⟨q, z⟩) | z
  · rw [e2] at z; cases z
  · obtain ⟨ps, e3, _⟩ := k.tabs _ z
    rw [e] at e3; cases e3
  · exact nb z
theorem busy_nv (k : Ok K (T.more Dd) S H) : ¬ Mv T S Dd := fun z => by
  obtain ⟨⟨xs, e⟩, e2⟩ := k.bus Dd (List.mem_cons_self ..)
  rcases z with ⟨m, z⟩ | ⟨q, z⟩
  · rw [e2] at z; cases z
  · obtain ⟨ps, e3, _⟩ := k.tabs _ z
    rw [e] at e3; cases e3
/-- one more item -/
theorem keep_more {xs : List V} : Keeps (Mu (T.more Dd) S) (Mu (T.more Dd) S) H (upd H Dd (.lst xs)) := fun a o e n => by
  have ne : a ≠ Dd := fun z => n (.inr (by rw [z]; exact List.mem_cons_self ..))
  rw [upd_ne ne]
  exact ⟨e, n⟩
theorem Ok.more (k : Ok K (T.more Dd) S H) {xs : List V} : Ok K (T.more Dd) S (upd H Dd (.lst xs)) := by
  obtain ⟨⟨ys, eD⟩, eS⟩ := k.bus Dd (List.mem_cons_self ..)
  have ch : Px.Ex (fun a => a = Dd) H (upd H Dd (.lst xs)) := fun a o h n => by rw [upd_ne n]; exact h
  have tb : LamX.Tabs (T.more Dd).tab (upd H Dd (.lst xs)) := fun q hq => by
    obtain ⟨ps, h1, h2, h3⟩ := k.tabs q hq
    refine ⟨ps, ?_, h2, fun pos cv hc => ?_⟩
    · rw [upd_ne fun z => by rw [z, eD] at h1; cases h1]; exact h1
    · obtain ⟨c, e1, e2⟩ := h3 pos cv hc
      refine ⟨c, e1, ?_⟩
      rw [upd_ne fun z => by rw [z, eD] at e2; unfold LamX.CodeO at e2; cases e2]; exact e2
  refine ⟨tb, fun a ha => ?_, fun a m h => ?_⟩
  · by_cases z : a = Dd
    · subst z; exact ⟨⟨xs, upd_same⟩, eS⟩
    · rw [upd_ne z]; exact k.bus a ha
  · have c := k.cel a m h
    have ne : a ≠ Dd := fun z => by rw [z, eS] at h; cases h
    cases m with
    | lst ds => obtain ⟨ys, e1, r⟩ := c; exact ⟨ys, by rw [upd_ne ne]; exact e1, r.keep k.nt keep_more⟩
    | ins C ns ds => obtain ⟨dx, fs, e1, e2, r⟩ := c; exact ⟨dx, fs, by rw [upd_ne ne]; exact e1, e2, r.keep k.nt keep_more⟩
    | dK ks ds => obtain ⟨kvs, e1, e2, r⟩ := c; exact ⟨kvs, by rw [upd_ne ne]; exact e1, e2, r.keep k.nt keep_more⟩
    | dT ks ds => obtain ⟨kvs, e1, e2, r⟩ := c; exact ⟨kvs, by rw [upd_ne ne]; exact e1, e2, r.keep k.nt keep_more⟩
    | bag cc ns =>
      obtain ⟨i, x, y, z, e1, A, hc, nc⟩ := c
      have q := rd_keep (keep_more (xs := xs)) nc hc
      exact ⟨i, x, y, z, by rw [upd_ne ne]; exact e1, ⟨A.ne, .inl q.1, A.i0, A.x0, A.y0, A.y1⟩, q.1, q.2⟩
end
section
variable {T : Gx} {E : XK} {t : Tgt} {vs : List Nat} {src : DC} {c : DT} {elt : DE}
theorem lc_core {K : PySem.W.Frag} (hv : ∀ i ∈ sT t, i ∈ vs) {tt : TT} {te : TE} (htt : ∀ T' : Gx, T'.tab = T.tab → ∀ σ H Q, tB K T' E0 c σ H Q → tt σ H Q) (hte : ∀ T' : Gx, T'.tab = T.tab → ∀ σ H Q, tE K T' E0 elt σ H Q → te σ H Q)
    {ρ : Lc} {S1 : Sto} {H1 : Hp} {σ : L2.St} {J : It} {ds : List D} {post : List D → Sto → Prop} {xp : Xp} {Q : VK} (rl : RepL K (Mu T S1) H1 ρ σ) (k1 : Ok K T S1 H1) (so : SrcOk K T J ds S1 H1) (hl : ds.length ≤ 1000) (hw : wLc (wipeL ρ vs) t c elt ds [] S1 post xp)
    (fin : ∀ Dd acc S' H' xs, H1 Dd = none → post acc S' → H' Dd = some (.lst xs) → Reps K (Mu (T.more Dd) S') H' acc xs → Ok K (T.more Dd) S' H' → Step T S1 H1 S' H' → Q (.ref Dd) H') :
    ∀ Dd, H1 Dd = none → ∃ Wi : Nat → Nat → Hp → Prop, (∃ m, Wi 0 m (upd H1 Dd (.lst []))) ∧ ∀ i m H, Wi i m H →
      (J.stop i H ∧ Q (.ref Dd) H) ∨ (J.go i H ∧ ∃ Nx : Hp → Prop, (∀ H', Nx H' → ∃ m', m' < m ∧ Wi (i + 1) m' H') ∧ ∀ x H', J.yld i H x H' → gT K t x (wipe σ vs) H' fun σ2 H2 => wipe σ2 vs = wipe σ vs ∧ tt σ2 H2 fun b H3 =>
        if b = true then te σ2 H3 fun y H4 => ∃ acc, H4 Dd = some (.lst acc) ∧ acc.length < sizeLine ∧ Nx (upd H4 Dd (.lst (acc ++ [y]))) else Nx H3) := by
  intro Dd nd
  have nb : Dd ∉ T.busy := fun z => by
    obtain ⟨⟨xs, e⟩, _⟩ := k1.bus Dd z
    rw [nd] at e; cases e
  have sN : Step T S1 H1 S1 (upd H1 Dd (.lst [])) := step_new nd
  refine ⟨fun i m H' => m = ds.length - i ∧ i ≤ ds.length ∧ ∃ S' acc xs, H' Dd = some (.lst xs) ∧ Reps K (Mu (T.more Dd) S') H' acc xs ∧ acc.length ≤ i ∧ Ok K (T.more Dd) S' H' ∧ Step T S1 H1 S' H' ∧ wLc (wipeL ρ vs) t c elt (ds.drop i) acc S' post xp,
    ⟨ds.length, by simp, Nat.zero_le _, S1, [], [], upd_same, rnil, Nat.le_refl _, k1.enter nd, sN, by rw [List.drop_zero]; exact hw⟩, ?_⟩
  rintro i m H' ⟨rfl, hi, S', acc, xs, eD, ra, la, k', s', hw'⟩
  obtain ⟨so1, so2⟩ := so (Dd :: T.busy) (fun a ha => (List.mem_cons.mp ha).elim (fun z => .inr (by rw [z]; exact nd)) .inl) S' H' k' s' i
  by_cases hlt : i < ds.length
  · have hd : ds[i]? = some ds[i] := List.getElem?_eq_getElem hlt
    obtain ⟨hgo, hy⟩ := so2 _ hd
    rw [List.drop_eq_getElem_cons hlt] at hw'
    unfold wLc at hw'
    have trk : ∀ {a o}, H1 a = some o → a ≠ Dd := fun {a o} e => ne_of_none e nd
    refine .inr ⟨hgo, fun H2 => ∃ S2 acc2 xs2, H2 Dd = some (.lst xs2) ∧ Reps K (Mu (T.more Dd) S2) H2 acc2 xs2 ∧ acc2.length ≤ i + 1 ∧ Ok K (T.more Dd) S2 H2 ∧ Step T S1 H1 S2 H2 ∧ wLc (wipeL ρ vs) t c elt (ds.drop (i + 1)) acc2 S2 post xp, fun H2 q => ⟨ds.length - (i + 1), by omega, rfl, hlt, q⟩, ?_⟩
    intro v H2 hyl
    obtain ⟨rv, k2, s2⟩ := hy v H2 hyl
    have kk2 : Ok K (T.more Dd) S' H2 := k2
    have s2' : Step T S' H' S' H2 := s2
    have rl' : RepL K (Mu (T.more Dd) S') H2 ρ σ := by
      have kp : Keeps (Mu T S1) (Mu (T.more Dd) S') H1 H2 := keepB (fun a ha => (List.mem_cons.mp ha).elim (fun z => .inr (by rw [z]; exact nd)) .inl) (s'.trans s2')
      have go : ∀ {ρ : Lc} {σ : L2.St}, RepL K (Mu T S1) H1 ρ σ → RepL K (Mu (T.more Dd) S') H2 ρ σ := by
        intro ρ
        induction ρ with
        | nil => exact fun h => h
        | cons d ρ ih =>
          rintro σ ⟨v, σ', e, h1, h2⟩
          exact ⟨v, σ', e, fun x ex => let ⟨w, e1, r⟩ := h1 x ex; ⟨w, e1, r.keep k1.nt kp⟩, ih h2⟩
      exact go rl
    refine gT_ok t hw' rv (rl'.wipe vs) fun ρ2 σ2 hb rl2 hw2 => ⟨by
      rw [hw2 vs hv]
      apply List.ext_getElem?
      intro j
      by_cases hj : j ∈ vs
      · rw [wipe_in hj]
        cases q : (wipe σ vs)[j]? with
        | none => rfl
        | some o => rw [wipe_in hj] at q; cases e : σ[j]? with
          | none => rw [e] at q; cases q
          | some _ => rw [e] at q; cases q; rfl
      · rw [wipe_out hj], ?_⟩
    refine htt (T.more Dd) rfl _ _ _ ⟨ρ2, S', _, noX, rl2, kk2, hb, ?_, noX_ex⟩
    rintro b S3 b' H3 h3 rfl k3 s3
    have s3' : Step T S' H2 S3 H3 := s3
    have eD2 : H2 Dd = some (.lst xs) := (s2' _ _ eD (busy_nv k')).1
    have ra2 : Reps K (Mu (T.more Dd) S') H2 acc xs := ra.keep k'.nt (keepB (T := T.more Dd) (B := (T.more Dd).busy) (fun a h => .inl h) s2')
    have eD3 : H3 Dd = some (.lst xs) := (s3' _ _ eD2 (busy_nv kk2)).1
    have ra3 : Reps K (Mu (T.more Dd) S3) H3 acc xs := ra2.step kk2 s3
    have st3 : Step T S1 H1 S3 H3 := (s'.trans s2').trans s3'
    cases b with
    | true =>
      rw [if_pos rfl] at h3 ⊢
      refine hte (T.more Dd) rfl _ _ _ ⟨ρ2, S3, _, noX, rl2.step kk2 s3, k3, h3, ?_, noX_ex⟩
      intro y S4 w H4 h4 r4 k4 s4
      have s4' : Step T S3 H3 S4 H4 := s4
      have eD4 : H4 Dd = some (.lst xs) := (s4' _ _ eD3 (busy_nv k3)).1
      have ra4 : Reps K (Mu (T.more Dd) S4) H4 acc xs := ra3.step k3 s4
      have lx : xs.length ≤ i := by rw [ra.len]; exact la
      refine ⟨xs, eD4, Nat.lt_of_le_of_lt lx (Nat.lt_of_lt_of_le (Nat.lt_of_lt_of_le hlt hl) (by decide)), S4, acc ++ [y], xs ++ [w], upd_same, (ra4.keep k4.nt keep_more).snoc (r4.keep k4.nt keep_more), by simp; omega, k4.more, ?_, h4⟩
      intro a o e n
      have z := (st3.trans s4') a o e n
      rw [upd_ne (trk e)]
      exact z
    | false =>
      rw [if_neg Bool.false_ne_true] at h3 ⊢
      exact ⟨S3, acc, xs, eD3, ra3, by omega, k3, st3, h3⟩
  · have e : i = ds.length := by omega
    subst e
    rw [List.drop_length] at hw'
    unfold wLc at hw'
    exact .inl ⟨so1 (Nat.le_refl _), fin Dd acc S' H' xs nd hw' eD ra k' s'⟩
variable {X : Cx} {iter tg e : Expr} {ifs : List Expr} {scope : Scope} {own : List (Str × Nat)} {pos : Pos}
theorem de_lc (hN : X.N.Nodup) (hi : PI X tg iter (tI X.K T E src)) (ok : BlkOk X.N X.env.scope scope own) (hv : ∀ i ∈ sT t, i ∈ own.map (·.2))
    (hg : ∀ (s : Shared) (H : Hp) (C : Addr) (cl : List (Str × Addr)) (fp : List Addr), PG (X.blk s H scope (compEnvC scope cl C X.env) fp) tg (gT X.K t))
    (ht : ∀ (T' : Gx), T'.tab = T.tab → ∀ (s : Shared) (H : Hp) (C : Addr) (cl : List (Str × Addr)) (fp : List Addr), PTs (X.blk s H scope (compEnvC scope cl C X.env) fp) ifs (tB X.K T' E0 c))
    (he : ∀ (T' : Gx), T'.tab = T.tab → ∀ (s : Shared) (H : Hp) (C : Addr) (cl : List (Str × Addr)) (fp : List Addr), PE (X.blk s H scope (compEnvC scope cl C X.env) fp) e (tE X.K T' E0 elt)) (hc : X.calm = true := by rfl) (hs : ∀ x, foldedSetIterable iter X.env x = pure x := by intro _; rfl) :
    PE X (.ListComp e [⟨tg, iter, ifs, 0⟩] scope pos) (tE X.K T E (dLc (own.map (·.2)) t src c elt)) := by
  refine pe_imp (pe_lc (tt := fun σ H Q => ∃ T' : Gx, T'.tab = T.tab ∧ tB X.K T' E0 c σ H Q) (te := fun σ H Q => ∃ T' : Gx, T'.tab = T.tab ∧ tE X.K T' E0 elt σ H Q) hc hN hi ok hg (fun s H C cl fp => ⟨fun pins s2 σ H2 Q I ⟨T', e1, q⟩ => (ht T' e1 s H C cl fp).run pins s2 σ H2 Q I q⟩) (fun s H C cl fp => ⟨fun pins s2 σ H2 Q I ⟨T', e1, q⟩ => (he T' e1 s H C cl fp).run pins s2 σ H2 Q I q⟩) hs) ?_
  rintro σ H Q ⟨ρ, S, post, xp, rl, k, h, q, x⟩
  refine ⟨ρ, S, _, xp, rl, k, h, ?_, x⟩
  rintro ds S1 J H1 ⟨hl, h1⟩ k1 s1 so
  refine lc_core (T := T) (c := c) (elt := elt) (tt := fun σ H Q => ∃ T' : Gx, T'.tab = T.tab ∧ tB X.K T' E0 c σ H Q) (te := fun σ H Q => ∃ T' : Gx, T'.tab = T.tab ∧ tE X.K T' E0 elt σ H Q) hv (fun T' e σ H Q q => ⟨T', e, q⟩) (fun T' e σ H Q q => ⟨T', e, q⟩) (rl.step k s1) k1 so hl h1 fun Dd acc S' H' xs nd hp eD ra k' s' => ?_
  have nb : Dd ∉ T.busy := fun z => by
    obtain ⟨⟨ys, e⟩, _⟩ := k1.bus Dd z
    rw [nd] at e; cases e
  exact q _ _ _ _ hp (rlst (busy_nm k' nb) eD (ra.less k')) k'.leave (s1.trans s')
theorem dts_nil {K : PySem.W.Frag} : PTs X [] (tB K T E dYes) := ⟨fun pins s σ H Q I h => pts_nil.run pins s σ H Q I (by
  obtain ⟨ρ, S, post, xp, rl, k, h, q, _⟩ := h
  exact q.now k h rfl)⟩
theorem dts_one {K : PySem.W.Frag} {a : Expr} (h : PT X a (tB K T E c)) : PTs X [a] (tB K T E c) := pts_one h
end
end Dw
namespace Dw
open PySem PySem.Spec PyProof.Rows L2
def putL (f : Str) (y : D) : List Str → List D → List Str × List D
  | n :: ns, d :: ds => if n = f then (n :: ns, y :: ds) else ((n :: (putL f y ns ds).1), d :: (putL f y ns ds).2)
  | _, _ => ([f], [y])
end Dw
set_option maxHeartbeats 1000000
set_option maxHeartbeats 2000000
namespace Dw
open PySem PySem.Spec PyProof.Rows L2
structure EsOk (es : List DictEntry) (mA : Str → Option Value) : Prop where
  str : ∀ x ∈ es, ∃ n t, x.key = .str n t
  uni : es.Pairwise fun a b => ∀ n, a.key.isStr n = true → b.key.isStr n = true → False
  fnd : ∀ y, (es.find? fun e => e.key.isStr y).map (·.val) = mA y
section
open PySem.W
theorem isStr_str {n m : Str} {t : Tok} : (Value.str n t).isStr m = decide (n = m) := by
  show (n == m) = decide (n = m)
  by_cases h : n = m
  · subst h; simp
  · simp [h]
theorem putL_key {n : Str} {hs : Int} {t : Tok} {v : Value} : ∀ {es : List DictEntry}, ∀ x ∈ PySem.W.putL n hs (.str n t) v es, x.key = .str n t ∨ ∃ y ∈ es, x.key = y.key
  | [], x, hx => by
    simp only [PySem.W.putL, List.mem_singleton] at hx
    subst hx; exact .inl rfl
  | e :: r, x, hx => by
    unfold PySem.W.putL at hx
    split at hx
    · rcases List.mem_cons.mp hx with rfl | hx
      · exact .inr ⟨e, List.mem_cons_self .., rfl⟩
      · exact .inr ⟨x, List.mem_cons_of_mem _ hx, rfl⟩
    · rcases List.mem_cons.mp hx with rfl | hx
      · exact .inr ⟨x, List.mem_cons_self .., rfl⟩
      · rcases putL_key x hx with q | ⟨y, hy, q⟩
        · exact .inl q
        · exact .inr ⟨y, List.mem_cons_of_mem _ hy, q⟩
theorem putL_find1 {n : Str} {hs : Int} {t : Tok} {v : Value} {y : Str} : ∀ {es : List DictEntry}, ((PySem.W.putL n hs (.str n t) v es).find? fun e => e.key.isStr y).map (·.val) = if y = n then some v else (es.find? fun e => e.key.isStr y).map (·.val)
  | [] => by
    by_cases h : y = n
    · subst h
      rw [if_pos rfl]
      simp [PySem.W.putL, isStr_str]
    · rw [if_neg h]
      have h' : ¬ n = y := fun z => h z.symm
      simp [PySem.W.putL, isStr_str, h']
  | e :: r => by
    unfold PySem.W.putL
    by_cases he : e.key.isStr n = true
    · rw [if_pos he]
      by_cases h : y = n
      · subst h
        rw [if_pos rfl]
        simp [he]
      · rw [if_neg h]
        have : e.key.isStr y = false := by
          cases k : e.key with
          | str m u =>
            rw [k, isStr_str] at he
            rw [isStr_str]
            have hm := of_decide_eq_true he
            subst hm
            exact decide_eq_false fun z => h z.symm
          | _ => rw [k] at he; simp [Value.isStr] at he
        simp [this]
    · rw [if_neg he]
      rw [List.find?_cons, List.find?_cons]
      cases k : e.key.isStr y with
      | true =>
        have hy : ¬ y = n := fun z => he (by rw [← z]; exact k)
        rw [if_neg hy]
      | false => exact putL_find1
theorem putL_uni {n : Str} {hs : Int} {t : Tok} {v : Value} : ∀ {es : List DictEntry}, es.Pairwise (fun a b => ∀ n, a.key.isStr n = true → b.key.isStr n = true → False) → (PySem.W.putL n hs (.str n t) v es).Pairwise fun a b => ∀ n, a.key.isStr n = true → b.key.isStr n = true → False
  | [], _ => List.pairwise_singleton _ _
  | e :: r, h => by
    obtain ⟨h1, h2⟩ := List.pairwise_cons.mp h
    unfold PySem.W.putL
    split
    · exact List.pairwise_cons.mpr ⟨fun b hb m q1 q2 => h1 b hb m q1 q2, h2⟩
    · rename_i he
      refine List.pairwise_cons.mpr ⟨fun b hb m q1 q2 => ?_, putL_uni h2⟩
      rcases putL_key b hb with q | ⟨y, hy, q⟩
      · rw [q, isStr_str] at q2
        have hm := of_decide_eq_true q2
        subst hm
        exact he q1
      · rw [q] at q2
        exact h1 y hy m q1 q2
theorem EsOk.put {es : List DictEntry} {mA : Str → Option Value} (h : EsOk es mA) {n : Str} {hs : Int} {t : Tok} {v : Value} : EsOk (PySem.W.putL n hs (.str n t) v es) (fun y => if y = n then some v else mA y) :=
  ⟨fun x hx => by
    rcases putL_key x hx with q | ⟨y, hy, q⟩
    · exact ⟨n, t, q⟩
    · obtain ⟨m, u, e⟩ := h.str y hy
      exact ⟨m, u, by rw [q, e]⟩, putL_uni h.uni, fun y => by rw [putL_find1, h.fnd]⟩
theorem EsOk.nil : EsOk [] fun _ => none := ⟨(fun _ h => nomatch h), .nil, fun _ => rfl⟩
end
end Dw
set_option maxHeartbeats 2000000
set_option maxHeartbeats 2000000
set_option maxHeartbeats 2000000
set_option maxHeartbeats 2000000
namespace Dw
open PySem PySem.Spec PyProof.Rows L2
/-- the arguments in the order of the parameters -/
def permD (perm : List Nat) (ds : List D) : List D := perm.map fun i => ds.getD i .non
def dCallN (g : List D → W D) (perm : List Nat) (fs kfs : List DE) : DE := fun ρ S post xp => dArgs fs ρ S (fun ds S1 => dArgs kfs ρ S1 (fun es S2 => g (permD perm (ds ++ es)) S2 post xp) xp) xp
section
variable {K : PySem.W.Frag} {M : Addr → Prop} {H : Hp}
theorem reps_getD : ∀ {ds : List D} {vs : List V}, Reps K M H ds vs → ∀ i, Rep K M H (ds.getD i .non) (vs.getD i .non)
  | [], _, r, i => by rw [nil_of r]; simpa using rnon
  | d :: ds, _, r, 0 => by
    obtain ⟨v, vs, rfl, r1, _⟩ := cons_of r
    simpa using r1
  | d :: ds, _, r, i + 1 => by
    obtain ⟨v, vs, rfl, _, r2⟩ := cons_of r
    simpa using reps_getD r2 i
theorem reps_perm {ds : List D} {vs : List V} (r : Reps K M H ds vs) : ∀ perm : List Nat, Reps K M H (perm.map fun i => ds.getD i .non) (perm.map fun i => vs.getD i .non)
  | [] => rnil
  | i :: l => rcons (reps_getD r i) (reps_perm r l)
end
section
variable {X : Cx} {T : Gx} {E : XK} {a b o fe : Expr} {es : List Expr} {kws : List Keyword} {ks ps : List Str} {pos p apos kpos : Pos} {fs kfs : List DE} {x : Str} {lv j : Nat} {g : List D → W D} {f C : Addr} {fd : FuncData} {us : List Value} {tb : List (Addr × Str)} {fz : Bool} {nm : Option Str} {perm : List Nat} {e : DE}
theorem pk_imp {t t' : TA} (h : PK X kws t) (i : ∀ σ H Q, t' σ H Q → t σ H Q) : PK X kws t' := ⟨fun ps pins s σ H Q I q => h.run ps pins s σ H Q I (i σ H Q q)⟩
theorem dk_nil : PK X [] (tA X.K T E (dArgs [])) := pk_imp pk_nil (by
  rintro σ H Q ⟨ρ, S, post, xp, rl, k, h, q, _⟩
  exact q.now k h rnil)
theorem dk_cons {f : DE} {fs : List DE} (ha : PE X a (tE X.K T E f)) (hr : PK X kws (tA X.K T E (dArgs fs))) : PK X (⟨nm, a, kpos⟩ :: kws) (tA X.K T E (dArgs (f :: fs))) := pk_imp (pk_cons ha hr) (by
  rintro σ H Q ⟨ρ, S, post, xp, rl, k, h, q, x⟩
  refine ⟨ρ, S, _, xp, rl, k, h, ?_, x⟩
  intro d S1 v H1 h1 r1 k1 s1
  refine ⟨ρ, S1, _, xp, rl.step k s1, k1, h1, ?_, x.from s1⟩
  intro ds S2 vs H2 h2 r2 k2 s2
  exact q _ _ _ _ h2 (rcons (r1.step k1 s2) r2) k2 (s1.trans s2))
theorem callN_conv {K : PySem.W.Frag} {n : Nat} (hp : perm.length = n) {σ : L2.St} {H : Hp} {Q : VK} (h : tE K T E (dCallN g perm fs kfs) σ H Q) : tCallN fs.length kfs.length (spD K T.tab n g) (Px.permV perm) E (tA K T E (dArgs fs)) (tA K T E (dArgs kfs)) σ H Q := by
  obtain ⟨ρ, S, post, xp, rl, k, h, q, x⟩ := h
  refine ⟨ρ, S, _, xp, rl, k, (by unfold dCallN at h; rw [dArgs_len] at h; exact h), ?_, x⟩
  rintro ds S1 vs H1 ⟨l1, h1⟩ r1 k1 s1
  refine ⟨ρ, S1, _, xp, rl.step k s1, k1, (by rw [dArgs_len] at h1; exact h1), ?_, x.from s1⟩
  rintro es S2 zs H2 ⟨l2, h2⟩ r2 k2 s2
  refine ⟨by rw [r1.len, l1], by rw [r2.len, l2], ?_⟩
  exact spD_of (by rw [List.length_map, hp]) (reps_perm ((r1.step k1 s2).app r2) perm) k2 h2 (q.from (s1.trans s2)) (x.from (s1.trans s2))
theorem de_callN (F : DefOk X.prog X.w X.K X.mg X.base tb x ps lv g f fd) (hT : T.tab = tb) (hr : Room j X.A) (px : Passes (L2.CX X.prog X.w) X E) (kb : KBn X.K fd ps fs.length ks (Px.permU perm) (Px.permV perm)) (ha : PA X (a :: es) (tA X.K T E (dArgs fs))) (hk : PK X kws (tA X.K T E (dArgs kfs))) (hp : perm.length = ps.length := by rfl) (hkl : kfs.length = ks.length := by rfl)
    (hg : Gl X x := by rfl) (hj : Nat.ble lv j = true := by rfl) (hall : (backToKw pos (keywordEach kws X.env)).all (·.1.isSome) = true := by rfl) (hks : (backToKw pos (keywordEach kws X.env)).filterMap (·.1) = ks := by rfl)
    (hdb : (x == ("__debug__" : Str)) = false := by decide) (he : starEach (a :: es) X.env = (false, eval a X.env) :: starEach es X.env := by rfl)
    (hpl : ((backTo pos (starEach (a :: es) X.env)).any (·.1) || (backToKw pos (keywordEach kws X.env)).any (·.1.isNone)) = false := by rfl) : PE X (.Call (.Name x p) (a :: es) kws pos) (tE X.K T E (dCallN g perm fs kfs)) := by
  subst hT
  refine pe_imp (pe_callN F.ok (hr.mono (Nat.le_of_ble_eq_true hj)) hg F.at_ F.kp kb px ha hk hall hks hdb he hpl) fun σ H Q h => ?_
  rw [← hkl]
  exact callN_conv hp h
end
end Dw
set_option maxHeartbeats 2000000
namespace Dw
open PySem PySem.Spec PyProof.Rows L2
section
variable {X : Cx} {T : Gx} {E : XK}
structure BoolC (K : PySem.W.Frag) (C : Addr) : Prop where
  b : PySem.W.findIn K (.ref C) "__bool__" = some none
  l : PySem.W.findIn K (.ref C) "__len__" = some none
end
/-- o.m(..) of a built-in class: of which values, and what it gives -/
def dBm (ty : Sto → D → Prop) (g : D → List D → W D) (e : DE) (fs : List DE) : DE := fun ρ S post xp => e ρ S (fun d S1 => ty S1 d ∧ dArgs fs ρ S1 (fun ds S2 => g d ds S2 post xp) xp) xp
def rDm (K : PySem.W.Frag) (T : Gx) (E : XK) (g : D → List D → W D) : V → List V → Hp → VK → Prop := fun v vs H Q => ∃ d ds S post xp, Rep K (Mu T S) H d v ∧ Reps K (Mu T S) H ds vs ∧ Ok K T S H ∧ g d ds S post xp ∧ PostD K T (Rep K) S H post Q ∧ ExI K T E S H xp
def isL (S : Sto) (d : D) : Prop := match d with
  | .lst _ => True
  | .val (.ref a) => ∃ xs, S a = some (.lst xs)
  | _ => False
section
variable {X : Cx} {T : Gx} {E : XK} {a o : Expr} {es : List Expr} {pos apos cpos : Pos} {fs : List DE} {e : DE} {m : Str} {ty : Sto → D → Prop} {g : D → List D → W D} {id Ty : String}
theorem de_bm (pa : PlainAttrs Ty) (slot : Slot Ty m id) (hty : typeOf (.builtin id) = pure (.type "method_descriptor")) (hm : MtR X id (rDm X.K T E g)) (ht : ∀ {S : Sto} {H : Hp} {d : D} {v : V}, Ok X.K T S H → Rep X.K (Mu T S) H d v → ty S d → tyV X.K Ty v H) (ho : PE X o (tE X.K T E e)) (ha : PA X (a :: es) (tA X.K T E (dArgs fs)))
    (hbase : attributeBase o m X.env (eval o X.env) = eval o X.env := by rfl)
    (hfew : ((backTo cpos (starEach (a :: es) X.env)).all (fun x => !x.1) && (backToKw cpos (keywordEach [] X.env)).all (fun x => x.1.isSome)
      && decide ((a :: es).length + ([] : List Keyword).length + (if ([] : List Keyword).isEmpty then 0 else 1) < 30)) = true := by rfl)
    (hline : (apos.endLine == cpos.line) = true := by rfl) (hs : starEach (a :: es) X.env = (false, eval a X.env) :: starEach es X.env := by rfl) (hplain : (backTo cpos (starEach es X.env)).any (·.1) = false := by rfl) : PE X (.Call (.Attribute o m apos) (a :: es) [] cpos) (tE X.K T E (dBm ty g e fs)) :=
  pe_imp (pe_bm pa slot hty hm ho ha hbase hfew hline hs hplain) (by
    rintro σ H Q ⟨ρ, S, post, xp, rl, k, h, q, x⟩
    refine ⟨ρ, S, _, xp, rl, k, h, ?_, x⟩
    rintro d S1 v H1 ⟨t1, h1⟩ r1 k1 s1
    refine ⟨ht k1 r1 t1, ρ, S1, _, xp, rl.step k s1, k1, h1, ?_, x.from s1⟩
    intro ds S2 vs H2 h2 r2 k2 s2
    exact ⟨d, ds, S2, post, xp, r1.step k1 s2, r2, k2, h2, q.from (s1.trans s2), x.from (s1.trans s2)⟩)
theorem ty_list {S : Sto} {H : Hp} {d : D} {v : V} (k : Ok X.K T S H) (r : Rep X.K (Mu T S) H d v) (h : isL S d) : tyV X.K "list" v H := by
  unfold isL at h
  split at h
  · obtain ⟨a, xs, rfl, _, e, _⟩ := lst_of r
    exact .inl ⟨rfl, _, .inl (.inl e)⟩
  · obtain ⟨xs, h⟩ := h
    obtain rfl := val_of r
    obtain ⟨vs, e, _⟩ := k.cel _ _ h
    exact .inl ⟨rfl, _, .inl (.inl e)⟩
  · exact h.elim
/-- a change of a list: how -/
def chL (f : List D → Option (List D × D)) : D → W D
  | .val (.ref a) => fun S post _ => ∃ xs ys y, S a = some (.lst xs) ∧ xs.length < 1000 ∧ f xs = some (ys, y) ∧ post y (S.put a (.lst ys))
  | _ => fun _ _ _ => False
def gAppend : D → List D → W D := fun d ds => match ds with
  | [y] => chL (fun xs => some (xs ++ [y], .non)) d
  | _ => fun _ _ _ => False
theorem ch_post {S : Sto} {H : Hp} {Q : VK} {post : D → Sto → Prop} {ad : Addr} {xs ys : List D} {y : D} {vs ws : List V} {v : V} (k : Ok X.K T S H) (e : S ad = some (.lst xs)) (ha : H ad = some (.lst vs)) (r : Reps X.K (Mu T S) H ys ws) (ry : Rep X.K (Mu T S) H y v) (p : post y (S.put ad (.lst ys))) (q : PostD X.K T (Rep X.K) S H post Q) : Q v (upd H ad (.lst ws)) := by
  have st : Step T S H (S.put ad (.lst ys)) (upd H ad (.lst ws)) := step_put (.inr (.inl ⟨_, e⟩))
  exact q _ _ _ _ p (ry.step k st) (k.put (.inr ⟨_, e⟩) ⟨ws, upd_same, r.step k st⟩) st
theorem lim_sz {n : Nat} (h : n < 1000) : n < sizeLine := by rw [sizeLine_eq]; omega
theorem mg_append : MtR X "list.append" (rDm X.K T E gAppend) := by
  rintro pins s σ H v vs u us Q I ru rus ⟨d, ds, S, post, xp, rd, rds, k, h, q, x⟩
  unfold gAppend at h
  split at h
  · unfold chL at h
    split at h
    · obtain ⟨xs, ys, y', e, hl, hf, p⟩ := h
      cases hf
      obtain rfl := val_of rd
      obtain ⟨w, rfl, rw_⟩ := one_of rds
      obtain ⟨ws, ea, rx⟩ := k.cel _ _ e
      exact mt_append pins s σ H _ _ _ _ Q I ru rus ⟨_, ws, w, rfl, rfl, ea, lim_sz (by rw [rx.len]; exact hl), ch_post k e ea (rx.snoc rw_) rnon p q⟩
    · exact h.elim
  · exact h.elim
end
end Dw
set_option maxHeartbeats 2000000
set_option maxHeartbeats 2000000
namespace Dw
open PySem PySem.Spec PyProof.Rows L2
def cutD {α : Type} (xs : List α) (lo hi : Option Int) : List α := (xs.drop (HT.sIx xs.length 0 lo)).take (HT.sIx xs.length xs.length hi - HT.sIx xs.length 0 lo)
def gSl : D → Option Int → Option Int → W D
  | .lst xs, lo, hi => fun S post _ => post (.lst (cutD xs lo hi)) S
  | .tup xs, lo, hi => fun S post _ => post (.tup (cutD xs lo hi)) S
  | .scr ns, lo, hi => fun S post _ => post (.lst ((cutD ns lo hi).map .int)) S
  | .str z, lo, hi => fun S post _ => z.length ≤ sizeLine ∧ post (.str (cutS z lo hi)) S
  | .val (.ref a), lo, hi => fun S post _ => ∃ xs, S a = some (.lst xs) ∧ post (.lst (cutD xs lo hi)) S
  | _, _, _ => fun _ _ _ => False
/-- a part of a slice -/
abbrev DO := Lc → W (Option Int)
def dNoPart : DO := fun _ S post _ => post none S
def dPart (e : DE) : DO := fun ρ S post xp => e ρ S (fun d S' => match d with
  | .int i => post (some i) S'
  | _ => False) xp
def dSl (e : DE) (lo hi : DO) : DE := fun ρ S post xp => e ρ S (fun d S1 => lo ρ S1 (fun l S2 => hi ρ S2 (fun h S3 => gSl d l h S3 post xp) xp) xp) xp
def tOp_ (K : PySem.W.Frag) (T : Gx) (E : XK) (f : DO) : TO := fun σ H Q => ∃ ρ S post xp, RepL K (Mu T S) H ρ σ ∧ Ok K T S H ∧ f ρ S post xp ∧ PostD K T (fun _ _ (a b : Option Int) => a = b) S H post Q ∧ ExI K T E S H xp
section
variable {X : Cx} {T : Gx} {E : XK} {a : Expr} {lo hi : Option Expr} {pos p2 : Pos} {e : DE} {l h : DO}
theorem po_imp {x : Option Expr} {t t' : TO} (h : PO X x t) (i : ∀ σ H Q, t' σ H Q → t σ H Q) : PO X x t' := ⟨fun pins s σ H Q I q => h.run pins s σ H Q I (i σ H Q q)⟩
theorem do_none : PO X none (tOp_ X.K T E dNoPart) := po_imp po_none (by
  rintro σ H Q ⟨ρ, S, post, xp, rl, k, h, q, _⟩
  exact q.now k h rfl)
theorem do_some (he : PE X a (tE X.K T E e)) : PO X (some a) (tOp_ X.K T E (dPart e)) := po_imp (po_some he) (by
  rintro σ H Q ⟨ρ, S, post, xp, rl, k, h, q, x⟩
  refine ⟨ρ, S, _, xp, rl, k, h, ?_, x⟩
  intro d S1 v H1 h1 r1 k1 s1
  cases d with
  | int i => exact ⟨i, int_of r1, q _ _ _ _ h1 rfl k1 s1⟩
  | _ => exact False.elim h1)
def rSlD (K : PySem.W.Frag) (T : Gx) (E : XK) : V → Option Int → Option Int → Hp → VK → Prop := fun v lo hi H Q => ∃ d S post xp, Rep K (Mu T S) H d v ∧ Ok K T S H ∧ gSl d lo hi S post xp ∧ PostD K T (Rep K) S H post Q ∧ ExI K T E S H xp
theorem cut_rep {K : PySem.W.Frag} {M : Addr → Prop} {H : Hp} {ds : List D} {vs : List V} {lo hi : Option Int} (r : Reps K M H ds vs) : Reps K M H (cutD ds lo hi) (cutV vs lo hi) := by
  unfold cutD cutV
  rw [r.len]
  exact (r.drop _).take _
theorem reps_ints {K : PySem.W.Frag} {M : Addr → Prop} {H : Hp} : ∀ ns : List Int, Reps K M H (ns.map .int) (ns.map V.int)
  | [] => rnil
  | n :: ns => rcons (rint _) (reps_ints ns)
theorem cut_int {ns : List Int} {lo hi : Option Int} : cutV (ns.map V.int) lo hi = (cutD ns lo hi).map V.int := by
  unfold cutV cutD
  rw [List.length_map, List.map_take, List.map_drop]
theorem cut_all {K : PySem.W.Frag} {M : Addr → Prop} {H : Hp} {ds : List D} {vs : List V} {lo hi : Option Int} (r : Reps K M H ds vs) (e1 : HT.sIx vs.length 0 lo = 0) (e2 : HT.sIx vs.length vs.length hi = vs.length) : cutD ds lo hi = ds := by
  unfold cutD
  rw [r.len] at e1 e2
  rw [e1, e2, List.drop_zero, Nat.sub_zero, List.take_length]
theorem sl_D : SlR X (rSlD X.K T E) := by
  rintro pins s σ H x v vl vu lo hi sl Q I rx hs pl pu ⟨d, S, post, xp, rd, k, h, q, xx⟩
  unfold gSl at h
  split at h
  · obtain ⟨a, xs, rfl, _, e, rs⟩ := lst_of rd
    exact sl_list pins s σ H _ _ _ _ _ _ _ Q I rx hs pl pu ⟨a, xs, rfl, .inl (.inl e), fun p hp => q _ _ _ _ h (rlst (k.new hp) upd_same ((cut_rep rs).step k (step_new hp))) (k.laid hp) (step_new hp)⟩
  · obtain ⟨a, xs, rfl, e, rs⟩ := tup_of rd
    refine sl_tupA pins s σ H _ _ _ _ _ _ _ Q I rx hs pl pu ⟨a, xs, rfl, e, fun ⟨e1, e2⟩ => ?_, fun _ p hp => q _ _ _ _ h (rtup upd_same ((cut_rep rs).step k (step_new hp))) (k.laid hp) (step_new hp)⟩
    rw [cut_all rs e1 e2] at h
    exact q.now k h rd
  · rename_i ns _ _
    obtain ⟨a, rfl, e⟩ := scr_of rd
    exact sl_list pins s σ H _ _ _ _ _ _ _ Q I rx hs pl pu ⟨a, _, rfl, e, fun p hp => q _ _ _ _ h (rlst (k.new hp) upd_same (by rw [cut_int]; exact reps_ints _)) (k.laid hp) (step_new hp)⟩
  · obtain rfl := str_of rd
    exact sl_str pins s σ H _ _ _ _ _ _ _ Q I rx hs pl pu ⟨_, rfl, h.1, q.now k h.2 (rstr _)⟩
  · obtain rfl := val_of rd
    obtain ⟨xs, e0, h⟩ := h
    obtain ⟨vs, e, rs⟩ := k.cel _ _ e0
    exact sl_list pins s σ H _ _ _ _ _ _ _ Q I rx hs pl pu ⟨_, vs, rfl, .inl (.inl e), fun p hp => q _ _ _ _ h (rlst (k.new hp) upd_same ((cut_rep rs).step k (step_new hp))) (k.laid hp) (step_new hp)⟩
  · exact h.elim
theorem de_sl (he : PE X a (tE X.K T E e)) (hl : PO X lo (tOp_ X.K T E l)) (hh : PO X hi (tOp_ X.K T E h)) : PE X (.Subscript a (.Slice lo hi none p2) pos) (tE X.K T E (dSl e l h)) := pe_imp (pe_slice sl_D he hl hh) (by
  rintro σ H Q ⟨ρ, S, post, xp, rl, k, h0, q, x⟩
  refine ⟨ρ, S, _, xp, rl, k, h0, ?_, x⟩
  intro d S1 v H1 h1 r1 k1 s1
  refine ⟨ρ, S1, _, xp, rl.step k s1, k1, h1, ?_, x.from s1⟩
  rintro o S2 _ H2 h2 rfl k2 s2
  refine ⟨ρ, S2, _, xp, (rl.step k s1).step k1 s2, k2, h2, ?_, (x.from s1).from s2⟩
  rintro o' S3 _ H3 h3 rfl k3 s3
  have st := (s1.trans s2).trans s3
  exact ⟨d, S3, post, xp, (r1.step k1 s2).step k2 s3, k3, h3, q.from st, x.from st⟩)
end
/-- [cells, 0, 0, seed, 0] -/
def dBag (fs : List DE) : DE := fun ρ S post xp => dArgs fs ρ S (fun ds S' => ∃ ns y, ds = [.lst (ns.map .int), .int 0, .int 0, .int y, .int 0] ∧ 0 ≤ y ∧ y < 2147483648 ∧ ∀ a c, S' a = none → post (.val (.ref a)) (S'.put a (.bag c ns))) xp
section
variable {X : Cx} {T : Gx} {E : XK} {es : List Expr} {pos : Pos}
theorem de_bag {fs : List DE} (h : PA X es (tA X.K T E (dArgs fs))) : PE X (.List es pos) (tE X.K T E (dBag fs)) := pe_imp (pe_lst h) (by
  rintro σ H Q ⟨ρ, S, post, xp, rl, k, h, q, x⟩
  refine ⟨ρ, S, _, xp, rl, k, h, ?_, x⟩
  rintro ds S1 vs H1 ⟨ns, y, rfl, y0, y1, h1⟩ r1 k1 s1
  obtain ⟨v0, r, rfl, q0, r⟩ := cons_of r1
  obtain ⟨v1, r, rfl, q1, r⟩ := cons_of r
  obtain ⟨v2, r, rfl, q2, r⟩ := cons_of r
  obtain ⟨v3, r, rfl, q3, r⟩ := cons_of r
  obtain ⟨v4, r, rfl, q4, r⟩ := cons_of r
  obtain rfl := nil_of r
  obtain rfl := int_of q1
  obtain rfl := int_of q2
  obtain rfl := int_of q3
  obtain rfl := int_of q4
  obtain ⟨c, xs, rfl, nm, ec, rs⟩ := lst_of q0
  obtain rfl := reps_int rs
  refine ⟨by show 5 ≤ sizeLine; decide, fun p hp => ?_⟩
  have nec : c ≠ p := ne_of_none ec hp
  have s2 : Step T S1 H1 (S1.put p (.bag c ns)) (upd H1 p (.lst [.ref c, .int 0, .int 0, .int y, .int 0])) := step_put (.inl hp)
  have hc : upd H1 p (.lst [.ref c, .int 0, .int 0, .int y, .int 0]) c = some (.lst (ns.map V.int)) := by rw [upd_ne nec]; exact ec
  have nm2 : ¬ Mu T (S1.put p (.bag c ns)) c := (s2.mu _ _ ec nm).2
  exact q _ _ _ _ (h1 p c (k1.unsto hp)) (rval _) (k1.put (.inl hp) ⟨0, 0, y, 0, upd_same, ⟨nec, .inl (.inl hc), Int.le_refl _, Int.le_refl _, y0, y1⟩, .inl hc, nm2⟩) (s1.trans s2))
end
/-- a number is drawn -/
def gDraw : List D → W D
  | [.val (.ref b), .int n] => fun S post _ => (∃ c ns, S b = some (.bag c ns)) ∧ 0 < n ∧ n < 1073741824 ∧ ∀ r, 0 ≤ r → r < n → post (.int r) S
  | _ => fun _ _ _ => False
section
variable {K : PySem.W.Frag} {T : Gx} {S : Sto} {H H' : Hp}
theorem draw_ok {b c : Addr} {ns : List Int} (k : Ok K T S H) (e : S b = some (.bag c ns)) (hb : BagOk K b c ns H') (ex : ∀ a u, H a = some u → a ≠ b → H' a = some u) : Ok K T S H' ∧ Step T S H S H' := by
  have mb : Mv T S b := .inl ⟨_, e⟩
  have st : Step T S H S H' := fun a o h n => ⟨ex a o h fun z => n (by rw [z]; exact mb), n⟩
  obtain ⟨i, x, y, z, e1, A, hc, nc⟩ := k.cel b _ e
  refine ⟨⟨fun q hq => ?_, fun a ha => ?_, fun a m h => ?_⟩, st⟩
  · obtain ⟨ps, h1, h2, h3⟩ := k.tabs q hq
    refine ⟨ps, ex _ _ h1 fun z => ?_, h2, fun pos cv hcv => ?_⟩
    · rw [z, e1] at h1; cases h1
    · obtain ⟨c', a1, a2⟩ := h3 pos cv hcv
      refine ⟨c', a1, ex _ _ a2 fun z => ?_⟩
      rw [z, e1] at a2
      unfold LamX.CodeO at a2
      cases a2
  · obtain ⟨⟨xs, q1⟩, q2⟩ := k.bus a ha
    exact ⟨⟨xs, ex _ _ q1 fun z => by rw [z, e] at q2; cases q2⟩, q2⟩
  · by_cases z : a = b
    · subst z
      rw [e] at h
      cases h
      obtain ⟨i', x', y', z', e2, A'⟩ := hb
      have q := rd_keep st.mu nc hc
      exact ⟨i', x', y', z', e2, A', q.1, q.2⟩
    · refine (k.cel a m h).keep k st ?_
      have kd := k.kind (.inl (.inl ⟨m, h⟩))
      rcases kd with ⟨_, e3⟩ | ⟨_, _, _, e3⟩ | ⟨_, e3⟩ | ⟨_, e3⟩ | ⟨_, e3⟩ <;> rw [e3] <;> exact ex _ _ e3 z
end
theorem spD_imp {K : PySem.W.Frag} {tb : List (Addr × Str)} {n : Nat} {g g' : List D → W D} (h : ∀ ds S post xp, g' ds S post xp → g ds S post xp) {vs : List V} {H : Hp} {Q : VK} {E : XK} (q : spD K tb n g' vs H Q E) : spD K tb n g vs H Q E := by
  obtain ⟨T, ds, S, post, xp, a, b, c, d, e, f⟩ := q
  exact ⟨T, ds, S, post, xp, a, b, c, d, h _ _ _ _ e, f⟩
theorem DefOk.imp {P : Program} {w : World} {K : PySem.W.Frag} {mg : Str → Option Value} {base : Heap} {tb : List (Addr × Str)} {x : Str} {ps : List Str} {lv : Nat} {g g' : List D → W D} {f : Addr} {fd : FuncData} (F : DefOk P w K mg base tb x ps lv g f fd) (h : ∀ ds S post xp, g' ds S post xp → g ds S post xp) : DefOk P w K mg base tb x ps lv g' f fd :=
  ⟨F.at_, F.kp, F.bd, F.ok.imp fun vs H Q E q => spD_imp h q⟩
end Dw
set_option maxHeartbeats 2000000
namespace Dw
open PySem PySem.Spec PyProof.Rows L2
def cSeq (e : DE) : DC := fun ρ S post xp => e ρ S (fun d S' => match d with
  | .lst xs => post xs S'
  | .tup xs => post xs S'
  | _ => False) xp
section
variable {X : Cx} {T : Gx} {E : XK} {a tg : Expr} {f : DE}
theorem ci_seq (he : PE X a (tE X.K T E f)) : PI X tg a (tI X.K T E (cSeq f)) := by
  refine ⟨fun pins s σ H R I ⟨ρ, S, post, xp, rl, k, h, q, x⟩ => ?_⟩
  refine thn (he.run pins s σ H _ I ⟨ρ, S, _, xp, rl, k, h, fun d S1 v H1 h1 r1 k1 s1 => (⟨d, S1, h1, r1, k1, s1⟩ : ∃ d S1, (match d with
    | .lst xs => post xs S1
    | .tup xs => post xs S1
    | _ => False) ∧ Rep X.K (Mu T S1) H1 d v ∧ Ok X.K T S1 H1 ∧ Step T S H S1 H1), x⟩) ?_
  rintro u s1 ⟨v, H1, I1, rv, d, S1, h1, r1, k1, st⟩
  cases d with
  | lst ds =>
    obtain ⟨ad, xs, rfl, nm, e, rs⟩ := lst_of r1
    obtain rfl : u = Value.ref ad := rv
    obtain ⟨its, rv', p, hz⟩ := I1.list (.inl (.inl e))
    refine wpAny_pyIter_list p.isList ?_
    refine ⟨s1.heap.objs.size, [s1.heap.objs.size], _, _, H1, rfl, I1.kept (t' := s1.toks) fun b o e => Heap.get?_push_of_some _ e, turn_list ad _, ⟨_, Heap.get?_push_size _ rfl, rfl, rfl⟩, fun b hb => ?_, q _ _ _ _ h1 k1 st (src_list k1 nm e rs)⟩
    have e : b = s1.heap.objs.size := by simpa using hb
    subst e
    exact I1.fpOk (Nat.le_refl _) (I1.hok.fresh (Nat.le_refl _))
  | tup ds =>
    obtain ⟨ad, xs, rfl, e, rs⟩ := tup_of r1
    obtain rfl : u = Value.ref ad := rv
    obtain ⟨its, rv', p, hz⟩ := I1.tuple e
    refine wpAny_pyIter_tuple (show s1.heap.IsTuple ad its.toArray from p) ?_
    refine ⟨s1.heap.objs.size, [s1.heap.objs.size], _, _, H1, rfl, I1.kept (t' := s1.toks) fun b o e => Heap.get?_push_of_some _ e, turn_tuple ad _, ⟨_, Heap.get?_push_size _ rfl, rfl, rfl⟩, fun b hb => ?_, q _ _ _ _ h1 k1 st (src_tup k1 e rs)⟩
    have e : b = s1.heap.objs.size := by simpa using hb
    subst e
    exact I1.fpOk (Nat.le_refl _) (I1.hok.fresh (Nat.le_refl _))
  | _ => exact False.elim h1
end
end Dw
set_option maxHeartbeats 2000000
namespace Dw
open PySem PySem.Spec PyProof.Rows L2
section
variable {P : Program} {w : World} {K : PySem.W.Frag} {mg : Str → Option Value} {base : Heap} {tb : List (Addr × Str)} {x qual : Str} {f : Addr} {fd : FuncData} {ps ks : List Str}
theorem fund_okD {params : Arguments} {body : List Stmt} {scope : Scope} {dvs : List V} {kws : List (Str × V)} {N : List Str} {k m : Nat} {u : DS} (F : FunD K x qual params body scope dvs kws f fd) (S : FnScope N ps scope) (hm : N.length = m := by rfl)
    (hb : ∀ (T : Gx) (cdv : Value) (A : Around) (outer : List Env) (s : Shared) (H : Hp) (E : XK), T.tab = tb → Room k (A.deeper (envOfC qual scope s.heap.objs.size f cdv)) →
      PSs (cxOf (L2.CX P w) P w K mg base N qual scope f cdv A outer s H E) body (tS K T E u)) : FnOk P w K mg base (L2.CX P w) (k + 1) f fd ps (spD K tb ps.length (dDef m u)) := by
  refine F.ok S (fun vs H Q E h => ?_) fun cdv A outer s H vs Q E hr h => ?_
  · obtain ⟨T, ds, S, post, xp, _, l, r, _⟩ := h
    rw [r.len, l]
  · obtain ⟨T, ds, S0, post, xp, et, l, r, ok, g, q, x⟩ := h
    refine ⟨_, hb T cdv A outer s H E et hr, ?_⟩
    refine ⟨_, S0, _, def_start r hm, ok, g, ?_, q, fun _ _ _ _ z => z.elim, fun _ _ _ _ z => z.elim, x⟩
    intro ρ' S' σ' H' h' _ k' s'
    exact q _ _ _ _ h' rnon k' s'
theorem fund_full {params : Arguments} {body : List Stmt} {scope : Scope} {dvs : List V} (F : FunD K x qual params body scope dvs [] f fd) (n : Nat) (hd : dvs ≠ []) (hn : n = ps.length)
    (h : ∀ (T : Addr) (kV doc pm : Value) (an : Option Addr) (cdv ct : Value) (us its : List Value), us.length = n → its.length = dvs.length →
      ∃ k, bindArgs (PySem.W.fnOf x qual params body scope (.ref T) kV doc pm an cdv ct) ⟨us, []⟩ = seqItems? (.ref T) >>= k ∧ k (some its.toArray) = pure (ps.zip (us ++ its.drop dvs.length))) : Binds K fd ps [] := by
  obtain ⟨ds, r, hb⟩ := F.binds1 (ps := ps) n dvs.length hd (by omega) h
  rw [List.drop_length] at r
  cases r
  exact hb
end
section
variable {X : Cx} {T : Gx} {E : XK} {st : Stmt}
theorem ds_never : PS X st (tS X.K T E fun _ _ _ => False) := ⟨fun _ _ _ _ _ _ ⟨_, _, _, _, _, h, _⟩ => h.elim⟩
end
end Dw
set_option maxHeartbeats 2000000
namespace Dw
open PySem PySem.Spec PyProof.Rows L2
section
variable {P : Program} {w : World} {K : PySem.W.Frag} {mg : Str → Option Value} {base : Heap} {tb : List (Addr × Str)} {x : Str} {ps : List Str} {lv lv' : Nat} {g : List D → W D} {gs : Nat → List D → W D} {f : Addr} {fd : FuncData} {N : Nat}
theorem defOk_no (M : mg x = some (.ref f)) (kp : PySem.W.keepIn K (.ref f) = true) (bd : Binds K fd ps []) : DefOk P w K mg base tb x ps lv (fun _ _ _ _ => False) f fd :=
  ⟨M, kp, bd, ⟨fun _ _ _ _ ⟨_, _, _, _, _, _, _, _, _, h, _⟩ => h.elim, fun _ _ _ _ _ _ _ _ _ _ _ _ _ ⟨_, _, _, _, _, _, _, _, _, h, _⟩ => h.elim⟩⟩
theorem defOk_up (F : DefOk P w K mg base tb x ps lv g f fd) (h : lv ≤ lv') : DefOk P w K mg base tb x ps lv' g f fd := ⟨F.at_, F.kp, F.bd, F.ok.mono h⟩
theorem defOk_ex (F0 : DefOk P w K mg base tb x ps lv' g f fd) (F : ∀ n, n ≤ N → DefOk P w K mg base tb x ps lv (gs n) f fd) : DefOk P w K mg base tb x ps lv (fun ds S post xp => ∃ n, n ≤ N ∧ gs n ds S post xp) f fd :=
  ⟨F0.at_, F0.kp, F0.bd, ⟨fun vs H Q E ⟨T, ds, S, post, xp, a, b, c, d, ⟨n, hn, e⟩, q, x⟩ => (F n hn).ok.len vs H Q E ⟨T, ds, S, post, xp, a, b, c, d, e, q, x⟩,
    fun A outer s H args us vs Q E hr e0 hb r ⟨T, ds, S, post, xp, a, b, c, d, ⟨n, hn, e⟩, q, x⟩ => (F n hn).ok.run A outer s H args us vs Q E hr e0 hb r ⟨T, ds, S, post, xp, a, b, c, d, e, q, x⟩⟩⟩
end
end Dw
set_option maxHeartbeats 2000000
set_option maxHeartbeats 2000000
namespace Dw
open PySem PySem.Spec PyProof.Rows L2 He Px
structure DefX where
  ad : PySem.W.Frag → Addr
  name : Str
  qual : Str
  params : Arguments
  body : List Stmt
  scope : Scope
  dfl : List Dv := []
  free : List Str := []
  kwd : List (Str × Dv) := []
abbrev FnX : Type := Option (Str × Str × Arguments × FuncBody × Scope × Addr × List Str × Addr)
def fnX (K : PySem.W.Frag) (d : DefX) : FnX := match K.lookup (d.ad K) with
  | some ⟨_, _, .func fd, _⟩ => some (fd.name, fd.qualname, fd.params, fd.body, fd.scope, fd.globals, fd.closure.map (·.1), fd.builtins)
  | _ => none
def DefX.val (d : DefX) : FnX := some (d.name, d.qual, d.params, .stmts d.body, d.scope, mainGlobals, d.free, builtinsNs)
def DefX.dvs (K : PySem.W.Frag) (d : DefX) : List V := d.dfl.map (Dv.v K)
def DefX.kws (K : PySem.W.Frag) (d : DefX) : List (Str × V) := d.kwd.map fun q => (q.1, q.2.v K)
def DefX.ok (K : PySem.W.Frag) (d : DefX) : Bool := PySem.W.keepIn K (.ref (d.ad K)) && (match K.lookup (d.ad K) with
  | some ⟨_, _, .func fd, _⟩ => PySem.W.codeIn K fd.code d.qual && (dflB K fd.defaults (d.dvs K) && kwdB K fd.kwdefaults (d.kws K))
  | _ => false)
theorem DefX.funD {K : PySem.W.Frag} {d : DefX} (e : fnX K d = d.val) (c : d.ok K = true) (hf : d.free = []) : ∃ fd, FunD K d.name d.qual d.params d.body d.scope (d.dvs K) (d.kws K) (d.ad K) fd := by
  obtain ⟨kp, c2⟩ := ba c
  unfold fnX at e
  cases q : K.lookup (d.ad K) with
  | none =>
    rw [q] at c2
    cases c2
  | some o =>
    obtain ⟨oc, od, dt, osl⟩ := o
    rw [q] at c2 e
    cases dt with
    | func fd =>
      obtain ⟨n1, n2, n3, n4, n5, n6, n7, n8, n9, n10, n11, n12, n13, n14, n15⟩ := fd
      have e2 : (some (n1, n2, n3, n4, n5, n6, n7.map (·.1), n15) : FnX) = some (d.name, d.qual, d.params, .stmts d.body, d.scope, mainGlobals, d.free, builtinsNs) := e
      rw [hf] at e2
      simp only [Option.some.injEq, Prod.mk.injEq, List.map_eq_nil_iff] at e2
      obtain ⟨h1, h2, h3, h4, h5, h6, h7, h8⟩ := e2
      subst h1 h2 h3 h4 h5 h6 h7 h8
      have c3 : (PySem.W.codeIn K n13 d.qual && (dflB K n8 (d.dvs K) && kwdB K n9 (d.kws K))) = true := c2
      obtain ⟨k1, k2⟩ := ba c3
      obtain ⟨k3, k4⟩ := ba k2
      exact ⟨_, ⟨oc, od, n8, n9, n10, n11, n12, n13, n14, osl, rfl, q, k1, dflB_ok k3, kwdB_ok k4⟩, kp⟩
    | _ => cases c2
def visitF : List Addr → List Addr → Nat → (List Addr → Nat → List Addr) → List Addr
  | [], acc, m, k => k acc m
  | b :: bs, acc, m, k => match Nat.testBit m b with
    | true => visitF bs acc m k
    | false => visitF bs (b :: acc) (m ||| 1 <<< b) k
def levelF (g : Addr → Option Obj) : List Addr → List Addr → Nat → (List Addr → Nat → List Addr) → List Addr
  | [], acc, m, k => k acc m
  | a :: as, acc, m, k => match g a with
    | some o => visitF (refsD o) acc m fun acc m => levelF g as acc m k
    | none => levelF g as acc m k
def reachF (g : Addr → Option Obj) : Nat → List Addr → Nat → List Addr
  | 0, fr, _ => fr
  | n + 1, fr, m => fr ++ levelF g fr [] m fun acc m => reachF g n acc m
def KF (g : Addr → Option Obj) (n : Nat) : PySem.W.Frag := frT g (PySem.cStatics :: reachF g n [mainGlobals] (1 <<< mainGlobals))
abbrev AlY : Type := Bool × List FnX
def obsY (fa : List Fa) (fx : List DefX) (tf : List Defn) (ex : List (PySem.W.Frag → Bool)) (g : Addr → Option Obj) (K : PySem.W.Frag) : AlY := ((fa.all fun f => f.ok K) && ((fx.all fun d => d.ok K) && ((ex.all fun f => f K) && tabsB g tf K)), fx.map fun d => fnX K d)
def valY (fx : List DefX) : AlY := (true, fx.map DefX.val)
structure SaysY (fa : List Fa) (fx : List DefX) (tf : List Defn) (ex : List (PySem.W.Frag → Bool)) (h : Heap) (K : PySem.W.Frag) : Prop where
  fa_ : ∀ f ∈ fa, f.ok K = true
  fx_ : ∀ d ∈ fx, d.ok K = true ∧ fnX K d = d.val
  ex_ : ∀ f ∈ ex, f K = true
  hd : ∀ p ∈ tf, PySem.W.codeHdIn K (cT K p).1 (cT K p).2 = true
  out : ∀ p ∈ tf, K.lookup (cT K p).2 = none
  empty : ∀ p ∈ tf, h.get? (cT K p).2 = some { cls := .none, data := .fields #[] }
theorem saysY_of {n : Nat} {fa : List Fa} {fx : List DefX} {tf : List Defn} {ex : List (PySem.W.Frag → Bool)} {h : Heap} (e : obsY fa fx tf ex h.get? (KF h.get? n) = valY fx) : SaysY fa fx tf ex h (KF h.get? n) := by
  have e1 : ((fa.all fun f => f.ok (KF h.get? n)) && ((fx.all fun d => d.ok (KF h.get? n)) && ((ex.all fun f => f (KF h.get? n)) && tabsB h.get? tf (KF h.get? n)))) = true := congrArg (fun z : AlY => z.1) e
  have e2 : (fx.map fun d => fnX (KF h.get? n) d) = fx.map DefX.val := congrArg (fun z : AlY => z.2) e
  obtain ⟨x1, x2⟩ := ba e1
  obtain ⟨x3, x4⟩ := ba x2
  obtain ⟨x5, x6⟩ := ba x4
  have at_ : ∀ p ∈ tf, PySem.W.codeHdIn (KF h.get? n) (cT (KF h.get? n) p).1 (cT (KF h.get? n) p).2 = true ∧ ∃ o, h.get? (cT (KF h.get? n) p).2 = some o ∧ emptyTab o = true := by
    intro p hp
    obtain ⟨y1, y2⟩ := ba (List.all_eq_true.mp x6 p hp)
    refine ⟨y1, ?_⟩
    split at y2
    · rename_i o q
      exact ⟨o, q, y2⟩
    · cases y2
  refine ⟨List.all_eq_true.mp x1, fun d hd => ⟨List.all_eq_true.mp x3 d hd, ?_⟩, List.all_eq_true.mp x5, fun p hp => (at_ p hp).1, ?_, ?_⟩
  · obtain ⟨i, hi, rfl⟩ := List.mem_iff_getElem.mp hd
    have e4 : (fx.map fun d => fnX (KF h.get? n) d)[i]? = (fx.map DefX.val)[i]? := by rw [e2]
    rw [List.getElem?_map, List.getElem?_map, List.getElem?_eq_getElem hi] at e4
    exact Option.some.inj e4
  · intro p hp
    obtain ⟨_, o, q, z⟩ := at_ p hp
    exact frT_none q z
  · intro p hp
    obtain ⟨_, o, q, z⟩ := at_ p hp
    rw [q, emptyTab_eq z]
def hookY (n : Nat) (fa : List Fa) (fx : List DefX) (tf : List Defn) (ex : List (PySem.W.Frag → Bool)) : PySem.W.Hook where
  α := AlY
  obs := fun s => obsY fa fx tf ex s.heap.get? (KF s.heap.get? n)
  val := fun _ => valY fx
  says := fun _ h => ∃ K : PySem.W.Frag, K.In h ∧ SaysY fa fx tf ex h K
  of := fun _ _ e => ⟨_, frT_in, saysY_of e⟩
  keeps := fun _ _ _ ⟨K, hK, c⟩ k => ⟨K, PySem.W.Frag.In.keeps hK k, ⟨c.fa_, c.fx_, c.ex_, c.hd, c.out, fun p hp => k _ _ (c.empty p hp)⟩⟩
section
variable {fa : List Fa} {fx : List DefX} {tf : List Defn} {ex : List (PySem.W.Frag → Bool)} {h : Heap} {K : PySem.W.Frag}
theorem SaysY.fact (c : SaysY fa fx tf ex h K) (i : Nat) {f : Fa} (e : fa[i]? = some f := by rfl) : f.ok K = true := c.fa_ f (List.mem_of_getElem? e)
theorem SaysY.more (c : SaysY fa fx tf ex h K) (i : Nat) {f : PySem.W.Frag → Bool} (e : ex[i]? = some f := by rfl) : f K = true := c.ex_ f (List.mem_of_getElem? e)
theorem SaysY.funD (c : SaysY fa fx tf ex h K) (i : Nat) {d : DefX} (e : fx[i]? = some d := by rfl) (hf : d.free = [] := by rfl) : ∃ fd, FunD K d.name d.qual d.params d.body d.scope (d.dvs K) (d.kws K) (d.ad K) fd :=
  let z := c.fx_ d (List.mem_of_getElem? e); DefX.funD z.2 z.1 hf
end
section
variable {K : PySem.W.Frag}
def boolB (K : PySem.W.Frag) (cs : List Addr) : Bool := cs.all fun c => eqO (PySem.W.findIn K (.ref c) "__bool__") (some none) && eqO (PySem.W.findIn K (.ref c) "__len__") (some none)
theorem boolB_ok {cs : List Addr} (h : boolB K cs = true) : ∀ C ∈ cs, BoolC K C := fun C hC => by
  obtain ⟨h1, h2⟩ := ba (List.all_eq_true.mp h C hC)
  exact ⟨eqO_ok h1, eqO_ok h2⟩
def clsB (K : PySem.W.Frag) (C : Addr) : Bool := PySem.W.plainGet K C Str.empty && (PySem.W.hasDictIn K C && (PySem.W.plainOver K C && eqO (PySem.W.findIn K (.ref C) "__setattr__") (some (some (.builtin "object.__setattr__")))))
theorem clsB_ok {C : Addr} (h : clsB K C = true) : Cls K C := by
  obtain ⟨h1, h⟩ := ba h
  obtain ⟨h2, h⟩ := ba h
  obtain ⟨h3, h4⟩ := ba h
  exact ⟨h1, h2, h3, eqO_ok h4⟩
def isiCB (K : PySem.W.Frag) (C : Addr) : Bool := clsB K C && (eqO (PySem.W.findIn K (.ref C) "__class__") (some (some (.builtin "object.__class__"))) && (eqO (PySem.W.specialIn K (.builtin "object.__class__") "__get__") (some (some (.builtin "getset_descriptor.__get__"))) && (decide (PySem.W.takesIn K (.builtin "object.__class__") = some true) &&
  (decide (PySem.W.mroIn K C (.type "object") = some true) && decide (PySem.W.kitOne K (.ref C) (.ref C) = some true)))))
theorem isiCB_ok {C : Addr} (h : isiCB K C = true) : IsiC K C := by
  obtain ⟨h1, h⟩ := ba h
  obtain ⟨h2, h⟩ := ba h
  obtain ⟨h3, h⟩ := ba h
  obtain ⟨h4, h⟩ := ba h
  obtain ⟨h5, h6⟩ := ba h
  exact ⟨clsB_ok h1, eqO_ok h2, eqO_ok h3, of_decide_eq_true h4, of_decide_eq_true h5, of_decide_eq_true h6⟩
def isiKB (K : PySem.W.Frag) (cs : List Addr) : Bool := (cs.all fun c => isiCB K c) && ((cs.all fun c => cs.all fun c' => decide (c = c') || decide (PySem.W.kitOne K (.ref c) (.ref c') = some false)) && ((cs.all fun c => tyNames.all fun n => decide (PySem.W.kitOne K (.type n) (.ref c) = some false)) && (cs.all fun c => tyNames.all fun n => decide (PySem.W.kitOne K (.ref c) (.type n) = some false))))
theorem isiKB_ok {cs : List Addr} (h : isiKB K cs = true) : IsiK K cs := by
  obtain ⟨h1, h⟩ := ba h
  obtain ⟨h2, h⟩ := ba h
  obtain ⟨h3, h4⟩ := ba h
  refine ⟨fun c hc => isiCB_ok (List.all_eq_true.mp h1 c hc), fun c hc c' hc' ne => ?_, fun c hc n hn => of_decide_eq_true (List.all_eq_true.mp (List.all_eq_true.mp h3 c hc) n hn), fun c hc n hn => of_decide_eq_true (List.all_eq_true.mp (List.all_eq_true.mp h4 c hc) n hn)⟩
  have z := List.all_eq_true.mp (List.all_eq_true.mp h2 c hc) c' hc'
  rcases Bool.or_eq_true_iff.mp z with z | z
  · exact absurd (of_decide_eq_true z) ne
  · exact of_decide_eq_true z
mutual
def kD (K : PySem.W.Frag) : D → Value → Bool
  | .non, .none => true
  | .bl b, .bool c => b == c
  | .int i, .int j _ => decide (i = j)
  | .str s, .str t _ => decide (s = t)
  | .tup ds, .ref a => (match K.lookup a with
    | some ⟨.type c, _, .seq its _, _⟩ => decide (c = "tuple") && (decide (its.size ≤ sizeLine) && (okc ds && kDs K ds its.toList))
    | _ => false)
  | _, _ => false
def kDs (K : PySem.W.Frag) : List D → List Value → Bool
  | [], [] => true
  | d :: ds, u :: us => kD K d u && kDs K ds us
  | _, _ => false
end
mutual
theorem kD_ok : ∀ {d : D} {u : Value}, kD K d u = true → ∃ v, L2.RelV v u ∧ ∀ M H, Rep K M H d v
  | .non, u, h => by
    cases u <;> first | (exact ⟨.non, rfl, fun _ _ => rnon⟩) | (unfold kD at h; cases h)
  | .bl b, u, h => by
    cases u <;> first | (unfold kD at h; obtain rfl := beq_iff_eq.mp h; exact ⟨.bl _, rfl, fun _ _ => rbl _⟩) | (unfold kD at h; cases h)
  | .int i, u, h => by
    cases u <;> first | (unfold kD at h; obtain rfl := of_decide_eq_true h; exact ⟨.int _, ⟨_, rfl⟩, fun _ _ => rint _⟩) | (unfold kD at h; cases h)
  | .str i, u, h => by
    cases u <;> first | (unfold kD at h; obtain rfl := of_decide_eq_true h; exact ⟨.str _, ⟨_, rfl⟩, fun _ _ => rstr _⟩) | (unfold kD at h; cases h)
  | .tup ds, u, h => by
    cases u with
    | ref a =>
      unfold kD at h
      split at h
      · rename_i c dd its n sl e
        obtain ⟨h1, h⟩ := ba h
        obtain ⟨h2, h3⟩ := ba h
        obtain ⟨h4, h3⟩ := ba h3
        obtain ⟨vs, rv, rr⟩ := kDs_ok h3
        exact ⟨.ref a, rfl, fun M H => rtupK ⟨.inr ⟨_, its, n, e, congrArg Value.type (of_decide_eq_true h1), rfl, of_decide_eq_true h2, rv⟩, fun z => by rw [okc_key h4 (rr M H)] at z; cases z⟩ (rr M H)⟩
      · cases h
    | _ => unfold kD at h; cases h
  | .lst _, u, h => by cases u <;> (unfold kD at h; cases h)
  | .ins _ _ _, u, h => by cases u <;> (unfold kD at h; cases h)
  | .dK _ _, u, h => by cases u <;> (unfold kD at h; cases h)
  | .dT _ _, u, h => by cases u <;> (unfold kD at h; cases h)
  | .val _, u, h => by cases u <;> (unfold kD at h; cases h)
  | .fn _ _ _ _ _, u, h => by cases u <;> (unfold kD at h; cases h)
  | .scr _, u, h => by cases u <;> (unfold kD at h; cases h)
  | .exc _ _ _ _, u, h => by cases u <;> (unfold kD at h; cases h)
theorem kDs_ok : ∀ {ds : List D} {us : List Value}, kDs K ds us = true → ∃ vs, Vals vs us ∧ ∀ M H, Reps K M H ds vs
  | [], us, h => by
    cases us with
    | nil => exact ⟨[], .nil, fun _ _ => rnil⟩
    | cons u us => unfold kDs at h; cases h
  | d :: ds, us, h => by
    cases us with
    | nil => unfold kDs at h; cases h
    | cons u us =>
      unfold kDs at h
      obtain ⟨h1, h2⟩ := ba h
      obtain ⟨v, r1, r2⟩ := kD_ok h1
      obtain ⟨vs, s1, s2⟩ := kDs_ok h2
      exact ⟨v :: vs, .cons r1 s1, fun M H => rcons (r2 M H) (s2 M H)⟩
end
/-- a name of the module -/
def gloB (K : PySem.W.Frag) (x : Str) (d : D) : Bool := match PySem.W.nsIn K mainGlobals x with
  | some (some u) => kD K d u
  | _ => false
theorem gloB_ok {h : Heap} {mg : Str → Option Value} (X : K.In h) (G : h.Ns mainGlobals mg) {x : Str} {d : D} (c : gloB K x d = true) : ∃ u v, mg x = some u ∧ L2.RelV v u ∧ ∀ M H, Rep K M H d v := by
  unfold gloB at c
  split at c
  · rename_i u e
    obtain ⟨v, r1, r2⟩ := kD_ok c
    exact ⟨u, v, PySem.W.mg_of X G e, r1, r2⟩
  · cases c
end
end Dw
set_option maxHeartbeats 2000000
namespace Dw
open PySem PySem.Spec PyProof.Rows L2 He Px
theorem law_end {K : PySem.W.Frag} {tb : List (Addr × Str)} {g : List D → W D} {H : Hp} {a : Addr} {ns : List Int} (hT : ∀ p ∈ tb, H p.1 = some (.tbl #[])) (hK : ∀ p ∈ tb, K.lookup p.1 = none) (hS : SqL K H a (ns.map V.int)) (h : g [.scr ns] (fun _ => none) (fun d _ => d = .bl true) noX) :
    spD K tb 1 g [.ref a] H (fun v _ => v = .bl true) fun _ _ _ => False := by
  refine ⟨⟨tb, []⟩, [.scr ns], fun _ => none, fun d _ => d = .bl true, noX, rfl, rfl, rcons (rscr (fun ⟨o, ho⟩ z => ?_) hS) rnil, ⟨fun p hp => LamX.TabS.nil (hT p hp), (fun _ z => nomatch z), (fun _ _ z => nomatch z)⟩, h, ?_, fun _ _ _ _ _ z => z.elim⟩
  · rcases z with (⟨m, z⟩ | ⟨q, z⟩) | z
    · cases z
    · have t := hT _ z
      have nl := hK _ z
      dsimp only at t nl
      rcases hS with (s | ⟨u, s⟩) | ⟨o, its, n, s, _⟩
      · rw [t] at s; cases s
      · rw [t] at s; cases s
      · rw [nl] at s; cases s
    · cases z
  · rintro d S' v H' rfl r _ _
    exact bl_of r
theorem cx_no {P : Program} {w : World} {H : Hp} {s : Shared} {e : Value} {s' : Shared} (h : L2.CX P w [] H s (fun _ _ _ => False) e s') : False := by
  obtain ⟨_, _, _, _, _, _, _, _, _, _, _, _, z⟩ := h
  exact z
end Dw
set_option maxHeartbeats 2000000
namespace Dw
open PySem PySem.Spec PyProof.Rows L2
theorem set_self : ∀ {σ : L2.St} {i : Nat} {v : V}, σ[i]? = some (some v) → σ.set i (some v) = σ
  | [], _, _, h => by simp at h
  | _ :: _, 0, _, h => by simp at h; subst h; rfl
  | x :: σ, i + 1, _, h => by simp at h; rw [List.set_cons_succ, set_self (by simpa using h)]
end Dw
set_option maxHeartbeats 2000000
set_option maxHeartbeats 2000000
set_option maxHeartbeats 2000000
set_option maxHeartbeats 2000000
namespace Dw
open PySem PySem.Spec PyProof.Rows L2 StX
def dFrzE (e : DE) : DE := fun ρ S post xp => e ρ S (fun d S1 => frz d S1 post) xp
theorem de_frzE {X : Cx} {T : Gx} {E : XK} {a : Expr} {e : DE} (h : PE X a (tE X.K T E e)) : PE X a (tE X.K T E (dFrzE e)) := pe_imp h (by
  rintro σ H Q ⟨ρ, S, post, xp, rl, k, h, q, x⟩
  refine ⟨ρ, S, _, xp, rl, k, h, ?_, x⟩
  intro d S1 v H1 h1 r1 k1 s1
  obtain ⟨d', S5, p5, r5, k5, s5⟩ := frz_ok k1 r1 h1
  exact q _ _ _ _ p5 r5 k5 (s1.trans s5))
end Dw
set_option maxHeartbeats 2000000
set_option maxHeartbeats 2000000
set_option maxHeartbeats 2000000
set_option maxHeartbeats 2000000
set_option maxHeartbeats 2000000
set_option maxHeartbeats 2000000
set_option maxHeartbeats 2000000
namespace Dw
open PySem PySem.Spec PyProof.Rows L2
def keyD : D → Option Key
  | .str z => some (.inr z)
  | .int i => some (.inl i)
  | _ => none
def keyV : Key → D
  | .inl i => .int i
  | .inr z => .str z
section
variable {K : PySem.W.Frag} {M : Addr → Prop} {H : Hp}
theorem key_of {d : D} {k : Key} {v : V} (h : keyD d = some k) (r : Rep K M H d v) : v = kV k := by
  cases d with
  | str z => cases h; exact str_of r
  | int i => cases h; exact int_of r
  | _ => cases h
end
section
variable {X : Cx} {K : PySem.W.Frag} {T : Gx} {E : XK}
theorem room_u1 {k : Nat} {A : Around} (r : Room k A) : A.units + 1 < cLine := by have := r.un; omega
end
end Dw
set_option maxHeartbeats 1000000
namespace Dw
open PySem PySem.Spec PyProof.Rows L2
theorem wipe_same {σ τ : L2.St} {vs : List Nat} (h : L2.wipe τ vs = L2.wipe (L2.wipe σ vs) vs) : L2.wipe τ vs = L2.wipe σ vs := by
  rw [h]
  apply List.ext_getElem?
  intro j
  by_cases hj : j ∈ vs
  · rw [wipe_in hj]
    cases q : (L2.wipe σ vs)[j]? with
    | none => rfl
    | some o => rw [wipe_in hj] at q; cases e : σ[j]? with
      | none => rw [e] at q; cases q
      | some _ => rw [e] at q; cases q; rfl
  · rw [L2.wipe_out hj]
end Dw
set_option maxHeartbeats 2000000
set_option maxHeartbeats 3200000
namespace Dw
open PySem PySem.Spec PyProof.Rows L2
def txK (e : Int × Value) : Str := match e.2 with
  | .str x _ => x
  | _ => Str.empty
def GoodT (wo : World) (e : Int × Value) : Prop := ∃ x tk, e.2 = Value.str x tk ∧ e.1 = hashStr wo x
/-- the set at a has these members -/
structure SetT (wo : World) (h : Heap) (a : Addr) (ks : List Str) : Prop where
  ex : ∃ (o : Obj) (es : Array (Int × Value)) (ep : Nat) (t : SetTable), (h.get? a = some o ∧ o.ExactSet ∧ o.data = .set es ep t) ∧ (∀ e ∈ es.toList, GoodT wo e) ∧ (es.toList.map txK).Perm ks ∧ t.fits es.size = true ∧ Ris t.place.toList ∧ (wo.params.followText "set-order" = true ∨ t.led = true)
  nd : ks.Nodup
  few : ks.length < scanBound
section
variable {P : Program} {wo : World} {h h' : Heap} {a : Addr} {ks : List Str}
theorem SetT.keep (R : SetT wo h a ks) (k : ∀ o, h.get? a = some o → h'.get? a = some o) : SetT wo h' a ks := by
  obtain ⟨⟨o, es, ep, t, ⟨ho, r1, r2⟩, r⟩, nd, few⟩ := R
  exact ⟨⟨o, es, ep, t, ⟨k o ho, r1, r2⟩, r⟩, nd, few⟩
end
section
variable {X : Cx} {K : PySem.W.Frag} {T : Gx} {E : XK}
/-- the items of a list, changing or not -/
def lstD (S : Sto) : D → Option (List D)
  | .lst xs => some xs
  | .val (.ref a) => (match S a with
    | some (.lst xs) => some xs
    | _ => none)
  | _ => none
theorem lstD_of {S : Sto} {H : Hp} {d : D} {v : V} {ds : List D} (k : Ok K T S H) (r : Rep K (Mu T S) H d v) (h : lstD S d = some ds) : ∃ a vs, v = .ref a ∧ SqL K H a vs ∧ Reps K (Mu T S) H ds vs := by
  unfold lstD at h
  split at h
  · cases h
    obtain ⟨a, vs, rfl, _, sq, rs⟩ := lst_of r
    exact ⟨a, vs, rfl, .inl (.inl sq), rs⟩
  · rename_i a
    obtain rfl := val_of r
    split at h
    · rename_i xs e
      cases h
      obtain ⟨vs, sq, rs⟩ := k.cel a _ e
      exact ⟨a, vs, rfl, .inl (.inl sq), rs⟩
    · cases h
  · cases h
end
end Dw
set_option maxHeartbeats 1000000
namespace Dw
open PySem PySem.Spec PyProof.Rows L2
def wLi (ρ : Lc) (t : Tgt) (elt : DE) (p : Addr) : List D → Sto → (Sto → Prop) → Prop
  | [], S, post => post S
  | d :: ds, S, post => bT t d ρ fun ρ' => elt ρ' S (fun y S2 => ∃ acc, S2 p = some (.lst acc) ∧ acc.length < 4000 ∧ wLi ρ t elt p ds (S2.put p (.lst (acc ++ [y]))) post) noX
def wLo (ρ : Lc) (t : Tgt) (src : DC) (vs1 : List Nat) (t1 : Tgt) (elt : DE) (p : Addr) : List D → Sto → (Sto → Prop) → Prop
  | [], S, post => post S
  | d :: ds, S, post => bT t d ρ fun ρ' => src ρ' S (fun es S1 => es.length ≤ 1000 ∧ wLi (wipeL ρ' vs1) t1 elt p es S1 fun S2 => wLo ρ t src vs1 t1 elt p ds S2 post) noX
/-- the list goes on changing -/
def dLc2M (vs vs1 : List Nat) (t : Tgt) (src : DC) (t1 : Tgt) (src1 : DC) (elt : DE) : DE := fun ρ S post xp => src ρ S (fun ds S1 => ds.length ≤ 1000 ∧ ∀ p, S1 p = none → wLo (wipeL ρ vs) t src1 vs1 t1 elt p ds (S1.put p (.lst [])) fun S2 => post (.val (.ref p)) S2) xp
/-- the list changes no more -/
def dLc2 (vs vs1 : List Nat) (t : Tgt) (src : DC) (t1 : Tgt) (src1 : DC) (elt : DE) : DE := dFrzE (dLc2M vs vs1 t src t1 src1 elt)
section
variable {X : Cx} {T : Gx} {E : XK} {t t1 : Tgt} {src src1 : DC} {elt : DE} {iter tg iter1 tg1 e : Expr} {sc : Scope} {own : List (Str × Nat)} {vs1 : List Nat} {ps : Pos}
theorem lc2M_conv (hv : ∀ i ∈ sT t, i ∈ own.map (·.2)) (hv1 : ∀ i ∈ sT t1, i ∈ vs1) : ∀ {σ : L2.St} {H : Hp} {Q : VK}, tE X.K T E (dLc2M (own.map (·.2)) vs1 t src t1 src1 elt) σ H Q → tLc2 (tI X.K T E src) (gT X.K t) tYes (tI X.K T E0 src1) (gT X.K t1) tYes (tE X.K T E0 elt) (own.map (·.2)) vs1 σ H Q := by
  rintro σ H Q ⟨ρ, S, post, xp, rl, k, h, q, x⟩
  refine ⟨ρ, S, _, xp, rl, k, h, ?_, x⟩
  rintro ds Sa J Ha ⟨hl, ha⟩ ka sa so p np
  have un := ka.unsto np
  have wa := ha p un
  have kb : Ok X.K T (Sa.put p (.lst [])) (upd Ha p (.lst [])) := ka.put (.inl np) ⟨[], upd_same, rnil⟩
  have sb : Step T Sa Ha (Sa.put p (.lst [])) (upd Ha p (.lst [])) := step_put (.inl np)
  refine ⟨fun i m G => m = ds.length - i ∧ i ≤ ds.length ∧ ∃ S', Ok X.K T S' G ∧ Step T Sa Ha S' G ∧ wLo (wipeL ρ (own.map (·.2))) t src1 vs1 t1 elt p (ds.drop i) S' fun S2 => post (.val (.ref p)) S2,
    ⟨ds.length, by simp, Nat.zero_le _, _, kb, sb, by rw [List.drop_zero]; exact wa⟩, ?_⟩
  rintro i m G ⟨rfl, hi', S', k', s', hw⟩
  obtain ⟨so1, so2⟩ := so T.busy (fun a z => .inl z) S' G k' s' i
  by_cases hlt : i < ds.length
  · obtain ⟨hgo, hy⟩ := so2 _ (List.getElem?_eq_getElem hlt)
    rw [List.drop_eq_getElem_cons hlt] at hw
    unfold wLo at hw
    refine .inr ⟨hgo, fun G2 => ∃ S2, Ok X.K T S2 G2 ∧ Step T Sa Ha S2 G2 ∧ wLo (wipeL ρ (own.map (·.2))) t src1 vs1 t1 elt p (ds.drop (i + 1)) S2 fun S3 => post (.val (.ref p)) S3, fun G2 z => ⟨ds.length - (i + 1), by omega, rfl, hlt, z⟩, ?_⟩
    intro v G2 hyl
    obtain ⟨rv, k2, s2⟩ := hy v G2 hyl
    have k2' : Ok X.K T S' G2 := k2
    have s2' : Step T S' G S' G2 := s2
    have rl2 : RepL X.K (Mu T S') G2 ρ σ := ((rl.step k sa).step ka s').step k' s2'
    refine gT_ok t hw rv (rl2.wipe _) fun ρ2 σ2 hb rl3 hw2 => ⟨wipe_same (hw2 _ hv), ?_⟩
    dsimp only [tYes]
    rw [if_pos rfl]
    refine ⟨ρ2, S', _, noX, rl3, k2', hb, ?_, noX_ex⟩
    rintro es S3 J1 G3 ⟨hl3, h3⟩ k3 s3 so3
    have st3 := (s'.trans s2').trans s3
    refine ⟨fun j n F => n = es.length - j ∧ j ≤ es.length ∧ ∃ S4, Ok X.K T S4 F ∧ Step T S3 G3 S4 F ∧ wLi (wipeL ρ2 vs1) t1 elt p (es.drop j) S4 fun S5 => wLo (wipeL ρ (own.map (·.2))) t src1 vs1 t1 elt p (ds.drop (i + 1)) S5 fun S6 => post (.val (.ref p)) S6,
      ⟨es.length, by simp, Nat.zero_le _, S3, k3, Step.refl _ _, by rw [List.drop_zero]; exact h3⟩, ?_⟩
    rintro j n F ⟨rfl, hj, S4, k4, s4, hw4⟩
    obtain ⟨so4, so5⟩ := so3 T.busy (fun a z => .inl z) S4 F k4 s4 j
    by_cases hlt1 : j < es.length
    · obtain ⟨hgo1, hy1⟩ := so5 _ (List.getElem?_eq_getElem hlt1)
      rw [List.drop_eq_getElem_cons hlt1] at hw4
      unfold wLi at hw4
      refine .inr ⟨hgo1, fun F2 => ∃ S5, Ok X.K T S5 F2 ∧ Step T S3 G3 S5 F2 ∧ wLi (wipeL ρ2 vs1) t1 elt p (es.drop (j + 1)) S5 fun S6 => wLo (wipeL ρ (own.map (·.2))) t src1 vs1 t1 elt p (ds.drop (i + 1)) S6 fun S7 => post (.val (.ref p)) S7, fun F2 z => ⟨es.length - (j + 1), by omega, rfl, hlt1, z⟩, ?_⟩
      intro v1 F2 hyl1
      obtain ⟨rv1, k5, s5⟩ := hy1 v1 F2 hyl1
      have k5' : Ok X.K T S4 F2 := k5
      have s5' : Step T S4 F S4 F2 := s5
      have rl4 : RepL X.K (Mu T S4) F2 ρ2 σ2 := ((rl3.step k2' s3).step k3 s4).step k4 s5'
      refine gT_ok t1 hw4 rv1 (rl4.wipe _) fun ρ3 σ3 hb1 rl5 hw5 => ⟨wipe_same (hw5 _ hv1), ?_⟩
      dsimp only [tYes]
      rw [if_pos rfl]
      refine ⟨ρ3, S4, _, noX, rl5, k5', hb1, ?_, noX_ex⟩
      rintro dv S7 yv F7 ⟨acc, e7, hl7, h7⟩ r7 k7 s7
      obtain ⟨xs, e1, e3⟩ := k7.cel p _ e7
      have s8 : Step T S7 F7 (S7.put p (.lst (acc ++ [dv]))) (upd F7 p (.lst (xs ++ [yv]))) := step_put (.inr (.inl ⟨_, e7⟩))
      have k8 : Ok X.K T (S7.put p (.lst (acc ++ [dv]))) (upd F7 p (.lst (xs ++ [yv]))) := k7.put (.inr ⟨_, e7⟩) ⟨_, upd_same, (e3.step k7 s8).snoc (r7.step k7 s8)⟩
      refine ⟨xs, e1, by rw [e3.len]; exact Nat.lt_of_lt_of_le hl7 (by decide), _, k8, ?_, h7⟩
      exact ((s4.trans s5').trans s7).trans s8
    · have e : j = es.length := by omega
      subst e
      rw [List.drop_length] at hw4
      unfold wLi at hw4
      exact .inl ⟨so4 (Nat.le_refl _), S4, k4, st3.trans s4, hw4⟩
  · have e : i = ds.length := by omega
    subst e
    rw [List.drop_length] at hw
    unfold wLo at hw
    exact .inl ⟨so1 (Nat.le_refl _), q _ _ _ _ hw (rval _) k' (sa.trans s')⟩
theorem de_lc2M (hN : X.N.Nodup) (hi : PI X tg iter (tI X.K T E src)) (ok : BlkOk X.N X.env.scope sc own) (hv : ∀ i ∈ sT t, i ∈ own.map (·.2)) (hv1 : ∀ i ∈ sT t1, i ∈ vs1) (hv2 : ∀ i ∈ vs1, i ∈ own.map (·.2))
    (hg : ∀ (s : Shared) (H : Hp) (C : Addr) (cl : List (Str × Addr)) (fp : List Addr), PG (X.blk s H sc (compEnvC sc cl C X.env) fp) tg (gT X.K t))
    (hi1 : ∀ (s : Shared) (H : Hp) (C : Addr) (cl : List (Str × Addr)) (fp : List Addr), PI (X.blk s H sc (compEnvC sc cl C X.env) fp) tg1 iter1 (tI X.K T E0 src1))
    (hg1 : ∀ (s : Shared) (H : Hp) (C : Addr) (cl : List (Str × Addr)) (fp : List Addr), PG (X.blk s H sc (compEnvC sc cl C X.env) fp) tg1 (gT X.K t1))
    (he : ∀ (s : Shared) (H : Hp) (C : Addr) (cl : List (Str × Addr)) (fp : List Addr), PE (X.blk s H sc (compEnvC sc cl C X.env) fp) e (tE X.K T E0 elt))
    (hc : X.calm = true := by rfl) (fs : ∀ y, foldedSetIterable iter X.env y = pure y := by intro _; rfl) (fs1 : ∀ en y, foldedSetIterable iter1 en y = pure y := by intro _ _; rfl) :
    PE X (.ListComp e [⟨tg, iter, [], 0⟩, ⟨tg1, iter1, [], 0⟩] sc ps) (tE X.K T E (dLc2M (own.map (·.2)) vs1 t src t1 src1 elt)) :=
  pe_imp (pe_lc2 (tt := tYes) (tt1 := tYes) hc hN hi ok hv2 hg (fun _ _ _ _ _ => pts_nil) hi1 hg1 (fun _ _ _ _ _ => pts_nil) he fs fs1) fun σ H Q h => lc2M_conv hv hv1 h
theorem de_lc2 (hN : X.N.Nodup) (hi : PI X tg iter (tI X.K T E src)) (ok : BlkOk X.N X.env.scope sc own) (hv : ∀ i ∈ sT t, i ∈ own.map (·.2)) (hv1 : ∀ i ∈ sT t1, i ∈ vs1) (hv2 : ∀ i ∈ vs1, i ∈ own.map (·.2))
    (hg : ∀ (s : Shared) (H : Hp) (C : Addr) (cl : List (Str × Addr)) (fp : List Addr), PG (X.blk s H sc (compEnvC sc cl C X.env) fp) tg (gT X.K t))
    (hi1 : ∀ (s : Shared) (H : Hp) (C : Addr) (cl : List (Str × Addr)) (fp : List Addr), PI (X.blk s H sc (compEnvC sc cl C X.env) fp) tg1 iter1 (tI X.K T E0 src1))
    (hg1 : ∀ (s : Shared) (H : Hp) (C : Addr) (cl : List (Str × Addr)) (fp : List Addr), PG (X.blk s H sc (compEnvC sc cl C X.env) fp) tg1 (gT X.K t1))
    (he : ∀ (s : Shared) (H : Hp) (C : Addr) (cl : List (Str × Addr)) (fp : List Addr), PE (X.blk s H sc (compEnvC sc cl C X.env) fp) e (tE X.K T E0 elt))
    (hc : X.calm = true := by rfl) (fs : ∀ y, foldedSetIterable iter X.env y = pure y := by intro _; rfl) (fs1 : ∀ en y, foldedSetIterable iter1 en y = pure y := by intro _ _; rfl) :
    PE X (.ListComp e [⟨tg, iter, [], 0⟩, ⟨tg1, iter1, [], 0⟩] sc ps) (tE X.K T E (dLc2 (own.map (·.2)) vs1 t src t1 src1 elt)) := de_frzE (de_lc2M hN hi ok hv hv1 hv2 hg hi1 hg1 he hc fs fs1)
end
end Dw
set_option maxHeartbeats 2000000
namespace Dw
open PySem PySem.Spec PyProof.Rows L2
section
variable {X : Cx} {K : PySem.W.Frag} {T : Gx} {E : XK}
theorem vals2 {a b : V} {us : List Value} (r : Vals [a, b] us) : ∃ u1 u2, us = [u1, u2] ∧ L2.RelV a u1 ∧ L2.RelV b u2 := by
  cases r with
  | cons r1 rs => cases rs with
    | cons r2 rt => cases rt; exact ⟨_, _, rfl, r1, r2⟩
end
end Dw
set_option maxHeartbeats 2000000
set_option maxHeartbeats 1000000
set_option maxHeartbeats 2000000
set_option maxHeartbeats 2000000
namespace Dw
open PySem PySem.Spec PySem.W PySem.Calls PyProof.Rows L2 He Px HeadRun
theorem left_impY {p q : Program} {loose : List PySem.Str} {Xt : Shared → Bool} {n : Nat} {fa : List Fa} {fx : List DefX} {tf : List Defn} {ex : List (PySem.W.Frag → Bool)} {N : Nat}
    (run1 : ∀ w : World, (wholeF (fun p => stepQ (denQ tabQ) p w) fenceQ N p).map (fun x => (looksF p x.1.heap x.2.abs, seenQ q loose (importedModules p.main.body) Xt x.2.abs)) = some (true, openGood q loose))
    (run2 : ∀ w : World, (wholeF (fun p => stepQ (denQ tabQ) p w) fenceQ N p).map (fun x => obsY fa fx tf ex (getT x.2) (KF (getT x.2) n)) = some (valY fx)) :
    LeftO p q loose Xt (Hook.obs (hookY n fa fx tf ex)) (Hook.val (hookY n fa fx tf ex)) N true :=
  left_imp fun w => by
    rw [wholeQ_eq]
    simp only [seenQ_eq]
    have z1 := run1 w
    have z2 := run2 w
    cases e : wholeF (fun p => stepQ (denQ tabQ) p w) fenceQ N p with
    | none =>
      rw [e] at z1
      cases z1
    | some x =>
      rw [e] at z1 z2
      have y1 := Option.some.inj z1
      have y2 : obsY fa fx tf ex (getT x.2) (KF (getT x.2) n) = valY fx := Option.some.inj z2
      have g : getT x.2 = x.2.abs.heap.get? := funext fun a => getT_eq x.2 a
      rw [g] at y2
      have y3 : looksF p x.1.heap x.2.abs = true := congrArg Prod.fst y1
      have y4 : seenQ q loose (importedModules p.main.body) Xt x.2.abs = openGood q loose := congrArg Prod.snd y1
      show some (looksF p x.1.heap x.2.abs, seenQ q loose (importedModules p.main.body) Xt x.2.abs, obsY fa fx tf ex x.2.abs.heap.get? (KF x.2.abs.heap.get? n)) = some (true, openGood q loose, valY fx)
      rw [y3, y4, y2]
/-- the view of a top: the statements of these places -/
def viewOf (p : Program) (is : List Nat) : Program := { p with main := { p.main with body := is.filterMap fun i => p.main.body[i]? } }
end Dw
namespace Dw
open PySem PySem.Spec PyProof.Rows L2
/-- a fraction as the program lays it -/
abbrev fr (x : Rat) : D := .tup [.int x.num, .int (x.den : Int)]
theorem at2_0 {α : Type} (a b : α) : atI [a, b] 0 = some a := rfl
theorem at2_1 {α : Type} (a b : α) : atI [a, b] 1 = some b := rfl
theorem eqD_int (i j : Int) : eqD (.int i) (.int j) = decide (i = j) := by
  unfold eqD toPd PyData.eqv
  by_cases h : i = j <;> simp [h]
theorem eqD_bl (i j : Bool) : eqD (.bl i) (.bl j) = (i == j) := by
  unfold eqD toPd PyData.eqv
  rfl
theorem eqD_str (i j : Str) : eqD (.str i) (.str j) = (i == j) := by
  unfold eqD toPd PyData.eqv
  rfl
theorem eqD_tup0 : eqD (.tup []) (.tup []) = true := by
  simp only [eqD, toPd, toPds, PyData.eqv, PyData.eqvAll]
theorem eqD_tup (x y : D) (xs ys : List D) : eqD (.tup (x :: xs)) (.tup (y :: ys)) = (eqD x y && eqD (.tup xs) (.tup ys)) := by
  simp only [eqD, toPd, toPds, PyData.eqv, PyData.eqvAll]
theorem okEq_int (i : Int) : okEq (.int i) = true := rfl
theorem okEq_bl (i : Bool) : okEq (.bl i) = true := rfl
theorem eqD_fr (x y : Rat) : eqD (fr x) (fr y) = decide (x = y) := by
  unfold fr
  rw [eqD_tup, eqD_tup, eqD_tup0, eqD_int, eqD_int]
  by_cases h : x = y
  · subst h; simp
  · rw [decide_eq_false h]
    by_cases h1 : x.num = y.num
    · by_cases h2 : (x.den : Int) = y.den
      · exact absurd (Rat.ext h1 (by omega)) h
      · rw [decide_eq_false h2]; simp
    · rw [decide_eq_false h1]; simp
theorem okEq_fr (x : Rat) : okEq (fr x) = true := rfl
theorem dDef_1_1 (u : DS) (a0 : D) (S : Sto) (post : D → Sto → Prop) (xp : Xp) : dDef 2 u [a0] S post xp = u [some a0, none] S { nx := fun _ S' => post .non S', rt := post, xp := xp } := by exact id rfl
theorem dDef_1_2 (u : DS) (a0 : D) (S : Sto) (post : D → Sto → Prop) (xp : Xp) : dDef 3 u [a0] S post xp = u [some a0, none, none] S { nx := fun _ S' => post .non S', rt := post, xp := xp } := by exact id rfl
theorem dDef_1_3 (u : DS) (a0 : D) (S : Sto) (post : D → Sto → Prop) (xp : Xp) : dDef 4 u [a0] S post xp = u [some a0, none, none, none] S { nx := fun _ S' => post .non S', rt := post, xp := xp } := by exact id rfl
theorem dDef_1_4 (u : DS) (a0 : D) (S : Sto) (post : D → Sto → Prop) (xp : Xp) : dDef 5 u [a0] S post xp = u [some a0, none, none, none, none] S { nx := fun _ S' => post .non S', rt := post, xp := xp } := by exact id rfl
theorem dDef_2_0 (u : DS) (a0 a1 : D) (S : Sto) (post : D → Sto → Prop) (xp : Xp) : dDef 2 u [a0, a1] S post xp = u [some a0, some a1] S { nx := fun _ S' => post .non S', rt := post, xp := xp } := by exact id rfl
theorem dDef_2_1 (u : DS) (a0 a1 : D) (S : Sto) (post : D → Sto → Prop) (xp : Xp) : dDef 3 u [a0, a1] S post xp = u [some a0, some a1, none] S { nx := fun _ S' => post .non S', rt := post, xp := xp } := by exact id rfl
theorem dDef_2_2 (u : DS) (a0 a1 : D) (S : Sto) (post : D → Sto → Prop) (xp : Xp) : dDef 4 u [a0, a1] S post xp = u [some a0, some a1, none, none] S { nx := fun _ S' => post .non S', rt := post, xp := xp } := by exact id rfl
theorem dDef_2_8 (u : DS) (a0 a1 : D) (S : Sto) (post : D → Sto → Prop) (xp : Xp) : dDef 10 u [a0, a1] S post xp = u [some a0, some a1, none, none, none, none, none, none, none, none] S { nx := fun _ S' => post .non S', rt := post, xp := xp } := by exact id rfl
theorem dDef_3_4 (u : DS) (a0 a1 a2 : D) (S : Sto) (post : D → Sto → Prop) (xp : Xp) : dDef 7 u [a0, a1, a2] S post xp = u [some a0, some a1, some a2, none, none, none, none] S { nx := fun _ S' => post .non S', rt := post, xp := xp } := by exact id rfl
theorem put_del {S : Sto} {p : Addr} {m : MC} (h : S p = none) : (S.put p m).del p = S := by
  funext b
  unfold Sto.put Sto.del
  by_cases e : b = p
  · subst e; simp [h]
  · simp [e]
theorem bT_nm {i : Nat} {d : D} {ρ : Lc} {k : Lc → Prop} : bT (.nm i) d ρ k = k (ρ.set i (some d)) := by unfold bT; rfl
class SzC (x : Rat) (n : outParam Nat) : Prop where
  h : Px.SzR n x
theorem SzC.up {x : Rat} {n m : Nat} (a : SzC x n) (h : n ≤ m) : SzC x m := ⟨a.h.mono h⟩
theorem szone {x : Rat} {n : Nat} (a : Px.SzR n x) : 1 ≤ n := by
  have h := a.2
  unfold Px.Sz at h
  have := x.den_pos
  rcases n with _ | n
  · simp at h; omega
  · omega
instance {x y : Rat} {n m : Nat} [a : SzC x n] [b : SzC y m] : SzC (x + y) (n + m + 1) := ⟨Px.szr_add a.h b.h (Nat.le_refl _)⟩
instance {x y : Rat} {n m : Nat} [a : SzC x n] [b : SzC y m] : SzC (x - y) (n + m + 1) := ⟨Px.szr_sub a.h b.h (Nat.le_refl _)⟩
instance {x y : Rat} {n m : Nat} [a : SzC x n] [b : SzC y m] : SzC (x * y) (n + m) := ⟨Px.szr_mul a.h b.h (Nat.le_refl _)⟩
instance {x : Rat} {n : Nat} [a : SzC x n] : SzC (-x) n := ⟨Px.szr_neg a.h⟩
theorem szr_inv {x : Rat} {n : Nat} (a : Px.SzR n x) : Px.SzR n x⁻¹ := by
  by_cases h : x = 0
  · subst h
    rw [Rat.inv_zero]
    exact (Px.szr_lit 1 0).mono (szone a)
  · conv => rhs; rw [Px.rat_eq x, Rat.inv_divInt]
    exact Px.divInt_sz a.2 a.1 (Px.num_ne h)
instance {x : Rat} {n : Nat} [a : SzC x n] : SzC x⁻¹ n := ⟨szr_inv a.h⟩
instance {x y : Rat} {n m : Nat} [a : SzC x n] [b : SzC y m] : SzC (x / y) (n + m) := ⟨by rw [Rat.div_def]; exact Px.szr_mul a.h (szr_inv b.h) (Nat.le_refl _)⟩
instance : SzC 0 1 := ⟨Px.szr_lit 1 0⟩
instance : SzC 1 1 := ⟨Px.szr_lit 1 1⟩
instance : SzC (-1) 1 := ⟨Px.szr_lit 1 (-1)⟩
end Dw
namespace Dw
open PySem PySem.Spec PyProof.Rows L2
theorem dSeq_m (a b : DS) (ρ : Lc) (S : Sto) (nx : Lc → Sto → Prop) (rt : D → Sto → Prop) (bk ct : Lc → Sto → Prop) (xp : Xp) : dSeq a b ρ S ⟨nx, rt, bk, ct, xp⟩ = a ρ S ⟨fun ρ' S' => b ρ' S' ⟨nx, rt, bk, ct, xp⟩, rt, bk, ct, xp⟩ := by exact id rfl
theorem dNext_m  (ρ : Lc) (S : Sto) (nx : Lc → Sto → Prop) (rt : D → Sto → Prop) (bk ct : Lc → Sto → Prop) (xp : Xp) : dNext ρ S ⟨nx, rt, bk, ct, xp⟩ = nx ρ S := by exact id rfl
theorem dSet_m (i : Nat) (e : DE) (ρ : Lc) (S : Sto) (nx : Lc → Sto → Prop) (rt : D → Sto → Prop) (bk ct : Lc → Sto → Prop) (xp : Xp) : dSet i e ρ S ⟨nx, rt, bk, ct, xp⟩ = e ρ S (fun d S' => nx (ρ.set i (some d)) S') xp := by exact id rfl
theorem dRet_m (e : DE) (ρ : Lc) (S : Sto) (nx : Lc → Sto → Prop) (rt : D → Sto → Prop) (bk ct : Lc → Sto → Prop) (xp : Xp) : dRet e ρ S ⟨nx, rt, bk, ct, xp⟩ = e ρ S rt xp := by exact id rfl
theorem dExpr_m (e : DE) (ρ : Lc) (S : Sto) (nx : Lc → Sto → Prop) (rt : D → Sto → Prop) (bk ct : Lc → Sto → Prop) (xp : Xp) : dExpr e ρ S ⟨nx, rt, bk, ct, xp⟩ = e ρ S (fun _ S' => nx ρ S') xp := by exact id rfl
theorem dIfS_m (c : DT) (a b : DS) (ρ : Lc) (S : Sto) (nx : Lc → Sto → Prop) (rt : D → Sto → Prop) (bk ct : Lc → Sto → Prop) (xp : Xp) : dIfS c a b ρ S ⟨nx, rt, bk, ct, xp⟩ = c ρ S (fun k S' => if k = true then a ρ S' ⟨nx, rt, bk, ct, xp⟩ else b ρ S' ⟨nx, rt, bk, ct, xp⟩) xp := by exact id rfl
theorem dPar_m (is : List Nat) (fs : List DE) (ρ : Lc) (S : Sto) (nx : Lc → Sto → Prop) (rt : D → Sto → Prop) (bk ct : Lc → Sto → Prop) (xp : Xp) : dPar is fs ρ S ⟨nx, rt, bk, ct, xp⟩ = dArgs fs ρ S (fun ds S' => nx (setL ρ is ds) S') xp := by exact id rfl
def mTup (d : D) (n : Nat) (k : List D → Prop) : Prop := match d with
  | .tup ds => ds.length = n ∧ k ds
  | _ => False
theorem mTup_t (ds : List D) (n : Nat) (k : List D → Prop) : mTup (.tup ds) n k = (ds.length = n ∧ k ds) := by exact id rfl
theorem dUnp_m (is : List Nat) (e : DE) (ρ : Lc) (S : Sto) (nx : Lc → Sto → Prop) (rt : D → Sto → Prop) (bk ct : Lc → Sto → Prop) (xp : Xp) : dUnp is e ρ S ⟨nx, rt, bk, ct, xp⟩ = e ρ S (fun d S' => mTup d is.length fun ds => nx (setL ρ is ds) S') xp := by exact id rfl
theorem setL_c (ρ : Lc) (i : Nat) (is : List Nat) (d : D) (ds : List D) : setL ρ (i :: is) (d :: ds) = setL (ρ.set i (some d)) is ds := by exact id rfl
theorem setL_n (ρ : Lc) : setL ρ [] [] = ρ := by exact id rfl
theorem dWhile_m (c : DT) (b : DS) (ρ : Lc) (S : Sto) (nx : Lc → Sto → Prop) (rt : D → Sto → Prop) (bk ct : Lc → Sto → Prop) (xp : Xp) : dWhile c b ρ S ⟨nx, rt, bk, ct, xp⟩ = ∃ n, wWhile c b n ρ S ⟨nx, rt, bk, ct, xp⟩ := by exact id rfl
theorem dFor_m (t : Tgt) (src : DC) (b : DS) (ρ : Lc) (S : Sto) (nx : Lc → Sto → Prop) (rt : D → Sto → Prop) (bk ct : Lc → Sto → Prop) (xp : Xp) : dFor t src b ρ S ⟨nx, rt, bk, ct, xp⟩ = src ρ S (fun ds S' => wFor t b ds ρ S' ⟨nx, rt, bk, ct, xp⟩) xp := by exact id rfl
theorem wFor_n (t : Tgt) (b : DS) (ρ : Lc) (S : Sto) (nx : Lc → Sto → Prop) (rt : D → Sto → Prop) (bk ct : Lc → Sto → Prop) (xp : Xp) : wFor t b [] ρ S ⟨nx, rt, bk, ct, xp⟩ = nx ρ S := by unfold wFor; rfl
theorem wFor_c (t : Tgt) (b : DS) (d : D) (ds : List D) (ρ : Lc) (S : Sto) (nx : Lc → Sto → Prop) (rt : D → Sto → Prop) (bk ct : Lc → Sto → Prop) (xp : Xp) : wFor t b (d :: ds) ρ S ⟨nx, rt, bk, ct, xp⟩ = bT t d ρ fun ρ' => b ρ' S ⟨fun ρ2 S2 => wFor t b ds ρ2 S2 ⟨nx, rt, bk, ct, xp⟩, rt, nx, fun ρ2 S2 => wFor t b ds ρ2 S2 ⟨nx, rt, bk, ct, xp⟩, xp⟩ := by
  conv => lhs; unfold wFor
def mSeq (d : D) (k : List D → Prop) : Prop := match d with
  | .lst xs => k xs
  | .tup xs => k xs
  | _ => False
theorem mSeq_l (xs : List D) (k : List D → Prop) : mSeq (.lst xs) k = k xs := by exact id rfl
theorem cSeq_m (e : DE) (ρ : Lc) (S : Sto) (post : List D → Sto → Prop) (xp : Xp) : cSeq e ρ S post xp = e ρ S (fun d S' => mSeq d fun xs => post xs S') xp := by exact id rfl
def mBl (d : D) (k : Bool → Prop) : Prop := match d with
  | .bl b => k b
  | _ => False
theorem mBl_b (b : Bool) (k : Bool → Prop) : mBl (.bl b) k = k b := by exact id rfl
theorem dtVal_m (f : DE) (ρ : Lc) (S : Sto) (post : Bool → Sto → Prop) (xp : Xp) : dtVal f ρ S post xp = f ρ S (fun d S' => mBl d fun b => post b S') xp := by exact id rfl
theorem dtNot_m (c : DT) (ρ : Lc) (S : Sto) (post : Bool → Sto → Prop) (xp : Xp) : dtNot c ρ S post xp = c ρ S (fun b S' => post (!b) S') xp := by exact id rfl
theorem dtAnd_m (a b : DT) (ρ : Lc) (S : Sto) (post : Bool → Sto → Prop) (xp : Xp) : dtAnd a b ρ S post xp = a ρ S (fun k S1 => if k = true then b ρ S1 post xp else post false S1) xp := by exact id rfl
theorem dtOr_m (a b : DT) (ρ : Lc) (S : Sto) (post : Bool → Sto → Prop) (xp : Xp) : dtOr a b ρ S post xp = a ρ S (fun k S1 => if k = true then post true S1 else b ρ S1 post xp) xp := by exact id rfl
theorem dYes_m (ρ : Lc) (S : Sto) (post : Bool → Sto → Prop) (xp : Xp) : dYes ρ S post xp = post true S := by exact id rfl
theorem dIf_m (c : DT) (a b : DE) (ρ : Lc) (S : Sto) (post : D → Sto → Prop) (xp : Xp) : dIf c a b ρ S post xp = c ρ S (fun k S1 => if k = true then a ρ S1 post xp else b ρ S1 post xp) xp := by exact id rfl
def mAnd (d : D) (k : Prop) (j : D → Prop) : Prop := match d with
  | .bl true => k
  | .bl false => j (.bl false)
  | _ => False
theorem dAnd_m (a b : DE) (ρ : Lc) (S : Sto) (post : D → Sto → Prop) (xp : Xp) : dAnd a b ρ S post xp = a ρ S (fun d S1 => mAnd d (b ρ S1 post xp) fun r => post r S1) xp := by
  unfold dAnd mAnd
  congr 1
theorem mAnd_t (k : Prop) (j : D → Prop) : mAnd (.bl true) k j = k := by exact id rfl
theorem mAnd_f (k : Prop) (j : D → Prop) : mAnd (.bl false) k j = j (.bl false) := by exact id rfl
theorem dOp_m (o : D → D → W D) (a b : DE) (ρ : Lc) (S : Sto) (post : D → Sto → Prop) (xp : Xp) : dOp o a b ρ S post xp = a ρ S (fun x S1 => b ρ S1 (fun y S2 => o x y S2 post xp) xp) xp := by exact id rfl
theorem dUn_m (o : D → W D) (a : DE) (ρ : Lc) (S : Sto) (post : D → Sto → Prop) (xp : Xp) : dUn o a ρ S post xp = a ρ S (fun x S1 => o x S1 post xp) xp := by exact id rfl
def mVar (d : Option (Option D)) (k : D → Prop) : Prop := match d with
  | some (some d) => k d
  | _ => False
theorem mVar_s (d : D) (k : D → Prop) : mVar (some (some d)) k = k d := by exact id rfl
theorem dVar_m (i : Nat) (ρ : Lc) (S : Sto) (post : D → Sto → Prop) (xp : Xp) : dVar i ρ S post xp = mVar ρ[i]? fun d => post d S := by exact id rfl
theorem dPure_m (d : D) (ρ : Lc) (S : Sto) (post : D → Sto → Prop) (xp : Xp) : dPure d ρ S post xp = post d S := by exact id rfl
theorem dTup_m (fs : List DE) (ρ : Lc) (S : Sto) (post : D → Sto → Prop) (xp : Xp) : dTup fs ρ S post xp = dArgs fs ρ S (fun ds S' => post (.tup ds) S') xp := by exact id rfl
theorem dLst_m (fs : List DE) (ρ : Lc) (S : Sto) (post : D → Sto → Prop) (xp : Xp) : dLst fs ρ S post xp = dArgs fs ρ S (fun ds S' => post (.lst ds) S') xp := by exact id rfl
theorem dArgs_n (ρ : Lc) (S : Sto) (post : List D → Sto → Prop) (xp : Xp) : dArgs [] ρ S post xp = post [] S := by exact id rfl
theorem dArgs_c (f : DE) (fs : List DE) (ρ : Lc) (S : Sto) (post : List D → Sto → Prop) (xp : Xp) : dArgs (f :: fs) ρ S post xp = f ρ S (fun d S1 => dArgs fs ρ S1 (fun ds S2 => post (d :: ds) S2) xp) xp := by exact id rfl
theorem dCall_m (g : List D → W D) (fs : List DE) (ρ : Lc) (S : Sto) (post : D → Sto → Prop) (xp : Xp) : dCall g fs ρ S post xp = dArgs fs ρ S (fun ds S1 => g ds S1 post xp) xp := by exact id rfl
theorem oAdd_i (i j : Int) (S : Sto) (post : D → Sto → Prop) (xp : Xp) : oAdd (.int i) (.int j) S post xp = post (.int (i + j)) S := by exact id rfl
theorem oSub_i (i j : Int) (S : Sto) (post : D → Sto → Prop) (xp : Xp) : oSub (.int i) (.int j) S post xp = post (.int (i - j)) S := by exact id rfl
theorem oMul_i (i j : Int) (S : Sto) (post : D → Sto → Prop) (xp : Xp) : oMul (.int i) (.int j) S post xp = (CMulW i j ∧ post (.int (i * j)) S) := by exact id rfl
theorem oDiv_i (i j : Int) (S : Sto) (post : D → Sto → Prop) (xp : Xp) : oDiv (.int i) (.int j) S post xp = (Px.CDivU i j ∧ post (.int (i.fdiv j)) S) := by exact id rfl
theorem oMod_i (i j : Int) (S : Sto) (post : D → Sto → Prop) (xp : Xp) : oMod (.int i) (.int j) S post xp = (j ≠ 0 ∧ post (.int (i.fmod j)) S) := by exact id rfl
theorem oNeg_i (i : Int) (S : Sto) (post : D → Sto → Prop) (xp : Xp) : oNeg (.int i) S post xp = post (.int (-i)) S := by exact id rfl
theorem oLt_i (i j : Int) (S : Sto) (post : D → Sto → Prop) (xp : Xp) : oLt (.int i) (.int j) S post xp = post (.bl (decide (i < j))) S := by exact id rfl
theorem oGt_i (i j : Int) (S : Sto) (post : D → Sto → Prop) (xp : Xp) : oGt (.int i) (.int j) S post xp = post (.bl (decide (j < i))) S := by exact id rfl
theorem oEq_m (x y : D) (S : Sto) (post : D → Sto → Prop) (xp : Xp) : oEq x y S post xp = (okEq x = true ∧ okEq y = true ∧ post (.bl (eqD x y)) S) := by exact id rfl
theorem oNe_m (x y : D) (S : Sto) (post : D → Sto → Prop) (xp : Xp) : oNe x y S post xp = (okEq x = true ∧ okEq y = true ∧ post (.bl (!eqD x y)) S) := by exact id rfl
theorem oIx_t (xs : List D) (i : Int) (S : Sto) (post : D → Sto → Prop) (xp : Xp) : oIx (.tup xs) (.int i) S post xp = ∃ d, atI xs i = some d ∧ post d S := by exact id rfl
theorem oIx_l (xs : List D) (i : Int) (S : Sto) (post : D → Sto → Prop) (xp : Xp) : oIx (.lst xs) (.int i) S post xp = ∃ d, atI xs i = some d ∧ post d S := by exact id rfl
theorem gGcd_i (i j : Int) (S : Sto) (post : D → Sto → Prop) (xp : Xp) : gGcd [.int i, .int j] S post xp = post (.int ((Nat.gcd i.natAbs j.natAbs : Nat) : Int)) S := by exact id rfl
theorem gAbs_i (i : Int) (S : Sto) (post : D → Sto → Prop) (xp : Xp) : gAbs [.int i] S post xp = post (.int (i.natAbs : Nat)) S := by exact id rfl
theorem gInt_i (i : Int) (S : Sto) (post : D → Sto → Prop) (xp : Xp) : gInt [.int i] S post xp = post (.int i) S := by exact id rfl
theorem gLen_t (ds : List D) (S : Sto) (post : D → Sto → Prop) (xp : Xp) : gLen [.tup ds] S post xp = post (.int (ds.length : Nat)) S := by
  unfold gLen lenD
  simp
theorem gLen_l (ds : List D) (S : Sto) (post : D → Sto → Prop) (xp : Xp) : gLen [.lst ds] S post xp = post (.int (ds.length : Nat)) S := by
  unfold gLen lenD
  simp
theorem gList_l (xs : List D) (S : Sto) (post : D → Sto → Prop) (xp : Xp) : gList [.lst xs] S post xp = post (.lst xs) S := by exact id rfl
theorem isi_int_list (cs : List Addr) (i : Int) (S : Sto) (post : D → Sto → Prop) (xp : Xp) : gIsi cs [.int i, .val (.ty "list")] S post xp = post (.bl false) S := by
  apply propext
  constructor
  · rintro ⟨t, b, h1, _, h3, h4⟩
    cases h1
    have h5 : some false = some b := h3
    cases h5
    exact h4
  · exact fun h => ⟨.B "int", false, rfl, (by intro C e; cases e), rfl, h⟩
theorem isi_int_tuple (cs : List Addr) (i : Int) (S : Sto) (post : D → Sto → Prop) (xp : Xp) : gIsi cs [.int i, .val (.ty "tuple")] S post xp = post (.bl false) S := by
  apply propext
  constructor
  · rintro ⟨t, b, h1, _, h3, h4⟩
    cases h1
    have h5 : some false = some b := h3
    cases h5
    exact h4
  · exact fun h => ⟨.B "int", false, rfl, (by intro C e; cases e), rfl, h⟩
theorem isi_int_bool (cs : List Addr) (i : Int) (S : Sto) (post : D → Sto → Prop) (xp : Xp) : gIsi cs [.int i, .val (.ty "bool")] S post xp = post (.bl false) S := by
  apply propext
  constructor
  · rintro ⟨t, b, h1, _, h3, h4⟩
    cases h1
    have h5 : some false = some b := h3
    cases h5
    exact h4
  · exact fun h => ⟨.B "int", false, rfl, (by intro C e; cases e), rfl, h⟩
theorem isi_int_str (cs : List Addr) (i : Int) (S : Sto) (post : D → Sto → Prop) (xp : Xp) : gIsi cs [.int i, .val (.ty "str")] S post xp = post (.bl false) S := by
  apply propext
  constructor
  · rintro ⟨t, b, h1, _, h3, h4⟩
    cases h1
    have h5 : some false = some b := h3
    cases h5
    exact h4
  · exact fun h => ⟨.B "int", false, rfl, (by intro C e; cases e), rfl, h⟩
theorem isi_str_list (cs : List Addr) (s : Str) (S : Sto) (post : D → Sto → Prop) (xp : Xp) : gIsi cs [.str s, .val (.ty "list")] S post xp = post (.bl false) S := by
  apply propext
  constructor
  · rintro ⟨t, b, h1, _, h3, h4⟩
    cases h1
    have h5 : some false = some b := h3
    cases h5
    exact h4
  · exact fun h => ⟨.B "str", false, rfl, (by intro C e; cases e), rfl, h⟩
theorem isi_str_tuple (cs : List Addr) (s : Str) (S : Sto) (post : D → Sto → Prop) (xp : Xp) : gIsi cs [.str s, .val (.ty "tuple")] S post xp = post (.bl false) S := by
  apply propext
  constructor
  · rintro ⟨t, b, h1, _, h3, h4⟩
    cases h1
    have h5 : some false = some b := h3
    cases h5
    exact h4
  · exact fun h => ⟨.B "str", false, rfl, (by intro C e; cases e), rfl, h⟩
theorem isi_str_bool (cs : List Addr) (s : Str) (S : Sto) (post : D → Sto → Prop) (xp : Xp) : gIsi cs [.str s, .val (.ty "bool")] S post xp = post (.bl false) S := by
  apply propext
  constructor
  · rintro ⟨t, b, h1, _, h3, h4⟩
    cases h1
    have h5 : some false = some b := h3
    cases h5
    exact h4
  · exact fun h => ⟨.B "str", false, rfl, (by intro C e; cases e), rfl, h⟩
theorem isi_str_str (cs : List Addr) (s : Str) (S : Sto) (post : D → Sto → Prop) (xp : Xp) : gIsi cs [.str s, .val (.ty "str")] S post xp = post (.bl true) S := by
  apply propext
  constructor
  · rintro ⟨t, b, h1, _, h3, h4⟩
    cases h1
    have h5 : some true = some b := h3
    cases h5
    exact h4
  · exact fun h => ⟨.B "str", true, rfl, (by intro C e; cases e), rfl, h⟩
theorem isi_tup_list (cs : List Addr) (ds : List D) (S : Sto) (post : D → Sto → Prop) (xp : Xp) : gIsi cs [.tup ds, .val (.ty "list")] S post xp = post (.bl false) S := by
  apply propext
  constructor
  · rintro ⟨t, b, h1, _, h3, h4⟩
    cases h1
    have h5 : some false = some b := h3
    cases h5
    exact h4
  · exact fun h => ⟨.B "tuple", false, rfl, (by intro C e; cases e), rfl, h⟩
theorem isi_tup_tuple (cs : List Addr) (ds : List D) (S : Sto) (post : D → Sto → Prop) (xp : Xp) : gIsi cs [.tup ds, .val (.ty "tuple")] S post xp = post (.bl true) S := by
  apply propext
  constructor
  · rintro ⟨t, b, h1, _, h3, h4⟩
    cases h1
    have h5 : some true = some b := h3
    cases h5
    exact h4
  · exact fun h => ⟨.B "tuple", true, rfl, (by intro C e; cases e), rfl, h⟩
theorem isi_tup_bool (cs : List Addr) (ds : List D) (S : Sto) (post : D → Sto → Prop) (xp : Xp) : gIsi cs [.tup ds, .val (.ty "bool")] S post xp = post (.bl false) S := by
  apply propext
  constructor
  · rintro ⟨t, b, h1, _, h3, h4⟩
    cases h1
    have h5 : some false = some b := h3
    cases h5
    exact h4
  · exact fun h => ⟨.B "tuple", false, rfl, (by intro C e; cases e), rfl, h⟩
theorem isi_tup_str (cs : List Addr) (ds : List D) (S : Sto) (post : D → Sto → Prop) (xp : Xp) : gIsi cs [.tup ds, .val (.ty "str")] S post xp = post (.bl false) S := by
  apply propext
  constructor
  · rintro ⟨t, b, h1, _, h3, h4⟩
    cases h1
    have h5 : some false = some b := h3
    cases h5
    exact h4
  · exact fun h => ⟨.B "tuple", false, rfl, (by intro C e; cases e), rfl, h⟩
def nIsi2 (cs : List Addr) (t u : Ty) (d : D) (S : Sto) (k : Bool → Prop) : Prop := ∃ y b c, tyD S d = some y ∧ (∀ C, y = .C C → C ∈ cs) ∧ isT cs y t b ∧ isT cs y u c ∧ k (b || c)
theorem dIsi2_m (cs : List Addr) (t u : Ty) (e : DE) (ρ : Lc) (S : Sto) (post : D → Sto → Prop) (xp : Xp) : dIsi2 cs t u e ρ S post xp = e ρ S (fun d S1 => nIsi2 cs t u d S1 fun b => post (.bl b) S1) xp := by exact id rfl
theorem isi2_int (cs : List Addr) (i : Int) (S : Sto) (k : Bool → Prop) : nIsi2 cs (.B "list") (.B "tuple") (.int i) S k = k false := by
  apply propext
  constructor
  · rintro ⟨y, b, c, h1, _, h3, h4, h5⟩
    cases h1
    have h6 : some false = some b := h3
    have h7 : some false = some c := h4
    cases h6; cases h7
    exact h5
  · exact fun h => ⟨.B "int", false, false, rfl, (by intro C e; cases e), rfl, rfl, h⟩
theorem isi2_str (cs : List Addr) (s : Str) (S : Sto) (k : Bool → Prop) : nIsi2 cs (.B "list") (.B "tuple") (.str s) S k = k false := by
  apply propext
  constructor
  · rintro ⟨y, b, c, h1, _, h3, h4, h5⟩
    cases h1
    have h6 : some false = some b := h3
    have h7 : some false = some c := h4
    cases h6; cases h7
    exact h5
  · exact fun h => ⟨.B "str", false, false, rfl, (by intro C e; cases e), rfl, rfl, h⟩
theorem isi2_tup (cs : List Addr) (ds : List D) (S : Sto) (k : Bool → Prop) : nIsi2 cs (.B "list") (.B "tuple") (.tup ds) S k = k true := by
  apply propext
  constructor
  · rintro ⟨y, b, c, h1, _, h3, h4, h5⟩
    cases h1
    have h6 : some false = some b := h3
    have h7 : some true = some c := h4
    cases h6; cases h7
    exact h5
  · exact fun h => ⟨.B "tuple", false, true, rfl, (by intro C e; cases e), rfl, rfl, h⟩
theorem oIs_int (b : Int) (S : Sto) (post : D → Sto → Prop) (xp : Xp) : oIs (.int b) .non S post xp = post (.bl false) S := by
  unfold oIs isNon; simp
theorem oIs_str (b : Str) (S : Sto) (post : D → Sto → Prop) (xp : Xp) : oIs (.str b) .non S post xp = post (.bl false) S := by
  unfold oIs isNon; simp
theorem wLc_yes {ρ : Lc} {t : Tgt} {elt : DE} {S : Sto} {xp : Xp} (f : D → D) : ∀ (ds acc : List D) (post : List D → Sto → Prop), (∀ d ∈ ds, ∀ k : D → Sto → Prop, k (f d) S → bT t d ρ fun ρ' => elt ρ' S k noX) → post (acc ++ ds.map f) S → wLc ρ t dYes elt ds acc S post xp
  | [], acc, post, _, h => by unfold wLc; simpa using h
  | d :: ds, acc, post, he, h => by
    unfold wLc
    have e : (fun ρ' => dYes ρ' S (fun b S1 => if b = true then elt ρ' S1 (fun y S2 => wLc ρ t dYes elt ds (acc ++ [y]) S2 post xp) noX else wLc ρ t dYes elt ds acc S1 post xp) noX) = fun ρ' => elt ρ' S (fun y S2 => wLc ρ t dYes elt ds (acc ++ [y]) S2 post xp) noX := by
      funext ρ'
      rw [dYes_m, if_pos rfl]
    rw [e]
    refine he d (List.mem_cons_self ..) _ ?_
    refine wLc_yes f ds (acc ++ [f d]) post (fun d' hd => he d' (List.mem_cons_of_mem _ hd)) ?_
    rw [List.append_assoc]
    exact h
theorem dLc_m (vs : List Nat) (t : Tgt) (src : DC) (c : DT) (elt : DE) (ρ : Lc) (S : Sto) (post : D → Sto → Prop) (xp : Xp) : dLc vs t src c elt ρ S post xp = src ρ S (fun ds S1 => ds.length ≤ 1000 ∧ wLc (wipeL ρ vs) t c elt ds [] S1 (fun acc S2 => post (.lst acc) S2) xp) xp := by exact id rfl
def mZip (ds : List D) (k : List D → Prop) : Prop := match ds with
  | [.lst xs, .lst ys] => k (zipD xs ys)
  | [.tup xs, .tup ys] => k (zipD xs ys)
  | _ => False
theorem mZip_t (xs ys : List D) (k : List D → Prop) : mZip [.tup xs, .tup ys] k = k (zipD xs ys) := by exact id rfl
theorem cZip_m (fs : List DE) (ρ : Lc) (S : Sto) (post : List D → Sto → Prop) (xp : Xp) : cZip fs ρ S post xp = dArgs fs ρ S (fun ds S' => mZip ds fun xs => post xs S') xp := by
  unfold cZip mZip
  congr 1
theorem zipD_len1 : ∀ xs : List D, (zipD xs xs).length = xs.length
  | [] => rfl
  | x :: xs => by unfold zipD; simp [zipD_len1 xs]
theorem zipD_mem : ∀ {xs : List D} {d : D}, d ∈ zipD xs xs → ∃ x ∈ xs, d = .tup [x, x]
  | [], d, h => by unfold zipD at h; cases h
  | x :: xs, d, h => by
    unfold zipD at h
    rcases List.mem_cons.mp h with rfl | h
    · exact ⟨x, List.mem_cons_self .., rfl⟩
    · obtain ⟨y, hy, e⟩ := zipD_mem h
      exact ⟨y, List.mem_cons_of_mem _ hy, e⟩
theorem bT_tp2 {i j : Nat} {x y : D} {ρ : Lc} {k : Lc → Prop} (h : k ((ρ.set i (some x)).set j (some y))) : bT (.tp [.nm i, .nm j]) (.tup [x, y]) ρ k := by
  unfold bT
  refine ⟨rfl, ?_⟩
  unfold bTs bT bTs bT bTs
  exact h
theorem okEq_str {s : Str} (h : PyData.strOk s = true) : okEq (.str s) = true := by
  simp [okEq, plain, SeqAt.shaped, toPd, PyData.canLay0, h, PyData.depth]
theorem gAll_true {ds : List D} {S : Sto} {post : D → Sto → Prop} {xp : Xp} (h : post (.bl true) S) : gAll [.lst (ds.map fun _ => .bl true)] S post xp := by
  refine ⟨ds.map fun _ => true, by simp, ?_⟩
  have : (ds.map fun _ => true).all id = true := by simp
  rw [this]
  exact h
theorem wipeL_n (ρ : Lc) : wipeL ρ [] = ρ := by exact id rfl
theorem wipeL_c (ρ : Lc) (v : Nat) (vs : List Nat) : wipeL ρ (v :: vs) = (wipeL ρ vs).set v none := by exact id rfl
theorem permD_01 (a b : D) : permD [0, 1] [a, b] = [a, b] := by exact id rfl
theorem fr_0  : D.tup [.int 0, .int 1] = fr 0 := by exact id rfl
theorem fr_m1  : D.tup [.int (-1), .int 1] = fr (-1) := by exact id rfl
theorem fr_1  : D.tup [.int 1, .int 1] = fr 1 := by exact id rfl
def mRng (ds : List D) (k : List D → Prop) : Prop := match ds with
  | [.int j] => (-(2 ^ 62) ≤ j ∧ j < 2 ^ 62) ∧ k (rngD 0 j.toNat)
  | _ => False
theorem cRng_m (fs : List DE) (ρ : Lc) (S : Sto) (post : List D → Sto → Prop) (xp : Xp) : cRng fs ρ S post xp = dArgs fs ρ S (fun ds S' => mRng ds fun xs => post xs S') xp := by
  unfold cRng mRng
  congr 1
theorem mRng_of {j : Int} {xs : List D} {k : List D → Prop} (hb : -(2 ^ 62) ≤ j ∧ j < 2 ^ 62) (e : rngD 0 j.toNat = xs) (h : k xs) : mRng [.int j] k := by
  subst e
  exact ⟨hb, h⟩
theorem set_0 {α : Type} (a0 v : α) (r : List α) : (a0::r).set 0 v = v::r := rfl
theorem get_0 {α : Type} (a0 : α) (r : List α) : (a0::r)[0]? = some a0 := rfl
theorem set_1 {α : Type} (a0 a1 v : α) (r : List α) : (a0::a1::r).set 1 v = a0::v::r := rfl
theorem get_1 {α : Type} (a0 a1 : α) (r : List α) : (a0::a1::r)[1]? = some a1 := rfl
theorem set_2 {α : Type} (a0 a1 a2 v : α) (r : List α) : (a0::a1::a2::r).set 2 v = a0::a1::v::r := rfl
theorem get_2 {α : Type} (a0 a1 a2 : α) (r : List α) : (a0::a1::a2::r)[2]? = some a2 := rfl
theorem set_3 {α : Type} (a0 a1 a2 a3 v : α) (r : List α) : (a0::a1::a2::a3::r).set 3 v = a0::a1::a2::v::r := rfl
theorem get_3 {α : Type} (a0 a1 a2 a3 : α) (r : List α) : (a0::a1::a2::a3::r)[3]? = some a3 := rfl
theorem set_4 {α : Type} (a0 a1 a2 a3 a4 v : α) (r : List α) : (a0::a1::a2::a3::a4::r).set 4 v = a0::a1::a2::a3::v::r := rfl
theorem get_4 {α : Type} (a0 a1 a2 a3 a4 : α) (r : List α) : (a0::a1::a2::a3::a4::r)[4]? = some a4 := rfl
theorem set_5 {α : Type} (a0 a1 a2 a3 a4 a5 v : α) (r : List α) : (a0::a1::a2::a3::a4::a5::r).set 5 v = a0::a1::a2::a3::a4::v::r := rfl
theorem get_5 {α : Type} (a0 a1 a2 a3 a4 a5 : α) (r : List α) : (a0::a1::a2::a3::a4::a5::r)[5]? = some a5 := rfl
theorem set_6 {α : Type} (a0 a1 a2 a3 a4 a5 a6 v : α) (r : List α) : (a0::a1::a2::a3::a4::a5::a6::r).set 6 v = a0::a1::a2::a3::a4::a5::v::r := rfl
theorem get_6 {α : Type} (a0 a1 a2 a3 a4 a5 a6 : α) (r : List α) : (a0::a1::a2::a3::a4::a5::a6::r)[6]? = some a6 := rfl
theorem set_7 {α : Type} (a0 a1 a2 a3 a4 a5 a6 a7 v : α) (r : List α) : (a0::a1::a2::a3::a4::a5::a6::a7::r).set 7 v = a0::a1::a2::a3::a4::a5::a6::v::r := rfl
theorem get_7 {α : Type} (a0 a1 a2 a3 a4 a5 a6 a7 : α) (r : List α) : (a0::a1::a2::a3::a4::a5::a6::a7::r)[7]? = some a7 := rfl
theorem set_8 {α : Type} (a0 a1 a2 a3 a4 a5 a6 a7 a8 v : α) (r : List α) : (a0::a1::a2::a3::a4::a5::a6::a7::a8::r).set 8 v = a0::a1::a2::a3::a4::a5::a6::a7::v::r := rfl
theorem get_8 {α : Type} (a0 a1 a2 a3 a4 a5 a6 a7 a8 : α) (r : List α) : (a0::a1::a2::a3::a4::a5::a6::a7::a8::r)[8]? = some a8 := rfl
theorem set_9 {α : Type} (a0 a1 a2 a3 a4 a5 a6 a7 a8 a9 v : α) (r : List α) : (a0::a1::a2::a3::a4::a5::a6::a7::a8::a9::r).set 9 v = a0::a1::a2::a3::a4::a5::a6::a7::a8::v::r := rfl
theorem get_9 {α : Type} (a0 a1 a2 a3 a4 a5 a6 a7 a8 a9 : α) (r : List α) : (a0::a1::a2::a3::a4::a5::a6::a7::a8::a9::r)[9]? = some a9 := rfl
theorem set_10 {α : Type} (a0 a1 a2 a3 a4 a5 a6 a7 a8 a9 a10 v : α) (r : List α) : (a0::a1::a2::a3::a4::a5::a6::a7::a8::a9::a10::r).set 10 v = a0::a1::a2::a3::a4::a5::a6::a7::a8::a9::v::r := rfl
theorem get_10 {α : Type} (a0 a1 a2 a3 a4 a5 a6 a7 a8 a9 a10 : α) (r : List α) : (a0::a1::a2::a3::a4::a5::a6::a7::a8::a9::a10::r)[10]? = some a10 := rfl
end Dw
set_option maxHeartbeats 2000000
namespace Dw
open PySem PySem.Spec PyProof.Rows L2
theorem dCallN_m (g : List D → W D) (perm : List Nat) (fs kfs : List DE) (ρ : Lc) (S : Sto) (post : D → Sto → Prop) (xp : Xp) : dCallN g perm fs kfs ρ S post xp = dArgs fs ρ S (fun ds S1 => dArgs kfs ρ S1 (fun es S2 => g (permD perm (ds ++ es)) S2 post xp) xp) xp := by exact id rfl
theorem perm1 (d : D) : permD [0] ([] ++ [d]) = [d] := by exact id rfl
theorem dBm_m (ty : Sto → D → Prop) (g : D → List D → W D) (e : DE) (fs : List DE) (ρ : Lc) (S : Sto) (post : D → Sto → Prop) (xp : Xp) : dBm ty g e fs ρ S post xp = e ρ S (fun d S1 => ty S1 d ∧ dArgs fs ρ S1 (fun ds S2 => g d ds S2 post xp) xp) xp := by exact id rfl
theorem oAdd_s (a b : Str) (S : Sto) (post : D → Sto → Prop) (xp : Xp) : oAdd (.str a) (.str b) S post xp = (a.length + b.length ≤ sizeLine ∧ post (.str (a ++ b)) S) := by exact id rfl
theorem oIx_s (z : Str) (i : Int) (S : Sto) (post : D → Sto → Prop) (xp : Xp) : oIx (.str z) (.int i) S post xp = (z.length ≤ sizeLine ∧ ∃ c, atI z.cps.toList i = some c ∧ post (.str ⟨#[c]⟩) S) := by exact id rfl
theorem gSl_s (z : Str) (lo hi : Option Int) (S : Sto) (post : D → Sto → Prop) (xp : Xp) : gSl (.str z) lo hi S post xp = (z.length ≤ sizeLine ∧ post (.str (cutS z lo hi)) S) := by exact id rfl
theorem gLen_s (z : Str) (S : Sto) (post : D → Sto → Prop) (xp : Xp) : gLen [.str z] S post xp = (z.length ≤ sizeLine ∧ post (.int z.length) S) := by exact id rfl
end Dw
set_option maxHeartbeats 2000000
namespace Dw
open PySem PySem.Spec PyProof.Rows L2
section
variable (ms : Ms) (S : Sto) (post : D → Sto → Prop) (xp : Xp)
theorem gTuple_l (xs : List D) : gTuple [.lst xs] S post xp = post (.tup xs) S := by exact id rfl
end
theorem dSl_m (e : DE) (lo hi : DO) (ρ : Lc) (S : Sto) (post : D → Sto → Prop) (xp : Xp) : dSl e lo hi ρ S post xp = e ρ S (fun d S1 => lo ρ S1 (fun l S2 => hi ρ S2 (fun h S3 => gSl d l h S3 post xp) xp) xp) xp := by exact id rfl
theorem dNoPart_m (ρ : Lc) (S : Sto) (post : Option Int → Sto → Prop) (xp : Xp) : dNoPart ρ S post xp = post none S := by exact id rfl
def mInt (d : D) (k : Int → Prop) : Prop := match d with
  | .int i => k i
  | _ => False
theorem mInt_i (i : Int) (k : Int → Prop) : mInt (.int i) k = k i := by exact id rfl
theorem dPart_m (e : DE) (ρ : Lc) (S : Sto) (post : Option Int → Sto → Prop) (xp : Xp) : dPart e ρ S post xp = e ρ S (fun d S' => mInt d fun i => post (some i) S') xp := by exact id rfl
theorem dLstM_m (fs : List DE) (ρ : Lc) (S : Sto) (post : D → Sto → Prop) (xp : Xp) : dLstM fs ρ S post xp = dArgs fs ρ S (fun ds S' => ∀ a, S' a = none → post (.val (.ref a)) (S'.put a (.lst ds))) xp := by exact id rfl
theorem dFrz_m (i : Nat) (ρ : Lc) (S : Sto) (nx : Lc → Sto → Prop) (rt : D → Sto → Prop) (bk ct : Lc → Sto → Prop) (xp : Xp) : dFrz i ρ S ⟨nx, rt, bk, ct, xp⟩ = mVar ρ[i]? fun d => frz d S (fun d' S' => nx (ρ.set i (some d')) S') := by
  unfold dFrz mVar
  congr 1
end Dw
namespace Dw
open PySem PySem.Spec PyProof.Rows L2
variable {ρ : Lc} {S : Sto} {post : D → Sto → Prop} {xp : Xp}
theorem dLc2M_m (vs vs1 : List Nat) (t : Tgt) (src : DC) (t1 : Tgt) (src1 : DC) (elt : DE) (ρ : Lc) (S : Sto) (post : D → Sto → Prop) (xp : Xp) : dLc2M vs vs1 t src t1 src1 elt ρ S post xp = src ρ S (fun ds S1 => ds.length ≤ 1000 ∧ ∀ p, S1 p = none → wLo (wipeL ρ vs) t src1 vs1 t1 elt p ds (S1.put p (.lst [])) fun S2 => post (.val (.ref p)) S2) xp := by exact id rfl
theorem dLc2_m (vs vs1 : List Nat) (t : Tgt) (src : DC) (t1 : Tgt) (src1 : DC) (elt : DE) (ρ : Lc) (S : Sto) (post : D → Sto → Prop) (xp : Xp) : dLc2 vs vs1 t src t1 src1 elt ρ S post xp = dLc2M vs vs1 t src t1 src1 elt ρ S (fun d S1 => frz d S1 post) xp := by exact id rfl
theorem wLo_n (ρ : Lc) (t : Tgt) (src : DC) (vs1 : List Nat) (t1 : Tgt) (elt : DE) (p : Addr) (S : Sto) (q : Sto → Prop) : wLo ρ t src vs1 t1 elt p [] S q = q S := by exact id rfl
theorem wLo_c (ρ : Lc) (t : Tgt) (src : DC) (vs1 : List Nat) (t1 : Tgt) (elt : DE) (p : Addr) (d : D) (ds : List D) (S : Sto) (q : Sto → Prop) : wLo ρ t src vs1 t1 elt p (d :: ds) S q = bT t d ρ fun ρ' => src ρ' S (fun es S1 => es.length ≤ 1000 ∧ wLi (wipeL ρ' vs1) t1 elt p es S1 fun S2 => wLo ρ t src vs1 t1 elt p ds S2 q) noX := by exact id rfl
theorem wLi_n (ρ : Lc) (t : Tgt) (elt : DE) (p : Addr) (S : Sto) (q : Sto → Prop) : wLi ρ t elt p [] S q = q S := by exact id rfl
theorem wLi_c (ρ : Lc) (t : Tgt) (elt : DE) (p : Addr) (d : D) (ds : List D) (S : Sto) (q : Sto → Prop) : wLi ρ t elt p (d :: ds) S q = bT t d ρ fun ρ' => elt ρ' S (fun y S2 => ∃ acc, S2 p = some (.lst acc) ∧ acc.length < 4000 ∧ wLi ρ t elt p ds (S2.put p (.lst (acc ++ [y]))) q) noX := by exact id rfl
theorem lstD_l (S : Sto) (xs : List D) : lstD S (.lst xs) = some xs := by exact id rfl
end Dw
set_option maxHeartbeats 2000000
set_option maxHeartbeats 2000000
set_option maxHeartbeats 2000000
set_option maxHeartbeats 2000000
namespace Dw
open PySem PySem.Spec PyProof.Rows L2
def keysD : List D → Option (List Key)
  | [] => some []
  | d :: ds => match keyD d, keysD ds with
    | some k, some ks => some (k :: ks)
    | _, _ => none
def keyishK : List Key → Bool
  | .inr _ :: r => decide (r.length ≤ 2) || (match r.getLast? with
    | some (.inl _) => true
    | _ => false)
  | _ => false
def keyT : D → Option (List Key)
  | .tup ds => match keysD ds with
    | some ks => if keyishK ks = true then some ks else none
    | none => none
  | _ => none
def keyTV (ks : List Key) : D := .tup (ks.map keyV)
section
variable {K : PySem.W.Frag} {M : Addr → Prop} {H : Hp}
theorem keys_of : ∀ {ds : List D} {ks : List Key} {xs : List V}, keysD ds = some ks → Reps K M H ds xs → xs = ks.map kV
  | [], ks, xs, h, r => by cases h; rw [nil_of r]; rfl
  | d :: ds, ks, xs, h, r => by
    obtain ⟨v, ys, rfl, h1, h2⟩ := cons_of r
    unfold keysD at h
    split at h
    · rename_i k ks' e1 e2
      cases h
      rw [key_of e1 h1, keys_of e2 h2]
      rfl
    · cases h
theorem keyish_kV (ks : List Key) : keyish (ks.map kV) = keyishK ks := by
  cases ks with
  | nil => rfl
  | cons k r =>
    cases k with
    | inl i => rfl
    | inr z =>
      show (decide ((r.map kV).length ≤ 2) || (match (r.map kV).getLast? with
        | some (.int _) => true
        | _ => false)) = (decide (r.length ≤ 2) || (match r.getLast? with
        | some (.inl _) => true
        | _ => false))
      rw [List.length_map, List.getLast?_map]
      cases r.getLast? with
      | none => rfl
      | some q => cases q <;> rfl
theorem keyT_of {d : D} {ks : List Key} {v : V} (h : keyT d = some ks) (r : Rep K M H d v) : ∃ b, v = .ref b ∧ H b = some (.tup (ks.map kV)) := by
  cases d with
  | tup ds =>
    have h' : (match keysD ds with
      | some ks => if keyishK ks = true then some ks else none
      | none => none) = some ks := h
    cases e : keysD ds with
    | none => rw [e] at h'; cases h'
    | some ks' =>
      rw [e] at h'
      by_cases c : keyishK ks' = true
      · rw [show (match some ks' with
          | some ks => if keyishK ks = true then some ks else none
          | none => none) = some ks' from if_pos c] at h'
        cases h'
        obtain ⟨a, xs, rfl, ⟨_, q⟩, rs⟩ := tup_ofK r
        obtain rfl := keys_of e rs
        exact ⟨a, rfl, q (by rw [keyish_kV]; exact c)⟩
      · rw [show (match some ks' with
          | some ks => if keyishK ks = true then some ks else none
          | none => none) = none from if_neg c] at h'
        cases h'
  | _ => cases h
theorem kVs_rep : ∀ (ks : List Key), Reps K M H (ks.map keyV) (ks.map kV)
  | [] => rnil
  | k :: ks => by
    rw [List.map_cons, List.map_cons]
    refine rcons ?_ (kVs_rep ks)
    cases k with
    | inl i => exact rint i
    | inr z => exact rstr z
theorem keyTV_rep {ks : List Key} {b : Addr} (h : H b = some (.tup (ks.map kV))) : Rep K M H (keyTV ks) (.ref b) := rtup h (kVs_rep ks)
end
theorem keysD_V : ∀ ks : List Key, keysD (ks.map keyV) = some ks
  | [] => rfl
  | k :: ks => by
    rw [List.map_cons]
    unfold keysD
    rw [keysD_V ks]
    cases k <;> rfl
theorem keyT_V {ks : List Key} (h : keyishK ks = true) : keyT (keyTV ks) = some ks := by
  show (match keysD (ks.map keyV) with
      | some ks => if keyishK ks = true then some ks else none
      | none => none) = some ks
  rw [keysD_V]
  exact if_pos h
def putKT (ks : List (List Key)) (k : List Key) : List (List Key) := if (ks.any fun q => decide (q = k)) = true then ks else ks ++ [k]
def putDT (ks : List (List Key)) (ds : List D) (k : List Key) (d : D) : List D := if (ks.any fun q => decide (q = k)) = true then List.zipWith (fun q x => if q = k then d else x) ks ds else ds ++ [d]
def lookT (ks : List (List Key)) (ds : List D) (k : List Key) : Option D := match ks, ds with
  | q :: ks, d :: ds => if q = k then some d else lookT ks ds k
  | _, _ => none
/-- the pairs of a dict with tuple keys, changing or not -/
def dictT (S : Sto) : D → Option (List (List Key) × List D)
  | .dT ks ds => some (ks, ds)
  | .val (.ref a) => (match S a with
    | some (.dT ks ds) => some (ks, ds)
    | _ => none)
  | _ => none
section
variable {K : PySem.W.Frag} {M : Addr → Prop} {H : Hp}
theorem putT_any (kvs : List (List Key × V)) (k : List Key) : (kvs.any fun kv => decide (kv.1 = k)) = ((kvs.map (·.1)).any fun q => decide (q = k)) := by
  rw [List.any_map]
  rfl
theorem putT_ks (kvs : List (List Key × V)) (k : List Key) (v : V) : (putK kvs k v).map (·.1) = putKT (kvs.map (·.1)) k := by
  unfold putK putKT
  rw [putT_any]
  split
  · rw [List.map_map]
    refine List.map_congr_left fun kv _ => ?_
    show (if kv.1 = k then (kv.1, v) else kv).1 = kv.1
    split <;> rfl
  · rw [List.map_append]
    rfl
theorem zipT_rep {k : List Key} {d : D} {v : V} (rd : Rep K M H d v) : ∀ (kvs : List (List Key × V)) (ds : List D), Reps K M H ds (kvs.map (·.2)) → Reps K M H (List.zipWith (fun q x => if q = k then d else x) (kvs.map (·.1)) ds) ((kvs.map fun kv => if kv.1 = k then (kv.1, v) else kv).map (·.2))
  | [], ds, r => by
    cases ds with
    | nil => exact rnil
    | cons d' ds => obtain ⟨_, _, e, _⟩ := cons_of r; cases e
  | kv :: kvs, ds, r => by
    cases ds with
    | nil => have := nil_of r; cases this
    | cons d' ds =>
      obtain ⟨v', r', e, h1, h2⟩ := cons_of r
      rw [List.map_cons] at e
      cases e
      rw [List.map_cons, List.zipWith_cons_cons, List.map_cons, List.map_cons]
      refine rcons ?_ (zipT_rep rd kvs ds h2)
      by_cases c : kv.1 = k
      · rw [if_pos c, if_pos c]; exact rd
      · rw [if_neg c, if_neg c]; exact h1
theorem putT_rep {k : List Key} {d : D} {v : V} (rd : Rep K M H d v) {kvs : List (List Key × V)} {ds : List D} (r : Reps K M H ds (kvs.map (·.2))) : Reps K M H (putDT (kvs.map (·.1)) ds k d) ((putK kvs k v).map (·.2)) := by
  unfold putDT putK
  rw [putT_any]
  split
  · exact zipT_rep rd kvs ds r
  · rw [List.map_append]
    exact r.app (rcons rd rnil)
theorem lookT_rep {k : List Key} : ∀ (kvs : List (List Key × V)) (ds : List D), Reps K M H ds (kvs.map (·.2)) → (∀ d, lookT (kvs.map (·.1)) ds k = some d → ∃ v, valV kvs k = some v ∧ Rep K M H d v) ∧ (lookT (kvs.map (·.1)) ds k = none → valV kvs k = none)
  | [], ds, r => ⟨fun d h => (by cases h), fun _ => rfl⟩
  | kv :: kvs, ds, r => by
    cases ds with
    | nil => have := nil_of r; cases this
    | cons d' ds =>
      obtain ⟨v', r', e, h1, h2⟩ := cons_of r
      rw [List.map_cons] at e
      cases e
      rw [List.map_cons]
      unfold lookT
      by_cases c : kv.1 = k
      · rw [if_pos c, valV_pos c]
        exact ⟨fun d h => by cases h; exact ⟨_, rfl, h1⟩, fun h => by cases h⟩
      · rw [if_neg c, valV_neg c]
        exact lookT_rep kvs ds h2
end
section
variable {X : Cx} {K : PySem.W.Frag} {T : Gx} {E : XK} {S : Sto} {H : Hp}
theorem dictT_rd {d : D} {v : V} {ks : List (List Key)} {ds : List D} (k : Ok K T S H) (r : Rep K (Mu T S) H d v) (h : dictT S d = some (ks, ds)) : ∃ a kvs, v = .ref a ∧ Rd H a (.dT kvs) ∧ kvs.map (·.1) = ks ∧ Reps K (Mu T S) H ds (kvs.map (·.2)) := by
  unfold dictT at h
  split at h
  · cases h
    obtain ⟨a, o, kvs, e1, _, e2, e3, e4⟩ := dT_of r
    exact ⟨a, kvs, e1, .inr ⟨o, e2⟩, e3, e4⟩
  · rename_i a
    obtain rfl := val_of r
    split at h
    · rename_i ks' ds' e
      cases h
      obtain ⟨kvs, e1, e2, e3⟩ := k.cel a _ e
      exact ⟨a, kvs, rfl, .inl e1, e2, e3⟩
    · cases h
  · cases h
/-- {}, going to change -/
def dDictT : DE := fun _ S post _ => ∀ p, S p = none → post (.val (.ref p)) (S.put p (.dT [] []))
theorem de_dictT {pos : Pos} : PE X (.Dict [] [] pos) (tE K T E dDictT) := pe_imp pe_dnewT (by
  rintro σ H Q ⟨ρ, S, post, xp, rl, k, h, q, x⟩
  intro p hp
  exact q _ _ _ _ (h p (k.unsto hp)) (rval _) (k.put (.inl hp) ⟨[], upd_same, rfl, rnil⟩) (step_put (.inl hp)))
abbrev dictO0 : Obj := { cls := .type "dict", data := .dict #[] }
theorem pe_dnewF {pos : Pos} : PE X (.Dict [] [] pos) (fun _ H Q => ∀ p, H p = none → Q (.ref p) (upd H p (.frz dictO0 (.dT [])))) := ⟨fun pins s σ H Q I h =>
  wpAny_Dict_empty ⟨.ref s.heap.objs.size, _, I.laid (a := s.heap.objs.size) (o := .frz dictO0 (.dT [])) (t' := s.toks) (fun _ _ q => Heap.get?_push_of_some _ q) (Nat.le_refl _) ⟨Heap.get?_push_size _ rfl, dt_empty s.heap I.big⟩, rfl, h _ (I.hok.fresh (Nat.le_refl _))⟩⟩
/-- {}, which stays so -/
def dDictTF : DE := fun _ S post _ => post (.dT [] []) S
theorem de_dictTF {pos : Pos} : PE X (.Dict [] [] pos) (tE K T E dDictTF) := pe_imp pe_dnewF (by
  rintro σ H Q ⟨ρ, S, post, xp, rl, k, h, q, x⟩
  intro p hp
  exact q _ _ _ _ h (rdT (k.new hp) upd_same rfl rnil) (k.laid hp) (step_new hp))
/-- o[i] = e in a dict that changes -/
def dPutT (o i e : DE) : DS := fun ρ S p => e ρ S (fun y S1 => o ρ S1 (fun d S2 => i ρ S2 (fun j S3 => ∃ a ks ds k, d = .val (.ref a) ∧ S3 a = some (.dT ks ds) ∧ ks.length < 1000 ∧ keyT j = some k ∧ p.nx ρ (S3.put a (.dT (putKT ks k) (putDT ks ds k y)))) p.xp) p.xp) p.xp
theorem ds_putT {o i e : Expr} {fo fi fe : DE} {pos pos' : Pos} (hu : X.A.units + 1 < cLine) (ho : PE X o (tE X.K T E fo)) (hi : PE X i (tE X.K T E fi)) (he : PE X e (tE X.K T E fe)) (hs : swapsWith e (some (.Subscript o i pos')) pos.line X.env = pure false := by rfl) : PS X (.Assign [.Subscript o i pos'] e pos) (tS X.K T E (dPutT fo fi fe)) := ps_imp (ps_dput hu ho hi he hs) (by
  rintro Dd σ H ⟨ρ, S, p, rl, k, h, nx, r, bk, ct, x⟩
  refine ⟨ρ, S, _, p.xp, rl, k, h, ?_, x⟩
  intro y S1 v H1 h1 r1 k1 s1
  refine ⟨ρ, S1, _, p.xp, rl.step k s1, k1, h1, ?_, x.from s1⟩
  intro d S2 w H2 h2 r2 k2 s2
  refine ⟨ρ, S2, _, p.xp, (rl.step k s1).step k1 s2, k2, h2, ?_, x.from (s1.trans s2)⟩
  intro j S3 u H3 h3 r3 k3 s3
  obtain ⟨a, ks, ds, key, rfl, e, hl, hk, q⟩ := h3
  obtain rfl := val_of r2
  obtain ⟨b, rfl, hb⟩ := keyT_of hk r3
  obtain ⟨kvs, e1, e2, e3⟩ := k3.cel a _ e
  subst e2
  have rv := (r1.step k1 s2).step k2 s3
  refine ⟨a, _, rfl, DPut.t e1 hb (by rw [List.length_map] at hl; exact Nat.lt_of_lt_of_le hl (by decide)), ?_⟩
  have st := (s1.trans s2).trans s3
  have s4 : Step T S3 H3 (S3.put a (.dT (putKT (kvs.map (·.1)) key) (putDT (kvs.map (·.1)) ds key y))) (upd H3 a (.dT (putK kvs key v))) := step_put (.inr (.inl ⟨_, e⟩))
  exact nx _ _ _ _ q ((rl.step k st).step k3 s4) (k3.put (.inr ⟨_, e⟩) ⟨_, upd_same, putT_ks kvs key v, putT_rep (rv.step k3 s4) (e3.step k3 s4)⟩) (st.trans s4))
/-- d[k] -/
def oGetT : D → D → W D := fun x y S post _ => ∃ ks ds k v, dictT S x = some (ks, ds) ∧ keyT y = some k ∧ lookT ks ds k = some v ∧ post v S
theorem de_getT {o i : Expr} {pos : Pos} {f g : DE} (hu : X.A.units + 1 < cLine) (ho : PE X o (tE X.K T E f)) (hi : PE X i (tE X.K T E g)) (hs : NoSl i) : PE X (.Subscript o i pos) (tE X.K T E (dOp oGetT f g)) := pe_imp (pe_dget hu ho hi hs) (by
  rintro σ H Q ⟨ρ, S, post, xp, rl, k, h, q, x⟩
  refine ⟨ρ, S, _, xp, rl, k, h, ?_, x⟩
  intro d S1 v H1 h1 r1 k1 s1
  refine ⟨ρ, S1, _, xp, rl.step k s1, k1, h1, ?_, x.from s1⟩
  intro j S2 u H2 h2 r2 k2 s2
  obtain ⟨ks, ds, key, w, e, hk, hl, h3⟩ := h2
  obtain ⟨a, kvs, e0, e1, rfl, e3⟩ := dictT_rd k2 (r1.step k1 s2) e
  obtain ⟨w', hw, rw'⟩ := (lookT_rep kvs ds e3).1 _ hl
  obtain ⟨b, eb, hb⟩ := keyT_of hk r2
  exact ⟨a, w', e0, .inr ⟨kvs, key, b, e1, eb, hb, hw.symm⟩, q _ _ _ _ h3 rw' k2 (s1.trans s2)⟩)
/-- d.get(k, x) -/
def dGetT (f g h : DE) : DE := fun ρ S post xp => f ρ S (fun d S1 => (∃ q, dictT S1 d = some q) ∧ g ρ S1 (fun j S2 => h ρ S2 (fun z S3 => ∃ ks ds k, dictT S3 d = some (ks, ds) ∧ keyT j = some k ∧ post ((lookT ks ds k).getD z) S3) xp) xp) xp
theorem de_dgetT {o e1 e2 : Expr} {apos cpos : Pos} {f g h : DE} (hu : X.A.units + 1 < cLine) (ho : PE X o (tE X.K T E f)) (he : PE X e1 (tE X.K T E g)) (hf : PE X e2 (tE X.K T E h)) (m : M2 X o "get" apos e1 e2 cpos) : PE X (.Call (.Attribute o "get" apos) [e1, e2] [] cpos) (tE X.K T E (dGetT f g h)) := pe_imp (pe_dget2 hu ho he hf m) (by
  rintro σ H Q ⟨ρ, S, post, xp, rl, k, h, q, x⟩
  refine ⟨ρ, S, _, xp, rl, k, h, ?_, x⟩
  rintro d S1 v H1 ⟨⟨⟨ks0, ds0⟩, e0⟩, h1⟩ r1 k1 s1
  obtain ⟨a, kvs0, rfl, e1, _, _⟩ := dictT_rd k1 r1 e0
  refine ⟨a, rfl, .inr ⟨kvs0, e1⟩, ρ, S1, _, xp, rl.step k s1, k1, h1, ?_, x.from s1⟩
  intro j S2 u H2 h2 r2 k2 s2
  refine ⟨ρ, S2, _, xp, (rl.step k s1).step k1 s2, k2, h2, ?_, x.from (s1.trans s2)⟩
  intro z S3 w H3 h3 r3 k3 s3
  obtain ⟨ks, ds, key, e, hk, h4⟩ := h3
  obtain ⟨a', kvs, e0', e1', rfl, e3'⟩ := dictT_rd k3 ((r1.step k1 s2).step k2 s3) e
  cases e0'
  obtain ⟨b, eb, hb⟩ := keyT_of hk (r2.step k2 s3)
  refine ⟨valV kvs key, .inr ⟨kvs, key, b, e1', eb, hb, rfl⟩, ?_⟩
  have lr := lookT_rep (k := key) kvs ds e3'
  cases hl : lookT (kvs.map (·.1)) ds key with
  | none =>
    rw [lr.2 hl]
    rw [hl] at h4
    exact q _ _ _ _ h4 r3 k3 ((s1.trans s2).trans s3)
  | some d' =>
    obtain ⟨w', hw, rw'⟩ := lr.1 _ hl
    rw [hw]
    rw [hl] at h4
    exact q _ _ _ _ h4 rw' k3 ((s1.trans s2).trans s3))
theorem keysT_rep {M : Addr → Prop} : ∀ {kvs : List (List Key × V)} {bs : List Addr}, IsKeys H kvs bs → Reps K M H ((kvs.map (·.1)).map keyTV) (bs.map V.ref)
  | [], _, .nil => rnil
  | kv :: kvs, _, .cons h t => rcons (keyTV_rep h) (keysT_rep t)
theorem isKeys_new {kvs : List (List Key × V)} {bs : List Addr} {p : Addr} {o : HO} (n : H p = none) (h : IsKeys H kvs bs) : IsKeys (upd H p o) kvs bs := Paired.mapP h fun a b e => by rw [upd_ne (ne_of_none e n)]; exact e
/-- list(d) of a dict with tuple keys -/
def gKeysT : List D → W D
  | [d] => fun S post _ => ∃ ks ds, dictT S d = some (ks, ds) ∧ post (.lst (ks.map keyTV)) S
  | _ => fun _ _ _ => False
theorem cb_keysT (hc : X.calm = true) : CallR X (.type "list") (rDs X.K T E gKeysT) := by
  rintro pins s σ H vs us Q I ra ⟨ds, S, post, xp, r, k, h, q, x⟩
  unfold gKeysT at h
  split at h
  · obtain ⟨v, rfl, r1⟩ := one_of r
    obtain ⟨ks, ds, e, h⟩ := h
    obtain ⟨a, kvs, rfl, e1, rfl, e3⟩ := dictT_rd k r1 e
    exact call_list_dT hc pins s σ H _ _ Q I ra ⟨a, kvs, rfl, e1, fun l bs hl hb => q _ _ _ _ h (rlst (k.new hl) upd_same (keysT_rep (isKeys_new hl hb))) (k.laid hl) (step_new hl)⟩
  · exact h.elim
/-- for k in d, d a dict that does not change -/
def cKeysT (e : DE) : DC := fun ρ S post xp => e ρ S (fun d S' => ∃ ks ds, d = .dT ks ds ∧ post (ks.map keyTV) S') xp
theorem ci_keysT {tg e : Expr} {f : DE} (he : PE X e (tE X.K T E f)) : PI X tg e (tI X.K T E (cKeysT f)) := pi_imp (pi_keys he) (by
  rintro σ H R ⟨ρ, S, post, xp, rl, k, h, q, x⟩
  refine ⟨ρ, S, _, xp, rl, k, h, ?_, x⟩
  rintro d S1 v H1 ⟨ks, ds, rfl, h1⟩ r1 k1 s1
  obtain ⟨a, o, kvs, rfl, nm, e1, e2, e3⟩ := dT_of r1
  subst e2
  refine ⟨a, o, rfl, .inr ⟨kvs, e1, q _ _ _ _ h1 k1 s1 ?_⟩⟩
  intro B hB S' H' k' st i
  have kp := keepB hB st
  have h' := (kp a _ e1 nm).1
  rw [List.length_map, List.length_map]
  refine ⟨fun hi => ⟨h', hi⟩, fun d hd => ?_⟩
  rw [List.getElem?_map, List.getElem?_map] at hd
  cases hk : kvs[i]? with
  | none => rw [hk] at hd; cases hd
  | some kv =>
    rw [hk] at hd
    cases hd
    refine ⟨⟨h', (List.getElem?_eq_some_iff.mp hk).1⟩, ?_⟩
    rintro y H2 ⟨rfl, key, v, b, e4, rfl, e5⟩
    rw [hk] at e4
    cases e4
    exact ⟨keyTV_rep e5, k', Step.refl _ _⟩)
end
end Dw
namespace Dw
open PySem PySem.Spec PyProof.Rows L2
def encKey : Key → PyData
  | .inl i => .int i
  | .inr z => .str z
def encKs (ks : List Key) : PyData := .tuple (ks.map encKey)
def sortKT (ks : List (List Key)) : List (List Key) := ks.mergeSort (PySem.W.dataLe false encKs)
theorem sortKT_perm (ks : List (List Key)) : (sortKT ks).Perm ks := List.mergeSort_perm _ _
theorem kVs_read {h : Heap} : ∀ {ks : List Key} {us : List Value}, Vals (ks.map kV) us → ∃ as, ReadsAll h us (ks.map encKey) as
  | [], us, v => by cases v; exact ⟨_, .nil⟩
  | k :: ks, us, v => by
    rw [List.map_cons] at v
    cases v with
    | cons h1 t =>
      obtain ⟨as, r⟩ := kVs_read (h := h) t
      cases k with
      | inl i => obtain ⟨tk, rfl⟩ := h1; exact ⟨_, .cons (.int i tk) r⟩
      | inr z => obtain ⟨tk, rfl⟩ := h1; exact ⟨_, .cons (.str z tk) r⟩
theorem key_reads {P : Program} {w : World} {H : Hp} {h : Heap} {b : Addr} {ks : List Key} (ok : HOk P w H h) (e : H b = some (.tup (ks.map kV))) : ∃ as, Reads h (.ref b) (encKs ks) as := by
  obtain ⟨z, its, rv, o, ho, hc, n, hd⟩ := ok b _ e
  obtain ⟨as, r⟩ := kVs_read (h := h) rv
  exact ⟨as, .tuple ho hc hd (by simpa using r)⟩
theorem depth_ks : ∀ ks : List Key, PyData.depthAll (ks.map encKey) = 0
  | [] => by rw [List.map_nil]; unfold PyData.depthAll; rfl
  | k :: ks => by
    rw [List.map_cons]
    unfold PyData.depthAll
    rw [depth_ks ks]
    cases k <;> (unfold encKey PyData.depth; rfl)
section
variable {X : Cx} {K : PySem.W.Frag} {T : Gx} {E : XK} {S : Sto} {H : Hp} {M : Addr → Prop}
def KR (H : Hp) (v : Value) (ks : List Key) : Prop := ∃ b, v = .ref b ∧ H b = some (.tup (ks.map kV))
theorem each_keysT : ∀ {ks : List (List Key)} {xs : List V} {us : List Value}, (∀ k ∈ ks, keyishK k = true) → Reps K M H (ks.map keyTV) xs → Vals xs us → PySem.W.EachIs (KR H) us ks
  | [], xs, us, _, r, v => by rw [nil_of r] at v; cases v; exact .nil
  | k :: ks, xs, us, hk, r, v => by
    obtain ⟨x, ys, rfl, h1, h2⟩ := cons_of r
    cases v with
    | cons a t =>
      obtain ⟨b, rfl, hb⟩ := keyT_of (ks := k) (keyT_V (hk k List.mem_cons_self)) h1
      exact .cons ⟨b, a, hb⟩ (each_keysT (fun q hq => hk q (List.mem_cons_of_mem _ hq)) h2 t)
theorem each_backT : ∀ {ks : List (List Key)} {us : List Value}, PySem.W.EachIs (KR H) us ks → ∃ xs, Vals xs us ∧ Reps K M H (ks.map keyTV) xs
  | [], _, .nil => ⟨[], .nil, rnil⟩
  | k :: ks, _, .cons h t => by
    obtain ⟨b, rfl, hb⟩ := h
    obtain ⟨xs, v, r⟩ := each_backT t
    exact ⟨.ref b :: xs, .cons rfl v, rcons (keyTV_rep hb) r⟩
/-- sorted(xs): keys, ascending -/
def gSortT : List D → W D
  | [d] => fun S post _ => ∃ ks : List (List Key), lstD S d = some (ks.map keyTV) ∧ (∀ k ∈ ks, keyishK k = true) ∧ (∀ k ∈ ks, ∀ q ∈ ks, PySem.W.alike (encKs k) (encKs q) = true) ∧ post (.lst ((sortKT ks).map keyTV)) S
  | _ => fun _ _ _ => False
theorem cb_sortT (hu : X.A.units + 10 < cLine) : CallR X (.builtin "sorted") (rDs X.K T E gSortT) := by
  rintro pins s σ H vs us Q I ra ⟨ds, S, post, xp, r, k, h, q, x⟩
  unfold gSortT at h
  split at h
  · obtain ⟨v, rfl, r1⟩ := one_of r
    obtain ⟨ks, e, hk, hal, h⟩ := h
    obtain ⟨a, xs, rfl, sq, rs⟩ := lstD_of k r1 e
    obtain ⟨its, rv, hl, hz⟩ := I.list sq
    rw [Vals.ref1 ra]
    have ea := each_keysT hk rs rv
    have hlen : ks.length = xs.length := by have z := rs.len; rw [List.length_map] at z; omega
    refine PySem.W.sorted_data (R := KR H) (enc := encKs) (bs := ks) hl.isList ea (ea.mono fun v b ⟨q, e, hq⟩ => by rw [e]; exact key_reads I.hok hq) ?_ (.inl fun d hd => ?_) (by rw [hlen]; exact hz) (fun b _ => ?_) fun out ho er => ?_
    · intro d hd d' hd'
      obtain ⟨b, hb, rfl⟩ := List.mem_map.mp hd
      obtain ⟨b', hb', rfl⟩ := List.mem_map.mp hd'
      exact hal b hb b' hb'
    · obtain ⟨b, hb, rfl⟩ := List.mem_map.mp hd
      have := hk b hb
      cases b with
      | nil => cases this
      | cons z zs => exact ⟨encKey z, zs.map encKey, rfl⟩
    · show X.A.units + 2 + (PyData.tuple (b.map encKey)).depth < cLine
      unfold PyData.depth
      rw [depth_ks]
      omega
    · obtain ⟨ep, he'⟩ := PyProof.Rows.sortedAll_at s.heap its out.toArray
      have er' : PySem.W.EachIs (KR H) out (sortKT ks) := er
      have hn := I.hok.fresh (Nat.le_succ s.heap.objs.size)
      obtain ⟨ys, yv, yr⟩ := each_backT (K := X.K) (M := Mu T S) (H := H) er'
      have hly : ys.length ≤ sizeLine := by rw [yv.length, ho, hlen]; exact hz
      exact ⟨.ref _, upd H (s.heap.objs.size + 1) (.lst ys), I.laid (t' := s.toks) (fun _ _ => PyProof.Rows.sortedAll_old) (Nat.le_succ _) ⟨hly, out, ep, yv, he'⟩, rfl, q _ _ _ _ h (rlst (k.new hn) upd_same (yr.step k (step_new hn))) (k.laid hn) (step_new hn)⟩
  · exact h.elim
def pairT (p : List Key × D) : D := .tup [keyTV p.1, p.2]
/-- dict(xs), xs a list of pairs of different keys; the dict does not change -/
def gDictT : List D → W D
  | [d] => fun S post _ => ∃ kvs : List (List Key × D), lstD S d = some (kvs.map pairT) ∧ (∀ p ∈ kvs, keyishK p.1 = true) ∧ (kvs.map (·.1)).Nodup ∧ kvs.length ≤ 1000 ∧ post (.dT (kvs.map (·.1)) (kvs.map (·.2))) S
  | _ => fun _ _ _ => False
theorem stored_new {κ : Type} [DecidableEq κ] : ∀ (ps xs : List (κ × Addr × Value)), ((xs ++ ps).map (·.1)).Nodup → PySem.storedAllH xs ps = xs ++ ps
  | [], xs, _ => by rw [List.append_nil]; rfl
  | p :: ps, xs, h => by
    have hp : p.1 ∉ xs.map (·.1) := by
      rw [List.map_append, List.nodup_append] at h
      intro z
      exact h.2.2 _ z _ (by rw [List.map_cons]; exact List.mem_cons_self) rfl
    have e : storedH xs p.1 p.2.1 p.2.2 = xs ++ [p] := storedH_new (atKey_none_of_get fun j q z => hp (List.mem_map.mpr ⟨(p.1, q), List.mem_of_getElem? z, rfl⟩)) _ _
    show PySem.storedAllH (storedH xs p.1 p.2.1 p.2.2) ps = _
    rw [e, stored_new ps (xs ++ [p]) (by rw [List.append_assoc]; exact h), List.append_assoc]
    rfl
abbrev ZT := Addr × List Key × Addr × V × Value
theorem pairs_T {pins : List (Addr × Obj)} {σ : L2.St} {s : Shared} (I : Inv X pins σ H s) : ∀ {kvs : List (List Key × D)} {xs : List V} {us : List Value}, (∀ p ∈ kvs, keyishK p.1 = true) → Reps X.K M H (kvs.map pairT) xs → Vals xs us →
    ∃ zs : List ZT, us = zs.map (fun z => Value.ref z.1) ∧ zs.map (fun z => z.2.1) = kvs.map (·.1) ∧ Reps X.K M H (kvs.map (·.2)) (zs.map fun z => z.2.2.2.1) ∧ ∀ z ∈ zs, IsTup s.heap z.1 #[.ref z.2.2.1, z.2.2.2.2] ∧ H z.2.2.1 = some (.tup (z.2.1.map kV)) ∧ RelV z.2.2.2.1 z.2.2.2.2
  | [], xs, us, _, r, v => by
    rw [nil_of r] at v
    cases v
    exact ⟨[], rfl, rfl, rnil, fun _ h => by cases h⟩
  | p :: kvs, xs, us, hk, r, v => by
    obtain ⟨x, ys, rfl, h1, h2⟩ := cons_of r
    cases v with
    | cons a t =>
      obtain ⟨T, vs, rfl, sq, rs⟩ := tup_of h1
      obtain ⟨vk, r1, rfl, k1, rs⟩ := cons_of rs
      obtain ⟨vd, r2, rfl, k2, rs⟩ := cons_of rs
      obtain rfl := nil_of rs
      obtain ⟨b, rfl, hb⟩ := keyT_of (ks := p.1) (keyT_V (hk p List.mem_cons_self)) k1
      obtain ⟨its, rv, ht, _⟩ := I.tuple sq
      obtain ⟨u1, u2, rfl, q1, q2⟩ := vals2 rv
      cases q1
      obtain ⟨zs, e1, e2, e3, e4⟩ := pairs_T I (fun q hq => hk q (List.mem_cons_of_mem _ hq)) h2 t
      cases a
      refine ⟨(T, p.1, b, vd, u2) :: zs, by rw [List.map_cons, ← e1], by rw [List.map_cons, List.map_cons, e2], rcons k2 e3, fun z hz => ?_⟩
      rcases List.mem_cons.mp hz with rfl | hz
      · exact ⟨ht, hb, q2⟩
      · exact e4 z hz
theorem kt_zs : ∀ {zs : List ZT}, (∀ z ∈ zs, H z.2.2.1 = some (.tup (z.2.1.map kV)) ∧ RelV z.2.2.2.1 z.2.2.2.2) → KT H (zs.map fun z => (z.2.1, z.2.2.2.1)) (zs.map fun z => (z.2.1, z.2.2.1, z.2.2.2.2))
  | [], _ => .nil
  | z :: zs, h => .cons ⟨rfl, (h z List.mem_cons_self).1, (h z List.mem_cons_self).2⟩ (kt_zs fun q hq => h q (List.mem_cons_of_mem _ hq))
theorem cb_dictT (hc : X.calm = true) (hu : X.A.units + 10 < cLine) : CallR X (.type "dict") (rDs X.K T E gDictT) := by
  rintro pins s σ H vs us Q I ra ⟨ds, S, post, xp, r, k, h, q, x⟩
  unfold gDictT at h
  split at h
  · obtain ⟨v, rfl, r1⟩ := one_of r
    obtain ⟨kvs, e, hk, nd, hl1, h⟩ := h
    obtain ⟨a, xs, rfl, sq, rs⟩ := lstD_of k r1 e
    obtain ⟨its, rv, pl, hz⟩ := I.list sq
    rw [Vals.ref1 ra]
    obtain ⟨zs, e1, e2, e3, e4⟩ := pairs_T I hk rs rv
    obtain ⟨o, n, ho, hcl, hd, hdat⟩ := pl
    have hlen : zs.length ≤ sizeLine := by
      have z1 := congrArg List.length e1
      rw [List.length_map] at z1
      rw [← z1, ← rv.length]
      exact hz
    have hT : ∀ (j : Nat) (z : ZT), zs[j]? = some z → ((zs[j]?).map (·.1)).getD 0 = z.1 := fun j z e => by rw [e]; rfl
    have hget : ∀ {γ : Type} (f : ZT → γ) (j : Nat) (y : γ), (zs.map f)[j]? = some y → ∃ z, zs[j]? = some z ∧ f z = y := fun f j y e => by
      rw [List.getElem?_map] at e
      cases c : zs[j]? with
      | none => rw [c] at e; cases e
      | some z => rw [c] at e; exact ⟨z, rfl, Option.some.inj e⟩
    refine PySem.call_dict_pairsH (knd := tupleKind (mixKind X.prog X.w)) (ps := zs.map fun z => (z.2.1, z.2.2.1, z.2.2.2.2))
      (PySem.PairArg.list a its.toArray (fun j => ((zs[j]?).map (·.1)).getD 0) (zs.map fun z => (Value.ref z.2.2.1, z.2.2.2.2))) (I.ok.hd hc) (tupleKind_room_in1 (by show X.A.units + 1 + 1 < cLine; omega)) ⟨⟨o, n, ho, hcl, hd, hdat⟩, ?_, fun j kk vv ej => ?_⟩ ⟨?_, fun i key vv ei => ?_⟩ (fun h' hk' y hy => ?_) (by rw [List.length_map]; exact hlen) fun h' tk hD kp => ?_
    · rw [List.size_toArray, e1, List.length_map, List.length_map]
    · obtain ⟨z, hz1, hz2⟩ := hget _ _ _ ej
      cases hz2
      refine ⟨?_, .inl ?_⟩
      · rw [List.getElem?_toArray, e1, List.getElem?_map, hz1]
        show some (Value.ref z.1) = some (Value.ref (((zs[j]?).map (·.1)).getD 0))
        rw [hT j z hz1]
      · obtain ⟨oo, t1, t2, t3⟩ := (e4 z (List.mem_of_getElem? hz1)).1
        show s.heap.IsTuple (((zs[j]?).map (·.1)).getD 0) _
        rw [hT j z hz1]
        exact ⟨oo, t1, t2, t3⟩
    · rw [List.length_map, List.length_map]
    · obtain ⟨z, hz1, hz2⟩ := hget _ _ _ ei
      cases hz2
      exact ⟨z.2.1, z.2.2.1, by rw [List.getElem?_map, hz1]; rfl, rfl⟩
    · obtain ⟨z, hz1, rfl⟩ := List.mem_map.mp hy
      obtain ⟨o', its', n', t1, t2, t3, t4⟩ := L2.key_of I.hok (e4 z hz1).2.1
      exact ⟨o', its', n', hk' _ _ (Nat.ne_of_lt (Heap.lt_size t1)) (by simp) t1, t2, t3, t4⟩
    · have nd' : ((([] : List (List Key × Addr × Value)) ++ zs.map fun z => (z.2.1, z.2.2.1, z.2.2.2.2)).map (·.1)).Nodup := by
        rw [List.nil_append, List.map_map]
        show (zs.map fun z => z.2.1).Nodup
        rw [e2]
        exact nd
      rw [stored_new _ _ nd', List.nil_append] at hD
      have hm : (s.heap.objs.size == sysModules) = false := beq_eq_false_iff_ne.mpr (Nat.ne_of_gt I.big)
      obtain ⟨od, es, ep, g1, g2, g3, g4, g5⟩ := hD
      have hn := I.hok.fresh (Nat.le_refl s.heap.objs.size)
      have kt := kt_zs (H := H) (zs := zs) fun z hz => (e4 z hz).2
      refine ⟨.ref s.heap.objs.size, upd H s.heap.objs.size (.frz od (.dT (zs.map fun z => (z.2.1, z.2.2.2.1)))), I.laid (t' := tk) (fun b ob e => kp b ob (by simp) e) (Nat.le_refl _) ⟨g1, by rw [List.length_map]; exact hlen, hm, _, Paired.mapP kt fun p q z => ⟨z.1, by rw [upd_ne (ne_of_none z.2.1 hn)]; exact z.2.1, z.2.2⟩, od, es, ep, g1, g2, g3, g4, g5.2⟩, rfl, ?_⟩
      refine q _ _ _ _ h (rdT (k.new hn) upd_same ?_ ?_) (k.laid hn) (step_new hn)
      · rw [List.map_map]; exact e2
      · rw [List.map_map]; exact e3.step k (step_new hn)
  · exact h.elim
def tLockNx (t : TS) : TS := fun D σ H => t { D with nx := fun σ' H' => ∃ d u, H' d = some u ∧ Mut (some u) ∧ ∀ od, D.nx σ' (upd H' d (.frz od u)) } σ H
theorem ps_lockNx {st : Stmt} {t : TS} (h : PS X st t) : PS X st (tLockNx t) := by
  refine ⟨fun pins s σ H D I hw => ?_⟩
  refine thn (h.run pins s σ _ _ I hw) fun f s1 q => ?_
  cases f with
  | next =>
    obtain ⟨σ', H', I2, d, u, hd, mu, q⟩ := q
    obtain ⟨od, I3⟩ := I2.lock hd mu
    exact ⟨σ', _, I3, q od⟩
  | brk => exact q
  | cont => exact q
  | ret v => exact q
theorem Ok.lock {a : Addr} {od : Obj} {ks : List (List Key)} {ds : List D} {kvs : List (List Key × V)} (k : Ok K T S H) (e : S a = some (.dT ks ds)) (hH : H a = some (.dT kvs)) : Ok K T (S.del a) (upd H a (.frz od (.dT kvs))) ∧ Step T S H (S.del a) (upd H a (.frz od (.dT kvs))) := by
  have st : Step T S H (S.del a) (upd H a (.frz od (.dT kvs))) := fun b u e1 q => by
    have ne : b ≠ a := fun z => q (.inl (by rw [z]; exact ⟨_, e⟩))
    rw [upd_ne ne]
    exact step_del b u e1 q
  have nT : ∀ b u, H b = some u → (∀ x, u ≠ .dT x) → b ≠ a := fun b u e1 z4 z => by
    rw [z, hH] at e1
    cases e1
    exact z4 _ rfl
  refine ⟨⟨fun q hq => ?_, fun b h => ?_, fun b m h => ?_⟩, st⟩
  · obtain ⟨ps, h1, h2, h3⟩ := k.tabs q hq
    refine ⟨ps, by rw [upd_ne (nT _ _ h1 (by intro _ z; cases z))]; exact h1, h2, fun pos cv hc => ?_⟩
    obtain ⟨c, e1, e2⟩ := h3 pos cv hc
    refine ⟨c, e1, ?_⟩
    rw [upd_ne (nT _ _ e2 (by intro _ z; unfold LamX.CodeO at z; cases z))]
    exact e2
  · obtain ⟨⟨xs, e1⟩, e2⟩ := k.bus b h
    have ne := nT _ _ e1 (by intro _ z; cases z)
    exact ⟨⟨xs, by rw [upd_ne ne]; exact e1⟩, by rw [del_ne ne]; exact e2⟩
  · have ne : b ≠ a := fun z => by rw [z, del_same] at h; cases h
    rw [del_ne ne] at h
    exact (k.cel b m h).keep k st (upd_ne ne)
/-- the dict in slot i changes no more -/
def dFrzT (i : Nat) : DS := fun ρ S p => ∃ a ks ds, ρ[i]? = some (some (.val (.ref a))) ∧ S a = some (.dT ks ds) ∧ p.nx (ρ.set i (some (.dT ks ds))) (S.del a)
theorem ds_frzT {st : Stmt} {u : DS} {i : Nat} (h : PS X st (tS X.K T E u)) : PS X st (tS X.K T E (dSeq u (dFrzT i))) := ps_imp (ps_lockNx h) (by
  rintro Dd σ H ⟨ρ, S, p, rl, k, h, n, r, bk, ct, x⟩
  refine ⟨ρ, S, _, rl, k, h, ?_, r, bk, ct, x⟩
  rintro ρ' S' σ' H' ⟨a, ks, ds, hi, hs, hp⟩ rl' k' s'
  obtain ⟨w, hw, rw_⟩ := rl'.at hi
  obtain rfl := val_of rw_
  obtain ⟨kvs, e1, e2, r1⟩ := k'.cel a _ hs
  refine ⟨a, _, e1, trivial, fun od => ?_⟩
  obtain ⟨k2, s2⟩ := Ok.lock (od := od) k' hs e1
  have nm : ¬ Mu T (S'.del a) a := mu_del k' ⟨_, hs⟩
  have rl2 := (rl'.step k' s2).set i (rdT nm upd_same e2 (r1.step k' s2) : Rep X.K (Mu T (S'.del a)) (upd H' a (.frz od (.dT kvs))) (.dT ks ds) (.ref a))
  rw [set_self hw] at rl2
  exact n _ _ _ _ hp rl2 k2 (s'.trans s2))
theorem room_u10 {k : Nat} {A : Around} (r : Room k A) : A.units + 10 < cLine := by have := r.un; omega
end
end Dw
namespace Dw
open PySem PySem.Spec PyProof.Rows L2
/-- i * j, one of them below 2 ^ 64 -/
def oMulS : D → D → W D
  | .int i, .int j => fun S post _ => CMul i j ∧ post (.int (i * j)) S
  | _, _ => fun _ _ _ => False
section
variable {X : Cx} {T : Gx} {E : XK}
theorem or_mulS : OpR X (binaryOp .Mult) (rD2 X.K T E oMulS) := by
  rintro pins s σ H v w u1 u2 Q I ra rb ⟨x, y, S, post, xp, rx, ry, k, h, q, xx⟩
  unfold oMulS at h
  split at h
  · rename_i i j
    exact op_mul pins s σ H _ _ _ _ Q I ra rb ⟨i, j, int_of rx, int_of ry, h.1, q.now k h.2 (rint _)⟩
  · exact h.elim
end
section
variable (ρ : Lc) (S : Sto) (p : Pst) (post : D → Sto → Prop) (xp : Xp)
theorem oMulS_i (i j : Int) : oMulS (.int i) (.int j) S post xp = (CMul i j ∧ post (.int (i * j)) S) := by exact id rfl
theorem dDictT_m : dDictT ρ S post xp = ∀ p, S p = none → post (.val (.ref p)) (S.put p (.dT [] [])) := by exact id rfl
theorem dDictTF_m : dDictTF ρ S post xp = post (.dT [] []) S := by exact id rfl
theorem dPutT_m (o i e : DE) : dPutT o i e ρ S p = e ρ S (fun y S1 => o ρ S1 (fun d S2 => i ρ S2 (fun j S3 => ∃ a ks ds k, d = .val (.ref a) ∧ S3 a = some (.dT ks ds) ∧ ks.length < 1000 ∧ keyT j = some k ∧ p.nx ρ (S3.put a (.dT (putKT ks k) (putDT ks ds k y)))) p.xp) p.xp) p.xp := by exact id rfl
theorem oGetT_m (x y : D) : oGetT x y S post xp = ∃ ks ds k v, dictT S x = some (ks, ds) ∧ keyT y = some k ∧ lookT ks ds k = some v ∧ post v S := by exact id rfl
theorem dGetT_m (f g h : DE) : dGetT f g h ρ S post xp = f ρ S (fun d S1 => (∃ q, dictT S1 d = some q) ∧ g ρ S1 (fun j S2 => h ρ S2 (fun z S3 => ∃ ks ds k, dictT S3 d = some (ks, ds) ∧ keyT j = some k ∧ post ((lookT ks ds k).getD z) S3) xp) xp) xp := by exact id rfl
theorem gKeysT_m (d : D) : gKeysT [d] S post xp = ∃ ks ds, dictT S d = some (ks, ds) ∧ post (.lst (ks.map keyTV)) S := by exact id rfl
theorem gSortT_m (d : D) : gSortT [d] S post xp = ∃ ks : List (List Key), lstD S d = some (ks.map keyTV) ∧ (∀ k ∈ ks, keyishK k = true) ∧ (∀ k ∈ ks, ∀ q ∈ ks, PySem.W.alike (encKs k) (encKs q) = true) ∧ post (.lst ((sortKT ks).map keyTV)) S := by exact id rfl
theorem gDictT_m (d : D) : gDictT [d] S post xp = ∃ kvs : List (List Key × D), lstD S d = some (kvs.map pairT) ∧ (∀ p ∈ kvs, keyishK p.1 = true) ∧ (kvs.map (·.1)).Nodup ∧ kvs.length ≤ 1000 ∧ post (.dT (kvs.map (·.1)) (kvs.map (·.2))) S := by exact id rfl
theorem cKeysT_m (e : DE) (post : List D → Sto → Prop) : cKeysT e ρ S post xp = e ρ S (fun d S' => ∃ ks ds, d = .dT ks ds ∧ post (ks.map keyTV) S') xp := by exact id rfl
theorem dFrzT_m (i : Nat) : dFrzT i ρ S p = ∃ a ks ds, ρ[i]? = some (some (.val (.ref a))) ∧ S a = some (.dT ks ds) ∧ p.nx (ρ.set i (some (.dT ks ds))) (S.del a) := by exact id rfl
end
end Dw
set_option maxHeartbeats 2000000
namespace Dw
open PySem PySem.Spec PyProof.Rows L2
def topS (i : Nat) : Stmt := PySem.Challenge.pw_lostland_k21_forms_put_together.main.body.getD i (.Pass ⟨0, 0, 0, 0⟩)
abbrev s_fraction : Stmt := topS 7
theorem sc_fraction : FnScope ["over", "under", "shared"] ["over", "under"] (defScope s_fraction) := ⟨rfl, rfl, rfl, by decide +kernel, rfl, by decide +kernel, by decide +kernel⟩
abbrev s_plus : Stmt := topS 8
theorem sc_plus : FnScope ["one", "other"] ["one", "other"] (defScope s_plus) := ⟨rfl, rfl, rfl, by decide +kernel, rfl, by decide +kernel, by decide +kernel⟩
abbrev s_times : Stmt := topS 9
theorem sc_times : FnScope ["one", "other"] ["one", "other"] (defScope s_times) := ⟨rfl, rfl, rfl, by decide +kernel, rfl, by decide +kernel, by decide +kernel⟩
abbrev s_put_together : Stmt := topS 11
theorem sc_put_together : FnScope ["pairs", "totals", "key", "weight"] ["pairs"] (defScope s_put_together) := ⟨rfl, rfl, rfl, by decide +kernel, rfl, by decide +kernel, by decide +kernel⟩
abbrev s_mixture : Stmt := topS 12
theorem sc_mixture : FnScope ["parts", "weight", "pairs", "key", "own"] ["parts"] (defScope s_mixture) := ⟨rfl, rfl, rfl, by decide +kernel, rfl, by decide +kernel, by decide +kernel⟩
abbrev s_form_plus : Stmt := topS 14
theorem sc_form_plus : FnScope ["one", "other"] ["one", "other"] (defScope s_form_plus) := ⟨rfl, rfl, rfl, by decide +kernel, rfl, by decide +kernel, by decide +kernel⟩
abbrev s_form_times : Stmt := topS 15
theorem sc_form_times : FnScope ["form", "weight"] ["form", "weight"] (defScope s_form_times) := ⟨rfl, rfl, rfl, by decide +kernel, rfl, by decide +kernel, by decide +kernel⟩
abbrev s__law_bag : Stmt := topS 17
theorem sc__law_bag : FnScope ["_law_script", "_law_seed", "_law_cell"] ["_law_script"] (defScope s__law_bag) := ⟨rfl, rfl, rfl, by decide +kernel, rfl, by decide +kernel, by decide +kernel⟩
abbrev s__law_draw : Stmt := topS 18
abbrev s__law_of : Stmt := topS 19
theorem sc__law_of : FnScope ["_law_bag_here", "_law_things"] ["_law_bag_here", "_law_things"] (defScope s__law_of) := ⟨rfl, rfl, rfl, by decide +kernel, rfl, by decide +kernel, by decide +kernel⟩
abbrev s__law_like : Stmt := topS 20
theorem sc__law_like : FnScope ["_law_found", "_law_due", "_law_a", "_law_b"] ["_law_found", "_law_due"] (defScope s__law_like) := ⟨rfl, rfl, rfl, by decide +kernel, rfl, by decide +kernel, by decide +kernel⟩
abbrev s__law_words : Stmt := topS 21
theorem sc__law_words : FnScope ["_law_bag_here", "_law_many", "_law_letters", "_law_stem", "_law_k", "_law_at", "_law_first", "_law_tail", "_law_found", "_law_word"] ["_law_bag_here", "_law_many"] (defScope s__law_words) := ⟨rfl, rfl, rfl, by decide +kernel, rfl, by decide +kernel, by decide +kernel⟩
abbrev s__law_gcd : Stmt := topS 22
theorem sc__law_gcd : FnScope ["_law_one", "_law_other"] ["_law_one", "_law_other"] (defScope s__law_gcd) := ⟨rfl, rfl, rfl, by decide +kernel, rfl, by decide +kernel, by decide +kernel⟩
abbrev s__law_q : Stmt := topS 23
theorem sc__law_q : FnScope ["_law_over", "_law_under", "_law_part"] ["_law_over", "_law_under"] (defScope s__law_q) := ⟨rfl, rfl, rfl, by decide +kernel, rfl, by decide +kernel, by decide +kernel⟩
abbrev s__law_plus : Stmt := topS 24
theorem sc__law_plus : FnScope ["_law_one", "_law_other"] ["_law_one", "_law_other"] (defScope s__law_plus) := ⟨rfl, rfl, rfl, by decide +kernel, rfl, by decide +kernel, by decide +kernel⟩
abbrev s__law_times : Stmt := topS 25
theorem sc__law_times : FnScope ["_law_one", "_law_other"] ["_law_one", "_law_other"] (defScope s__law_times) := ⟨rfl, rfl, rfl, by decide +kernel, rfl, by decide +kernel, by decide +kernel⟩
abbrev s__law_number : Stmt := topS 26
theorem sc__law_number : FnScope ["_law_bag_here", "_law_way"] ["_law_bag_here"] (defScope s__law_number) := ⟨rfl, rfl, rfl, by decide +kernel, rfl, by decide +kernel, by decide +kernel⟩
abbrev s__law_short : Stmt := topS 27
theorem sc__law_short : FnScope ["_law_spot", "_law_one"] ["_law_spot"] (defScope s__law_short) := ⟨rfl, rfl, rfl, by decide +kernel, rfl, by decide +kernel, by decide +kernel⟩
abbrev s__law_join : Stmt := topS 28
theorem sc__law_join : FnScope ["_law_parts", "_law_found", "_law_form", "_law_by", "_law_key"] ["_law_parts"] (defScope s__law_join) := ⟨rfl, rfl, rfl, by decide +kernel, rfl, by decide +kernel, by decide +kernel⟩
abbrev s__law_tuple : Stmt := topS 29
theorem sc__law_tuple : FnScope ["_law_form", "_law_key"] ["_law_form"] (defScope s__law_tuple) := ⟨rfl, rfl, rfl, by decide +kernel, rfl, by decide +kernel, by decide +kernel⟩
abbrev s__law_unknown : Stmt := topS 30
theorem sc__law_unknown : FnScope ["_law_bag_here", "_law_names", "_law_way", "_law_name"] ["_law_bag_here", "_law_names"] (defScope s__law_unknown) := ⟨rfl, rfl, rfl, by decide +kernel, rfl, by decide +kernel, by decide +kernel⟩
abbrev s__law_drawn_form : Stmt := topS 31
theorem sc__law_drawn_form : FnScope ["_law_bag_here", "_law_names", "_law_less", "_law_found", "_law_k", "_law_by", "_law_key"] ["_law_bag_here", "_law_names", "_law_less"] (defScope s__law_drawn_form) := ⟨rfl, rfl, rfl, by decide +kernel, rfl, by decide +kernel, by decide +kernel⟩
abbrev s_law : Stmt := topS 32
theorem sc_law : FnScope ["_law_script", "_law_bag_here", "_law_names", "_law_total", "_law_due", "_law_turn", "_law_one", "_law_other", "_law_both", "_law_by", "_law_many"] ["_law_script"] (defScope s_law) := ⟨rfl, rfl, rfl, by decide +kernel, rfl, by decide +kernel, by decide +kernel⟩
abbrev own (K : PySem.W.Frag) : List Addr := []
abbrev ownB (K : PySem.W.Frag) : List Addr := []
abbrev g_ZERO : D := .tup [.int 0, .int 1]
abbrev g_ONE : D := .tup [.int 1, .int 1]
/-- what the top has written -/
structure Tx (P : Program) (w : World) (K : PySem.W.Frag) (mg : Str → Option Value) (base : Heap) (tb : List (Addr × Str)) : Prop where
  gcd : mg "gcd" = some (.builtin "math.gcd")
  isi : IsiK K (own K)
  boo : ∀ C ∈ ownB K, BoolC K C
  b_int : mg "int" = none
  b_list : mg "list" = none
  d__law_bag : ∃ f fd, Fun K "_law_bag" "_law_bag" s__law_bag f fd ∧ mg "_law_bag" = some (.ref f)
  b_range : mg "range" = none
  b_len : mg "len" = none
  b_abs : mg "abs" = none
  d__law_draw : ∃ f fd, Fun K "_law_draw" "_law_draw" s__law_draw f fd ∧ mg "_law_draw" = some (.ref f)
  d__law_of : ∃ f fd, Fun K "_law_of" "_law_of" s__law_of f fd ∧ mg "_law_of" = some (.ref f)
  d__law_words : ∃ f fd, Fun K "_law_words" "_law_words" s__law_words f fd ∧ mg "_law_words" = some (.ref f)
  d__law_gcd : ∃ f fd, Fun K "_law_gcd" "_law_gcd" s__law_gcd f fd ∧ mg "_law_gcd" = some (.ref f)
  d__law_q : ∃ f fd, Fun K "_law_q" "_law_q" s__law_q f fd ∧ mg "_law_q" = some (.ref f)
  d__law_number : ∃ f fd, Fun K "_law_number" "_law_number" s__law_number f fd ∧ mg "_law_number" = some (.ref f)
  d__law_unknown : ∃ f fd, Fun K "_law_unknown" "_law_unknown" s__law_unknown f fd ∧ mg "_law_unknown" = some (.ref f)
  b_all : mg "all" = none
  d__law_short : ∃ f fd, Fun K "_law_short" "_law_short" s__law_short f fd ∧ mg "_law_short" = some (.ref f)
  d__law_drawn_form : ∃ f fd, Fun K "_law_drawn_form" "_law_drawn_form" s__law_drawn_form f fd ∧ mg "_law_drawn_form" = some (.ref f)
  b_tuple : mg "tuple" = none
  b_sorted : mg "sorted" = none
  d__law_tuple : ∃ f fd, Fun K "_law_tuple" "_law_tuple" s__law_tuple f fd ∧ mg "_law_tuple" = some (.ref f)
  d__law_plus : ∃ f fd, Fun K "_law_plus" "_law_plus" s__law_plus f fd ∧ mg "_law_plus" = some (.ref f)
  d__law_times : ∃ f fd, Fun K "_law_times" "_law_times" s__law_times f fd ∧ mg "_law_times" = some (.ref f)
  b_dict : mg "dict" = none
  d__law_join : ∃ f fd, Fun K "_law_join" "_law_join" s__law_join f fd ∧ mg "_law_join" = some (.ref f)
  b_isinstance : mg "isinstance" = none
  b_zip : mg "zip" = none
  b_bool : mg "bool" = none
  b_str : mg "str" = none
  d__law_like : ∃ f fd, Fun K "_law_like" "_law_like" s__law_like f fd ∧ mg "_law_like" = some (.ref f)
  d_fraction : ∃ f fd, FunD K "fraction" "fraction" (defArgs s_fraction) (defBody s_fraction) (defScope s_fraction) [.int 1] [] f fd ∧ mg "fraction" = some (.ref f)
  d_plus : ∃ f fd, Fun K "plus" "plus" s_plus f fd ∧ mg "plus" = some (.ref f)
  gl_ZERO : ∃ u v, mg "ZERO" = some u ∧ L2.RelV v u ∧ ∀ M H, Rep K M H g_ZERO v
  d_put_together : ∃ f fd, Fun K "put_together" "put_together" s_put_together f fd ∧ mg "put_together" = some (.ref f)
  d_times : ∃ f fd, Fun K "times" "times" s_times f fd ∧ mg "times" = some (.ref f)
  d_mixture : ∃ f fd, Fun K "mixture" "mixture" s_mixture f fd ∧ mg "mixture" = some (.ref f)
  gl_ONE : ∃ u v, mg "ONE" = some u ∧ L2.RelV v u ∧ ∀ M H, Rep K M H g_ONE v
  d_form_plus : ∃ f fd, Fun K "form_plus" "form_plus" s_form_plus f fd ∧ mg "form_plus" = some (.ref f)
  d_form_times : ∃ f fd, Fun K "form_times" "form_times" s_form_times f fd ∧ mg "form_times" = some (.ref f)
  d_law : ∃ f fd, Fun K "law" "law" s_law f fd ∧ mg "law" = some (.ref f)
end Dw
set_option maxHeartbeats 2000000
namespace Dw
open PySem PySem.Spec PyProof.Rows L2
def fa : List He.Fa := [.free "int", .free "list", .glo "_law_bag", .free "range", .free "len", .free "abs", .glo "_law_draw", .glo "_law_of", .glo "_law_words", .glo "_law_gcd", .glo "_law_q", .glo "_law_number", .glo "_law_unknown", .free "all", .glo "_law_short", .glo "_law_drawn_form", .free "tuple", .free "sorted", .glo "_law_tuple", .glo "_law_plus", .glo "_law_times", .free "dict", .glo "_law_join", .free "isinstance", .free "zip", .free "bool", .free "str", .glo "_law_like", .glo "fraction", .glo "plus", .glo "put_together", .glo "times", .glo "mixture", .glo "form_plus", .glo "form_times", .glo "law"]
def fx : List DefX := [⟨fun K => He.ga K "_law_bag", "_law_bag", "_law_bag", defArgs s__law_bag, defBody s__law_bag, defScope s__law_bag, [], [], []⟩,
  ⟨fun K => He.ga K "_law_draw", "_law_draw", "_law_draw", defArgs s__law_draw, defBody s__law_draw, defScope s__law_draw, [], [], []⟩,
  ⟨fun K => He.ga K "_law_of", "_law_of", "_law_of", defArgs s__law_of, defBody s__law_of, defScope s__law_of, [], [], []⟩,
  ⟨fun K => He.ga K "_law_words", "_law_words", "_law_words", defArgs s__law_words, defBody s__law_words, defScope s__law_words, [], [], []⟩,
  ⟨fun K => He.ga K "_law_gcd", "_law_gcd", "_law_gcd", defArgs s__law_gcd, defBody s__law_gcd, defScope s__law_gcd, [], [], []⟩,
  ⟨fun K => He.ga K "_law_q", "_law_q", "_law_q", defArgs s__law_q, defBody s__law_q, defScope s__law_q, [], [], []⟩,
  ⟨fun K => He.ga K "_law_number", "_law_number", "_law_number", defArgs s__law_number, defBody s__law_number, defScope s__law_number, [], [], []⟩,
  ⟨fun K => He.ga K "_law_unknown", "_law_unknown", "_law_unknown", defArgs s__law_unknown, defBody s__law_unknown, defScope s__law_unknown, [], [], []⟩,
  ⟨fun K => He.ga K "_law_short", "_law_short", "_law_short", defArgs s__law_short, defBody s__law_short, defScope s__law_short, [], [], []⟩,
  ⟨fun K => He.ga K "_law_drawn_form", "_law_drawn_form", "_law_drawn_form", defArgs s__law_drawn_form, defBody s__law_drawn_form, defScope s__law_drawn_form, [], [], []⟩,
  ⟨fun K => He.ga K "_law_tuple", "_law_tuple", "_law_tuple", defArgs s__law_tuple, defBody s__law_tuple, defScope s__law_tuple, [], [], []⟩,
  ⟨fun K => He.ga K "_law_plus", "_law_plus", "_law_plus", defArgs s__law_plus, defBody s__law_plus, defScope s__law_plus, [], [], []⟩,
  ⟨fun K => He.ga K "_law_times", "_law_times", "_law_times", defArgs s__law_times, defBody s__law_times, defScope s__law_times, [], [], []⟩,
  ⟨fun K => He.ga K "_law_join", "_law_join", "_law_join", defArgs s__law_join, defBody s__law_join, defScope s__law_join, [], [], []⟩,
  ⟨fun K => He.ga K "_law_like", "_law_like", "_law_like", defArgs s__law_like, defBody s__law_like, defScope s__law_like, [], [], []⟩,
  ⟨fun K => He.ga K "fraction", "fraction", "fraction", defArgs s_fraction, defBody s_fraction, defScope s_fraction, [.int 1], [], []⟩,
  ⟨fun K => He.ga K "plus", "plus", "plus", defArgs s_plus, defBody s_plus, defScope s_plus, [], [], []⟩,
  ⟨fun K => He.ga K "put_together", "put_together", "put_together", defArgs s_put_together, defBody s_put_together, defScope s_put_together, [], [], []⟩,
  ⟨fun K => He.ga K "times", "times", "times", defArgs s_times, defBody s_times, defScope s_times, [], [], []⟩,
  ⟨fun K => He.ga K "mixture", "mixture", "mixture", defArgs s_mixture, defBody s_mixture, defScope s_mixture, [], [], []⟩,
  ⟨fun K => He.ga K "form_plus", "form_plus", "form_plus", defArgs s_form_plus, defBody s_form_plus, defScope s_form_plus, [], [], []⟩,
  ⟨fun K => He.ga K "form_times", "form_times", "form_times", defArgs s_form_times, defBody s_form_times, defScope s_form_times, [], [], []⟩,
  ⟨fun K => He.ga K "law", "law", "law", defArgs s_law, defBody s_law, defScope s_law, [], [], []⟩]
def tf : List He.Defn := []
def lamQ (x : He.Defn) : Str := x.1 ++ ".<locals>.<lambda>"
def ex : List (PySem.W.Frag → Bool) := [fun K => gloB K "ZERO" g_ZERO,
  fun K => gloB K "ONE" g_ONE,
  fun K => decide (PySem.W.nsIn K mainGlobals "gcd" = some (some (.builtin "math.gcd"))),
  fun K => isiKB K (own K),
  fun K => boolB K (ownB K)]
def vw : Program := viewOf PySem.Challenge.pw_lostland_k21_forms_put_together [0, 32]
def loose : List PySem.Str := [PySem.Str.ofString "MapError", PySem.Str.ofString "ZeroDivisor", PySem.Str.ofString "ZERO", PySem.Str.ofString "ONE", PySem.Str.ofString "fraction", PySem.Str.ofString "plus", PySem.Str.ofString "times", PySem.Str.ofString "put_together", PySem.Str.ofString "mixture", PySem.Str.ofString "form_plus", PySem.Str.ofString "form_times", PySem.Str.ofString "_law_bag", PySem.Str.ofString "_law_draw", PySem.Str.ofString "_law_of", PySem.Str.ofString "_law_like", PySem.Str.ofString "_law_words", PySem.Str.ofString "_law_gcd", PySem.Str.ofString "_law_q", PySem.Str.ofString "_law_plus", PySem.Str.ofString "_law_times", PySem.Str.ofString "_law_number", PySem.Str.ofString "_law_short", PySem.Str.ofString "_law_join", PySem.Str.ofString "_law_tuple", PySem.Str.ofString "_law_unknown", PySem.Str.ofString "_law_drawn_form"]
open PySem.W HeadRun in
set_option maxHeartbeats 0 in
theorem head_seen (w : World) : (wholeF (fun p => stepQ (denQ tabQ) p w) fenceQ 40000 PySem.Challenge.pw_lostland_k21_forms_put_together).map (fun x => (looksF PySem.Challenge.pw_lostland_k21_forms_put_together x.1.heap x.2.abs, seenQ vw loose (importedModules PySem.Challenge.pw_lostland_k21_forms_put_together.main.body) (fun s => xlAt vw [] s && recOk [] s) x.2.abs)) = some (true, openGood vw loose) := by kernel_rfl
open PySem.W HeadRun in
set_option maxHeartbeats 0 in
theorem head_obs (w : World) : (wholeF (fun p => stepQ (denQ tabQ) p w) fenceQ 40000 PySem.Challenge.pw_lostland_k21_forms_put_together).map (fun x => obsY fa fx tf ex (getT x.2) (KF (getT x.2) 6)) = some (valY fx) := by kernel_rfl
open PySem.W in
theorem head_left : LeftO PySem.Challenge.pw_lostland_k21_forms_put_together vw loose (fun s => xlAt vw [] s && recOk [] s) (Hook.obs (hookY 6 fa fx tf ex)) (Hook.val (hookY 6 fa fx tf ex)) 40000 true := left_impY head_seen head_obs
end Dw
set_option maxHeartbeats 2000000
namespace Px
open PySem PySem.Spec PyProof.Rows L2
def topS (i : Nat) : Stmt := PySem.Challenge.pw_lostland_k21_forms_put_together.main.body.getD i (.Pass ⟨0, 0, 0, 0⟩)
abbrev s__law_draw : Stmt := topS 18
theorem sc__law_draw : FnScope ["_law_bag_here", "_law_many", "_law_cell", "_law_digit", "_law_seed"] ["_law_bag_here", "_law_many"] (defScope s__law_draw) := ⟨rfl, rfl, rfl, by decide +kernel, rfl, by decide +kernel, by decide +kernel⟩
structure Tx (K : PySem.W.Frag) (mg : Str → Option Value) : Prop where
  len : mg "len" = none
  abs : mg "abs" = none
  int : mg "int" = none
  _law_draw : ∃ f fd, Fun K "_law_draw" "_law_draw" s__law_draw f fd ∧ mg "_law_draw" = some (.ref f)
section
variable {P : Program} {w : World} {K : PySem.W.Frag} {mg : Str → Option Value} {base : Heap}
def Has (P : Program) (w : World) (K : PySem.W.Frag) (mg : Str → Option Value) (base : Heap) (CX : CXT) (x : Str) (st : Stmt) (ps : List Str) (lv : Nat) (sp : Sp) : Prop :=
  ∃ f fd, Fun K x x st f fd ∧ mg x = some (.ref f) ∧ Binds K fd ps [] ∧ FnOk P w K mg base CX lv f fd ps sp
def bagL (c : Addr) (i x y z : Int) : List V := [.ref c, .int i, .int x, .int y, .int z]
structure BagAt (K : PySem.W.Frag) (b c : Addr) (ns : List Int) (i x y z : Int) (H : Hp) : Prop where
  ne : c ≠ b
  cells : SqL K H c (ns.map V.int)
  i0 : 0 ≤ i
  x0 : 0 ≤ x
  y0 : 0 ≤ y
  y1 : y < 2147483648
def BagOk (K : PySem.W.Frag) (b c : Addr) (ns : List Int) (H : Hp) : Prop := ∃ i x y z, H b = some (.lst (bagL c i x y z)) ∧ BagAt K b c ns i x y z H
theorem upd_self {H : Hp} {b : Addr} {o : HO} (h : H b = some o) : upd H b o = H := by
  funext a
  unfold upd
  split
  · subst_vars; exact h.symm
  · rfl
theorem sqL_upd {H : Hp} {b c : Addr} {o : HO} {xs : List V} (n : c ≠ b) (h : SqL K H c xs) : SqL K (upd H b o) c xs := by
  rcases h with (h | ⟨u, h⟩) | h
  · exact .inl (.inl (by rw [upd_ne n]; exact h))
  · exact .inl (.inr ⟨u, by rw [upd_ne n]; exact h⟩)
  · exact .inr h
def onB (b : Addr) : Addr → Prop := fun a => a = b
theorem ex_upd {H : Hp} {b : Addr} {o : HO} : Ex (onB b) H (upd H b o) := fun a u h n => by
  rw [upd_ne (show a ≠ b from n)]; exact h
theorem bag_end {H : Hp} {b c : Addr} {ns : List Int} {i x y z : Int} (A : BagAt K b c ns i x y z H) {i' x' y' z' : Int} (hi : 0 ≤ i') (hx : 0 ≤ x') (hy : 0 ≤ y') (hy1 : y' < 2147483648) : BagOk K b c ns (upd H b (.lst (bagL c i' x' y' z'))) :=
  ⟨i', x', y', z', upd_same, A.ne, sqL_upd A.ne A.cells, hi, hx, hy, hy1⟩
theorem v_ixL {σ : L2.St} {H : Hp} {ta tb : TE} {a : Addr} {xs : List V} {k : Nat} {w : V} (ha : Val ta σ H (.ref a)) (hb : Val tb σ H (.int (k : Int))) (h : SqL K H a xs) (e : xs[k]? = some w) : Val (tOp (rIxL K) ta tb) σ H w := fun _ q => ha _ (hb _ ⟨a, xs, _, w, rfl, rfl, h, atI_nat e, q⟩)
theorem v_bag {σ : L2.St} {H : Hp} {ta tb : TE} {b : Addr} {xs : List V} {k : Nat} {w : V} (ha : Val ta σ (upd H b (.lst xs)) (.ref b)) (hb : Val tb σ (upd H b (.lst xs)) (.int (k : Int))) (e : xs[k]? = some w) : Val (tOp (rIxL K) ta tb) σ (upd H b (.lst xs)) w :=
  v_ixL ha hb (.inl (.inl upd_same)) e
theorem a_use {c : TT} {σ : L2.St} {H : Hp} {b : Bool} {Q : Bool → Hp → Prop} (h : Ans c σ H b) (q : Q b H) : c σ H Q := h Q q
theorem v_cell {σ : L2.St} {H : Hp} {ta tb : TE} {a : Addr} {ns : List Int} {i : Int} (ha : Val ta σ H (.ref a)) (hb : Val tb σ H (.int i)) (h : SqL K H a (ns.map V.int)) (i0 : 0 ≤ i) (i1 : i < ((ns.map V.int).length : Int)) : Val (tOp (rIxL K) ta tb) σ H (.int (ns.getD i.toNat 0)) := by
  rw [List.length_map] at i1
  have e : i = ((i.toNat : Nat) : Int) := by omega
  have l : i.toNat < ns.length := by omega
  rw [e] at hb
  have q := v_ixL (k := i.toNat) ha hb h (w := .int (ns.getD i.toNat 0)) (by rw [List.getElem?_map, List.getElem?_eq_getElem l, List.getD_eq_getElem?_getD, List.getElem?_eq_getElem l]; rfl)
  exact q
theorem ixN_lt {n k : Nat} (h : k < n) : ixN n (k : Int) = some k := by
  unfold ixN
  rw [if_pos (by omega), if_pos (by omega)]
  rfl
theorem k_seti {σ : L2.St} {H : Hp} {te to ti : TE} {D' : Ends} {b : Addr} {xs ys : List V} {v : V} {k : Nat} (h : Val te σ (upd H b (.lst xs)) v) (ho : Val to σ (upd H b (.lst xs)) (.ref b)) (hi : Val ti σ (upd H b (.lst xs)) (.int (k : Int))) (hk : k < xs.length) (e : xs.set k v = ys)
    (q : D'.nx σ (upd H b (.lst ys))) : tAsg te (gSub to ti rSetL) D' σ (upd H b (.lst xs)) := by
  refine h _ (ho _ (hi _ ⟨b, xs, _, k, rfl, rfl, upd_same, ixN_lt hk, ?_⟩))
  rw [upd_upd, e]
  exact q
def rLen (K : PySem.W.Frag) : List V → Hp → VK → Prop := fun xs H Q => ∃ x n, xs = [x] ∧ LenV K x H n ∧ Q (.int n) H
theorem v_lenL {σ : L2.St} {H : Hp} {ta : TE} {a : Addr} {xs : List V} (ha : Val ta σ H (.ref a)) (h : SqL K H a xs) : Val (tCB (rLen K) (tCons ta tNil)) σ H (.int (xs.length : Nat)) := fun _ q => ha _ ⟨_, _, rfl, .inl ⟨xs, h, rfl⟩, q⟩
def sp__law_draw (K : PySem.W.Frag) : Sp := fun vs H Q _ => ∃ (b c : Addr) (ns : List Int) (n : Int), vs = [.ref b, .int n] ∧ BagOk K b c ns H ∧ 0 < n ∧ n < 1073741824 ∧ ∀ r H', 0 ≤ r → r < n → BagOk K b c ns H' → Ex (onB b) H H' → Q (.int r) H'
theorem has__law_draw (T : Tx K mg) : Has P w K mg base CX0 "_law_draw" s__law_draw ["_law_bag_here", "_law_many"] 1 (sp__law_draw K) := by
  obtain ⟨f, fd, F, M⟩ := T._law_draw
  refine ⟨f, fd, F, M, F.binds (ps := ["_law_bag_here", "_law_many"]) (fun _ _ _ _ _ _ us hl => match us, hl with | [_, _], _ => rfl), F.ok sc__law_draw (fun vs H Q E h => ?_) (fun cdv A outer s H vs Q E hr h => ?_)⟩
  · obtain ⟨b, c, ns, n, rfl, _⟩ := h
    rfl
  obtain ⟨b, c, ns, n, rfl, ⟨i, x, y, z, hb, A⟩, h0, h1, k⟩ := h
  have i0 := A.i0
  have x0 := A.x0
  have y0 := A.y0
  have y1 := A.y1
  have fin : ∀ (r i' x' y' z' : Int), 0 ≤ r → r < n → 0 ≤ i' → 0 ≤ x' → 0 ≤ y' → y' < 2147483648 → Q (.int r) (upd H b (.lst (bagL c i' x' y' z'))) := fun r i' x' y' z' a1 a2 a3 a4 a5 a6 => k r _ a1 a2 (bag_end A a3 a4 a5 a6) ex_upd
  rw [← upd_self hb]
  refine ⟨_, (pss_cons (ps_asg (pe_op op_add (pe_ix ix_list (pv 0) pe_int (fun _ _ => rfl)) pe_int) (pg_sub (pv 0) pe_int set_list)) (pss_cons (ps_if (PW.pt (pw_and (pt_cmpR op_eq (pe_ix ix_list (pv 0) pe_int (fun _ _ => rfl)) pe_int (nomark _)) (pw_and1 (pt_cmpR op_lt (pe_ix ix_list (pv 0) pe_int (fun _ _ => rfl)) (pe_callB call_len (by rfl) T.len (by decide +kernel) (pa_cons (pe_ix ix_list (pv 0) pe_int (fun _ _ => rfl)) pa_nil)) (nomark _))))) (pss_cons (ps_set (i := 2) sc__law_draw.nd rfl (.inl rfl) (pe_ix ix_list (pe_ix ix_list (pv 0) pe_int (fun _ _ => rfl)) (pe_ix ix_list (pv 0) pe_int (fun _ _ => rfl)) (fun _ _ => rfl))) (pss_cons (ps_asg (pe_op op_add (pe_ix ix_list (pv 0) pe_int (fun _ _ => rfl)) pe_int) (pg_sub (pv 0) pe_int set_list)) (pss_one (ps_if (pt_cmpR op_ge (pv 2) (pe_op op_pow pe_int pe_int) (nomark _)) (pss_one (ps_asg (pv 2) (pg_sub (pv 0) pe_int set_list))) (pss_one (ps_asg (pe_op op_mod (pe_callTy call_int1 (by rfl) T.int (by decide +kernel) (pa_cons (pe_op op_add (pe_op op_add (pe_op op_mul (pe_ix ix_list (pv 0) pe_int (fun _ _ => rfl)) pe_int) (pe_op op_mul (pe_op op_mod (pe_callTy call_int1 (by rfl) T.int (by decide +kernel) (pa_cons (pv 2) pa_nil)) pe_int) pe_int)) pe_int) pa_nil)) pe_int) (pg_sub (pv 0) pe_int set_list))))))) pss_nil) (pss_cons (ps_if (pt_cmpR op_gt (pe_ix ix_list (pv 0) pe_int (fun _ _ => rfl)) pe_int (nomark _)) (pss_cons (ps_set (i := 3) sc__law_draw.nd rfl (.inl rfl) (pe_op op_mod (pe_callTy call_int1 (by rfl) T.int (by decide +kernel) (pa_cons (pe_ix ix_list (pv 0) pe_int (fun _ _ => rfl)) pa_nil)) (pv 1))) (pss_cons (ps_asg (pe_op op_fdiv (pe_ix ix_list (pv 0) pe_int (fun _ _ => rfl)) (pv 1)) (pg_sub (pv 0) pe_int set_list)) (pss_one (ps_ret (pv 3))))) pss_nil) (pss_cons (ps_set (i := 4) sc__law_draw.nd rfl (.inl rfl) (pe_ix ix_list (pv 0) pe_int (fun _ _ => rfl))) (pss_cons (ps_asg (pe_op op_mod (pe_callTy call_int1 (by rfl) T.int (by decide +kernel) (pa_cons (pe_op op_add (pe_op op_add (pe_op op_add (pe_op op_mul (pe_op op_mul (pv 4) (pv 4)) pe_int) (pe_op op_mul (pv 4) pe_int)) (pe_op op_mul (pe_ix ix_list (pv 0) pe_int (fun _ _ => rfl)) pe_int)) pe_int) pa_nil)) pe_int) (pg_sub (pv 0) pe_int set_list)) (pss_one (ps_ret (pe_op op_mod (pe_callTy call_int1 (by rfl) T.int (by decide +kernel) (pa_cons (pe_op op_add (pe_op op_fdiv (pe_ix ix_list (pv 0) pe_int (fun _ _ => rfl)) pe_int) (pe_op op_mul (pe_op op_mod (pe_callTy call_int1 (by rfl) T.int (by decide +kernel) (pa_cons (pe_ix ix_list (pv 0) pe_int (fun _ _ => rfl)) pa_nil)) pe_int) pe_int)) pa_nil)) (pv 1))))))))), ?_⟩
  with_reducible refine k_seq ?_
  refine k_seti (k := 4) (v_op0 (v_bag (k := 4) (val_var rfl) val_c rfl) val_c) (val_var rfl) val_c (by show 4 < 5; decide) (ys := bagL c (i) (x) (y) ((z + (1 : Int)))) rfl ?_
  with_reducible refine k_seq ?_
  with_reducible refine k_ifX ?_
  refine a_use (ans_and2 (a_test (v_eqI (v_bag (k := 2) (val_var rfl) val_c rfl) val_c)) (a_test (v_opB (v_bag (k := 1) (val_var rfl) val_c rfl) (v_lenL (v_bag (k := 0) (val_var rfl) val_c rfl) (sqL_upd A.ne A.cells))))) ?_
  refine k_ite (fun c1 => ?_) (fun c1 => ?_)
  · have hlt : i < ((ns.map V.int).length : Int) := by simp only [Bool.and_eq_true, decide_eq_true_eq] at c1; exact c1.2
    with_reducible refine k_seq ?_
    with_reducible refine k_set ?_
    refine k_val (v_cell (v_bag (k := 0) (val_var rfl) val_c rfl) (v_bag (k := 1) (val_var rfl) val_c rfl) (sqL_upd A.ne A.cells) i0 hlt) ?_
    with_reducible refine k_seq ?_
    refine k_seti (k := 1) (v_op0 (v_bag (k := 1) (val_var rfl) val_c rfl) val_c) (val_var rfl) val_c (by show 1 < 5; decide) (ys := bagL c ((i + (1 : Int))) (x) (y) ((z + (1 : Int)))) rfl ?_
    with_reducible refine k_ifX ?_
    with_reducible refine k_T ?_
    refine k_val (v_opB (val_var rfl) (v_op val_c val_c ⟨(by decide : (0 : Int) ≤ (18 : Int)), (by decide : (18 : Int) ≤ 1000000), (by decide : ((10 : Int)).natAbs < 2 ^ 64)⟩)) ?_
    refine ⟨_, rfl, ?_⟩
    refine k_ite (fun c2 => ?_) (fun c2 => ?_)
    · try simp only [decide_eq_true_eq, decide_eq_false_iff_not] at c2
      try have c2p := Int.le_trans (by decide : (0 : Int) ≤ 10 ^ ((18 : Int)).toNat) c2
      refine k_seti (k := 2) (val_var rfl) (val_var rfl) val_c (by show 2 < 5; decide) (ys := bagL c ((i + (1 : Int))) ((ns.getD i.toNat 0)) (y) ((z + (1 : Int)))) rfl ?_
      with_reducible refine k_seq ?_
      with_reducible refine k_ifX ?_
      with_reducible refine k_T ?_
      refine k_val (v_opB (v_bag (k := 2) (val_var rfl) val_c rfl) val_c) ?_
      refine ⟨_, rfl, ?_⟩
      refine k_ite (fun c3 => ?_) (fun c3 => ?_)
      · try simp only [decide_eq_true_eq, decide_eq_false_iff_not] at c3
        with_reducible refine k_seq ?_
        with_reducible refine k_set ?_
        refine k_val (v_op (v_int (v_bag (k := 2) (val_var rfl) val_c rfl)) (val_var rfl) h0) ?_
        with_reducible refine k_seq ?_
        refine k_seti (k := 2) (v_op (v_bag (k := 2) (val_var rfl) val_c rfl) (val_var rfl) ⟨h0, h1⟩) (val_var rfl) val_c (by show 2 < 5; decide) (ys := bagL c ((i + (1 : Int))) (((ns.getD i.toNat 0) / n)) (y) ((z + (1 : Int)))) rfl ?_
        with_reducible refine k_ret ?_
        refine k_val (val_var rfl) ?_
        exact fin _ _ _ _ _ (by first | omega | exact Int.emod_nonneg _ (by omega)) (by first | omega | exact Int.emod_lt_of_pos _ h0) (by omega) (by first | omega | exact Int.ediv_nonneg (by omega) (by omega)) (by omega) (by omega)
      · try simp only [decide_eq_true_eq, decide_eq_false_iff_not] at c3
        with_reducible refine k_next ?_
        with_reducible refine k_seq ?_
        with_reducible refine k_set ?_
        refine k_val (v_bag (k := 3) (val_var rfl) val_c rfl) ?_
        with_reducible refine k_seq ?_
        refine k_seti (k := 3) (v_op (v_int (v_op0 (v_op0 (v_op0 (v_op (v_op (val_var rfl) (val_var rfl) (Or.inl (show -(2 ^ 64) < y ∧ y < 2 ^ 64 by omega))) val_c (Or.inr (show -(2 ^ 64) < (13 : Int) ∧ (13 : Int) < 2 ^ 64 by omega))) (v_op (val_var rfl) val_c (Or.inr (show -(2 ^ 64) < (30011 : Int) ∧ (30011 : Int) < 2 ^ 64 by omega)))) (v_op (v_bag (k := 4) (val_var rfl) val_c rfl) val_c (Or.inr (show -(2 ^ 64) < (1299709 : Int) ∧ (1299709 : Int) < 2 ^ 64 by omega)))) val_c)) val_c (by decide : (0 : Int) < (2147483549 : Int))) (val_var rfl) val_c (by show 3 < 5; decide) (ys := bagL c ((i + (1 : Int))) ((ns.getD i.toNat 0)) (((((((y * y) * (13 : Int)) + (y * (30011 : Int))) + ((z + (1 : Int)) * (1299709 : Int))) + (70001 : Int)) % (2147483549 : Int))) ((z + (1 : Int)))) rfl ?_
        with_reducible refine k_ret ?_
        refine k_val (v_op (v_int (v_op0 (v_op (v_bag (k := 3) (val_var rfl) val_c rfl) val_c (by decide : (0 : Int) < (89 : Int) ∧ (89 : Int) < 1073741824)) (v_op (v_op (v_int (v_bag (k := 3) (val_var rfl) val_c rfl)) val_c (by decide : (0 : Int) < (7907 : Int))) val_c (Or.inr (show -(2 ^ 64) < (67 : Int) ∧ (67 : Int) < 2 ^ 64 by omega))))) (val_var rfl) h0) ?_
        exact fin _ _ _ _ _ (by first | omega | exact Int.emod_nonneg _ (by omega)) (by first | omega | exact Int.emod_lt_of_pos _ h0) (by omega) (by first | omega | exact Int.ediv_nonneg (by omega) (by omega)) (by omega) (by omega)
    · try simp only [decide_eq_true_eq, decide_eq_false_iff_not] at c2
      try have c2p := Int.le_trans (by decide : (0 : Int) ≤ 10 ^ ((18 : Int)).toNat) c2
      refine k_seti (k := 3) (v_op (v_int (v_op0 (v_op0 (v_op (v_bag (k := 3) (val_var rfl) val_c rfl) val_c (Or.inr (show -(2 ^ 64) < (52774 : Int) ∧ (52774 : Int) < 2 ^ 64 by omega))) (v_op (v_op (v_int (val_var rfl)) val_c (by decide : (0 : Int) < (2147483497 : Int))) val_c (Or.inr (show -(2 ^ 64) < (20047 : Int) ∧ (20047 : Int) < 2 ^ 64 by omega)))) val_c)) val_c (by decide : (0 : Int) < (2147483549 : Int))) (val_var rfl) val_c (by show 3 < 5; decide) (ys := bagL c ((i + (1 : Int))) (x) (((((y * (52774 : Int)) + (((ns.getD i.toNat 0) % (2147483497 : Int)) * (20047 : Int))) + (37 : Int)) % (2147483549 : Int))) ((z + (1 : Int)))) rfl ?_
      with_reducible refine k_seq ?_
      with_reducible refine k_ifX ?_
      with_reducible refine k_T ?_
      refine k_val (v_opB (v_bag (k := 2) (val_var rfl) val_c rfl) val_c) ?_
      refine ⟨_, rfl, ?_⟩
      refine k_ite (fun c4 => ?_) (fun c4 => ?_)
      · try simp only [decide_eq_true_eq, decide_eq_false_iff_not] at c4
        with_reducible refine k_seq ?_
        with_reducible refine k_set ?_
        refine k_val (v_op (v_int (v_bag (k := 2) (val_var rfl) val_c rfl)) (val_var rfl) h0) ?_
        with_reducible refine k_seq ?_
        refine k_seti (k := 2) (v_op (v_bag (k := 2) (val_var rfl) val_c rfl) (val_var rfl) ⟨h0, h1⟩) (val_var rfl) val_c (by show 2 < 5; decide) (ys := bagL c ((i + (1 : Int))) ((x / n)) (((((y * (52774 : Int)) + (((ns.getD i.toNat 0) % (2147483497 : Int)) * (20047 : Int))) + (37 : Int)) % (2147483549 : Int))) ((z + (1 : Int)))) rfl ?_
        with_reducible refine k_ret ?_
        refine k_val (val_var rfl) ?_
        exact fin _ _ _ _ _ (by first | omega | exact Int.emod_nonneg _ (by omega)) (by first | omega | exact Int.emod_lt_of_pos _ h0) (by omega) (by first | omega | exact Int.ediv_nonneg (by omega) (by omega)) (by omega) (by omega)
      · try simp only [decide_eq_true_eq, decide_eq_false_iff_not] at c4
        with_reducible refine k_next ?_
        with_reducible refine k_seq ?_
        with_reducible refine k_set ?_
        refine k_val (v_bag (k := 3) (val_var rfl) val_c rfl) ?_
        with_reducible refine k_seq ?_
        refine k_seti (k := 3) (v_op (v_int (v_op0 (v_op0 (v_op0 (v_op (v_op (val_var rfl) (val_var rfl) (Or.inl (show -(2 ^ 64) < ((((y * (52774 : Int)) + (((ns.getD i.toNat 0) % (2147483497 : Int)) * (20047 : Int))) + (37 : Int)) % (2147483549 : Int)) ∧ ((((y * (52774 : Int)) + (((ns.getD i.toNat 0) % (2147483497 : Int)) * (20047 : Int))) + (37 : Int)) % (2147483549 : Int)) < 2 ^ 64 by omega))) val_c (Or.inr (show -(2 ^ 64) < (13 : Int) ∧ (13 : Int) < 2 ^ 64 by omega))) (v_op (val_var rfl) val_c (Or.inr (show -(2 ^ 64) < (30011 : Int) ∧ (30011 : Int) < 2 ^ 64 by omega)))) (v_op (v_bag (k := 4) (val_var rfl) val_c rfl) val_c (Or.inr (show -(2 ^ 64) < (1299709 : Int) ∧ (1299709 : Int) < 2 ^ 64 by omega)))) val_c)) val_c (by decide : (0 : Int) < (2147483549 : Int))) (val_var rfl) val_c (by show 3 < 5; decide) (ys := bagL c ((i + (1 : Int))) (x) (((((((((((y * (52774 : Int)) + (((ns.getD i.toNat 0) % (2147483497 : Int)) * (20047 : Int))) + (37 : Int)) % (2147483549 : Int)) * ((((y * (52774 : Int)) + (((ns.getD i.toNat 0) % (2147483497 : Int)) * (20047 : Int))) + (37 : Int)) % (2147483549 : Int))) * (13 : Int)) + (((((y * (52774 : Int)) + (((ns.getD i.toNat 0) % (2147483497 : Int)) * (20047 : Int))) + (37 : Int)) % (2147483549 : Int)) * (30011 : Int))) + ((z + (1 : Int)) * (1299709 : Int))) + (70001 : Int)) % (2147483549 : Int))) ((z + (1 : Int)))) rfl ?_
        with_reducible refine k_ret ?_
        refine k_val (v_op (v_int (v_op0 (v_op (v_bag (k := 3) (val_var rfl) val_c rfl) val_c (by decide : (0 : Int) < (89 : Int) ∧ (89 : Int) < 1073741824)) (v_op (v_op (v_int (v_bag (k := 3) (val_var rfl) val_c rfl)) val_c (by decide : (0 : Int) < (7907 : Int))) val_c (Or.inr (show -(2 ^ 64) < (67 : Int) ∧ (67 : Int) < 2 ^ 64 by omega))))) (val_var rfl) h0) ?_
        exact fin _ _ _ _ _ (by first | omega | exact Int.emod_nonneg _ (by omega)) (by first | omega | exact Int.emod_lt_of_pos _ h0) (by omega) (by first | omega | exact Int.ediv_nonneg (by omega) (by omega)) (by omega) (by omega)
  · try simp only [decide_eq_true_eq, decide_eq_false_iff_not] at c1
    with_reducible refine k_next ?_
    with_reducible refine k_seq ?_
    with_reducible refine k_ifX ?_
    with_reducible refine k_T ?_
    refine k_val (v_opB (v_bag (k := 2) (val_var rfl) val_c rfl) val_c) ?_
    refine ⟨_, rfl, ?_⟩
    refine k_ite (fun c5 => ?_) (fun c5 => ?_)
    · try simp only [decide_eq_true_eq, decide_eq_false_iff_not] at c5
      with_reducible refine k_seq ?_
      with_reducible refine k_set ?_
      refine k_val (v_op (v_int (v_bag (k := 2) (val_var rfl) val_c rfl)) (val_var rfl) h0) ?_
      with_reducible refine k_seq ?_
      refine k_seti (k := 2) (v_op (v_bag (k := 2) (val_var rfl) val_c rfl) (val_var rfl) ⟨h0, h1⟩) (val_var rfl) val_c (by show 2 < 5; decide) (ys := bagL c (i) ((x / n)) (y) ((z + (1 : Int)))) rfl ?_
      with_reducible refine k_ret ?_
      refine k_val (val_var rfl) ?_
      exact fin _ _ _ _ _ (by first | omega | exact Int.emod_nonneg _ (by omega)) (by first | omega | exact Int.emod_lt_of_pos _ h0) (by omega) (by first | omega | exact Int.ediv_nonneg (by omega) (by omega)) (by omega) (by omega)
    · try simp only [decide_eq_true_eq, decide_eq_false_iff_not] at c5
      with_reducible refine k_next ?_
      with_reducible refine k_seq ?_
      with_reducible refine k_set ?_
      refine k_val (v_bag (k := 3) (val_var rfl) val_c rfl) ?_
      with_reducible refine k_seq ?_
      refine k_seti (k := 3) (v_op (v_int (v_op0 (v_op0 (v_op0 (v_op (v_op (val_var rfl) (val_var rfl) (Or.inl (show -(2 ^ 64) < y ∧ y < 2 ^ 64 by omega))) val_c (Or.inr (show -(2 ^ 64) < (13 : Int) ∧ (13 : Int) < 2 ^ 64 by omega))) (v_op (val_var rfl) val_c (Or.inr (show -(2 ^ 64) < (30011 : Int) ∧ (30011 : Int) < 2 ^ 64 by omega)))) (v_op (v_bag (k := 4) (val_var rfl) val_c rfl) val_c (Or.inr (show -(2 ^ 64) < (1299709 : Int) ∧ (1299709 : Int) < 2 ^ 64 by omega)))) val_c)) val_c (by decide : (0 : Int) < (2147483549 : Int))) (val_var rfl) val_c (by show 3 < 5; decide) (ys := bagL c (i) (x) (((((((y * y) * (13 : Int)) + (y * (30011 : Int))) + ((z + (1 : Int)) * (1299709 : Int))) + (70001 : Int)) % (2147483549 : Int))) ((z + (1 : Int)))) rfl ?_
      with_reducible refine k_ret ?_
      refine k_val (v_op (v_int (v_op0 (v_op (v_bag (k := 3) (val_var rfl) val_c rfl) val_c (by decide : (0 : Int) < (89 : Int) ∧ (89 : Int) < 1073741824)) (v_op (v_op (v_int (v_bag (k := 3) (val_var rfl) val_c rfl)) val_c (by decide : (0 : Int) < (7907 : Int))) val_c (Or.inr (show -(2 ^ 64) < (67 : Int) ∧ (67 : Int) < 2 ^ 64 by omega))))) (val_var rfl) h0) ?_
      exact fin _ _ _ _ _ (by first | omega | exact Int.emod_nonneg _ (by omega)) (by first | omega | exact Int.emod_lt_of_pos _ h0) (by omega) (by first | omega | exact Int.ediv_nonneg (by omega) (by omega)) (by omega) (by omega)
theorem fnok_cx {CX : CXT} {k : Nat} {f : Addr} {fd : FuncData} {ps : List Str} {sp : Sp} (F : FnOk P w K mg base CX0 k f fd ps sp) : FnOk P w K mg base CX k f fd ps sp :=
  ⟨F.len, fun A outer s H args us vs Q E hr e0 hb r h => codeAny_mono (F.run A outer s H args us vs Q E hr e0 hb r h) fun res s' hq => by
    cases res with
    | error _ => exact False.elim hq
    | ok fl =>
      cases fl with
      | ret _ => exact hq
      | next | brk | cont => exact False.elim hq⟩
end
end Px
set_option maxHeartbeats 2000000
namespace Dw
open PySem PySem.Spec PyProof.Rows L2
section
variable {P : Program} {w : World} {K : PySem.W.Frag} {mg : Str → Option Value} {base : Heap} {tb : List (Addr × Str)}
theorem kb_form_times_1_weight {K : PySem.W.Frag} {f : Addr} {fd : FuncData} (F : Fun K "form_times" "form_times" s_form_times f fd) : KBn K fd ["form", "weight"] 1 ["weight"] (Px.permU [0, 1]) (Px.permV [0, 1]) := by
  obtain ⟨oc, od, kV, doc, pm, an, cdv, ct, osl, rfl, _, _⟩ := F.ex
  exact Px.kbn_of [0, 1] fun us ws l1 l2 => match us, l1, ws, l2 with | [_], _, [_], _ => rfl
def u__law_bag (K : PySem.W.Frag) : DS :=
  (dSeq (dSet 1 (dPure (.int 12036))) (dSeq (dFor (.nm 2) (cSeq (dSl (dVar 0) dNoPart (dPart (dPure (.int 63))))) (dSet 1 (dOp oMod (dCall gInt [(dOp oAdd (dOp oAdd (dOp oMulS (dVar 1) (dPure (.int 40692))) (dOp oMod (dCall gInt [(dVar 2)]) (dPure (.int 2147483587)))) (dPure (.int 53)))]) (dPure (.int 2147483549))))) (dRet (dBag [(dCall gList [(dSl (dVar 0) dNoPart (dPart (dPure (.int 63))))]), (dPure (.int 0)), (dPure (.int 0)), (dVar 1), (dPure (.int 0))]))))
@[irreducible] def f__law_bag (K : PySem.W.Frag) : List D → W D := dDef 3 (u__law_bag K)
theorem ok__law_bag (Y : Tx P w K mg base tb) : ∃ f fd, Fun K "_law_bag" "_law_bag" s__law_bag f fd ∧ DefOk P w K mg base tb "_law_bag" ["_law_script"] 1 (f__law_bag K) f fd := by
  unfold f__law_bag
  obtain ⟨a, b, F, M⟩ := Y.d__law_bag
  exact ⟨a, b, F, ⟨M, F.kp, (F.binds (ps := ["_law_script"]) (fun _ _ _ _ _ _ us hl => match us, hl with | [_], _ => rfl)), fun_okD (tb := tb) (k := 0) F sc__law_bag (hb := fun T cdv A outer s H E hT hr => (ds_cons (ds_set (i := 1) sc__law_bag.nd rfl (.inl rfl) de_int) (ds_cons (ds_for (passes_of rfl) (ci_seq (de_sl (de_var 0) do_none (do_some de_int))) (pg_name (i := 2) sc__law_bag.nd rfl (.inl rfl)) (ds_one (ds_set (i := 1) sc__law_bag.nd rfl (.inl rfl) (de_op or_mod (de_callTy cb_int Y.b_int (da_cons' (de_op or_add (de_op or_add (de_op or_mulS (de_var 1) de_int) (de_op or_mod (de_callTy cb_int Y.b_int (da_cons' (de_var 2) da_nil')) de_int)) de_int) da_nil')) de_int)))) (ds_one (ds_ret (de_bag (da_cons' (de_callTy cb_list Y.b_list (da_cons' (de_sl (de_var 0) do_none (do_some de_int)) da_nil')) (da_cons' de_int (da_cons' de_int (da_cons' (de_var 1) (da_cons' de_int da_nil')))))))))))⟩⟩
@[irreducible] def f__law_draw (K : PySem.W.Frag) : List D → W D := gDraw
theorem ok__law_draw (Y : Tx P w K mg base tb) : ∃ f fd, Fun K "_law_draw" "_law_draw" s__law_draw f fd ∧ DefOk P w K mg base tb "_law_draw" ["_law_bag_here", "_law_many"] 1 (f__law_draw K) f fd := by
  have T : Px.Tx K mg := ⟨Y.b_len, Y.b_abs, Y.b_int, Y.d__law_draw⟩
  obtain ⟨f, fd, F, M, B, G⟩ := Px.has__law_draw (P := P) (w := w) (base := base) T
  refine ⟨f, fd, F, M, F.kp, B, (Px.fnok_cx G).imp fun vs H Q E q => ?_⟩
  obtain ⟨T, ds, S, post, xp, et, l, r, k, h, qq, x⟩ := q
  unfold f__law_draw gDraw at h
  split at h
  · rename_i b n
    obtain ⟨⟨c, ns, e⟩, n0, n1, h⟩ := h
    obtain ⟨v, v2, rfl, r1, r2⟩ := two_of r
    obtain rfl := val_of r1
    obtain rfl := int_of r2
    obtain ⟨i, x', y, z, e1, A, hc, nc⟩ := k.cel b _ e
    refine ⟨b, c, ns, n, rfl, ⟨i, x', y, z, e1, A.ne, A.cells, A.i0, A.x0, A.y0, A.y1⟩, n0, n1, fun rr H' r0 r1' hb ex => ?_⟩
    obtain ⟨i2, x2, y2, z2, e2, A2⟩ := hb
    obtain ⟨k', st⟩ := draw_ok k e ⟨i2, x2, y2, z2, e2, A2.ne, A2.cells, A2.i0, A2.x0, A2.y0, A2.y1⟩ fun a u hu hne => ex a u hu hne
    exact qq _ _ _ _ (h rr r0 r1') (rint _) k' st
  · exact h.elim
def u__law_of (K : PySem.W.Frag) : DS :=
  (dRet (dOp oIx (dVar 1) (dCall (f__law_draw K) [(dVar 0), (dCall gLen [(dVar 1)])])))
@[irreducible] def f__law_of (K : PySem.W.Frag) : List D → W D := dDef 2 (u__law_of K)
theorem ok__law_of (Y : Tx P w K mg base tb) : ∃ f fd, Fun K "_law_of" "_law_of" s__law_of f fd ∧ DefOk P w K mg base tb "_law_of" ["_law_bag_here", "_law_things"] 2 (f__law_of K) f fd := by
  unfold f__law_of
  obtain ⟨a, b, F, M⟩ := Y.d__law_of
  obtain ⟨a__law_draw, d__law_draw, U__law_draw, F__law_draw⟩ := ok__law_draw (P := P) (w := w) (base := base) (tb := tb) Y
  exact ⟨a, b, F, ⟨M, F.kp, (F.binds (ps := ["_law_bag_here", "_law_things"]) (fun _ _ _ _ _ _ us hl => match us, hl with | [_, _], _ => rfl)), fun_okD (tb := tb) (k := 1) F sc__law_of (hb := fun T cdv A outer s H E hT hr => (ds_one (ds_ret (de_ix or_ix (de_var 1) (de_call F__law_draw hT hr pass_own (da_cons' (de_var 0) (da_cons' (de_callB cb_len Y.b_len (da_cons' (de_var 1) da_nil')) da_nil')))))))⟩⟩
def u__law_words (K : PySem.W.Frag) : DS :=
  (dSeq (dUnp [2, 3] (dTup [(dPure (.str "abcdefghijklmnopqrstuvwxyz")), (dPure (.str ""))])) (dSeq (dFor (.nm 4) (cRng [(dCall (f__law_draw K) [(dVar 0), (dPure (.int 3))])]) (dSet 3 (dOp oAdd (dVar 3) (dCall (f__law_of K) [(dVar 0), (dVar 2)])))) (dSeq (dPar [5, 6, 7] [(dCall (f__law_draw K) [(dVar 0), (dOp oAdd (dCall gLen [(dVar 3)]) (dPure (.int 1)))]), (dCall (f__law_draw K) [(dVar 0), (dPure (.int 26))]), (dCall (f__law_of K) [(dVar 0), (dLst [(dPure (.str "")), (dPure (.str "a")), (dPure (.str "zz"))])])]) (dSeq (dSet 8 (dLstM [])) (dSeq (dSeq (dFor (.nm 4) (cRng [(dVar 1)]) (dSeq (dSet 9 (dOp oAdd (dOp oAdd (dSl (dVar 3) dNoPart (dPart (dVar 5))) (dOp oIx (dVar 2) (dOp oMod (dCall gInt [(dOp oAdd (dVar 6) (dOp oMul (dPure (.int 7)) (dVar 4)))]) (dPure (.int 26))))) (dSl (dVar 3) (dPart (dVar 5)) dNoPart))) (dExpr (dBm isL gAppend (dVar 8) [(dIf (dtVal (dOp oEq (dOp oMod (dCall gInt [(dVar 4)]) (dPure (.int 2))) (dPure (.int 0)))) (dOp oAdd (dVar 9) (dVar 7)) (dVar 9))])))) (dFrz 8)) (dRet (dVar 8)))))))
@[irreducible] def f__law_words (K : PySem.W.Frag) : List D → W D := dDef 10 (u__law_words K)
theorem ok__law_words (Y : Tx P w K mg base tb) : ∃ f fd, Fun K "_law_words" "_law_words" s__law_words f fd ∧ DefOk P w K mg base tb "_law_words" ["_law_bag_here", "_law_many"] 3 (f__law_words K) f fd := by
  unfold f__law_words
  obtain ⟨a, b, F, M⟩ := Y.d__law_words
  obtain ⟨a__law_draw, d__law_draw, U__law_draw, F__law_draw⟩ := ok__law_draw (P := P) (w := w) (base := base) (tb := tb) Y
  obtain ⟨a__law_of, d__law_of, U__law_of, F__law_of⟩ := ok__law_of (P := P) (w := w) (base := base) (tb := tb) Y
  exact ⟨a, b, F, ⟨M, F.kp, (F.binds (ps := ["_law_bag_here", "_law_many"]) (fun _ _ _ _ _ _ us hl => match us, hl with | [_, _], _ => rfl)), fun_okD (tb := tb) (k := 2) F sc__law_words (hb := fun T cdv A outer s H E hT hr => (ds_cons (ds_unp (is := [2, 3]) (n := 2) (ps_asg (de_tup (da_cons' de_str (da_cons' de_str da_nil'))) (pg_tup rfl (pgs_cons (pg_name (i := 2) sc__law_words.nd rfl (.inl rfl)) (pgs_cons (pg_name (i := 3) sc__law_words.nd rfl (.inl rfl)) pgs_nil))))) (ds_cons (ds_for (passes_of rfl) (ci_rng Y.b_range (da_cons' (de_call F__law_draw hT hr pass_own (da_cons' (de_var 0) (da_cons' de_int da_nil'))) da_nil')) (pg_name (i := 4) sc__law_words.nd rfl (.inl rfl)) (ds_one (ds_set (i := 3) sc__law_words.nd rfl (.inl rfl) (de_op or_add (de_var 3) (de_call F__law_of hT hr pass_own (da_cons' (de_var 0) (da_cons' (de_var 2) da_nil'))))))) (ds_cons (ds_par3 (ps_par3 (i := 5) (j := 6) (l := 7) (by rfl) sc__law_words.nd rfl rfl rfl (by decide) (by decide) (by decide) rfl rfl rfl (da_cons' (de_call F__law_draw hT hr pass_own (da_cons' (de_var 0) (da_cons' (de_op or_add (de_callB cb_len Y.b_len (da_cons' (de_var 3) da_nil')) de_int) da_nil'))) (da_cons' (de_call F__law_draw hT hr pass_own (da_cons' (de_var 0) (da_cons' de_int da_nil'))) (da_cons' (de_call F__law_of hT hr pass_own (da_cons' (de_var 0) (da_cons' (de_lst (da_cons' de_str (da_cons' de_str (da_cons' de_str da_nil')))) da_nil'))) da_nil'))) (by rfl))) (ds_cons (ds_set (i := 8) sc__law_words.nd rfl (.inl rfl) (de_lstM da_nil')) (ds_cons (ds_frz (i := 8) (ds_for (passes_of rfl) (ci_rng Y.b_range (da_cons' (de_var 1) da_nil')) (pg_name (i := 4) sc__law_words.nd rfl (.inl rfl)) (ds_cons (ds_set (i := 9) sc__law_words.nd rfl (.inl rfl) (de_op or_add (de_op or_add (de_sl (de_var 3) do_none (do_some (de_var 5))) (de_ix or_ix (de_var 2) (de_op or_mod (de_callTy cb_int Y.b_int (da_cons' (de_op or_add (de_var 6) (de_op or_mul de_int (de_var 4))) da_nil')) de_int))) (de_sl (de_var 3) (do_some (de_var 5)) do_none))) (ds_one (ds_expr (de_bm PySem.F.plainAttrs_list PySem.F.slot_list_append PySem.F.type_list_append mg_append ty_list (de_var 8) (da_cons' (de_if (dt_cmp (or_eq hr.units) (de_op or_mod (de_callTy cb_int Y.b_int (da_cons' (de_var 4) da_nil')) de_int) de_int) (de_op or_add (de_var 9) (de_var 7)) (de_var 9)) da_nil'))))))) (ds_one (ds_ret (de_var 8)))))))))⟩⟩
def u__law_gcd (K : PySem.W.Frag) : DS :=
  (dSeq (dPar [0, 1] [(dCall gAbs [(dVar 0)]), (dCall gAbs [(dVar 1)])]) (dSeq (dWhile (dtVal (dOp oNe (dVar 1) (dPure (.int 0)))) (dPar [0, 1] [(dVar 1), (dOp oMod (dCall gInt [(dVar 0)]) (dVar 1))])) (dRet (dVar 0))))
@[irreducible] def f__law_gcd (K : PySem.W.Frag) : List D → W D := dDef 2 (u__law_gcd K)
theorem ok__law_gcd (Y : Tx P w K mg base tb) : ∃ f fd, Fun K "_law_gcd" "_law_gcd" s__law_gcd f fd ∧ DefOk P w K mg base tb "_law_gcd" ["_law_one", "_law_other"] 1 (f__law_gcd K) f fd := by
  unfold f__law_gcd
  obtain ⟨a, b, F, M⟩ := Y.d__law_gcd
  exact ⟨a, b, F, ⟨M, F.kp, (F.binds (ps := ["_law_one", "_law_other"]) (fun _ _ _ _ _ _ us hl => match us, hl with | [_, _], _ => rfl)), fun_okD (tb := tb) (k := 0) F sc__law_gcd (hb := fun T cdv A outer s H E hT hr => (ds_cons (ds_par (ps_par (i := 0) (j := 1) (by rfl) sc__law_gcd.nd rfl rfl (by decide) rfl rfl (da_cons' (de_callB cb_abs Y.b_abs (da_cons' (de_var 0) da_nil')) (da_cons' (de_callB cb_abs Y.b_abs (da_cons' (de_var 1) da_nil')) da_nil')) (by rfl))) (ds_cons (ds_while (passes_of rfl) (dt_cmp (or_ne hr.units) (de_var 1) de_int) (ds_one (ds_par (ps_par (i := 0) (j := 1) (by rfl) sc__law_gcd.nd rfl rfl (by decide) rfl rfl (da_cons' (de_var 1) (da_cons' (de_op or_mod (de_callTy cb_int Y.b_int (da_cons' (de_var 0) da_nil')) (de_var 1)) da_nil')) (by rfl))))) (ds_one (ds_ret (de_var 0))))))⟩⟩
def u__law_q (K : PySem.W.Frag) : DS :=
  (dSeq (dSet 2 (dOp oMul (dCall (f__law_gcd K) [(dVar 0), (dVar 1)]) (dIf (dtVal (dOp oGt (dVar 1) (dPure (.int 0)))) (dPure (.int 1)) (dUn oNeg (dPure (.int 1)))))) (dRet (dTup [(dOp oDiv (dVar 0) (dVar 2)), (dOp oDiv (dVar 1) (dVar 2))])))
@[irreducible] def f__law_q (K : PySem.W.Frag) : List D → W D := dDef 3 (u__law_q K)
theorem ok__law_q (Y : Tx P w K mg base tb) : ∃ f fd, Fun K "_law_q" "_law_q" s__law_q f fd ∧ DefOk P w K mg base tb "_law_q" ["_law_over", "_law_under"] 2 (f__law_q K) f fd := by
  unfold f__law_q
  obtain ⟨a, b, F, M⟩ := Y.d__law_q
  obtain ⟨a__law_gcd, d__law_gcd, U__law_gcd, F__law_gcd⟩ := ok__law_gcd (P := P) (w := w) (base := base) (tb := tb) Y
  exact ⟨a, b, F, ⟨M, F.kp, (F.binds (ps := ["_law_over", "_law_under"]) (fun _ _ _ _ _ _ us hl => match us, hl with | [_, _], _ => rfl)), fun_okD (tb := tb) (k := 1) F sc__law_q (hb := fun T cdv A outer s H E hT hr => (ds_cons (ds_set (i := 2) sc__law_q.nd rfl (.inl rfl) (de_op or_mul (de_call F__law_gcd hT hr pass_own (da_cons' (de_var 0) (da_cons' (de_var 1) da_nil'))) (de_if (dt_cmp or_gt (de_var 1) de_int) de_int (de_un or_neg de_int)))) (ds_one (ds_ret (de_tup (da_cons' (de_op or_div (de_var 0) (de_var 2)) (da_cons' (de_op or_div (de_var 1) (de_var 2)) da_nil')))))))⟩⟩
def u__law_number (K : PySem.W.Frag) : DS :=
  (dSeq (dSet 1 (dCall (f__law_draw K) [(dVar 0), (dPure (.int 12))])) (dSeq (dIfS (dtVal (dOp oLt (dVar 1) (dPure (.int 9)))) (dRet (dTup [(dOp oSub (dVar 1) (dPure (.int 4))), (dPure (.int 1))])) dNext) (dSeq (dIfS (dtVal (dOp oLt (dVar 1) (dPure (.int 11)))) (dRet (dCall (f__law_q K) [(dOp oSub (dOp oMul (dPure (.int 2)) (dCall (f__law_draw K) [(dVar 0), (dPure (.int 6))])) (dPure (.int 5))), (dPure (.int 2))])) dNext) (dRet (dTup [(dOp oSub (dCall (f__law_draw K) [(dVar 0), (dPure (.int 399))]) (dPure (.int 199))), (dPure (.int 1))])))))
@[irreducible] def f__law_number (K : PySem.W.Frag) : List D → W D := dDef 2 (u__law_number K)
theorem ok__law_number (Y : Tx P w K mg base tb) : ∃ f fd, Fun K "_law_number" "_law_number" s__law_number f fd ∧ DefOk P w K mg base tb "_law_number" ["_law_bag_here"] 3 (f__law_number K) f fd := by
  unfold f__law_number
  obtain ⟨a, b, F, M⟩ := Y.d__law_number
  obtain ⟨a__law_draw, d__law_draw, U__law_draw, F__law_draw⟩ := ok__law_draw (P := P) (w := w) (base := base) (tb := tb) Y
  obtain ⟨a__law_q, d__law_q, U__law_q, F__law_q⟩ := ok__law_q (P := P) (w := w) (base := base) (tb := tb) Y
  exact ⟨a, b, F, ⟨M, F.kp, (F.binds (ps := ["_law_bag_here"]) (fun _ _ _ _ _ _ us hl => match us, hl with | [_], _ => rfl)), fun_okD (tb := tb) (k := 2) F sc__law_number (hb := fun T cdv A outer s H E hT hr => (ds_cons (ds_set (i := 1) sc__law_number.nd rfl (.inl rfl) (de_call F__law_draw hT hr pass_own (da_cons' (de_var 0) (da_cons' de_int da_nil')))) (ds_cons (ds_if (dt_cmp or_lt (de_var 1) de_int) (ds_one (ds_ret (de_tup (da_cons' (de_op or_sub (de_var 1) de_int) (da_cons' de_int da_nil'))))) ds_nil) (ds_cons (ds_if (dt_cmp or_lt (de_var 1) de_int) (ds_one (ds_ret (de_call F__law_q hT hr pass_own (da_cons' (de_op or_sub (de_op or_mul de_int (de_call F__law_draw hT hr pass_own (da_cons' (de_var 0) (da_cons' de_int da_nil')))) de_int) (da_cons' de_int da_nil'))))) ds_nil) (ds_one (ds_ret (de_tup (da_cons' (de_op or_sub (de_call F__law_draw hT hr pass_own (da_cons' (de_var 0) (da_cons' de_int da_nil'))) de_int) (da_cons' de_int da_nil')))))))))⟩⟩
def u__law_unknown (K : PySem.W.Frag) : DS :=
  (dSeq (dPar [2, 3] [(dCall (f__law_draw K) [(dVar 0), (dPure (.int 10))]), (dCall (f__law_of K) [(dVar 0), (dVar 1)])]) (dSeq (dIfS (dtVal (dOp oEq (dVar 2) (dPure (.int 0)))) (dRet (dTup [(dPure (.str "scale"))])) dNext) (dSeq (dIfS (dtVal (dOp oLt (dVar 2) (dPure (.int 6)))) (dRet (dTup [(dIf (dtVal (dOp oLt (dVar 2) (dPure (.int 3)))) (dPure (.str "move")) (dPure (.str "place"))), (dVar 3), (dOp oMod (dCall gInt [(dVar 2)]) (dPure (.int 2)))])) dNext) (dRet (dTup [(dPure (.str "table")), (dVar 3), (dOp oSub (dVar 2) (dPure (.int 6)))])))))
@[irreducible] def f__law_unknown (K : PySem.W.Frag) : List D → W D := dDef 4 (u__law_unknown K)
theorem ok__law_unknown (Y : Tx P w K mg base tb) : ∃ f fd, Fun K "_law_unknown" "_law_unknown" s__law_unknown f fd ∧ DefOk P w K mg base tb "_law_unknown" ["_law_bag_here", "_law_names"] 3 (f__law_unknown K) f fd := by
  unfold f__law_unknown
  obtain ⟨a, b, F, M⟩ := Y.d__law_unknown
  obtain ⟨a__law_draw, d__law_draw, U__law_draw, F__law_draw⟩ := ok__law_draw (P := P) (w := w) (base := base) (tb := tb) Y
  obtain ⟨a__law_of, d__law_of, U__law_of, F__law_of⟩ := ok__law_of (P := P) (w := w) (base := base) (tb := tb) Y
  exact ⟨a, b, F, ⟨M, F.kp, (F.binds (ps := ["_law_bag_here", "_law_names"]) (fun _ _ _ _ _ _ us hl => match us, hl with | [_, _], _ => rfl)), fun_okD (tb := tb) (k := 2) F sc__law_unknown (hb := fun T cdv A outer s H E hT hr => (ds_cons (ds_par (ps_par (i := 2) (j := 3) (by rfl) sc__law_unknown.nd rfl rfl (by decide) rfl rfl (da_cons' (de_call F__law_draw hT hr pass_own (da_cons' (de_var 0) (da_cons' de_int da_nil'))) (da_cons' (de_call F__law_of hT hr pass_own (da_cons' (de_var 0) (da_cons' (de_var 1) da_nil'))) da_nil')) (by rfl))) (ds_cons (ds_if (dt_cmp (or_eq hr.units) (de_var 2) de_int) (ds_one (ds_ret (de_tup (da_cons' de_str da_nil')))) ds_nil) (ds_cons (ds_if (dt_cmp or_lt (de_var 2) de_int) (ds_one (ds_ret (de_tup (da_cons' (de_if (dt_cmp or_lt (de_var 2) de_int) de_str de_str) (da_cons' (de_var 3) (da_cons' (de_op or_mod (de_callTy cb_int Y.b_int (da_cons' (de_var 2) da_nil')) de_int) da_nil')))))) ds_nil) (ds_one (ds_ret (de_tup (da_cons' de_str (da_cons' (de_var 3) (da_cons' (de_op or_sub (de_var 2) de_int) da_nil'))))))))))⟩⟩
def u__law_short (K : PySem.W.Frag) : DS :=
  (dRet (dCall gAll [(dLc [1] (.nm 1) (cSeq (dVar 0)) dYes (dAnd (dOp oLt (dCall gAbs [(dOp oIx (dVar 1) (dPure (.int 0)))]) (dOp oPow (dPure (.int 10)) (dPure (.int 6)))) (dOp oLt (dOp oIx (dVar 1) (dPure (.int 1))) (dOp oPow (dPure (.int 10)) (dPure (.int 6))))))]))
@[irreducible] def f__law_short (K : PySem.W.Frag) : List D → W D := dDef 2 (u__law_short K)
theorem ok__law_short (Y : Tx P w K mg base tb) : ∃ f fd, Fun K "_law_short" "_law_short" s__law_short f fd ∧ DefOk P w K mg base tb "_law_short" ["_law_spot"] 1 (f__law_short K) f fd := by
  unfold f__law_short
  obtain ⟨a, b, F, M⟩ := Y.d__law_short
  exact ⟨a, b, F, ⟨M, F.kp, (F.binds (ps := ["_law_spot"]) (fun _ _ _ _ _ _ us hl => match us, hl with | [_], _ => rfl)), fun_okD (tb := tb) (k := 0) F sc__law_short (hb := fun T cdv A outer s H E hT hr => (ds_one (ds_ret (de_callB (cb_all rfl) Y.b_all (da_cons' (de_lc (own := [("_law_one", 1)]) sc__law_short.nd (ci_seq (de_var 0)) (blkOk_by (own := [("_law_one", 1)]) (N := ["_law_spot", "_law_one"]) (sc := (defScope s__law_short)) (by decide +kernel)) (by decide) (fun _ _ _ _ _ => (pg_name (i := 1) sc__law_short.nd rfl (.inl rfl))) (fun _ _ _ _ _ _ _ => dts_nil) (fun T2 eT _ _ _ _ _ => have hT2 := eT.trans hT; (de_and (de_cmp or_lt (de_callB cb_abs Y.b_abs (da_cons' (de_ix or_ix (de_var 1) de_int) da_nil')) (de_op or_pow de_int de_int)) (de_one (de_cmp or_lt (de_ix or_ix (de_var 1) de_int) (de_op or_pow de_int de_int)))))) da_nil')))))⟩⟩
def u__law_drawn_form (K : PySem.W.Frag) : DS :=
  (dSeq (dSet 3 dDictT) (dSeq (dFor (.nm 4) (cRng [(dCall (f__law_draw K) [(dVar 0), (dPure (.int 6))])]) (dSeq (dSet 5 (dCall (f__law_number K) [(dVar 0)])) (dIfS (dtVal (dOp oNe (dVar 5) (dTup [(dPure (.int 0)), (dPure (.int 1))]))) (dPutT (dVar 3) (dCall (f__law_unknown K) [(dVar 0), (dVar 1)]) (dVar 5)) dNext))) (dSeq (dSeq (dFor (.nm 6) (cKeysT (dVar 2)) (dIfS (dtAnd (dtVal (dOp oEq (dCall (f__law_draw K) [(dVar 0), (dPure (.int 3))]) (dPure (.int 0)))) (dtVal (dCall (f__law_short K) [(dLst [(dOp oGetT (dVar 2) (dVar 6))])]))) (dPutT (dVar 3) (dVar 6) (dTup [(dOp oSub (dPure (.int 0)) (dOp oIx (dOp oGetT (dVar 2) (dVar 6)) (dPure (.int 0)))), (dOp oIx (dOp oGetT (dVar 2) (dVar 6)) (dPure (.int 1)))])) dNext)) (dFrzT 3)) (dRet (dVar 3)))))
@[irreducible] def f__law_drawn_form (K : PySem.W.Frag) : List D → W D := dDef 7 (u__law_drawn_form K)
theorem ok__law_drawn_form (Y : Tx P w K mg base tb) : ∃ f fd, Fun K "_law_drawn_form" "_law_drawn_form" s__law_drawn_form f fd ∧ DefOk P w K mg base tb "_law_drawn_form" ["_law_bag_here", "_law_names", "_law_less"] 4 (f__law_drawn_form K) f fd := by
  unfold f__law_drawn_form
  obtain ⟨a, b, F, M⟩ := Y.d__law_drawn_form
  obtain ⟨a__law_draw, d__law_draw, U__law_draw, F__law_draw⟩ := ok__law_draw (P := P) (w := w) (base := base) (tb := tb) Y
  obtain ⟨a__law_number, d__law_number, U__law_number, F__law_number⟩ := ok__law_number (P := P) (w := w) (base := base) (tb := tb) Y
  obtain ⟨a__law_unknown, d__law_unknown, U__law_unknown, F__law_unknown⟩ := ok__law_unknown (P := P) (w := w) (base := base) (tb := tb) Y
  obtain ⟨a__law_short, d__law_short, U__law_short, F__law_short⟩ := ok__law_short (P := P) (w := w) (base := base) (tb := tb) Y
  exact ⟨a, b, F, ⟨M, F.kp, (F.binds (ps := ["_law_bag_here", "_law_names", "_law_less"]) (fun _ _ _ _ _ _ us hl => match us, hl with | [_, _, _], _ => rfl)), fun_okD (tb := tb) (k := 3) F sc__law_drawn_form (hb := fun T cdv A outer s H E hT hr => (ds_cons (ds_set (i := 3) sc__law_drawn_form.nd rfl (.inl rfl) de_dictT) (ds_cons (ds_for (passes_of rfl) (ci_rng Y.b_range (da_cons' (de_call F__law_draw hT hr pass_own (da_cons' (de_var 0) (da_cons' de_int da_nil'))) da_nil')) (pg_name (i := 4) sc__law_drawn_form.nd rfl (.inl rfl)) (ds_cons (ds_set (i := 5) sc__law_drawn_form.nd rfl (.inl rfl) (de_call F__law_number hT hr pass_own (da_cons' (de_var 0) da_nil'))) (ds_one (ds_if (dt_cmp (or_ne hr.units) (de_var 5) (de_tup (da_cons' de_int (da_cons' de_int da_nil')))) (ds_one (ds_putT (room_u1 hr) (de_var 3) (de_call F__law_unknown hT hr pass_own (da_cons' (de_var 0) (da_cons' (de_var 1) da_nil'))) (de_var 5))) ds_nil)))) (ds_cons (ds_frzT (i := 3) (ds_for (passes_of rfl) (ci_keysT (de_var 2)) (pg_name (i := 6) sc__law_drawn_form.nd rfl (.inl rfl)) (ds_one (ds_if (dt_w (dw_and (dt_cmp (or_eq hr.units) (de_call F__law_draw hT hr pass_own (da_cons' (de_var 0) (da_cons' de_int da_nil'))) de_int) (dw_and1 (dt_val (de_call F__law_short hT hr pass_own (da_cons' (de_lst (da_cons' (de_getT (room_u1 hr) (de_var 2) (de_var 6) (fun _ _ => rfl)) da_nil')) da_nil')))))) (ds_one (ds_putT (room_u1 hr) (de_var 3) (de_var 6) (de_tup (da_cons' (de_op or_sub de_int (de_ix or_ix (de_getT (room_u1 hr) (de_var 2) (de_var 6) (fun _ _ => rfl)) de_int)) (da_cons' (de_ix or_ix (de_getT (room_u1 hr) (de_var 2) (de_var 6) (fun _ _ => rfl)) de_int) da_nil'))))) ds_nil)))) (ds_one (ds_ret (de_var 3)))))))⟩⟩
def u__law_tuple (K : PySem.W.Frag) : DS :=
  (dRet (dCall gTuple [(dLc [1] (.nm 1) (cSeq (dCall gSortT [(dCall gKeysT [(dVar 0)])])) dYes (dTup [(dVar 1), (dOp oGetT (dVar 0) (dVar 1))]))]))
@[irreducible] def f__law_tuple (K : PySem.W.Frag) : List D → W D := dDef 2 (u__law_tuple K)
theorem ok__law_tuple (Y : Tx P w K mg base tb) : ∃ f fd, Fun K "_law_tuple" "_law_tuple" s__law_tuple f fd ∧ DefOk P w K mg base tb "_law_tuple" ["_law_form"] 1 (f__law_tuple K) f fd := by
  unfold f__law_tuple
  obtain ⟨a, b, F, M⟩ := Y.d__law_tuple
  exact ⟨a, b, F, ⟨M, F.kp, (F.binds (ps := ["_law_form"]) (fun _ _ _ _ _ _ us hl => match us, hl with | [_], _ => rfl)), fun_okD (tb := tb) (k := 0) F sc__law_tuple (hb := fun T cdv A outer s H E hT hr => (ds_one (ds_ret (de_callTy cb_tuple Y.b_tuple (da_cons' (de_lc (own := [("_law_key", 1)]) sc__law_tuple.nd (ci_seq (de_callB (cb_sortT (room_u10 hr)) Y.b_sorted (da_cons' (de_callTy (cb_keysT rfl) Y.b_list (da_cons' (de_var 0) da_nil')) da_nil'))) (blkOk_by (own := [("_law_key", 1)]) (N := ["_law_form", "_law_key"]) (sc := (defScope s__law_tuple)) (by decide +kernel)) (by decide) (fun _ _ _ _ _ => (pg_name (i := 1) sc__law_tuple.nd rfl (.inl rfl))) (fun _ _ _ _ _ _ _ => dts_nil) (fun T2 eT _ _ _ _ _ => have hT2 := eT.trans hT; (de_tup (da_cons' (de_var 1) (da_cons' (de_getT (room_u1 hr) (de_var 0) (de_var 1) (fun _ _ => rfl)) da_nil'))))) da_nil')))))⟩⟩
def u__law_plus (K : PySem.W.Frag) : DS :=
  (dRet (dCall (f__law_q K) [(dOp oAdd (dOp oMul (dOp oIx (dVar 0) (dPure (.int 0))) (dOp oIx (dVar 1) (dPure (.int 1)))) (dOp oMul (dOp oIx (dVar 1) (dPure (.int 0))) (dOp oIx (dVar 0) (dPure (.int 1))))), (dOp oMul (dOp oIx (dVar 0) (dPure (.int 1))) (dOp oIx (dVar 1) (dPure (.int 1))))]))
@[irreducible] def f__law_plus (K : PySem.W.Frag) : List D → W D := dDef 2 (u__law_plus K)
theorem ok__law_plus (Y : Tx P w K mg base tb) : ∃ f fd, Fun K "_law_plus" "_law_plus" s__law_plus f fd ∧ DefOk P w K mg base tb "_law_plus" ["_law_one", "_law_other"] 3 (f__law_plus K) f fd := by
  unfold f__law_plus
  obtain ⟨a, b, F, M⟩ := Y.d__law_plus
  obtain ⟨a__law_q, d__law_q, U__law_q, F__law_q⟩ := ok__law_q (P := P) (w := w) (base := base) (tb := tb) Y
  exact ⟨a, b, F, ⟨M, F.kp, (F.binds (ps := ["_law_one", "_law_other"]) (fun _ _ _ _ _ _ us hl => match us, hl with | [_, _], _ => rfl)), fun_okD (tb := tb) (k := 2) F sc__law_plus (hb := fun T cdv A outer s H E hT hr => (ds_one (ds_ret (de_call F__law_q hT hr pass_own (da_cons' (de_op or_add (de_op or_mul (de_ix or_ix (de_var 0) de_int) (de_ix or_ix (de_var 1) de_int)) (de_op or_mul (de_ix or_ix (de_var 1) de_int) (de_ix or_ix (de_var 0) de_int))) (da_cons' (de_op or_mul (de_ix or_ix (de_var 0) de_int) (de_ix or_ix (de_var 1) de_int)) da_nil'))))))⟩⟩
def u__law_times (K : PySem.W.Frag) : DS :=
  (dRet (dCall (f__law_q K) [(dOp oMul (dOp oIx (dVar 0) (dPure (.int 0))) (dOp oIx (dVar 1) (dPure (.int 0)))), (dOp oMul (dOp oIx (dVar 0) (dPure (.int 1))) (dOp oIx (dVar 1) (dPure (.int 1))))]))
@[irreducible] def f__law_times (K : PySem.W.Frag) : List D → W D := dDef 2 (u__law_times K)
theorem ok__law_times (Y : Tx P w K mg base tb) : ∃ f fd, Fun K "_law_times" "_law_times" s__law_times f fd ∧ DefOk P w K mg base tb "_law_times" ["_law_one", "_law_other"] 3 (f__law_times K) f fd := by
  unfold f__law_times
  obtain ⟨a, b, F, M⟩ := Y.d__law_times
  obtain ⟨a__law_q, d__law_q, U__law_q, F__law_q⟩ := ok__law_q (P := P) (w := w) (base := base) (tb := tb) Y
  exact ⟨a, b, F, ⟨M, F.kp, (F.binds (ps := ["_law_one", "_law_other"]) (fun _ _ _ _ _ _ us hl => match us, hl with | [_, _], _ => rfl)), fun_okD (tb := tb) (k := 2) F sc__law_times (hb := fun T cdv A outer s H E hT hr => (ds_one (ds_ret (de_call F__law_q hT hr pass_own (da_cons' (de_op or_mul (de_ix or_ix (de_var 0) de_int) (de_ix or_ix (de_var 1) de_int)) (da_cons' (de_op or_mul (de_ix or_ix (de_var 0) de_int) (de_ix or_ix (de_var 1) de_int)) da_nil'))))))⟩⟩
def u__law_join (K : PySem.W.Frag) : DS :=
  (dSeq (dSet 1 dDictT) (dSeq (dSeq (dFor (.tp [(.nm 2), (.nm 3)]) (cSeq (dVar 0)) (dFor (.nm 4) (cKeysT (dVar 2)) (dPutT (dVar 1) (dVar 4) (dCall (f__law_plus K) [(dGetT (dVar 1) (dVar 4) (dTup [(dPure (.int 0)), (dPure (.int 1))])), (dCall (f__law_times K) [(dOp oGetT (dVar 2) (dVar 4)), (dVar 3)])])))) (dFrzT 1)) (dRet (dCall gDictT [(dLc [4] (.nm 4) (cKeysT (dVar 1)) (dtVal (dOp oNe (dOp oGetT (dVar 1) (dVar 4)) (dTup [(dPure (.int 0)), (dPure (.int 1))]))) (dTup [(dVar 4), (dOp oGetT (dVar 1) (dVar 4))]))]))))
@[irreducible] def f__law_join (K : PySem.W.Frag) : List D → W D := dDef 5 (u__law_join K)
theorem ok__law_join (Y : Tx P w K mg base tb) : ∃ f fd, Fun K "_law_join" "_law_join" s__law_join f fd ∧ DefOk P w K mg base tb "_law_join" ["_law_parts"] 4 (f__law_join K) f fd := by
  unfold f__law_join
  obtain ⟨a, b, F, M⟩ := Y.d__law_join
  obtain ⟨a__law_plus, d__law_plus, U__law_plus, F__law_plus⟩ := ok__law_plus (P := P) (w := w) (base := base) (tb := tb) Y
  obtain ⟨a__law_times, d__law_times, U__law_times, F__law_times⟩ := ok__law_times (P := P) (w := w) (base := base) (tb := tb) Y
  exact ⟨a, b, F, ⟨M, F.kp, (F.binds (ps := ["_law_parts"]) (fun _ _ _ _ _ _ us hl => match us, hl with | [_], _ => rfl)), fun_okD (tb := tb) (k := 3) F sc__law_join (hb := fun T cdv A outer s H E hT hr => (ds_cons (ds_set (i := 1) sc__law_join.nd rfl (.inr rfl) de_dictT) (ds_cons (ds_frzT (i := 1) (ds_for (passes_of rfl) (ci_seq (de_var 0)) (pg_tup rfl (pgs_cons (pg_name (i := 2) sc__law_join.nd rfl (.inl rfl)) (pgs_cons (pg_name (i := 3) sc__law_join.nd rfl (.inl rfl)) pgs_nil))) (ds_one (ds_for (passes_of rfl) (ci_keysT (de_var 2)) (pg_name (i := 4) sc__law_join.nd rfl (.inl rfl)) (ds_one (ds_putT (room_u1 hr) (de_var 1) (de_var 4) (de_call F__law_plus hT hr pass_own (da_cons' (de_dgetT (room_u1 hr) (de_var 1) (de_var 4) (de_tup (da_cons' de_int (da_cons' de_int da_nil'))) ⟨rfl, rfl, rfl, rfl⟩) (da_cons' (de_call F__law_times hT hr pass_own (da_cons' (de_getT (room_u1 hr) (de_var 2) (de_var 4) (fun _ _ => rfl)) (da_cons' (de_var 3) da_nil'))) da_nil'))))))))) (ds_one (ds_ret (de_callTy (cb_dictT rfl (room_u10 hr)) Y.b_dict (da_cons' (de_lc (own := [("_law_key", 4)]) sc__law_join.nd (ci_keysT (de_var 1)) (blkOk_by (own := [("_law_key", 4)]) (N := ["_law_parts", "_law_found", "_law_form", "_law_by", "_law_key"]) (sc := (defScope s__law_join)) (by decide +kernel)) (by decide) (fun _ _ _ _ _ => (pg_name (i := 4) sc__law_join.nd rfl (.inl rfl))) (fun T2 eT _ _ _ _ _ => have hT2 := eT.trans hT; dts_one (dt_cmp (or_ne hr.units) (de_getT (room_u1 hr) (de_var 1) (de_var 4) (fun _ _ => rfl)) (de_tup (da_cons' de_int (da_cons' de_int da_nil'))))) (fun T2 eT _ _ _ _ _ => have hT2 := eT.trans hT; (de_tup (da_cons' (de_var 4) (da_cons' (de_getT (room_u1 hr) (de_var 1) (de_var 4) (fun _ _ => rfl)) da_nil'))))) da_nil')))))))⟩⟩
def u__law_like (K : PySem.W.Frag) (g : List D → W D) : DS :=
  (dSeq (dIfS (dtVal (dIsi2 (own K) (.B "list") (.B "tuple") (dVar 1))) (dSeq (dIfS (dtOr (dtVal (dOp oNe (dCall (gIsi (own K)) [(dVar 0), (dPure (.val (.ty "list")))]) (dCall (gIsi (own K)) [(dVar 1), (dPure (.val (.ty "list")))]))) (dtVal (dOp oNe (dCall (gIsi (own K)) [(dVar 0), (dPure (.val (.ty "tuple")))]) (dCall (gIsi (own K)) [(dVar 1), (dPure (.val (.ty "tuple")))])))) (dRet (dPure (.bl false))) dNext) (dRet (dAnd (dOp oEq (dCall gLen [(dVar 0)]) (dCall gLen [(dVar 1)])) (dCall gAll [(dLc [2, 3] (.tp [(.nm 2), (.nm 3)]) (cZip [(dVar 0), (dVar 1)]) dYes (dCall g [(dVar 2), (dVar 3)]))])))) dNext) (dSeq (dIfS (dtOr (dtVal (dOp oIs (dVar 1) (dPure .non))) (dtVal (dOp oIs (dVar 0) (dPure .non)))) (dRet (dAnd (dOp oIs (dVar 1) (dPure .non)) (dOp oIs (dVar 0) (dPure .non)))) dNext) (dSeq (dIfS (dtOr (dtVal (dIsi2 (own K) (.B "list") (.B "tuple") (dVar 0))) (dtVal (dOp oNe (dCall (gIsi (own K)) [(dVar 0), (dPure (.val (.ty "bool")))]) (dCall (gIsi (own K)) [(dVar 1), (dPure (.val (.ty "bool")))])))) (dRet (dPure (.bl false))) dNext) (dRet (dAnd (dOp oEq (dCall (gIsi (own K)) [(dVar 0), (dPure (.val (.ty "str")))]) (dCall (gIsi (own K)) [(dVar 1), (dPure (.val (.ty "str")))])) (dOp oEq (dVar 0) (dVar 1)))))))
def b__law_like (K : PySem.W.Frag) (g : List D → W D) : List D → W D := dDef 4 (u__law_like K g)
def r__law_like (K : PySem.W.Frag) : Nat → List D → W D
  | 0 => fun _ _ _ _ => False
  | n + 1 => b__law_like K (r__law_like K n)
@[irreducible] def f__law_like (K : PySem.W.Frag) : List D → W D := fun ds S post xp => ∃ n, n ≤ 6 ∧ r__law_like K n ds S post xp
theorem step__law_like (Y : Tx P w K mg base tb) {f : Addr} {fd : FuncData} {lv : Nat} {g : List D → W D} (F : Fun K "_law_like" "_law_like" s__law_like f fd) (M : mg "_law_like" = some (.ref f)) (hm : 1 ≤ lv) (F_rec : DefOk P w K mg base tb "_law_like" ["_law_found", "_law_due"] lv g f fd) : DefOk P w K mg base tb "_law_like" ["_law_found", "_law_due"] (lv + 1) (b__law_like K g) f fd := by
  exact ⟨M, F.kp, (F.binds (ps := ["_law_found", "_law_due"]) (fun _ _ _ _ _ _ us hl => match us, hl with | [_, _], _ => rfl)), fun_okD (tb := tb) (k := lv) F sc__law_like (hb := fun T cdv A outer s H E hT hr => (ds_cons (ds_if (dt_val (de_isi2 Y.isi (pe_callB call_isiT (by rfl) Y.b_isinstance (by decide +kernel) (pa_cons (de_var 1) (pa_cons (pe_tup (pa_cons (pe_bltn rfl Y.b_list (by decide +kernel) rfl) (pa_cons (pe_bltn rfl Y.b_tuple (by decide +kernel) rfl) pa_nil))) pa_nil))))) (ds_cons (ds_if (dt_w (dw_or (dt_cmp (or_ne (hr.mono hm).units) (de_callB (cb_isi Y.isi) Y.b_isinstance (da_cons' (de_var 0) (da_cons' (de_bltn (u := .type "list") Y.b_list) da_nil'))) (de_callB (cb_isi Y.isi) Y.b_isinstance (da_cons' (de_var 1) (da_cons' (de_bltn (u := .type "list") Y.b_list) da_nil')))) (dw_or1 (dt_cmp (or_ne (hr.mono hm).units) (de_callB (cb_isi Y.isi) Y.b_isinstance (da_cons' (de_var 0) (da_cons' (de_bltn (u := .type "tuple") Y.b_tuple) da_nil'))) (de_callB (cb_isi Y.isi) Y.b_isinstance (da_cons' (de_var 1) (da_cons' (de_bltn (u := .type "tuple") Y.b_tuple) da_nil'))))))) (ds_one (ds_ret de_bl)) ds_nil) (ds_one (ds_ret (de_and (de_cmp (or_eq (hr.mono hm).units) (de_callB cb_len Y.b_len (da_cons' (de_var 0) da_nil')) (de_callB cb_len Y.b_len (da_cons' (de_var 1) da_nil'))) (de_one (de_callB (cb_all rfl) Y.b_all (da_cons' (de_lc (own := [("_law_a", 2), ("_law_b", 3)]) sc__law_like.nd (ci_zip Y.b_zip (da_cons' (de_var 0) (da_cons' (de_var 1) da_nil'))) (blkOk_by (own := [("_law_a", 2), ("_law_b", 3)]) (N := ["_law_found", "_law_due", "_law_a", "_law_b"]) (sc := (defScope s__law_like)) (by decide +kernel)) (by decide) (fun _ _ _ _ _ => (pg_tup rfl (pgs_cons (pg_name (i := 2) sc__law_like.nd rfl (.inl rfl)) (pgs_cons (pg_name (i := 3) sc__law_like.nd rfl (.inl rfl)) pgs_nil)))) (fun _ _ _ _ _ _ _ => dts_nil) (fun T2 eT _ _ _ _ _ => have hT2 := eT.trans hT; (de_call F_rec hT2 hr passL (da_cons' (de_var 2) (da_cons' (de_var 3) da_nil')) (hj := Nat.ble_self_eq_true _)))) da_nil'))))))) ds_nil) (ds_cons (ds_if (dt_w (dw_or (dt_cmp or_is (de_var 1) de_non) (dw_or1 (dt_cmp or_is (de_var 0) de_non)))) (ds_one (ds_ret (de_and (de_cmp or_is (de_var 1) de_non) (de_one (de_cmp or_is (de_var 0) de_non))))) ds_nil) (ds_cons (ds_if (dt_w (dw_or (dt_val (de_isi2 Y.isi (pe_callB call_isiT (by rfl) Y.b_isinstance (by decide +kernel) (pa_cons (de_var 0) (pa_cons (pe_tup (pa_cons (pe_bltn rfl Y.b_list (by decide +kernel) rfl) (pa_cons (pe_bltn rfl Y.b_tuple (by decide +kernel) rfl) pa_nil))) pa_nil))))) (dw_or1 (dt_cmp (or_ne (hr.mono hm).units) (de_callB (cb_isi Y.isi) Y.b_isinstance (da_cons' (de_var 0) (da_cons' (de_bltn (u := .type "bool") Y.b_bool) da_nil'))) (de_callB (cb_isi Y.isi) Y.b_isinstance (da_cons' (de_var 1) (da_cons' (de_bltn (u := .type "bool") Y.b_bool) da_nil'))))))) (ds_one (ds_ret de_bl)) ds_nil) (ds_one (ds_ret (de_and (de_cmp (or_eq (hr.mono hm).units) (de_callB (cb_isi Y.isi) Y.b_isinstance (da_cons' (de_var 0) (da_cons' (de_bltn (u := .type "str") Y.b_str) da_nil'))) (de_callB (cb_isi Y.isi) Y.b_isinstance (da_cons' (de_var 1) (da_cons' (de_bltn (u := .type "str") Y.b_str) da_nil')))) (de_one (de_cmp (or_eq (hr.mono hm).units) (de_var 0) (de_var 1))))))))))⟩
theorem ok__law_like (Y : Tx P w K mg base tb) : ∃ f fd, Fun K "_law_like" "_law_like" s__law_like f fd ∧ DefOk P w K mg base tb "_law_like" ["_law_found", "_law_due"] 7 (f__law_like K) f fd := by
  unfold f__law_like
  obtain ⟨f, fd, F, M⟩ := Y.d__law_like
  have go : ∀ n, DefOk P w K mg base tb "_law_like" ["_law_found", "_law_due"] (1 + n) (r__law_like K n) f fd := fun n => by
    induction n with
    | zero => exact defOk_no M F.kp (F.binds (ps := ["_law_found", "_law_due"]) (fun _ _ _ _ _ _ us hl => match us, hl with | [_, _], _ => rfl))
    | succ n ih => exact step__law_like Y F M (Nat.le_add_right _ _) ih
  exact ⟨f, fd, F, defOk_ex (go 0) fun n hn => defOk_up (go n) (Nat.add_le_add_left hn _)⟩
def u_fraction (K : PySem.W.Frag) : DS :=
  (dSeq (dIfS (dtVal (dOp oEq (dVar 1) (dPure (.int 0)))) (fun _ _ _ => False) dNext) (dSeq (dSet 2 (dCall gGcd [(dVar 0), (dVar 1)])) (dSeq (dIfS (dtVal (dOp oLt (dVar 1) (dPure (.int 0)))) (dSet 2 (dUn oNeg (dVar 2))) dNext) (dRet (dTup [(dOp oDiv (dVar 0) (dVar 2)), (dOp oDiv (dVar 1) (dVar 2))])))))
@[irreducible] def f_fraction (K : PySem.W.Frag) : List D → W D := dDef 3 (u_fraction K)
theorem ok_fraction (Y : Tx P w K mg base tb) : ∃ f fd, FunD K "fraction" "fraction" (defArgs s_fraction) (defBody s_fraction) (defScope s_fraction) [.int 1] [] f fd ∧ ∃ (_ : DefOk P w K mg base tb "fraction" ["over", "under"] 1 (f_fraction K) f fd), ∃ us, ∃ (_ : Vals [.int 1] us) (_ : Binds K fd ["over", "under"] us), ∀ M H, Reps K M H [.int 1] [.int 1] := by
  unfold f_fraction
  obtain ⟨a, b, F, M⟩ := Y.d_fraction
  obtain ⟨us, V, B⟩ := F.binds1 (ps := ["over", "under"]) 1 0 (by simp) rfl fun T kV doc pm an cdv ct us its l1 l2 => match us, l1, its, l2 with | [_], _, [_], _ => ⟨_, rfl, by first | rfl | with_unfolding_all rfl | kernel_rfl⟩
  exact ⟨a, b, F, ⟨M, F.kp, (fund_full F 2 (by simp) rfl fun T kV doc pm an cdv ct us its l1 l2 => match us, l1, its, l2 with | [_, _], _, [_], _ => ⟨_, rfl, by first | rfl | with_unfolding_all rfl | kernel_rfl⟩), fund_okD (tb := tb) (k := 0) F sc_fraction (hb := fun T cdv A outer s H E hT hr => (ds_cons (ds_if (dt_cmp (or_eq hr.units) (de_var 1) de_int) (ds_one ds_never) ds_nil) (ds_cons (ds_set (i := 2) sc_fraction.nd rfl (.inl rfl) (de_callFun cb_gcd Y.gcd (da_cons' (de_var 0) (da_cons' (de_var 1) da_nil')))) (ds_cons (ds_if (dt_cmp or_lt (de_var 1) de_int) (ds_one (ds_set (i := 2) sc_fraction.nd rfl (.inl rfl) (de_un or_neg (de_var 2)))) ds_nil) (ds_one (ds_ret (de_tup (da_cons' (de_op or_div (de_var 0) (de_var 2)) (da_cons' (de_op or_div (de_var 1) (de_var 2)) da_nil')))))))))⟩, us, V, B, fun _ _ => (rcons (rint _) rnil)⟩
def u_plus (K : PySem.W.Frag) : DS :=
  (dRet (dCall (f_fraction K) [(dOp oAdd (dOp oMul (dOp oIx (dVar 0) (dPure (.int 0))) (dOp oIx (dVar 1) (dPure (.int 1)))) (dOp oMul (dOp oIx (dVar 1) (dPure (.int 0))) (dOp oIx (dVar 0) (dPure (.int 1))))), (dOp oMul (dOp oIx (dVar 0) (dPure (.int 1))) (dOp oIx (dVar 1) (dPure (.int 1))))]))
@[irreducible] def f_plus (K : PySem.W.Frag) : List D → W D := dDef 2 (u_plus K)
theorem ok_plus (Y : Tx P w K mg base tb) : ∃ f fd, Fun K "plus" "plus" s_plus f fd ∧ DefOk P w K mg base tb "plus" ["one", "other"] 2 (f_plus K) f fd := by
  unfold f_plus
  obtain ⟨a, b, F, M⟩ := Y.d_plus
  obtain ⟨a_fraction, d_fraction, U_fraction, F_fraction, us_fraction, V_fraction, B_fraction, R_fraction⟩ := ok_fraction (P := P) (w := w) (base := base) (tb := tb) Y
  exact ⟨a, b, F, ⟨M, F.kp, (F.binds (ps := ["one", "other"]) (fun _ _ _ _ _ _ us hl => match us, hl with | [_, _], _ => rfl)), fun_okD (tb := tb) (k := 1) F sc_plus (hb := fun T cdv A outer s H E hT hr => (ds_one (ds_ret (de_call F_fraction hT hr pass_own (da_cons' (de_op or_add (de_op or_mul (de_ix or_ix (de_var 0) de_int) (de_ix or_ix (de_var 1) de_int)) (de_op or_mul (de_ix or_ix (de_var 1) de_int) (de_ix or_ix (de_var 0) de_int))) (da_cons' (de_op or_mul (de_ix or_ix (de_var 0) de_int) (de_ix or_ix (de_var 1) de_int)) da_nil'))))))⟩⟩
def u_put_together (K : PySem.W.Frag) : DS :=
  (dSeq (dSet 1 dDictT) (dSeq (dSeq (dFor (.tp [(.nm 2), (.nm 3)]) (cSeq (dVar 0)) (dPutT (dVar 1) (dVar 2) (dCall (f_plus K) [(dGetT (dVar 1) (dVar 2) (dPure g_ZERO)), (dVar 3)]))) (dFrzT 1)) (dRet (dCall gTuple [(dLc [2] (.nm 2) (cSeq (dCall gSortT [(dCall gKeysT [(dVar 1)])])) (dtVal (dOp oNe (dOp oGetT (dVar 1) (dVar 2)) (dPure g_ZERO))) (dTup [(dVar 2), (dOp oGetT (dVar 1) (dVar 2))]))]))))
@[irreducible] def f_put_together (K : PySem.W.Frag) : List D → W D := dDef 4 (u_put_together K)
theorem ok_put_together (Y : Tx P w K mg base tb) : ∃ f fd, Fun K "put_together" "put_together" s_put_together f fd ∧ DefOk P w K mg base tb "put_together" ["pairs"] 3 (f_put_together K) f fd := by
  unfold f_put_together
  obtain ⟨a, b, F, M⟩ := Y.d_put_together
  obtain ⟨a_plus, d_plus, U_plus, F_plus⟩ := ok_plus (P := P) (w := w) (base := base) (tb := tb) Y
  exact ⟨a, b, F, ⟨M, F.kp, (F.binds (ps := ["pairs"]) (fun _ _ _ _ _ _ us hl => match us, hl with | [_], _ => rfl)), fun_okD (tb := tb) (k := 2) F sc_put_together (hb := fun T cdv A outer s H E hT hr => (ds_cons (ds_set (i := 1) sc_put_together.nd rfl (.inr rfl) de_dictT) (ds_cons (ds_frzT (i := 1) (ds_for (passes_of rfl) (ci_seq (de_var 0)) (pg_tup rfl (pgs_cons (pg_name (i := 2) sc_put_together.nd rfl (.inl rfl)) (pgs_cons (pg_name (i := 3) sc_put_together.nd rfl (.inl rfl)) pgs_nil))) (ds_one (ds_putT (room_u1 hr) (de_var 1) (de_var 2) (de_call F_plus hT hr pass_own (da_cons' (de_dgetT (room_u1 hr) (de_var 1) (de_var 2) (Y.gl_ZERO.elim fun _ ha => ha.elim fun _ hg => de_glob hg.1 hg.2.1 hg.2.2) ⟨rfl, rfl, rfl, rfl⟩) (da_cons' (de_var 3) da_nil'))))))) (ds_one (ds_ret (de_callTy cb_tuple Y.b_tuple (da_cons' (de_lc (own := [("key", 2)]) sc_put_together.nd (ci_seq (de_callB (cb_sortT (room_u10 hr)) Y.b_sorted (da_cons' (de_callTy (cb_keysT rfl) Y.b_list (da_cons' (de_var 1) da_nil')) da_nil'))) (blkOk_by (own := [("key", 2)]) (N := ["pairs", "totals", "key", "weight"]) (sc := (defScope s_put_together)) (by decide +kernel)) (by decide) (fun _ _ _ _ _ => (pg_name (i := 2) sc_put_together.nd rfl (.inl rfl))) (fun T2 eT _ _ _ _ _ => have hT2 := eT.trans hT; dts_one (dt_cmp (or_ne hr.units) (de_getT (room_u1 hr) (de_var 1) (de_var 2) (fun _ _ => rfl)) (Y.gl_ZERO.elim fun _ ha => ha.elim fun _ hg => de_glob hg.1 hg.2.1 hg.2.2))) (fun T2 eT _ _ _ _ _ => have hT2 := eT.trans hT; (de_tup (da_cons' (de_var 2) (da_cons' (de_getT (room_u1 hr) (de_var 1) (de_var 2) (fun _ _ => rfl)) da_nil'))))) da_nil')))))))⟩⟩
def u_times (K : PySem.W.Frag) : DS :=
  (dRet (dCall (f_fraction K) [(dOp oMul (dOp oIx (dVar 0) (dPure (.int 0))) (dOp oIx (dVar 1) (dPure (.int 0)))), (dOp oMul (dOp oIx (dVar 0) (dPure (.int 1))) (dOp oIx (dVar 1) (dPure (.int 1))))]))
@[irreducible] def f_times (K : PySem.W.Frag) : List D → W D := dDef 2 (u_times K)
theorem ok_times (Y : Tx P w K mg base tb) : ∃ f fd, Fun K "times" "times" s_times f fd ∧ DefOk P w K mg base tb "times" ["one", "other"] 2 (f_times K) f fd := by
  unfold f_times
  obtain ⟨a, b, F, M⟩ := Y.d_times
  obtain ⟨a_fraction, d_fraction, U_fraction, F_fraction, us_fraction, V_fraction, B_fraction, R_fraction⟩ := ok_fraction (P := P) (w := w) (base := base) (tb := tb) Y
  exact ⟨a, b, F, ⟨M, F.kp, (F.binds (ps := ["one", "other"]) (fun _ _ _ _ _ _ us hl => match us, hl with | [_, _], _ => rfl)), fun_okD (tb := tb) (k := 1) F sc_times (hb := fun T cdv A outer s H E hT hr => (ds_one (ds_ret (de_call F_fraction hT hr pass_own (da_cons' (de_op or_mul (de_ix or_ix (de_var 0) de_int) (de_ix or_ix (de_var 1) de_int)) (da_cons' (de_op or_mul (de_ix or_ix (de_var 0) de_int) (de_ix or_ix (de_var 1) de_int)) da_nil'))))))⟩⟩
def u_mixture (K : PySem.W.Frag) : DS :=
  (dRet (dCall (f_put_together K) [(dLc2 [1, 2, 3, 4] [3, 4] (.tp [(.nm 1), (.nm 2)]) (cSeq (dVar 0)) (.tp [(.nm 3), (.nm 4)]) (cSeq (dVar 2)) (dTup [(dVar 3), (dCall (f_times K) [(dVar 4), (dVar 1)])]))]))
@[irreducible] def f_mixture (K : PySem.W.Frag) : List D → W D := dDef 5 (u_mixture K)
theorem ok_mixture (Y : Tx P w K mg base tb) : ∃ f fd, Fun K "mixture" "mixture" s_mixture f fd ∧ DefOk P w K mg base tb "mixture" ["parts"] 4 (f_mixture K) f fd := by
  unfold f_mixture
  obtain ⟨a, b, F, M⟩ := Y.d_mixture
  obtain ⟨a_put_together, d_put_together, U_put_together, F_put_together⟩ := ok_put_together (P := P) (w := w) (base := base) (tb := tb) Y
  obtain ⟨a_times, d_times, U_times, F_times⟩ := ok_times (P := P) (w := w) (base := base) (tb := tb) Y
  exact ⟨a, b, F, ⟨M, F.kp, (F.binds (ps := ["parts"]) (fun _ _ _ _ _ _ us hl => match us, hl with | [_], _ => rfl)), fun_okD (tb := tb) (k := 3) F sc_mixture (hb := fun T cdv A outer s H E hT hr => (ds_one (ds_ret (de_call F_put_together hT hr pass_own (da_cons' (de_lc2 (own := [("weight", 1), ("pairs", 2), ("key", 3), ("own", 4)]) (vs1 := [3, 4]) sc_mixture.nd (ci_seq (de_var 0)) (blkOk_by (own := [("weight", 1), ("pairs", 2), ("key", 3), ("own", 4)]) (N := ["parts", "weight", "pairs", "key", "own"]) (sc := (defScope s_mixture)) (by decide +kernel)) (by decide) (by decide) (by decide) (fun _ _ _ _ _ => (pg_tup rfl (pgs_cons (pg_name (i := 1) sc_mixture.nd rfl (.inl rfl)) (pgs_cons (pg_name (i := 2) sc_mixture.nd rfl (.inl rfl)) pgs_nil)))) (fun _ _ _ _ _ => (ci_seq (de_var 2))) (fun _ _ _ _ _ => (pg_tup rfl (pgs_cons (pg_name (i := 3) sc_mixture.nd rfl (.inl rfl)) (pgs_cons (pg_name (i := 4) sc_mixture.nd rfl (.inl rfl)) pgs_nil)))) (fun _ _ _ _ _ => (de_tup (da_cons' (de_var 3) (da_cons' (de_call F_times hT hr passL (da_cons' (de_var 4) (da_cons' (de_var 1) da_nil'))) da_nil'))))) da_nil')))))⟩⟩
def u_form_plus (K : PySem.W.Frag) : DS :=
  (dRet (dCall (f_mixture K) [(dLst [(dTup [(dPure g_ONE), (dVar 0)]), (dTup [(dPure g_ONE), (dVar 1)])])]))
@[irreducible] def f_form_plus (K : PySem.W.Frag) : List D → W D := dDef 2 (u_form_plus K)
theorem ok_form_plus (Y : Tx P w K mg base tb) : ∃ f fd, Fun K "form_plus" "form_plus" s_form_plus f fd ∧ DefOk P w K mg base tb "form_plus" ["one", "other"] 5 (f_form_plus K) f fd := by
  unfold f_form_plus
  obtain ⟨a, b, F, M⟩ := Y.d_form_plus
  obtain ⟨a_mixture, d_mixture, U_mixture, F_mixture⟩ := ok_mixture (P := P) (w := w) (base := base) (tb := tb) Y
  exact ⟨a, b, F, ⟨M, F.kp, (F.binds (ps := ["one", "other"]) (fun _ _ _ _ _ _ us hl => match us, hl with | [_, _], _ => rfl)), fun_okD (tb := tb) (k := 4) F sc_form_plus (hb := fun T cdv A outer s H E hT hr => (ds_one (ds_ret (de_call F_mixture hT hr pass_own (da_cons' (de_lst (da_cons' (de_tup (da_cons' (Y.gl_ONE.elim fun _ ha => ha.elim fun _ hg => de_glob hg.1 hg.2.1 hg.2.2) (da_cons' (de_var 0) da_nil'))) (da_cons' (de_tup (da_cons' (Y.gl_ONE.elim fun _ ha => ha.elim fun _ hg => de_glob hg.1 hg.2.1 hg.2.2) (da_cons' (de_var 1) da_nil'))) da_nil'))) da_nil')))))⟩⟩
def u_form_times (K : PySem.W.Frag) : DS :=
  (dRet (dCall (f_mixture K) [(dLst [(dTup [(dVar 1), (dVar 0)])])]))
@[irreducible] def f_form_times (K : PySem.W.Frag) : List D → W D := dDef 2 (u_form_times K)
theorem ok_form_times (Y : Tx P w K mg base tb) : ∃ f fd, Fun K "form_times" "form_times" s_form_times f fd ∧ DefOk P w K mg base tb "form_times" ["form", "weight"] 5 (f_form_times K) f fd := by
  unfold f_form_times
  obtain ⟨a, b, F, M⟩ := Y.d_form_times
  obtain ⟨a_mixture, d_mixture, U_mixture, F_mixture⟩ := ok_mixture (P := P) (w := w) (base := base) (tb := tb) Y
  exact ⟨a, b, F, ⟨M, F.kp, (F.binds (ps := ["form", "weight"]) (fun _ _ _ _ _ _ us hl => match us, hl with | [_, _], _ => rfl)), fun_okD (tb := tb) (k := 4) F sc_form_times (hb := fun T cdv A outer s H E hT hr => (ds_one (ds_ret (de_call F_mixture hT hr pass_own (da_cons' (de_lst (da_cons' (de_tup (da_cons' (de_var 1) (da_cons' (de_var 0) da_nil'))) da_nil')) da_nil')))))⟩⟩
def u_law (K : PySem.W.Frag) : DS :=
  (dSeq (dSet 1 (dCall (f__law_bag K) [(dVar 0)])) (dSeq (dPar [2, 3, 4] [(dCall (f__law_words K) [(dVar 1), (dPure (.int 3))]), (dTup []), dDictTF]) (dSeq (dFor (.nm 5) (cRng [(dPure (.int 6))]) (dSeq (dSet 6 (dCall (f__law_drawn_form K) [(dVar 1), (dVar 2), (dIf (dtVal (dOp oEq (dCall (f__law_draw K) [(dVar 1), (dPure (.int 3))]) (dPure (.int 0)))) (dVar 4) dDictTF)])) (dSeq (dSet 7 (dCall (f__law_drawn_form K) [(dVar 1), (dVar 2), (dVar 6)])) (dSeq (dSet 8 (dCall (f__law_tuple K) [(dCall (f__law_join K) [(dLst [(dTup [(dVar 6), (dTup [(dPure (.int 1)), (dPure (.int 1))])]), (dTup [(dVar 7), (dTup [(dPure (.int 1)), (dPure (.int 1))])])])])])) (dSeq (dIfS (dtNot (dtVal (dCall (f__law_like K) [(dCall (f_form_plus K) [(dCall (f__law_tuple K) [(dVar 6)]), (dCall (f__law_tuple K) [(dVar 7)])]), (dVar 8)]))) (dRet (dPure (.bl false))) dNext) (dSeq (dIfS (dtNot (dtVal (dCall (f__law_like K) [(dCall (f_form_plus K) [(dCall (f__law_tuple K) [(dVar 7)]), (dCall (f__law_tuple K) [(dVar 6)])]), (dVar 8)]))) (dRet (dPure (.bl false))) dNext) (dSeq (dSet 9 (dCall (f__law_of K) [(dVar 1), (dLst [(dTup [(dPure (.int 0)), (dPure (.int 1))]), (dTup [(dPure (.int 1)), (dPure (.int 1))]), (dTup [(dUn oNeg (dPure (.int 1))), (dPure (.int 1))]), (dCall (f__law_number K) [(dVar 1)]), (dCall (f__law_q K) [(dOp oAdd (dPure (.int 1)) (dCall (f__law_draw K) [(dVar 1), (dPure (.int 9))])), (dPure (.int 7))])])])) (dSeq (dSet 10 (dCallN (f_form_times K) [0, 1] [(dCall (f__law_tuple K) [(dVar 6)])] [(dVar 9)])) (dSeq (dIfS (dtNot (dtVal (dCall (f__law_like K) [(dVar 10), (dCall (f__law_tuple K) [(dCall (f__law_join K) [(dLst [(dTup [(dVar 6), (dVar 9)])])])])]))) (dRet (dPure (.bl false))) dNext) (dSeq (dSet 3 (dCall (f_form_plus K) [(dVar 3), (dVar 10)])) (dSeq (dSet 4 (dCall (f__law_join K) [(dLst [(dTup [(dVar 4), (dTup [(dPure (.int 1)), (dPure (.int 1))])]), (dTup [(dVar 6), (dVar 9)])])])) (dIfS (dtNot (dtVal (dCall (f__law_like K) [(dVar 3), (dCall (f__law_tuple K) [(dVar 4)])]))) (dRet (dPure (.bl false))) dNext)))))))))))) (dRet (dPure (.bl true))))))
@[irreducible] def f_law (K : PySem.W.Frag) : List D → W D := dDef 11 (u_law K)
theorem ok_law (Y : Tx P w K mg base tb) : ∃ f fd, Fun K "law" "law" s_law f fd ∧ DefOk P w K mg base tb "law" ["_law_script"] 8 (f_law K) f fd := by
  unfold f_law
  obtain ⟨a, b, F, M⟩ := Y.d_law
  obtain ⟨a__law_bag, d__law_bag, U__law_bag, F__law_bag⟩ := ok__law_bag (P := P) (w := w) (base := base) (tb := tb) Y
  obtain ⟨a__law_words, d__law_words, U__law_words, F__law_words⟩ := ok__law_words (P := P) (w := w) (base := base) (tb := tb) Y
  obtain ⟨a__law_drawn_form, d__law_drawn_form, U__law_drawn_form, F__law_drawn_form⟩ := ok__law_drawn_form (P := P) (w := w) (base := base) (tb := tb) Y
  obtain ⟨a__law_draw, d__law_draw, U__law_draw, F__law_draw⟩ := ok__law_draw (P := P) (w := w) (base := base) (tb := tb) Y
  obtain ⟨a__law_tuple, d__law_tuple, U__law_tuple, F__law_tuple⟩ := ok__law_tuple (P := P) (w := w) (base := base) (tb := tb) Y
  obtain ⟨a__law_join, d__law_join, U__law_join, F__law_join⟩ := ok__law_join (P := P) (w := w) (base := base) (tb := tb) Y
  obtain ⟨a__law_like, d__law_like, U__law_like, F__law_like⟩ := ok__law_like (P := P) (w := w) (base := base) (tb := tb) Y
  obtain ⟨a_form_plus, d_form_plus, U_form_plus, F_form_plus⟩ := ok_form_plus (P := P) (w := w) (base := base) (tb := tb) Y
  obtain ⟨a__law_of, d__law_of, U__law_of, F__law_of⟩ := ok__law_of (P := P) (w := w) (base := base) (tb := tb) Y
  obtain ⟨a__law_number, d__law_number, U__law_number, F__law_number⟩ := ok__law_number (P := P) (w := w) (base := base) (tb := tb) Y
  obtain ⟨a__law_q, d__law_q, U__law_q, F__law_q⟩ := ok__law_q (P := P) (w := w) (base := base) (tb := tb) Y
  obtain ⟨a_form_times, d_form_times, U_form_times, F_form_times⟩ := ok_form_times (P := P) (w := w) (base := base) (tb := tb) Y
  exact ⟨a, b, F, ⟨M, F.kp, (F.binds (ps := ["_law_script"]) (fun _ _ _ _ _ _ us hl => match us, hl with | [_], _ => rfl)), fun_okD (tb := tb) (k := 7) F sc_law (hb := fun T cdv A outer s H E hT hr => (ds_cons (ds_set (i := 1) sc_law.nd rfl (.inl rfl) (de_call F__law_bag hT hr pass_own (da_cons' (de_var 0) da_nil'))) (ds_cons (ds_par3 (ps_par3 (i := 2) (j := 3) (l := 4) (by rfl) sc_law.nd rfl rfl rfl (by decide) (by decide) (by decide) rfl rfl rfl (da_cons' (de_call F__law_words hT hr pass_own (da_cons' (de_var 1) (da_cons' de_int da_nil'))) (da_cons' (de_tup da_nil') (da_cons' de_dictTF da_nil'))) (by rfl))) (ds_cons (ds_for (passes_of rfl) (ci_rng Y.b_range (da_cons' de_int da_nil')) (pg_name (i := 5) sc_law.nd rfl (.inl rfl)) (ds_cons (ds_set (i := 6) sc_law.nd rfl (.inl rfl) (de_call F__law_drawn_form hT hr pass_own (da_cons' (de_var 1) (da_cons' (de_var 2) (da_cons' (de_if (dt_cmp (or_eq hr.units) (de_call F__law_draw hT hr pass_own (da_cons' (de_var 1) (da_cons' de_int da_nil'))) de_int) (de_var 4) de_dictTF) da_nil'))))) (ds_cons (ds_set (i := 7) sc_law.nd rfl (.inl rfl) (de_call F__law_drawn_form hT hr pass_own (da_cons' (de_var 1) (da_cons' (de_var 2) (da_cons' (de_var 6) da_nil'))))) (ds_cons (ds_set (i := 8) sc_law.nd rfl (.inl rfl) (de_call F__law_tuple hT hr pass_own (da_cons' (de_call F__law_join hT hr pass_own (da_cons' (de_lst (da_cons' (de_tup (da_cons' (de_var 6) (da_cons' (de_tup (da_cons' de_int (da_cons' de_int da_nil'))) da_nil'))) (da_cons' (de_tup (da_cons' (de_var 7) (da_cons' (de_tup (da_cons' de_int (da_cons' de_int da_nil'))) da_nil'))) da_nil'))) da_nil')) da_nil'))) (ds_cons (ds_if (dt_not (dt_val (de_call F__law_like hT hr pass_own (da_cons' (de_call F_form_plus hT hr pass_own (da_cons' (de_call F__law_tuple hT hr pass_own (da_cons' (de_var 6) da_nil')) (da_cons' (de_call F__law_tuple hT hr pass_own (da_cons' (de_var 7) da_nil')) da_nil'))) (da_cons' (de_var 8) da_nil'))))) (ds_one (ds_ret de_bl)) ds_nil) (ds_cons (ds_if (dt_not (dt_val (de_call F__law_like hT hr pass_own (da_cons' (de_call F_form_plus hT hr pass_own (da_cons' (de_call F__law_tuple hT hr pass_own (da_cons' (de_var 7) da_nil')) (da_cons' (de_call F__law_tuple hT hr pass_own (da_cons' (de_var 6) da_nil')) da_nil'))) (da_cons' (de_var 8) da_nil'))))) (ds_one (ds_ret de_bl)) ds_nil) (ds_cons (ds_set (i := 9) sc_law.nd rfl (.inl rfl) (de_call F__law_of hT hr pass_own (da_cons' (de_var 1) (da_cons' (de_lst (da_cons' (de_tup (da_cons' de_int (da_cons' de_int da_nil'))) (da_cons' (de_tup (da_cons' de_int (da_cons' de_int da_nil'))) (da_cons' (de_tup (da_cons' (de_un or_neg de_int) (da_cons' de_int da_nil'))) (da_cons' (de_call F__law_number hT hr pass_own (da_cons' (de_var 1) da_nil')) (da_cons' (de_call F__law_q hT hr pass_own (da_cons' (de_op or_add de_int (de_call F__law_draw hT hr pass_own (da_cons' (de_var 1) (da_cons' de_int da_nil')))) (da_cons' de_int da_nil'))) da_nil')))))) da_nil')))) (ds_cons (ds_set (i := 10) sc_law.nd rfl (.inl rfl) (de_callN F_form_times hT hr pass_own (kb_form_times_1_weight U_form_times) (da_cons' (de_call F__law_tuple hT hr pass_own (da_cons' (de_var 6) da_nil')) da_nil') (dk_cons (de_var 9) dk_nil))) (ds_cons (ds_if (dt_not (dt_val (de_call F__law_like hT hr pass_own (da_cons' (de_var 10) (da_cons' (de_call F__law_tuple hT hr pass_own (da_cons' (de_call F__law_join hT hr pass_own (da_cons' (de_lst (da_cons' (de_tup (da_cons' (de_var 6) (da_cons' (de_var 9) da_nil'))) da_nil')) da_nil')) da_nil')) da_nil'))))) (ds_one (ds_ret de_bl)) ds_nil) (ds_cons (ds_set (i := 3) sc_law.nd rfl (.inl rfl) (de_call F_form_plus hT hr pass_own (da_cons' (de_var 3) (da_cons' (de_var 10) da_nil')))) (ds_cons (ds_set (i := 4) sc_law.nd rfl (.inl rfl) (de_call F__law_join hT hr pass_own (da_cons' (de_lst (da_cons' (de_tup (da_cons' (de_var 4) (da_cons' (de_tup (da_cons' de_int (da_cons' de_int da_nil'))) da_nil'))) (da_cons' (de_tup (da_cons' (de_var 6) (da_cons' (de_var 9) da_nil'))) da_nil'))) da_nil'))) (ds_one (ds_if (dt_not (dt_val (de_call F__law_like hT hr pass_own (da_cons' (de_var 3) (da_cons' (de_call F__law_tuple hT hr pass_own (da_cons' (de_var 4) da_nil')) da_nil'))))) (ds_one (ds_ret de_bl)) ds_nil))))))))))))) (ds_one (ds_ret de_bl))))))⟩⟩
end
end Dw
set_option maxHeartbeats 60000
namespace Dw
open PySem PySem.Spec PyProof.Rows L2
variable {K : PySem.W.Frag} {S : Sto} {post : D → Sto → Prop} {xp : Xp}
theorem ev_fraction {p q : Int} {n : Nat} (hq : q ≠ 0) (hz : Px.Sz n q) (hn : n ≤ 9000) (h : post (fr (Rat.divInt p q)) S) : f_fraction K [.int p, .int q] S post xp := by
  unfold f_fraction u_fraction
  try simp -implicitDefEqProofs only [dDef_2_1, dSeq_m, dRet_m, dTup_m, dArgs_c, dArgs_n, dOp_m, dVar_m, dIfS_m, dSet_m, dUn_m, dNext_m, dtVal_m, dPure_m, dCall_m, get_0, get_1, set_2, get_2, mVar_s, oLt_i, mBl_b, gGcd_i, oNeg_i, oDiv_i, oEq_m, okEq_int, eqD_int, List.length_cons, List.length_nil, List.cons_append, List.nil_append, Nat.reduceAdd, Nat.reduceSub, Option.some.injEq, exists_eq_left', true_and, and_true, if_true, if_false, Bool.false_eq_true, Bool.true_eq_false, Bool.not_true, Bool.not_false, reduceIte, beq_self_eq_true, decide_true, Bool.or_false, Bool.or_true, Bool.false_or, Bool.true_or]
  have hg := Px.gcd_sz (p := p) hz hq
  have g0 : 0 < Nat.gcd p.natAbs q.natAbs := Nat.gcd_pos_of_pos_right _ (by omega)
  rw [decide_eq_false hq, if_neg Bool.false_ne_true]
  by_cases hlt : q < 0
  · rw [decide_eq_true hlt, if_pos rfl]
    have g1 : -(Nat.gcd p.natAbs q.natAbs : Nat) ≠ (0 : Int) := by omega
    refine ⟨Px.divU_of g1 hg.neg hn, Px.divU_of g1 hg.neg hn, ?_⟩
    rw [(Px.frac_neg hlt).1, (Px.frac_neg hlt).2]
    exact h
  · rw [decide_eq_false hlt, if_neg Bool.false_ne_true]
    have g1 : ((Nat.gcd p.natAbs q.natAbs : Nat) : Int) ≠ 0 := by omega
    refine ⟨Px.divU_of g1 hg hn, Px.divU_of g1 hg hn, ?_⟩
    rw [(Px.frac_pos (by omega)).1, (Px.frac_pos (by omega)).2]
    exact h
theorem ev_plus {x y : Rat} {n m : Nat} (a : Px.SzR n x) (b : Px.SzR m y) (h : n + m ≤ 9000) (k : post (fr (x + y)) S) : f_plus K [fr x, fr y] S post xp := by
  unfold f_plus u_plus fr
  try simp -implicitDefEqProofs only [dDef_2_0, dRet_m, dCall_m, dArgs_c, dArgs_n, dOp_m, dPure_m, dVar_m, get_1, mVar_s, oIx_t, at2_1, get_0, oMul_i, at2_0, oAdd_i, List.length_cons, List.length_nil, List.cons_append, List.nil_append, Nat.reduceAdd, Nat.reduceSub, Option.some.injEq, exists_eq_left', true_and, and_true, if_true, if_false, Bool.false_eq_true, Bool.true_eq_false, Bool.not_true, Bool.not_false, reduceIte, beq_self_eq_true, decide_true, Bool.or_false, Bool.or_true, Bool.false_or, Bool.true_or]
  refine ⟨Px.cmul a.1 b.2 (by omega), Px.cmul b.1 a.2 (by omega), Px.cmul a.2 b.2 (by omega), ?_⟩
  refine ev_fraction (Px.den_mul_ne x y) (a.2.mul b.2) h ?_
  rw [← Px.add_eq]; exact k
theorem ev_times {x y : Rat} {n m : Nat} (a : Px.SzR n x) (b : Px.SzR m y) (h : n + m ≤ 9000) (k : post (fr (x * y)) S) : f_times K [fr x, fr y] S post xp := by
  unfold f_times u_times fr
  try simp -implicitDefEqProofs only [dDef_2_0, dRet_m, dCall_m, dArgs_c, dArgs_n, dOp_m, dPure_m, dVar_m, get_1, mVar_s, oIx_t, at2_1, get_0, oMul_i, at2_0, List.length_cons, List.length_nil, List.cons_append, List.nil_append, Nat.reduceAdd, Nat.reduceSub, Option.some.injEq, exists_eq_left', true_and, and_true, if_true, if_false, Bool.false_eq_true, Bool.true_eq_false, Bool.not_true, Bool.not_false, reduceIte, beq_self_eq_true, decide_true, Bool.or_false, Bool.or_true, Bool.false_or, Bool.true_or]
  refine ⟨Px.cmul a.1 b.1 (by omega), Px.cmul a.2 b.2 (by omega), ?_⟩
  refine ev_fraction (Px.den_mul_ne x y) (a.2.mul b.2) h ?_
  rw [← Px.mul_eq]; exact k
abbrev whC : DT := dtVal (dOp oNe (dVar 1) (dPure (.int 0)))
abbrev whB : DS := dPar [0, 1] [dVar 1, dOp oMod (dCall gInt [dVar 0]) (dVar 1)]
theorem gcd_go : ∀ (n x y : Nat) (p : Pst), y < n → p.nx [some (.int ((Nat.gcd x y : Nat) : Int)), some (.int 0)] S → wWhile whC whB n [some (.int (x : Int)), some (.int (y : Int))] S p
  | 0, x, y, p, h, _ => absurd h (Nat.not_lt_zero _)
  | n + 1, x, y, p, h, k => by
    unfold wWhile whC whB
    try simp -implicitDefEqProofs only [dPar_m, dArgs_c, setL_c, set_0, set_1, dArgs_n, setL_n, dOp_m, dVar_m, get_1, mVar_s, dCall_m, get_0, gInt_i, oMod_i, dtVal_m, oNe_m, mBl_b, dPure_m, okEq_int, eqD_int, List.length_cons, List.length_nil, List.cons_append, List.nil_append, Nat.reduceAdd, Nat.reduceSub, Option.some.injEq, exists_eq_left', true_and, and_true, if_true, if_false, Bool.false_eq_true, Bool.true_eq_false, Bool.not_true, Bool.not_false, reduceIte, beq_self_eq_true, decide_true, Bool.or_false, Bool.or_true, Bool.false_or, Bool.true_or]
    by_cases hy : y = 0
    · subst hy
      rw [if_neg (by simp)]
      rw [Nat.gcd_zero_right] at k
      exact k
    · rw [if_pos (by simp; omega)]
      refine ⟨by omega, ?_⟩
      have e : ((x : Int).fmod (y : Int)) = ((x % y : Nat) : Int) := by
        rw [Int.fmod_eq_emod_of_nonneg _ (by omega)]
        rfl
      rw [e]
      refine gcd_go n y (x % y) p (by have := Nat.mod_lt x (by omega : y > 0); omega) ?_
      rw [Nat.gcd_comm y (x % y), ← Nat.gcd_rec, Nat.gcd_comm]
      exact k
theorem ev__law_gcd {p q : Int} (k : post (.int ((Nat.gcd p.natAbs q.natAbs : Nat) : Int)) S) : f__law_gcd K [.int p, .int q] S post xp := by
  unfold f__law_gcd u__law_gcd
  try simp -implicitDefEqProofs only [dDef_2_0, dSeq_m, dRet_m, dVar_m, dWhile_m, dPar_m, dArgs_c, setL_c, set_0, set_1, dArgs_n, setL_n, dCall_m, get_1, mVar_s, gAbs_i, get_0, List.length_cons, List.length_nil, List.cons_append, List.nil_append, Nat.reduceAdd, Nat.reduceSub, Option.some.injEq, exists_eq_left', true_and, and_true, if_true, if_false, Bool.false_eq_true, Bool.true_eq_false, Bool.not_true, Bool.not_false, reduceIte, beq_self_eq_true, decide_true, Bool.or_false, Bool.or_true, Bool.false_or, Bool.true_or]
  exact ⟨q.natAbs + 1, gcd_go _ _ _ _ (Nat.lt_succ_self _) k⟩
theorem ev__law_q {p q : Int} {n : Nat} (hq : q ≠ 0) (hz : Px.Sz n q) (hn : n ≤ 9000) (h : post (fr (Rat.divInt p q)) S) : f__law_q K [.int p, .int q] S post xp := by
  unfold f__law_q u__law_q
  try simp -implicitDefEqProofs only [dDef_2_1, dSeq_m, dRet_m, dTup_m, dArgs_c, dArgs_n, dOp_m, dVar_m, dSet_m, set_2, get_0, get_2, get_1, mVar_s, dIf_m, dPure_m, dUn_m, oNeg_i, dtVal_m, oGt_i, mBl_b, dCall_m, oMul_i, oDiv_i, List.length_cons, List.length_nil, List.cons_append, List.nil_append, Nat.reduceAdd, Nat.reduceSub, Option.some.injEq, exists_eq_left', true_and, and_true, if_true, if_false, Bool.false_eq_true, Bool.true_eq_false, Bool.not_true, Bool.not_false, reduceIte, beq_self_eq_true, decide_true, Bool.or_false, Bool.or_true, Bool.false_or, Bool.true_or]
  refine ev__law_gcd ?_
  try simp -implicitDefEqProofs only [dDef_2_1, dSeq_m, dRet_m, dTup_m, dArgs_c, dArgs_n, dOp_m, dVar_m, dSet_m, set_2, get_0, get_2, get_1, mVar_s, dIf_m, dPure_m, dUn_m, oNeg_i, dtVal_m, oGt_i, mBl_b, dCall_m, oMul_i, oDiv_i, List.length_cons, List.length_nil, List.cons_append, List.nil_append, Nat.reduceAdd, Nat.reduceSub, Option.some.injEq, exists_eq_left', true_and, and_true, if_true, if_false, Bool.false_eq_true, Bool.true_eq_false, Bool.not_true, Bool.not_false, reduceIte, beq_self_eq_true, decide_true, Bool.or_false, Bool.or_true, Bool.false_or, Bool.true_or]
  have hg := Px.gcd_sz (p := p) hz hq
  have g0 : 0 < Nat.gcd p.natAbs q.natAbs := Nat.gcd_pos_of_pos_right _ (by omega)
  by_cases hgt : 0 < q
  · rw [decide_eq_true hgt, if_pos rfl]
    refine ⟨Px.cmul (b := 1) hg (by show (1 : Int).natAbs < 2 ^ 1; decide) (by omega), ?_⟩
    have g1 : ((Nat.gcd p.natAbs q.natAbs : Nat) : Int) ≠ 0 := by omega
    rw [Int.mul_one]
    refine ⟨Px.divU_of g1 hg hn, Px.divU_of g1 hg hn, ?_⟩
    rw [(Px.frac_pos (by omega)).1, (Px.frac_pos (by omega)).2]
    exact h
  · rw [decide_eq_false hgt, if_neg Bool.false_ne_true]
    refine ⟨Px.cmul (b := 1) hg (by show (-1 : Int).natAbs < 2 ^ 1; decide) (by omega), ?_⟩
    have hlt : q < 0 := by omega
    have g1 : -(Nat.gcd p.natAbs q.natAbs : Nat) ≠ (0 : Int) := by omega
    rw [Int.mul_neg, Int.mul_one]
    refine ⟨Px.divU_of g1 hg.neg hn, Px.divU_of g1 hg.neg hn, ?_⟩
    rw [(Px.frac_neg hlt).1, (Px.frac_neg hlt).2]
    exact h
theorem ev__law_plus {x y : Rat} {n m : Nat} (a : Px.SzR n x) (b : Px.SzR m y) (h : n + m ≤ 9000) (k : post (fr (x + y)) S) : f__law_plus K [fr x, fr y] S post xp := by
  unfold f__law_plus u__law_plus fr
  try simp -implicitDefEqProofs only [dDef_2_0, dRet_m, dCall_m, dArgs_c, dArgs_n, dOp_m, dPure_m, dVar_m, get_1, mVar_s, oIx_t, at2_1, get_0, oMul_i, at2_0, oAdd_i, List.length_cons, List.length_nil, List.cons_append, List.nil_append, Nat.reduceAdd, Nat.reduceSub, Option.some.injEq, exists_eq_left', true_and, and_true, if_true, if_false, Bool.false_eq_true, Bool.true_eq_false, Bool.not_true, Bool.not_false, reduceIte, beq_self_eq_true, decide_true, Bool.or_false, Bool.or_true, Bool.false_or, Bool.true_or]
  refine ⟨Px.cmul a.1 b.2 (by omega), Px.cmul b.1 a.2 (by omega), Px.cmul a.2 b.2 (by omega), ?_⟩
  refine ev__law_q (Px.den_mul_ne x y) (a.2.mul b.2) h ?_
  rw [← Px.add_eq]; exact k
theorem ev__law_times {x y : Rat} {n m : Nat} (a : Px.SzR n x) (b : Px.SzR m y) (h : n + m ≤ 9000) (k : post (fr (x * y)) S) : f__law_times K [fr x, fr y] S post xp := by
  unfold f__law_times u__law_times fr
  try simp -implicitDefEqProofs only [dDef_2_0, dRet_m, dCall_m, dArgs_c, dArgs_n, dOp_m, dPure_m, dVar_m, get_1, mVar_s, oIx_t, at2_1, get_0, oMul_i, at2_0, List.length_cons, List.length_nil, List.cons_append, List.nil_append, Nat.reduceAdd, Nat.reduceSub, Option.some.injEq, exists_eq_left', true_and, and_true, if_true, if_false, Bool.false_eq_true, Bool.true_eq_false, Bool.not_true, Bool.not_false, reduceIte, beq_self_eq_true, decide_true, Bool.or_false, Bool.or_true, Bool.false_or, Bool.true_or]
  refine ⟨Px.cmul a.1 b.1 (by omega), Px.cmul a.2 b.2 (by omega), ?_⟩
  refine ev__law_q (Px.den_mul_ne x y) (a.2.mul b.2) h ?_
  rw [← Px.mul_eq]; exact k
end Dw
set_option maxHeartbeats 60000
namespace Dw
open PySem PySem.Spec PyProof.Rows L2
variable {K : PySem.W.Frag} {S : Sto} {post : D → Sto → Prop} {xp : Xp} {b : Addr}
def hasBag (S : Sto) (b : Addr) : Prop := ∃ c ns, S b = some (.bag c ns)
theorem ev_draw {n : Int} (hb : hasBag S b) (h0 : 0 < n) (h1 : n < 1073741824) (k : ∀ r, 0 ≤ r → r < n → post (.int r) S) : f__law_draw K [.val (.ref b), .int n] S post xp := by
  unfold f__law_draw gDraw
  exact ⟨hb, h0, h1, k⟩
theorem atI_mem {α : Type} {xs : List α} {r : Int} (h0 : 0 ≤ r) (h1 : r < (xs.length : Nat)) : ∃ d ∈ xs, atI xs r = some d := by
  have hx : r.toNat < xs.length := by omega
  refine ⟨xs[r.toNat], List.getElem_mem hx, ?_⟩
  unfold atI ixN
  simp only [h0, h1, hx, if_true, dif_pos]
  first
    | simp [h0, h1, hx]
    | (split <;> simp_all)
theorem ev__law_of {xs : List D} (hb : hasBag S b) (hl : xs ≠ []) (hl2 : xs.length ≤ 1000) (k : ∀ d ∈ xs, post d S) : f__law_of K [.val (.ref b), .lst xs] S post xp := by
  unfold f__law_of u__law_of
  try simp -implicitDefEqProofs only [dDef_2_0, dRet_m, dOp_m, dCall_m, dArgs_c, dArgs_n, dVar_m, get_1, mVar_s, gLen_l, get_0, oIx_l, List.length_cons, List.length_nil, List.cons_append, List.nil_append, Nat.reduceAdd, Nat.reduceSub, Option.some.injEq, exists_eq_left', true_and, and_true, if_true, if_false, Bool.false_eq_true, Bool.true_eq_false, Bool.not_true, Bool.not_false, reduceIte, beq_self_eq_true, decide_true, Bool.or_false, Bool.or_true, Bool.false_or, Bool.true_or]
  have : 0 < xs.length := List.length_pos_iff.mpr hl
  refine ev_draw hb (by omega) (by omega) (fun r h0 h1 => ?_)
  obtain ⟨d, hd, e⟩ := atI_mem h0 h1
  try simp -implicitDefEqProofs only [dDef_2_0, dRet_m, dOp_m, dCall_m, dArgs_c, dArgs_n, dVar_m, get_1, mVar_s, gLen_l, get_0, oIx_l, List.length_cons, List.length_nil, List.cons_append, List.nil_append, Nat.reduceAdd, Nat.reduceSub, Option.some.injEq, exists_eq_left', true_and, and_true, if_true, if_false, Bool.false_eq_true, Bool.true_eq_false, Bool.not_true, Bool.not_false, reduceIte, beq_self_eq_true, decide_true, Bool.or_false, Bool.or_true, Bool.false_or, Bool.true_or]
  exact ⟨d, e, k d hd⟩
theorem szI {n : Nat} {i : Int} (h : i.natAbs < 2 ^ n) : Px.Sz n i := h
theorem fr_int (i : Int) : fr (i : Rat) = .tup [.int i, .int 1] := by
  unfold fr
  rw [Rat.num_intCast, Rat.den_intCast]
  rfl
theorem sz_int {n : Nat} {i : Int} (h : i.natAbs < 2 ^ n) (h1 : 1 ≤ n) : Px.SzR n (i : Rat) := by
  refine ⟨?_, ?_⟩
  · rw [Rat.num_intCast]; exact h
  · rw [Rat.den_intCast]
    show (1 : Int).natAbs < 2 ^ n
    exact Nat.lt_of_lt_of_le (by decide : 1 < 2 ^ 1) (Nat.pow_le_pow_right (by decide) h1)
theorem ev_number (hb : hasBag S b) (k : ∀ x : Rat, Px.SzR 8 x → post (fr x) S) : f__law_number K [.val (.ref b)] S post xp := by
  unfold f__law_number u__law_number
  try simp -implicitDefEqProofs only [dDef_1_1, dSeq_m, dRet_m, dTup_m, dArgs_c, dArgs_n, dPure_m, dOp_m, dCall_m, dVar_m, dIfS_m, dNext_m, dtVal_m, dSet_m, set_1, get_1, mVar_s, get_0, oSub_i, oLt_i, mBl_b, oMul_i, List.length_cons, List.length_nil, List.cons_append, List.nil_append, Nat.reduceAdd, Nat.reduceSub, Option.some.injEq, exists_eq_left', true_and, and_true, if_true, if_false, Bool.false_eq_true, Bool.true_eq_false, Bool.not_true, Bool.not_false, reduceIte, beq_self_eq_true, decide_true, Bool.or_false, Bool.or_true, Bool.false_or, Bool.true_or]
  refine ev_draw hb (by decide) (by decide) (fun r h0 h1 => ?_)
  try simp -implicitDefEqProofs only [dDef_1_1, dSeq_m, dRet_m, dTup_m, dArgs_c, dArgs_n, dPure_m, dOp_m, dCall_m, dVar_m, dIfS_m, dNext_m, dtVal_m, dSet_m, set_1, get_1, mVar_s, get_0, oSub_i, oLt_i, mBl_b, oMul_i, List.length_cons, List.length_nil, List.cons_append, List.nil_append, Nat.reduceAdd, Nat.reduceSub, Option.some.injEq, exists_eq_left', true_and, and_true, if_true, if_false, Bool.false_eq_true, Bool.true_eq_false, Bool.not_true, Bool.not_false, reduceIte, beq_self_eq_true, decide_true, Bool.or_false, Bool.or_true, Bool.false_or, Bool.true_or]
  by_cases r9 : r < 9
  · rw [if_pos (decide_eq_true r9)]
    have := k ((r - 4 : Int) : Rat) (sz_int (by omega) (by decide))
    rw [fr_int] at this
    exact this
  rw [if_neg (by simpa using r9)]
  by_cases r11 : r < 11
  · rw [if_pos (decide_eq_true r11)]
    refine ev_draw hb (by decide) (by decide) (fun q q0 q1 => ?_)
    try simp -implicitDefEqProofs only [dDef_1_1, dSeq_m, dRet_m, dTup_m, dArgs_c, dArgs_n, dPure_m, dOp_m, dCall_m, dVar_m, dIfS_m, dNext_m, dtVal_m, dSet_m, set_1, get_1, mVar_s, get_0, oSub_i, oLt_i, mBl_b, oMul_i, List.length_cons, List.length_nil, List.cons_append, List.nil_append, Nat.reduceAdd, Nat.reduceSub, Option.some.injEq, exists_eq_left', true_and, and_true, if_true, if_false, Bool.false_eq_true, Bool.true_eq_false, Bool.not_true, Bool.not_false, reduceIte, beq_self_eq_true, decide_true, Bool.or_false, Bool.or_true, Bool.false_or, Bool.true_or]
    refine ⟨Px.cmul (a := 2) (b := 4) (szI (by decide)) (szI (by omega)) (by decide), ?_⟩
    have s1 : Px.Sz 4 (2 : Int) := szI (by decide)
    refine ev__law_q (by decide) s1 (by decide) (k _ ((Px.divInt_sz (szI (by omega)) s1 (by decide)).mono (by decide)))
  rw [if_neg (by simpa using r11)]
  refine ev_draw hb (by decide) (by decide) (fun q q0 q1 => ?_)
  have := k ((q - 199 : Int) : Rat) (sz_int (by omega) (by decide))
  rw [fr_int] at this
  exact this
end Dw
set_option maxHeartbeats 60000
namespace Dw
open PySem PySem.Spec PyProof.Rows L2
theorem any_mem {ks : List (List Key)} {k : List Key} : ((ks.any fun q => decide (q = k)) = true) = (k ∈ ks) := propext ⟨fun h => by
  obtain ⟨q, hq, e⟩ := List.any_eq_true.mp h
  rw [← of_decide_eq_true e]; exact hq, fun h => List.any_eq_true.mpr ⟨k, h, decide_eq_true rfl⟩⟩
instance memDec (k : List Key) (l : List (List Key)) : Decidable (k ∈ l) := decidable_of_iff ((l.any fun q => decide (q = k)) = true) (iff_of_eq any_mem)
abbrev Kv := List (List Key × Rat)
abbrev kz (f : Kv) : List (List Key) := f.map (·.1)
abbrev dz (f : Kv) : List D := f.map fun p => fr p.2
def vl : Kv → List Key → Rat
  | [], _ => 0
  | p :: r, k => if p.1 = k then p.2 else vl r k
theorem vl_c (p : List Key × Rat) (r : Kv) (k : List Key) : vl (p :: r) k = if p.1 = k then p.2 else vl r k := rfl
theorem mem_kz {p : List Key × Rat} {f : Kv} {k : List Key} (e : ¬ p.1 = k) : k ∈ kz (p :: f) ↔ k ∈ kz f := ⟨fun z => (List.mem_cons.mp z).resolve_left fun z => e z.symm, fun z => List.mem_cons_of_mem _ z⟩
def putR (f : Kv) (k : List Key) (x : Rat) : Kv := if k ∈ kz f then f.map (fun p => if p.1 = k then (k, x) else p) else f ++ [(k, x)]
theorem put_kz (f : Kv) (k : List Key) (x : Rat) : putKT (kz f) k = kz (putR f k x) := by
  unfold putKT putR
  simp only [any_mem]
  split
  · show f.map (fun p : List Key × Rat => p.1) = (f.map _).map (fun p : List Key × Rat => p.1)
    rw [List.map_map]
    refine List.map_congr_left fun p _ => ?_
    show p.1 = (if p.1 = k then (k, x) else p).1
    split
    · rename_i e; exact e
    · rfl
  · show _ = (f ++ [(k, x)]).map (·.1)
    rw [List.map_append]; rfl
theorem zip_dz (k : List Key) (x : Rat) : ∀ f : Kv, List.zipWith (fun q d => if q = k then fr x else d) (kz f) (dz f) = dz (f.map fun p => if p.1 = k then (k, x) else p)
  | [] => rfl
  | p :: f => by
    show (if p.1 = k then fr x else fr p.2) :: List.zipWith _ (kz f) (dz f) = fr (if p.1 = k then (k, x) else p).2 :: dz (f.map _)
    rw [zip_dz k x f]
    split <;> rfl
theorem put_dz (f : Kv) (k : List Key) (x : Rat) : putDT (kz f) (dz f) k (fr x) = dz (putR f k x) := by
  unfold putDT putR
  simp only [any_mem]
  split
  · exact zip_dz k x f
  · show _ = (f ++ [(k, x)]).map fun p => fr p.2
    rw [List.map_append]; rfl
theorem look_in : ∀ {f : Kv} {k : List Key}, k ∈ kz f → lookT (kz f) (dz f) k = some (fr (vl f k))
  | p :: f, k, h => by
    show lookT (p.1 :: kz f) (fr p.2 :: dz f) k = _
    unfold lookT vl
    by_cases e : p.1 = k
    · rw [if_pos e, if_pos e]
    · rw [if_neg e, if_neg e]
      exact look_in ((List.mem_cons.mp h).resolve_left fun z => e z.symm)
theorem look_out : ∀ {f : Kv} {k : List Key}, k ∉ kz f → lookT (kz f) (dz f) k = none ∧ vl f k = 0
  | [], k, h => ⟨rfl, rfl⟩
  | p :: f, k, h => by
    have h1 : ¬ p.1 = k := fun e => h (by rw [← e]; exact List.mem_cons_self)
    have h2 : k ∉ kz f := fun e => h (List.mem_cons_of_mem _ e)
    show lookT (p.1 :: kz f) (fr p.2 :: dz f) k = _ ∧ _
    unfold lookT vl
    rw [if_neg h1, if_neg h1]
    exact look_out h2
theorem look_getD (f : Kv) (k : List Key) : (lookT (kz f) (dz f) k).getD (fr 0) = fr (vl f k) := by
  by_cases h : k ∈ kz f
  · rw [look_in h]; rfl
  · rw [(look_out h).1, (look_out h).2]; rfl
theorem vl_out {f : Kv} {k : List Key} (h : k ∉ kz f) : vl f k = 0 := (look_out h).2
theorem vl_in {f : Kv} {p : List Key × Rat} (nd : (kz f).Nodup) (h : p ∈ f) : vl f p.1 = p.2 := by
  induction f with
  | nil => cases h
  | cons q f ih =>
    obtain ⟨n1, n2⟩ := List.nodup_cons.mp nd
    unfold vl
    rcases List.mem_cons.mp h with rfl | h
    · rw [if_pos rfl]
    · rw [if_neg (fun e => n1 (by show q.1 ∈ f.map (·.1); rw [show q.1 = p.1 from e]; exact List.mem_map_of_mem h)), ih n2 h]
theorem vl_append (f g : Kv) (k : List Key) : vl (f ++ g) k = if k ∈ kz f then vl f k else vl g k := by
  induction f with
  | nil => simp [kz]
  | cons p f ih =>
    rw [List.cons_append, vl_c, vl_c]
    by_cases e : p.1 = k
    · rw [if_pos e, if_pos e, if_pos (by rw [← e]; exact List.mem_cons_self)]
    · rw [if_neg e, if_neg e, ih]
      by_cases h : k ∈ kz f
      · rw [if_pos h, if_pos ((mem_kz e).mpr h)]
      · rw [if_neg h, if_neg (fun z => h ((mem_kz e).mp z))]
theorem vl_map (k j : List Key) (x : Rat) : ∀ f : Kv, vl (f.map fun p => if p.1 = k then (k, x) else p) j = if j = k then (if k ∈ kz f then x else 0) else vl f j
  | [] => by show (0 : Rat) = _; simp [kz, vl]
  | p :: f => by
    rw [List.map_cons, vl_c, vl_c]
    by_cases e : p.1 = k
    · rw [if_pos e, if_pos (show k ∈ kz (p :: f) by rw [← e]; exact List.mem_cons_self)]
      by_cases h : j = k
      · rw [if_pos h, if_pos h.symm]
      · rw [if_neg h, if_neg (fun z => h z.symm), vl_map k j x f, if_neg h, if_neg (fun z => h (z.symm.trans e))]
    · rw [if_neg e]
      by_cases h : j = k
      · rw [if_neg (fun z => e (z.trans h)), vl_map k j x f, if_pos h, if_pos h]
        by_cases m : k ∈ kz f
        · rw [if_pos m, if_pos ((mem_kz e).mpr m)]
        · rw [if_neg m, if_neg (fun z => m ((mem_kz e).mp z))]
      · rw [vl_map k j x f, if_neg h, if_neg h]
theorem vl_put (f : Kv) (k j : List Key) (x : Rat) : vl (putR f k x) j = if j = k then x else vl f j := by
  unfold putR
  by_cases m : k ∈ kz f
  · rw [if_pos m, vl_map, if_pos m]
  · rw [if_neg m, vl_append]
    by_cases h : j = k
    · rw [if_neg (by rw [h]; exact m), if_pos h]
      show (if k = j then x else vl [] j) = x
      rw [if_pos h.symm]
    · rw [if_neg h]
      by_cases z : j ∈ kz f
      · rw [if_pos z]
      · rw [if_neg z, vl_out z]
        show (if k = j then x else (0 : Rat)) = 0
        rw [if_neg fun e => h e.symm]
theorem kz_put (f : Kv) (k : List Key) (x : Rat) : kz (putR f k x) = if k ∈ kz f then kz f else kz f ++ [k] := by
  rw [← put_kz]
  unfold putKT
  simp only [any_mem]
/-- keys all different, each an unknown's -/
def UK (k : List Key) : Prop := (∃ s : Str, k = [.inr s] ∧ PyData.strOk s = true) ∨ ∃ (s n : Str) (i : Int), k = [.inr s, .inr n, .inl i] ∧ PyData.strOk s = true ∧ PyData.strOk n = true
structure Fm (f : Kv) : Prop where
  nd : (kz f).Nodup
  uk : ∀ k ∈ kz f, UK k
theorem Fm.put {f : Kv} (h : Fm f) {k : List Key} (u : UK k) (x : Rat) : Fm (putR f k x) := by
  refine ⟨?_, ?_⟩ <;> rw [kz_put]
  · split
    · exact h.nd
    · rename_i m
      rw [List.nodup_append]
      refine ⟨h.nd, by simp, fun a ha b hb => ?_⟩
      rw [List.mem_singleton.mp hb]
      intro e; rw [e] at ha; exact m ha
  · split
    · exact h.uk
    · intro q hq
      rcases List.mem_append.mp hq with hq | hq
      · exact h.uk q hq
      · rw [List.mem_singleton.mp hq]; exact u
theorem UK.key {k : List Key} (u : UK k) : keyishK k = true := by
  rcases u with ⟨s, rfl, _⟩ | ⟨s, n, i, rfl, _⟩ <;> rfl
theorem UK.alike {k q : List Key} (u : UK k) (v : UK q) : PySem.W.alike (encKs k) (encKs q) = true := by
  rcases u with ⟨s, rfl, _⟩ | ⟨s, n, i, rfl, _⟩ <;> rcases v with ⟨s', rfl, _⟩ | ⟨s', n', i', rfl, _⟩ <;> rfl
theorem put_len (f : Kv) (k : List Key) (x : Rat) : (putR f k x).length ≤ f.length + 1 := by
  unfold putR
  split
  · rw [List.length_map]; omega
  · rw [List.length_append]; exact Nat.le_refl _
def addP (acc ps : Kv) : Kv := ps.foldl (fun a p => putR a p.1 (vl a p.1 + p.2)) acc
theorem addP_fm : ∀ {ps acc : Kv}, Fm acc → (∀ k ∈ kz ps, UK k) → Fm (addP acc ps)
  | [], acc, h, _ => h
  | p :: ps, acc, h, u => addP_fm (ps := ps) (h.put (u _ List.mem_cons_self) _) fun k hk => u k (List.mem_cons_of_mem _ hk)
theorem addP_len : ∀ (ps acc : Kv), (addP acc ps).length ≤ acc.length + ps.length
  | [], acc => Nat.le_refl _
  | p :: ps, acc => by
    have h1 := addP_len ps (putR acc p.1 (vl acc p.1 + p.2))
    have h2 := put_len acc p.1 (vl acc p.1 + p.2)
    show (addP (putR acc p.1 (vl acc p.1 + p.2)) ps).length ≤ _
    rw [List.length_cons]
    omega
theorem vl_addP : ∀ {ps acc : Kv} (k : List Key), (kz ps).Nodup → vl (addP acc ps) k = vl acc k + vl ps k
  | [], acc, k, _ => by show vl acc k = vl acc k + 0; rw [Rat.add_zero]
  | p :: ps, acc, k, nd => by
    obtain ⟨n1, n2⟩ := List.nodup_cons.mp nd
    show vl (addP (putR acc p.1 (vl acc p.1 + p.2)) ps) k = _
    rw [vl_addP k n2, vl_put]
    show _ = vl acc k + (if p.1 = k then p.2 else vl ps k)
    by_cases e : k = p.1
    · rw [if_pos e, if_pos e.symm, e, vl_out n1, Rat.add_zero]
    · rw [if_neg e, if_neg fun z => e z.symm]
def scl (f : Kv) (r : Rat) : Kv := f.map fun p => (p.1, p.2 * r)
theorem kz_scl (f : Kv) (r : Rat) : kz (scl f r) = kz f := by
  unfold scl
  show (f.map _).map _ = _
  rw [List.map_map]
  rfl
theorem vl_scl (r : Rat) (k : List Key) : ∀ f : Kv, vl (scl f r) k = vl f k * r
  | [] => by show (0 : Rat) = 0 * r; rw [Rat.zero_mul]
  | p :: f => by
    show vl ((p.1, p.2 * r) :: scl f r) k = _
    unfold vl
    split
    · rfl
    · exact vl_scl r k f
theorem tok_inj : ∀ {a b : List Key}, PySem.W.keyToksAll (a.map encKey) = PySem.W.keyToksAll (b.map encKey) → a = b
  | [], [], _ => rfl
  | [], k :: b, h => by
    rw [List.map_nil, List.map_cons] at h
    unfold PySem.W.keyToksAll at h
    cases h
  | k :: a, [], h => by
    rw [List.map_nil, List.map_cons] at h
    unfold PySem.W.keyToksAll at h
    cases h
  | k :: a, q :: b, h => by
    rw [List.map_cons, List.map_cons] at h
    unfold PySem.W.keyToksAll at h
    have h := (List.cons.inj h).2
    have e : k = q ∧ PySem.W.keyToksAll (a.map encKey) = PySem.W.keyToksAll (b.map encKey) := by
      cases k with
      | inl i =>
        cases q with
        | inl j => cases (List.cons.inj h).1; exact ⟨rfl, (List.cons.inj h).2⟩
        | inr z => cases (List.cons.inj h).1
      | inr y =>
        cases q with
        | inl j => cases (List.cons.inj h).1
        | inr z =>
          have e1 : y.cps.toList = z.cps.toList := Sum.inr.inj (List.cons.inj h).1
          rw [PySem.W.str_of_cps e1]
          exact ⟨rfl, (List.cons.inj h).2⟩
    rw [e.1, tok_inj e.2]
theorem enc_inj {a b : List Key} (h : PySem.W.keyToks (encKs a) = PySem.W.keyToks (encKs b)) : a = b := by
  unfold encKs PySem.W.keyToks at h
  exact tok_inj h
theorem rank_eq (c x : List Key) : PySem.W.sameRank (PySem.W.dataLe false encKs) c x = decide (x = c) := by
  by_cases e : x = c
  · subst e
    rw [decide_eq_true rfl]
    unfold PySem.W.sameRank PySem.W.dataLe PySem.W.sortLe
    show ((!_) && (!_)) = true
    rw [(listOrd itemOrd).irrefl]
    rfl
  · rw [decide_eq_false e]
    unfold PySem.W.sameRank PySem.W.dataLe PySem.W.sortLe
    show ((!_) && (!_)) = false
    cases h1 : (listOrd itemOrd).blt (PySem.W.keyToks (encKs x)) (PySem.W.keyToks (encKs c)) with
    | true => simp
    | false =>
      cases h2 : (listOrd itemOrd).blt (PySem.W.keyToks (encKs c)) (PySem.W.keyToks (encKs x)) with
      | true => simp
      | false => exact absurd (enc_inj ((listOrd itemOrd).total _ _ h1 h2)) e
theorem le_tot : PySem.W.TotalLe (PySem.W.dataLe false encKs) := PySem.W.sortLe_total _ false _
theorem filt_one {c : List Key} : ∀ {l : List (List Key)}, l.Nodup → l.filter (fun x => decide (x = c)) = if c ∈ l then [c] else []
  | [], _ => by simp
  | x :: l, nd => by
    obtain ⟨n1, n2⟩ := List.nodup_cons.mp nd
    rw [List.filter_cons, filt_one n2]
    by_cases e : x = c
    · subst e
      rw [decide_eq_true rfl, if_pos rfl, if_neg n1, if_pos List.mem_cons_self]
    · rw [decide_eq_false e, if_neg Bool.false_ne_true]
      by_cases m : c ∈ l
      · rw [if_pos m, if_pos (List.mem_cons_of_mem _ m)]
      · rw [if_neg m, if_neg fun z => m ((List.mem_cons.mp z).resolve_left fun z => e z.symm)]
theorem sortKT_of {l m : List (List Key)} (hs : m.Pairwise fun a b => PySem.W.dataLe false encKs a b = true) (nl : l.Nodup) (nm : m.Nodup) (h : ∀ k, k ∈ m ↔ k ∈ l) : m = sortKT l := by
  refine PySem.W.sort_unique le_tot hs fun c => ?_
  have e : PySem.W.sameRank (PySem.W.dataLe false encKs) c = fun x => decide (x = c) := funext fun x => rank_eq c x
  rw [e, filt_one nl, filt_one nm]
  by_cases z : c ∈ l
  · rw [if_pos z, if_pos ((h c).mpr z)]
  · rw [if_neg z, if_neg fun q => z ((h c).mp q)]
theorem sortKT_pw (l : List (List Key)) : (sortKT l).Pairwise fun a b => PySem.W.dataLe false encKs a b = true := PySem.W.sort_pairwise le_tot l
theorem sortKT_nd {l : List (List Key)} (h : l.Nodup) : (sortKT l).Nodup := (sortKT_perm l).nodup_iff.mpr h
theorem mem_sortKT {l : List (List Key)} {k : List Key} : k ∈ sortKT l ↔ k ∈ l := (sortKT_perm l).mem_iff
/-- the pairs, ascending -/
def rowK (f : Kv) : Kv := (sortKT (kz f)).map fun k => (k, vl f k)
def rowD (p : List Key × Rat) : D := .tup [keyTV p.1, fr p.2]
def tupF (f : Kv) : D := .tup ((rowK f).map rowD)
def nzF (f : Kv) : Kv := f.filter fun p => decide (p.2 ≠ 0)
theorem kz_row (f : Kv) : kz (rowK f) = sortKT (kz f) := by
  unfold rowK
  show ((sortKT (kz f)).map _).map _ = _
  rw [List.map_map]
  exact List.map_id _
theorem vl_rows (f : Kv) : ∀ (l : List (List Key)) (k : List Key), vl (l.map fun k => (k, vl f k)) k = if k ∈ l then vl f k else 0
  | [], k => by simp [vl]
  | q :: l, k => by
    show (if q = k then vl f q else vl (l.map fun k => (k, vl f k)) k) = _
    rw [vl_rows f l k]
    by_cases e : q = k
    · rw [if_pos e, if_pos (by rw [e]; exact List.mem_cons_self), e]
    · rw [if_neg e]
      by_cases m : k ∈ l
      · rw [if_pos m, if_pos (List.mem_cons_of_mem _ m)]
      · rw [if_neg m, if_neg fun z => m ((List.mem_cons.mp z).resolve_left fun z => e z.symm)]
theorem vl_row (f : Kv) (k : List Key) : vl (rowK f) k = vl f k := by
  unfold rowK
  rw [vl_rows]
  by_cases m : k ∈ kz f
  · rw [if_pos (mem_sortKT.mpr m)]
  · rw [if_neg fun z => m (mem_sortKT.mp z), vl_out m]
theorem nd_row {f : Kv} (h : Fm f) : (kz (rowK f)).Nodup := by rw [kz_row]; exact sortKT_nd h.nd
theorem uk_row {f : Kv} (h : Fm f) : ∀ k ∈ kz (rowK f), UK k := fun k hk => by rw [kz_row] at hk; exact h.uk k (mem_sortKT.mp hk)
theorem nz_sub (f : Kv) : (kz (nzF f)).Sublist (kz f) := List.filter_sublist.map _
theorem Fm.nz {f : Kv} (h : Fm f) : Fm (nzF f) := ⟨h.nd.sublist (nz_sub f), fun k hk => h.uk k ((nz_sub f).subset hk)⟩
theorem mem_nz {f : Kv} (h : Fm f) {k : List Key} : k ∈ kz (nzF f) ↔ vl f k ≠ 0 := by
  constructor
  · intro hk
    obtain ⟨p, hp, rfl⟩ := List.mem_map.mp hk
    obtain ⟨h1, h2⟩ := List.mem_filter.mp hp
    rw [vl_in h.nd h1]
    exact of_decide_eq_true h2
  · intro hv
    by_cases m : k ∈ kz f
    · obtain ⟨p, hp, rfl⟩ := List.mem_map.mp m
      rw [vl_in h.nd hp] at hv
      exact List.mem_map.mpr ⟨p, List.mem_filter.mpr ⟨hp, decide_eq_true hv⟩, rfl⟩
    · exact absurd (vl_out m) hv
theorem vl_nz {f : Kv} (h : Fm f) (k : List Key) : vl (nzF f) k = vl f k := by
  by_cases m : k ∈ kz (nzF f)
  · obtain ⟨p, hp, rfl⟩ := List.mem_map.mp m
    rw [vl_in h.nz.nd hp, vl_in h.nd (List.mem_filter.mp hp).1]
  · rw [vl_out m]
    by_cases z : vl f k = 0
    · exact z.symm
    · exact absurd ((mem_nz h).mpr z) m
theorem tupF_eq {f g : Kv} (hf : Fm f) (hg : Fm g) (mf : ∀ k, k ∈ kz f ↔ vl f k ≠ 0) (mg : ∀ k, k ∈ kz g ↔ vl g k ≠ 0) (e : ∀ k, vl f k = vl g k) : tupF f = tupF g := by
  have h : sortKT (kz f) = sortKT (kz g) := sortKT_of (sortKT_pw _) hg.nd (sortKT_nd hf.nd) fun k => by rw [mem_sortKT, mf, mg, e]
  unfold tupF rowK
  rw [h]
  have e2 : (fun k => (k, vl f k)) = fun k => (k, vl g k) := funext fun k => by rw [e k]
  rw [e2]
/-- what is left of sorted sums without zeros -/
theorem nz_rows {f : Kv} (h : Fm f) : ((sortKT (kz f)).filter fun k => decide (vl f k ≠ 0)) = sortKT (kz (nzF f)) := by
  refine sortKT_of ((sortKT_pw _).sublist List.filter_sublist) h.nz.nd ((sortKT_nd h.nd).sublist List.filter_sublist) fun k => ?_
  rw [mem_nz h, List.mem_filter, mem_sortKT]
  constructor
  · exact fun z => of_decide_eq_true z.2
  · refine fun z => ⟨?_, decide_eq_true z⟩
    by_cases m : k ∈ kz f
    · exact m
    · exact absurd (vl_out m) z
end Dw
set_option maxHeartbeats 60000
namespace Dw
open PySem PySem.Spec PyProof.Rows L2
variable {K : PySem.W.Frag} {S : Sto} {post : D → Sto → Prop} {xp : Xp} {b : Addr}
abbrev fD (f : Kv) : D := .dT (kz f) (dz f)
theorem wLc_n (ρ : Lc) (t : Tgt) (c : DT) (elt : DE) (acc : List D) (S : Sto) (post : List D → Sto → Prop) (xp : Xp) : wLc ρ t c elt [] acc S post xp = post acc S := by unfold wLc; rfl
theorem wLc_c (ρ : Lc) (t : Tgt) (c : DT) (elt : DE) (d : D) (ds acc : List D) (S : Sto) (post : List D → Sto → Prop) (xp : Xp) : wLc ρ t c elt (d :: ds) acc S post xp = bT t d ρ fun ρ' => c ρ' S (fun b S1 => if b = true then elt ρ' S1 (fun y S2 => wLc ρ t c elt ds (acc ++ [y]) S2 post xp) noX else wLc ρ t c elt ds acc S1 post xp) noX := by rw [wLc]
theorem wLc_enc {α : Type} {ρ : Lc} {i : Nat} {c : DT} {elt : DE} (enc : α → D) (ok : α → Bool) (out : α → D) : ∀ (l : List α) (acc : List D) (post : List D → Sto → Prop), (∀ a ∈ l, ∀ k : Bool → Sto → Prop, k (ok a) S → c (ρ.set i (some (enc a))) S k noX) → (∀ a ∈ l, ok a = true → ∀ k : D → Sto → Prop, k (out a) S → elt (ρ.set i (some (enc a))) S k noX) → post (acc ++ (l.filter ok).map out) S → wLc ρ (.nm i) c elt (l.map enc) acc S post xp
  | [], acc, post, _, _, h => by
    rw [List.map_nil, wLc_n]
    simpa using h
  | d :: ds, acc, post, hc, he, h => by
    rw [List.map_cons, wLc_c, bT_nm]
    refine hc d (List.mem_cons_self ..) _ ?_
    by_cases hp : ok d = true
    · rw [if_pos hp]
      refine he d (List.mem_cons_self ..) hp _ ?_
      refine wLc_enc enc ok out ds (acc ++ [out d]) post (fun d' hd => hc d' (List.mem_cons_of_mem _ hd)) (fun d' hd => he d' (List.mem_cons_of_mem _ hd)) ?_
      rw [List.filter_cons_of_pos hp] at h
      rw [List.append_assoc]
      exact h
    · rw [if_neg hp]
      refine wLc_enc enc ok out ds acc post (fun d' hd => hc d' (List.mem_cons_of_mem _ hd)) (fun d' hd => he d' (List.mem_cons_of_mem _ hd)) ?_
      rw [List.filter_cons_of_neg hp] at h
      exact h
theorem filter_yes {α : Type} (l : List α) : l.filter (fun _ => true) = l := List.filter_eq_self.mpr fun _ _ => rfl
theorem get_at {f : Kv} {d : D} {k : List Key} (u : UK k) (hd : dictT S d = some (kz f, dz f)) (m : k ∈ kz f) (q : post (fr (vl f k)) S) : oGetT d (keyTV k) S post xp := ⟨_, _, _, _, hd, keyT_V u.key, look_in m, q⟩
theorem ev__law_tuple {f : Kv} (h : Fm f) (hl : f.length ≤ 1000) (k : post (tupF f) S) : f__law_tuple K [fD f] S post xp := by
  unfold f__law_tuple u__law_tuple
  try simp -implicitDefEqProofs only [dDef_1_1, dRet_m, dCall_m, dArgs_c, dArgs_n, dLc_m, wipeL_c, wipeL_n, set_1, gTuple_l, cSeq_m, gSortT_m, mSeq_l, gKeysT_m, lstD_l, dVar_m, get_0, mVar_s, dYes_m, dTup_m, dOp_m, oGetT_m, get_1, List.length_cons, List.length_nil, List.cons_append, List.nil_append, Nat.reduceAdd, Nat.reduceSub, Option.some.injEq, exists_eq_left', true_and, and_true, if_true, if_false, Bool.false_eq_true, Bool.true_eq_false, Bool.not_true, Bool.not_false, reduceIte, beq_self_eq_true, decide_true, Bool.or_false, Bool.or_true, Bool.false_or, Bool.true_or, perm1, gTuple_l, lstD_l, oGetT_m, gKeysT_m, gSortT_m]
  refine ⟨_, _, rfl, ?_⟩
  try simp -implicitDefEqProofs only [dDef_1_1, dRet_m, dCall_m, dArgs_c, dArgs_n, dLc_m, wipeL_c, wipeL_n, set_1, gTuple_l, cSeq_m, gSortT_m, mSeq_l, gKeysT_m, lstD_l, dVar_m, get_0, mVar_s, dYes_m, dTup_m, dOp_m, oGetT_m, get_1, List.length_cons, List.length_nil, List.cons_append, List.nil_append, Nat.reduceAdd, Nat.reduceSub, Option.some.injEq, exists_eq_left', true_and, and_true, if_true, if_false, Bool.false_eq_true, Bool.true_eq_false, Bool.not_true, Bool.not_false, reduceIte, beq_self_eq_true, decide_true, Bool.or_false, Bool.or_true, Bool.false_or, Bool.true_or, perm1, gTuple_l, lstD_l, oGetT_m, gKeysT_m, gSortT_m]
  refine ⟨kz f, rfl, fun q hq => (h.uk q hq).key, fun q hq r hr => (h.uk q hq).alike (h.uk r hr), ?_, ?_⟩
  · rw [List.length_map, (sortKT_perm _).length_eq, List.length_map]; exact hl
  refine wLc_enc keyTV (fun _ => true) (fun q => rowD (q, vl f q)) _ _ _ (fun q hq kk hk => ?_) (fun q hq _ kk hk => ?_) ?_
  · try simp -implicitDefEqProofs only [dDef_1_1, dRet_m, dCall_m, dArgs_c, dArgs_n, dLc_m, wipeL_c, wipeL_n, set_1, gTuple_l, cSeq_m, gSortT_m, mSeq_l, gKeysT_m, lstD_l, dVar_m, get_0, mVar_s, dYes_m, dTup_m, dOp_m, oGetT_m, get_1, List.length_cons, List.length_nil, List.cons_append, List.nil_append, Nat.reduceAdd, Nat.reduceSub, Option.some.injEq, exists_eq_left', true_and, and_true, if_true, if_false, Bool.false_eq_true, Bool.true_eq_false, Bool.not_true, Bool.not_false, reduceIte, beq_self_eq_true, decide_true, Bool.or_false, Bool.or_true, Bool.false_or, Bool.true_or, perm1, gTuple_l, lstD_l, oGetT_m, gKeysT_m, gSortT_m]
    exact hk
  · try simp -implicitDefEqProofs only [dDef_1_1, dRet_m, dCall_m, dArgs_c, dArgs_n, dLc_m, wipeL_c, wipeL_n, set_1, gTuple_l, cSeq_m, gSortT_m, mSeq_l, gKeysT_m, lstD_l, dVar_m, get_0, mVar_s, dYes_m, dTup_m, dOp_m, oGetT_m, get_1, List.length_cons, List.length_nil, List.cons_append, List.nil_append, Nat.reduceAdd, Nat.reduceSub, Option.some.injEq, exists_eq_left', true_and, and_true, if_true, if_false, Bool.false_eq_true, Bool.true_eq_false, Bool.not_true, Bool.not_false, reduceIte, beq_self_eq_true, decide_true, Bool.or_false, Bool.or_true, Bool.false_or, Bool.true_or, perm1, gTuple_l, lstD_l, oGetT_m, gKeysT_m, gSortT_m]
    exact get_at (xp := noX) (h.uk q (mem_sortKT.mp hq)) rfl (mem_sortKT.mp hq) hk
  · rw [filter_yes]
    unfold tupF rowK at k
    rw [List.map_map] at k
    exact k
theorem dT_put {p : Addr} {ks : List (List Key)} {ds : List D} : dictT (S.put p (.dT ks ds)) (.val (.ref p)) = some (ks, ds) := by
  unfold dictT
  simp only [put_same]
theorem put_putS {p : Addr} {m m' : MC} : (S.put p m).put p m' = S.put p m' := by
  funext a
  unfold Sto.put
  split <;> rfl
abbrev ptB (K : PySem.W.Frag) : DS := dPutT (dVar 1) (dVar 2) (dCall (f_plus K) [dGetT (dVar 1) (dVar 2) (dPure (fr 0)), dVar 3])
theorem pt_loop {l : D} {p : Addr} {m n : Nat} {P : Pst} {rest : List D} (hmn : m + n ≤ 9000) : ∀ (ps acc : Kv) (s2 s3 : Option D), Fm acc → (∀ k ∈ kz ps, UK k) → (kz ps).Nodup → (∀ k ∈ kz ps, Px.SzR m (vl acc k)) → (∀ q ∈ ps, Px.SzR n q.2) → acc.length + ps.length < 1000 →
    (∀ s2 s3, wFor (.tp [.nm 2, .nm 3]) (ptB K) rest [some l, some (.val (.ref p)), s2, s3] (S.put p (.dT (kz (addP acc ps)) (dz (addP acc ps)))) P) →
    wFor (.tp [.nm 2, .nm 3]) (ptB K) (ps.map rowD ++ rest) [some l, some (.val (.ref p)), s2, s3] (S.put p (.dT (kz acc) (dz acc))) P
  | [], acc, s2, s3, _, _, _, _, _, _, k => k s2 s3
  | q :: ps, acc, s2, s3, hf, hu, nd, hm, hn, hl, k => by
    have ih := pt_loop (l := l) (p := p) (P := P) (rest := rest) hmn ps
    obtain ⟨nx, rt, bk, ct, xp⟩ := P
    obtain ⟨n1, n2⟩ := List.nodup_cons.mp nd
    have uq := hu q.1 List.mem_cons_self
    rw [List.map_cons, List.cons_append]
    unfold rowD ptB
    try simp -implicitDefEqProofs only [wFor_c, dPutT_m, dVar_m, dCall_m, dArgs_c, dArgs_n, dGetT_m, dPure_m, set_2, set_3, get_1, get_2, get_3, mVar_s, List.length_cons, List.length_nil, List.cons_append, List.nil_append, Nat.reduceAdd, Nat.reduceSub, Option.some.injEq, exists_eq_left', true_and, and_true, if_true, if_false, Bool.false_eq_true, Bool.true_eq_false, Bool.not_true, Bool.not_false, reduceIte, beq_self_eq_true, decide_true, Bool.or_false, Bool.or_true, Bool.false_or, Bool.true_or, perm1, dPutT_m, dGetT_m]
    refine bT_tp2 ?_
    try simp -implicitDefEqProofs only [wFor_c, dPutT_m, dVar_m, dCall_m, dArgs_c, dArgs_n, dGetT_m, dPure_m, set_2, set_3, get_1, get_2, get_3, mVar_s, List.length_cons, List.length_nil, List.cons_append, List.nil_append, Nat.reduceAdd, Nat.reduceSub, Option.some.injEq, exists_eq_left', true_and, and_true, if_true, if_false, Bool.false_eq_true, Bool.true_eq_false, Bool.not_true, Bool.not_false, reduceIte, beq_self_eq_true, decide_true, Bool.or_false, Bool.or_true, Bool.false_or, Bool.true_or, perm1, dPutT_m, dGetT_m]
    refine ⟨⟨_, dT_put⟩, _, _, _, dT_put, keyT_V uq.key, ?_⟩
    rw [look_getD]
    refine ev_plus (hm q.1 List.mem_cons_self) (hn q List.mem_cons_self) hmn ?_
    rw [List.length_cons] at hl
    refine ⟨p, _, _, _, rfl, put_same, by rw [List.length_map]; omega, keyT_V uq.key, ?_⟩
    rw [put_putS, put_kz, put_dz]
    refine ih _ _ _ (hf.put uq _) (fun k hk => hu k (List.mem_cons_of_mem _ hk)) n2 (fun k hk => ?_) (fun r hr => hn r (List.mem_cons_of_mem _ hr)) ?_ k
    · rw [vl_put, if_neg fun e => n1 (by show q.1 ∈ ps.map (·.1); rw [← e]; exact hk)]
      exact hm k (List.mem_cons_of_mem _ hk)
    · have := put_len acc q.1 (vl acc q.1 + q.2)
      omega
theorem fm_nil : Fm [] := ⟨List.nodup_nil, fun _ h => by cases h⟩
abbrev sumF (ps qs : Kv) : Kv := addP (addP [] ps) qs
theorem ev_put_together {ps qs : Kv} {m n : Nat} (h1 : 1 ≤ m) (hm : m + n + 1 + n ≤ 9000) (u1 : ∀ k ∈ kz ps, UK k) (u2 : ∀ k ∈ kz qs, UK k) (n1 : (kz ps).Nodup) (n2 : (kz qs).Nodup) (z1 : ∀ q ∈ ps, Px.SzR n q.2) (z2 : ∀ q ∈ qs, Px.SzR n q.2) (hl : ps.length + qs.length < 1000)
    (k : post (tupF (nzF (sumF ps qs))) S) : f_put_together K [.lst (ps.map rowD ++ qs.map rowD)] S post xp := by
  have hA1 := addP_fm (acc := []) fm_nil u1
  have hA := addP_fm hA1 u2
  have l1 := addP_len ps []
  have l2 := addP_len qs (addP [] ps)
  rw [List.length_nil] at l1
  unfold f_put_together u_put_together
  try simp -implicitDefEqProofs only [g_ZERO, fr_0, dDef_1_3, dSeq_m, dRet_m, dCall_m, dArgs_c, dArgs_n, dLc_m, wipeL_c, wipeL_n, gTuple_l, cSeq_m, gSortT_m, mSeq_l, gKeysT_m, lstD_l, dVar_m, dFrzT_m, dFor_m, dSet_m, set_1, get_0, mVar_s, dDictT_m, wFor_n, get_1, set_2, dtVal_m, dOp_m, oNe_m, mBl_b, dPure_m, okEq_fr, oGetT_m, get_2, eqD_fr, dTup_m, List.length_cons, List.length_nil, List.cons_append, List.nil_append, Nat.reduceAdd, Nat.reduceSub, Option.some.injEq, exists_eq_left', true_and, and_true, if_true, if_false, Bool.false_eq_true, Bool.true_eq_false, Bool.not_true, Bool.not_false, reduceIte, beq_self_eq_true, decide_true, Bool.or_false, Bool.or_true, Bool.false_or, Bool.true_or, perm1, gTuple_l, lstD_l, dDictT_m, oGetT_m, gKeysT_m, gSortT_m, dFrzT_m]
  intro p hp
  have hv : ∀ k, vl (addP [] ps) k = vl ps k := fun k => by rw [vl_addP k n1]; show 0 + _ = _; rw [Rat.zero_add]
  refine pt_loop (m := m) (n := n) (by omega) ps [] none none fm_nil u1 n1 (fun _ _ => ⟨by show (0 : Int).natAbs < 2 ^ m; exact Nat.two_pow_pos _, by show (1 : Int).natAbs < 2 ^ m; exact Nat.lt_of_lt_of_le (by decide : 1 < 2 ^ 1) (Nat.pow_le_pow_right (by decide) h1)⟩) z1 (by rw [List.length_nil]; omega) (fun s2 s3 => ?_)
  have e : qs.map rowD = qs.map rowD ++ [] := (List.append_nil _).symm
  rw [e]
  refine pt_loop (m := m + n + 1) (n := n) (by omega) qs (addP [] ps) s2 s3 hA1 u2 n2 (fun k hk => ?_) z2 (by omega) (fun s2 s3 => ?_)
  · rw [hv]
    by_cases mk : k ∈ kz ps
    · obtain ⟨q, hq, rfl⟩ := List.mem_map.mp mk
      rw [vl_in n1 hq]
      exact (z1 q hq).mono (by omega)
    · rw [vl_out mk]
      exact ⟨by show (0 : Int).natAbs < 2 ^ _; exact Nat.two_pow_pos _, by show (1 : Int).natAbs < 2 ^ _; exact Nat.lt_of_lt_of_le (by decide : 1 < 2 ^ 1) (Nat.pow_le_pow_right (by decide) (by omega))⟩
  · try simp -implicitDefEqProofs only [g_ZERO, fr_0, dDef_1_3, dSeq_m, dRet_m, dCall_m, dArgs_c, dArgs_n, dLc_m, wipeL_c, wipeL_n, gTuple_l, cSeq_m, gSortT_m, mSeq_l, gKeysT_m, lstD_l, dVar_m, dFrzT_m, dFor_m, dSet_m, set_1, get_0, mVar_s, dDictT_m, wFor_n, get_1, set_2, dtVal_m, dOp_m, oNe_m, mBl_b, dPure_m, okEq_fr, oGetT_m, get_2, eqD_fr, dTup_m, List.length_cons, List.length_nil, List.cons_append, List.nil_append, Nat.reduceAdd, Nat.reduceSub, Option.some.injEq, exists_eq_left', true_and, and_true, if_true, if_false, Bool.false_eq_true, Bool.true_eq_false, Bool.not_true, Bool.not_false, reduceIte, beq_self_eq_true, decide_true, Bool.or_false, Bool.or_true, Bool.false_or, Bool.true_or, perm1, gTuple_l, lstD_l, dDictT_m, oGetT_m, gKeysT_m, gSortT_m, dFrzT_m]
    refine ⟨p, _, _, rfl, put_same, ?_⟩
    rw [put_del hp]
    try simp -implicitDefEqProofs only [g_ZERO, fr_0, dDef_1_3, dSeq_m, dRet_m, dCall_m, dArgs_c, dArgs_n, dLc_m, wipeL_c, wipeL_n, gTuple_l, cSeq_m, gSortT_m, mSeq_l, gKeysT_m, lstD_l, dVar_m, dFrzT_m, dFor_m, dSet_m, set_1, get_0, mVar_s, dDictT_m, wFor_n, get_1, set_2, dtVal_m, dOp_m, oNe_m, mBl_b, dPure_m, okEq_fr, oGetT_m, get_2, eqD_fr, dTup_m, List.length_cons, List.length_nil, List.cons_append, List.nil_append, Nat.reduceAdd, Nat.reduceSub, Option.some.injEq, exists_eq_left', true_and, and_true, if_true, if_false, Bool.false_eq_true, Bool.true_eq_false, Bool.not_true, Bool.not_false, reduceIte, beq_self_eq_true, decide_true, Bool.or_false, Bool.or_true, Bool.false_or, Bool.true_or, perm1, gTuple_l, lstD_l, dDictT_m, oGetT_m, gKeysT_m, gSortT_m, dFrzT_m]
    refine ⟨_, _, rfl, kz (sumF ps qs), rfl, fun q hq => (hA.uk q hq).key, fun q hq r hr => (hA.uk q hq).alike (hA.uk r hr), ?_, ?_⟩
    · rw [List.length_map, (sortKT_perm _).length_eq, List.length_map]
      have : (sumF ps qs).length ≤ _ := l2
      omega
    refine wLc_enc keyTV (fun q => decide (vl (sumF ps qs) q ≠ 0)) (fun q => rowD (q, vl (sumF ps qs) q)) _ _ _ (fun q hq kk hk => ?_) (fun q hq _ kk hk => ?_) ?_
    · try simp -implicitDefEqProofs only [g_ZERO, fr_0, dDef_1_3, dSeq_m, dRet_m, dCall_m, dArgs_c, dArgs_n, dLc_m, wipeL_c, wipeL_n, gTuple_l, cSeq_m, gSortT_m, mSeq_l, gKeysT_m, lstD_l, dVar_m, dFrzT_m, dFor_m, dSet_m, set_1, get_0, mVar_s, dDictT_m, wFor_n, get_1, set_2, dtVal_m, dOp_m, oNe_m, mBl_b, dPure_m, okEq_fr, oGetT_m, get_2, eqD_fr, dTup_m, List.length_cons, List.length_nil, List.cons_append, List.nil_append, Nat.reduceAdd, Nat.reduceSub, Option.some.injEq, exists_eq_left', true_and, and_true, if_true, if_false, Bool.false_eq_true, Bool.true_eq_false, Bool.not_true, Bool.not_false, reduceIte, beq_self_eq_true, decide_true, Bool.or_false, Bool.or_true, Bool.false_or, Bool.true_or, perm1, gTuple_l, lstD_l, dDictT_m, oGetT_m, gKeysT_m, gSortT_m, dFrzT_m]
      refine ⟨_, _, _, _, rfl, keyT_V (hA.uk q (mem_sortKT.mp hq)).key, look_in (mem_sortKT.mp hq), okEq_fr _, ?_⟩
      rw [eqD_fr]
      have hk' : kk (decide (¬ vl (sumF ps qs) q = 0)) S := hk
      rw [decide_not] at hk'
      exact hk'
    · try simp -implicitDefEqProofs only [g_ZERO, fr_0, dDef_1_3, dSeq_m, dRet_m, dCall_m, dArgs_c, dArgs_n, dLc_m, wipeL_c, wipeL_n, gTuple_l, cSeq_m, gSortT_m, mSeq_l, gKeysT_m, lstD_l, dVar_m, dFrzT_m, dFor_m, dSet_m, set_1, get_0, mVar_s, dDictT_m, wFor_n, get_1, set_2, dtVal_m, dOp_m, oNe_m, mBl_b, dPure_m, okEq_fr, oGetT_m, get_2, eqD_fr, dTup_m, List.length_cons, List.length_nil, List.cons_append, List.nil_append, Nat.reduceAdd, Nat.reduceSub, Option.some.injEq, exists_eq_left', true_and, and_true, if_true, if_false, Bool.false_eq_true, Bool.true_eq_false, Bool.not_true, Bool.not_false, reduceIte, beq_self_eq_true, decide_true, Bool.or_false, Bool.or_true, Bool.false_or, Bool.true_or, perm1, gTuple_l, lstD_l, dDictT_m, oGetT_m, gKeysT_m, gSortT_m, dFrzT_m]
      exact get_at (xp := noX) (hA.uk q (mem_sortKT.mp hq)) rfl (mem_sortKT.mp hq) hk
    · rw [nz_rows hA]
      unfold tupF rowK at k
      rw [List.map_map] at k
      have e2 : (rowD ∘ fun k => (k, vl (nzF (sumF ps qs)) k)) = fun q => rowD (q, vl (sumF ps qs) q) := funext fun q => by
        show rowD (q, vl (nzF (sumF ps qs)) q) = _
        rw [vl_nz hA]
      rw [e2] at k
      exact k
end Dw
set_option maxHeartbeats 60000
namespace Dw
open PySem PySem.Spec PyProof.Rows L2
variable {K : PySem.W.Frag} {S : Sto} {post : D → Sto → Prop} {xp : Xp} {b : Addr}
theorem mx_in {x0 x2 : Option D} {w : Rat} {p : Addr} {q : Sto → Prop} {m n : Nat} (hw : Px.SzR m w) (hmn : n + m ≤ 9000) : ∀ (l : Kv) (acc : List D), (∀ r ∈ l, Px.SzR n r.2) → acc.length + l.length < 4000 → q (S.put p (.lst (acc ++ (scl l w).map rowD))) →
    wLi [x0, some (fr w), x2, none, none] (.tp [.nm 3, .nm 4]) (dTup [(dVar 3), (dCall (f_times K) [(dVar 4), (dVar 1)])]) p (l.map rowD) (S.put p (.lst acc)) q
  | [], acc, _, _, k => by
    rw [List.map_nil, wLi_n]
    have e : acc ++ (scl [] w).map rowD = acc := List.append_nil _
    rw [e] at k
    exact k
  | r :: l, acc, hz, hl, k => by
    rw [List.map_cons, wLi_c]
    rw [List.length_cons] at hl
    unfold rowD
    refine bT_tp2 ?_
    try simp -implicitDefEqProofs only [set_3, set_4, dTup_m, dArgs_c, dArgs_n, dCall_m, dVar_m, get_1, mVar_s, get_4, get_3, List.length_cons, List.length_nil, List.cons_append, List.nil_append, Nat.reduceAdd, Nat.reduceSub, Option.some.injEq, exists_eq_left', true_and, and_true, if_true, if_false, Bool.false_eq_true, Bool.true_eq_false, Bool.not_true, Bool.not_false, reduceIte, beq_self_eq_true, decide_true, Bool.or_false, Bool.or_true, Bool.false_or, Bool.true_or, perm1]
    refine ev_times (hz r List.mem_cons_self) hw hmn ?_
    refine ⟨acc, put_same, by omega, ?_⟩
    rw [put_putS]
    have e : acc ++ (scl (r :: l) w).map rowD = acc ++ [rowD (r.1, r.2 * w)] ++ (scl l w).map rowD := by rw [List.append_assoc]; rfl
    rw [e] at k
    exact mx_in hw hmn l (acc ++ [rowD (r.1, r.2 * w)]) (fun s hs => hz s (List.mem_cons_of_mem _ hs)) (by rw [List.length_append, List.length_singleton]; omega) k
theorem mSeq_tupF (f : Kv) (k : List D → Prop) : mSeq (tupF f) k = k ((rowK f).map rowD) := by exact id rfl
theorem row_len (f : Kv) : (rowK f).length = f.length := by
  unfold rowK
  rw [List.length_map, (sortKT_perm _).length_eq, List.length_map]
theorem row_sz {f : Kv} {n : Nat} (h : Fm f) (hz : ∀ r ∈ f, Px.SzR n r.2) : ∀ r ∈ rowK f, Px.SzR n r.2 := fun r hr => by
  unfold rowK at hr
  obtain ⟨k, hk, rfl⟩ := List.mem_map.mp hr
  obtain ⟨p, hp, rfl⟩ := List.mem_map.mp (mem_sortKT.mp hk)
  show Px.SzR n (vl f p.1)
  rw [vl_in h.nd hp]
  exact hz p hp
theorem scl_sz {f : Kv} {w : Rat} {n m : Nat} (hw : Px.SzR m w) (hz : ∀ r ∈ f, Px.SzR n r.2) : ∀ r ∈ scl f w, Px.SzR (n + m) r.2 := fun r hr => by
  unfold scl at hr
  obtain ⟨p, hp, rfl⟩ := List.mem_map.mp hr
  exact Px.szr_mul (hz p hp) hw (Nat.le_refl _)
theorem scl_len (f : Kv) (w : Rat) : (scl f w).length = f.length := by unfold scl; rw [List.length_map]
theorem ev_mix2 {f g : Kv} {v w : Rat} {n m : Nat} (hf : Fm f) (hg : Fm g) (zf : ∀ r ∈ f, Px.SzR n r.2) (zg : ∀ r ∈ g, Px.SzR n r.2) (hv : Px.SzR m v) (hw : Px.SzR m w) (hm : 3 * (n + m) + 2 ≤ 9000) (hl : f.length + g.length < 1000)
    (k : post (tupF (nzF (sumF (scl (rowK f) v) (scl (rowK g) w)))) S) : f_mixture K [.lst [.tup [fr v, tupF f], .tup [fr w, tupF g]]] S post xp := by
  unfold f_mixture u_mixture
  try simp -implicitDefEqProofs only [dDef_1_4, dRet_m, dCall_m, dArgs_c, dArgs_n, dLc2_m, dLc2M_m, wipeL_c, wipeL_n, set_4, set_3, set_2, set_1, cSeq_m, dVar_m, get_0, mVar_s, mSeq_l, get_2, List.length_cons, List.length_nil, List.cons_append, List.nil_append, Nat.reduceAdd, Nat.reduceSub, Option.some.injEq, exists_eq_left', true_and, and_true, if_true, if_false, Bool.false_eq_true, Bool.true_eq_false, Bool.not_true, Bool.not_false, reduceIte, beq_self_eq_true, decide_true, Bool.or_false, Bool.or_true, Bool.false_or, Bool.true_or, perm1, dLc2M_m, dLc2_m]
  refine ⟨by simp, ?_⟩
  intro p hp
  rw [wLo_c]
  refine bT_tp2 ?_
  try simp -implicitDefEqProofs only [dDef_1_4, dRet_m, dCall_m, dArgs_c, dArgs_n, dLc2_m, dLc2M_m, wipeL_c, wipeL_n, set_4, set_3, set_2, set_1, cSeq_m, dVar_m, get_0, mVar_s, mSeq_l, get_2, List.length_cons, List.length_nil, List.cons_append, List.nil_append, Nat.reduceAdd, Nat.reduceSub, Option.some.injEq, exists_eq_left', true_and, and_true, if_true, if_false, Bool.false_eq_true, Bool.true_eq_false, Bool.not_true, Bool.not_false, reduceIte, beq_self_eq_true, decide_true, Bool.or_false, Bool.or_true, Bool.false_or, Bool.true_or, perm1, dLc2M_m, dLc2_m, mSeq_tupF]
  refine ⟨by rw [List.length_map, row_len]; omega, ?_⟩
  refine mx_in (n := n) (m := m) hv (by omega) _ _ (row_sz hf zf) (by rw [List.length_nil, row_len]; omega) ?_
  rw [wLo_c]
  refine bT_tp2 ?_
  try simp -implicitDefEqProofs only [dDef_1_4, dRet_m, dCall_m, dArgs_c, dArgs_n, dLc2_m, dLc2M_m, wipeL_c, wipeL_n, set_4, set_3, set_2, set_1, cSeq_m, dVar_m, get_0, mVar_s, mSeq_l, get_2, List.length_cons, List.length_nil, List.cons_append, List.nil_append, Nat.reduceAdd, Nat.reduceSub, Option.some.injEq, exists_eq_left', true_and, and_true, if_true, if_false, Bool.false_eq_true, Bool.true_eq_false, Bool.not_true, Bool.not_false, reduceIte, beq_self_eq_true, decide_true, Bool.or_false, Bool.or_true, Bool.false_or, Bool.true_or, perm1, dLc2M_m, dLc2_m, mSeq_tupF]
  refine ⟨by rw [List.length_map, row_len]; omega, ?_⟩
  refine mx_in (n := n) (m := m) hw (by omega) _ _ (row_sz hg zg) (by rw [List.length_map, scl_len, row_len, row_len]; omega) ?_
  rw [wLo_n]
  unfold frz
  simp only [put_same]
  rw [put_del hp]
  refine ev_put_together (m := n + m) (n := n + m) ?_ (by omega) ?_ ?_ ?_ ?_ (scl_sz hv (row_sz hf zf)) (scl_sz hw (row_sz hg zg)) (by rw [scl_len, scl_len, row_len, row_len]; omega) k
  · have := szone hv
    omega
  · rw [kz_scl]; exact uk_row hf
  · rw [kz_scl]; exact uk_row hg
  · rw [kz_scl]; exact nd_row hf
  · rw [kz_scl]; exact nd_row hg
theorem ev_mix1 {f : Kv} {v : Rat} {n m : Nat} (hf : Fm f) (zf : ∀ r ∈ f, Px.SzR n r.2) (hv : Px.SzR m v) (hm : 3 * (n + m) + 2 ≤ 9000) (hl : f.length < 1000)
    (k : post (tupF (nzF (sumF (scl (rowK f) v) []))) S) : f_mixture K [.lst [.tup [fr v, tupF f]]] S post xp := by
  unfold f_mixture u_mixture
  try simp -implicitDefEqProofs only [dDef_1_4, dRet_m, dCall_m, dArgs_c, dArgs_n, dLc2_m, dLc2M_m, wipeL_c, wipeL_n, set_4, set_3, set_2, set_1, cSeq_m, dVar_m, get_0, mVar_s, mSeq_l, get_2, List.length_cons, List.length_nil, List.cons_append, List.nil_append, Nat.reduceAdd, Nat.reduceSub, Option.some.injEq, exists_eq_left', true_and, and_true, if_true, if_false, Bool.false_eq_true, Bool.true_eq_false, Bool.not_true, Bool.not_false, reduceIte, beq_self_eq_true, decide_true, Bool.or_false, Bool.or_true, Bool.false_or, Bool.true_or, perm1, dLc2M_m, dLc2_m]
  refine ⟨by simp, ?_⟩
  intro p hp
  rw [wLo_c]
  refine bT_tp2 ?_
  try simp -implicitDefEqProofs only [dDef_1_4, dRet_m, dCall_m, dArgs_c, dArgs_n, dLc2_m, dLc2M_m, wipeL_c, wipeL_n, set_4, set_3, set_2, set_1, cSeq_m, dVar_m, get_0, mVar_s, mSeq_l, get_2, List.length_cons, List.length_nil, List.cons_append, List.nil_append, Nat.reduceAdd, Nat.reduceSub, Option.some.injEq, exists_eq_left', true_and, and_true, if_true, if_false, Bool.false_eq_true, Bool.true_eq_false, Bool.not_true, Bool.not_false, reduceIte, beq_self_eq_true, decide_true, Bool.or_false, Bool.or_true, Bool.false_or, Bool.true_or, perm1, dLc2M_m, dLc2_m, mSeq_tupF]
  refine ⟨by rw [List.length_map, row_len]; omega, ?_⟩
  refine mx_in (n := n) (m := m) hv (by omega) _ _ (row_sz hf zf) (by rw [List.length_nil, row_len]; omega) ?_
  rw [wLo_n]
  unfold frz
  simp only [put_same]
  rw [put_del hp, List.nil_append]
  have e : (scl (rowK f) v).map rowD = (scl (rowK f) v).map rowD ++ ([] : Kv).map rowD := (List.append_nil _).symm
  rw [e]
  refine ev_put_together (m := n + m) (n := n + m) ?_ (by omega) ?_ (fun _ h => by cases h) ?_ List.nodup_nil (scl_sz hv (row_sz hf zf)) (fun _ h => by cases h) (by rw [scl_len, row_len, List.length_nil]; omega) k
  · have := szone hv
    omega
  · rw [kz_scl]; exact uk_row hf
  · rw [kz_scl]; exact nd_row hf
theorem sz1 : Px.SzR 1 (1 : Rat) := Px.szr_lit 1 1
theorem ev_form_plus {f g : Kv} {n : Nat} (hf : Fm f) (hg : Fm g) (zf : ∀ r ∈ f, Px.SzR n r.2) (zg : ∀ r ∈ g, Px.SzR n r.2) (hm : 3 * (n + 1) + 2 ≤ 9000) (hl : f.length + g.length < 1000)
    (k : post (tupF (nzF (sumF (scl (rowK f) 1) (scl (rowK g) 1)))) S) : f_form_plus K [tupF f, tupF g] S post xp := by
  unfold f_form_plus u_form_plus
  try simp -implicitDefEqProofs only [g_ONE, fr_1, dDef_2_0, dRet_m, dCall_m, dArgs_c, dArgs_n, dLst_m, dTup_m, dVar_m, get_1, mVar_s, dPure_m, get_0, List.length_cons, List.length_nil, List.cons_append, List.nil_append, Nat.reduceAdd, Nat.reduceSub, Option.some.injEq, exists_eq_left', true_and, and_true, if_true, if_false, Bool.false_eq_true, Bool.true_eq_false, Bool.not_true, Bool.not_false, reduceIte, beq_self_eq_true, decide_true, Bool.or_false, Bool.or_true, Bool.false_or, Bool.true_or, perm1]
  exact ev_mix2 hf hg zf zg sz1 sz1 hm hl k
theorem ev_form_times {f : Kv} {v : Rat} {n m : Nat} (hf : Fm f) (zf : ∀ r ∈ f, Px.SzR n r.2) (hv : Px.SzR m v) (hm : 3 * (n + m) + 2 ≤ 9000) (hl : f.length < 1000)
    (k : post (tupF (nzF (sumF (scl (rowK f) v) []))) S) : f_form_times K [tupF f, fr v] S post xp := by
  unfold f_form_times u_form_times
  try simp -implicitDefEqProofs only [dDef_2_0, dRet_m, dCall_m, dArgs_c, dArgs_n, dLst_m, dTup_m, dVar_m, get_0, mVar_s, get_1, List.length_cons, List.length_nil, List.cons_append, List.nil_append, Nat.reduceAdd, Nat.reduceSub, Option.some.injEq, exists_eq_left', true_and, and_true, if_true, if_false, Bool.false_eq_true, Bool.true_eq_false, Bool.not_true, Bool.not_false, reduceIte, beq_self_eq_true, decide_true, Bool.or_false, Bool.or_true, Bool.false_or, Bool.true_or, perm1]
  exact ev_mix1 hf zf hv hm hl k
theorem vl_sum {ps qs : Kv} (n1 : (kz ps).Nodup) (n2 : (kz qs).Nodup) (k : List Key) : vl (sumF ps qs) k = vl ps k + vl qs k := by
  unfold sumF
  rw [vl_addP k n2, vl_addP k n1]
  show 0 + _ + _ = _
  rw [Rat.zero_add]
end Dw
set_option maxHeartbeats 60000
namespace Dw
open PySem PySem.Spec PyProof.Rows L2
variable {K : PySem.W.Frag} {S : Sto} {post : D → Sto → Prop} {xp : Xp} {b : Addr}
abbrev jnB (K : PySem.W.Frag) : DS := dPutT (dVar 1) (dVar 4) (dCall (f__law_plus K) [(dGetT (dVar 1) (dVar 4) (dTup [(dPure (.int 0)), (dPure (.int 1))])), (dCall (f__law_times K) [(dOp oGetT (dVar 2) (dVar 4)), (dVar 3)])])
theorem jn_in {x0 : Option D} {p : Addr} {f : Kv} {r : Rat} {P : Pst} {m n s : Nat} (hF : Fm f) (zf : ∀ q ∈ f, Px.SzR n q.2) (hr : Px.SzR s r) (hmn : m + (n + s) ≤ 9000) : ∀ (l acc : Kv) (s4 : Option D), Fm acc → (∀ q ∈ l, q ∈ f) → (kz l).Nodup → (∀ k ∈ kz l, Px.SzR m (vl acc k)) → acc.length + l.length < 1000 →
    (∀ s4, P.nx [x0, some (.val (.ref p)), some (fD f), some (fr r), s4] (S.put p (.dT (kz (addP acc (scl l r))) (dz (addP acc (scl l r)))))) →
    wFor (.nm 4) (jnB K) ((kz l).map keyTV) [x0, some (.val (.ref p)), some (fD f), some (fr r), s4] (S.put p (.dT (kz acc) (dz acc))) P
  | [], acc, s4, _, _, _, _, _, k => k s4
  | q :: l, acc, s4, hA, hs, nd, hm, hl, k => by
    have ih := jn_in (x0 := x0) (p := p) (P := P) (m := m) hF zf hr hmn l
    obtain ⟨nx, rt, bk, ct, xp⟩ := P
    obtain ⟨n1, n2⟩ := List.nodup_cons.mp nd
    have hq := hs q List.mem_cons_self
    have mq : q.1 ∈ kz f := List.mem_map_of_mem hq
    have uq := hF.uk q.1 mq
    have eq := vl_in hF.nd hq
    show wFor (.nm 4) (jnB K) (keyTV q.1 :: (kz l).map keyTV) _ _ _
    unfold jnB
    try simp -implicitDefEqProofs only [wFor_c, dPutT_m, dVar_m, dCall_m, dArgs_c, dArgs_n, dOp_m, oGetT_m, dGetT_m, dTup_m, dPure_m, fr_0, bT_nm, set_4, get_1, get_4, get_2, get_3, mVar_s, List.length_cons, List.length_nil, List.cons_append, List.nil_append, Nat.reduceAdd, Nat.reduceSub, Option.some.injEq, exists_eq_left', true_and, and_true, if_true, if_false, Bool.false_eq_true, Bool.true_eq_false, Bool.not_true, Bool.not_false, reduceIte, beq_self_eq_true, decide_true, Bool.or_false, Bool.or_true, Bool.false_or, Bool.true_or, perm1, dPutT_m, oGetT_m, dGetT_m]
    refine ⟨⟨_, dT_put⟩, _, _, _, dT_put, keyT_V uq.key, ?_⟩
    rw [look_getD]
    refine ⟨_, _, _, _, rfl, keyT_V uq.key, look_in mq, ?_⟩
    rw [eq]
    refine ev__law_times (zf q hq) hr (by omega) ?_
    try simp -implicitDefEqProofs only [wFor_c, dPutT_m, dVar_m, dCall_m, dArgs_c, dArgs_n, dOp_m, oGetT_m, dGetT_m, dTup_m, dPure_m, fr_0, bT_nm, set_4, get_1, get_4, get_2, get_3, mVar_s, List.length_cons, List.length_nil, List.cons_append, List.nil_append, Nat.reduceAdd, Nat.reduceSub, Option.some.injEq, exists_eq_left', true_and, and_true, if_true, if_false, Bool.false_eq_true, Bool.true_eq_false, Bool.not_true, Bool.not_false, reduceIte, beq_self_eq_true, decide_true, Bool.or_false, Bool.or_true, Bool.false_or, Bool.true_or, perm1, dPutT_m, oGetT_m, dGetT_m]
    refine ev__law_plus (hm q.1 List.mem_cons_self) (Px.szr_mul (zf q hq) hr (Nat.le_refl _)) hmn ?_
    rw [List.length_cons] at hl
    refine ⟨p, _, _, _, rfl, put_same, by rw [List.length_map]; omega, keyT_V uq.key, ?_⟩
    rw [put_putS, put_kz, put_dz]
    refine ih _ _ (hA.put uq _) (fun t ht => hs t (List.mem_cons_of_mem _ ht)) n2 (fun k hk => ?_) ?_ k
    · rw [vl_put, if_neg fun e => n1 (by show q.1 ∈ l.map (·.1); rw [← e]; exact hk)]
      exact hm k (List.mem_cons_of_mem _ hk)
    · have := put_len acc q.1 (vl acc q.1 + q.2 * r)
      omega
theorem vl_sz {f : Kv} {n : Nat} (h1 : 1 ≤ n) (zf : ∀ q ∈ f, Px.SzR n q.2) (k : List Key) : Px.SzR n (vl f k) := by
  induction f with
  | nil => exact ⟨by show (0 : Int).natAbs < 2 ^ n; exact Nat.two_pow_pos _, by show (1 : Int).natAbs < 2 ^ n; exact Nat.lt_of_lt_of_le (by decide : 1 < 2 ^ 1) (Nat.pow_le_pow_right (by decide) h1)⟩
  | cons q f ih =>
    rw [vl_c]
    split
    · exact zf q List.mem_cons_self
    · exact ih fun r hr => zf r (List.mem_cons_of_mem _ hr)
/-- the pairs that are left of sums -/
theorem left_keys {A : Kv} (h : Fm A) : ((kz A).filter fun q => decide (vl A q ≠ 0)) = kz (nzF A) := by
  show ((A.map (·.1)).filter _) = (A.filter _).map (·.1)
  rw [List.filter_map]
  congr 1
  refine List.filter_congr fun q hq => ?_
  show decide (vl A q.1 ≠ 0) = decide (q.2 ≠ 0)
  rw [vl_in h.nd hq]
theorem left_rows {A : Kv} (h : Fm A) : (((kz A).filter fun q => decide (vl A q ≠ 0)).map fun q => rowD (q, vl A q)) = ((nzF A).map fun p => (p.1, fr p.2)).map pairT := by
  rw [left_keys h, List.map_map, List.map_map]
  refine List.map_congr_left fun q hq => ?_
  show rowD (q.1, vl A q.1) = rowD q
  rw [vl_in h.nd (List.mem_filter.mp hq).1]
theorem nz_len (A : Kv) : (nzF A).length ≤ A.length := List.length_filter_le _ _
theorem ev_left {A : Kv} {x0 x2 x3 : Option D} (h : Fm A) (hl : A.length ≤ 1000) (k : post (fD (nzF A)) S) :
    wLc [x0, some (fD A), x2, x3, none] (.nm 4) (dtVal (dOp oNe (dOp oGetT (dVar 1) (dVar 4)) (dTup [(dPure (.int 0)), (dPure (.int 1))]))) (dTup [(dVar 4), (dOp oGetT (dVar 1) (dVar 4))]) ((kz A).map keyTV) [] S (fun acc S2 => ∃ kvs : List (List Key × D), acc = kvs.map pairT ∧ (∀ p ∈ kvs, keyishK p.1 = true) ∧ (kvs.map (fun x => x.1)).Nodup ∧ kvs.length ≤ 1000 ∧ post (.dT (kvs.map (fun x => x.1)) (kvs.map (fun x => x.2))) S2) xp := by
  refine wLc_enc keyTV (fun q => decide (vl A q ≠ 0)) (fun q => rowD (q, vl A q)) _ _ _ (fun q hq kk hk => ?_) (fun q hq _ kk hk => ?_) ?_
  · try simp -implicitDefEqProofs only [set_4, dtVal_m, dOp_m, oNe_m, mBl_b, dTup_m, dArgs_c, dArgs_n, dPure_m, fr_0, okEq_fr, oGetT_m, dVar_m, get_4, mVar_s, get_1, eqD_fr, List.length_cons, List.length_nil, List.cons_append, List.nil_append, Nat.reduceAdd, Nat.reduceSub, Option.some.injEq, exists_eq_left', true_and, and_true, if_true, if_false, Bool.false_eq_true, Bool.true_eq_false, Bool.not_true, Bool.not_false, reduceIte, beq_self_eq_true, decide_true, Bool.or_false, Bool.or_true, Bool.false_or, Bool.true_or, perm1, oGetT_m]
    refine ⟨_, _, _, _, rfl, keyT_V (h.uk q hq).key, look_in hq, okEq_fr _, ?_⟩
    rw [eqD_fr]
    have hk' : kk (decide (¬ vl A q = 0)) S := hk
    rw [decide_not] at hk'
    exact hk'
  · try simp -implicitDefEqProofs only [set_4, dtVal_m, dOp_m, oNe_m, mBl_b, dTup_m, dArgs_c, dArgs_n, dPure_m, fr_0, okEq_fr, oGetT_m, dVar_m, get_4, mVar_s, get_1, eqD_fr, List.length_cons, List.length_nil, List.cons_append, List.nil_append, Nat.reduceAdd, Nat.reduceSub, Option.some.injEq, exists_eq_left', true_and, and_true, if_true, if_false, Bool.false_eq_true, Bool.true_eq_false, Bool.not_true, Bool.not_false, reduceIte, beq_self_eq_true, decide_true, Bool.or_false, Bool.or_true, Bool.false_or, Bool.true_or, perm1, oGetT_m]
    exact get_at (xp := noX) (h.uk q hq) rfl hq hk
  · rw [List.nil_append, left_rows h]
    refine ⟨(nzF A).map fun p => (p.1, fr p.2), rfl, fun p hp => ?_, ?_, ?_, ?_⟩
    · obtain ⟨q, hq, rfl⟩ := List.mem_map.mp hp
      exact (h.nz.uk q.1 (List.mem_map_of_mem hq)).key
    · rw [List.map_map]; exact h.nz.nd
    · rw [List.length_map]; exact Nat.le_trans (nz_len A) hl
    · rw [List.map_map, List.map_map]; exact k
theorem ev_join2 {f g : Kv} {v w : Rat} {n m : Nat} (hf : Fm f) (hg : Fm g) (zf : ∀ r ∈ f, Px.SzR n r.2) (zg : ∀ r ∈ g, Px.SzR n r.2) (hv : Px.SzR m v) (hw : Px.SzR m w) (hm : 3 * (n + m) + 2 ≤ 9000) (hl : f.length + g.length < 1000)
    (k : post (fD (nzF (sumF (scl f v) (scl g w)))) S) : f__law_join K [.lst [.tup [fD f, fr v], .tup [fD g, fr w]]] S post xp := by
  have u1 : ∀ k ∈ kz (scl f v), UK k := by rw [kz_scl]; exact hf.uk
  have u2 : ∀ k ∈ kz (scl g w), UK k := by rw [kz_scl]; exact hg.uk
  have hA1 := addP_fm (acc := []) fm_nil u1
  have hA := addP_fm hA1 u2
  have l1 := addP_len (scl f v) []
  have l2 := addP_len (scl g w) (addP [] (scl f v))
  rw [List.length_nil, scl_len] at l1
  rw [scl_len] at l2
  have n1 : (kz (scl f v)).Nodup := by rw [kz_scl]; exact hf.nd
  have hv1 := szone hv
  unfold f__law_join u__law_join
  try simp -implicitDefEqProofs only [dDef_1_4, dSeq_m, dRet_m, dCall_m, dArgs_c, dArgs_n, gDictT_m, dLc_m, wipeL_c, wipeL_n, lstD_l, cKeysT_m, dVar_m, dFrzT_m, dFor_m, cSeq_m, dSet_m, set_1, get_0, mVar_s, mSeq_l, wFor_c, wFor_n, dDictT_m, set_2, set_3, get_2, get_1, set_4, List.length_cons, List.length_nil, List.cons_append, List.nil_append, Nat.reduceAdd, Nat.reduceSub, Option.some.injEq, exists_eq_left', true_and, and_true, if_true, if_false, Bool.false_eq_true, Bool.true_eq_false, Bool.not_true, Bool.not_false, reduceIte, beq_self_eq_true, decide_true, Bool.or_false, Bool.or_true, Bool.false_or, Bool.true_or, perm1, lstD_l, dDictT_m, gDictT_m, cKeysT_m, dFrzT_m]
  intro p hp
  refine bT_tp2 ?_
  try simp -implicitDefEqProofs only [dDef_1_4, dSeq_m, dRet_m, dCall_m, dArgs_c, dArgs_n, gDictT_m, dLc_m, wipeL_c, wipeL_n, lstD_l, cKeysT_m, dVar_m, dFrzT_m, dFor_m, cSeq_m, dSet_m, set_1, get_0, mVar_s, mSeq_l, wFor_c, wFor_n, dDictT_m, set_2, set_3, get_2, get_1, set_4, List.length_cons, List.length_nil, List.cons_append, List.nil_append, Nat.reduceAdd, Nat.reduceSub, Option.some.injEq, exists_eq_left', true_and, and_true, if_true, if_false, Bool.false_eq_true, Bool.true_eq_false, Bool.not_true, Bool.not_false, reduceIte, beq_self_eq_true, decide_true, Bool.or_false, Bool.or_true, Bool.false_or, Bool.true_or, perm1, lstD_l, dDictT_m, gDictT_m, cKeysT_m, dFrzT_m]
  refine ⟨_, _, rfl, ?_⟩
  refine jn_in (m := n + m) hf zf hv (by omega) f [] none fm_nil (fun _ h => h) hf.nd (fun _ _ => vl_sz (f := []) (by omega) (fun _ h => by cases h) _) (by rw [List.length_nil]; omega) (fun s4 => ?_)
  refine bT_tp2 ?_
  try simp -implicitDefEqProofs only [dDef_1_4, dSeq_m, dRet_m, dCall_m, dArgs_c, dArgs_n, gDictT_m, dLc_m, wipeL_c, wipeL_n, lstD_l, cKeysT_m, dVar_m, dFrzT_m, dFor_m, cSeq_m, dSet_m, set_1, get_0, mVar_s, mSeq_l, wFor_c, wFor_n, dDictT_m, set_2, set_3, get_2, get_1, set_4, List.length_cons, List.length_nil, List.cons_append, List.nil_append, Nat.reduceAdd, Nat.reduceSub, Option.some.injEq, exists_eq_left', true_and, and_true, if_true, if_false, Bool.false_eq_true, Bool.true_eq_false, Bool.not_true, Bool.not_false, reduceIte, beq_self_eq_true, decide_true, Bool.or_false, Bool.or_true, Bool.false_or, Bool.true_or, perm1, lstD_l, dDictT_m, gDictT_m, cKeysT_m, dFrzT_m]
  refine ⟨_, _, rfl, ?_⟩
  refine jn_in (m := n + m) hg zg hw (by omega) g _ _ hA1 (fun _ h => h) hg.nd (fun k _ => ?_) (by omega) (fun s4 => ?_)
  · rw [vl_addP k n1]
    show Px.SzR _ (0 + _)
    rw [Rat.zero_add]
    exact vl_sz (by omega) (scl_sz hv zf) k
  have hlA : (sumF (scl f v) (scl g w)).length ≤ 1000 := by
    have : (sumF (scl f v) (scl g w)).length ≤ _ := l2
    omega
  try simp -implicitDefEqProofs only [dDef_1_4, dSeq_m, dRet_m, dCall_m, dArgs_c, dArgs_n, gDictT_m, dLc_m, wipeL_c, wipeL_n, lstD_l, cKeysT_m, dVar_m, dFrzT_m, dFor_m, cSeq_m, dSet_m, set_1, get_0, mVar_s, mSeq_l, wFor_c, wFor_n, dDictT_m, set_2, set_3, get_2, get_1, set_4, List.length_cons, List.length_nil, List.cons_append, List.nil_append, Nat.reduceAdd, Nat.reduceSub, Option.some.injEq, exists_eq_left', true_and, and_true, if_true, if_false, Bool.false_eq_true, Bool.true_eq_false, Bool.not_true, Bool.not_false, reduceIte, beq_self_eq_true, decide_true, Bool.or_false, Bool.or_true, Bool.false_or, Bool.true_or, perm1, lstD_l, dDictT_m, gDictT_m, cKeysT_m, dFrzT_m]
  refine ⟨p, _, _, rfl, put_same, ?_⟩
  rw [put_del hp]
  try simp -implicitDefEqProofs only [dDef_1_4, dSeq_m, dRet_m, dCall_m, dArgs_c, dArgs_n, gDictT_m, dLc_m, wipeL_c, wipeL_n, lstD_l, cKeysT_m, dVar_m, dFrzT_m, dFor_m, cSeq_m, dSet_m, set_1, get_0, mVar_s, mSeq_l, wFor_c, wFor_n, dDictT_m, set_2, set_3, get_2, get_1, set_4, List.length_cons, List.length_nil, List.cons_append, List.nil_append, Nat.reduceAdd, Nat.reduceSub, Option.some.injEq, exists_eq_left', true_and, and_true, if_true, if_false, Bool.false_eq_true, Bool.true_eq_false, Bool.not_true, Bool.not_false, reduceIte, beq_self_eq_true, decide_true, Bool.or_false, Bool.or_true, Bool.false_or, Bool.true_or, perm1, lstD_l, dDictT_m, gDictT_m, cKeysT_m, dFrzT_m]
  refine ⟨_, _, rfl, by rw [List.length_map, List.length_map]; exact hlA, ?_⟩
  exact ev_left (A := sumF (scl f v) (scl g w)) hA hlA k
theorem ev_join1 {f : Kv} {v : Rat} {n m : Nat} (hf : Fm f) (zf : ∀ r ∈ f, Px.SzR n r.2) (hv : Px.SzR m v) (hm : 3 * (n + m) + 2 ≤ 9000) (hl : f.length < 1000)
    (k : post (fD (nzF (sumF (scl f v) []))) S) : f__law_join K [.lst [.tup [fD f, fr v]]] S post xp := by
  have u1 : ∀ k ∈ kz (scl f v), UK k := by rw [kz_scl]; exact hf.uk
  have hA1 := addP_fm (acc := []) fm_nil u1
  have l1 := addP_len (scl f v) []
  rw [List.length_nil, scl_len] at l1
  have hv1 := szone hv
  unfold f__law_join u__law_join
  try simp -implicitDefEqProofs only [dDef_1_4, dSeq_m, dRet_m, dCall_m, dArgs_c, dArgs_n, gDictT_m, dLc_m, wipeL_c, wipeL_n, lstD_l, cKeysT_m, dVar_m, dFrzT_m, dFor_m, cSeq_m, dSet_m, set_1, get_0, mVar_s, mSeq_l, wFor_c, wFor_n, dDictT_m, set_2, set_3, get_2, get_1, set_4, List.length_cons, List.length_nil, List.cons_append, List.nil_append, Nat.reduceAdd, Nat.reduceSub, Option.some.injEq, exists_eq_left', true_and, and_true, if_true, if_false, Bool.false_eq_true, Bool.true_eq_false, Bool.not_true, Bool.not_false, reduceIte, beq_self_eq_true, decide_true, Bool.or_false, Bool.or_true, Bool.false_or, Bool.true_or, perm1, lstD_l, dDictT_m, gDictT_m, cKeysT_m, dFrzT_m]
  intro p hp
  refine bT_tp2 ?_
  try simp -implicitDefEqProofs only [dDef_1_4, dSeq_m, dRet_m, dCall_m, dArgs_c, dArgs_n, gDictT_m, dLc_m, wipeL_c, wipeL_n, lstD_l, cKeysT_m, dVar_m, dFrzT_m, dFor_m, cSeq_m, dSet_m, set_1, get_0, mVar_s, mSeq_l, wFor_c, wFor_n, dDictT_m, set_2, set_3, get_2, get_1, set_4, List.length_cons, List.length_nil, List.cons_append, List.nil_append, Nat.reduceAdd, Nat.reduceSub, Option.some.injEq, exists_eq_left', true_and, and_true, if_true, if_false, Bool.false_eq_true, Bool.true_eq_false, Bool.not_true, Bool.not_false, reduceIte, beq_self_eq_true, decide_true, Bool.or_false, Bool.or_true, Bool.false_or, Bool.true_or, perm1, lstD_l, dDictT_m, gDictT_m, cKeysT_m, dFrzT_m]
  refine ⟨_, _, rfl, ?_⟩
  refine jn_in (m := n + m) hf zf hv (by omega) f [] none fm_nil (fun _ h => h) hf.nd (fun _ _ => vl_sz (f := []) (by omega) (fun _ h => by cases h) _) (by rw [List.length_nil]; omega) (fun s4 => ?_)
  have hlA : (sumF (scl f v) []).length ≤ 1000 := by
    have : (sumF (scl f v) []).length ≤ _ := l1
    omega
  try simp -implicitDefEqProofs only [dDef_1_4, dSeq_m, dRet_m, dCall_m, dArgs_c, dArgs_n, gDictT_m, dLc_m, wipeL_c, wipeL_n, lstD_l, cKeysT_m, dVar_m, dFrzT_m, dFor_m, cSeq_m, dSet_m, set_1, get_0, mVar_s, mSeq_l, wFor_c, wFor_n, dDictT_m, set_2, set_3, get_2, get_1, set_4, List.length_cons, List.length_nil, List.cons_append, List.nil_append, Nat.reduceAdd, Nat.reduceSub, Option.some.injEq, exists_eq_left', true_and, and_true, if_true, if_false, Bool.false_eq_true, Bool.true_eq_false, Bool.not_true, Bool.not_false, reduceIte, beq_self_eq_true, decide_true, Bool.or_false, Bool.or_true, Bool.false_or, Bool.true_or, perm1, lstD_l, dDictT_m, gDictT_m, cKeysT_m, dFrzT_m]
  refine ⟨p, _, _, rfl, put_same, ?_⟩
  rw [put_del hp]
  try simp -implicitDefEqProofs only [dDef_1_4, dSeq_m, dRet_m, dCall_m, dArgs_c, dArgs_n, gDictT_m, dLc_m, wipeL_c, wipeL_n, lstD_l, cKeysT_m, dVar_m, dFrzT_m, dFor_m, cSeq_m, dSet_m, set_1, get_0, mVar_s, mSeq_l, wFor_c, wFor_n, dDictT_m, set_2, set_3, get_2, get_1, set_4, List.length_cons, List.length_nil, List.cons_append, List.nil_append, Nat.reduceAdd, Nat.reduceSub, Option.some.injEq, exists_eq_left', true_and, and_true, if_true, if_false, Bool.false_eq_true, Bool.true_eq_false, Bool.not_true, Bool.not_false, reduceIte, beq_self_eq_true, decide_true, Bool.or_false, Bool.or_true, Bool.false_or, Bool.true_or, perm1, lstD_l, dDictT_m, gDictT_m, cKeysT_m, dFrzT_m]
  refine ⟨_, _, rfl, by rw [List.length_map, List.length_map]; exact hlA, ?_⟩
  exact ev_left (A := sumF (scl f v) []) hA1 hlA k
theorem told_eq {A B : Kv} (hA : Fm A) (hB : Fm B) (e : ∀ k, vl A k = vl B k) : tupF (nzF A) = tupF (nzF B) := tupF_eq hA.nz hB.nz (fun k => by rw [vl_nz hA]; exact mem_nz hA) (fun k => by rw [vl_nz hB]; exact mem_nz hB) fun k => by rw [vl_nz hA, vl_nz hB, e]
theorem sum_fm {f g : Kv} {v w : Rat} (hf : Fm f) (hg : Fm g) : Fm (sumF (scl f v) (scl g w)) := addP_fm (addP_fm fm_nil (by rw [kz_scl]; exact hf.uk)) (by rw [kz_scl]; exact hg.uk)
theorem row_fm {f : Kv} (h : Fm f) : Fm (rowK f) := ⟨nd_row h, uk_row h⟩
theorem vl_sum2 {f g : Kv} {v w : Rat} (hf : Fm f) (hg : Fm g) (k : List Key) : vl (sumF (scl f v) (scl g w)) k = vl f k * v + vl g k * w := by
  rw [vl_sum (by rw [kz_scl]; exact hf.nd) (by rw [kz_scl]; exact hg.nd), vl_scl, vl_scl]
theorem told_sum {f g : Kv} {v w : Rat} (hf : Fm f) (hg : Fm g) : tupF (nzF (sumF (scl (rowK f) v) (scl (rowK g) w))) = tupF (nzF (sumF (scl f v) (scl g w))) := told_eq (sum_fm (row_fm hf) (row_fm hg)) (sum_fm hf hg) fun k => by
  rw [vl_sum2 (row_fm hf) (row_fm hg), vl_sum2 hf hg, vl_row, vl_row]
theorem told_swap {f g : Kv} (hf : Fm f) (hg : Fm g) : tupF (nzF (sumF (scl (rowK g) 1) (scl (rowK f) 1))) = tupF (nzF (sumF (scl f 1) (scl g 1))) := told_eq (sum_fm (row_fm hg) (row_fm hf)) (sum_fm hf hg) fun k => by
  rw [vl_sum2 (row_fm hg) (row_fm hf), vl_sum2 hf hg, vl_row, vl_row, Rat.add_comm]
theorem told_one {f : Kv} {v : Rat} (hf : Fm f) : tupF (nzF (sumF (scl (rowK f) v) [])) = tupF (nzF (sumF (scl f v) [])) := by
  have z := told_sum (v := v) (w := 1) hf fm_nil
  have e : rowK [] = [] := by unfold rowK sortKT; simp [kz]
  rw [e] at z
  exact z
/-- what is left of sums has no zeros, and its numbers' sizes -/
structure Fz (n l : Nat) (f : Kv) : Prop where
  fm : Fm f
  nz : ∀ r ∈ f, r.2 ≠ 0
  sz : ∀ r ∈ f, Px.SzR n r.2
  ln : f.length ≤ l
theorem left_fz {f g : Kv} {v w : Rat} {n m s l l2 : Nat} (hf : Fz n l f) (hg : Fz m l2 g) (hv : Px.SzR s v) (hw : Px.SzR s w) (n1 : 1 ≤ n) (m1 : 1 ≤ m) : Fz (n + s + (m + s) + 1) (l + l2) (nzF (sumF (scl f v) (scl g w))) := by
  have hA := sum_fm (v := v) (w := w) hf.fm hg.fm
  refine ⟨hA.nz, fun r hr => of_decide_eq_true (List.mem_filter.mp hr).2, fun r hr => ?_, ?_⟩
  · rw [← vl_in hA.nz.nd hr, vl_nz hA, vl_sum2 hf.fm hg.fm]
    exact Px.szr_add (Px.szr_mul (vl_sz n1 hf.sz _) hv (Nat.le_refl _)) (Px.szr_mul (vl_sz m1 hg.sz _) hw (Nat.le_refl _)) (Nat.le_refl _)
  · refine Nat.le_trans (nz_len _) ?_
    have a := addP_len (scl f v) []
    have b : (sumF (scl f v) (scl g w)).length ≤ _ := addP_len (scl g w) (addP [] (scl f v))
    rw [List.length_nil, scl_len] at a
    rw [scl_len] at b
    have := hf.ln
    have := hg.ln
    omega
end Dw
set_option maxHeartbeats 60000
namespace Dw
open PySem PySem.Spec PyProof.Rows L2 TL
variable {K : PySem.W.Frag} {S : Sto} {post : D → Sto → Prop} {xp : Xp} {b : Addr} {n : Nat} {z : Str}
def gq : Nat → D → Prop
  | 0, _ => False
  | n + 1, .tup ds => ds.length ≤ 1000 ∧ ∀ d ∈ ds, gq n d
  | _ + 1, .int _ => True
  | _ + 1, .str s => PyData.strOk s = true
  | _ + 1, _ => False
theorem like_n : ∀ (n : Nat) (d : D) (S : Sto) (post : D → Sto → Prop) (xp : Xp), gq n d → post (.bl true) S → r__law_like K n [d, d] S post xp
  | 0, d, _, _, _, h, _ => by unfold gq at h; exact h.elim
  | n + 1, d, S, post, xp, h, k => by
    have ih := like_n n
    unfold r__law_like b__law_like u__law_like
    cases d with
    | int i => try simp -implicitDefEqProofs only [dDef_2_2, dSeq_m, dRet_m, dAnd_m, dOp_m, oEq_m, dVar_m, dCall_m, dArgs_c, dArgs_n, dPure_m, dIfS_m, dNext_m, dtOr_m, dtVal_m, oNe_m, mBl_b, dIsi2_m, dLc_m, wipeL_c, wipeL_n, cZip_m, get_0, get_1, set_3, set_2, mVar_s, isi_int_tuple, okEq_bl, eqD_bl, isi_int_list, oIs_int, mAnd_f, okEq_int, eqD_int, isi_int_str, mAnd_t, isi_int_bool, isi2_int, isi_str_tuple, isi_str_list, oIs_str, eqD_str, isi_str_str, isi_str_bool, isi2_str, mZip_t, gLen_t, isi_tup_tuple, isi_tup_list, isi_tup_str, isi_tup_bool, isi2_tup, get_3, get_2, List.length_cons, List.length_nil, List.cons_append, List.nil_append, Nat.reduceAdd, Nat.reduceSub, Option.some.injEq, exists_eq_left', true_and, and_true, if_true, if_false, Bool.false_eq_true, Bool.true_eq_false, Bool.not_true, Bool.not_false, reduceIte, beq_self_eq_true, decide_true, Bool.or_false, Bool.or_true, Bool.false_or, Bool.true_or]; exact k
    | str s =>
      have hs : okEq (.str s) = true := okEq_str (by unfold gq at h; exact h)
      try simp -implicitDefEqProofs only [dDef_2_2, dSeq_m, dRet_m, dAnd_m, dOp_m, oEq_m, dVar_m, dCall_m, dArgs_c, dArgs_n, dPure_m, dIfS_m, dNext_m, dtOr_m, dtVal_m, oNe_m, mBl_b, dIsi2_m, dLc_m, wipeL_c, wipeL_n, cZip_m, get_0, get_1, set_3, set_2, mVar_s, isi_int_tuple, okEq_bl, eqD_bl, isi_int_list, oIs_int, mAnd_f, okEq_int, eqD_int, isi_int_str, mAnd_t, isi_int_bool, isi2_int, isi_str_tuple, isi_str_list, oIs_str, eqD_str, isi_str_str, isi_str_bool, isi2_str, mZip_t, gLen_t, isi_tup_tuple, isi_tup_list, isi_tup_str, isi_tup_bool, isi2_tup, get_3, get_2, List.length_cons, List.length_nil, List.cons_append, List.nil_append, Nat.reduceAdd, Nat.reduceSub, Option.some.injEq, exists_eq_left', true_and, and_true, if_true, if_false, Bool.false_eq_true, Bool.true_eq_false, Bool.not_true, Bool.not_false, reduceIte, beq_self_eq_true, decide_true, Bool.or_false, Bool.or_true, Bool.false_or, Bool.true_or, eqD_str, hs]
      exact k
    | tup ds =>
      unfold gq at h
      try simp -implicitDefEqProofs only [dDef_2_2, dSeq_m, dRet_m, dAnd_m, dOp_m, oEq_m, dVar_m, dCall_m, dArgs_c, dArgs_n, dPure_m, dIfS_m, dNext_m, dtOr_m, dtVal_m, oNe_m, mBl_b, dIsi2_m, dLc_m, wipeL_c, wipeL_n, cZip_m, get_0, get_1, set_3, set_2, mVar_s, isi_int_tuple, okEq_bl, eqD_bl, isi_int_list, oIs_int, mAnd_f, okEq_int, eqD_int, isi_int_str, mAnd_t, isi_int_bool, isi2_int, isi_str_tuple, isi_str_list, oIs_str, eqD_str, isi_str_str, isi_str_bool, isi2_str, mZip_t, gLen_t, isi_tup_tuple, isi_tup_list, isi_tup_str, isi_tup_bool, isi2_tup, get_3, get_2, List.length_cons, List.length_nil, List.cons_append, List.nil_append, Nat.reduceAdd, Nat.reduceSub, Option.some.injEq, exists_eq_left', true_and, and_true, if_true, if_false, Bool.false_eq_true, Bool.true_eq_false, Bool.not_true, Bool.not_false, reduceIte, beq_self_eq_true, decide_true, Bool.or_false, Bool.or_true, Bool.false_or, Bool.true_or]
      refine ⟨by rw [zipD_len1]; exact h.1, ?_⟩
      refine wLc_yes (fun _ => .bl true) _ _ _ (fun d hd k' hk' => ?_) ?_
      · obtain ⟨x, hx, rfl⟩ := zipD_mem hd
        refine bT_tp2 ?_
        try simp -implicitDefEqProofs only [dDef_2_2, dSeq_m, dRet_m, dAnd_m, dOp_m, oEq_m, dVar_m, dCall_m, dArgs_c, dArgs_n, dPure_m, dIfS_m, dNext_m, dtOr_m, dtVal_m, oNe_m, mBl_b, dIsi2_m, dLc_m, wipeL_c, wipeL_n, cZip_m, get_0, get_1, set_3, set_2, mVar_s, isi_int_tuple, okEq_bl, eqD_bl, isi_int_list, oIs_int, mAnd_f, okEq_int, eqD_int, isi_int_str, mAnd_t, isi_int_bool, isi2_int, isi_str_tuple, isi_str_list, oIs_str, eqD_str, isi_str_str, isi_str_bool, isi2_str, mZip_t, gLen_t, isi_tup_tuple, isi_tup_list, isi_tup_str, isi_tup_bool, isi2_tup, get_3, get_2, List.length_cons, List.length_nil, List.cons_append, List.nil_append, Nat.reduceAdd, Nat.reduceSub, Option.some.injEq, exists_eq_left', true_and, and_true, if_true, if_false, Bool.false_eq_true, Bool.true_eq_false, Bool.not_true, Bool.not_false, reduceIte, beq_self_eq_true, decide_true, Bool.or_false, Bool.or_true, Bool.false_or, Bool.true_or]
        exact ih x _ _ _ (h.2 x hx) hk'
      · exact gAll_true k
    | non => unfold gq at h; exact h.elim
    | bl _ => unfold gq at h; exact h.elim
    | lst _ => unfold gq at h; exact h.elim
    | ins _ _ _ => unfold gq at h; exact h.elim
    | dK _ _ => unfold gq at h; exact h.elim
    | dT _ _ => unfold gq at h; exact h.elim
    | val _ => unfold gq at h; exact h.elim
    | fn _ _ _ _ _ => unfold gq at h; exact h.elim
    | scr _ => unfold gq at h; exact h.elim
    | exc _ _ _ _ => unfold gq at h; exact h.elim
theorem ev_like {f : Kv} (h : Fm f) (hl : f.length ≤ 1000) (k : post (.bl true) S) : f__law_like K [tupF f, tupF f] S post xp := by
  unfold f__law_like
  refine ⟨6, Nat.le_refl _, like_n 6 _ S post xp ⟨by rw [List.length_map, row_len]; exact hl, fun d hd => ?_⟩ k⟩
  obtain ⟨r, hr, rfl⟩ := List.mem_map.mp hd
  refine ⟨by simp, fun d hd => ?_⟩
  have u := uk_row h r.1 (List.mem_map_of_mem hr)
  rcases List.mem_cons.mp hd with rfl | hd
  · rcases u with ⟨s, e, hs⟩ | ⟨s, m, i, e, h1, h2⟩
    · rw [e]
      refine ⟨by simp, fun d hd => ?_⟩
      rcases List.mem_cons.mp hd with rfl | hd
      · exact hs
      · cases hd
    · rw [e]
      refine ⟨by simp, fun d hd => ?_⟩
      rcases List.mem_cons.mp hd with rfl | hd
      · exact h1
      rcases List.mem_cons.mp hd with rfl | hd
      · exact h2
      rcases List.mem_cons.mp hd with rfl | hd
      · trivial
      · cases hd
  rcases List.mem_cons.mp hd with rfl | hd
  · refine ⟨by simp, fun d hd => ?_⟩
    rcases List.mem_cons.mp hd with rfl | hd
    · trivial
    rcases List.mem_cons.mp hd with rfl | hd
    · trivial
    · cases hd
  · cases hd
theorem ev_short {x : Rat} (k : ∀ c : Bool, (c = true → Px.SzR 20 x) → post (.bl c) S) : f__law_short K [.lst [fr x]] S post xp := by
  obtain ⟨M, hM⟩ : ∃ M : Int, M = 10 ^ ((6 : Int)).toNat := ⟨_, rfl⟩
  have hm : M = 1000000 := hM.trans (by decide +kernel)
  have op : ∀ (S : Sto) (post : D → Sto → Prop) (xp : Xp), oPow (.int 10) (.int 6) S post xp = post (.int M) S := fun S post xp => by
    rw [hM]
    exact propext ⟨fun h => h.2, fun h => ⟨⟨by decide, by decide, by decide⟩, h⟩⟩
  clear hM
  unfold f__law_short u__law_short fr
  try simp -implicitDefEqProofs only [dDef_1_1, dRet_m, dCall_m, dArgs_c, dArgs_n, dLc_m, wipeL_c, wipeL_n, set_1, cSeq_m, dVar_m, get_0, mVar_s, mSeq_l, bT_nm, dAnd_m, dOp_m, dPure_m, get_1, oIx_t, at2_1, oLt_i, at2_0, gAbs_i, dYes_m, mAnd_f, mAnd_t, List.length_cons, List.length_nil, List.cons_append, List.nil_append, Nat.reduceAdd, Nat.reduceSub, Option.some.injEq, exists_eq_left', true_and, and_true, if_true, if_false, Bool.false_eq_true, Bool.true_eq_false, Bool.not_true, Bool.not_false, reduceIte, beq_self_eq_true, decide_true, Bool.or_false, Bool.or_true, Bool.false_or, Bool.true_or, perm1]
  refine ⟨by decide, ?_⟩
  rw [wLc_c, bT_nm]
  try simp -implicitDefEqProofs only [dDef_1_1, dRet_m, dCall_m, dArgs_c, dArgs_n, dLc_m, wipeL_c, wipeL_n, set_1, cSeq_m, dVar_m, get_0, mVar_s, mSeq_l, bT_nm, dAnd_m, dOp_m, dPure_m, get_1, oIx_t, at2_1, oLt_i, at2_0, gAbs_i, dYes_m, mAnd_f, mAnd_t, List.length_cons, List.length_nil, List.cons_append, List.nil_append, Nat.reduceAdd, Nat.reduceSub, Option.some.injEq, exists_eq_left', true_and, and_true, if_true, if_false, Bool.false_eq_true, Bool.true_eq_false, Bool.not_true, Bool.not_false, reduceIte, beq_self_eq_true, decide_true, Bool.or_false, Bool.or_true, Bool.false_or, Bool.true_or, perm1, op]
  cases h1 : decide (((x.num.natAbs : Nat) : Int) < M) with
  | true =>
    try simp -implicitDefEqProofs only [dDef_1_1, dRet_m, dCall_m, dArgs_c, dArgs_n, dLc_m, wipeL_c, wipeL_n, set_1, cSeq_m, dVar_m, get_0, mVar_s, mSeq_l, bT_nm, dAnd_m, dOp_m, dPure_m, get_1, oIx_t, at2_1, oLt_i, at2_0, gAbs_i, dYes_m, mAnd_f, mAnd_t, List.length_cons, List.length_nil, List.cons_append, List.nil_append, Nat.reduceAdd, Nat.reduceSub, Option.some.injEq, exists_eq_left', true_and, and_true, if_true, if_false, Bool.false_eq_true, Bool.true_eq_false, Bool.not_true, Bool.not_false, reduceIte, beq_self_eq_true, decide_true, Bool.or_false, Bool.or_true, Bool.false_or, Bool.true_or, perm1, op]
    rw [wLc_n]
    refine ⟨[decide ((x.den : Int) < M)], rfl, ?_⟩
    rw [List.all_cons, List.all_nil, Bool.and_true]
    refine k _ (fun e => ?_)
    have h2 := of_decide_eq_true e
    have h3 := of_decide_eq_true h1
    exact ⟨by show x.num.natAbs < 2 ^ 20; omega, by show (x.den : Int).natAbs < 2 ^ 20; omega⟩
  | false =>
    try simp -implicitDefEqProofs only [dDef_1_1, dRet_m, dCall_m, dArgs_c, dArgs_n, dLc_m, wipeL_c, wipeL_n, set_1, cSeq_m, dVar_m, get_0, mVar_s, mSeq_l, bT_nm, dAnd_m, dOp_m, dPure_m, get_1, oIx_t, at2_1, oLt_i, at2_0, gAbs_i, dYes_m, mAnd_f, mAnd_t, List.length_cons, List.length_nil, List.cons_append, List.nil_append, Nat.reduceAdd, Nat.reduceSub, Option.some.injEq, exists_eq_left', true_and, and_true, if_true, if_false, Bool.false_eq_true, Bool.true_eq_false, Bool.not_true, Bool.not_false, reduceIte, beq_self_eq_true, decide_true, Bool.or_false, Bool.or_true, Bool.false_or, Bool.true_or, perm1, op]
    rw [wLc_n]
    refine ⟨[false], rfl, ?_⟩
    exact k _ (fun e => by cases e)
def Wd (n : Nat) (z : Str) : Prop := (tl z).length ≤ n ∧ ∀ c ∈ tl z, c < 0x110000
theorem Wd.ok (h : Wd n z) : PyData.strOk z = true := by
  unfold PyData.strOk
  rw [← Array.all_toList]
  exact List.all_eq_true.mpr fun c hc => decide_eq_true (h.2 c hc)
theorem Wd.len (h : Wd n z) : z.length ≤ n := by rw [len_tl]; exact h.1
theorem Wd.add {m : Nat} {y : Str} (h : Wd n z) (g : Wd m y) : Wd (n + m) (z ++ y) := by
  refine ⟨?_, fun c hc => ?_⟩
  · rw [tl_append, List.length_append]
    have := h.1; have := g.1; omega
  · rw [tl_append] at hc
    rcases List.mem_append.mp hc with hc | hc
    · exact h.2 c hc
    · exact g.2 c hc
theorem Wd.cut (h : Wd n z) (lo hi : Option Int) : Wd n (cutS z lo hi) := by
  have e : ∀ c ∈ tl (cutS z lo hi), c ∈ tl z := fun c hc => List.mem_of_mem_drop (List.mem_of_mem_take hc)
  refine ⟨?_, fun c hc => h.2 c (e c hc)⟩
  refine Nat.le_trans ?_ h.1
  unfold cutS
  show (((tl z).drop _).take _).length ≤ _
  rw [List.length_take, List.length_drop]
  omega
theorem Wd.mono {m : Nat} (h : Wd n z) (l : n ≤ m) : Wd m z := ⟨Nat.le_trans h.1 l, h.2⟩
abbrev L26 : Str := Str.ofString "abcdefghijklmnopqrstuvwxyz"
theorem l26_len : (tl L26).length = 26 := by decide +kernel
theorem l26_ok : (tl L26).all (· < 0x110000) = true := by decide +kernel
theorem sgn_wd {c : Nat} (h : c ∈ tl L26) : Wd 1 ⟨#[c]⟩ := ⟨Nat.le_refl _, fun d hd => by
  rw [List.mem_singleton.mp (show d ∈ [c] from hd)]
  exact of_decide_eq_true (List.all_eq_true.mp l26_ok c h)⟩
theorem ev__law_of_s (hb : hasBag S b) (k : ∀ c ∈ tl L26, post (.str ⟨#[c]⟩) S) : f__law_of K [.val (.ref b), .str L26] S post xp := by
  unfold f__law_of u__law_of
  try simp -implicitDefEqProofs only [dDef_2_0, dRet_m, dOp_m, dCall_m, dArgs_c, dArgs_n, dVar_m, get_1, mVar_s, gLen_s, get_0, oIx_s, List.length_cons, List.length_nil, List.cons_append, List.nil_append, Nat.reduceAdd, Nat.reduceSub, Option.some.injEq, exists_eq_left', true_and, and_true, if_true, if_false, Bool.false_eq_true, Bool.true_eq_false, Bool.not_true, Bool.not_false, reduceIte, beq_self_eq_true, decide_true, Bool.or_false, Bool.or_true, Bool.false_or, Bool.true_or, perm1, oIx_s, gLen_s]
  have e : L26.length = 26 := by rw [len_tl]; exact l26_len
  refine ⟨by rw [e]; decide, ev_draw hb (by rw [e]; decide) (by rw [e]; decide) (fun r h0 h1 => ?_)⟩
  rw [e] at h1
  obtain ⟨c, hc, ec⟩ := atI_mem (xs := tl L26) h0 (by rw [l26_len]; exact h1)
  try simp -implicitDefEqProofs only [dDef_2_0, dRet_m, dOp_m, dCall_m, dArgs_c, dArgs_n, dVar_m, get_1, mVar_s, gLen_s, get_0, oIx_s, List.length_cons, List.length_nil, List.cons_append, List.nil_append, Nat.reduceAdd, Nat.reduceSub, Option.some.injEq, exists_eq_left', true_and, and_true, if_true, if_false, Bool.false_eq_true, Bool.true_eq_false, Bool.not_true, Bool.not_false, reduceIte, beq_self_eq_true, decide_true, Bool.or_false, Bool.or_true, Bool.false_or, Bool.true_or, perm1, oIx_s, gLen_s]
  exact ⟨by rw [e]; decide, c, ec, k c hc⟩
theorem stem_loop {x0 x1 : Option D} {P : Pst} (hb : hasBag S b) : ∀ (ds : List D) (n : Nat) (z : Str) (x4 : Option D), Wd n z → n + ds.length ≤ 2 → (∀ z' x4, Wd 2 z' → P.nx [some (.val (.ref b)), x1, some (.str L26), some (.str z'), x4, none, none, none, none, none] S) →
    wFor (.nm 4) (dSet 3 (dOp oAdd (dVar 3) (dCall (f__law_of K) [dVar 0, dVar 2]))) ds [some (.val (.ref b)), x1, some (.str L26), some (.str z), x4, none, none, none, none, none] S P
  | [], n, z, x4, h, hl, k => k z x4 (h.mono (by simpa using hl))
  | d :: ds, n, z, x4, h, hl, k => by
    have ih := stem_loop (x0 := x0) (x1 := x1) (P := P) hb ds
    obtain ⟨nx, rt, bk, ct, xp⟩ := P
    rw [List.length_cons] at hl
    try simp -implicitDefEqProofs only [wFor_c, dSet_m, dOp_m, dCall_m, dArgs_c, dArgs_n, dVar_m, bT_nm, set_4, get_3, get_0, get_2, set_3, mVar_s, oAdd_s, List.length_cons, List.length_nil, List.cons_append, List.nil_append, Nat.reduceAdd, Nat.reduceSub, Option.some.injEq, exists_eq_left', true_and, and_true, if_true, if_false, Bool.false_eq_true, Bool.true_eq_false, Bool.not_true, Bool.not_false, reduceIte, beq_self_eq_true, decide_true, Bool.or_false, Bool.or_true, Bool.false_or, Bool.true_or, perm1, oAdd_s]
    refine ev__law_of_s hb (fun c hc => ?_)
    try simp -implicitDefEqProofs only [wFor_c, dSet_m, dOp_m, dCall_m, dArgs_c, dArgs_n, dVar_m, bT_nm, set_4, get_3, get_0, get_2, set_3, mVar_s, oAdd_s, List.length_cons, List.length_nil, List.cons_append, List.nil_append, Nat.reduceAdd, Nat.reduceSub, Option.some.injEq, exists_eq_left', true_and, and_true, if_true, if_false, Bool.false_eq_true, Bool.true_eq_false, Bool.not_true, Bool.not_false, reduceIte, beq_self_eq_true, decide_true, Bool.or_false, Bool.or_true, Bool.false_or, Bool.true_or, perm1, oAdd_s]
    have hs := sgn_wd hc
    have l1 := h.len
    have l2 := hs.len
    refine ⟨Nat.le_trans (by omega : _ ≤ 100) (by decide), ?_⟩
    exact ih (n + 1) _ _ (h.add hs) (by omega) k
abbrev wdB (K : PySem.W.Frag) : DS := (dSeq (dSet 9 (dOp oAdd (dOp oAdd (dSl (dVar 3) dNoPart (dPart (dVar 5))) (dOp oIx (dVar 2) (dOp oMod (dCall gInt [(dOp oAdd (dVar 6) (dOp oMul (dPure (.int 7)) (dVar 4)))]) (dPure (.int 26))))) (dSl (dVar 3) (dPart (dVar 5)) dNoPart))) (dExpr (dBm isL gAppend (dVar 8) [(dIf (dtVal (dOp oEq (dOp oMod (dCall gInt [(dVar 4)]) (dPure (.int 2))) (dPure (.int 0)))) (dOp oAdd (dVar 9) (dVar 7)) (dVar 9))])))
theorem ev_append {a : Addr} {ds : List D} {d : D} (hl : ds.length < 1000) (k : post .non (S.put a (.lst (ds ++ [d])))) : gAppend (.val (.ref a)) [d] (S.put a (.lst ds)) post xp := by
  unfold gAppend chL
  refine ⟨ds, ds ++ [d], .non, put_same, hl, rfl, ?_⟩
  rw [put_putS]
  exact k
theorem isL_put {a : Addr} {ds : List D} : isL (S.put a (.lst ds)) (.val (.ref a)) := ⟨ds, put_same⟩
theorem word_loop {x0 x1 : Option D} {P : Pst} {a : Addr} {stem tail : Str} {at_ fi : Int} (hs : Wd 2 stem) (ht : Wd 2 tail) (a0 : 0 ≤ at_) (f0 : 0 ≤ fi) (f1 : fi < 26) : ∀ (is : List Int) (acc : List Str) (x4 x9 : Option D), (∀ i ∈ is, 0 ≤ i ∧ i < 1000) → (∀ w ∈ acc, Wd 9 w) → acc.length + is.length < 1000 →
    (∀ (acc' : List Str) (x4 x9 : Option D), (∀ w ∈ acc', Wd 9 w) → acc'.length = acc.length + is.length → P.nx [x0, x1, some (.str L26), some (.str stem), x4, some (.int at_), some (.int fi), some (.str tail), some (.val (.ref a)), x9] (S.put a (.lst (acc'.map .str)))) →
    wFor (.nm 4) (wdB K) (is.map .int) [x0, x1, some (.str L26), some (.str stem), x4, some (.int at_), some (.int fi), some (.str tail), some (.val (.ref a)), x9] (S.put a (.lst (acc.map .str))) P
  | [], acc, x4, x9, _, h, hl, k => k acc x4 x9 h rfl
  | i :: is, acc, x4, x9, hi, h, hl, k => by
    have ih := word_loop (x0 := x0) (x1 := x1) (P := P) (a := a) hs ht a0 f0 f1 is
    obtain ⟨nx, rt, bk, ct, xp⟩ := P
    have i01 := hi i List.mem_cons_self
    rw [List.length_cons] at hl
    rw [List.map_cons]
    unfold wdB
    try simp -implicitDefEqProofs only [wFor_c, dSeq_m, dExpr_m, dBm_m, dArgs_c, dArgs_n, dIf_m, dOp_m, dVar_m, dtVal_m, oEq_m, mBl_b, dPure_m, okEq_int, dCall_m, dSet_m, dSl_m, dNoPart_m, dPart_m, bT_nm, set_4, get_3, get_5, get_2, get_6, get_4, set_9, get_8, get_9, get_7, mVar_s, gInt_i, oMod_i, eqD_int, mInt_i, gSl_s, oMul_i, oAdd_i, oIx_s, oAdd_s, List.length_cons, List.length_nil, List.cons_append, List.nil_append, Nat.reduceAdd, Nat.reduceSub, Option.some.injEq, exists_eq_left', true_and, and_true, if_true, if_false, Bool.false_eq_true, Bool.true_eq_false, Bool.not_true, Bool.not_false, reduceIte, beq_self_eq_true, decide_true, Bool.or_false, Bool.or_true, Bool.false_or, Bool.true_or, perm1, dBm_m, oAdd_s, oIx_s, gSl_s, dSl_m, dNoPart_m, dPart_m, mInt_i]
    have big : ∀ {m : Nat}, m ≤ 100 → m ≤ sizeLine := fun h => Nat.le_trans h (by decide)
    have c1 := hs.cut none (some at_)
    have c2 := hs.cut (some at_) none
    have e26 : L26.length = 26 := by rw [len_tl]; exact l26_len
    have l0 := hs.len
    have l1 := c1.len
    have l2 := c2.len
    have l3 := ht.len
    have fm0 : 0 ≤ (fi + 7 * i).fmod 26 := by rw [Int.fmod_eq_emod_of_nonneg _ (by decide)]; omega
    have fm1 : (fi + 7 * i).fmod 26 < 26 := by rw [Int.fmod_eq_emod_of_nonneg _ (by decide)]; omega
    obtain ⟨c, hc, ec⟩ := atI_mem (xs := tl L26) fm0 (by rw [l26_len]; exact fm1)
    have w1 := sgn_wd hc
    have l4 := w1.len
    have w2 := (c1.add w1).add c2
    have l5 := (c1.add w1).len
    have l6 := w2.len
    refine ⟨big (by omega), Px.cmul (a := 3) (b := 10) (szI (by decide)) (szI (by omega)) (by decide), by decide, big (by omega), c, ec, big (by omega), big (by omega), big (by omega), isL_put, by decide, ?_⟩
    have fin : ∀ (w : Str) (x9 : Option D), Wd 9 w → wFor (.nm 4) (wdB K) (is.map .int) [x0, x1, some (.str L26), some (.str stem), some (.int i), some (.int at_), some (.int fi), some (.str tail), some (.val (.ref a)), x9] (S.put a (.lst (acc.map .str ++ [.str w]))) ⟨nx, rt, bk, ct, xp⟩ := fun w x9 hw => by
      have e : acc.map D.str ++ [.str w] = (acc ++ [w]).map .str := by rw [List.map_append]; rfl
      rw [e]
      refine ih (acc ++ [w]) _ _ (fun j hj => hi j (List.mem_cons_of_mem _ hj)) (fun v hv => ?_) (by rw [List.length_append, List.length_singleton]; omega) (fun acc' x4 x9 h1 h2 => k acc' x4 x9 h1 ?_)
      · rcases List.mem_append.mp hv with hv | hv
        · exact h v hv
        · rw [List.mem_singleton.mp hv]; exact hw
      · rw [h2, List.length_append, List.length_singleton, List.length_cons]; omega
    have lm : (acc.map D.str).length < 1000 := by rw [List.length_map]; omega
    split
    · refine ⟨big (by omega), ?_⟩
      refine ev_append lm ?_
      exact fin _ _ ((w2.add ht).mono (by decide))
    · refine ev_append lm ?_
      exact fin _ _ (w2.mono (by decide))
theorem ev__law_words (hb : hasBag S b) (k : ∀ x y w : Str, Wd 9 x → Wd 9 y → Wd 9 w → post (.lst [.str x, .str y, .str w]) S) : f__law_words K [.val (.ref b), .int 3] S post xp := by
  unfold f__law_words u__law_words
  try simp -implicitDefEqProofs only [dDef_2_8, dSeq_m, dRet_m, dVar_m, dFrz_m, dFor_m, cRng_m, dArgs_c, dArgs_n, dSet_m, dLstM_m, dPar_m, setL_c, setL_n, dCall_m, dLst_m, dPure_m, dOp_m, dUnp_m, dTup_m, mTup_t, set_2, set_3, get_0, mVar_s, get_3, set_5, set_6, set_7, set_8, get_1, gLen_s, oAdd_i, get_8, List.length_cons, List.length_nil, List.cons_append, List.nil_append, Nat.reduceAdd, Nat.reduceSub, Option.some.injEq, exists_eq_left', true_and, and_true, if_true, if_false, Bool.false_eq_true, Bool.true_eq_false, Bool.not_true, Bool.not_false, reduceIte, beq_self_eq_true, decide_true, Bool.or_false, Bool.or_true, Bool.false_or, Bool.true_or, perm1, gLen_s, dLstM_m, dFrz_m]
  refine ev_draw hb (by decide) (by decide) (fun r r0 r1 => ?_)
  try simp -implicitDefEqProofs only [dDef_2_8, dSeq_m, dRet_m, dVar_m, dFrz_m, dFor_m, cRng_m, dArgs_c, dArgs_n, dSet_m, dLstM_m, dPar_m, setL_c, setL_n, dCall_m, dLst_m, dPure_m, dOp_m, dUnp_m, dTup_m, mTup_t, set_2, set_3, get_0, mVar_s, get_3, set_5, set_6, set_7, set_8, get_1, gLen_s, oAdd_i, get_8, List.length_cons, List.length_nil, List.cons_append, List.nil_append, Nat.reduceAdd, Nat.reduceSub, Option.some.injEq, exists_eq_left', true_and, and_true, if_true, if_false, Bool.false_eq_true, Bool.true_eq_false, Bool.not_true, Bool.not_false, reduceIte, beq_self_eq_true, decide_true, Bool.or_false, Bool.or_true, Bool.false_or, Bool.true_or, perm1, gLen_s, dLstM_m, dFrz_m]
  refine mRng_of ⟨by omega, by omega⟩ rfl ?_
  refine stem_loop (x0 := none) hb _ 0 _ none ⟨Nat.le_refl _, fun _ h => by cases h⟩ (by unfold rngD; rw [List.length_map, List.length_range]; omega) (fun z x4 hz => ?_)
  try simp -implicitDefEqProofs only [dDef_2_8, dSeq_m, dRet_m, dVar_m, dFrz_m, dFor_m, cRng_m, dArgs_c, dArgs_n, dSet_m, dLstM_m, dPar_m, setL_c, setL_n, dCall_m, dLst_m, dPure_m, dOp_m, dUnp_m, dTup_m, mTup_t, set_2, set_3, get_0, mVar_s, get_3, set_5, set_6, set_7, set_8, get_1, gLen_s, oAdd_i, get_8, List.length_cons, List.length_nil, List.cons_append, List.nil_append, Nat.reduceAdd, Nat.reduceSub, Option.some.injEq, exists_eq_left', true_and, and_true, if_true, if_false, Bool.false_eq_true, Bool.true_eq_false, Bool.not_true, Bool.not_false, reduceIte, beq_self_eq_true, decide_true, Bool.or_false, Bool.or_true, Bool.false_or, Bool.true_or, perm1, gLen_s, dLstM_m, dFrz_m]
  have lz := hz.len
  refine ⟨Nat.le_trans (by omega : _ ≤ 100) (by decide), ?_⟩
  refine ev_draw hb (by omega) (by omega) (fun s s0 s1 => ?_)
  refine ev_draw hb (by decide) (by decide) (fun q q0 q1 => ?_)
  refine ev__law_of hb (by simp) (by simp) (fun d hd => ?_)
  have ht : ∃ w : Str, d = .str w ∧ Wd 2 w := by
    simp only [List.mem_cons, List.not_mem_nil, or_false] at hd
    rcases hd with rfl | rfl | rfl
    · exact ⟨_, rfl, by unfold Wd; decide +kernel⟩
    · exact ⟨_, rfl, by unfold Wd; decide +kernel⟩
    · exact ⟨_, rfl, by unfold Wd; decide +kernel⟩
  obtain ⟨w, rfl, hw⟩ := ht
  intro a ha
  refine mRng_of (xs := ([0, 1, 2] : List Int).map .int) ⟨by decide, by decide⟩ rfl ?_
  refine word_loop (K := K) (a := a) hz hw s0 q0 q1 [0, 1, 2] [] _ _ (fun i hi => ?_) (fun _ h => by cases h) (by decide) (fun acc' x4 x9 h1 h2 => ?_)
  · simp only [List.mem_cons, List.not_mem_nil, or_false] at hi
    omega
  · try simp -implicitDefEqProofs only [dDef_2_8, dSeq_m, dRet_m, dVar_m, dFrz_m, dFor_m, cRng_m, dArgs_c, dArgs_n, dSet_m, dLstM_m, dPar_m, setL_c, setL_n, dCall_m, dLst_m, dPure_m, dOp_m, dUnp_m, dTup_m, mTup_t, set_2, set_3, get_0, mVar_s, get_3, set_5, set_6, set_7, set_8, get_1, gLen_s, oAdd_i, get_8, List.length_cons, List.length_nil, List.cons_append, List.nil_append, Nat.reduceAdd, Nat.reduceSub, Option.some.injEq, exists_eq_left', true_and, and_true, if_true, if_false, Bool.false_eq_true, Bool.true_eq_false, Bool.not_true, Bool.not_false, reduceIte, beq_self_eq_true, decide_true, Bool.or_false, Bool.or_true, Bool.false_or, Bool.true_or, perm1, gLen_s, dLstM_m, dFrz_m]
    unfold frz
    simp only [put_same]
    rw [put_del ha]
    match acc', h1, h2 with
    | [u, v, y], h1, _ => exact k u v y (h1 u (by simp)) (h1 v (by simp)) (h1 y (by simp))
end Dw
set_option maxHeartbeats 60000
namespace Dw
open PySem PySem.Spec PyProof.Rows L2 TL
variable {K : PySem.W.Frag} {S : Sto} {post : D → Sto → Prop} {xp : Xp} {b : Addr}
abbrev nmD (x y w : Str) : D := .lst [.str x, .str y, .str w]
theorem ev_unknown {x y w : Str} (hb : hasBag S b) (hx : Wd 9 x) (hy : Wd 9 y) (hw : Wd 9 w) (k : ∀ q, UK q → post (keyTV q) S) : f__law_unknown K [.val (.ref b), nmD x y w] S post xp := by
  unfold f__law_unknown u__law_unknown
  try simp -implicitDefEqProofs only [dDef_2_2, dSeq_m, dRet_m, dTup_m, dArgs_c, dArgs_n, dOp_m, dPure_m, dVar_m, dIfS_m, dCall_m, dIf_m, dtVal_m, dNext_m, oEq_m, mBl_b, okEq_int, dPar_m, setL_c, set_2, set_3, setL_n, get_2, get_3, mVar_s, get_1, get_0, eqD_int, gInt_i, oMod_i, oLt_i, oSub_i, List.length_cons, List.length_nil, List.cons_append, List.nil_append, Nat.reduceAdd, Nat.reduceSub, Option.some.injEq, exists_eq_left', true_and, and_true, if_true, if_false, Bool.false_eq_true, Bool.true_eq_false, Bool.not_true, Bool.not_false, reduceIte, beq_self_eq_true, decide_true, Bool.or_false, Bool.or_true, Bool.false_or, Bool.true_or, perm1]
  refine ev_draw hb (by decide) (by decide) (fun r r0 r1 => ?_)
  refine ev__law_of hb (by simp) (by simp) (fun d hd => ?_)
  have hn : ∃ z : Str, d = .str z ∧ PyData.strOk z = true := by
    simp only [List.mem_cons, List.not_mem_nil, or_false] at hd
    rcases hd with rfl | rfl | rfl
    · exact ⟨_, rfl, hx.ok⟩
    · exact ⟨_, rfl, hy.ok⟩
    · exact ⟨_, rfl, hw.ok⟩
  obtain ⟨z, rfl, hz⟩ := hn
  try simp -implicitDefEqProofs only [dDef_2_2, dSeq_m, dRet_m, dTup_m, dArgs_c, dArgs_n, dOp_m, dPure_m, dVar_m, dIfS_m, dCall_m, dIf_m, dtVal_m, dNext_m, oEq_m, mBl_b, okEq_int, dPar_m, setL_c, set_2, set_3, setL_n, get_2, get_3, mVar_s, get_1, get_0, eqD_int, gInt_i, oMod_i, oLt_i, oSub_i, List.length_cons, List.length_nil, List.cons_append, List.nil_append, Nat.reduceAdd, Nat.reduceSub, Option.some.injEq, exists_eq_left', true_and, and_true, if_true, if_false, Bool.false_eq_true, Bool.true_eq_false, Bool.not_true, Bool.not_false, reduceIte, beq_self_eq_true, decide_true, Bool.or_false, Bool.or_true, Bool.false_or, Bool.true_or, perm1]
  by_cases h0 : r = 0
  · rw [if_pos (decide_eq_true h0)]
    exact k [.inr (Str.ofString "scale")] (.inl ⟨_, rfl, by decide +kernel⟩)
  rw [if_neg (by simpa using h0)]
  by_cases h6 : r < 6
  · rw [if_pos (decide_eq_true h6)]
    by_cases h3 : r < 3
    · rw [if_pos (decide_eq_true h3)]
      refine ⟨by decide, ?_⟩
      exact k [.inr (Str.ofString "move"), .inr z, .inl (r.fmod 2)] (.inr ⟨_, _, _, rfl, by decide +kernel, hz⟩)
    · rw [if_neg (by simpa using h3)]
      refine ⟨by decide, ?_⟩
      exact k [.inr (Str.ofString "place"), .inr z, .inl (r.fmod 2)] (.inr ⟨_, _, _, rfl, by decide +kernel, hz⟩)
  rw [if_neg (by simpa using h6)]
  exact k [.inr (Str.ofString "table"), .inr z, .inl (r - 6)] (.inr ⟨_, _, _, rfl, by decide +kernel, hz⟩)
theorem mem_putR {f : Kv} {k : List Key} {x : Rat} {r : List Key × Rat} (h : r ∈ putR f k x) : r ∈ f ∨ r.2 = x := by
  unfold putR at h
  split at h
  · obtain ⟨p, hp, rfl⟩ := List.mem_map.mp h
    split
    · exact .inr rfl
    · exact .inl hp
  · rcases List.mem_append.mp h with h | h
    · exact .inl h
    · rw [List.mem_singleton.mp h]; exact .inr rfl
theorem Fz.put {n l : Nat} {f : Kv} (h : Fz n l f) {k : List Key} (u : UK k) {x : Rat} (x0 : x ≠ 0) (xz : Px.SzR n x) : Fz n (l + 1) (putR f k x) := ⟨h.fm.put u x, fun r hr => (mem_putR hr).elim (h.nz r) (fun e => by rw [e]; exact x0), fun r hr => (mem_putR hr).elim (h.sz r) (fun e => by rw [e]; exact xz), by have := put_len f k x; have := h.ln; omega⟩
theorem Fz.up {n m l l2 : Nat} {f : Kv} (h : Fz n l f) (a : n ≤ m) (c : l ≤ l2) : Fz m l2 f := ⟨h.fm, h.nz, fun r hr => (h.sz r hr).mono a, Nat.le_trans h.ln c⟩
theorem bag_put {p : Addr} {m : MC} (hb : hasBag S b) (hp : S p = none) : hasBag (S.put p m) b := by
  obtain ⟨c, ns, e⟩ := hb
  have : b ≠ p := fun z => by rw [z, hp] at e; cases e
  exact ⟨c, ns, by rw [put_ne this]; exact e⟩
abbrev dfB (K : PySem.W.Frag) : DS := (dSeq (dSet 5 (dCall (f__law_number K) [(dVar 0)])) (dIfS (dtVal (dOp oNe (dVar 5) (dTup [(dPure (.int 0)), (dPure (.int 1))]))) (dPutT (dVar 3) (dCall (f__law_unknown K) [(dVar 0), (dVar 1)]) (dVar 5)) dNext))
abbrev dgB (K : PySem.W.Frag) : DS := (dIfS (dtAnd (dtVal (dOp oEq (dCall (f__law_draw K) [(dVar 0), (dPure (.int 3))]) (dPure (.int 0)))) (dtVal (dCall (f__law_short K) [(dLst [(dOp oGetT (dVar 2) (dVar 6))])]))) (dPutT (dVar 3) (dVar 6) (dTup [(dOp oSub (dPure (.int 0)) (dOp oIx (dOp oGetT (dVar 2) (dVar 6)) (dPure (.int 0)))), (dOp oIx (dOp oGetT (dVar 2) (dVar 6)) (dPure (.int 1)))])) dNext)
theorem df_loop {x y w : Str} {x2 : Option D} {p : Addr} {P : Pst} (hb : hasBag S b) (hp : S p = none) (hx : Wd 9 x) (hy : Wd 9 y) (hw : Wd 9 w) : ∀ (ds : List D) (acc : Kv) (l : Nat) (x4 x5 : Option D), Fz 20 l acc → l + ds.length < 900 →
    (∀ acc' x4 x5, Fz 20 (l + ds.length) acc' → P.nx [some (.val (.ref b)), some (nmD x y w), x2, some (.val (.ref p)), x4, x5, none] (S.put p (.dT (kz acc') (dz acc')))) →
    wFor (.nm 4) (dfB K) ds [some (.val (.ref b)), some (nmD x y w), x2, some (.val (.ref p)), x4, x5, none] (S.put p (.dT (kz acc) (dz acc))) P
  | [], acc, l, x4, x5, h, hl, k => k acc x4 x5 h
  | d :: ds, acc, l, x4, x5, h, hl, k => by
    have ih := df_loop (x2 := x2) (P := P) hb hp hx hy hw ds
    obtain ⟨nx, rt, bk, ct, xp⟩ := P
    rw [List.length_cons] at hl
    have hb' := bag_put (m := .dT (kz acc) (dz acc)) hb hp
    unfold dfB
    try simp -implicitDefEqProofs only [wFor_c, dSeq_m, dIfS_m, dPutT_m, dCall_m, dArgs_c, dArgs_n, dVar_m, dNext_m, dtVal_m, dOp_m, oNe_m, mBl_b, dTup_m, dPure_m, fr_0, okEq_fr, dSet_m, bT_nm, set_4, get_0, set_5, get_5, get_3, get_1, mVar_s, eqD_fr, List.length_cons, List.length_nil, List.cons_append, List.nil_append, Nat.reduceAdd, Nat.reduceSub, Option.some.injEq, exists_eq_left', true_and, and_true, if_true, if_false, Bool.false_eq_true, Bool.true_eq_false, Bool.not_true, Bool.not_false, reduceIte, beq_self_eq_true, decide_true, Bool.or_false, Bool.or_true, Bool.false_or, Bool.true_or, perm1, dPutT_m]
    refine ev_number hb' (fun u hu => ?_)
    try simp -implicitDefEqProofs only [wFor_c, dSeq_m, dIfS_m, dPutT_m, dCall_m, dArgs_c, dArgs_n, dVar_m, dNext_m, dtVal_m, dOp_m, oNe_m, mBl_b, dTup_m, dPure_m, fr_0, okEq_fr, dSet_m, bT_nm, set_4, get_0, set_5, get_5, get_3, get_1, mVar_s, eqD_fr, List.length_cons, List.length_nil, List.cons_append, List.nil_append, Nat.reduceAdd, Nat.reduceSub, Option.some.injEq, exists_eq_left', true_and, and_true, if_true, if_false, Bool.false_eq_true, Bool.true_eq_false, Bool.not_true, Bool.not_false, reduceIte, beq_self_eq_true, decide_true, Bool.or_false, Bool.or_true, Bool.false_or, Bool.true_or, perm1, dPutT_m]
    by_cases u0 : u = 0
    · rw [decide_eq_true u0, if_neg (by simp)]
      exact ih acc (l + 1) _ _ (h.up (Nat.le_refl _) (by omega)) (by omega) fun acc' x4 x5 h' => k acc' x4 x5 (by rw [List.length_cons, Nat.add_comm ds.length 1, ← Nat.add_assoc]; exact h')
    · rw [decide_eq_false u0, if_pos (show (!false) = true from rfl)]
      refine ev_unknown hb' hx hy hw (fun q uq => ?_)
      refine ⟨p, _, _, _, rfl, put_same, by rw [List.length_map]; have := h.ln; omega, keyT_V uq.key, ?_⟩
      rw [put_putS, put_kz, put_dz]
      exact ih _ (l + 1) _ _ (h.put uq u0 (hu.mono (by decide))) (by omega) fun acc' x4 x5 h' => k acc' x4 x5 (by rw [List.length_cons, Nat.add_comm ds.length 1, ← Nat.add_assoc]; exact h')
theorem dg_loop {x1 x4 x5 : Option D} {p : Addr} {g : Kv} {P : Pst} {n lg : Nat} (hb : hasBag S b) (hp : S p = none) (hg : Fz n lg g) : ∀ (gs acc : Kv) (l : Nat) (x6 : Option D), (∀ q ∈ gs, q ∈ g) → Fz 20 l acc → l + gs.length < 900 →
    (∀ acc' x6, Fz 20 (l + gs.length) acc' → P.nx [some (.val (.ref b)), x1, some (fD g), some (.val (.ref p)), x4, x5, x6] (S.put p (.dT (kz acc') (dz acc')))) →
    wFor (.nm 6) (dgB K) ((kz gs).map keyTV) [some (.val (.ref b)), x1, some (fD g), some (.val (.ref p)), x4, x5, x6] (S.put p (.dT (kz acc) (dz acc))) P
  | [], acc, l, x6, _, h, hl, k => k acc x6 h
  | q :: gs, acc, l, x6, hs, h, hl, k => by
    have ih := dg_loop (x1 := x1) (x4 := x4) (x5 := x5) (P := P) hb hp hg gs
    obtain ⟨nx, rt, bk, ct, xp⟩ := P
    rw [List.length_cons] at hl
    have hb' := bag_put (m := .dT (kz acc) (dz acc)) hb hp
    have hq := hs q List.mem_cons_self
    have mq : q.1 ∈ kz g := List.mem_map_of_mem hq
    have uq := hg.fm.uk q.1 mq
    have eq := vl_in hg.fm.nd hq
    show wFor (.nm 6) (dgB K) (keyTV q.1 :: (kz gs).map keyTV) _ _ _
    unfold dgB
    try simp -implicitDefEqProofs only [wFor_c, dIfS_m, dPutT_m, dVar_m, dTup_m, dArgs_c, dArgs_n, dOp_m, dPure_m, oGetT_m, dNext_m, dtAnd_m, dtVal_m, dCall_m, dLst_m, oEq_m, mBl_b, okEq_int, bT_nm, set_6, get_0, get_2, get_6, get_3, mVar_s, eqD_int, oIx_t, at2_0, oSub_i, at2_1, List.length_cons, List.length_nil, List.cons_append, List.nil_append, Nat.reduceAdd, Nat.reduceSub, Option.some.injEq, exists_eq_left', true_and, and_true, if_true, if_false, Bool.false_eq_true, Bool.true_eq_false, Bool.not_true, Bool.not_false, reduceIte, beq_self_eq_true, decide_true, Bool.or_false, Bool.or_true, Bool.false_or, Bool.true_or, perm1, dPutT_m, oGetT_m]
    refine ev_draw hb' (by decide) (by decide) (fun r r0 r1 => ?_)
    try simp -implicitDefEqProofs only [wFor_c, dIfS_m, dPutT_m, dVar_m, dTup_m, dArgs_c, dArgs_n, dOp_m, dPure_m, oGetT_m, dNext_m, dtAnd_m, dtVal_m, dCall_m, dLst_m, oEq_m, mBl_b, okEq_int, bT_nm, set_6, get_0, get_2, get_6, get_3, mVar_s, eqD_int, oIx_t, at2_0, oSub_i, at2_1, List.length_cons, List.length_nil, List.cons_append, List.nil_append, Nat.reduceAdd, Nat.reduceSub, Option.some.injEq, exists_eq_left', true_and, and_true, if_true, if_false, Bool.false_eq_true, Bool.true_eq_false, Bool.not_true, Bool.not_false, reduceIte, beq_self_eq_true, decide_true, Bool.or_false, Bool.or_true, Bool.false_or, Bool.true_or, perm1, dPutT_m, oGetT_m]
    by_cases h0 : r = 0
    · rw [if_pos (decide_eq_true h0)]
      refine ⟨_, _, _, _, rfl, keyT_V uq.key, look_in mq, ?_⟩
      rw [eq]
      refine ev_short (fun c hc => ?_)
      try simp -implicitDefEqProofs only [wFor_c, dIfS_m, dPutT_m, dVar_m, dTup_m, dArgs_c, dArgs_n, dOp_m, dPure_m, oGetT_m, dNext_m, dtAnd_m, dtVal_m, dCall_m, dLst_m, oEq_m, mBl_b, okEq_int, bT_nm, set_6, get_0, get_2, get_6, get_3, mVar_s, eqD_int, oIx_t, at2_0, oSub_i, at2_1, List.length_cons, List.length_nil, List.cons_append, List.nil_append, Nat.reduceAdd, Nat.reduceSub, Option.some.injEq, exists_eq_left', true_and, and_true, if_true, if_false, Bool.false_eq_true, Bool.true_eq_false, Bool.not_true, Bool.not_false, reduceIte, beq_self_eq_true, decide_true, Bool.or_false, Bool.or_true, Bool.false_or, Bool.true_or, perm1, dPutT_m, oGetT_m]
      cases c with
      | true =>
        rw [if_pos rfl]
        refine ⟨_, _, _, _, rfl, keyT_V uq.key, look_in mq, ?_⟩
        rw [eq]
        unfold fr
        try simp -implicitDefEqProofs only [wFor_c, dIfS_m, dPutT_m, dVar_m, dTup_m, dArgs_c, dArgs_n, dOp_m, dPure_m, oGetT_m, dNext_m, dtAnd_m, dtVal_m, dCall_m, dLst_m, oEq_m, mBl_b, okEq_int, bT_nm, set_6, get_0, get_2, get_6, get_3, mVar_s, eqD_int, oIx_t, at2_0, oSub_i, at2_1, List.length_cons, List.length_nil, List.cons_append, List.nil_append, Nat.reduceAdd, Nat.reduceSub, Option.some.injEq, exists_eq_left', true_and, and_true, if_true, if_false, Bool.false_eq_true, Bool.true_eq_false, Bool.not_true, Bool.not_false, reduceIte, beq_self_eq_true, decide_true, Bool.or_false, Bool.or_true, Bool.false_or, Bool.true_or, perm1, dPutT_m, oGetT_m]
        refine ⟨_, _, _, _, rfl, keyT_V uq.key, look_in mq, ?_⟩
        rw [eq]
        unfold fr
        try simp -implicitDefEqProofs only [wFor_c, dIfS_m, dPutT_m, dVar_m, dTup_m, dArgs_c, dArgs_n, dOp_m, dPure_m, oGetT_m, dNext_m, dtAnd_m, dtVal_m, dCall_m, dLst_m, oEq_m, mBl_b, okEq_int, bT_nm, set_6, get_0, get_2, get_6, get_3, mVar_s, eqD_int, oIx_t, at2_0, oSub_i, at2_1, List.length_cons, List.length_nil, List.cons_append, List.nil_append, Nat.reduceAdd, Nat.reduceSub, Option.some.injEq, exists_eq_left', true_and, and_true, if_true, if_false, Bool.false_eq_true, Bool.true_eq_false, Bool.not_true, Bool.not_false, reduceIte, beq_self_eq_true, decide_true, Bool.or_false, Bool.or_true, Bool.false_or, Bool.true_or, perm1, dPutT_m, oGetT_m]
        refine ⟨p, _, _, _, rfl, put_same, by rw [List.length_map]; have := h.ln; omega, keyT_V uq.key, ?_⟩
        have en : D.tup [.int (0 - q.2.num), .int (q.2.den : Int)] = fr (-q.2) := by
          unfold fr
          rw [Rat.neg_num, Rat.neg_den, Int.zero_sub]
        rw [en, put_putS, put_kz, put_dz]
        have q0 : -q.2 ≠ 0 := fun e => hg.nz q hq (by grind)
        exact ih _ (l + 1) _ (fun t ht => hs t (List.mem_cons_of_mem _ ht)) (h.put uq q0 (Px.szr_neg (hc rfl))) (by omega) fun acc' x6 h' => k acc' x6 (by rw [List.length_cons, Nat.add_comm gs.length 1, ← Nat.add_assoc]; exact h')
      | false =>
        rw [if_neg (by simp)]
        exact ih acc (l + 1) _ (fun t ht => hs t (List.mem_cons_of_mem _ ht)) (h.up (Nat.le_refl _) (by omega)) (by omega) fun acc' x6 h' => k acc' x6 (by rw [List.length_cons, Nat.add_comm gs.length 1, ← Nat.add_assoc]; exact h')
    · rw [if_neg (by simpa using h0)]
      exact ih acc (l + 1) _ (fun t ht => hs t (List.mem_cons_of_mem _ ht)) (h.up (Nat.le_refl _) (by omega)) (by omega) fun acc' x6 h' => k acc' x6 (by rw [List.length_cons, Nat.add_comm gs.length 1, ← Nat.add_assoc]; exact h')
theorem fz_nil {n l : Nat} : Fz n l [] := ⟨fm_nil, (fun _ h => by cases h), (fun _ h => by cases h), Nat.zero_le _⟩
theorem ev_drawn_form {x y w : Str} {g : Kv} {n lg : Nat} (hb : hasBag S b) (hx : Wd 9 x) (hy : Wd 9 y) (hw : Wd 9 w) (hg : Fz n lg g) (hl : lg ≤ 800) (k : ∀ f, Fz 20 (5 + lg) f → post (fD f) S) : f__law_drawn_form K [.val (.ref b), nmD x y w, fD g] S post xp := by
  unfold f__law_drawn_form u__law_drawn_form
  try simp -implicitDefEqProofs only [dDef_3_4, dSeq_m, dRet_m, dVar_m, dFrzT_m, dFor_m, cKeysT_m, cRng_m, dArgs_c, dArgs_n, dCall_m, dPure_m, dSet_m, set_3, get_0, mVar_s, dDictT_m, get_2, get_3, List.length_cons, List.length_nil, List.cons_append, List.nil_append, Nat.reduceAdd, Nat.reduceSub, Option.some.injEq, exists_eq_left', true_and, and_true, if_true, if_false, Bool.false_eq_true, Bool.true_eq_false, Bool.not_true, Bool.not_false, reduceIte, beq_self_eq_true, decide_true, Bool.or_false, Bool.or_true, Bool.false_or, Bool.true_or, perm1, dDictT_m, cKeysT_m, dFrzT_m]
  intro p hp
  have hb' := bag_put (m := .dT [] []) hb hp
  refine ev_draw hb' (by decide) (by decide) (fun r r0 r1 => ?_)
  try simp -implicitDefEqProofs only [dDef_3_4, dSeq_m, dRet_m, dVar_m, dFrzT_m, dFor_m, cKeysT_m, cRng_m, dArgs_c, dArgs_n, dCall_m, dPure_m, dSet_m, set_3, get_0, mVar_s, dDictT_m, get_2, get_3, List.length_cons, List.length_nil, List.cons_append, List.nil_append, Nat.reduceAdd, Nat.reduceSub, Option.some.injEq, exists_eq_left', true_and, and_true, if_true, if_false, Bool.false_eq_true, Bool.true_eq_false, Bool.not_true, Bool.not_false, reduceIte, beq_self_eq_true, decide_true, Bool.or_false, Bool.or_true, Bool.false_or, Bool.true_or, perm1, dDictT_m, cKeysT_m, dFrzT_m]
  refine mRng_of ⟨by omega, by omega⟩ rfl ?_
  have lr : (rngD 0 r.toNat).length ≤ 5 := by unfold rngD; rw [List.length_map, List.length_range]; omega
  refine df_loop hb hp hx hy hw (rngD 0 r.toNat) [] 0 none none fz_nil (by omega) (fun acc x4 x5 h => ?_)
  try simp -implicitDefEqProofs only [dDef_3_4, dSeq_m, dRet_m, dVar_m, dFrzT_m, dFor_m, cKeysT_m, cRng_m, dArgs_c, dArgs_n, dCall_m, dPure_m, dSet_m, set_3, get_0, mVar_s, dDictT_m, get_2, get_3, List.length_cons, List.length_nil, List.cons_append, List.nil_append, Nat.reduceAdd, Nat.reduceSub, Option.some.injEq, exists_eq_left', true_and, and_true, if_true, if_false, Bool.false_eq_true, Bool.true_eq_false, Bool.not_true, Bool.not_false, reduceIte, beq_self_eq_true, decide_true, Bool.or_false, Bool.or_true, Bool.false_or, Bool.true_or, perm1, dDictT_m, cKeysT_m, dFrzT_m]
  refine ⟨_, _, rfl, ?_⟩
  refine dg_loop hb hp hg g acc 5 none (fun _ h => h) (h.up (Nat.le_refl _) (by omega)) (by have := hg.ln; omega) (fun f x6 hf => ?_)
  try simp -implicitDefEqProofs only [dDef_3_4, dSeq_m, dRet_m, dVar_m, dFrzT_m, dFor_m, cKeysT_m, cRng_m, dArgs_c, dArgs_n, dCall_m, dPure_m, dSet_m, set_3, get_0, mVar_s, dDictT_m, get_2, get_3, List.length_cons, List.length_nil, List.cons_append, List.nil_append, Nat.reduceAdd, Nat.reduceSub, Option.some.injEq, exists_eq_left', true_and, and_true, if_true, if_false, Bool.false_eq_true, Bool.true_eq_false, Bool.not_true, Bool.not_false, reduceIte, beq_self_eq_true, decide_true, Bool.or_false, Bool.or_true, Bool.false_or, Bool.true_or, perm1, dDictT_m, cKeysT_m, dFrzT_m]
  refine ⟨p, _, _, rfl, put_same, ?_⟩
  rw [put_del hp]
  try simp -implicitDefEqProofs only [dDef_3_4, dSeq_m, dRet_m, dVar_m, dFrzT_m, dFor_m, cKeysT_m, cRng_m, dArgs_c, dArgs_n, dCall_m, dPure_m, dSet_m, set_3, get_0, mVar_s, dDictT_m, get_2, get_3, List.length_cons, List.length_nil, List.cons_append, List.nil_append, Nat.reduceAdd, Nat.reduceSub, Option.some.injEq, exists_eq_left', true_and, and_true, if_true, if_false, Bool.false_eq_true, Bool.true_eq_false, Bool.not_true, Bool.not_false, reduceIte, beq_self_eq_true, decide_true, Bool.or_false, Bool.or_true, Bool.false_or, Bool.true_or, perm1, dDictT_m, cKeysT_m, dFrzT_m]
  exact k f (hf.up (Nat.le_refl _) (by have := hg.ln; omega))
end Dw
set_option maxHeartbeats 60000
namespace Dw
open PySem PySem.Spec PyProof.Rows L2 TL
variable {K : PySem.W.Frag} {S : Sto} {post : D → Sto → Prop} {xp : Xp} {b : Addr}
@[irreducible] def lwT9 (K : PySem.W.Frag) : DS :=
  (dSeq (dSet 4 (dCall (f__law_join K) [(dLst [(dTup [(dVar 4), (dTup [(dPure (.int 1)), (dPure (.int 1))])]), (dTup [(dVar 6), (dVar 9)])])])) (dIfS (dtNot (dtVal (dCall (f__law_like K) [(dVar 3), (dCall (f__law_tuple K) [(dVar 4)])]))) (dRet (dPure (.bl false))) dNext))
@[irreducible] def lwT8 (K : PySem.W.Frag) : DS :=
  (dSeq (dSet 3 (dCall (f_form_plus K) [(dVar 3), (dVar 10)])) (lwT9 K))
@[irreducible] def lwT7 (K : PySem.W.Frag) : DS :=
  (dSeq (dIfS (dtNot (dtVal (dCall (f__law_like K) [(dVar 10), (dCall (f__law_tuple K) [(dCall (f__law_join K) [(dLst [(dTup [(dVar 6), (dVar 9)])])])])]))) (dRet (dPure (.bl false))) dNext) (lwT8 K))
@[irreducible] def lwT6 (K : PySem.W.Frag) : DS :=
  (dSeq (dSet 10 (dCallN (f_form_times K) [0, 1] [(dCall (f__law_tuple K) [(dVar 6)])] [(dVar 9)])) (lwT7 K))
@[irreducible] def lwT5 (K : PySem.W.Frag) : DS :=
  (dSeq (dSet 9 (dCall (f__law_of K) [(dVar 1), (dLst [(dTup [(dPure (.int 0)), (dPure (.int 1))]), (dTup [(dPure (.int 1)), (dPure (.int 1))]), (dTup [(dUn oNeg (dPure (.int 1))), (dPure (.int 1))]), (dCall (f__law_number K) [(dVar 1)]), (dCall (f__law_q K) [(dOp oAdd (dPure (.int 1)) (dCall (f__law_draw K) [(dVar 1), (dPure (.int 9))])), (dPure (.int 7))])])])) (lwT6 K))
@[irreducible] def lwT3 (K : PySem.W.Frag) : DS :=
  (dSeq (dIfS (dtNot (dtVal (dCall (f__law_like K) [(dCall (f_form_plus K) [(dCall (f__law_tuple K) [(dVar 6)]), (dCall (f__law_tuple K) [(dVar 7)])]), (dVar 8)]))) (dRet (dPure (.bl false))) dNext) (dSeq (dIfS (dtNot (dtVal (dCall (f__law_like K) [(dCall (f_form_plus K) [(dCall (f__law_tuple K) [(dVar 7)]), (dCall (f__law_tuple K) [(dVar 6)])]), (dVar 8)]))) (dRet (dPure (.bl false))) dNext) (lwT5 K)))
@[irreducible] def lwT2 (K : PySem.W.Frag) : DS :=
  (dSeq (dSet 8 (dCall (f__law_tuple K) [(dCall (f__law_join K) [(dLst [(dTup [(dVar 6), (dTup [(dPure (.int 1)), (dPure (.int 1))])]), (dTup [(dVar 7), (dTup [(dPure (.int 1)), (dPure (.int 1))])])])])])) (lwT3 K))
@[irreducible] def lwT1 (K : PySem.W.Frag) : DS :=
  (dSeq (dSet 7 (dCall (f__law_drawn_form K) [(dVar 1), (dVar 2), (dVar 6)])) (lwT2 K))
@[irreducible] def lawB (K : PySem.W.Frag) : DS :=
  (dSeq (dSet 6 (dCall (f__law_drawn_form K) [(dVar 1), (dVar 2), (dIf (dtVal (dOp oEq (dCall (f__law_draw K) [(dVar 1), (dPure (.int 3))]) (dPure (.int 0)))) (dVar 4) dDictTF)])) (lwT1 K))
@[irreducible] def lawU2 (K : PySem.W.Frag) : DS :=
  (dSeq (dFor (.nm 5) (cRng [(dPure (.int 6))]) (lawB K)) (dRet (dPure (.bl true))))
@[irreducible] def lawU1 (K : PySem.W.Frag) : DS :=
  (dSeq (dPar [2, 3, 4] [(dCall (f__law_words K) [(dVar 1), (dPure (.int 3))]), (dTup []), dDictTF]) (lawU2 K))
theorem law_eq (K : PySem.W.Frag) : u_law K = (dSeq (dSet 1 (dCall (f__law_bag K) [(dVar 0)])) (lawU1 K)) := by
  unfold u_law lawU1 lawU2 lawB lwT1 lwT2 lwT3 lwT5 lwT6 lwT7 lwT8 lwT9
  rfl
abbrev lR (b : Addr) (x0 x2 x3 x4 x5 x6 x7 x8 x9 x10 : Option D) : Lc := [x0, some (.val (.ref b)), x2, x3, x4, x5, x6, x7, x8, x9, x10]
theorem vl_m1 {f : Kv} {v : Rat} (h : Fm f) (k : List Key) : vl (sumF (scl f v) []) k = vl f k * v := by
  have := vl_sum2 (v := v) (w := 1) h fm_nil k
  rw [show scl [] (1 : Rat) = [] from rfl] at this
  rw [this]
  show _ + 0 * 1 = _
  rw [Rat.zero_mul, Rat.add_zero]
theorem sum1_fm {f : Kv} {v : Rat} (h : Fm f) : Fm (sumF (scl f v) []) := sum_fm (v := v) (w := 1) h fm_nil
theorem len_nz {f g : Kv} {v w : Rat} : (nzF (sumF (scl f v) (scl g w))).length ≤ f.length + g.length := by
  refine Nat.le_trans (nz_len _) ?_
  have a := addP_len (scl f v) []
  have b : (sumF (scl f v) (scl g w)).length ≤ _ := addP_len (scl g w) (addP [] (scl f v))
  rw [List.length_nil, scl_len] at a
  rw [scl_len] at b
  omega
theorem fz_m {f : Kv} {v : Rat} {n l s : Nat} (h : Fz n l f) (hv : Px.SzR s v) (n1 : 1 ≤ n) : Fz (n + s + 1) l (nzF (sumF (scl f v) [])) := by
  have hA := sum1_fm (v := v) h.fm
  refine ⟨hA.nz, fun r hr => of_decide_eq_true (List.mem_filter.mp hr).2, fun r hr => ?_, ?_⟩
  · rw [← vl_in hA.nz.nd hr, vl_nz hA, vl_m1 h.fm]
    exact (Px.szr_mul (vl_sz n1 h.sz _) hv (Nat.le_refl _)).mono (by omega)
  · refine Nat.le_trans (nz_len _) ?_
    have a : (sumF (scl f v) []).length ≤ _ := addP_len (scl f v) []
    rw [List.length_nil, scl_len] at a
    have := h.ln
    omega
theorem t9 {x2 x5 x7 x8 x10 : Option D} {due f : Kv} {v : Rat} {n l : Nat} {nx bk ct : Lc → Sto → Prop} {rt : D → Sto → Prop} (hd : Fz n l due) (hf : Fz 20 (5 + l) f) (hv : Px.SzR 8 v) (n1 : 1 ≤ n) (hn : n ≤ 300) (hl : l ≤ 155) {x0 : Option D}
    (q : ∀ due', Fz (n + 37) (l + (5 + l)) due' → nx (lR b x0 x2 (some (tupF due')) (some (fD due')) x5 (some (fD f)) x7 x8 (some (fr v)) x10) S) :
    lwT9 K (lR b x0 x2 (some (tupF (nzF (sumF (scl (rowK due) 1) (scl (rowK (nzF (sumF (scl f v) []))) 1))))) (some (fD due)) x5 (some (fD f)) x7 x8 (some (fr v)) x10) S ⟨nx, rt, bk, ct, xp⟩ := by
  have hM := fz_m hf hv (by decide)
  have h2 := left_fz (v := 1) (w := v) hd hf (sz1.mono (by decide : 1 ≤ 8)) hv n1 (by decide)
  have e : tupF (nzF (sumF (scl (rowK due) 1) (scl (rowK (nzF (sumF (scl f v) []))) 1))) = tupF (nzF (sumF (scl due 1) (scl f v))) := told_eq (sum_fm (row_fm hd.fm) (row_fm hM.fm)) (sum_fm hd.fm hf.fm) fun k => by
    rw [vl_sum2 (row_fm hd.fm) (row_fm hM.fm), vl_sum2 hd.fm hf.fm, vl_row, vl_row, vl_nz (sum1_fm hf.fm), vl_m1 hf.fm, Rat.mul_one (vl f k * v)]
  rw [e]
  have l1 := hd.ln
  have l2 := hf.ln
  have l3 := h2.ln
  unfold lwT9
  try simp -implicitDefEqProofs only [dSeq_m, dIfS_m, dRet_m, dPure_m, dNext_m, dtNot_m, dtVal_m, dCall_m, dArgs_c, dArgs_n, dVar_m, dSet_m, set_4, get_3, get_4, mVar_s, dLst_m, dTup_m, get_9, get_6, fr_1, mBl_b, List.length_cons, List.length_nil, List.cons_append, List.nil_append, Nat.reduceAdd, Nat.reduceSub, Option.some.injEq, exists_eq_left', true_and, and_true, if_true, if_false, Bool.false_eq_true, Bool.true_eq_false, Bool.not_true, Bool.not_false, reduceIte, beq_self_eq_true, decide_true, Bool.or_false, Bool.or_true, Bool.false_or, Bool.true_or, perm1]
  refine ev_join2 (n := n + 20) (m := 8) hd.fm hf.fm (fun r hr => (hd.sz r hr).mono (by omega)) (fun r hr => (hf.sz r hr).mono (by omega)) (sz1.mono (by decide)) hv (by omega) (by omega) ?_
  try simp -implicitDefEqProofs only [dSeq_m, dIfS_m, dRet_m, dPure_m, dNext_m, dtNot_m, dtVal_m, dCall_m, dArgs_c, dArgs_n, dVar_m, dSet_m, set_4, get_3, get_4, mVar_s, dLst_m, dTup_m, get_9, get_6, fr_1, mBl_b, List.length_cons, List.length_nil, List.cons_append, List.nil_append, Nat.reduceAdd, Nat.reduceSub, Option.some.injEq, exists_eq_left', true_and, and_true, if_true, if_false, Bool.false_eq_true, Bool.true_eq_false, Bool.not_true, Bool.not_false, reduceIte, beq_self_eq_true, decide_true, Bool.or_false, Bool.or_true, Bool.false_or, Bool.true_or, perm1]
  refine ev__law_tuple h2.fm (by omega) ?_
  refine ev_like h2.fm (by omega) ?_
  try simp -implicitDefEqProofs only [dSeq_m, dIfS_m, dRet_m, dPure_m, dNext_m, dtNot_m, dtVal_m, dCall_m, dArgs_c, dArgs_n, dVar_m, dSet_m, set_4, get_3, get_4, mVar_s, dLst_m, dTup_m, get_9, get_6, fr_1, mBl_b, List.length_cons, List.length_nil, List.cons_append, List.nil_append, Nat.reduceAdd, Nat.reduceSub, Option.some.injEq, exists_eq_left', true_and, and_true, if_true, if_false, Bool.false_eq_true, Bool.true_eq_false, Bool.not_true, Bool.not_false, reduceIte, beq_self_eq_true, decide_true, Bool.or_false, Bool.or_true, Bool.false_or, Bool.true_or, perm1]
  exact q _ (h2.up (by omega) (Nat.le_refl _))
theorem t6 {x2 x5 x7 x8 x10 : Option D} {due f : Kv} {v : Rat} {n l : Nat} {nx bk ct : Lc → Sto → Prop} {rt : D → Sto → Prop} (hd : Fz n l due) (hf : Fz 20 (5 + l) f) (hv : Px.SzR 8 v) (n1 : 1 ≤ n) (hn : n ≤ 300) (hl : l ≤ 155) {x0 : Option D}
    (q : ∀ due' x10, Fz (n + 37) (l + (5 + l)) due' → nx (lR b x0 x2 (some (tupF due')) (some (fD due')) x5 (some (fD f)) x7 x8 (some (fr v)) x10) S) :
    lwT6 K (lR b x0 x2 (some (tupF due)) (some (fD due)) x5 (some (fD f)) x7 x8 (some (fr v)) x10) S ⟨nx, rt, bk, ct, xp⟩ := by
  have hM := fz_m hf hv (by decide)
  have l1 := hd.ln
  have l2 := hf.ln
  have l3 := hM.ln
  unfold lwT6
  try simp -implicitDefEqProofs only [dSeq_m, dSet_m, set_10, dCallN_m, dArgs_c, dArgs_n, dVar_m, get_9, mVar_s, permD_01, dCall_m, get_6, dIfS_m, dRet_m, dPure_m, dNext_m, dtNot_m, dtVal_m, dLst_m, dTup_m, get_10, mBl_b, set_3, get_3, List.length_cons, List.length_nil, List.cons_append, List.nil_append, Nat.reduceAdd, Nat.reduceSub, Option.some.injEq, exists_eq_left', true_and, and_true, if_true, if_false, Bool.false_eq_true, Bool.true_eq_false, Bool.not_true, Bool.not_false, reduceIte, beq_self_eq_true, decide_true, Bool.or_false, Bool.or_true, Bool.false_or, Bool.true_or, dCallN_m, perm1]
  refine ev__law_tuple hf.fm (by omega) ?_
  refine ev_form_times (n := 20) (m := 8) hf.fm hf.sz hv (by decide) (by omega) ?_
  rw [told_one hf.fm]
  unfold lwT7
  try simp -implicitDefEqProofs only [dSeq_m, dSet_m, set_10, dCallN_m, dArgs_c, dArgs_n, dVar_m, get_9, mVar_s, permD_01, dCall_m, get_6, dIfS_m, dRet_m, dPure_m, dNext_m, dtNot_m, dtVal_m, dLst_m, dTup_m, get_10, mBl_b, set_3, get_3, List.length_cons, List.length_nil, List.cons_append, List.nil_append, Nat.reduceAdd, Nat.reduceSub, Option.some.injEq, exists_eq_left', true_and, and_true, if_true, if_false, Bool.false_eq_true, Bool.true_eq_false, Bool.not_true, Bool.not_false, reduceIte, beq_self_eq_true, decide_true, Bool.or_false, Bool.or_true, Bool.false_or, Bool.true_or, dCallN_m, perm1]
  refine ev_join1 (n := 20) (m := 8) hf.fm hf.sz hv (by decide) (by omega) ?_
  refine ev__law_tuple hM.fm (by omega) ?_
  refine ev_like hM.fm (by omega) ?_
  try simp -implicitDefEqProofs only [dSeq_m, dSet_m, set_10, dCallN_m, dArgs_c, dArgs_n, dVar_m, get_9, mVar_s, permD_01, dCall_m, get_6, dIfS_m, dRet_m, dPure_m, dNext_m, dtNot_m, dtVal_m, dLst_m, dTup_m, get_10, mBl_b, set_3, get_3, List.length_cons, List.length_nil, List.cons_append, List.nil_append, Nat.reduceAdd, Nat.reduceSub, Option.some.injEq, exists_eq_left', true_and, and_true, if_true, if_false, Bool.false_eq_true, Bool.true_eq_false, Bool.not_true, Bool.not_false, reduceIte, beq_self_eq_true, decide_true, Bool.or_false, Bool.or_true, Bool.false_or, Bool.true_or, dCallN_m, perm1]
  unfold lwT8
  try simp -implicitDefEqProofs only [dSeq_m, dSet_m, set_10, dCallN_m, dArgs_c, dArgs_n, dVar_m, get_9, mVar_s, permD_01, dCall_m, get_6, dIfS_m, dRet_m, dPure_m, dNext_m, dtNot_m, dtVal_m, dLst_m, dTup_m, get_10, mBl_b, set_3, get_3, List.length_cons, List.length_nil, List.cons_append, List.nil_append, Nat.reduceAdd, Nat.reduceSub, Option.some.injEq, exists_eq_left', true_and, and_true, if_true, if_false, Bool.false_eq_true, Bool.true_eq_false, Bool.not_true, Bool.not_false, reduceIte, beq_self_eq_true, decide_true, Bool.or_false, Bool.or_true, Bool.false_or, Bool.true_or, dCallN_m, perm1]
  refine ev_form_plus (n := n + 29) hd.fm hM.fm (fun r hr => (hd.sz r hr).mono (by omega)) (fun r hr => (hM.sz r hr).mono (by omega)) (by omega) (by omega) ?_
  exact t9 hd hf hv n1 hn hl fun due' h => q due' _ h
theorem t1 {x y w : Str} {due f : Kv} {n l : Nat} {x0 x5 x7 x8 x9 x10 : Option D} {nx bk ct : Lc → Sto → Prop} {rt : D → Sto → Prop} (hb : hasBag S b) (hx : Wd 9 x) (hy : Wd 9 y) (hw : Wd 9 w) (hd : Fz n l due) (hf : Fz 20 (5 + l) f) (n1 : 1 ≤ n) (hn : n ≤ 300) (hl : l ≤ 155)
    (q : ∀ due' x6 x7 x8 x9 x10, Fz (n + 37) (l + (5 + l)) due' → nx (lR b x0 (some (nmD x y w)) (some (tupF due')) (some (fD due')) x5 x6 x7 x8 x9 x10) S) :
    lwT1 K (lR b x0 (some (nmD x y w)) (some (tupF due)) (some (fD due)) x5 (some (fD f)) x7 x8 x9 x10) S ⟨nx, rt, bk, ct, xp⟩ := by
  have l2 := hf.ln
  unfold lwT1
  try simp -implicitDefEqProofs only [dSeq_m, dSet_m, set_7, dCall_m, dArgs_c, dArgs_n, dVar_m, get_6, mVar_s, get_2, get_1, set_8, dLst_m, dTup_m, dPure_m, fr_1, get_7, dIfS_m, dRet_m, dNext_m, dtNot_m, dtVal_m, get_8, mBl_b, set_9, dOp_m, dUn_m, oNeg_i, fr_m1, fr_0, oAdd_i, List.length_cons, List.length_nil, List.cons_append, List.nil_append, Nat.reduceAdd, Nat.reduceSub, Option.some.injEq, exists_eq_left', true_and, and_true, if_true, if_false, Bool.false_eq_true, Bool.true_eq_false, Bool.not_true, Bool.not_false, reduceIte, beq_self_eq_true, decide_true, Bool.or_false, Bool.or_true, Bool.false_or, Bool.true_or, perm1]
  refine ev_drawn_form hb hx hy hw hf (by omega) (fun g hg => ?_)
  have l3 := hg.ln
  have hB := sum_fm (v := 1) (w := 1) hf.fm hg.fm
  have lB : (nzF (sumF (scl f 1) (scl g 1))).length ≤ 1000 := Nat.le_trans len_nz (by omega)
  unfold lwT2
  try simp -implicitDefEqProofs only [dSeq_m, dSet_m, set_7, dCall_m, dArgs_c, dArgs_n, dVar_m, get_6, mVar_s, get_2, get_1, set_8, dLst_m, dTup_m, dPure_m, fr_1, get_7, dIfS_m, dRet_m, dNext_m, dtNot_m, dtVal_m, get_8, mBl_b, set_9, dOp_m, dUn_m, oNeg_i, fr_m1, fr_0, oAdd_i, List.length_cons, List.length_nil, List.cons_append, List.nil_append, Nat.reduceAdd, Nat.reduceSub, Option.some.injEq, exists_eq_left', true_and, and_true, if_true, if_false, Bool.false_eq_true, Bool.true_eq_false, Bool.not_true, Bool.not_false, reduceIte, beq_self_eq_true, decide_true, Bool.or_false, Bool.or_true, Bool.false_or, Bool.true_or, perm1]
  refine ev_join2 (n := 20) (m := 1) hf.fm hg.fm hf.sz hg.sz sz1 sz1 (by decide) (by omega) ?_
  refine ev__law_tuple hB.nz lB ?_
  unfold lwT3
  try simp -implicitDefEqProofs only [dSeq_m, dSet_m, set_7, dCall_m, dArgs_c, dArgs_n, dVar_m, get_6, mVar_s, get_2, get_1, set_8, dLst_m, dTup_m, dPure_m, fr_1, get_7, dIfS_m, dRet_m, dNext_m, dtNot_m, dtVal_m, get_8, mBl_b, set_9, dOp_m, dUn_m, oNeg_i, fr_m1, fr_0, oAdd_i, List.length_cons, List.length_nil, List.cons_append, List.nil_append, Nat.reduceAdd, Nat.reduceSub, Option.some.injEq, exists_eq_left', true_and, and_true, if_true, if_false, Bool.false_eq_true, Bool.true_eq_false, Bool.not_true, Bool.not_false, reduceIte, beq_self_eq_true, decide_true, Bool.or_false, Bool.or_true, Bool.false_or, Bool.true_or, perm1]
  refine ev__law_tuple hf.fm (by omega) ?_
  refine ev__law_tuple hg.fm (by omega) ?_
  refine ev_form_plus (n := 20) hf.fm hg.fm hf.sz hg.sz (by decide) (by omega) ?_
  rw [told_sum hf.fm hg.fm]
  refine ev_like hB.nz lB ?_
  try simp -implicitDefEqProofs only [dSeq_m, dSet_m, set_7, dCall_m, dArgs_c, dArgs_n, dVar_m, get_6, mVar_s, get_2, get_1, set_8, dLst_m, dTup_m, dPure_m, fr_1, get_7, dIfS_m, dRet_m, dNext_m, dtNot_m, dtVal_m, get_8, mBl_b, set_9, dOp_m, dUn_m, oNeg_i, fr_m1, fr_0, oAdd_i, List.length_cons, List.length_nil, List.cons_append, List.nil_append, Nat.reduceAdd, Nat.reduceSub, Option.some.injEq, exists_eq_left', true_and, and_true, if_true, if_false, Bool.false_eq_true, Bool.true_eq_false, Bool.not_true, Bool.not_false, reduceIte, beq_self_eq_true, decide_true, Bool.or_false, Bool.or_true, Bool.false_or, Bool.true_or, perm1]
  refine ev__law_tuple hg.fm (by omega) ?_
  refine ev__law_tuple hf.fm (by omega) ?_
  refine ev_form_plus (n := 20) hg.fm hf.fm hg.sz hf.sz (by decide) (by omega) ?_
  rw [told_swap hf.fm hg.fm]
  refine ev_like hB.nz lB ?_
  try simp -implicitDefEqProofs only [dSeq_m, dSet_m, set_7, dCall_m, dArgs_c, dArgs_n, dVar_m, get_6, mVar_s, get_2, get_1, set_8, dLst_m, dTup_m, dPure_m, fr_1, get_7, dIfS_m, dRet_m, dNext_m, dtNot_m, dtVal_m, get_8, mBl_b, set_9, dOp_m, dUn_m, oNeg_i, fr_m1, fr_0, oAdd_i, List.length_cons, List.length_nil, List.cons_append, List.nil_append, Nat.reduceAdd, Nat.reduceSub, Option.some.injEq, exists_eq_left', true_and, and_true, if_true, if_false, Bool.false_eq_true, Bool.true_eq_false, Bool.not_true, Bool.not_false, reduceIte, beq_self_eq_true, decide_true, Bool.or_false, Bool.or_true, Bool.false_or, Bool.true_or, perm1]
  unfold lwT5
  try simp -implicitDefEqProofs only [dSeq_m, dSet_m, set_7, dCall_m, dArgs_c, dArgs_n, dVar_m, get_6, mVar_s, get_2, get_1, set_8, dLst_m, dTup_m, dPure_m, fr_1, get_7, dIfS_m, dRet_m, dNext_m, dtNot_m, dtVal_m, get_8, mBl_b, set_9, dOp_m, dUn_m, oNeg_i, fr_m1, fr_0, oAdd_i, List.length_cons, List.length_nil, List.cons_append, List.nil_append, Nat.reduceAdd, Nat.reduceSub, Option.some.injEq, exists_eq_left', true_and, and_true, if_true, if_false, Bool.false_eq_true, Bool.true_eq_false, Bool.not_true, Bool.not_false, reduceIte, beq_self_eq_true, decide_true, Bool.or_false, Bool.or_true, Bool.false_or, Bool.true_or, perm1]
  refine ev_number hb (fun u hu => ?_)
  try simp -implicitDefEqProofs only [dSeq_m, dSet_m, set_7, dCall_m, dArgs_c, dArgs_n, dVar_m, get_6, mVar_s, get_2, get_1, set_8, dLst_m, dTup_m, dPure_m, fr_1, get_7, dIfS_m, dRet_m, dNext_m, dtNot_m, dtVal_m, get_8, mBl_b, set_9, dOp_m, dUn_m, oNeg_i, fr_m1, fr_0, oAdd_i, List.length_cons, List.length_nil, List.cons_append, List.nil_append, Nat.reduceAdd, Nat.reduceSub, Option.some.injEq, exists_eq_left', true_and, and_true, if_true, if_false, Bool.false_eq_true, Bool.true_eq_false, Bool.not_true, Bool.not_false, reduceIte, beq_self_eq_true, decide_true, Bool.or_false, Bool.or_true, Bool.false_or, Bool.true_or, perm1]
  refine ev_draw hb (by decide) (by decide) (fun r r0 r1 => ?_)
  try simp -implicitDefEqProofs only [dSeq_m, dSet_m, set_7, dCall_m, dArgs_c, dArgs_n, dVar_m, get_6, mVar_s, get_2, get_1, set_8, dLst_m, dTup_m, dPure_m, fr_1, get_7, dIfS_m, dRet_m, dNext_m, dtNot_m, dtVal_m, get_8, mBl_b, set_9, dOp_m, dUn_m, oNeg_i, fr_m1, fr_0, oAdd_i, List.length_cons, List.length_nil, List.cons_append, List.nil_append, Nat.reduceAdd, Nat.reduceSub, Option.some.injEq, exists_eq_left', true_and, and_true, if_true, if_false, Bool.false_eq_true, Bool.true_eq_false, Bool.not_true, Bool.not_false, reduceIte, beq_self_eq_true, decide_true, Bool.or_false, Bool.or_true, Bool.false_or, Bool.true_or, perm1]
  refine ev__law_q (n := 3) (by decide) (szI (by decide)) (by decide) ?_
  try simp -implicitDefEqProofs only [dSeq_m, dSet_m, set_7, dCall_m, dArgs_c, dArgs_n, dVar_m, get_6, mVar_s, get_2, get_1, set_8, dLst_m, dTup_m, dPure_m, fr_1, get_7, dIfS_m, dRet_m, dNext_m, dtNot_m, dtVal_m, get_8, mBl_b, set_9, dOp_m, dUn_m, oNeg_i, fr_m1, fr_0, oAdd_i, List.length_cons, List.length_nil, List.cons_append, List.nil_append, Nat.reduceAdd, Nat.reduceSub, Option.some.injEq, exists_eq_left', true_and, and_true, if_true, if_false, Bool.false_eq_true, Bool.true_eq_false, Bool.not_true, Bool.not_false, reduceIte, beq_self_eq_true, decide_true, Bool.or_false, Bool.or_true, Bool.false_or, Bool.true_or, perm1]
  have z7 : Px.SzR 8 (Rat.divInt (1 + r) 7) := (Px.divInt_sz (n := 4) (szI (by omega)) (szI (by decide)) (by decide)).mono (by decide)
  refine ev__law_of hb (by simp) (by simp) (fun d hd' => ?_)
  have hv : ∃ v : Rat, d = fr v ∧ Px.SzR 8 v := by
    simp only [List.mem_cons, List.not_mem_nil, or_false] at hd'
    rcases hd' with rfl | rfl | rfl | rfl | rfl
    · exact ⟨0, rfl, Px.szr_lit 8 0⟩
    · exact ⟨1, rfl, Px.szr_lit 8 1⟩
    · exact ⟨-1, rfl, Px.szr_lit 8 (-1)⟩
    · exact ⟨_, rfl, hu⟩
    · exact ⟨_, rfl, z7⟩
  obtain ⟨v, rfl, hv⟩ := hv
  exact t6 hd hf hv n1 hn hl fun due' x10 h => q due' _ _ _ _ _ h
theorem body21 {x y w : Str} {due : Kv} {n l : Nat} {x0 x5 x6 x7 x8 x9 x10 : Option D} {nx bk ct : Lc → Sto → Prop} {rt : D → Sto → Prop} (hb : hasBag S b) (hx : Wd 9 x) (hy : Wd 9 y) (hw : Wd 9 w) (hd : Fz n l due) (n1 : 1 ≤ n) (hn : n ≤ 300) (hl : l ≤ 155)
    (q : ∀ due' x6 x7 x8 x9 x10, Fz (n + 37) (l + (5 + l)) due' → nx (lR b x0 (some (nmD x y w)) (some (tupF due')) (some (fD due')) x5 x6 x7 x8 x9 x10) S) :
    lawB K (lR b x0 (some (nmD x y w)) (some (tupF due)) (some (fD due)) x5 x6 x7 x8 x9 x10) S ⟨nx, rt, bk, ct, xp⟩ := by
  unfold lawB
  try simp -implicitDefEqProofs only [dSeq_m, dSet_m, set_6, dCall_m, dArgs_c, dArgs_n, dIf_m, dVar_m, get_4, mVar_s, dDictTF_m, dtVal_m, dOp_m, oEq_m, mBl_b, dPure_m, okEq_int, get_1, get_2, eqD_int, List.length_cons, List.length_nil, List.cons_append, List.nil_append, Nat.reduceAdd, Nat.reduceSub, Option.some.injEq, exists_eq_left', true_and, and_true, if_true, if_false, Bool.false_eq_true, Bool.true_eq_false, Bool.not_true, Bool.not_false, reduceIte, beq_self_eq_true, decide_true, Bool.or_false, Bool.or_true, Bool.false_or, Bool.true_or, perm1, dDictTF_m]
  refine ev_draw hb (by decide) (by decide) (fun r r0 r1 => ?_)
  try simp -implicitDefEqProofs only [dSeq_m, dSet_m, set_6, dCall_m, dArgs_c, dArgs_n, dIf_m, dVar_m, get_4, mVar_s, dDictTF_m, dtVal_m, dOp_m, oEq_m, mBl_b, dPure_m, okEq_int, get_1, get_2, eqD_int, List.length_cons, List.length_nil, List.cons_append, List.nil_append, Nat.reduceAdd, Nat.reduceSub, Option.some.injEq, exists_eq_left', true_and, and_true, if_true, if_false, Bool.false_eq_true, Bool.true_eq_false, Bool.not_true, Bool.not_false, reduceIte, beq_self_eq_true, decide_true, Bool.or_false, Bool.or_true, Bool.false_or, Bool.true_or, perm1, dDictTF_m]
  by_cases h0 : r = 0
  · rw [if_pos (decide_eq_true h0)]
    refine ev_drawn_form hb hx hy hw hd (by omega) (fun f hf => ?_)
    exact t1 hb hx hy hw hd hf n1 hn hl q
  · rw [if_neg (by simpa using h0)]
    refine ev_drawn_form (g := []) (n := 1) (lg := 0) hb hx hy hw fz_nil (by decide) (fun f hf => ?_)
    exact t1 hb hx hy hw hd (hf.up (Nat.le_refl _) (by omega)) n1 hn hl q
theorem gSl_scr (ns : List Int) (lo hi : Option Int) (S : Sto) (post : D → Sto → Prop) (xp : Xp) : gSl (.scr ns) lo hi S post xp = post (.lst ((cutD ns lo hi).map .int)) S := by exact id rfl
theorem dBag_m (fs : List DE) (ρ : Lc) (S : Sto) (post : D → Sto → Prop) (xp : Xp) : dBag fs ρ S post xp = dArgs fs ρ S (fun ds S' => ∃ ns y, ds = [.lst (ns.map .int), .int 0, .int 0, .int y, .int 0] ∧ 0 ≤ y ∧ y < 2147483648 ∧ ∀ a c, S' a = none → post (.val (.ref a)) (S'.put a (.bag c ns))) xp := by exact id rfl
abbrev bgB : DS := (dSet 1 (dOp oMod (dCall gInt [(dOp oAdd (dOp oAdd (dOp oMulS (dVar 1) (dPure (.int 40692))) (dOp oMod (dCall gInt [(dVar 2)]) (dPure (.int 2147483587)))) (dPure (.int 53)))]) (dPure (.int 2147483549))))
theorem bag_loop {x0 : Option D} {P : Pst} : ∀ (cs : List Int) (y : Int) (x2 : Option D), 0 ≤ y → y < 2147483549 → (∀ y x2, 0 ≤ y → y < 2147483549 → P.nx [x0, some (.int y), x2] S) → wFor (.nm 2) bgB (cs.map .int) [x0, some (.int y), x2] S P
  | [], y, x2, y0, y1, k => k y x2 y0 y1
  | c :: cs, y, x2, y0, y1, k => by
    have ih := bag_loop (x0 := x0) (P := P) cs
    obtain ⟨nx, rt, bk, ct, xp⟩ := P
    rw [List.map_cons]
    unfold bgB
    try simp -implicitDefEqProofs only [wFor_c, dSet_m, dOp_m, dPure_m, dCall_m, dArgs_c, dArgs_n, dVar_m, bT_nm, set_2, get_1, get_2, set_1, mVar_s, gInt_i, oMod_i, oMulS_i, oAdd_i, List.length_cons, List.length_nil, List.cons_append, List.nil_append, Nat.reduceAdd, Nat.reduceSub, Option.some.injEq, exists_eq_left', true_and, and_true, if_true, if_false, Bool.false_eq_true, Bool.true_eq_false, Bool.not_true, Bool.not_false, reduceIte, beq_self_eq_true, decide_true, Bool.or_false, Bool.or_true, Bool.false_or, Bool.true_or, perm1, oMulS_i]
    refine ⟨.inl ⟨by omega, by omega⟩, by decide, by decide, ?_⟩
    refine ih _ _ ?_ ?_ k
    · exact Int.fmod_nonneg_of_pos _ (by decide)
    · exact Int.fmod_lt_of_pos _ (by decide)
theorem ev_bag {ns : List Int} (k : ∀ a S', hasBag S' a → post (.val (.ref a)) S') : f__law_bag K [.scr ns] S post xp := by
  unfold f__law_bag u__law_bag
  try simp -implicitDefEqProofs only [dDef_1_2, dSeq_m, dRet_m, dArgs_c, dArgs_n, dPure_m, dVar_m, dCall_m, dSl_m, dPart_m, mInt_i, dNoPart_m, dFor_m, cSeq_m, dSet_m, set_1, get_0, mVar_s, mSeq_l, get_1, gList_l, List.length_cons, List.length_nil, List.cons_append, List.nil_append, Nat.reduceAdd, Nat.reduceSub, Option.some.injEq, exists_eq_left', true_and, and_true, if_true, if_false, Bool.false_eq_true, Bool.true_eq_false, Bool.not_true, Bool.not_false, reduceIte, beq_self_eq_true, decide_true, Bool.or_false, Bool.or_true, Bool.false_or, Bool.true_or, perm1, dSl_m, dNoPart_m, dPart_m, mInt_i, gSl_scr, dBag_m]
  generalize hc : cutD ns none (some 63) = cs
  refine bag_loop cs 12036 none (by decide) (by decide) (fun y x2 y0 y1 => ?_)
  try simp -implicitDefEqProofs only [dDef_1_2, dSeq_m, dRet_m, dArgs_c, dArgs_n, dPure_m, dVar_m, dCall_m, dSl_m, dPart_m, mInt_i, dNoPart_m, dFor_m, cSeq_m, dSet_m, set_1, get_0, mVar_s, mSeq_l, get_1, gList_l, List.length_cons, List.length_nil, List.cons_append, List.nil_append, Nat.reduceAdd, Nat.reduceSub, Option.some.injEq, exists_eq_left', true_and, and_true, if_true, if_false, Bool.false_eq_true, Bool.true_eq_false, Bool.not_true, Bool.not_false, reduceIte, beq_self_eq_true, decide_true, Bool.or_false, Bool.or_true, Bool.false_or, Bool.true_or, perm1, dSl_m, dNoPart_m, dPart_m, mInt_i, gSl_scr, dBag_m]
  rw [hc]
  exact ⟨cs, y, rfl, y0, by omega, fun a c ha => k a _ ⟨c, cs, put_same⟩⟩
theorem law_loop {x y w : Str} {x0 : Option D} {P : Pst} (hb : hasBag S b) (hx : Wd 9 x) (hy : Wd 9 y) (hw : Wd 9 w) : ∀ (m : Nat) (is : List Int) (due : Kv) (n l : Nat) (x5 x6 x7 x8 x9 x10 : Option D), is.length = m → m ≤ 6 → n = 1 + 37 * (6 - m) → l = 5 * (2 ^ (6 - m) - 1) → Fz n l due → (∀ x3 x4 x5 x6 x7 x8 x9 x10, P.nx (lR b x0 (some (nmD x y w)) x3 x4 x5 x6 x7 x8 x9 x10) S) →
    wFor (.nm 5) (lawB K) (is.map .int) (lR b x0 (some (nmD x y w)) (some (tupF due)) (some (fD due)) x5 x6 x7 x8 x9 x10) S P
  | 0, is, due, n, l, x5, x6, x7, x8, x9, x10, e, _, _, _, h, k => by
    rw [List.length_eq_zero_iff.mp e]
    obtain ⟨nx, rt, bk, ct, xp⟩ := P
    try simp -implicitDefEqProofs only [wFor_c, bT_nm, set_5, List.length_cons, List.length_nil, List.cons_append, List.nil_append, Nat.reduceAdd, Nat.reduceSub, Option.some.injEq, exists_eq_left', true_and, and_true, if_true, if_false, Bool.false_eq_true, Bool.true_eq_false, Bool.not_true, Bool.not_false, reduceIte, beq_self_eq_true, decide_true, Bool.or_false, Bool.or_true, Bool.false_or, Bool.true_or, perm1]
    exact k _ _ _ _ _ _ _ _
  | m + 1, is, due, n, l, x5, x6, x7, x8, x9, x10, e, hm, en, el, h, k => by
    have ih := law_loop (x0 := x0) (P := P) hb hx hy hw m
    obtain ⟨nx, rt, bk, ct, xp⟩ := P
    match is, e with
    | i :: is, e =>
      rw [List.length_cons] at e
      rw [List.map_cons]
      try simp -implicitDefEqProofs only [wFor_c, bT_nm, set_5, List.length_cons, List.length_nil, List.cons_append, List.nil_append, Nat.reduceAdd, Nat.reduceSub, Option.some.injEq, exists_eq_left', true_and, and_true, if_true, if_false, Bool.false_eq_true, Bool.true_eq_false, Bool.not_true, Bool.not_false, reduceIte, beq_self_eq_true, decide_true, Bool.or_false, Bool.or_true, Bool.false_or, Bool.true_or, perm1]
      have hl : l ≤ 155 ∧ l + (5 + l) = 5 * (2 ^ (6 - m) - 1) := by
        subst el
        have : m = 0 ∨ m = 1 ∨ m = 2 ∨ m = 3 ∨ m = 4 ∨ m = 5 := by omega
        rcases this with rfl | rfl | rfl | rfl | rfl | rfl <;> decide
      refine body21 hb hx hy hw h (by omega) (by omega) hl.1 (fun due' x6 x7 x8 x9 x10 h' => ?_)
      exact ih is due' _ _ _ _ _ _ _ _ (by omega) (by omega) (by omega : n + 37 = 1 + 37 * (6 - m)) hl.2 h' k
theorem tup_nil : tupF [] = .tup [] := by
  unfold tupF rowK sortKT
  simp [kz]
theorem law_true {ns : List Int} (hlen : ns.length ≤ 63) : f_law K [.scr ns] (fun _ => none) (fun d _ => d = .bl true) noX := by
  unfold f_law
  rw [law_eq]
  try simp -implicitDefEqProofs only [dSeq_m, dPar_m, dArgs_c, setL_c, dArgs_n, setL_n, dDictTF_m, dTup_m, dCall_m, dPure_m, dVar_m, dRet_m, dFor_m, cRng_m, List.length_cons, List.length_nil, List.cons_append, List.nil_append, Nat.reduceAdd, Nat.reduceSub, Option.some.injEq, exists_eq_left', true_and, and_true, if_true, if_false, Bool.false_eq_true, Bool.true_eq_false, Bool.not_true, Bool.not_false, reduceIte, beq_self_eq_true, decide_true, Bool.or_false, Bool.or_true, Bool.false_or, Bool.true_or, perm1, dDictTF_m]
  refine ev_bag (fun b S hb => ?_)
  unfold lawU1
  try simp -implicitDefEqProofs only [dSeq_m, dPar_m, dArgs_c, setL_c, dArgs_n, setL_n, dDictTF_m, dTup_m, dCall_m, dPure_m, dVar_m, dRet_m, dFor_m, cRng_m, List.length_cons, List.length_nil, List.cons_append, List.nil_append, Nat.reduceAdd, Nat.reduceSub, Option.some.injEq, exists_eq_left', true_and, and_true, if_true, if_false, Bool.false_eq_true, Bool.true_eq_false, Bool.not_true, Bool.not_false, reduceIte, beq_self_eq_true, decide_true, Bool.or_false, Bool.or_true, Bool.false_or, Bool.true_or, perm1, dDictTF_m]
  refine ev__law_words hb (fun x y w hx hy hw => ?_)
  try simp -implicitDefEqProofs only [dSeq_m, dPar_m, dArgs_c, setL_c, dArgs_n, setL_n, dDictTF_m, dTup_m, dCall_m, dPure_m, dVar_m, dRet_m, dFor_m, cRng_m, List.length_cons, List.length_nil, List.cons_append, List.nil_append, Nat.reduceAdd, Nat.reduceSub, Option.some.injEq, exists_eq_left', true_and, and_true, if_true, if_false, Bool.false_eq_true, Bool.true_eq_false, Bool.not_true, Bool.not_false, reduceIte, beq_self_eq_true, decide_true, Bool.or_false, Bool.or_true, Bool.false_or, Bool.true_or, perm1, dDictTF_m]
  unfold lawU2
  try simp -implicitDefEqProofs only [dSeq_m, dPar_m, dArgs_c, setL_c, dArgs_n, setL_n, dDictTF_m, dTup_m, dCall_m, dPure_m, dVar_m, dRet_m, dFor_m, cRng_m, List.length_cons, List.length_nil, List.cons_append, List.nil_append, Nat.reduceAdd, Nat.reduceSub, Option.some.injEq, exists_eq_left', true_and, and_true, if_true, if_false, Bool.false_eq_true, Bool.true_eq_false, Bool.not_true, Bool.not_false, reduceIte, beq_self_eq_true, decide_true, Bool.or_false, Bool.or_true, Bool.false_or, Bool.true_or, perm1, dDictTF_m]
  refine mRng_of (xs := ([0, 1, 2, 3, 4, 5] : List Int).map .int) (by decide) rfl ?_
  rw [← tup_nil]
  refine law_loop hb hx hy hw 6 [0, 1, 2, 3, 4, 5] [] 1 0 _ _ _ _ _ _ rfl (by decide) rfl rfl fz_nil (fun x3 x4 x5 x6 x7 x8 x9 x10 => ?_)
  try simp -implicitDefEqProofs only [dSeq_m, dPar_m, dArgs_c, setL_c, dArgs_n, setL_n, dDictTF_m, dTup_m, dCall_m, dPure_m, dVar_m, dRet_m, dFor_m, cRng_m, List.length_cons, List.length_nil, List.cons_append, List.nil_append, Nat.reduceAdd, Nat.reduceSub, Option.some.injEq, exists_eq_left', true_and, and_true, if_true, if_false, Bool.false_eq_true, Bool.true_eq_false, Bool.not_true, Bool.not_false, reduceIte, beq_self_eq_true, decide_true, Bool.or_false, Bool.or_true, Bool.false_or, Bool.true_or, perm1, dDictTF_m]
end Dw
set_option maxHeartbeats 2000000
namespace Dw
open PySem PySem.Spec PyProof.Rows L2
theorem law_at {w : World} {K : PySem.W.Frag} {h : Heap} {mg : Str → Option Value} {f0 : Addr} (X : K.In h) (c : SaysY fa fx tf ex h K) (G : h.Ns mainGlobals mg) (hfa : mg "law" = some (.ref f0)) :
    LamX.LawAtS PySem.Challenge.rw_lostland_k21_forms_put_together w K (L2.CX PySem.Challenge.pw_lostland_k21_forms_put_together w) 8 63 "_law_script" mg f0 h := by
  obtain ⟨fd__law_bag, D__law_bag⟩ := c.funD 0
  obtain ⟨fd__law_draw, D__law_draw⟩ := c.funD 1
  obtain ⟨fd__law_of, D__law_of⟩ := c.funD 2
  obtain ⟨fd__law_words, D__law_words⟩ := c.funD 3
  obtain ⟨fd__law_gcd, D__law_gcd⟩ := c.funD 4
  obtain ⟨fd__law_q, D__law_q⟩ := c.funD 5
  obtain ⟨fd__law_number, D__law_number⟩ := c.funD 6
  obtain ⟨fd__law_unknown, D__law_unknown⟩ := c.funD 7
  obtain ⟨fd__law_short, D__law_short⟩ := c.funD 8
  obtain ⟨fd__law_drawn_form, D__law_drawn_form⟩ := c.funD 9
  obtain ⟨fd__law_tuple, D__law_tuple⟩ := c.funD 10
  obtain ⟨fd__law_plus, D__law_plus⟩ := c.funD 11
  obtain ⟨fd__law_times, D__law_times⟩ := c.funD 12
  obtain ⟨fd__law_join, D__law_join⟩ := c.funD 13
  obtain ⟨fd__law_like, D__law_like⟩ := c.funD 14
  obtain ⟨fd_fraction, D_fraction⟩ := c.funD 15
  obtain ⟨fd_plus, D_plus⟩ := c.funD 16
  obtain ⟨fd_put_together, D_put_together⟩ := c.funD 17
  obtain ⟨fd_times, D_times⟩ := c.funD 18
  obtain ⟨fd_mixture, D_mixture⟩ := c.funD 19
  obtain ⟨fd_form_plus, D_form_plus⟩ := c.funD 20
  obtain ⟨fd_form_times, D_form_times⟩ := c.funD 21
  obtain ⟨fd_law, D_law⟩ := c.funD 22
  have M_law : mg "law" = some (.ref (He.ga K "law")) := (He.glo_ok X G (c.fact 35))
  have e := hfa.symm.trans M_law
  cases e
  have Flaw : Fun K "law" "law" s_law (He.ga K "law") fd_law := Px.fun_of D_law
  have YY : ∀ base : Heap, (∀ p ∈ tf.map (He.cT K), LamX.TabB base mg p.1 p.2) → Tx PySem.Challenge.pw_lostland_k21_forms_put_together w K mg base (tf.map fun x => ((He.cT K x).2, lamQ x)) := fun base hTB => { gcd := PySem.W.mg_of X G (of_decide_eq_true (c.more 2)), isi := isiKB_ok (c.more 3), boo := boolB_ok (c.more 4), b_int := He.free_ok X G (c.fact 0), b_list := He.free_ok X G (c.fact 1), d__law_bag := ⟨_, _, (Px.fun_of D__law_bag), (He.glo_ok X G (c.fact 2))⟩, b_range := He.free_ok X G (c.fact 3), b_len := He.free_ok X G (c.fact 4), b_abs := He.free_ok X G (c.fact 5), d__law_draw := ⟨_, _, (Px.fun_of D__law_draw), (He.glo_ok X G (c.fact 6))⟩, d__law_of := ⟨_, _, (Px.fun_of D__law_of), (He.glo_ok X G (c.fact 7))⟩, d__law_words := ⟨_, _, (Px.fun_of D__law_words), (He.glo_ok X G (c.fact 8))⟩, d__law_gcd := ⟨_, _, (Px.fun_of D__law_gcd), (He.glo_ok X G (c.fact 9))⟩, d__law_q := ⟨_, _, (Px.fun_of D__law_q), (He.glo_ok X G (c.fact 10))⟩, d__law_number := ⟨_, _, (Px.fun_of D__law_number), (He.glo_ok X G (c.fact 11))⟩, d__law_unknown := ⟨_, _, (Px.fun_of D__law_unknown), (He.glo_ok X G (c.fact 12))⟩, b_all := He.free_ok X G (c.fact 13), d__law_short := ⟨_, _, (Px.fun_of D__law_short), (He.glo_ok X G (c.fact 14))⟩, d__law_drawn_form := ⟨_, _, (Px.fun_of D__law_drawn_form), (He.glo_ok X G (c.fact 15))⟩, b_tuple := He.free_ok X G (c.fact 16), b_sorted := He.free_ok X G (c.fact 17), d__law_tuple := ⟨_, _, (Px.fun_of D__law_tuple), (He.glo_ok X G (c.fact 18))⟩, d__law_plus := ⟨_, _, (Px.fun_of D__law_plus), (He.glo_ok X G (c.fact 19))⟩, d__law_times := ⟨_, _, (Px.fun_of D__law_times), (He.glo_ok X G (c.fact 20))⟩, b_dict := He.free_ok X G (c.fact 21), d__law_join := ⟨_, _, (Px.fun_of D__law_join), (He.glo_ok X G (c.fact 22))⟩, b_isinstance := He.free_ok X G (c.fact 23), b_zip := He.free_ok X G (c.fact 24), b_bool := He.free_ok X G (c.fact 25), b_str := He.free_ok X G (c.fact 26), d__law_like := ⟨_, _, (Px.fun_of D__law_like), (He.glo_ok X G (c.fact 27))⟩, d_fraction := ⟨_, _, D_fraction, (He.glo_ok X G (c.fact 28))⟩, d_plus := ⟨_, _, (Px.fun_of D_plus), (He.glo_ok X G (c.fact 29))⟩, gl_ZERO := gloB_ok X G (c.more 0), d_put_together := ⟨_, _, (Px.fun_of D_put_together), (He.glo_ok X G (c.fact 30))⟩, d_times := ⟨_, _, (Px.fun_of D_times), (He.glo_ok X G (c.fact 31))⟩, d_mixture := ⟨_, _, (Px.fun_of D_mixture), (He.glo_ok X G (c.fact 32))⟩, gl_ONE := gloB_ok X G (c.more 1), d_form_plus := ⟨_, _, (Px.fun_of D_form_plus), (He.glo_ok X G (c.fact 33))⟩, d_form_times := ⟨_, _, (Px.fun_of D_form_times), (He.glo_ok X G (c.fact 34))⟩, d_law := ⟨_, _, (Px.fun_of D_law), (He.glo_ok X G (c.fact 35))⟩ }
  refine ⟨fd_law, tf.map (He.cT K), spD K (tf.map fun x => ((He.cT K x).2, lamQ x)) 1 (f_law K), fun p hp => ?_, fun p hp => ?_, fun p hp => ?_, fun s u => ?_, fun H a ns hlen _ hT hS => ?_, fun base _ _ hT => ?_⟩
  · obtain ⟨x, hx, rfl⟩ := List.mem_map.mp hp
    exact c.empty _ hx
  · obtain ⟨x, hx, rfl⟩ := List.mem_map.mp hp
    exact c.out _ hx
  · obtain ⟨x, hx, rfl⟩ := List.mem_map.mp hp
    exact PySem.W.codeHd_of_K X (c.hd _ hx)
  · obtain ⟨oc, od, kV, doc, pm, an, cdv, ct, osl, rfl, _, _⟩ := Flaw.ex
    exact .of_eq rfl
  · refine law_end (fun p hp => ?_) (fun p hp => ?_) hS (law_true hlen)
    · obtain ⟨x, hx, rfl⟩ := List.mem_map.mp hp
      exact hT _ (List.mem_map_of_mem hx)
    · obtain ⟨x, hx, rfl⟩ := List.mem_map.mp hp
      exact c.out _ hx
  · obtain ⟨f', fd', F', M'⟩ := ok_law (YY base hT)
    have e1 := M'.at_.symm.trans M_law
    cases e1
    obtain ⟨oc', od', kV', dc', pm', an', cd', ct', osl', rfl, lk', _⟩ := F'.ex
    obtain ⟨oc, od, kV, doc, pm, an, cdv, ct, osl, rfl, lk, _⟩ := Flaw.ex
    have e2 := lk'.symm.trans lk
    cases e2
    exact M'.ok
end Dw
open PySem PySem.W PyProof.Rows
set_option maxHeartbeats 0 in
theorem PySem.Challenge.cw_lostland_k21_forms_put_together_holds : PySem.Challenge.rw_lostland_k21_forms_put_together.Holds := by
  w_on; o_law
  refine holds_open (q := Dw.vw) (loose := Dw.loose) (Xt := fun s => xlAt Dw.vw [] s && recOk [] s) (XP := XL Dw.vw []) (Yf := Hook.obs (Dw.hookY 6 Dw.fa Dw.fx Dw.tf Dw.ex)) (Ya := Hook.val (Dw.hookY 6 Dw.fa Dw.fx Dw.tf Dw.ex)) (YP := Hook.says (Dw.hookY 6 Dw.fa Dw.fx Dw.tf Dw.ex)) (N := 40000) Dw.head_left (Hook.of (Dw.hookY 6 Dw.fa Dw.fx Dw.tf Dw.ex)) (Hook.keeps (Dw.hookY 6 Dw.fa Dw.fx Dw.tf Dw.ex)) (fun s e => xl_of s (Bool.and_eq_true_iff.mp e).1) XL.keeps (by rfl) (by rfl) (by rfl) (fun s e => recFacts_of (Bool.and_eq_true_iff.mp e).2) (by rfl) (by first | assumption | decide +kernel) (by decide +kernel) ⟨rfl, rfl, rfl, rfl, rfl, by decide +kernel⟩ ?hw ?hc
  case hw => w_witness2
  refine LamX.walk_ofTsE (l := PySem.Challenge.rw_lostland_k21_forms_put_together) (n := 63) (k := 8) (x := "_law_script") (CX := fun w => L2.CX PySem.Challenge.pw_lostland_k21_forms_put_together w) rfl (by decide) rfl ⟨rfl, by decide, by decide⟩ ?F (fun _ _ _ _ _ h => Dw.cx_no h)
  case F =>
    rintro w mg f0 h ⟨K, KX, c⟩ G hmg
    exact ⟨K, KX, Dw.law_at KX c G hmg⟩
