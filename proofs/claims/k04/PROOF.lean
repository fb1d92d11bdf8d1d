import PyProof.Rows.All
import Wide.All
import OpenK.AllK
import Wide.FinOn
import HandS.ForMost
import HandS.Wide
import HandS.WideMore
import HandS.IsInst
import HandS.Rev
import HandS.RevRange
import HandS.TupAny
import HandS.TupMul
import PySem.Challenge.RW_crankdrum_k04_rows_of_figures
set_option Elab.async false
set_option linter.all false
set_option maxRecDepth 100000
set_option maxHeartbeats 4000000
/-! own engine: what stays of tuples, data that never change, unions of rules, steps of readings -/
namespace Rn
open PySem PySem.Spec L2 RT

/-! ### heaps -/
/-- tuples stay -/
def Tn (H H' : Hp) : Prop := ∀ a xs, Rd H a (.tup xs) → Rd H' a (.tup xs)
theorem Tn.refl (H : Hp) : Tn H H := fun _ _ h => h
theorem Tn.trans {A B C : Hp} (x : Tn A B) (y : Tn B C) : Tn A C := fun a xs h => y a xs (x a xs h)
theorem _root_.L2.Same.tn {H H' : Hp} (e : Same H H') : Tn H H' := fun a xs h => by
  rcases h with h | ⟨o, h⟩
  · exact .inl (e _ _ h)
  · exact .inr ⟨o, e _ _ h⟩
theorem _root_.L2.Same.new {H : Hp} {p : Addr} {o : HO} (h : H p = none) : Same H (upd H p o) := fun b x e => by
  rw [upd_ne (ne_of_none e h)]
  exact e
/-- what H does not know may change behind -/
theorem _root_.L2.Same.mut {H H' : Hp} {p : Addr} {o : HO} (e : Same H H') (h : H p = none) : Same H (upd H' p o) := fun b x ha => by
  rw [upd_ne (ne_of_none ha h)]
  exact e b x ha
theorem _root_.L2.Same.back {H H' : Hp} {p : Addr} (e : Same H H') (h : H' p = none) : H p = none := e.free h
theorem SqT.tn {K : PySem.W.Frag} {H H' : Hp} {a : Addr} {xs : List V} (e : Tn H H') (h : SqT K H a xs) : SqT K H' a xs := by
  rcases h with h | h
  · exact .inl (e _ _ h)
  · exact .inr h
/-- all stays but what stands at the two -/
def Kp (a c : Addr) (H H' : Hp) : Prop := ∀ b o, H b = some o → b ≠ a → b ≠ c → H' b = some o
theorem Kp.refl (a c : Addr) (H : Hp) : Kp a c H H := fun _ _ h _ _ => h
theorem Kp.trans {a c : Addr} {A B C : Hp} (x : Kp a c A B) (y : Kp a c B C) : Kp a c A C := fun b o h n m => y b o (x b o h n m) n m
theorem _root_.L2.Same.kp {a c : Addr} {H H' : Hp} (e : Same H H') : Kp a c H H' := fun b o h _ _ => e b o h
theorem Kp.mut {a c D : Addr} {H H' : Hp} {o : HO} (k : Kp a c H H') (hD : H D = none) : Kp a c H (upd H' D o) := fun b o hb na nc => by
  rw [upd_ne (ne_of_none hb hD)]
  exact k b o hb na nc
theorem Kp.tn {a c : Addr} {H H' : Hp} {xs ys : List V} (k : Kp a c H H') (ha : H a = some (.lst xs)) (hc : H c = some (.lst ys)) : Tn H H' := fun b zs h => by
  rcases h with h | ⟨o, h⟩
  · exact .inl (k _ _ h (ne_of h ha (by intro z; cases z)) (ne_of h hc (by intro z; cases z)))
  · exact .inr ⟨o, k _ _ h (ne_of h ha (by intro z; cases z)) (ne_of h hc (by intro z; cases z))⟩

/-! ### data that never change -/
mutual
inductive Fz (K : PySem.W.Frag) (H : Hp) : V → PyData → Prop
  | non : Fz K H .non .none
  | bl (b : Bool) : Fz K H (.bl b) (.bool b)
  | int (i : Int) : Fz K H (.int i) (.int i)
  | str (x : Str) : Fz K H (.str x) (.str x)
  | tup {a : Addr} {xs : List V} {ds : List PyData} : SqT K H a xs → Fzs K H xs ds → Fz K H (.ref a) (.tuple ds)
inductive Fzs (K : PySem.W.Frag) (H : Hp) : List V → List PyData → Prop
  | nil : Fzs K H [] []
  | cons {v : V} {vs : List V} {d : PyData} {ds : List PyData} : Fz K H v d → Fzs K H vs ds → Fzs K H (v :: vs) (d :: ds)
end
mutual
theorem Fz.tn {K : PySem.W.Frag} {H H' : Hp} (e : Tn H H') : ∀ {v : V} {d : PyData}, Fz K H v d → Fz K H' v d
  | _, _, .non => .non
  | _, _, .bl b => .bl b
  | _, _, .int i => .int i
  | _, _, .str x => .str x
  | _, _, .tup h r => .tup (SqT.tn e h) (Fzs.tn e r)
theorem Fzs.tn {K : PySem.W.Frag} {H H' : Hp} (e : Tn H H') : ∀ {vs : List V} {ds : List PyData}, Fzs K H vs ds → Fzs K H' vs ds
  | _, _, .nil => .nil
  | _, _, .cons h r => .cons (Fz.tn e h) (Fzs.tn e r)
end
mutual
theorem Fz.dp {K : PySem.W.Frag} {H : Hp} : ∀ {v : V} {d : PyData}, Fz K H v d → Dp K H v d
  | _, _, .non => .non
  | _, _, .bl b => .bl b
  | _, _, .int i => .int i
  | _, _, .str x => .str x
  | _, _, .tup h r => .tup h (Fzs.dp r)
theorem Fzs.dp {K : PySem.W.Frag} {H : Hp} : ∀ {vs : List V} {ds : List PyData}, Fzs K H vs ds → DpAll K H vs ds
  | _, _, .nil => .nil
  | _, _, .cons h r => .cons (Fz.dp h) (Fzs.dp r)
end
theorem Fzs.ints {K : PySem.W.Frag} {H : Hp} : ∀ ns : List Int, Fzs K H (ns.map V.int) (ns.map PyData.int)
  | [] => .nil
  | n :: r => .cons (.int n) (Fzs.ints r)
theorem DpAll.ints {K : PySem.W.Frag} {H : Hp} : ∀ ns : List Int, DpAll K H (ns.map V.int) (ns.map PyData.int)
  | [] => .nil
  | n :: r => .cons (.int n) (DpAll.ints r)
theorem Fz.ints {K : PySem.W.Frag} {H : Hp} {a : Addr} {ns : List Int} (h : SqT K H a (ns.map V.int)) : Fz K H (.ref a) (.tuple (ns.map PyData.int)) := .tup h (Fzs.ints ns)

/-! ### unions of rules -/
section
variable {X : Cx}
def rCatS : R2 := fun x y H Q => ∃ i j, x = .str i ∧ y = .str j ∧ i.length + j.length ≤ sizeLine ∧ Q (.str (i ++ j)) H
def uAdd (K : PySem.W.Frag) : R2 := fun x y H Q => rI0 (fun i j => .int (i + j)) x y H Q ∨ rCatA K x y H Q ∨ rCat x y H Q ∨ rCatS x y H Q
theorem op_addU : OpR X (binaryOp .Add) (uAdd X.K) := op_add.or (op_catA.or (op_cat.or op_add_str))
def uMul (K : PySem.W.Frag) : R2 := fun x y H Q => rI CMul (fun i j => .int (i * j)) x y H Q ∨ rRepT K x y H Q ∨ rRep x y H Q ∨ rI CMulW (fun i j => .int (i * j)) x y H Q
theorem op_mulU : OpR X (binaryOp .Mult) (uMul X.K) := op_mul.or (op_repT.or (op_rep.or op_mulW))
def uEq (K : PySem.W.Frag) : R2 := fun x y H Q => rEq x y H Q ∨ rEqD K x y H Q
theorem op_eqU (hu : X.A.units + 64 < cLine) : OpR X (compareOp .Eq) (uEq X.K) := op_eq.or (op_eqD hu)
def uNe (K : PySem.W.Frag) : R2 := fun x y H Q => rNe x y H Q ∨ rNeD K x y H Q
theorem op_neU (hu : X.A.units + 64 < cLine) : OpR X (compareOp .NotEq) (uNe X.K) := op_ne.or (op_neD hu)
def rLenQ (K : PySem.W.Frag) : List V → Hp → VK → Prop := fun xs H Q => ∃ p ys, xs = [.ref p] ∧ (SqL K H p ys ∨ SqT K H p ys) ∧ Q (.int ys.length) H
def rLenT : List V → Hp → VK → Prop := fun xs H Q => ∃ z, xs = [.str z] ∧ z.length ≤ sizeLine ∧ Q (.int z.length) H
def uLen (K : PySem.W.Frag) : List V → Hp → VK → Prop := fun xs H Q => rLenQ K xs H Q ∨ rLenT xs H Q
theorem call_lenU : CallR X (.builtin "len") (uLen X.K) := call_len_seq.or call_len_str
def uSl (K : PySem.W.Frag) : V → Option Int → Option Int → Hp → VK → Prop := fun x lo hi H Q => rSlA K x lo hi H Q ∨ rSlL K x lo hi H Q
theorem sl_U : SlR X (uSl X.K) := SlR.or sl_tupA sl_list
theorem PI.or {tg it : Expr} {w1 w2 : TI} (a : PI X tg it w1) (b : PI X tg it w2) : PI X tg it (fun σ H R => w1 σ H R ∨ w2 σ H R) :=
  ⟨fun pins s σ H R I h => h.elim (fun h => a.run pins s σ H R I h) (fun h => b.run pins s σ H R I h)⟩
def uI (K : PySem.W.Frag) (te : TE) : TI := fun σ H R => iTup K te σ H R ∨ iList K te σ H R
theorem pi_U {tg l : Expr} {tl : TE} (hl : PE X l tl) : PI X tg l (uI X.K tl) := PI.or (pi_tup hl) (pi_list hl)
/-- the operators in place, at a local name -/
theorem ip_of {op : Operator} {r : R2} (h : OpR X (inplaceOp op) r) : PIp X op (fun x y H Q => r x y H Q) := by
  intro pins s σ H x y u v Q I rx ry hh
  exact augR h I rx ry hh
end

/-- tuple(list) -/
def rTupQ (K : PySem.W.Frag) : List V → Hp → VK → Prop := fun xs H Q => ∃ p ys, xs = [.ref p] ∧ ((SqL K H p ys ∧ ∀ l, H l = none → Q (.ref l) (upd H l (.tup ys))) ∨ (SqT K H p ys ∧ Q (.ref p) H))
theorem call_tupleQ {X : Cx} : CallR X (.type "tuple") (rTupQ X.K) := call_tuple_of
def rLstQ (K : PySem.W.Frag) : List V → Hp → VK → Prop := fun xs H Q => ∃ p ys, xs = [.ref p] ∧ (SqL K H p ys ∨ SqT K H p ys) ∧ ∀ l, H l = none → Q (.ref l) (upd H l (.lst ys))
theorem call_listQ {X : Cx} : CallR X (.type "list") (rLstQ X.K) := call_list_of
/-! the same, the written part said -/
section
variable {X : Cx} (K : PySem.W.Frag) (e : X.K = K)
include e
theorem k_add : OpR X (binaryOp .Add) (uAdd K) := e ▸ op_addU
theorem k_mul : OpR X (binaryOp .Mult) (uMul K) := e ▸ op_mulU
theorem k_eq (hu : X.A.units + 64 < cLine) : OpR X (compareOp .Eq) (uEq K) := e ▸ op_eqU hu
theorem k_ne (hu : X.A.units + 64 < cLine) : OpR X (compareOp .NotEq) (uNe K) := e ▸ op_neU hu
theorem k_len : CallR X (.builtin "len") (uLen K) := e ▸ call_lenU
theorem k_sl : SlR X (uSl K) := e ▸ sl_U
theorem k_ix : IxR X (rIx K) := e ▸ ix_seq
theorem k_in : OpR X (compareOp .In) (rIn K false) := e ▸ op_in_seq
theorem k_ni : OpR X (compareOp .NotIn) (rIn K true) := e ▸ op_notIn_seq
theorem k_isi : CallR X (.builtin "isinstance") (rIsi K) := e ▸ call_isi
theorem k_tuple : CallR X (.type "tuple") (rTupQ K) := e ▸ call_tupleQ
theorem k_list : CallR X (.type "list") (rLstQ K) := e ▸ call_listQ
theorem k_I {tg l : Expr} {tl : TE} (hl : PE X l tl) : PI X tg l (uI K tl) := e ▸ pi_U hl
end

/-! ### steps of readings -/
section
variable {K : PySem.W.Frag} {σ : St} {H : Hp} {D : Ends} {t u : TS} {te ta tb tc : TE} {tr : TA} {c c1 c2 : TT} {Q : VK} {QB : Bool → Hp → Prop} {QL : List V → Hp → Prop} {v x y : V} {i : Nat} {g : TG} {r r' : R2}
theorem w_seq (h : t { D with nx := u D } σ H) : tSeq t u D σ H := h
theorem w_asgN (h : te σ H fun x H1 => D.nx (σ.set i (some x)) H1) : tAsg te (gName i) D σ H := h
theorem w_asg (h : te σ H fun x H1 => g x σ H1 D.nx) : tAsg te g D σ H := h
theorem w_ret (h : te σ H D.rt) : tRet te D σ H := h
theorem w_retN (h : D.rt .non H) : tRetN D σ H := h
theorem w_drop (h : te σ H fun _ H1 => D.nx σ H1) : tDrop te D σ H := h
theorem w_next (h : D.nx σ H) : tNext D σ H := h
theorem w_brk (h : D.bk σ H) : tBreak D σ H := h
theorem w_cont (h : D.ct σ H) : tCont D σ H := h
theorem w_ifS (h : c σ H fun b H1 => if b = true then t D σ H1 else u D σ H1) : tIfS c t u D σ H := h
theorem w_par {i j : Nat} {ta : TA} (h : ta σ H fun vs H1 => ∃ v w, vs = [v, w] ∧ D.nx ((σ.set i (some v)).set j (some w)) H1) : tPar i j ta D σ H := h
theorem w_aug {ti : TIp} (hx : σ[i]? = some (some x)) (h : te σ H fun y H1 => ti x y H1 fun z H2 => D.nx (σ.set i (some z)) H2) : tAug i te ti D σ H := ⟨x, hx, h⟩
theorem w_var (hv : σ[i]? = some (some v)) (h : Q v H) : tVar i σ H Q := ⟨v, hv, h⟩
theorem w_c (h : Q v H) : tC v σ H Q := h
theorem w_op (h : ta σ H fun x H1 => tb σ H1 fun y H2 => r x y H2 Q) : tOp r ta tb σ H Q := h
theorem w_un {ru : V → Hp → VK → Prop} (h : ta σ H fun x H1 => ru x H1 Q) : tUn ru ta σ H Q := h
theorem w_neg {a : Int} (h : Q (.int (-a)) H) : rU (fun i => .int (-i)) (.int a) H Q := ⟨a, rfl, h⟩
theorem w_ifE (h : c σ H fun b H1 => if b = true then ta σ H1 Q else tb σ H1 Q) : tIf c ta tb σ H Q := h
theorem w_nil (h : QL [] H) : tNil σ H QL := h
theorem w_cons (h : ta σ H fun x H1 => tr σ H1 fun xs H2 => QL (x :: xs) H2) : tCons ta tr σ H QL := h
/-- a new object at p -/
def NewQ (H : Hp) (o : HO) (R : Addr → Hp → Prop) : Prop := ∀ p, H p = none → R p (upd H p o)
theorem w_tup (h : tr σ H fun xs H1 => xs.length ≤ sizeLine ∧ NewQ H1 (.tup xs) fun p H2 => Q (.ref p) H2) : tTup tr σ H Q := h
theorem w_lst (h : tr σ H fun xs H1 => xs.length ≤ sizeLine ∧ NewQ H1 (.lst xs) fun p H2 => Q (.ref p) H2) : tLst tr σ H Q := h
theorem w_new {n : Nat} {o : HO} {R : Addr → Hp → Prop} (hz : n ≤ 100000) (h : ∀ p H', H p = none → Same H H' → H' p = some o → R p H') : n ≤ sizeLine ∧ NewQ H o R := ⟨Nat.le_trans hz (by decide), fun p hp => h p _ hp (Same.new hp) upd_same⟩
theorem w_call {sp : Sp} {dvs : List V} {E : XK} (h : tr σ H fun vs H1 => sp (vs ++ dvs) H1 Q E) : tCall sp dvs E tr σ H Q := h
theorem w_cb {rc : List V → Hp → VK → Prop} (h : tr σ H fun vs H1 => rc vs H1 Q) : tCB rc tr σ H Q := h
theorem w_test (h : te σ H fun x H' => ∃ k, x = .bl k ∧ QB k H') : tTest te σ H QB := h
theorem w_tB (h : te σ H fun x H1 => ∃ c, x = .bl c ∧ QB c H1) : tB te σ H QB := h
theorem w_bl {b : Bool} {P : Bool → Prop} (h : P b) : ∃ k, V.bl b = .bl k ∧ P k := ⟨b, rfl, h⟩
theorem w_and (h : c1 σ H fun b H1 => if b = true then c2 σ H1 QB else QB false H1) : tAnd c1 c2 σ H QB := h
theorem w_or (h : c1 σ H fun b H1 => if b = true then QB true H1 else c2 σ H1 QB) : tOr c1 c2 σ H QB := h
theorem w_not (h : c1 σ H fun b H1 => QB (!b) H1) : tNot c1 σ H QB := h
theorem w_andV (h : ta σ H fun x H1 => ∃ c, x = .bl c ∧ if c = true then tb σ H1 Q else Q (.bl false) H1) : tAndV ta tb σ H Q := h
theorem w_orV (h : ta σ H fun x H1 => ∃ c, x = .bl c ∧ if c = true then Q (.bl true) H1 else tb σ H1 Q) : tOrV ta tb σ H Q := h
theorem w_notV (h : ta σ H fun x H1 => ∃ c, x = .bl c ∧ Q (.bl (!c)) H1) : tNotV ta σ H Q := h
theorem w_chain (h : ta σ H fun x H1 => tb σ H1 fun y H2 => r x y H2 fun z H3 => ∃ k, z = .bl k ∧ if k = true then tc σ H3 fun z2 H4 => r' y z2 H4 Q else Q (.bl false) H3) : tChain r r' ta tb tc σ H Q := h
/-! by values -/
theorem w_addI {a b : Int} (h : Q (.int (a + b)) H) : uAdd K (.int a) (.int b) H Q := .inl ⟨a, b, rfl, rfl, h⟩
theorem w_I0 {f : Int → Int → V} {a b : Int} (h : Q (f a b) H) : rI0 f (.int a) (.int b) H Q := ⟨a, b, rfl, rfl, h⟩
theorem w_I {C : Int → Int → Prop} {f : Int → Int → V} {a b : Int} (hc : C a b) (h : Q (f a b) H) : rI C f (.int a) (.int b) H Q := ⟨a, b, rfl, rfl, hc, h⟩
theorem w_mulI {a b : Int} (hc : CMul a b) (h : Q (.int (a * b)) H) : uMul K (.int a) (.int b) H Q := .inl ⟨a, b, rfl, rfl, hc, h⟩
theorem w_eqI {a b : Int} (h : Q (.bl (decide (a = b))) H) : uEq K (.int a) (.int b) H Q := .inl ⟨rfl, by
  have e : decide (V.int a = V.int b) = decide (a = b) := decide_eq_decide.mpr ⟨fun z => V.int.inj z, fun z => by rw [z]⟩
  rw [e]
  exact h⟩
theorem w_neI {a b : Int} (h : Q (.bl (!decide (a = b))) H) : uNe K (.int a) (.int b) H Q := .inl ⟨rfl, by
  have e : decide (V.int a = V.int b) = decide (a = b) := decide_eq_decide.mpr ⟨fun z => V.int.inj z, fun z => by rw [z]⟩
  rw [e]
  exact h⟩
theorem w_eqS {a b : Str} (h : Q (.bl (decide (a = b))) H) : uEq K (.str a) (.str b) H Q := .inl ⟨rfl, by
  have e : decide (V.str a = V.str b) = decide (a = b) := decide_eq_decide.mpr ⟨fun z => V.str.inj z, fun z => by rw [z]⟩
  rw [e]
  exact h⟩
theorem w_eqD {d e : PyData} (hd : Dp K H x d) (he : Dp K H y e) (sd : SeqAt.shaped d = true) (se : SeqAt.shaped e = true) (h : Q (.bl (PyData.eqv d e)) H) : uEq K x y H Q := .inr ⟨d, e, hd, he, sd, se, h⟩
theorem w_neD {d e : PyData} (hd : Dp K H x d) (he : Dp K H y e) (sd : SeqAt.shaped d = true) (se : SeqAt.shaped e = true) (h : Q (.bl (!PyData.eqv d e)) H) : uNe K x y H Q := .inr ⟨d, e, hd, he, sd, se, h⟩
theorem w_ixL {p : Addr} {xs : List V} {a : Int} (hl : SqL K H p xs) (ha : atI xs a = some v) (h : Q v H) : rIx K (.ref p) (.int a) H Q := .inl ⟨p, xs, a, v, rfl, rfl, hl, ha, h⟩
theorem w_ixT {p : Addr} {xs : List V} {a : Int} (hl : SqT K H p xs) (ha : atI xs a = some v) (h : Q v H) : rIx K (.ref p) (.int a) H Q := .inr (.inl ⟨p, xs, a, v, rfl, rfl, hl, ha, h⟩)
theorem w_lenL {p : Addr} {xs : List V} (hl : SqL K H p xs) (h : Q (.int xs.length) H) : uLen K [.ref p] H Q := .inl ⟨p, xs, rfl, .inl hl, h⟩
theorem w_lenT {p : Addr} {xs : List V} (hl : SqT K H p xs) (h : Q (.int xs.length) H) : uLen K [.ref p] H Q := .inl ⟨p, xs, rfl, .inr hl, h⟩
theorem w_iteT {A B : Prop} (h : A) : if true = true then A else B := by
  rw [if_pos rfl]
  exact h
theorem w_iteF {A B : Prop} (h : B) : if false = true then A else B := by
  rw [if_neg Bool.false_ne_true]
  exact h
theorem w_iteNF {A B : Prop} (h : A) : if (!false) = true then A else B := w_iteT h
theorem w_iteNT {A B : Prop} (h : B) : if (!true) = true then A else B := w_iteF h
theorem w_ite {p : Prop} [Decidable p] {A B : Prop} (h1 : p → A) (h2 : ¬ p → B) : if decide p = true then A else B := by
  by_cases h : p
  · rw [decide_eq_true h]
    exact w_iteT (h1 h)
  · rw [decide_eq_false h]
    exact w_iteF (h2 h)
theorem w_iteN {p : Prop} [Decidable p] {A B : Prop} (h1 : ¬ p → A) (h2 : p → B) : if (!decide p) = true then A else B := by
  by_cases h : p
  · rw [decide_eq_true h]
    exact w_iteF (h2 h)
  · rw [decide_eq_false h]
    exact w_iteT (h1 h)
theorem w_iteB {b : Bool} {A B : Prop} (h1 : b = true → A) (h2 : b = false → B) : if b = true then A else B := by
  cases b with
  | true => exact w_iteT (h1 rfl)
  | false => exact w_iteF (h2 rfl)
/-! loops -/
def Lp (J : It) (g : TG) (tb : TS) (D : Ends) (σ : St) (H : Hp) : Prop := ∃ W : Nat → Nat → St → Hp → Prop, (∃ m, W 0 m σ H) ∧ ∀ i m σ H, W i m σ H →
  (J.stop i H ∧ D.nx σ H) ∨ (J.go i H ∧ ∃ N : St → Hp → Prop, (∀ σ' H', N σ' H' → ∃ m', m' < m ∧ W (i + 1) m' σ' H') ∧ ∀ x H', J.yld i H x H' → g x σ H' fun σ2 H2 => tb { D with nx := N, ct := N, bk := D.nx } σ2 H2)
theorem w_for {wi : TI} {g : TG} {tb : TS} (h : wi σ H fun J H1 => Lp J g tb D σ H1) : tFor wi g tb D σ H := h
theorem w_rng1 {ta : TA} {R : It → Hp → Prop} (h : ta σ H fun vs H1 => ∃ j : Int, vs = [.int j] ∧ -(2 ^ 62) ≤ j ∧ j < 2 ^ 62 ∧ R (Itr 0 j.toNat) H1) : iRng1 ta σ H R := h
theorem w_rng1' {j : Int} {R : It → Hp → Prop} (h1 : -(2 ^ 62) ≤ j) (h2 : j < 2 ^ 62) (h : R (Itr 0 j.toNat) H) : ∃ i : Int, [V.int j] = [.int i] ∧ -(2 ^ 62) ≤ i ∧ i < 2 ^ 62 ∧ R (Itr 0 i.toNat) H := ⟨j, rfl, h1, h2, h⟩
theorem lp_range {lo : Int} {n : Nat} {g : TG} {tb : TS} (Pv : Nat → St → Hp → Prop) (h0 : Pv 0 σ H)
    (hs : ∀ i σ H, i < n → Pv i σ H → g (.int (lo + i)) σ H fun σ2 H2 => tb { D with nx := Pv (i + 1), ct := Pv (i + 1), bk := D.nx } σ2 H2) (hd : ∀ σ H, Pv n σ H → D.nx σ H) : Lp (Itr lo n) g tb D σ H := for_range Pv h0 hs hd
/-- a range from 0, its target a name -/
theorem lp_range0 {n : Nat} {j : Nat} {tb : TS} (Pv : Nat → St → Hp → Prop) (h0 : Pv 0 σ H)
    (hs : ∀ (i : Nat) σ H, i < n → Pv i σ H → tb { D with nx := Pv (i + 1), ct := Pv (i + 1), bk := D.nx } (σ.set j (some (.int (i : Int)))) H) (hd : ∀ σ H, Pv n σ H → D.nx σ H) : Lp (Itr 0 n) (gName j) tb D σ H :=
  for_range Pv h0 (fun i σ H hi p => by
    show tb _ (σ.set j (some (.int (0 + (i : Int))))) H
    rw [Int.zero_add]
    exact hs i σ H hi p) hd
/-- comprehensions -/
def Lq (J : It) (g : TG) (tt : TT) (te : TE) (vs : List Nat) (σ : St) (H1 : Hp) (Q : VK) : Prop := ∀ D, H1 D = none → ∃ W : Nat → Nat → Hp → Prop, (∃ m, W 0 m (upd H1 D (.lst []))) ∧ ∀ i m H, W i m H →
  (J.stop i H ∧ Q (.ref D) H) ∨ (J.go i H ∧ ∃ Nx : Hp → Prop, (∀ H', Nx H' → ∃ m', m' < m ∧ W (i + 1) m' H') ∧ ∀ x H', J.yld i H x H' → g x (wipe σ vs) H' fun σ2 H2 => wipe σ2 vs = wipe σ vs ∧ tt σ2 H2 fun b H3 =>
    if b = true then te σ2 H3 fun y H4 => ∃ acc, H4 D = some (.lst acc) ∧ acc.length < sizeLine ∧ Nx (upd H4 D (.lst (acc ++ [y]))) else Nx H3)
theorem w_lc {wi : TI} {tt : TT} {vs : List Nat} (h : wi σ H fun J H1 => Lq J g tt te vs σ H1 Q) : tLc wi g tt te vs σ H Q := h
/-- what a turn of a comprehension hands on: an item y more at D -/
def Put (D : Addr) (Nx : Hp → Prop) (y : V) (H4 : Hp) : Prop := ∃ acc, H4 D = some (.lst acc) ∧ acc.length < sizeLine ∧ Nx (upd H4 D (.lst (acc ++ [y])))
theorem w_put {D : Addr} {Nx : Hp → Prop} {acc : List V} (h1 : H D = some (.lst acc)) (h2 : acc.length < 100000) (h : ∀ H', H' = upd H D (.lst (acc ++ [y])) → H' D = some (.lst (acc ++ [y])) → Nx H') : Put D Nx y H := ⟨acc, h1, Nat.lt_of_lt_of_le h2 (by decide), h _ rfl upd_same⟩
/-- a comprehension without tests over a range from 0: Pv by the turn, the list's place, the heap -/
theorem lq_range0 {n : Nat} {j : Nat} {vs : List Nat} (Pv : Addr → Nat → Hp → Prop) (h0 : ∀ D H1, H D = none → Same H H1 → H1 D = some (.lst []) → Pv D 0 H1)
    (hs : ∀ D (i : Nat) H1, H D = none → i < n → Pv D i H1 → wipe ((wipe σ vs).set j (some (.int (i : Int)))) vs = wipe σ vs ∧ te ((wipe σ vs).set j (some (.int (i : Int)))) H1 (Put D (Pv D (i + 1)))) (hd : ∀ D H1, H D = none → Pv D n H1 → Q (.ref D) H1) : Lq (Itr 0 n) (gName j) tYes te vs σ H Q := fun D hD =>
  lc_range (Pv D) (h0 D _ hD (Same.new hD) upd_same) (fun i H1 hi p => by
    have e : (0 : Int) + (i : Int) = (i : Int) := Int.zero_add _
    have h := hs D i H1 hD hi p
    rw [← e] at h
    exact ⟨h.1, w_iteT (B := Pv D (i + 1) H1) h.2⟩) (fun H1 p => hd D H1 hD p)
/-- reversed over a tuple, its target a name -/
theorem lp_revT {a : Addr} {xs : List V} {j : Nat} {tb : TS} (Pv : Nat → St → Hp → Prop) (h0 : Pv 0 σ H) (hq : ∀ i σ H, Pv i σ H → SqT K H a xs)
    (hs : ∀ (i : Nat) (x : V) (σ : St) (H : Hp), i < xs.length → xs[xs.length - 1 - i]? = some x → Pv i σ H → tb { D with nx := Pv (i + 1), ct := Pv (i + 1), bk := D.nx } (σ.set j (some x)) H) (hd : ∀ σ H, Pv xs.length σ H → D.nx σ H) :
    Lp (ItvT K a xs.length) (gName j) tb D σ H := for_ItvT Pv h0 hq hs hd
theorem lp_tup {a : Addr} {xs : List V} {tb : TS} (Pv : Nat → St → Hp → Prop) (h0 : Pv 0 σ H) (hl : ∀ i σ H, i ≤ xs.length → Pv i σ H → SqT K H a xs)
    (hs : ∀ i x σ H, xs[i]? = some x → Pv i σ H → g x σ H fun σ2 H2 => tb { D with nx := Pv (i + 1), ct := Pv (i + 1), bk := D.nx } σ2 H2) (hd : ∀ σ H, Pv xs.length σ H → D.nx σ H) : Lp (Itt K a) g tb D σ H := for_tup Pv h0 hl hs hd
theorem lp_list {a : Addr} {xs : List V} {tb : TS} (Pv : Nat → St → Hp → Prop) (h0 : Pv 0 σ H) (hl : ∀ i σ H, i ≤ xs.length → Pv i σ H → SqL K H a xs)
    (hs : ∀ i x σ H, xs[i]? = some x → Pv i σ H → g x σ H fun σ2 H2 => tb { D with nx := Pv (i + 1), ct := Pv (i + 1), bk := D.nx } σ2 H2) (hd : ∀ σ H, Pv xs.length σ H → D.nx σ H) : Lp (Itl K a) g tb D σ H := for_list Pv h0 hl hs hd
theorem w_uIT {tl : TE} {a : Addr} {xs : List V} {R : It → Hp → Prop} (h : tl σ H fun x H1 => x = .ref a ∧ SqT K H1 a xs ∧ R (Itt K a) H1) (mono : ∀ Q Q' : VK, (∀ x H, Q x H → Q' x H) → tl σ H Q → tl σ H Q') : uI K tl σ H R :=
  .inl (mono _ _ (fun x H1 ⟨e, s, r⟩ => ⟨a, e, ⟨xs, s⟩, r⟩) h)
def RevQ (K : PySem.W.Frag) (R : It → Hp → Prop) (v : V) (H1 : Hp) : Prop := ∃ (a : Addr) (xs : List V), v = .ref a ∧ ((SqL K H1 a xs ∧ R (Itv K a xs.length) H1) ∨ (SqT K H1 a xs ∧ R (ItvT K a xs.length) H1))
theorem w_rev {R : It → Hp → Prop} (h : te σ H fun v H1 => RevQ K R v H1) : iRevA K te σ H R := h
theorem w_revT {R : It → Hp → Prop} {a : Addr} {xs : List V} (hS : SqT K H a xs) (h : R (ItvT K a xs.length) H) : RevQ K R (.ref a) H := ⟨a, xs, rfl, .inr ⟨hS, h⟩⟩
def RngQ (R : It → Hp → Prop) (vs : List V) (H1 : Hp) : Prop := ∃ j : Int, vs = [.int j] ∧ -(2 ^ 62) ≤ j ∧ j < 2 ^ 62 ∧ R (Itr 0 j.toNat) H1
theorem w_rngA {ta : TA} {R : It → Hp → Prop} (h : ta σ H fun vs H1 => RngQ R vs H1) : iRng1 ta σ H R := h
theorem w_rngI {j : Int} {R : It → Hp → Prop} (h1 : -(2 ^ 62) ≤ j ∧ j < 2 ^ 62) (h : R (Itr 0 j.toNat) H) : RngQ R [V.int j] H := ⟨j, rfl, h1.1, h1.2, h⟩
theorem w_bm {T : String} {rm : V → List V → Hp → VK → Prop} {to : TE} {tr : TA} (h : to σ H fun x H1 => tyV K T x H1 ∧ tr σ H1 fun xs H2 => rm x xs H2 Q) : tBM K T rm to tr σ H Q := h
theorem w_bm0 {T : String} {rm : V → List V → Hp → VK → Prop} {to : TE} (h : to σ H fun x H1 => tyV K T x H1 ∧ rm x [] H1 Q) : tBM0 K T rm to σ H Q := h
theorem w_tyL {l : Addr} {xs : List V} {P : Prop} (hl : H l = some (.lst xs)) (h : P) : tyV K "list" (.ref l) H ∧ P := ⟨.inl ⟨rfl, _, SqL.of hl⟩, h⟩
theorem w_append {l : Addr} {xs : List V} {y : V} (hl : H l = some (.lst xs)) (hz : xs.length ≤ 100000) (h : ∀ H', H' = upd H l (.lst (xs ++ [y])) → H' l = some (.lst (xs ++ [y])) → Q .non H') : rAppend (.ref l) [y] H Q := ⟨l, xs, y, rfl, rfl, hl, Nat.lt_of_le_of_lt hz (by decide), h _ rfl upd_same⟩
theorem w_tupL {p : Addr} {xs : List V} (hl : SqL K H p xs) (h : ∀ l H', H l = none → Same H H' → H' l = some (.tup xs) → Q (.ref l) H') : rTupQ K [.ref p] H Q := ⟨p, xs, rfl, .inl ⟨hl, fun l hl => h l _ hl (Same.new hl) upd_same⟩⟩
theorem w_tupT {p : Addr} {xs : List V} (hl : SqT K H p xs) (h : Q (.ref p) H) : rTupQ K [.ref p] H Q := ⟨p, xs, rfl, .inr ⟨hl, h⟩⟩
theorem w_lstL {p : Addr} {xs : List V} (hl : SqL K H p xs) (h : ∀ l H', H l = none → Same H H' → H' l = some (.lst xs) → Q (.ref l) H') : rLstQ K [.ref p] H Q := ⟨p, xs, rfl, .inl hl, fun l hl => h l _ hl (Same.new hl) upd_same⟩
theorem w_lstT {p : Addr} {xs : List V} (hl : SqT K H p xs) (h : ∀ l H', H l = none → Same H H' → H' l = some (.lst xs) → Q (.ref l) H') : rLstQ K [.ref p] H Q := ⟨p, xs, rfl, .inr hl, fun l hl => h l _ hl (Same.new hl) upd_same⟩
end
section
variable {X : Cx}
def pAdd : TIp := rI0 fun i j => .int (i + j)
def pSub : TIp := rI0 fun i j => .int (i - j)
def pDiv : TIp := rI CDivW fun i j => .int (i / j)
def pMod : TIp := rI (fun _ j => 0 < j) fun i j => .int (i % j)
def pMul : TIp := rI CMul fun i j => .int (i * j)
theorem ip_addI : PIp X .Add pAdd := ip_of iop_add
theorem ip_subI : PIp X .Sub pSub := ip_of iop_sub
theorem ip_fdivW : PIp X .FloorDiv pDiv := ip_of iop_fdivW
theorem ip_modI : PIp X .Mod pMod := ip_of iop_mod
theorem ip_mulI : PIp X .Mult pMul := ip_of iop_mul
end
section
variable {H : Hp} {Q : VK} {a b : Int}
theorem w_pAdd (h : Q (.int (a + b)) H) : pAdd (.int a) (.int b) H Q := w_I0 h
theorem w_pSub (h : Q (.int (a - b)) H) : pSub (.int a) (.int b) H Q := w_I0 h
theorem w_pDiv (hc : CDivW a b) (h : Q (.int (a / b)) H) : pDiv (.int a) (.int b) H Q := w_I hc h
theorem w_pMod (hc : 0 < b) (h : Q (.int (a % b)) H) : pMod (.int a) (.int b) H Q := w_I hc h
theorem w_pMul (hc : CMul a b) (h : Q (.int (a * b)) H) : pMul (.int a) (.int b) H Q := w_I hc h
end
theorem divW {a b : Int} (h : 0 < b) (h2 : b < 2 ^ 30) : CDivW a b := wide_div (b := 30) h (by omega) (by decide) (by decide)
/-! data compared -/
theorem lay_ints : ∀ ns : List Int, PyData.canLayAll0 (ns.map PyData.int) = true ∧ PyData.depthAll (ns.map PyData.int) ≤ 1
  | [] => by simp [PyData.canLayAll0, PyData.depthAll]
  | n :: r => by
    have h := lay_ints r
    simp only [List.map_cons, PyData.canLayAll0, PyData.depthAll, PyData.canLay0, PyData.depth, h.1, Bool.and_self, true_and]
    omega
theorem shaped_list {ns : List Int} : SeqAt.shaped (.list (ns.map PyData.int)) = true := by
  have h := lay_ints ns
  exact Bool.and_eq_true_iff.mpr ⟨by simp only [PyData.canLay0]; exact h.1, decide_eq_true (by simp only [PyData.depth]; have := h.2; omega)⟩
theorem shaped_tuple {ns : List Int} : SeqAt.shaped (.tuple (ns.map PyData.int)) = true := by
  have h := lay_ints ns
  exact Bool.and_eq_true_iff.mpr ⟨by simp only [PyData.canLay0]; exact h.1, decide_eq_true (by simp only [PyData.depth]; have := h.2; omega)⟩
theorem eqvAll_ints : ∀ xs ys : List Int, PyData.eqvAll (xs.map PyData.int) (ys.map PyData.int) = decide (xs = ys)
  | [], [] => by simp [PyData.eqvAll]
  | [], _ :: _ => by simp [PyData.eqvAll]
  | _ :: _, [] => by simp [PyData.eqvAll]
  | x :: xs, y :: ys => by
    have h := eqvAll_ints xs ys
    rw [List.map_cons, List.map_cons, PyData.eqvAll, h]
    simp [PyData.eqv, Bool.beq_eq_decide_eq]
theorem eqv_listI (xs ys : List Int) : PyData.eqv (.list (xs.map PyData.int)) (.list (ys.map PyData.int)) = decide (xs = ys) := by
  rw [PyData.eqv]
  exact eqvAll_ints xs ys
theorem eqv_tupI (xs ys : List Int) : PyData.eqv (.tuple (xs.map PyData.int)) (.tuple (ys.map PyData.int)) = decide (xs = ys) := by
  rw [PyData.eqv]
  exact eqvAll_ints xs ys
section
variable {K : PySem.W.Frag} {H : Hp} {Q : VK}
theorem w_neLI {a b : Addr} {xs ys : List Int} (ha : SqL K H a (xs.map V.int)) (hb : SqL K H b (ys.map V.int)) (h : Q (.bl (!decide (xs = ys))) H) : uNe K (.ref a) (.ref b) H Q :=
  w_neD (.lst ha (DpAll.ints xs)) (.lst hb (DpAll.ints ys)) shaped_list shaped_list (by rw [eqv_listI]; exact h)
theorem w_neTI {a b : Addr} {xs ys : List Int} (ha : SqT K H a (xs.map V.int)) (hb : SqT K H b (ys.map V.int)) (h : Q (.bl (!decide (xs = ys))) H) : uNe K (.ref a) (.ref b) H Q :=
  w_neD (.tup ha (DpAll.ints xs)) (.tup hb (DpAll.ints ys)) shaped_tuple shaped_tuple (by rw [eqv_tupI]; exact h)
theorem w_eqTI {a b : Addr} {xs ys : List Int} (ha : SqT K H a (xs.map V.int)) (hb : SqT K H b (ys.map V.int)) (h : Q (.bl (decide (xs = ys))) H) : uEq K (.ref a) (.ref b) H Q :=
  w_eqD (.tup ha (DpAll.ints xs)) (.tup hb (DpAll.ints ys)) shaped_tuple shaped_tuple (by rw [eqv_tupI]; exact h)
def rMaxQ : List V → Hp → VK → Prop := fun xs H Q => ∃ i j, xs = [.int i, .int j] ∧ Q (.int (if j > i then j else i)) H
def rMinQ : List V → Hp → VK → Prop := fun xs H Q => ∃ i j, xs = [.int i, .int j] ∧ Q (.int (if j < i then j else i)) H
theorem call_maxQ {X : Cx} (hc : X.calm = true) : CallR X (.builtin "max") rMaxQ := call_max2 hc
theorem call_minQ {X : Cx} (hc : X.calm = true) : CallR X (.builtin "min") rMinQ := call_min2 hc
theorem w_max {a b : Int} (h : Q (.int (max a b)) H) : rMaxQ [.int a, .int b] H Q := ⟨a, b, rfl, by
  have e : (if b > a then b else a) = max a b := by
    rw [Int.max_def]
    split <;> split <;> omega
  rw [e]
  exact h⟩
theorem w_min {a b : Int} (h : Q (.int (min a b)) H) : rMinQ [.int a, .int b] H Q := ⟨a, b, rfl, by
  have e : (if b < a then b else a) = min a b := by
    rw [Int.min_def]
    split <;> split <;> omega
  rw [e]
  exact h⟩
theorem w_sub {to ti : TE} {ts : TSet} {σ : St} {v : V} {R : St → Hp → Prop} (h : to σ H fun o H1 => ti σ H1 fun i H2 => ts o i v H2 fun H3 => R σ H3) : gSub to ti ts v σ H R := h
theorem w_setL {p : Addr} {xs : List V} {k : Int} {j : Nat} {v : V} {R : Hp → Prop} (hl : H p = some (.lst xs)) (hk : ixN xs.length k = some j) (h : ∀ H', H' = upd H p (.lst (xs.set j v)) → H' p = some (.lst (xs.set j v)) → R H') : rSetL (.ref p) (.int k) v H R := ⟨p, xs, k, j, rfl, rfl, hl, hk, h _ rfl upd_same⟩
end
section
variable {K : PySem.W.Frag} {H : Hp} {Q : VK}
theorem w_isi {x : V} {a b : String} {r : Bool} (ht : TyX K H x (.type a)) (hk : kitB a b = some r) (h : Q (.bl r) H) : rIsi K [x, .ty b] H Q := ⟨x, .ty b, .type a, .type b, r, rfl, .ty b, ht, kit_ty hk, h⟩
theorem w_isiII {n : Int} (h : Q (.bl true) H) : rIsi K [.int n, .ty "int"] H Q := w_isi (.base (.int n)) (by decide +kernel) h
theorem w_isiIB {n : Int} (h : Q (.bl false) H) : rIsi K [.int n, .ty "bool"] H Q := w_isi (.base (.int n)) (by decide +kernel) h
theorem w_isiBB {n : Bool} (h : Q (.bl true) H) : rIsi K [.bl n, .ty "bool"] H Q := w_isi (.base (.bl n)) (by decide +kernel) h
theorem w_isiTT {p : Addr} {xs : List V} (hp : H p = some (.tup xs)) (h : Q (.bl true) H) : rIsi K [.ref p, .ty "tuple"] H Q := w_isi (.base (.tup hp)) (by decide +kernel) h
theorem w_isiLL {p : Addr} {xs : List V} (hp : H p = some (.lst xs)) (h : Q (.bl true) H) : rIsi K [.ref p, .ty "list"] H Q := w_isi (.base (.lst hp)) (by decide +kernel) h
theorem w_catT {a b : Addr} {xs ys : List V} (ha : SqT K H a xs) (hb : SqT K H b ys) (hz : xs.length + ys.length ≤ 100000) (h : ∀ p H', Same H H' → SqT K H' p (xs ++ ys) → Q (.ref p) H') : uAdd K (.ref a) (.ref b) H Q := .inr (.inl ⟨a, b, xs, ys, rfl, rfl, ha, hb, Nat.le_trans hz (by decide), fun e => h b H (Same.refl H) (by rw [e]; exact hb), fun _ e => h a H (Same.refl H) (by rw [e, List.append_nil]; exact ha), fun _ _ p hp => h p _ (Same.new hp) (SqT.of upd_same)⟩)
end
theorem ixN_of {n : Nat} {k : Int} (h0 : 0 ≤ k) (h : k < n) : ixN n k = some k.toNat := by
  unfold ixN
  rw [if_pos h0, if_pos h]
theorem atI_of {α : Type} {xs : List α} {k : Int} {x : α} (h0 : 0 ≤ k) (h : xs[k.toNat]? = some x) : atI xs k = some x := by
  have hl := (List.getElem?_eq_some_iff.mp h).1
  unfold atI
  rw [ixN_of h0 (by omega)]
  exact h
theorem length_mapI {α β : Type} {f : α → β} {l : List α} : (l.map f).length = l.length := List.length_map f
/-! ints in lists -/
theorem map_get {ns : List Int} {i : Nat} {n : Int} (h : ns[i]? = some n) : (ns.map V.int)[i]? = some (.int n) := by
  rw [List.getElem?_map, h]
  rfl
theorem map_at {ns : List Int} {i : Nat} {x : V} (h : (ns.map V.int)[i]? = some x) : ∃ n, ns[i]? = some n ∧ x = .int n := by
  rw [List.getElem?_map] at h
  cases e : ns[i]? with
  | none =>
    rw [e] at h
    cases h
  | some n =>
    rw [e] at h
    exact ⟨n, rfl, (Option.some.inj h).symm⟩
end Rn
set_option Elab.async false
set_option linter.all false
set_option maxRecDepth 100000
set_option maxHeartbeats 4000000
/-! the mathematics and the promises -/
namespace My
open PySem PySem.Spec L2 RT Rn
/-- the number that figures tell, the lowest first -/
def val (b : Int) : List Int → Int
  | [] => 0
  | d :: r => d + b * val b r
theorem val_drop {b : Int} {ds : List Int} {j : Nat} {d : Int} (h : ds[j]? = some d) : val b (ds.drop j) = val b (ds.drop (j + 1)) * b + d := by
  have hj := (List.getElem?_eq_some_iff.mp h).1
  have e : ds.drop j = d :: ds.drop (j + 1) := by
    rw [List.drop_eq_getElem_cons hj]
    congr 1
    exact (List.getElem?_eq_some_iff.mp h).2
  rw [e]
  show d + b * val b (ds.drop (j + 1)) = _
  rw [Int.mul_comm, Int.add_comm]
def spTold (K : PySem.W.Frag) : Sp := fun vs H Q _ => ∃ (b : Int) (a : Addr) (ds : List Int), vs = [.int b, .ref a] ∧ SqT K H a (ds.map V.int) ∧ -(2 ^ 64) < b ∧ b < 2 ^ 64 ∧ Q (.int (val b ds)) H
/-- so many figures of a number -/
def digs (b : Int) (n : Int) : Nat → List Int
  | 0 => []
  | k + 1 => n % b :: digs b (n / b) k
/-- n by the base, so many times -/
def shr (b : Int) (n : Int) : Nat → Int
  | 0 => n
  | k + 1 => shr b n k / b
theorem digs_end (b n : Int) : ∀ k, digs b n (k + 1) = digs b n k ++ [shr b n k % b] := by
  have shr_in : ∀ k n, shr b n (k + 1) = shr b (n / b) k := by
    intro k
    induction k with
    | zero => intro n; rfl
    | succ k ih =>
      intro n
      show shr b n (k + 1) / b = shr b (n / b) k / b
      rw [ih n]
  intro k
  induction k generalizing n with
  | zero => rfl
  | succ k ih =>
    show n % b :: digs b (n / b) (k + 1) = (n % b :: digs b (n / b) k) ++ [shr b n (k + 1) % b]
    rw [ih, shr_in k n]
    rfl
theorem digs_len (b n : Int) (k : Nat) : (digs b n k).length = k := by
  induction k generalizing n with
  | zero => rfl
  | succ k ih =>
    show (digs b (n / b) k).length + 1 = k + 1
    rw [ih]
/-- a new tuple of these ints -/
def NewT (H : Hp) (Q : VK) (ns : List Int) : Prop := ∀ p H', Same H H' → H p = none → H' p = some (.tup (ns.map V.int)) → Q (.ref p) H'
def spFigures_of : Sp := fun vs H Q _ => ∃ (b n m : Int), vs = [.int b, .int n, .int m] ∧ 0 < b ∧ b < 2 ^ 20 ∧ 0 ≤ m ∧ m ≤ 1000 ∧ NewT H Q (digs b n m.toNat)
def spPower : Sp := fun vs H Q _ => ∃ (b m : Int), vs = [.int b, .int m] ∧ -(2 ^ 64) < b ∧ b < 2 ^ 64 ∧ 0 ≤ m ∧ m < 2 ^ 62 ∧ Q (.int (b ^ m.toNat)) H
/-- the drawing state: a list of a number, the cells' list, a number -/
def DrawAt (H : Hp) (a c : Addr) : Prop := ∃ (s i : Int) (cells : List Int), H a = some (.lst [.int s, .ref c, .int i]) ∧ H c = some (.lst (cells.map V.int)) ∧ 0 ≤ s ∧ 0 ≤ i ∧ cells.length ≤ 63
theorem DrawAt.ne {H : Hp} {a c : Addr} (h : DrawAt H a c) : a ≠ c := by
  obtain ⟨s, i, cells, ha, hc, _⟩ := h
  refine ne_of ha hc fun z => ?_
  have e := HO.lst.inj z
  match cells, e with
  | [], e => cases e
  | [_], e => cases e
  | _ :: y :: r, e =>
    have e2 := (List.cons.inj (List.cons.inj e).2).1
    cases e2
theorem DrawAt.tn {H H' : Hp} {a c : Addr} (h : DrawAt H a c) (k : Kp a c H H') : Tn H H' := by
  obtain ⟨s, i, cells, ha, hc, _⟩ := h
  exact k.tn ha hc
theorem DrawAt.same {H H' : Hp} {a c : Addr} (h : DrawAt H a c) (k : Same H H') : DrawAt H' a c := by
  obtain ⟨s, i, cells, ha, hc, h0⟩ := h
  exact ⟨s, i, cells, k _ _ ha, k _ _ hc, h0⟩
def spNext : Sp := fun vs H Q _ => ∃ (a c : Addr) (m : Int), vs = [.ref a, .int m] ∧ DrawAt H a c ∧ 0 < m ∧ m < 2 ^ 30 ∧ ∀ (r : Int) (H' : Hp), 0 ≤ r → r < m → DrawAt H' a c → Kp a c H H' → Tn H H' → Q (.int r) H'
theorem val_append (b : Int) (xs ys : List Int) : val b (xs ++ ys) = val b xs + b ^ xs.length * val b ys := by
  induction xs with
  | nil =>
    show val b ys = 0 + b ^ 0 * val b ys
    rw [Int.pow_zero, Int.one_mul, Int.zero_add]
  | cons x r ih =>
    show x + b * val b (r ++ ys) = x + b * val b r + b ^ (r.length + 1) * val b ys
    rw [ih, Int.mul_add, Int.pow_succ, Int.add_assoc, Int.mul_comm (b ^ r.length) b, Int.mul_assoc]
theorem val_take {b : Int} {ds : List Int} {i : Nat} {d : Int} (h : ds[i]? = some d) : val b (ds.take (i + 1)) = val b (ds.take i) + d * b ^ i := by
  have hi := (List.getElem?_eq_some_iff.mp h).1
  rw [List.take_add_one, h]
  show val b (ds.take i ++ [d]) = _
  rw [val_append, List.length_take, Nat.min_eq_left (Nat.le_of_lt hi)]
  show val b (ds.take i) + b ^ i * (d + b * 0) = _
  rw [Int.mul_zero, Int.add_zero, Int.mul_comm]
def spNumber (K : PySem.W.Frag) : Sp := fun vs H Q _ => ∃ (b : Int) (a : Addr) (ds : List Int), vs = [.int b, .ref a] ∧ SqT K H a (ds.map V.int) ∧ ds.length ≤ 1000 ∧ (∀ d ∈ ds, 0 ≤ d ∧ d < 2 ^ 60) ∧ -(2 ^ 64) < b ∧ b < 2 ^ 64 ∧ Q (.int (val b ds)) H
def rowOf (b n : Int) (m : Nat) : List Int := (List.range m).map fun k => n / b ^ k % b
theorem pow_pos {b : Int} (h : 0 < b) : ∀ k : Nat, 0 < b ^ k
  | 0 => by rw [Int.pow_zero]; decide
  | k + 1 => by rw [Int.pow_succ]; exact Int.mul_pos (pow_pos h k) h
theorem pow_bits {b : Int} (h : 0 < b) (h2 : b ≤ 16) : ∀ k : Nat, (b ^ k).natAbs < 2 ^ (4 * k + 1)
  | 0 => by rw [Int.pow_zero]; decide
  | k + 1 => by
    have ih := pow_bits h h2 k
    rw [Int.pow_succ, Int.natAbs_mul]
    have e : 2 ^ (4 * (k + 1) + 1) = 2 ^ (4 * k + 1) * 16 := by rw [show 4 * (k + 1) + 1 = 4 * k + 1 + 4 by omega, Nat.pow_add]
    rw [e]
    have hb : b.natAbs ≤ 16 := by omega
    have h1 : (b ^ k).natAbs * b.natAbs ≤ (b ^ k).natAbs * 16 := Nat.mul_le_mul_left _ hb
    omega
def spRow : Sp := fun vs H Q _ => ∃ (b n m : Int), vs = [.int b, .int n, .int m] ∧ 0 < b ∧ b ≤ 16 ∧ 0 ≤ m ∧ m ≤ 1000 ∧ NewT H Q (rowOf b n m.toNat)
def spFigures : Sp := fun vs H Q _ => ∃ (a c : Addr) (b m : Int), vs = [.ref a, .int b, .int m] ∧ DrawAt H a c ∧ 0 < b ∧ b < 2 ^ 30 ∧ 0 ≤ m ∧ m ≤ 1000 ∧
  ∀ (ds : List Int) p H', ds.length = m.toNat → (∀ d ∈ ds, 0 ≤ d ∧ d < b) → DrawAt H' a c → Kp a c H H' → Tn H H' → H' p = some (.tup (ds.map V.int)) → Q (.ref p) H'
def spLaw (K : PySem.W.Frag) : Sp := fun vs H Q _ => ∃ (a : Addr) (ns : List Int), vs = [.ref a] ∧ SqL K H a (ns.map V.int) ∧ ns.length ≤ 63 ∧ ∀ H', Q (.bl true) H'
/-! figures and numbers -/
theorem digs_val {b : Int} (hb : 0 < b) (t : Int) : ∀ ds : List Int, (∀ d ∈ ds, 0 ≤ d ∧ d < b) → digs b (val b ds + b ^ ds.length * t) ds.length = ds
  | [], _ => rfl
  | d :: r, h => by
    obtain ⟨h0, h1⟩ := h d List.mem_cons_self
    have ih := digs_val hb t r fun x hx => h x (List.mem_cons_of_mem _ hx)
    have e : val b (d :: r) + b ^ (d :: r).length * t = d + b * (val b r + b ^ r.length * t) := by
      show d + b * val b r + b ^ (r.length + 1) * t = _
      rw [Int.pow_succ, Int.mul_add, Int.mul_comm (b ^ r.length) b, Int.mul_assoc, Int.add_assoc]
    rw [e]
    show (d + b * (val b r + b ^ r.length * t)) % b :: digs b ((d + b * (val b r + b ^ r.length * t)) / b) r.length = d :: r
    rw [Int.add_mul_emod_self_left, Int.emod_eq_of_lt h0 h1, Int.add_mul_ediv_left _ _ (by omega), Int.ediv_eq_zero_of_lt h0 h1, Int.zero_add, ih]
theorem digs_row {b : Int} (hb : 0 < b) (n : Int) (m : Nat) : digs b n m = rowOf b n m := by
  have shr_eq : ∀ k, shr b n k = n / b ^ k := by
    intro k
    induction k with
    | zero => rw [Int.pow_zero, Int.ediv_one]; rfl
    | succ k ih =>
      show shr b n k / b = _
      rw [ih, Int.pow_succ, Int.ediv_ediv_of_nonneg (Int.le_of_lt (pow_pos hb k))]
  induction m with
  | zero => rfl
  | succ m ih =>
    rw [digs_end, ih, shr_eq]
    unfold rowOf
    rw [List.range_succ, List.map_append]
    rfl
theorem val_zeros (b : Int) (ds : List Int) : val b (ds ++ [0, 0]) = val b ds := by
  rw [val_append]
  show val b ds + b ^ ds.length * (0 + b * (0 + b * 0)) = _
  rw [Int.mul_zero, Int.add_zero, Int.mul_zero, Int.add_zero, Int.mul_zero, Int.add_zero]
end My
set_option Elab.async false
set_option linter.all false
set_option maxRecDepth 100000
set_option maxHeartbeats 4000000
namespace My
open PySem PySem.Spec L2 RT Rn
local macro_rules | `(tactic| walk_at "r1") => `(tactic| first
  | ((with_reducible refine' w_var ?hv ?_); (case hv => exact rfl))
  | with_reducible refine' w_c ?_
  | with_reducible refine' w_op ?_
  | with_reducible refine' w_cons ?_
  | with_reducible refine' w_nil ?_
  | with_reducible refine' w_I0 ?_
  | with_reducible refine' w_addI ?_
  | with_reducible refine' w_seq ?_
  | ((with_reducible refine' w_I (C := fun _ j => 0 < j) ?hc ?_); (case hc => (show (0 : Int) < _; omega)))
  | ((with_reducible refine' w_I (C := CDivW) ?hc ?_); (case hc => exact divW (by omega) (by omega)))
  | ((with_reducible refine' w_I (C := CPow) ?hc ?_); (case hc => exact ⟨by decide, by decide, by decide⟩))
  | ((with_reducible refine' w_mulI ?hc ?_); (case hc => first | exact .inr ⟨by omega, by omega⟩ | exact .inl ⟨by omega, by omega⟩))
  | with_reducible refine' w_max ?_
  | with_reducible refine' w_isiII ?_
  | with_reducible refine' w_isiIB ?_
  | with_reducible refine' w_isiBB ?_
  | ((with_reducible refine' w_isiTT ?hp ?_); (case hp => assumption))
  | ((with_reducible refine' w_isiLL ?hp ?_); (case hp => assumption))
  | with_reducible refine' w_min ?_
  | with_reducible refine' w_sub ?_
  | ((with_reducible refine' w_ixL ?hl ?ha ?_); (case hl => exact SqL.of (by assumption)); (case ha => exact rfl))
  | ((with_reducible refine' w_ixT ?hl ?ha ?_); (case hl => assumption); (case ha => exact rfl))
  | ((with_reducible refine' w_lenL ?hl ?_); (case hl => exact SqL.of (by assumption)))
  | ((with_reducible refine' w_lenT ?hl ?_); (case hl => assumption))
  | ((with_reducible refine' w_tyL ?hl ?_); (case hl => assumption))
  | with_reducible refine' w_bm ?_
  | with_reducible refine' w_bm0 ?_
  | with_reducible refine' w_pAdd ?_
  | with_reducible refine' w_pSub ?_
  | with_reducible refine' w_asgN ?_
  | with_reducible refine' w_ret ?_
  | with_reducible refine' w_retN ?_
  | with_reducible refine' w_drop ?_
  | with_reducible refine' w_next ?_
  | with_reducible refine' w_brk ?_
  | with_reducible refine' w_cont ?_
  | with_reducible refine' w_ifS ?_
  | with_reducible refine' w_test ?_
  | with_reducible refine' w_bl ?_
  | with_reducible refine' w_tB ?_
  | with_reducible refine' w_iteT ?_
  | with_reducible refine' w_iteF ?_
  | with_reducible refine' w_iteNF ?_
  | with_reducible refine' w_iteNT ?_
  | with_reducible refine' w_and ?_
  | with_reducible refine' w_or ?_
  | with_reducible refine' w_not ?_
  | with_reducible refine' w_andV ?_
  | with_reducible refine' w_orV ?_
  | with_reducible refine' w_notV ?_
  | with_reducible refine' w_eqI ?_
  | with_reducible refine' w_neI ?_
  | with_reducible refine' w_call ?_
  | with_reducible refine' w_cb ?_
  | with_reducible refine' w_for ?_
  | with_reducible refine' w_lc ?_
  | with_reducible refine' w_rngA ?_
  | with_reducible refine' w_rev ?_
  | with_reducible refine' w_tup ?_
  | with_reducible refine' w_lst ?_
  | with_reducible refine' w_un ?_
  | with_reducible refine' w_neg ?_
  | with_reducible refine' w_chain ?_
  | with_reducible refine' w_ifE ?_
  | with_reducible refine' w_par ?_
  | ((with_reducible refine' w_aug ?hx ?_); (case hx => exact rfl))
  | with_reducible refine' w_asg ?_)
local macro_rules | `(tactic| walk_at "rs") => `(tactic| ((repeat walk_at "r1"); try dsimp only [List.set, List.append, HAppend.hAppend, Append.append, List.length, List.map, List.replicate]))
def topS (i : Nat) : Stmt := PySem.Challenge.pw_crankdrum_k04_rows_of_figures.main.body.getD i (.Pass ⟨0, 0, 0, 0⟩)
abbrev s__law_next : Stmt := topS 5
theorem sc__law_next : FnScope ["_law_h", "_law_many", "_law_at", "_law_cell"] ["_law_h", "_law_many"] (defScope s__law_next) := ⟨rfl, rfl, rfl, by decide +kernel, rfl, by decide +kernel, by decide +kernel⟩
abbrev s__law_figures : Stmt := topS 8
theorem sc__law_figures : FnScope ["_law_h", "_law_base", "_law_many", "_law_k"] ["_law_h", "_law_base", "_law_many"] (defScope s__law_figures) := ⟨rfl, rfl, rfl, by decide +kernel, rfl, by decide +kernel, by decide +kernel⟩
abbrev s__law_power : Stmt := topS 4
theorem sc__law_power : FnScope ["_law_base", "_law_many", "_law_found", "_law_k"] ["_law_base", "_law_many"] (defScope s__law_power) := ⟨rfl, rfl, rfl, by decide +kernel, rfl, by decide +kernel, by decide +kernel⟩
abbrev s__law_number : Stmt := topS 6
theorem sc__law_number : FnScope ["_law_base", "_law_figures_here", "_law_found", "_law_k"] ["_law_base", "_law_figures_here"] (defScope s__law_number) := ⟨rfl, rfl, rfl, by decide +kernel, rfl, by decide +kernel, by decide +kernel⟩
abbrev s__law_row : Stmt := topS 7
theorem sc__law_row : FnScope ["_law_base", "_law_number_here", "_law_many", "_law_k"] ["_law_base", "_law_number_here", "_law_many"] (defScope s__law_row) := ⟨rfl, rfl, rfl, by decide +kernel, rfl, by decide +kernel, by decide +kernel⟩
abbrev s_figures_of : Stmt := topS 2
theorem sc_figures_of : FnScope ["base", "number", "many", "figures", "at"] ["base", "number", "many"] (defScope s_figures_of) := ⟨rfl, rfl, rfl, by decide +kernel, rfl, by decide +kernel, by decide +kernel⟩
abbrev s_told : Stmt := topS 1
theorem sc_told : FnScope ["base", "figures", "number", "figure"] ["base", "figures"] (defScope s_told) := ⟨rfl, rfl, rfl, by decide +kernel, rfl, by decide +kernel, by decide +kernel⟩
abbrev s_law : Stmt := topS 9
theorem sc_law : FnScope ["_law_script", "_law_h", "_law_base", "_law_turn", "_law_many", "_law_figures_here", "_law_number_here", "_law_found", "_law_far"] ["_law_script"] (defScope s_law) := ⟨rfl, rfl, rfl, by decide +kernel, rfl, by decide +kernel, by decide +kernel⟩
structure Txt (K : PySem.W.Frag) (mg : Str → Option Value) where
  f__law_next : Addr
  fd__law_next : FuncData
  F__law_next : Fun K "_law_next" "_law_next" s__law_next f__law_next fd__law_next
  g__law_next : mg "_law_next" = some (.ref f__law_next)
  b__law_next : Binds K fd__law_next ["_law_h", "_law_many"] []
  f__law_figures : Addr
  fd__law_figures : FuncData
  F__law_figures : Fun K "_law_figures" "_law_figures" s__law_figures f__law_figures fd__law_figures
  g__law_figures : mg "_law_figures" = some (.ref f__law_figures)
  b__law_figures : Binds K fd__law_figures ["_law_h", "_law_base", "_law_many"] []
  f__law_power : Addr
  fd__law_power : FuncData
  F__law_power : Fun K "_law_power" "_law_power" s__law_power f__law_power fd__law_power
  g__law_power : mg "_law_power" = some (.ref f__law_power)
  b__law_power : Binds K fd__law_power ["_law_base", "_law_many"] []
  f__law_number : Addr
  fd__law_number : FuncData
  F__law_number : Fun K "_law_number" "_law_number" s__law_number f__law_number fd__law_number
  g__law_number : mg "_law_number" = some (.ref f__law_number)
  b__law_number : Binds K fd__law_number ["_law_base", "_law_figures_here"] []
  f__law_row : Addr
  fd__law_row : FuncData
  F__law_row : Fun K "_law_row" "_law_row" s__law_row f__law_row fd__law_row
  g__law_row : mg "_law_row" = some (.ref f__law_row)
  b__law_row : Binds K fd__law_row ["_law_base", "_law_number_here", "_law_many"] []
  f_figures_of : Addr
  fd_figures_of : FuncData
  F_figures_of : Fun K "figures_of" "figures_of" s_figures_of f_figures_of fd_figures_of
  g_figures_of : mg "figures_of" = some (.ref f_figures_of)
  b_figures_of : Binds K fd_figures_of ["base", "number", "many"] []
  f_told : Addr
  fd_told : FuncData
  F_told : Fun K "told" "told" s_told f_told fd_told
  g_told : mg "told" = some (.ref f_told)
  b_told : Binds K fd_told ["base", "figures"] []
  f_law : Addr
  fd_law : FuncData
  F_law : Fun K "law" "law" s_law f_law fd_law
  g_law : mg "law" = some (.ref f_law)
  b_law : Binds K fd_law ["_law_script"] []
  n_bool : mg "bool" = none
  n_int : mg "int" = none
  n_isinstance : mg "isinstance" = none
  n_len : mg "len" = none
  n_list : mg "list" = none
  n_max : mg "max" = none
  n_range : mg "range" = none
  n_reversed : mg "reversed" = none
  n_tuple : mg "tuple" = none
section
variable {P : Program} {w : World} {K : PySem.W.Frag} {mg : Str → Option Value} {base : Heap}

theorem ok__law_next (T : Txt K mg) : FnOk P w K mg base CX0 1 T.f__law_next T.fd__law_next ["_law_h", "_law_many"] (spNext) := by
  refine T.F__law_next.ok sc__law_next (fun vs H Q E h => ?_) (fun cdv A outer s H vs Q E hr h => ?_)
  · obtain ⟨a, c, m, rfl, hd, hm, hm2, q⟩ := h
    rfl
  · have hu := hu_of hr
    obtain ⟨a, c, m, rfl, hd, hm, hm2, q⟩ := h
    refine ⟨_, (pss_cons (ps_set (i := 2) sc__law_next.nd rfl (Or.inl rfl) (pe_op op_mod (pe_ix (k_ix K rfl) (pv 0) pe_int (fun _ _ => rfl)) (pe_callB (call_maxQ rfl) (by rfl) T.n_max (by decide +kernel) (pa_cons pe_int (pa_cons (pe_callB (k_len K rfl) (by rfl) T.n_len (by decide +kernel) (pa_cons (pe_ix (k_ix K rfl) (pv 0) pe_int (fun _ _ => rfl)) pa_nil)) pa_nil))))) (pss_cons (ps_set (i := 3) sc__law_next.nd rfl (Or.inl rfl) (pe_ifExp (pt_cmpR (k_ne K rfl hr.units) (pe_ix (k_ix K rfl) (pv 0) pe_int (fun _ _ => rfl)) (pe_lst pa_nil) (nomark _)) (pe_ix (k_ix K rfl) (pe_ix (k_ix K rfl) (pv 0) pe_int (fun _ _ => rfl)) (pv 2) (fun _ _ => rfl)) pe_int)) (pss_cons (ps_if (pt_cmpR (op_ge) (pv 3) (pe_op op_pow pe_int pe_int) (nomark _)) (pss_cons (ps_asg (pe_op op_fdivW (pv 3) (pv 1)) (pg_sub (pe_ix (k_ix K rfl) (pv 0) pe_int (fun _ _ => rfl)) (pv 2) set_list)) (pss_one (ps_ret (pe_op op_mod (pv 3) (pv 1))))) pss_nil) (pss_cons (ps_asg (pe_op op_mod (pe_op (k_add K rfl) (pe_op (k_add K rfl) (pe_op (k_mul K rfl) (pe_ix (k_ix K rfl) (pv 0) pe_int (fun _ _ => rfl)) pe_int) (pe_op (k_mul K rfl) (pv 3) pe_int)) pe_int) pe_int) (pg_sub (pv 0) pe_int set_list)) (pss_cons (ps_asg (pe_op (k_add K rfl) (pe_ix (k_ix K rfl) (pv 0) pe_int (fun _ _ => rfl)) pe_int) (pg_sub (pv 0) pe_int set_list)) (pss_one (ps_ret (pe_op op_mod (pe_op op_fdivW (pe_ix (k_ix K rfl) (pv 0) pe_int (fun _ _ => rfl)) pe_int) (pv 1))))))))), ?_⟩
    dsimp only [cxOf, L2.start, List.map_cons, List.map_nil, List.length_cons, List.length_nil, List.replicate, List.cons_append, List.nil_append, Nat.reduceAdd, Nat.reduceSub]
    have hac : a ≠ c := hd.ne
    obtain ⟨s, i, cells, ha, hc, hs0, hi0, hl⟩ := id hd
    walk_at "rs"
    refine w_new (Nat.zero_le _) fun p H2 hp sm hp2 => ?_
    have ha2 := sm a _ ha
    have hc2 := sm c _ hc
    refine w_neLI (xs := cells) (ys := []) (SqL.of hc2) (SqL.of hp2) ?_
    walk_at "rs"
    have hj0 : 0 ≤ i % max 1 ((cells.map V.int).length : Int) := Int.emod_nonneg _ (by omega)
    have hj1 : i % max 1 ((cells.map V.int).length : Int) < max 1 ((cells.map V.int).length : Int) := Int.emod_lt_of_pos _ (by omega)
    generalize i % max 1 ((cells.map V.int).length : Int) = j at hj0 hj1 ⊢
    rw [List.length_map] at hj1
    have fin : ∀ (y : Int) (H3 H4 : Hp), 0 ≤ y → H3 = upd H2 a (.lst [.int y, .ref c, .int i]) → H4 = upd H3 a (.lst [.int y, .ref c, .int (i + 1)]) → Q (.int (y / 7 % m)) H4 := fun y H3 H4 hy e3 e4 => by
      subst e4 e3
      refine q _ _ (Int.emod_nonneg _ (by omega)) (Int.emod_lt_of_pos _ hm) ⟨y, i + 1, cells, upd_same, by rw [upd_ne hac.symm, upd_ne hac.symm]; exact hc2, hy, by omega, hl⟩ (fun b o hb nb nc => by rw [upd_ne nb, upd_ne nb]; exact sm b o hb) (DrawAt.tn hd fun b o hb nb nc => by rw [upd_ne nb, upd_ne nb]; exact sm b o hb)
    refine w_iteN (fun hne => ?_) (fun he => ?_)
    · have hlen : 0 < cells.length := List.length_pos_iff.mpr hne
      obtain ⟨x, hx⟩ : ∃ x, cells[j.toNat]? = some x := ⟨_, List.getElem?_eq_getElem (by omega)⟩
      walk_at "rs"
      refine w_ixL (SqL.of hc2) (atI_of hj0 (map_get hx)) ?_
      walk_at "rs"
      refine w_ite (fun hbig => ?_) (fun hsm => ?_)
      · walk_at "rs"
        refine w_setL hc2 (ixN_of hj0 (by rw [List.length_map]; omega)) fun H3 hH3 hc3 => ?_
        walk_at "rs"
        subst hH3
        refine q _ _ (Int.emod_nonneg _ (by omega)) (Int.emod_lt_of_pos _ hm) ⟨s, i, cells.set j.toNat (x / m), by rw [upd_ne hac]; exact ha2, by rw [upd_same, List.map_set], hs0, hi0, by rw [List.length_set]; exact hl⟩ (fun b o hb nb nc => by rw [upd_ne nc]; exact sm b o hb) (DrawAt.tn hd fun b o hb nb nc => by rw [upd_ne nc]; exact sm b o hb)
      · walk_at "rs"
        have hy := Int.emod_nonneg (s * 48271 + x * 69621 + 11) (show (2147483647 : Int) ≠ 0 by decide)
        generalize (s * 48271 + x * 69621 + 11) % 2147483647 = y at hy ⊢
        refine w_setL ha2 rfl fun H3 hH3 ha3 => ?_
        walk_at "rs"
        refine w_setL ha3 rfl fun H4 hH4 ha4 => ?_
        walk_at "rs"
        exact fin y H3 H4 hy hH3 hH4
    · walk_at "rs"
      refine w_ite (fun hbig => absurd hbig (by decide)) (fun hsm => ?_)
      walk_at "rs"
      have hy := Int.emod_nonneg (s * 48271 + 0 * 69621 + 11) (show (2147483647 : Int) ≠ 0 by decide)
      generalize (s * 48271 + 0 * 69621 + 11) % 2147483647 = y at hy ⊢
      refine w_setL ha2 rfl fun H3 hH3 ha3 => ?_
      walk_at "rs"
      refine w_setL ha3 rfl fun H4 hH4 ha4 => ?_
      walk_at "rs"
      exact fin y H3 H4 hy hH3 hH4

theorem ok__law_figures (T : Txt K mg) : FnOk P w K mg base CX0 2 T.f__law_figures T.fd__law_figures ["_law_h", "_law_base", "_law_many"] (spFigures) := by
  refine T.F__law_figures.ok sc__law_figures (fun vs H Q E h => ?_) (fun cdv A outer s H vs Q E hr h => ?_)
  · obtain ⟨a, c, b, m, rfl, hd, hb, hb2, hm, hm2, q⟩ := h
    rfl
  · have hu := hu_of hr
    obtain ⟨a, c, b, m, rfl, hd, hb, hb2, hm, hm2, q⟩ := h
    refine ⟨_, (pss_one (ps_ret (pe_callTy (k_tuple K rfl) (by rfl) T.n_tuple (by decide +kernel) (pa_cons (pe_lc (own := [("_law_k", 3)]) rfl sc__law_figures.nd (pi_range1 rfl T.n_range (pa_cons (pv 2) pa_nil)) (blkOk_by (own := [("_law_k", 3)]) (N := ["_law_h", "_law_base", "_law_many", "_law_k"]) (sc := defScope s__law_figures) (by decide +kernel)) (fun _ _ _ _ _ => (pg_name (i := 3) sc__law_figures.nd rfl (Or.inl rfl))) (fun _ _ _ _ _ => pts_nil) (fun _ _ _ _ _ => (pe_ix (k_ix K rfl) (pe_lst (pa_cons (pe_call (ok__law_next T) (hr.mono (by decide)) (by rfl) T.g__law_next T.F__law_next.kp T.b__law_next .nil pass0 (pa_cons (pv 0) (pa_cons (pv 1) pa_nil))) (pa_cons (pe_op op_sub (pv 1) pe_int) (pa_cons pe_int pa_nil)))) (pe_call (ok__law_next T) (hr.mono (by decide)) (by rfl) T.g__law_next T.F__law_next.kp T.b__law_next .nil pass0 (pa_cons (pv 0) (pa_cons pe_int pa_nil))) (fun _ _ => rfl)))) pa_nil)))), ?_⟩
    dsimp only [cxOf, L2.start, List.map_cons, List.map_nil, List.length_cons, List.length_nil, List.replicate, List.cons_append, List.nil_append, Nat.reduceAdd, Nat.reduceSub]
    walk_at "rs"
    refine w_rngI (by omega) ?_
    refine lq_range0 (fun D i H' => DrawAt H' a c ∧ Kp a c H H' ∧ ∃ ds : List Int, ds.length = i ∧ (∀ d ∈ ds, 0 ≤ d ∧ d < b) ∧ H' D = some (.lst (ds.map V.int))) (fun D H1 hD s h => ⟨hd.same s, s.kp, [], rfl, fun _ z => (List.not_mem_nil z).elim, h⟩) ?_ ?_
    · rintro D i H1 hD hi ⟨hd1, kp1, ds, hl, hds, hH⟩
      refine ⟨rfl, ?_⟩
      have hDa : ∀ {H' : Hp}, Kp a c H1 H' → H' D = some (.lst (ds.map V.int)) := fun k => by
        obtain ⟨s, i, cells, ha, hc, _⟩ := hd
        exact k D _ hH (ne_of_none ha hD).symm (ne_of_none hc hD).symm
      dsimp only [wipe]
      walk_at "rs"
      refine ⟨a, c, b, rfl, hd1, hb, hb2, fun r H2 hr0 hr1 hd2 kp2 tn2 => ?_⟩
      walk_at "rs"
      refine w_new (by decide) fun p H3 hp s3 h3 => ?_
      have hd3 := hd2.same s3
      walk_at "rs"
      refine ⟨a, c, 3, rfl, hd3, by decide, by decide, fun r3 H4 hr3 hr4 hd4 kp4 tn4 => ?_⟩
      have kp14 : Kp a c H1 H4 := (kp2.trans s3.kp).trans kp4
      have h4 : H4 p = some (.lst [.int r, .int (b - 1), .int 0]) := by
        obtain ⟨s, i, cells, ha, hc, _⟩ := hd2
        exact kp4 p _ h3 (ne_of_none ha hp).symm (ne_of_none hc hp).symm
      have hput : ∀ x : Int, 0 ≤ x → x < b → Put D (fun H' => DrawAt H' a c ∧ Kp a c H H' ∧ ∃ ds : List Int, ds.length = i + 1 ∧ (∀ d ∈ ds, 0 ≤ d ∧ d < b) ∧ H' D = some (.lst (ds.map V.int))) (.int x) H4 := fun x hx0 hx1 => by
        refine w_put (hDa kp14) (by rw [List.length_map]; omega) fun H5 e5 h5 => ?_
        have kp5 : Kp a c H H5 := e5 ▸ (kp1.trans kp14).mut hD
        refine ⟨?_, kp5, ds ++ [x], by rw [List.length_append, hl]; rfl, fun d hdm => ?_, by rw [h5, List.map_append]; rfl⟩
        · obtain ⟨s, i, cells, ha, hc, h0⟩ := hd4
          obtain ⟨s', i', cells', ha', hc', _⟩ := hd
          exact ⟨s, i, cells, by rw [e5, upd_ne (ne_of_none ha' hD)]; exact ha, by rw [e5, upd_ne (ne_of_none hc' hD)]; exact hc, h0⟩
        · rcases List.mem_append.mp hdm with h | h
          · exact hds d h
          · rw [List.mem_singleton.mp h]
            exact ⟨hx0, hx1⟩
      have hcase : r3 = 0 ∨ r3 = 1 ∨ r3 = 2 := by omega
      rcases hcase with rfl | rfl | rfl
      · walk_at "rs"
        exact hput r hr0 hr1
      · walk_at "rs"
        exact hput (b - 1) (by omega) (by omega)
      · walk_at "rs"
        exact hput 0 (by omega) (by omega)
    · rintro D H1 hD ⟨hd1, kp1, ds, hl, hds, hH⟩
      walk_at "rs"
      refine w_tupL (SqL.of hH) fun p H3 hp s3 h3 => ?_
      exact q ds p H3 hl hds (hd1.same s3) (kp1.trans s3.kp) (hd.tn (kp1.trans s3.kp)) h3

theorem ok__law_power (T : Txt K mg) : FnOk P w K mg base CX0 1 T.f__law_power T.fd__law_power ["_law_base", "_law_many"] (spPower) := by
  refine T.F__law_power.ok sc__law_power (fun vs H Q E h => ?_) (fun cdv A outer s H vs Q E hr h => ?_)
  · obtain ⟨b, m, rfl, hb, hb2, hm0, hm, q⟩ := h
    rfl
  · have hu := hu_of hr
    obtain ⟨b, m, rfl, hb, hb2, hm0, hm, q⟩ := h
    refine ⟨_, (pss_cons (ps_set (i := 2) sc__law_power.nd rfl (Or.inl rfl) pe_int) (pss_cons (ps_for PassesOwn.never rfl (pi_range1 rfl T.n_range (pa_cons (pv 1) pa_nil)) (pg_name (i := 3) sc__law_power.nd rfl (Or.inl rfl)) (pss_one (ps_set (i := 2) sc__law_power.nd rfl (Or.inl rfl) (pe_op (k_mul K rfl) (pv 2) (pv 0))))) (pss_one (ps_ret (pv 2))))), ?_⟩
    dsimp only [cxOf, L2.start, List.map_cons, List.map_nil, List.length_cons, List.length_nil, List.replicate, List.cons_append, List.nil_append, Nat.reduceAdd, Nat.reduceSub]
    walk_at "rs"
    refine w_rngI (by omega) ?_
    refine lp_range0 (fun i σ H' => ∃ x, σ = [some (.int b), some (.int m), some (.int (b ^ i)), x] ∧ H' = H) ⟨none, by rw [Int.pow_zero], rfl⟩ ?_ ?_
    · rintro i σ H' hi ⟨z, rfl, rfl⟩
      walk_at "rs"
      refine ⟨some (.int (i : Int)), ?_, rfl⟩
      rw [Int.pow_succ]
    · rintro σ H' ⟨x, rfl, rfl⟩
      walk_at "rs"
      exact q

theorem ok__law_number (T : Txt K mg) : FnOk P w K mg base CX0 2 T.f__law_number T.fd__law_number ["_law_base", "_law_figures_here"] (spNumber K) := by
  refine T.F__law_number.ok sc__law_number (fun vs H Q E h => ?_) (fun cdv A outer s H vs Q E hr h => ?_)
  · obtain ⟨b, a, ds, rfl, hS, hn, hd, hb1, hb2, q⟩ := h
    rfl
  · have hu := hu_of hr
    obtain ⟨b, a, ds, rfl, hS, hn, hd, hb1, hb2, q⟩ := h
    refine ⟨_, (pss_cons (ps_set (i := 2) sc__law_number.nd rfl (Or.inl rfl) pe_int) (pss_cons (ps_for PassesOwn.never rfl (pi_range1 rfl T.n_range (pa_cons (pe_callB (k_len K rfl) (by rfl) T.n_len (by decide +kernel) (pa_cons (pv 1) pa_nil)) pa_nil)) (pg_name (i := 3) sc__law_number.nd rfl (Or.inl rfl)) (pss_one (ps_set (i := 2) sc__law_number.nd rfl (Or.inl rfl) (pe_op (k_add K rfl) (pv 2) (pe_op (k_mul K rfl) (pe_ix (k_ix K rfl) (pv 1) (pv 3) (fun _ _ => rfl)) (pe_call (ok__law_power T) (hr.mono (by decide)) (by rfl) T.g__law_power T.F__law_power.kp T.b__law_power .nil pass0 (pa_cons (pv 0) (pa_cons (pv 3) pa_nil)))))))) (pss_one (ps_ret (pv 2))))), ?_⟩
    dsimp only [cxOf, L2.start, List.map_cons, List.map_nil, List.length_cons, List.length_nil, List.replicate, List.cons_append, List.nil_append, Nat.reduceAdd, Nat.reduceSub]
    walk_at "rs"
    refine w_rngI (by rw [List.length_map]; omega) ?_
    refine lp_range0 (fun i σ H' => ∃ x, σ = [some (.int b), some (.ref a), some (.int (val b (ds.take i))), x] ∧ H' = H) ⟨none, by rw [List.take_zero]; rfl, rfl⟩ ?_ ?_
    · rintro i σ H' hi ⟨z, rfl, rfl⟩
      have hi' : i < ds.length := by simpa using hi
      obtain ⟨d, hx⟩ : ∃ d, ds[i]? = some d := ⟨_, List.getElem?_eq_getElem hi'⟩
      have hdd := hd d (List.mem_of_getElem? hx)
      walk_at "rs"
      refine w_ixT hS (atI_nat (map_get hx)) ?_
      walk_at "rs"
      refine ⟨b, i, rfl, hb1, hb2, by omega, by omega, ?_⟩
      walk_at "rs"
      refine ⟨some (.int (i : Int)), ?_, rfl⟩
      rw [val_take hx]
      rfl
    · rintro σ H' ⟨x, rfl, rfl⟩
      walk_at "rs"
      have e : ds.take ((ds.map V.int).length : Int).toNat = ds := List.take_of_length_le (by simp)
      rw [e]
      exact q

theorem ok__law_row (T : Txt K mg) : FnOk P w K mg base CX0 2 T.f__law_row T.fd__law_row ["_law_base", "_law_number_here", "_law_many"] (spRow) := by
  refine T.F__law_row.ok sc__law_row (fun vs H Q E h => ?_) (fun cdv A outer s H vs Q E hr h => ?_)
  · obtain ⟨b, n, m, rfl, hb, hb2, hm, hm2, q⟩ := h
    rfl
  · have hu := hu_of hr
    obtain ⟨b, n, m, rfl, hb, hb2, hm, hm2, q⟩ := h
    refine ⟨_, (pss_one (ps_ret (pe_callTy (k_tuple K rfl) (by rfl) T.n_tuple (by decide +kernel) (pa_cons (pe_lc (own := [("_law_k", 3)]) rfl sc__law_row.nd (pi_range1 rfl T.n_range (pa_cons (pv 2) pa_nil)) (blkOk_by (own := [("_law_k", 3)]) (N := ["_law_base", "_law_number_here", "_law_many", "_law_k"]) (sc := defScope s__law_row) (by decide +kernel)) (fun _ _ _ _ _ => (pg_name (i := 3) sc__law_row.nd rfl (Or.inl rfl))) (fun _ _ _ _ _ => pts_nil) (fun _ _ _ _ _ => (pe_op op_mod (pe_op op_fdivW (pv 1) (pe_call (ok__law_power T) (hr.mono (by decide)) (by rfl) T.g__law_power T.F__law_power.kp T.b__law_power .nil pass0 (pa_cons (pv 0) (pa_cons (pv 3) pa_nil)))) (pv 0)))) pa_nil)))), ?_⟩
    dsimp only [cxOf, L2.start, List.map_cons, List.map_nil, List.length_cons, List.length_nil, List.replicate, List.cons_append, List.nil_append, Nat.reduceAdd, Nat.reduceSub]
    walk_at "rs"
    refine w_rngI (by omega) ?_
    refine lq_range0 (fun D i H' => Same H H' ∧ H' D = some (.lst ((rowOf b n i).map V.int))) (fun D H1 _ s h => ⟨s, h⟩) ?_ ?_
    · rintro D i H1 hD hi ⟨sm, hH⟩
      refine ⟨rfl, ?_⟩
      dsimp only [wipe]
      walk_at "rs"
      refine ⟨b, i, rfl, by omega, by omega, by omega, by omega, ?_⟩
      refine w_I (wide_div (b := 9000) (pow_pos hb _) (Nat.lt_of_lt_of_le (pow_bits hb hb2 _) (Nat.pow_le_pow_right (by decide) (by omega))) (by decide) (by decide)) ?_
      walk_at "rs"
      refine w_put hH (by simp [rowOf]; omega) fun H3 e3 h3 => ⟨e3 ▸ Same.mut sm hD, ?_⟩
      rw [h3]
      unfold rowOf
      rw [List.range_succ, List.map_append, List.map_append]
      rfl
    · rintro D H1 hD ⟨sm, hH⟩
      walk_at "rs"
      refine w_tupL (SqL.of hH) fun p H3 hp s3 h3 => ?_
      exact q p _ (sm.trans s3) (sm.free hp) h3

theorem ok_figures_of (T : Txt K mg) : FnOk P w K mg base CX0 1 T.f_figures_of T.fd_figures_of ["base", "number", "many"] (spFigures_of) := by
  refine T.F_figures_of.ok sc_figures_of (fun vs H Q E h => ?_) (fun cdv A outer s H vs Q E hr h => ?_)
  · obtain ⟨b, n, m, rfl, hb, hb2, hm, hm2, q⟩ := h
    rfl
  · have hu := hu_of hr
    obtain ⟨b, n, m, rfl, hb, hb2, hm, hm2, q⟩ := h
    refine ⟨_, (pss_cons (ps_set (i := 3) sc_figures_of.nd rfl (Or.inl rfl) (pe_lst pa_nil)) (pss_cons (ps_for PassesOwn.never rfl (pi_range1 rfl T.n_range (pa_cons (pv 2) pa_nil)) (pg_name (i := 4) sc_figures_of.nd rfl (Or.inl rfl)) (pss_cons (ps_expr (pe_bm PySem.F.plainAttrs_list PySem.F.slot_list_append PySem.F.type_list_append mt_append (pv 3) (pa_cons (pe_op op_mod (pv 1) (pv 0)) pa_nil))) (pss_one (ps_aug (i := 1) sc_figures_of.nd rfl (Or.inl rfl) (pv 0) ip_fdivW)))) (pss_one (ps_ret (pe_callTy (k_tuple K rfl) (by rfl) T.n_tuple (by decide +kernel) (pa_cons (pv 3) pa_nil)))))), ?_⟩
    dsimp only [cxOf, L2.start, List.map_cons, List.map_nil, List.length_cons, List.length_nil, List.replicate, List.cons_append, List.nil_append, Nat.reduceAdd, Nat.reduceSub]
    walk_at "rs"
    refine w_new (Nat.zero_le _) fun l H1 hl s1 hH1 => ?_
    walk_at "rs"
    refine w_rngI (by omega) ?_
    refine lp_range0 (fun i σ H' => ∃ x, σ = [some (.int b), some (.int (shr b n i)), some (.int m), some (.ref l), x] ∧ Same H H' ∧ H' l = some (.lst ((digs b n i).map V.int))) ⟨none, rfl, s1, hH1⟩ ?_ ?_
    · rintro i σ H' hi ⟨z, rfl, sm, hH⟩
      walk_at "rs"
      refine w_append hH (by rw [List.length_map, digs_len]; omega) fun H3 e3 hH3 => ?_
      walk_at "rs"
      refine w_pDiv (divW hb (by omega)) ?_
      walk_at "rs"
      refine ⟨_, rfl, e3 ▸ Same.mut sm hl, ?_⟩
      rw [hH3, digs_end, List.map_append]
      rfl
    · rintro σ H' ⟨x, rfl, sm, hH⟩
      walk_at "rs"
      refine w_tupL (SqL.of hH) fun p H3 hp s3 h3 => ?_
      exact q p _ (sm.trans s3) (sm.free hp) h3

theorem ok_told (T : Txt K mg) : FnOk P w K mg base CX0 1 T.f_told T.fd_told ["base", "figures"] (spTold K) := by
  refine T.F_told.ok sc_told (fun vs H Q E h => ?_) (fun cdv A outer s H vs Q E hr h => ?_)
  · obtain ⟨b, a, ds, rfl, hS, hb1, hb2, q⟩ := h
    rfl
  · have hu := hu_of hr
    obtain ⟨b, a, ds, rfl, hS, hb1, hb2, q⟩ := h
    refine ⟨_, (pss_cons (ps_set (i := 2) sc_told.nd rfl (Or.inl rfl) pe_int) (pss_cons (ps_for PassesOwn.never rfl (pi_revA (by rfl) T.n_reversed (pv 1)) (pg_name (i := 3) sc_told.nd rfl (Or.inl rfl)) (pss_one (ps_set (i := 2) sc_told.nd rfl (Or.inl rfl) (pe_op (k_add K rfl) (pe_op (k_mul K rfl) (pv 2) (pv 0)) (pv 3))))) (pss_one (ps_ret (pv 2))))), ?_⟩
    dsimp only [cxOf, L2.start, List.map_cons, List.map_nil, List.length_cons, List.length_nil, List.replicate, List.cons_append, List.nil_append, Nat.reduceAdd, Nat.reduceSub]
    walk_at "rs"
    refine w_revT hS ?_
    refine lp_revT (fun i σ H' => ∃ x, σ = [some (.int b), some (.ref a), some (.int (val b (ds.drop (ds.length - i)))), x] ∧ H' = H) ⟨none, by rw [Nat.sub_zero, List.drop_length]; rfl, rfl⟩ (fun _ _ _ ⟨_, _, e⟩ => e ▸ hS) ?_ ?_
    · rintro i x σ H' hi hx ⟨z, rfl, rfl⟩
      obtain ⟨d, hd, rfl⟩ := map_at hx
      rw [List.length_map] at hi hd
      walk_at "rs"
      refine ⟨some (.int d), ?_, rfl⟩
      rw [show ds.length - (i + 1) = ds.length - 1 - i by omega, val_drop hd, show ds.length - 1 - i + 1 = ds.length - i by omega]
    · rintro σ H' ⟨x, rfl, rfl⟩
      walk_at "rs"
      rw [List.length_map, Nat.sub_self]
      exact q

theorem ok_law (T : Txt K mg) : FnOk P w K mg base CX0 3 T.f_law T.fd_law ["_law_script"] (spLaw K) := by
  refine T.F_law.ok sc_law (fun vs H Q E h => ?_) (fun cdv A outer s H vs Q E hr h => ?_)
  · obtain ⟨a, ns, rfl, hS, hn, q⟩ := h
    rfl
  · have hu := hu_of hr
    obtain ⟨a, ns, rfl, hS, hn, q⟩ := h
    refine ⟨_, (pss_cons (ps_set (i := 1) sc_law.nd rfl (Or.inl rfl) (pe_lst (pa_cons pe_int (pa_cons (pe_callTy (k_list K rfl) (by rfl) T.n_list (by decide +kernel) (pa_cons (pv 0) pa_nil)) (pa_cons pe_int pa_nil))))) (pss_cons (ps_set (i := 2) sc_law.nd rfl (Or.inl rfl) (pe_op (k_add K rfl) pe_int (pe_call (ok__law_next T) (hr.mono (by decide)) (by rfl) T.g__law_next T.F__law_next.kp T.b__law_next .nil pass0 (pa_cons (pv 1) (pa_cons pe_int pa_nil))))) (pss_cons (ps_for PassesOwn.never rfl (pi_range1 rfl T.n_range (pa_cons pe_int pa_nil)) (pg_name (i := 3) sc_law.nd rfl (Or.inl rfl)) (pss_cons (ps_set (i := 4) sc_law.nd rfl (Or.inl rfl) (pe_call (ok__law_next T) (hr.mono (by decide)) (by rfl) T.g__law_next T.F__law_next.kp T.b__law_next .nil pass0 (pa_cons (pv 1) (pa_cons pe_int pa_nil)))) (pss_cons (ps_set (i := 5) sc_law.nd rfl (Or.inl rfl) (pe_call (ok__law_figures T) (hr.mono (by decide)) (by rfl) T.g__law_figures T.F__law_figures.kp T.b__law_figures .nil pass0 (pa_cons (pv 1) (pa_cons (pv 2) (pa_cons (pv 4) pa_nil))))) (pss_cons (ps_set (i := 6) sc_law.nd rfl (Or.inl rfl) (pe_call (ok_told T) (hr.mono (by decide)) (by rfl) T.g_told T.F_told.kp T.b_told .nil pass0 (pa_cons (pv 2) (pa_cons (pv 5) pa_nil)))) (pss_cons (ps_if (PW.pt (pw_or (pt_val (pe_callB (k_isi K rfl) (by rfl) T.n_isinstance (by decide +kernel) (pa_cons (pv 6) (pa_cons (pe_bltn (v := .ty "bool") (by rfl) T.n_bool (by decide +kernel) rfl) pa_nil)))) (pw_or (pt_not (pt_val (pe_callB (k_isi K rfl) (by rfl) T.n_isinstance (by decide +kernel) (pa_cons (pv 6) (pa_cons (pe_bltn (v := .ty "int") (by rfl) T.n_int (by decide +kernel) rfl) pa_nil))))) (pw_or1 (pt_cmpR (k_ne K rfl hr.units) (pv 6) (pe_call (ok__law_number T) (hr.mono (by decide)) (by rfl) T.g__law_number T.F__law_number.kp T.b__law_number .nil pass0 (pa_cons (pv 2) (pa_cons (pv 5) pa_nil))) (nomark _)))))) (pss_one (ps_ret pe_bl)) pss_nil) (pss_cons (ps_set (i := 7) sc_law.nd rfl (Or.inl rfl) (pe_call (ok_figures_of T) (hr.mono (by decide)) (by rfl) T.g_figures_of T.F_figures_of.kp T.b_figures_of .nil pass0 (pa_cons (pv 2) (pa_cons (pv 6) (pa_cons (pv 4) pa_nil))))) (pss_cons (ps_if (PW.pt (pw_or (pt_not (pt_val (pe_callB (k_isi K rfl) (by rfl) T.n_isinstance (by decide +kernel) (pa_cons (pv 7) (pa_cons (pe_bltn (v := .ty "tuple") (by rfl) T.n_tuple (by decide +kernel) rfl) pa_nil))))) (pw_or1 (pt_cmpR (k_ne K rfl hr.units) (pv 7) (pv 5) (nomark _))))) (pss_one (ps_ret pe_bl)) pss_nil) (pss_cons (ps_set (i := 8) sc_law.nd rfl (Or.inl rfl) (pe_op (k_add K rfl) (pv 6) (pe_op (k_mul K rfl) (pe_call (ok__law_power T) (hr.mono (by decide)) (by rfl) T.g__law_power T.F__law_power.kp T.b__law_power .nil pass0 (pa_cons (pv 2) (pa_cons (pv 4) pa_nil))) (pe_call (ok__law_next T) (hr.mono (by decide)) (by rfl) T.g__law_next T.F__law_next.kp T.b__law_next .nil pass0 (pa_cons (pv 1) (pa_cons (pe_op op_pow pe_int pe_int) pa_nil)))))) (pss_cons (ps_if (PW.pt (pw_or (pt_cmpR (k_ne K rfl hr.units) (pe_call (ok_figures_of T) (hr.mono (by decide)) (by rfl) T.g_figures_of T.F_figures_of.kp T.b_figures_of .nil pass0 (pa_cons (pv 2) (pa_cons (pv 8) (pa_cons (pv 4) pa_nil)))) (pv 5) (nomark _)) (pw_or1 (pt_cmpR (k_ne K rfl hr.units) (pe_call (ok_told T) (hr.mono (by decide)) (by rfl) T.g_told T.F_told.kp T.b_told .nil pass0 (pa_cons (pv 2) (pa_cons (pe_op (k_add K rfl) (pv 5) (pe_tup (pa_cons pe_int (pa_cons pe_int pa_nil)))) pa_nil))) (pv 6) (nomark _))))) (pss_one (ps_ret pe_bl)) pss_nil) (pss_one (ps_if (pt_cmpR (k_ne K rfl hr.units) (pe_call (ok_figures_of T) (hr.mono (by decide)) (by rfl) T.g_figures_of T.F_figures_of.kp T.b_figures_of .nil pass0 (pa_cons (pv 2) (pa_cons (pv 8) (pa_cons (pe_op (k_add K rfl) (pv 4) pe_int) pa_nil)))) (pe_call (ok__law_row T) (hr.mono (by decide)) (by rfl) T.g__law_row T.F__law_row.kp T.b__law_row .nil pass0 (pa_cons (pv 2) (pa_cons (pv 8) (pa_cons (pe_op (k_add K rfl) (pv 4) pe_int) pa_nil)))) (nomark _)) (pss_one (ps_ret pe_bl)) pss_nil))))))))))) (pss_one (ps_ret (pe_and (pe_cmpR (k_eq K rfl hr.units) (pe_call (ok_told T) (hr.mono (by decide)) (by rfl) T.g_told T.F_told.kp T.b_told .nil pass0 (pa_cons (pv 2) (pa_cons (pe_tup pa_nil) pa_nil))) pe_int (nomark _)) (pe_one (pe_cmpR (k_eq K rfl hr.units) (pe_call (ok_figures_of T) (hr.mono (by decide)) (by rfl) T.g_figures_of T.F_figures_of.kp T.b_figures_of .nil pass0 (pa_cons (pv 2) (pa_cons pe_int (pa_cons pe_int pa_nil)))) (pe_tup pa_nil) (nomark _))))))))), ?_⟩
    dsimp only [cxOf, L2.start, List.map_cons, List.map_nil, List.length_cons, List.length_nil, List.replicate, List.cons_append, List.nil_append, Nat.reduceAdd, Nat.reduceSub]
    walk_at "rs"
    refine w_lstL hS fun l H1 hl s1 h1 => ?_
    walk_at "rs"
    refine w_new (by decide) fun h H2 hh s2 h2 => ?_
    have hd : DrawAt H2 h l := ⟨19, 0, ns, h2, s2 l _ h1, by decide, by decide, hn⟩
    walk_at "rs"
    refine ⟨h, l, 11, rfl, hd, by decide, by decide, fun r H3 hr0 hr1 hd3 _ _ => ?_⟩
    walk_at "rs"
    refine w_rngI (by decide) ?_
    have hb0 : 2 ≤ 2 + r := by omega
    have hb1 : 2 + r ≤ 12 := by omega
    generalize 2 + r = b at hb0 hb1 ⊢
    refine lp_range0 (fun i σ H' => DrawAt H' h l ∧ ∃ x1 x2 x3 x4 x5 x6, σ = [some (.ref a), some (.ref h), some (.int b), x1, x2, x3, x4, x5, x6]) ⟨hd3, none, none, none, none, none, none, rfl⟩ ?_ ?_
    · rintro i σ H4 hi ⟨hd4, x1, x2, x3, x4, x5, x6, rfl⟩
      walk_at "rs"
      refine ⟨h, l, 17, rfl, hd4, by decide, by decide, fun m H5 hm0 hm1 hd5 _ _ => ?_⟩
      walk_at "rs"
      refine ⟨h, l, b, m, rfl, hd5, by omega, by omega, hm0, by omega, fun ds p H6 hds hdb hd6 _ _ h6 => ?_⟩
      have t6 : SqT K H6 p (ds.map V.int) := SqT.of h6
      walk_at "rs"
      refine ⟨b, p, ds, rfl, t6, by omega, by omega, ?_⟩
      walk_at "rs"
      refine ⟨b, p, ds, rfl, t6, by omega, fun d hd => by have := hdb d hd; omega, by omega, by omega, ?_⟩
      walk_at "rs"
      refine w_iteN (fun z => absurd rfl z) fun _ => ?_
      walk_at "rs"
      refine ⟨b, val b ds, m, rfl, by omega, by omega, hm0, by omega, fun p7 H7 s7 _ h7 => ?_⟩
      have e7 : digs b (val b ds) m.toNat = ds := by
        have e := digs_val (b := b) (by omega) 0 ds hdb
        rw [Int.mul_zero, Int.add_zero, hds] at e
        exact e
      rw [e7] at h7
      have t67 := s7.tn
      walk_at "rs"
      refine w_neTI (SqT.of h7) (SqT.tn t67 t6) ?_
      walk_at "rs"
      refine w_iteN (fun z => absurd rfl z) fun _ => ?_
      walk_at "rs"
      refine ⟨b, m, rfl, by omega, by omega, hm0, by omega, ?_⟩
      walk_at "rs"
      refine ⟨h, l, _, rfl, hd6.same s7, by decide, by decide, fun t H8 ht0 ht1 hd8 kp8 tn8 => ?_⟩
      have e6 : (10 : Int) ^ Int.toNat 6 = 1000000 := by decide
      rw [e6] at ht1
      walk_at "rs"
      refine ⟨b, _, m, rfl, by omega, by omega, hm0, by omega, fun p9 H9 s9 _ h9 => ?_⟩
      have e9 : digs b (val b ds + b ^ m.toNat * t) m.toNat = ds := by
        have e := digs_val (b := b) (by omega) t ds hdb
        rw [hds] at e
        exact e
      rw [e9] at h9
      have tn69 : Tn H6 H9 := (t67.trans tn8).trans s9.tn
      have t9 := SqT.tn tn69 t6
      walk_at "rs"
      refine w_neTI (SqT.of h9) t9 ?_
      walk_at "rs"
      refine w_iteN (fun z => absurd rfl z) fun _ => ?_
      walk_at "rs"
      refine w_new (by decide) fun p10 H10 _ s10 h10 => ?_
      refine w_catT (SqT.tn s10.tn t9) (SqT.of h10) (by simp; omega) fun p11 H11 s11 t11 => ?_
      walk_at "rs"
      refine ⟨b, p11, ds ++ [0, 0], rfl, by rw [List.map_append]; exact t11, by omega, by omega, ?_⟩
      rw [val_zeros]
      walk_at "rs"
      refine w_iteN (fun z => absurd rfl z) fun _ => ?_
      have hd11 : DrawAt H11 h l := ((hd8.same s9).same s10).same s11
      walk_at "rs"
      refine ⟨b, _, m + 3, rfl, by omega, by omega, by omega, by omega, fun p12 H12 s12 _ h12 => ?_⟩
      walk_at "rs"
      refine ⟨b, _, m + 3, rfl, by omega, by omega, by omega, by omega, fun p13 H13 s13 _ h13 => ?_⟩
      walk_at "rs"
      refine w_neTI (SqT.tn s13.tn (SqT.of h12)) (SqT.of h13) ?_
      walk_at "rs"
      refine w_iteN (fun z => absurd (digs_row (by omega) _ _) z) fun _ => ?_
      walk_at "rs"
      exact ⟨(hd11.same s12).same s13, _, _, _, _, _, _, rfl⟩
    · rintro σ H4 ⟨hd4, x1, x2, x3, x4, x5, x6, rfl⟩
      walk_at "rs"
      refine w_new (Nat.zero_le _) fun p H5 _ s5 h5 => ?_
      walk_at "rs"
      refine ⟨b, p, [], rfl, SqT.of h5, by omega, by omega, ?_⟩
      walk_at "rs"
      refine w_ite (fun _ => ?_) (fun z => absurd rfl z)
      walk_at "rs"
      refine ⟨b, 5, 0, rfl, by omega, by omega, by decide, by decide, fun p6 H6 _ s6 h6 => ?_⟩
      walk_at "rs"
      refine w_new (Nat.zero_le _) fun p7 H7 _ s7 h7 => ?_
      refine w_eqTI (xs := []) (ys := []) (SqT.tn s7.tn (SqT.of h6)) (SqT.of h7) ?_
      exact q H7
end
theorem all_mk {l : PySem.W.OpenLaw} {w : World} {K : PySem.W.Frag} {h : Heap} {mg : Str → Option Value} {fa : Addr} (X : K.In h) (G : h.Ns mainGlobals mg) (hfa : mg "law" = some (.ref fa))
    {od1 an1 : Option Addr} {sl1 : Array (Option Value)} {oc1 kV1 dc1 pm1 cd1 ct1 : Value} {f1 : Addr}
    {od2 an2 : Option Addr} {sl2 : Array (Option Value)} {oc2 kV2 dc2 pm2 cd2 ct2 : Value} {f2 : Addr}
    {od3 an3 : Option Addr} {sl3 : Array (Option Value)} {oc3 kV3 dc3 pm3 cd3 ct3 : Value} {f3 : Addr}
    {od4 an4 : Option Addr} {sl4 : Array (Option Value)} {oc4 kV4 dc4 pm4 cd4 ct4 : Value} {f4 : Addr}
    {od5 an5 : Option Addr} {sl5 : Array (Option Value)} {oc5 kV5 dc5 pm5 cd5 ct5 : Value} {f5 : Addr}
    {od6 an6 : Option Addr} {sl6 : Array (Option Value)} {oc6 kV6 dc6 pm6 cd6 ct6 : Value} {f6 : Addr}
    {od7 an7 : Option Addr} {sl7 : Array (Option Value)} {oc7 kV7 dc7 pm7 cd7 ct7 : Value} {f7 : Addr}
    {od8 an8 : Option Addr} {sl8 : Array (Option Value)} {oc8 kV8 dc8 pm8 cd8 ct8 : Value} {f8 : Addr}
    (a1 : PySem.W.nsIn K mainGlobals "_law_next" = some (some (.ref f1))) (l1 : K.lookup f1 = some ⟨oc1, od1, .func (PySem.W.fnOf "_law_next" "_law_next" (defArgs s__law_next) (defBody s__law_next) (defScope s__law_next) .none kV1 dc1 pm1 an1 cd1 ct1), sl1⟩) (c1 : PySem.W.codeIn K cd1 "_law_next" = true) (k1 : PySem.W.keepIn K (.ref f1) = true)
    (a2 : PySem.W.nsIn K mainGlobals "_law_figures" = some (some (.ref f2))) (l2 : K.lookup f2 = some ⟨oc2, od2, .func (PySem.W.fnOf "_law_figures" "_law_figures" (defArgs s__law_figures) (defBody s__law_figures) (defScope s__law_figures) .none kV2 dc2 pm2 an2 cd2 ct2), sl2⟩) (c2 : PySem.W.codeIn K cd2 "_law_figures" = true) (k2 : PySem.W.keepIn K (.ref f2) = true)
    (a3 : PySem.W.nsIn K mainGlobals "_law_power" = some (some (.ref f3))) (l3 : K.lookup f3 = some ⟨oc3, od3, .func (PySem.W.fnOf "_law_power" "_law_power" (defArgs s__law_power) (defBody s__law_power) (defScope s__law_power) .none kV3 dc3 pm3 an3 cd3 ct3), sl3⟩) (c3 : PySem.W.codeIn K cd3 "_law_power" = true) (k3 : PySem.W.keepIn K (.ref f3) = true)
    (a4 : PySem.W.nsIn K mainGlobals "_law_number" = some (some (.ref f4))) (l4 : K.lookup f4 = some ⟨oc4, od4, .func (PySem.W.fnOf "_law_number" "_law_number" (defArgs s__law_number) (defBody s__law_number) (defScope s__law_number) .none kV4 dc4 pm4 an4 cd4 ct4), sl4⟩) (c4 : PySem.W.codeIn K cd4 "_law_number" = true) (k4 : PySem.W.keepIn K (.ref f4) = true)
    (a5 : PySem.W.nsIn K mainGlobals "_law_row" = some (some (.ref f5))) (l5 : K.lookup f5 = some ⟨oc5, od5, .func (PySem.W.fnOf "_law_row" "_law_row" (defArgs s__law_row) (defBody s__law_row) (defScope s__law_row) .none kV5 dc5 pm5 an5 cd5 ct5), sl5⟩) (c5 : PySem.W.codeIn K cd5 "_law_row" = true) (k5 : PySem.W.keepIn K (.ref f5) = true)
    (a6 : PySem.W.nsIn K mainGlobals "figures_of" = some (some (.ref f6))) (l6 : K.lookup f6 = some ⟨oc6, od6, .func (PySem.W.fnOf "figures_of" "figures_of" (defArgs s_figures_of) (defBody s_figures_of) (defScope s_figures_of) .none kV6 dc6 pm6 an6 cd6 ct6), sl6⟩) (c6 : PySem.W.codeIn K cd6 "figures_of" = true) (k6 : PySem.W.keepIn K (.ref f6) = true)
    (a7 : PySem.W.nsIn K mainGlobals "told" = some (some (.ref f7))) (l7 : K.lookup f7 = some ⟨oc7, od7, .func (PySem.W.fnOf "told" "told" (defArgs s_told) (defBody s_told) (defScope s_told) .none kV7 dc7 pm7 an7 cd7 ct7), sl7⟩) (c7 : PySem.W.codeIn K cd7 "told" = true) (k7 : PySem.W.keepIn K (.ref f7) = true)
    (a8 : PySem.W.nsIn K mainGlobals "law" = some (some (.ref f8))) (l8 : K.lookup f8 = some ⟨oc8, od8, .func (PySem.W.fnOf "law" "law" (defArgs s_law) (defBody s_law) (defScope s_law) .none kV8 dc8 pm8 an8 cd8 ct8), sl8⟩) (c8 : PySem.W.codeIn K cd8 "law" = true) (k8 : PySem.W.keepIn K (.ref f8) = true)
    (z1 : PySem.W.nsIn K mainGlobals "bool" = some none) (z2 : PySem.W.nsIn K mainGlobals "int" = some none) (z3 : PySem.W.nsIn K mainGlobals "isinstance" = some none) (z4 : PySem.W.nsIn K mainGlobals "len" = some none) (z5 : PySem.W.nsIn K mainGlobals "list" = some none) (z6 : PySem.W.nsIn K mainGlobals "max" = some none) (z7 : PySem.W.nsIn K mainGlobals "range" = some none) (z8 : PySem.W.nsIn K mainGlobals "reversed" = some none) (z9 : PySem.W.nsIn K mainGlobals "tuple" = some none) :
    ∃ fd : FuncData, (∀ (s : Shared) (v : Value), BindsTo s fd ⟨[v], []⟩ [("_law_script", v)]) ∧ ∀ base : Heap, K.In base → base.Ns mainGlobals mg → FnOk l.prog w K mg base CX0 3 fa fd ["_law_script"] (spLaw K) := by
  have e := hfa.symm.trans (PySem.W.mg_of X G a8)
  cases e
  have b1 := (fun_mk (st := s__law_next) l1 c1 k1).binds (ps := ["_law_h", "_law_many"]) fun _ _ _ _ _ _ us hl => match us, hl with | [_, _], _ => rfl
  have b2 := (fun_mk (st := s__law_figures) l2 c2 k2).binds (ps := ["_law_h", "_law_base", "_law_many"]) fun _ _ _ _ _ _ us hl => match us, hl with | [_, _, _], _ => rfl
  have b3 := (fun_mk (st := s__law_power) l3 c3 k3).binds (ps := ["_law_base", "_law_many"]) fun _ _ _ _ _ _ us hl => match us, hl with | [_, _], _ => rfl
  have b4 := (fun_mk (st := s__law_number) l4 c4 k4).binds (ps := ["_law_base", "_law_figures_here"]) fun _ _ _ _ _ _ us hl => match us, hl with | [_, _], _ => rfl
  have b5 := (fun_mk (st := s__law_row) l5 c5 k5).binds (ps := ["_law_base", "_law_number_here", "_law_many"]) fun _ _ _ _ _ _ us hl => match us, hl with | [_, _, _], _ => rfl
  have b6 := (fun_mk (st := s_figures_of) l6 c6 k6).binds (ps := ["base", "number", "many"]) fun _ _ _ _ _ _ us hl => match us, hl with | [_, _, _], _ => rfl
  have b7 := (fun_mk (st := s_told) l7 c7 k7).binds (ps := ["base", "figures"]) fun _ _ _ _ _ _ us hl => match us, hl with | [_, _], _ => rfl
  have b8 := (fun_mk (st := s_law) l8 c8 k8).binds (ps := ["_law_script"]) fun _ _ _ _ _ _ us hl => match us, hl with | [_], _ => rfl
  let T : Txt K mg := {
    f__law_next := f1, fd__law_next := _, F__law_next := fun_mk (st := s__law_next) l1 c1 k1, g__law_next := PySem.W.mg_of X G a1, b__law_next := b1,
    f__law_figures := f2, fd__law_figures := _, F__law_figures := fun_mk (st := s__law_figures) l2 c2 k2, g__law_figures := PySem.W.mg_of X G a2, b__law_figures := b2,
    f__law_power := f3, fd__law_power := _, F__law_power := fun_mk (st := s__law_power) l3 c3 k3, g__law_power := PySem.W.mg_of X G a3, b__law_power := b3,
    f__law_number := f4, fd__law_number := _, F__law_number := fun_mk (st := s__law_number) l4 c4 k4, g__law_number := PySem.W.mg_of X G a4, b__law_number := b4,
    f__law_row := f5, fd__law_row := _, F__law_row := fun_mk (st := s__law_row) l5 c5 k5, g__law_row := PySem.W.mg_of X G a5, b__law_row := b5,
    f_figures_of := f6, fd_figures_of := _, F_figures_of := fun_mk (st := s_figures_of) l6 c6 k6, g_figures_of := PySem.W.mg_of X G a6, b_figures_of := b6,
    f_told := f7, fd_told := _, F_told := fun_mk (st := s_told) l7 c7 k7, g_told := PySem.W.mg_of X G a7, b_told := b7,
    f_law := fa, fd_law := _, F_law := fun_mk (st := s_law) l8 c8 k8, g_law := PySem.W.mg_of X G a8, b_law := b8,
    n_bool := PySem.W.mg_none_of X G z1,
    n_int := PySem.W.mg_none_of X G z2,
    n_isinstance := PySem.W.mg_none_of X G z3,
    n_len := PySem.W.mg_none_of X G z4,
    n_list := PySem.W.mg_none_of X G z5,
    n_max := PySem.W.mg_none_of X G z6,
    n_range := PySem.W.mg_none_of X G z7,
    n_reversed := PySem.W.mg_none_of X G z8,
    n_tuple := PySem.W.mg_none_of X G z9 }
  exact ⟨PySem.W.fnOf "law" "law" (defArgs s_law) (defBody s_law) (defScope s_law) .none kV8 dc8 pm8 an8 cd8 ct8, fun s v => .of_eq rfl, fun base _ _ => ok_law T⟩
end My
open PySem PySem.W PyProof.Rows
set_option maxRecDepth 100000 in
set_option maxHeartbeats 0 in
theorem PySem.Challenge.cw_crankdrum_k04_rows_of_figures_holds : PySem.Challenge.rw_crankdrum_k04_rows_of_figures.Holds := by
  w_on; o_law; k_head; (case hw => w_witness2)
  k_fill
  refine L2.walk_of (l := PySem.Challenge.rw_crankdrum_k04_rows_of_figures) (n := 63) (k := 3) (x := "_law_script") (CX := fun _ => L2.CX0) (sp := fun w => My.spLaw _) rfl (by decide) rfl ⟨rfl, by decide, by decide⟩ (fun w h Y => PySem.W.kIn_of Y) ?F (fun _ _ a ns hl _ hS => ⟨a, ns, rfl, hS, hl, fun _ => rfl⟩) (fun _ _ _ _ _ h => h)
  case F =>
    intro w mg fa h KX G hmg
    refine' My.all_mk KX G hmg ?a1 ?l1 ?c1 ?k1 ?a2 ?l2 ?c2 ?k2 ?a3 ?l3 ?c3 ?k3 ?a4 ?l4 ?c4 ?k4 ?a5 ?l5 ?c5 ?k5 ?a6 ?l6 ?c6 ?k6 ?a7 ?l7 ?c7 ?k7 ?a8 ?l8 ?c8 ?k8 ?z1 ?z2 ?z3 ?z4 ?z5 ?z6 ?z7 ?z8 ?z9
    (case a1 => k_is); (case l1 => k_is); (case c1 => k_is); (case k1 => k_is); (case a2 => k_is); (case l2 => k_is); (case c2 => k_is); (case k2 => k_is); (case a3 => k_is); (case l3 => k_is); (case c3 => k_is); (case k3 => k_is); (case a4 => k_is); (case l4 => k_is); (case c4 => k_is); (case k4 => k_is); (case a5 => k_is); (case l5 => k_is); (case c5 => k_is); (case k5 => k_is); (case a6 => k_is); (case l6 => k_is); (case c6 => k_is); (case k6 => k_is); (case a7 => k_is); (case l7 => k_is); (case c7 => k_is); (case k7 => k_is); (case a8 => k_is); (case l8 => k_is); (case c8 => k_is); (case k8 => k_is); (case z1 => k_is); (case z2 => k_is); (case z3 => k_is); (case z4 => k_is); (case z5 => k_is); (case z6 => k_is); (case z7 => k_is); (case z8 => k_is); (case z9 => k_is)
