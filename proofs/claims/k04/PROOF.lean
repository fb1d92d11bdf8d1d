import PyProof.Rows.All
import Wide.All
import OpenK.AllK
import Wide.FinOn
import HandS.ForMost
import HandS.Wide
import HandS.WideMore
import HandS.IsInst
import HandS.Rev
import HandS.RevRange
import HandS.TupAny
import HandS.TupMul
import KE.GoesEnum
import HandS.Iter
import PyProof.Rows.MatchSeqLen
import PyProof.RulesMatchSeq
import HandS.Strs
import HandS.SetFor
import PyProof.FactsAll.range_iterator_1
import HandS.Conv
import HandS.ExcIs
import HandS.ForExc
import HandS.RaiseMore
import HandS.FStr
import PyProof.Rows.RegStrFacts
import HandS.AnyAll
import HandS.EndTab
import PyProof.TupleOfGen
import PyProof.GenCompT
import KE.GoesMore
import KE.KNest
import HandS.EndOwn
import PySem.Challenge.RW_crankdrum_k04_rows_of_figures
set_option Elab.async false
set_option linter.all false
set_option maxRecDepth 100000
set_option maxHeartbeats 4000000
/-! own engine: what stays of tuples, data that never change, unions of rules, steps of readings -/
namespace Rn
open PySem PySem.Spec L2 RT

/-! ### heaps -/
/-- tuples stay -/
def Tn (H H' : Hp) : Prop := ∀ a xs, Rd H a (.tup xs) → Rd H' a (.tup xs)
theorem Tn.refl (H : Hp) : Tn H H := fun _ _ h => h
theorem Tn.trans {A B C : Hp} (x : Tn A B) (y : Tn B C) : Tn A C := fun a xs h => y a xs (x a xs h)
theorem _root_.L2.Same.tn {H H' : Hp} (e : Same H H') : Tn H H' := fun a xs h => by
  rcases h with h | ⟨o, h⟩
  · exact .inl (e _ _ h)
  · exact .inr ⟨o, e _ _ h⟩
theorem _root_.L2.Same.new {H : Hp} {p : Addr} {o : HO} (h : H p = none) : Same H (upd H p o) := fun b x e => by
  rw [upd_ne (ne_of_none e h)]
  exact e
/-- what H does not know may change behind -/
theorem _root_.L2.Same.mut {H H' : Hp} {p : Addr} {o : HO} (e : Same H H') (h : H p = none) : Same H (upd H' p o) := fun b x ha => by
  rw [upd_ne (ne_of_none ha h)]
  exact e b x ha
theorem _root_.L2.Same.back {H H' : Hp} {p : Addr} (e : Same H H') (h : H' p = none) : H p = none := e.free h
theorem SqT.tn {K : PySem.W.Frag} {H H' : Hp} {a : Addr} {xs : List V} (e : Tn H H') (h : SqT K H a xs) : SqT K H' a xs := by
  rcases h with h | h
  · exact .inl (e _ _ h)
  · exact .inr h
/-- all stays but what stands at the two -/
def Kp (a c : Addr) (H H' : Hp) : Prop := ∀ b o, H b = some o → b ≠ a → b ≠ c → H' b = some o
theorem Kp.refl (a c : Addr) (H : Hp) : Kp a c H H := fun _ _ h _ _ => h
theorem Kp.trans {a c : Addr} {A B C : Hp} (x : Kp a c A B) (y : Kp a c B C) : Kp a c A C := fun b o h n m => y b o (x b o h n m) n m
theorem _root_.L2.Same.kp {a c : Addr} {H H' : Hp} (e : Same H H') : Kp a c H H' := fun b o h _ _ => e b o h
theorem Kp.mut {a c D : Addr} {H H' : Hp} {o : HO} (k : Kp a c H H') (hD : H D = none) : Kp a c H (upd H' D o) := fun b o hb na nc => by
  rw [upd_ne (ne_of_none hb hD)]
  exact k b o hb na nc
theorem Kp.tn {a c : Addr} {H H' : Hp} {xs ys : List V} (k : Kp a c H H') (ha : H a = some (.lst xs)) (hc : H c = some (.lst ys)) : Tn H H' := fun b zs h => by
  rcases h with h | ⟨o, h⟩
  · exact .inl (k _ _ h (ne_of h ha (by intro z; cases z)) (ne_of h hc (by intro z; cases z)))
  · exact .inr ⟨o, k _ _ h (ne_of h ha (by intro z; cases z)) (ne_of h hc (by intro z; cases z))⟩

/-! ### data that never change -/
mutual
inductive Fz (K : PySem.W.Frag) (H : Hp) : V → PyData → Prop
  | non : Fz K H .non .none
  | bl (b : Bool) : Fz K H (.bl b) (.bool b)
  | int (i : Int) : Fz K H (.int i) (.int i)
  | str (x : Str) : Fz K H (.str x) (.str x)
  | tup {a : Addr} {xs : List V} {ds : List PyData} : SqT K H a xs → Fzs K H xs ds → Fz K H (.ref a) (.tuple ds)
inductive Fzs (K : PySem.W.Frag) (H : Hp) : List V → List PyData → Prop
  | nil : Fzs K H [] []
  | cons {v : V} {vs : List V} {d : PyData} {ds : List PyData} : Fz K H v d → Fzs K H vs ds → Fzs K H (v :: vs) (d :: ds)
end
mutual
theorem Fz.tn {K : PySem.W.Frag} {H H' : Hp} (e : Tn H H') : ∀ {v : V} {d : PyData}, Fz K H v d → Fz K H' v d
  | _, _, .non => .non
  | _, _, .bl b => .bl b
  | _, _, .int i => .int i
  | _, _, .str x => .str x
  | _, _, .tup h r => .tup (SqT.tn e h) (Fzs.tn e r)
theorem Fzs.tn {K : PySem.W.Frag} {H H' : Hp} (e : Tn H H') : ∀ {vs : List V} {ds : List PyData}, Fzs K H vs ds → Fzs K H' vs ds
  | _, _, .nil => .nil
  | _, _, .cons h r => .cons (Fz.tn e h) (Fzs.tn e r)
end
mutual
theorem Fz.dp {K : PySem.W.Frag} {H : Hp} : ∀ {v : V} {d : PyData}, Fz K H v d → Dp K H v d
  | _, _, .non => .non
  | _, _, .bl b => .bl b
  | _, _, .int i => .int i
  | _, _, .str x => .str x
  | _, _, .tup h r => .tup h (Fzs.dp r)
theorem Fzs.dp {K : PySem.W.Frag} {H : Hp} : ∀ {vs : List V} {ds : List PyData}, Fzs K H vs ds → DpAll K H vs ds
  | _, _, .nil => .nil
  | _, _, .cons h r => .cons (Fz.dp h) (Fzs.dp r)
end
theorem Fzs.ints {K : PySem.W.Frag} {H : Hp} : ∀ ns : List Int, Fzs K H (ns.map V.int) (ns.map PyData.int)
  | [] => .nil
  | n :: r => .cons (.int n) (Fzs.ints r)
theorem DpAll.ints {K : PySem.W.Frag} {H : Hp} : ∀ ns : List Int, DpAll K H (ns.map V.int) (ns.map PyData.int)
  | [] => .nil
  | n :: r => .cons (.int n) (DpAll.ints r)
theorem Fz.ints {K : PySem.W.Frag} {H : Hp} {a : Addr} {ns : List Int} (h : SqT K H a (ns.map V.int)) : Fz K H (.ref a) (.tuple (ns.map PyData.int)) := .tup h (Fzs.ints ns)

/-! ### unions of rules -/
section
variable {X : Cx}
def rCatS : R2 := fun x y H Q => ∃ i j, x = .str i ∧ y = .str j ∧ i.length + j.length ≤ sizeLine ∧ Q (.str (i ++ j)) H
def uAdd (K : PySem.W.Frag) : R2 := fun x y H Q => rI0 (fun i j => .int (i + j)) x y H Q ∨ rCatA K x y H Q ∨ rCat x y H Q ∨ rCatS x y H Q
theorem op_addU : OpR X (binaryOp .Add) (uAdd X.K) := op_add.or (op_catA.or (op_cat.or op_add_str))
def uMul (K : PySem.W.Frag) : R2 := fun x y H Q => rI CMul (fun i j => .int (i * j)) x y H Q ∨ rRepT K x y H Q ∨ rRep x y H Q ∨ rI CMulW (fun i j => .int (i * j)) x y H Q
theorem op_mulU : OpR X (binaryOp .Mult) (uMul X.K) := op_mul.or (op_repT.or (op_rep.or op_mulW))
def uEq (K : PySem.W.Frag) : R2 := fun x y H Q => rEq x y H Q ∨ rEqD K x y H Q
theorem op_eqU (hu : X.A.units + 64 < cLine) : OpR X (compareOp .Eq) (uEq X.K) := op_eq.or (op_eqD hu)
def uNe (K : PySem.W.Frag) : R2 := fun x y H Q => rNe x y H Q ∨ rNeD K x y H Q
theorem op_neU (hu : X.A.units + 64 < cLine) : OpR X (compareOp .NotEq) (uNe X.K) := op_ne.or (op_neD hu)
def rLenQ (K : PySem.W.Frag) : List V → Hp → VK → Prop := fun xs H Q => ∃ p ys, xs = [.ref p] ∧ (SqL K H p ys ∨ SqT K H p ys) ∧ Q (.int ys.length) H
def rLenT : List V → Hp → VK → Prop := fun xs H Q => ∃ z, xs = [.str z] ∧ z.length ≤ sizeLine ∧ Q (.int z.length) H
def uLen (K : PySem.W.Frag) : List V → Hp → VK → Prop := fun xs H Q => rLenQ K xs H Q ∨ rLenT xs H Q
theorem call_lenU : CallR X (.builtin "len") (uLen X.K) := call_len_seq.or call_len_str
def uSl (K : PySem.W.Frag) : V → Option Int → Option Int → Hp → VK → Prop := fun x lo hi H Q => rSlA K x lo hi H Q ∨ rSlL K x lo hi H Q
theorem sl_U : SlR X (uSl X.K) := SlR.or sl_tupA sl_list
theorem PI.or {tg it : Expr} {w1 w2 : TI} (a : PI X tg it w1) (b : PI X tg it w2) : PI X tg it (fun σ H R => w1 σ H R ∨ w2 σ H R) :=
  ⟨fun pins s σ H R I h => h.elim (fun h => a.run pins s σ H R I h) (fun h => b.run pins s σ H R I h)⟩
def uI (K : PySem.W.Frag) (te : TE) : TI := fun σ H R => iTup K te σ H R ∨ iList K te σ H R
theorem pi_U {tg l : Expr} {tl : TE} (hl : PE X l tl) : PI X tg l (uI X.K tl) := PI.or (pi_tup hl) (pi_list hl)
/-- the operators in place, at a local name -/
theorem ip_of {op : Operator} {r : R2} (h : OpR X (inplaceOp op) r) : PIp X op (fun x y H Q => r x y H Q) := by
  intro pins s σ H x y u v Q I rx ry hh
  exact augR h I rx ry hh
end

/-- tuple(list) -/
def rTupQ (K : PySem.W.Frag) : List V → Hp → VK → Prop := fun xs H Q => ∃ p ys, xs = [.ref p] ∧ ((SqL K H p ys ∧ ∀ l, H l = none → Q (.ref l) (upd H l (.tup ys))) ∨ (SqT K H p ys ∧ Q (.ref p) H))
theorem call_tupleQ {X : Cx} : CallR X (.type "tuple") (rTupQ X.K) := call_tuple_of
def rLstQ (K : PySem.W.Frag) : List V → Hp → VK → Prop := fun xs H Q => ∃ p ys, xs = [.ref p] ∧ (SqL K H p ys ∨ SqT K H p ys) ∧ ∀ l, H l = none → Q (.ref l) (upd H l (.lst ys))
theorem call_listQ {X : Cx} : CallR X (.type "list") (rLstQ X.K) := call_list_of
/-! the same, the written part said -/
section
variable {X : Cx} (K : PySem.W.Frag) (e : X.K = K)
include e
theorem k_add : OpR X (binaryOp .Add) (uAdd K) := e ▸ op_addU
theorem k_mul : OpR X (binaryOp .Mult) (uMul K) := e ▸ op_mulU
theorem k_eq (hu : X.A.units + 64 < cLine) : OpR X (compareOp .Eq) (uEq K) := e ▸ op_eqU hu
theorem k_ne (hu : X.A.units + 64 < cLine) : OpR X (compareOp .NotEq) (uNe K) := e ▸ op_neU hu
theorem k_len : CallR X (.builtin "len") (uLen K) := e ▸ call_lenU
theorem k_sl : SlR X (uSl K) := e ▸ sl_U
theorem k_ix : IxR X (rIx K) := e ▸ ix_seq
theorem k_in : OpR X (compareOp .In) (rIn K false) := e ▸ op_in_seq
theorem k_ni : OpR X (compareOp .NotIn) (rIn K true) := e ▸ op_notIn_seq
theorem k_isi : CallR X (.builtin "isinstance") (rIsi K) := e ▸ call_isi
theorem k_tuple : CallR X (.type "tuple") (rTupQ K) := e ▸ call_tupleQ
theorem k_list : CallR X (.type "list") (rLstQ K) := e ▸ call_listQ
theorem k_I {tg l : Expr} {tl : TE} (hl : PE X l tl) : PI X tg l (uI K tl) := e ▸ pi_U hl
end

/-! ### steps of readings -/
section
variable {K : PySem.W.Frag} {σ : St} {H : Hp} {D : Ends} {t u : TS} {te ta tb tc : TE} {tr : TA} {c c1 c2 : TT} {Q : VK} {QB : Bool → Hp → Prop} {QL : List V → Hp → Prop} {v x y : V} {i : Nat} {g : TG} {r r' : R2}
theorem w_seq (h : t { D with nx := u D } σ H) : tSeq t u D σ H := h
theorem w_asgN (h : te σ H fun x H1 => D.nx (σ.set i (some x)) H1) : tAsg te (gName i) D σ H := h
theorem w_asg (h : te σ H fun x H1 => g x σ H1 D.nx) : tAsg te g D σ H := h
theorem w_ret (h : te σ H D.rt) : tRet te D σ H := h
theorem w_retN (h : D.rt .non H) : tRetN D σ H := h
theorem w_drop (h : te σ H fun _ H1 => D.nx σ H1) : tDrop te D σ H := h
theorem w_next (h : D.nx σ H) : tNext D σ H := h
theorem w_brk (h : D.bk σ H) : tBreak D σ H := h
theorem w_cont (h : D.ct σ H) : tCont D σ H := h
theorem w_ifS (h : c σ H fun b H1 => if b = true then t D σ H1 else u D σ H1) : tIfS c t u D σ H := h
theorem w_par {i j : Nat} {ta : TA} (h : ta σ H fun vs H1 => ∃ v w, vs = [v, w] ∧ D.nx ((σ.set i (some v)).set j (some w)) H1) : tPar i j ta D σ H := h
theorem w_aug {ti : TIp} (hx : σ[i]? = some (some x)) (h : te σ H fun y H1 => ti x y H1 fun z H2 => D.nx (σ.set i (some z)) H2) : tAug i te ti D σ H := ⟨x, hx, h⟩
theorem w_var (hv : σ[i]? = some (some v)) (h : Q v H) : tVar i σ H Q := ⟨v, hv, h⟩
theorem w_c (h : Q v H) : tC v σ H Q := h
theorem w_op (h : ta σ H fun x H1 => tb σ H1 fun y H2 => r x y H2 Q) : tOp r ta tb σ H Q := h
theorem w_un {ru : V → Hp → VK → Prop} (h : ta σ H fun x H1 => ru x H1 Q) : tUn ru ta σ H Q := h
theorem w_neg {a : Int} (h : Q (.int (-a)) H) : rU (fun i => .int (-i)) (.int a) H Q := ⟨a, rfl, h⟩
theorem w_ifE (h : c σ H fun b H1 => if b = true then ta σ H1 Q else tb σ H1 Q) : tIf c ta tb σ H Q := h
theorem w_nil (h : QL [] H) : tNil σ H QL := h
theorem w_cons (h : ta σ H fun x H1 => tr σ H1 fun xs H2 => QL (x :: xs) H2) : tCons ta tr σ H QL := h
/-- a new object at p -/
def NewQ (H : Hp) (o : HO) (R : Addr → Hp → Prop) : Prop := ∀ p, H p = none → R p (upd H p o)
theorem w_tup (h : tr σ H fun xs H1 => xs.length ≤ sizeLine ∧ NewQ H1 (.tup xs) fun p H2 => Q (.ref p) H2) : tTup tr σ H Q := h
theorem w_lst (h : tr σ H fun xs H1 => xs.length ≤ sizeLine ∧ NewQ H1 (.lst xs) fun p H2 => Q (.ref p) H2) : tLst tr σ H Q := h
theorem w_new {n : Nat} {o : HO} {R : Addr → Hp → Prop} (hz : n ≤ 100000) (h : ∀ p H', H p = none → Same H H' → H' p = some o → R p H') : n ≤ sizeLine ∧ NewQ H o R := ⟨Nat.le_trans hz (by decide), fun p hp => h p _ hp (Same.new hp) upd_same⟩
theorem w_call {sp : Sp} {dvs : List V} {E : XK} (h : tr σ H fun vs H1 => sp (vs ++ dvs) H1 Q E) : tCall sp dvs E tr σ H Q := h
theorem w_cb {rc : List V → Hp → VK → Prop} (h : tr σ H fun vs H1 => rc vs H1 Q) : tCB rc tr σ H Q := h
theorem w_test (h : te σ H fun x H' => ∃ k, x = .bl k ∧ QB k H') : tTest te σ H QB := h
theorem w_tB (h : te σ H fun x H1 => ∃ c, x = .bl c ∧ QB c H1) : tB te σ H QB := h
theorem w_bl {b : Bool} {P : Bool → Prop} (h : P b) : ∃ k, V.bl b = .bl k ∧ P k := ⟨b, rfl, h⟩
theorem w_and (h : c1 σ H fun b H1 => if b = true then c2 σ H1 QB else QB false H1) : tAnd c1 c2 σ H QB := h
theorem w_or (h : c1 σ H fun b H1 => if b = true then QB true H1 else c2 σ H1 QB) : tOr c1 c2 σ H QB := h
theorem w_not (h : c1 σ H fun b H1 => QB (!b) H1) : tNot c1 σ H QB := h
theorem w_andV (h : ta σ H fun x H1 => ∃ c, x = .bl c ∧ if c = true then tb σ H1 Q else Q (.bl false) H1) : tAndV ta tb σ H Q := h
theorem w_orV (h : ta σ H fun x H1 => ∃ c, x = .bl c ∧ if c = true then Q (.bl true) H1 else tb σ H1 Q) : tOrV ta tb σ H Q := h
theorem w_notV (h : ta σ H fun x H1 => ∃ c, x = .bl c ∧ Q (.bl (!c)) H1) : tNotV ta σ H Q := h
theorem w_chain (h : ta σ H fun x H1 => tb σ H1 fun y H2 => r x y H2 fun z H3 => ∃ k, z = .bl k ∧ if k = true then tc σ H3 fun z2 H4 => r' y z2 H4 Q else Q (.bl false) H3) : tChain r r' ta tb tc σ H Q := h
/-! by values -/
theorem w_addI {a b : Int} (h : Q (.int (a + b)) H) : uAdd K (.int a) (.int b) H Q := .inl ⟨a, b, rfl, rfl, h⟩
theorem w_I0 {f : Int → Int → V} {a b : Int} (h : Q (f a b) H) : rI0 f (.int a) (.int b) H Q := ⟨a, b, rfl, rfl, h⟩
theorem w_I {C : Int → Int → Prop} {f : Int → Int → V} {a b : Int} (hc : C a b) (h : Q (f a b) H) : rI C f (.int a) (.int b) H Q := ⟨a, b, rfl, rfl, hc, h⟩
theorem w_mulI {a b : Int} (hc : CMul a b) (h : Q (.int (a * b)) H) : uMul K (.int a) (.int b) H Q := .inl ⟨a, b, rfl, rfl, hc, h⟩
theorem w_eqI {a b : Int} (h : Q (.bl (decide (a = b))) H) : uEq K (.int a) (.int b) H Q := .inl ⟨rfl, by
  have e : decide (V.int a = V.int b) = decide (a = b) := decide_eq_decide.mpr ⟨fun z => V.int.inj z, fun z => by rw [z]⟩
  rw [e]
  exact h⟩
theorem w_neI {a b : Int} (h : Q (.bl (!decide (a = b))) H) : uNe K (.int a) (.int b) H Q := .inl ⟨rfl, by
  have e : decide (V.int a = V.int b) = decide (a = b) := decide_eq_decide.mpr ⟨fun z => V.int.inj z, fun z => by rw [z]⟩
  rw [e]
  exact h⟩
theorem w_eqS {a b : Str} (h : Q (.bl (decide (a = b))) H) : uEq K (.str a) (.str b) H Q := .inl ⟨rfl, by
  have e : decide (V.str a = V.str b) = decide (a = b) := decide_eq_decide.mpr ⟨fun z => V.str.inj z, fun z => by rw [z]⟩
  rw [e]
  exact h⟩
theorem w_eqD {d e : PyData} (hd : Dp K H x d) (he : Dp K H y e) (sd : SeqAt.shaped d = true) (se : SeqAt.shaped e = true) (h : Q (.bl (PyData.eqv d e)) H) : uEq K x y H Q := .inr ⟨d, e, hd, he, sd, se, h⟩
theorem w_neD {d e : PyData} (hd : Dp K H x d) (he : Dp K H y e) (sd : SeqAt.shaped d = true) (se : SeqAt.shaped e = true) (h : Q (.bl (!PyData.eqv d e)) H) : uNe K x y H Q := .inr ⟨d, e, hd, he, sd, se, h⟩
theorem w_ixL {p : Addr} {xs : List V} {a : Int} (hl : SqL K H p xs) (ha : atI xs a = some v) (h : Q v H) : rIx K (.ref p) (.int a) H Q := .inl ⟨p, xs, a, v, rfl, rfl, hl, ha, h⟩
theorem w_ixT {p : Addr} {xs : List V} {a : Int} (hl : SqT K H p xs) (ha : atI xs a = some v) (h : Q v H) : rIx K (.ref p) (.int a) H Q := .inr (.inl ⟨p, xs, a, v, rfl, rfl, hl, ha, h⟩)
theorem w_lenL {p : Addr} {xs : List V} (hl : SqL K H p xs) (h : Q (.int xs.length) H) : uLen K [.ref p] H Q := .inl ⟨p, xs, rfl, .inl hl, h⟩
theorem w_lenT {p : Addr} {xs : List V} (hl : SqT K H p xs) (h : Q (.int xs.length) H) : uLen K [.ref p] H Q := .inl ⟨p, xs, rfl, .inr hl, h⟩
theorem w_iteT {A B : Prop} (h : A) : if true = true then A else B := by
  rw [if_pos rfl]
  exact h
theorem w_iteF {A B : Prop} (h : B) : if false = true then A else B := by
  rw [if_neg Bool.false_ne_true]
  exact h
theorem w_iteNF {A B : Prop} (h : A) : if (!false) = true then A else B := w_iteT h
theorem w_iteNT {A B : Prop} (h : B) : if (!true) = true then A else B := w_iteF h
theorem w_ite {p : Prop} [Decidable p] {A B : Prop} (h1 : p → A) (h2 : ¬ p → B) : if decide p = true then A else B := by
  by_cases h : p
  · rw [decide_eq_true h]
    exact w_iteT (h1 h)
  · rw [decide_eq_false h]
    exact w_iteF (h2 h)
theorem w_iteN {p : Prop} [Decidable p] {A B : Prop} (h1 : ¬ p → A) (h2 : p → B) : if (!decide p) = true then A else B := by
  by_cases h : p
  · rw [decide_eq_true h]
    exact w_iteF (h2 h)
  · rw [decide_eq_false h]
    exact w_iteT (h1 h)
theorem w_iteB {b : Bool} {A B : Prop} (h1 : b = true → A) (h2 : b = false → B) : if b = true then A else B := by
  cases b with
  | true => exact w_iteT (h1 rfl)
  | false => exact w_iteF (h2 rfl)
/-! loops -/
def Lp (J : It) (g : TG) (tb : TS) (D : Ends) (σ : St) (H : Hp) : Prop := ∃ W : Nat → Nat → St → Hp → Prop, (∃ m, W 0 m σ H) ∧ ∀ i m σ H, W i m σ H →
  (J.stop i H ∧ D.nx σ H) ∨ (J.go i H ∧ ∃ N : St → Hp → Prop, (∀ σ' H', N σ' H' → ∃ m', m' < m ∧ W (i + 1) m' σ' H') ∧ ∀ x H', J.yld i H x H' → g x σ H' fun σ2 H2 => tb { D with nx := N, ct := N, bk := D.nx } σ2 H2)
theorem w_for {wi : TI} {g : TG} {tb : TS} (h : wi σ H fun J H1 => Lp J g tb D σ H1) : tFor wi g tb D σ H := h
theorem w_rng1 {ta : TA} {R : It → Hp → Prop} (h : ta σ H fun vs H1 => ∃ j : Int, vs = [.int j] ∧ -(2 ^ 62) ≤ j ∧ j < 2 ^ 62 ∧ R (Itr 0 j.toNat) H1) : iRng1 ta σ H R := h
theorem w_rng1' {j : Int} {R : It → Hp → Prop} (h1 : -(2 ^ 62) ≤ j) (h2 : j < 2 ^ 62) (h : R (Itr 0 j.toNat) H) : ∃ i : Int, [V.int j] = [.int i] ∧ -(2 ^ 62) ≤ i ∧ i < 2 ^ 62 ∧ R (Itr 0 i.toNat) H := ⟨j, rfl, h1, h2, h⟩
theorem lp_range {lo : Int} {n : Nat} {g : TG} {tb : TS} (Pv : Nat → St → Hp → Prop) (h0 : Pv 0 σ H)
    (hs : ∀ i σ H, i < n → Pv i σ H → g (.int (lo + i)) σ H fun σ2 H2 => tb { D with nx := Pv (i + 1), ct := Pv (i + 1), bk := D.nx } σ2 H2) (hd : ∀ σ H, Pv n σ H → D.nx σ H) : Lp (Itr lo n) g tb D σ H := for_range Pv h0 hs hd
/-- a range from 0, its target a name -/
theorem lp_range0 {n : Nat} {j : Nat} {tb : TS} (Pv : Nat → St → Hp → Prop) (h0 : Pv 0 σ H)
    (hs : ∀ (i : Nat) σ H, i < n → Pv i σ H → tb { D with nx := Pv (i + 1), ct := Pv (i + 1), bk := D.nx } (σ.set j (some (.int (i : Int)))) H) (hd : ∀ σ H, Pv n σ H → D.nx σ H) : Lp (Itr 0 n) (gName j) tb D σ H :=
  for_range Pv h0 (fun i σ H hi p => by
    show tb _ (σ.set j (some (.int (0 + (i : Int))))) H
    rw [Int.zero_add]
    exact hs i σ H hi p) hd
/-- comprehensions -/
def Lq (J : It) (g : TG) (tt : TT) (te : TE) (vs : List Nat) (σ : St) (H1 : Hp) (Q : VK) : Prop := ∀ D, H1 D = none → ∃ W : Nat → Nat → Hp → Prop, (∃ m, W 0 m (upd H1 D (.lst []))) ∧ ∀ i m H, W i m H →
  (J.stop i H ∧ Q (.ref D) H) ∨ (J.go i H ∧ ∃ Nx : Hp → Prop, (∀ H', Nx H' → ∃ m', m' < m ∧ W (i + 1) m' H') ∧ ∀ x H', J.yld i H x H' → g x (wipe σ vs) H' fun σ2 H2 => wipe σ2 vs = wipe σ vs ∧ tt σ2 H2 fun b H3 =>
    if b = true then te σ2 H3 fun y H4 => ∃ acc, H4 D = some (.lst acc) ∧ acc.length < sizeLine ∧ Nx (upd H4 D (.lst (acc ++ [y]))) else Nx H3)
theorem w_lc {wi : TI} {tt : TT} {vs : List Nat} (h : wi σ H fun J H1 => Lq J g tt te vs σ H1 Q) : tLc wi g tt te vs σ H Q := h
/-- what a turn of a comprehension hands on: an item y more at D -/
def Put (D : Addr) (Nx : Hp → Prop) (y : V) (H4 : Hp) : Prop := ∃ acc, H4 D = some (.lst acc) ∧ acc.length < sizeLine ∧ Nx (upd H4 D (.lst (acc ++ [y])))
theorem w_put {D : Addr} {Nx : Hp → Prop} {acc : List V} (h1 : H D = some (.lst acc)) (h2 : acc.length < 100000) (h : ∀ H', H' = upd H D (.lst (acc ++ [y])) → H' D = some (.lst (acc ++ [y])) → Nx H') : Put D Nx y H := ⟨acc, h1, Nat.lt_of_lt_of_le h2 (by decide), h _ rfl upd_same⟩
/-- a comprehension without tests over a range from 0: Pv by the turn, the list's place, the heap -/
theorem lq_range0 {n : Nat} {j : Nat} {vs : List Nat} (Pv : Addr → Nat → Hp → Prop) (h0 : ∀ D H1, H D = none → Same H H1 → H1 D = some (.lst []) → Pv D 0 H1)
    (hs : ∀ D (i : Nat) H1, H D = none → i < n → Pv D i H1 → wipe ((wipe σ vs).set j (some (.int (i : Int)))) vs = wipe σ vs ∧ te ((wipe σ vs).set j (some (.int (i : Int)))) H1 (Put D (Pv D (i + 1)))) (hd : ∀ D H1, H D = none → Pv D n H1 → Q (.ref D) H1) : Lq (Itr 0 n) (gName j) tYes te vs σ H Q := fun D hD =>
  lc_range (Pv D) (h0 D _ hD (Same.new hD) upd_same) (fun i H1 hi p => by
    have e : (0 : Int) + (i : Int) = (i : Int) := Int.zero_add _
    have h := hs D i H1 hD hi p
    rw [← e] at h
    exact ⟨h.1, w_iteT (B := Pv D (i + 1) H1) h.2⟩) (fun H1 p => hd D H1 hD p)
/-- reversed over a tuple, its target a name -/
theorem lp_revT {a : Addr} {xs : List V} {j : Nat} {tb : TS} (Pv : Nat → St → Hp → Prop) (h0 : Pv 0 σ H) (hq : ∀ i σ H, Pv i σ H → SqT K H a xs)
    (hs : ∀ (i : Nat) (x : V) (σ : St) (H : Hp), i < xs.length → xs[xs.length - 1 - i]? = some x → Pv i σ H → tb { D with nx := Pv (i + 1), ct := Pv (i + 1), bk := D.nx } (σ.set j (some x)) H) (hd : ∀ σ H, Pv xs.length σ H → D.nx σ H) :
    Lp (ItvT K a xs.length) (gName j) tb D σ H := for_ItvT Pv h0 hq hs hd
theorem lp_tup {a : Addr} {xs : List V} {tb : TS} (Pv : Nat → St → Hp → Prop) (h0 : Pv 0 σ H) (hl : ∀ i σ H, i ≤ xs.length → Pv i σ H → SqT K H a xs)
    (hs : ∀ i x σ H, xs[i]? = some x → Pv i σ H → g x σ H fun σ2 H2 => tb { D with nx := Pv (i + 1), ct := Pv (i + 1), bk := D.nx } σ2 H2) (hd : ∀ σ H, Pv xs.length σ H → D.nx σ H) : Lp (Itt K a) g tb D σ H := for_tup Pv h0 hl hs hd
theorem lp_list {a : Addr} {xs : List V} {tb : TS} (Pv : Nat → St → Hp → Prop) (h0 : Pv 0 σ H) (hl : ∀ i σ H, i ≤ xs.length → Pv i σ H → SqL K H a xs)
    (hs : ∀ i x σ H, xs[i]? = some x → Pv i σ H → g x σ H fun σ2 H2 => tb { D with nx := Pv (i + 1), ct := Pv (i + 1), bk := D.nx } σ2 H2) (hd : ∀ σ H, Pv xs.length σ H → D.nx σ H) : Lp (Itl K a) g tb D σ H := for_list Pv h0 hl hs hd
theorem w_uIT {tl : TE} {a : Addr} {xs : List V} {R : It → Hp → Prop} (h : tl σ H fun x H1 => x = .ref a ∧ SqT K H1 a xs ∧ R (Itt K a) H1) (mono : ∀ Q Q' : VK, (∀ x H, Q x H → Q' x H) → tl σ H Q → tl σ H Q') : uI K tl σ H R :=
  .inl (mono _ _ (fun x H1 ⟨e, s, r⟩ => ⟨a, e, ⟨xs, s⟩, r⟩) h)
def RevQ (K : PySem.W.Frag) (R : It → Hp → Prop) (v : V) (H1 : Hp) : Prop := ∃ (a : Addr) (xs : List V), v = .ref a ∧ ((SqL K H1 a xs ∧ R (Itv K a xs.length) H1) ∨ (SqT K H1 a xs ∧ R (ItvT K a xs.length) H1))
theorem w_rev {R : It → Hp → Prop} (h : te σ H fun v H1 => RevQ K R v H1) : iRevA K te σ H R := h
theorem w_revT {R : It → Hp → Prop} {a : Addr} {xs : List V} (hS : SqT K H a xs) (h : R (ItvT K a xs.length) H) : RevQ K R (.ref a) H := ⟨a, xs, rfl, .inr ⟨hS, h⟩⟩
def RngQ (R : It → Hp → Prop) (vs : List V) (H1 : Hp) : Prop := ∃ j : Int, vs = [.int j] ∧ -(2 ^ 62) ≤ j ∧ j < 2 ^ 62 ∧ R (Itr 0 j.toNat) H1
theorem w_rngA {ta : TA} {R : It → Hp → Prop} (h : ta σ H fun vs H1 => RngQ R vs H1) : iRng1 ta σ H R := h
theorem w_rngI {j : Int} {R : It → Hp → Prop} (h1 : -(2 ^ 62) ≤ j ∧ j < 2 ^ 62) (h : R (Itr 0 j.toNat) H) : RngQ R [V.int j] H := ⟨j, rfl, h1.1, h1.2, h⟩
theorem w_bm {T : String} {rm : V → List V → Hp → VK → Prop} {to : TE} {tr : TA} (h : to σ H fun x H1 => tyV K T x H1 ∧ tr σ H1 fun xs H2 => rm x xs H2 Q) : tBM K T rm to tr σ H Q := h
theorem w_bm0 {T : String} {rm : V → List V → Hp → VK → Prop} {to : TE} (h : to σ H fun x H1 => tyV K T x H1 ∧ rm x [] H1 Q) : tBM0 K T rm to σ H Q := h
theorem w_tyL {l : Addr} {xs : List V} {P : Prop} (hl : H l = some (.lst xs)) (h : P) : tyV K "list" (.ref l) H ∧ P := ⟨.inl ⟨rfl, _, SqL.of hl⟩, h⟩
theorem w_append {l : Addr} {xs : List V} {y : V} (hl : H l = some (.lst xs)) (hz : xs.length ≤ 100000) (h : ∀ H', H' = upd H l (.lst (xs ++ [y])) → H' l = some (.lst (xs ++ [y])) → Q .non H') : rAppend (.ref l) [y] H Q := ⟨l, xs, y, rfl, rfl, hl, Nat.lt_of_le_of_lt hz (by decide), h _ rfl upd_same⟩
theorem w_tupL {p : Addr} {xs : List V} (hl : SqL K H p xs) (h : ∀ l H', H l = none → Same H H' → H' l = some (.tup xs) → Q (.ref l) H') : rTupQ K [.ref p] H Q := ⟨p, xs, rfl, .inl ⟨hl, fun l hl => h l _ hl (Same.new hl) upd_same⟩⟩
theorem w_tupT {p : Addr} {xs : List V} (hl : SqT K H p xs) (h : Q (.ref p) H) : rTupQ K [.ref p] H Q := ⟨p, xs, rfl, .inr ⟨hl, h⟩⟩
theorem w_lstL {p : Addr} {xs : List V} (hl : SqL K H p xs) (h : ∀ l H', H l = none → Same H H' → H' l = some (.lst xs) → Q (.ref l) H') : rLstQ K [.ref p] H Q := ⟨p, xs, rfl, .inl hl, fun l hl => h l _ hl (Same.new hl) upd_same⟩
theorem w_lstT {p : Addr} {xs : List V} (hl : SqT K H p xs) (h : ∀ l H', H l = none → Same H H' → H' l = some (.lst xs) → Q (.ref l) H') : rLstQ K [.ref p] H Q := ⟨p, xs, rfl, .inr hl, fun l hl => h l _ hl (Same.new hl) upd_same⟩
end
section
variable {X : Cx}
def pAdd : TIp := rI0 fun i j => .int (i + j)
def pSub : TIp := rI0 fun i j => .int (i - j)
def pDiv : TIp := rI CDivW fun i j => .int (i / j)
def pMod : TIp := rI (fun _ j => 0 < j) fun i j => .int (i % j)
def pMul : TIp := rI CMul fun i j => .int (i * j)
theorem ip_addI : PIp X .Add pAdd := ip_of iop_add
theorem ip_subI : PIp X .Sub pSub := ip_of iop_sub
theorem ip_fdivW : PIp X .FloorDiv pDiv := ip_of iop_fdivW
theorem ip_modI : PIp X .Mod pMod := ip_of iop_mod
theorem ip_mulI : PIp X .Mult pMul := ip_of iop_mul
end
section
variable {H : Hp} {Q : VK} {a b : Int}
theorem w_pAdd (h : Q (.int (a + b)) H) : pAdd (.int a) (.int b) H Q := w_I0 h
theorem w_pSub (h : Q (.int (a - b)) H) : pSub (.int a) (.int b) H Q := w_I0 h
theorem w_pDiv (hc : CDivW a b) (h : Q (.int (a / b)) H) : pDiv (.int a) (.int b) H Q := w_I hc h
theorem w_pMod (hc : 0 < b) (h : Q (.int (a % b)) H) : pMod (.int a) (.int b) H Q := w_I hc h
theorem w_pMul (hc : CMul a b) (h : Q (.int (a * b)) H) : pMul (.int a) (.int b) H Q := w_I hc h
end
theorem divW {a b : Int} (h : 0 < b) (h2 : b < 2 ^ 30) : CDivW a b := wide_div (b := 30) h (by omega) (by decide) (by decide)
/-! data compared -/
theorem lay_ints : ∀ ns : List Int, PyData.canLayAll0 (ns.map PyData.int) = true ∧ PyData.depthAll (ns.map PyData.int) ≤ 1
  | [] => by simp [PyData.canLayAll0, PyData.depthAll]
  | n :: r => by
    have h := lay_ints r
    simp only [List.map_cons, PyData.canLayAll0, PyData.depthAll, PyData.canLay0, PyData.depth, h.1, Bool.and_self, true_and]
    omega
theorem shaped_list {ns : List Int} : SeqAt.shaped (.list (ns.map PyData.int)) = true := by
  have h := lay_ints ns
  exact Bool.and_eq_true_iff.mpr ⟨by simp only [PyData.canLay0]; exact h.1, decide_eq_true (by simp only [PyData.depth]; have := h.2; omega)⟩
theorem shaped_tuple {ns : List Int} : SeqAt.shaped (.tuple (ns.map PyData.int)) = true := by
  have h := lay_ints ns
  exact Bool.and_eq_true_iff.mpr ⟨by simp only [PyData.canLay0]; exact h.1, decide_eq_true (by simp only [PyData.depth]; have := h.2; omega)⟩
theorem eqvAll_ints : ∀ xs ys : List Int, PyData.eqvAll (xs.map PyData.int) (ys.map PyData.int) = decide (xs = ys)
  | [], [] => by simp [PyData.eqvAll]
  | [], _ :: _ => by simp [PyData.eqvAll]
  | _ :: _, [] => by simp [PyData.eqvAll]
  | x :: xs, y :: ys => by
    have h := eqvAll_ints xs ys
    rw [List.map_cons, List.map_cons, PyData.eqvAll, h]
    simp [PyData.eqv, Bool.beq_eq_decide_eq]
theorem eqv_listI (xs ys : List Int) : PyData.eqv (.list (xs.map PyData.int)) (.list (ys.map PyData.int)) = decide (xs = ys) := by
  rw [PyData.eqv]
  exact eqvAll_ints xs ys
theorem eqv_tupI (xs ys : List Int) : PyData.eqv (.tuple (xs.map PyData.int)) (.tuple (ys.map PyData.int)) = decide (xs = ys) := by
  rw [PyData.eqv]
  exact eqvAll_ints xs ys
section
variable {K : PySem.W.Frag} {H : Hp} {Q : VK}
theorem w_neLI {a b : Addr} {xs ys : List Int} (ha : SqL K H a (xs.map V.int)) (hb : SqL K H b (ys.map V.int)) (h : Q (.bl (!decide (xs = ys))) H) : uNe K (.ref a) (.ref b) H Q :=
  w_neD (.lst ha (DpAll.ints xs)) (.lst hb (DpAll.ints ys)) shaped_list shaped_list (by rw [eqv_listI]; exact h)
theorem w_neTI {a b : Addr} {xs ys : List Int} (ha : SqT K H a (xs.map V.int)) (hb : SqT K H b (ys.map V.int)) (h : Q (.bl (!decide (xs = ys))) H) : uNe K (.ref a) (.ref b) H Q :=
  w_neD (.tup ha (DpAll.ints xs)) (.tup hb (DpAll.ints ys)) shaped_tuple shaped_tuple (by rw [eqv_tupI]; exact h)
theorem w_eqTI {a b : Addr} {xs ys : List Int} (ha : SqT K H a (xs.map V.int)) (hb : SqT K H b (ys.map V.int)) (h : Q (.bl (decide (xs = ys))) H) : uEq K (.ref a) (.ref b) H Q :=
  w_eqD (.tup ha (DpAll.ints xs)) (.tup hb (DpAll.ints ys)) shaped_tuple shaped_tuple (by rw [eqv_tupI]; exact h)
def rMaxQ : List V → Hp → VK → Prop := fun xs H Q => ∃ i j, xs = [.int i, .int j] ∧ Q (.int (if j > i then j else i)) H
def rMinQ : List V → Hp → VK → Prop := fun xs H Q => ∃ i j, xs = [.int i, .int j] ∧ Q (.int (if j < i then j else i)) H
theorem call_maxQ {X : Cx} (hc : X.calm = true) : CallR X (.builtin "max") rMaxQ := call_max2 hc
theorem call_minQ {X : Cx} (hc : X.calm = true) : CallR X (.builtin "min") rMinQ := call_min2 hc
theorem w_max {a b : Int} (h : Q (.int (max a b)) H) : rMaxQ [.int a, .int b] H Q := ⟨a, b, rfl, by
  have e : (if b > a then b else a) = max a b := by
    rw [Int.max_def]
    split <;> split <;> omega
  rw [e]
  exact h⟩
theorem w_min {a b : Int} (h : Q (.int (min a b)) H) : rMinQ [.int a, .int b] H Q := ⟨a, b, rfl, by
  have e : (if b < a then b else a) = min a b := by
    rw [Int.min_def]
    split <;> split <;> omega
  rw [e]
  exact h⟩
theorem w_sub {to ti : TE} {ts : TSet} {σ : St} {v : V} {R : St → Hp → Prop} (h : to σ H fun o H1 => ti σ H1 fun i H2 => ts o i v H2 fun H3 => R σ H3) : gSub to ti ts v σ H R := h
theorem w_setL {p : Addr} {xs : List V} {k : Int} {j : Nat} {v : V} {R : Hp → Prop} (hl : H p = some (.lst xs)) (hk : ixN xs.length k = some j) (h : ∀ H', H' = upd H p (.lst (xs.set j v)) → H' p = some (.lst (xs.set j v)) → R H') : rSetL (.ref p) (.int k) v H R := ⟨p, xs, k, j, rfl, rfl, hl, hk, h _ rfl upd_same⟩
end
section
variable {K : PySem.W.Frag} {H : Hp} {Q : VK}
theorem w_isi {x : V} {a b : String} {r : Bool} (ht : TyX K H x (.type a)) (hk : kitB a b = some r) (h : Q (.bl r) H) : rIsi K [x, .ty b] H Q := ⟨x, .ty b, .type a, .type b, r, rfl, .ty b, ht, kit_ty hk, h⟩
theorem w_isiII {n : Int} (h : Q (.bl true) H) : rIsi K [.int n, .ty "int"] H Q := w_isi (.base (.int n)) (by decide +kernel) h
theorem w_isiIB {n : Int} (h : Q (.bl false) H) : rIsi K [.int n, .ty "bool"] H Q := w_isi (.base (.int n)) (by decide +kernel) h
theorem w_isiBB {n : Bool} (h : Q (.bl true) H) : rIsi K [.bl n, .ty "bool"] H Q := w_isi (.base (.bl n)) (by decide +kernel) h
theorem w_isiTT {p : Addr} {xs : List V} (hp : H p = some (.tup xs)) (h : Q (.bl true) H) : rIsi K [.ref p, .ty "tuple"] H Q := w_isi (.base (.tup hp)) (by decide +kernel) h
theorem w_isiLL {p : Addr} {xs : List V} (hp : H p = some (.lst xs)) (h : Q (.bl true) H) : rIsi K [.ref p, .ty "list"] H Q := w_isi (.base (.lst hp)) (by decide +kernel) h
theorem w_catT {a b : Addr} {xs ys : List V} (ha : SqT K H a xs) (hb : SqT K H b ys) (hz : xs.length + ys.length ≤ 100000) (h : ∀ p H', Same H H' → SqT K H' p (xs ++ ys) → Q (.ref p) H') : uAdd K (.ref a) (.ref b) H Q := .inr (.inl ⟨a, b, xs, ys, rfl, rfl, ha, hb, Nat.le_trans hz (by decide), fun e => h b H (Same.refl H) (by rw [e]; exact hb), fun _ e => h a H (Same.refl H) (by rw [e, List.append_nil]; exact ha), fun _ _ p hp => h p _ (Same.new hp) (SqT.of upd_same)⟩)
end
theorem ixN_of {n : Nat} {k : Int} (h0 : 0 ≤ k) (h : k < n) : ixN n k = some k.toNat := by
  unfold ixN
  rw [if_pos h0, if_pos h]
theorem atI_of {α : Type} {xs : List α} {k : Int} {x : α} (h0 : 0 ≤ k) (h : xs[k.toNat]? = some x) : atI xs k = some x := by
  have hl := (List.getElem?_eq_some_iff.mp h).1
  unfold atI
  rw [ixN_of h0 (by omega)]
  exact h
theorem length_mapI {α β : Type} {f : α → β} {l : List α} : (l.map f).length = l.length := List.length_map f
/-! ints in lists -/
theorem map_get {ns : List Int} {i : Nat} {n : Int} (h : ns[i]? = some n) : (ns.map V.int)[i]? = some (.int n) := by
  rw [List.getElem?_map, h]
  rfl
theorem map_at {ns : List Int} {i : Nat} {x : V} (h : (ns.map V.int)[i]? = some x) : ∃ n, ns[i]? = some n ∧ x = .int n := by
  rw [List.getElem?_map] at h
  cases e : ns[i]? with
  | none =>
    rw [e] at h
    cases h
  | some n =>
    rw [e] at h
    exact ⟨n, rfl, (Option.some.inj h).symm⟩
end Rn
set_option Elab.async false
set_option linter.all false
set_option maxRecDepth 100000
set_option maxHeartbeats 4000000
/-! enumerate of a tuple -/
namespace PySem
/-- the enumerate object over the iterator at i -/
def enumRec (i : Addr) : Obj := { cls := .type "enumerate", data := .fields #[.none, .bool false, .ref i, rawInt 0, .none, .none] }
theorem enum1_meets {v : Value} {ob : Obj} {Hs : Heap → Prop} (bg : Begins v ob Hs) : Meets (Builtin.«enumerate.__new__» ⟨[.type "enumerate", v], []⟩)
    (fun _ R s => Hs s.heap ∧ R (.ok (.ret (.ref (s.heap.push ob).objs.size))) { s with heap := (s.heap.push ob).push (enumRec s.heap.objs.size) }) :=
  .of_wp fun pr wo ar res st hyp => by
    obtain ⟨hh, g, d, tk, os⟩ := st
    obtain ⟨hv, hyp⟩ := hyp
    have sub := sub_enumerate
    have goes : ∀ {A2 : Around} {E2 : Value → Shared → Prop} {Q2 : Value → Shared → Prop}, Q2 (.ref hh.objs.size) ⟨hh.push ob, g, d, tk, os⟩ → wpAny (model pr wo) A2 (pyIter v) Q2 E2 ⟨hh, g, d, tk, os⟩ :=
      fun z => bg.iter pr wo _ _ ⟨hh, g, d, tk, os⟩ _ hv z
    wp_walk using goes
    refine wpAny_stack_any fun stk => wpAny_pure ?_
    split
    · rename_i cc _ _ _ _ _
      cases (cc == Value.type "enumerate") <;> (wp_walk using goes; exact ⟨_, rfl, hyp⟩)
    · wp_walk using goes; exact ⟨_, rfl, hyp⟩
theorem enum1_call {prog : Program} {w : World} {A : Around} {E : Value → Shared → Prop} {s : Shared} {v : Value} {ob : Obj} {Hs : Heap → Prop} {Q : Value → Shared → Prop} (bg : Begins v ob Hs) (hv : Hs s.heap)
    (fin : ∀ g, IsEnum g (s.heap.objs.size + 1) s.heap.objs.size 0 .none → g.get? s.heap.objs.size = some ob → (∀ b o, s.heap.get? b = some o → g.get? b = some o) → Q (.ref (s.heap.objs.size + 1)) { s with heap := g }) :
    wpAny (model prog w) A (call (.type "enumerate") [v]) Q E s := by
  refine callType_new F.called_enumerate (by decide) (F.typeCall_enumerate_1 v) (F.newCall_enumerate_1 v) (fun obj => F.args_object_init_2 obj v) F.entry_enumerate_new (enum1_meets bg) ⟨hv, ?_⟩
  have sz : (s.heap.push ob).objs.size = s.heap.objs.size + 1 := Heap.size_push ..
  show _ ∧ _
  rw [sz]
  have e1 : ((s.heap.push ob).push (enumRec s.heap.objs.size)).get? (s.heap.objs.size + 1) = some (enumRec s.heap.objs.size) := by
    have z := Heap.get?_push_size (s.heap.push ob) (o := enumRec s.heap.objs.size) rfl
    rw [sz] at z
    exact z
  exact ⟨⟨_, e1, rfl⟩, fin _ e1 (Heap.get?_push_of_some _ (Heap.get?_push_size _ bg.free)) fun b o z => Heap.get?_push_of_some _ (Heap.get?_push_of_some _ z)⟩
end PySem
namespace Rn
open PySem PySem.Spec L2 RT
/-- the tuple at a, each item in a new pair with its number -/
def ItEn (K : PySem.W.Frag) (a : Addr) : It where
  go i H := ∃ (xs : List V) (x : V), SqT K H a xs ∧ xs[i]? = some x
  yld i H v H' := ∃ T x, v = .ref T ∧ H T = none ∧ H' = upd H T (.tup [.int (i : Nat), x]) ∧ ∀ xs, SqT K H a xs → xs[i]? = some x
  stop i H := ∃ xs : List V, SqT K H a xs ∧ xs.length = i
theorem turn_en {P : Program} {w : World} {K : PySem.W.Frag} {es : List Expr} {k1 : Nat} {tp : Pos} (a e it : Addr) :
    Turn P w K (.Tuple es k1 tp) (ItEn K a) [e, it] e (fun i g => (∃ o1, IsEnum g e it ((i : Nat) : Int) o1) ∧ g.IsTupleIter it a i ∧ e ≠ it) where
  mem := by simp
  obj := fun i g st b hb => by
    obtain ⟨⟨o1, h1⟩, ⟨o2, h2, _, h3⟩, _⟩ := st
    rcases (show b = e ∨ b = it by simpa using hb) with z | z
    · rw [z]; exact ⟨_, h1, (fun _ q => nomatch q)⟩
    · rw [z]; exact ⟨o2, h2, fun _ q => by rw [h3] at q; cases q⟩
  keep := fun i g g' st k => let ⟨⟨o1, h1⟩, h2, h3⟩ := st; ⟨⟨o1, k e (by simp) _ h1⟩, h2.at fun o q => k it (by simp) o q, h3⟩
  item := by
    intro X hP hw hK hc i pins s σ H E I fp st hg
    subst hP hw hK
    obtain ⟨⟨o1, h1⟩, h2, h3⟩ := st
    obtain ⟨xs, x, hx1, hx2⟩ := hg
    obtain ⟨us, rel, tu, _⟩ := I.tuple hx1
    obtain ⟨u, hu, ru⟩ := rel.get hx2
    have le : e < s.heap.objs.size := Heap.lt_size h1
    have li : it < s.heap.objs.size := by obtain ⟨_, q, _⟩ := h2; exact Heap.lt_size q
    have na : a ≠ it := fun z => by
      obtain ⟨o2, q, c2, _⟩ := h2
      obtain ⟨o3, q3, c3, _⟩ := tu
      rw [z, q] at q3
      cases q3
      exact absurd (Value.type.inj (c2.symm.trans c3)) (by decide)
    have ne : a ≠ e := fun z => by
      obtain ⟨o3, q3, c3, _⟩ := tu
      rw [z, show s.heap.get? e = _ from h1] at q3
      cases q3
      exact absurd (Value.type.inj c3) (by decide)
    have hlt : i < us.toArray.size := by
      have := (List.getElem?_eq_some_iff.mp hu).1
      simpa using this
    have hh := I.ok.hd hc
    refine wpAny_pyNext_enum_itemD (Draws.tuple (A := X.A.in1) hh it a na us.toArray) h1 ⟨h2, tu⟩ hlt h3 (by simp [h3, Ne.symm ne]) fun v g tk hv ho hit hT hsz hk => ?_
    have ev : v = u := by
      have q : us.toArray[i]? = some u := by simpa using hu
      exact Option.some.inj (hv.symm.trans q)
    subst ev
    refine ⟨_, rfl, wpAny_letOwnedTupleGo_enum (s := { s with heap := g, toks := tk + 1 }) ho fun g2 he2 sb => ?_⟩
    have hT2 : g2.get? s.heap.objs.size = some { cls := .type "tuple", data := .seq #[.int i tk, v] } := (sb.2 _ (Nat.ne_of_gt le)).trans hT
    have new : ObjOk X.prog X.w (upd H s.heap.objs.size (.tup [.int (i : Nat), x])) g2 s.heap.objs.size (.tup [.int (i : Nat), x]) :=
      ⟨by show 2 ≤ sizeLine; decide, [.int i tk, v], .cons ⟨_, rfl⟩ (.cons ru .nil), ⟨_, hT2, rfl, _, rfl⟩⟩
    have I2 : Inv X pins σ (upd H s.heap.objs.size (.tup [.int (i : Nat), x])) { s with heap := g2, toks := tk + 1 } :=
      I.turnedNew (ch := [e, it]) (fun b ob hb q => (sb.2 b (fun z => hb (by simp [z]))).trans (hk b ob (fun z => hb (by simp [z])) (fun z => hb (by simp [z])) q)) fp (Nat.le_refl _) new
    refine ⟨.ref s.heap.objs.size, _, I2, rfl, ⟨_, x, rfl, I.hok.fresh (Nat.le_refl _), rfl, fun ys hy => by rw [I.tuple_inj hy hx1]; exact hx2⟩, ⟨⟨v, ?_⟩, hit.1.at fun o q => (sb.2 it (Ne.symm h3)).trans q, h3⟩, fun b hb => ?_⟩
    · rw [show ((i + 1 : Nat) : Int) = (i : Int) + 1 by omega]
      exact he2
    · have lb : b < s.heap.objs.size := by
        rcases (show b = e ∨ b = it by simpa using hb) with z | z
        · exact z ▸ le
        · exact z ▸ li
      rw [upd_ne (Nat.ne_of_lt lb)]
      exact (fp b hb).1
  done := by
    intro X hP hw hK hc i pins s σ H E I fp st hg
    subst hP hw hK
    obtain ⟨⟨o1, h1⟩, h2, h3⟩ := st
    obtain ⟨xs, hx1, hx2⟩ := hg
    obtain ⟨us, rel, tu, _⟩ := I.tuple hx1
    obtain ⟨g0, g1, g2, g3, g4, g5⟩ := fp it (by simp)
    have hl := rel.length
    have na : a ≠ it := fun z => by
      obtain ⟨o2, q, c2, _⟩ := h2
      obtain ⟨o3, q3, c3, _⟩ := tu
      rw [z, q] at q3
      cases q3
      exact absurd (Value.type.inj (c2.symm.trans c3)) (by decide)
    have hz : us.toArray.size = i := by
      rw [← hx2, hl]
      simp
    refine wpAny_pyNext_enum_endD (Draws.tuple (A := X.A.in1) (I.ok.hd hc) it a na us.toArray) h1 (hz ▸ ⟨h2, tu⟩) fun g eb => ⟨rfl, I.turned (t' := s.toks) (fun b o hb q => eb b o hb q) g0 g1 g3 g4 g5⟩
  self := fun A i s Q E st q => let ⟨⟨_, h1⟩, _⟩ := st; wpAny_pyIter_enum h1 q
/-- what enumerate walks: a tuple, a list -/
def EnQ (K : PySem.W.Frag) (R : It → Hp → Prop) (vs : List V) (H1 : Hp) : Prop := ∃ a, vs = [.ref a] ∧ ((∃ xs, SqT K H1 a xs ∧ R (ItEn K a) H1) ∨ (∃ xs, SqL K H1 a xs ∧ R (Ite K a) H1))
def iEn (K : PySem.W.Frag) (ta : TA) : TI := fun σ H R => ta σ H fun vs H1 => EnQ K R vs H1
theorem pi_en {X : Cx} (K : PySem.W.Frag) (eK : X.K = K) {e : Expr} {ta : TA} {p pos tp : Pos} {es : List Expr} {k1 : Nat} (hg : Gl X "enumerate") (hm : X.mg "enumerate" = none) (ha : PA X [e] ta) (hs : starEach [e] X.env = [(false, eval e X.env)] := by rfl) :
    PI X (.Tuple es k1 tp) (.Call (.Name "enumerate" p) [e] [] pos) (iEn K ta) := by
  subst eK
  refine ⟨fun pins s σ H R I h => ?_⟩
  have bo : bootBuiltins ("enumerate" : Str) = some (.type "enumerate") := by decide +kernel
  refine PyProof.Rows.Call_ (ld_blt I hg hm bo (PyProof.Rows.callWith_type1 (thn (ha.run pos pins s σ H _ I h) fun us s1 w1 => ?_) hs rfl))
  obtain ⟨vs, H1, I1, r1, q1⟩ := w1
  obtain ⟨a, ex, q⟩ := q1
  subst ex
  obtain ⟨u, eu, ru⟩ := vals1 r1
  subst eu
  obtain rfl : u = .ref a := ru
  have fresh : ∀ {H' : Hp} {g : Heap} (_ : ∀ b o, s1.heap.get? b = some o → g.get? b = some o), H' = H1 → ∀ b ∈ [s1.heap.objs.size + 1, s1.heap.objs.size], FpOk X pins H1 b := fun _ _ b hb => by
    have hle : s1.heap.objs.size ≤ b := by
      rcases (show b = s1.heap.objs.size + 1 ∨ b = s1.heap.objs.size by simpa using hb) with z | z <;> omega
    exact I1.fpOk hle (I1.hok.fresh hle)
  rcases q with ⟨xs, hx, q⟩ | ⟨xs, hx, q⟩
  · obtain ⟨its, rv, tu, hz⟩ := I1.tuple hx
    refine enum1_call (begins_tuple a its.toArray) tu fun g he hit hk => wpAny_pyIter_enum he ?_
    refine ⟨s1.heap.objs.size + 1, [s1.heap.objs.size + 1, s1.heap.objs.size], _, _, H1, rfl, I1.kept (t' := s1.toks) hk, turn_en a (s1.heap.objs.size + 1) s1.heap.objs.size, ⟨⟨.none, he⟩, ⟨_, hit, rfl, rfl⟩, Nat.succ_ne_self _⟩, fresh hk rfl, q⟩
  · obtain ⟨its, rv, pl, hz⟩ := I1.list hx
    refine enum1_call (begins_list a its.toArray) pl.isList fun g he hit hk => wpAny_pyIter_enum he ?_
    refine ⟨s1.heap.objs.size + 1, [s1.heap.objs.size + 1, s1.heap.objs.size], _, _, H1, rfl, I1.kept (t' := s1.toks) hk, turn_enum a (s1.heap.objs.size + 1) s1.heap.objs.size, ⟨⟨.none, he⟩, ⟨_, hit, rfl, rfl⟩, Nat.succ_ne_self _⟩, fresh hk rfl, q⟩
section
variable {K : PySem.W.Frag} {σ : St} {H : Hp} {D : Ends}
theorem w_en {ta : TA} {R : It → Hp → Prop} (h : ta σ H fun vs H1 => EnQ K R vs H1) : iEn K ta σ H R := h
theorem w_enT {a : Addr} {xs : List V} {R : It → Hp → Prop} (hS : SqT K H a xs) (h : R (ItEn K a) H) : EnQ K R [.ref a] H := ⟨a, rfl, .inl ⟨xs, hS, h⟩⟩
theorem w_gTup {n : Nat} {t : TGs} {a : Addr} {xs : List V} {R : St → Hp → Prop} (hS : SqT K H a xs) (hn : xs.length = n) (h : t xs σ H R) : gTup K n t (.ref a) σ H R := ⟨a, xs, rfl, hS, hn, h⟩
theorem w_gCons {t : TG} {u : TGs} {x : V} {r : List V} {R : St → Hp → Prop} (h : t x σ H fun σ' H' => u r σ' H' R) : gCons t u (x :: r) σ H R := ⟨x, r, rfl, h⟩
theorem w_gNil {R : St → Hp → Prop} (h : R σ H) : gNil [] σ H R := ⟨rfl, h⟩
theorem w_gName {i : Nat} {x : V} {R : St → Hp → Prop} (h : R (σ.set i (some x)) H) : gName i x σ H R := h
/-- enumerate over a tuple, its targets two names -/
theorem lp_en {a : Addr} {xs : List V} {g : TG} {tb : TS} (Pv : Nat → St → Hp → Prop) (h0 : Pv 0 σ H) (hl : ∀ i σ H, i ≤ xs.length → Pv i σ H → SqT K H a xs)
    (hs : ∀ i x σ H T H', xs[i]? = some x → Pv i σ H → H T = none → Same H H' → H' T = some (.tup [.int (i : Nat), x]) → g (.ref T) σ H' fun σ2 H2 => tb { D with nx := Pv (i + 1), ct := Pv (i + 1), bk := D.nx } σ2 H2) (hd : ∀ σ H, Pv xs.length σ H → D.nx σ H) :
    Lp (ItEn K a) g tb D σ H := by
  refine ⟨fun i m σ H => m = xs.length - i ∧ i ≤ xs.length ∧ Pv i σ H, ⟨xs.length, by simp, Nat.zero_le _, h0⟩, ?_⟩
  rintro i m σ1 H1 ⟨em, hi, p⟩
  have q := hl i σ1 H1 hi p
  by_cases lt : i < xs.length
  · have hx : xs[i]? = some xs[i] := List.getElem?_eq_getElem lt
    refine .inr ⟨⟨xs, xs[i], q, hx⟩, Pv (i + 1), fun σ' H' p' => ⟨xs.length - (i + 1), by omega, rfl, lt, p'⟩, fun v H' y => ?_⟩
    obtain ⟨T, x, ev, hT, eH, hxx⟩ := y
    have ex : xs[i] = x := Option.some.inj (hx.symm.trans (hxx xs q))
    subst ev eH ex
    exact hs i _ σ1 H1 T _ hx p hT (Same.new hT) upd_same
  · have e : i = xs.length := by omega
    subst e
    exact .inl ⟨⟨xs, q, rfl⟩, hd σ1 H1 p⟩
end
end Rn
set_option Elab.async false
set_option linter.all false
set_option maxRecDepth 100000
set_option maxHeartbeats 4000000
/-! more steps: truth, in, sorted, least, loops and comprehensions over what may be a list or a tuple -/
namespace Rn
open PySem PySem.Spec L2 RT
def TrQ (K : PySem.W.Frag) (QB : Bool → Hp → Prop) (x : V) (H : Hp) : Prop := ∃ k, TruV K x H k ∧ QB k H
def tTr (K : PySem.W.Frag) (ta : TE) : TT := fun σ H QB => ta σ H fun x H1 => TrQ K QB x H1
def UQ (K : PySem.W.Frag) (R : It → Hp → Prop) (x : V) (H1 : Hp) : Prop := ∃ a, x = .ref a ∧ ((∃ xs, SqT K H1 a xs ∧ R (Itt K a) H1) ∨ (∃ xs, SqL K H1 a xs ∧ R (Itl K a) H1))
def iU (K : PySem.W.Frag) (tl : TE) : TI := fun σ H R => tl σ H fun x H1 => UQ K R x H1
section
variable {X : Cx} (K : PySem.W.Frag) (eK : X.K = K)
include eK
theorem k_tr {a : Expr} {ta : TE} (ha : PE X a ta) (he : ∀ whole, isTrue a X.env whole = (do let v ← whole; standAt a.pos; holding [v] (truthy v))) : PT X a (tTr K ta) := by
  subst eK
  exact pt_truth ha he
theorem k_sorted : CallR X (.builtin "sorted") (rSorted K) := by
  subst eK
  exact cr_sorted
theorem k_minL (hc : X.calm = true) : CallR X (.builtin "min") (rMin K) := by
  subst eK
  exact cr_min hc
theorem k_maxL (hc : X.calm = true) : CallR X (.builtin "max") (rMax K) := by
  subst eK
  exact cr_max hc
theorem k_U {tg l : Expr} {tl : TE} (hl : PE X l tl) : PI X tg l (iU K tl) := by
  subst eK
  refine ⟨fun pins s σ H R I h => ?_⟩
  refine thn (hl.run pins s σ H _ I h) fun v s1 w1 => ?_
  obtain ⟨x, H1, I1, r1, a, ex, q⟩ := w1
  subst ex
  obtain rfl : v = .ref a := r1
  have one : ∀ b ∈ [s1.heap.objs.size], FpOk X pins H1 b := fun b hb => by
    rw [List.mem_singleton.mp hb]
    exact I1.fpOk (Nat.le_refl _) (I1.hok.fresh (Nat.le_refl _))
  have kp : ∀ o : Obj, Inv X pins σ H1 { s1 with heap := s1.heap.push o } := fun o => I1.kept (t' := s1.toks) fun b u z => Heap.get?_push_of_some _ z
  rcases q with ⟨xs, hx, q⟩ | ⟨xs, hx, q⟩
  · obtain ⟨us, rel, tu, _⟩ := I1.tuple hx
    refine wpAny_pyIter_tuple (show s1.heap.IsTuple a us.toArray from tu) ?_
    exact ⟨_, [s1.heap.objs.size], _, _, H1, rfl, kp _, turn_tuple a _, ⟨_, Heap.get?_push_size _ rfl, rfl, rfl⟩, one, q⟩
  · obtain ⟨us, rel, pl, _⟩ := I1.list hx
    refine wpAny_pyIter_list pl.isList ?_
    exact ⟨_, [s1.heap.objs.size], _, _, H1, rfl, kp _, turn_list a _, ⟨_, Heap.get?_push_size _ rfl, rfl, rfl⟩, one, q⟩
end
section
variable {K : PySem.W.Frag} {σ : St} {H : Hp} {D : Ends} {te ta : TE} {Q : VK} {QB : Bool → Hp → Prop} {R : It → Hp → Prop}
theorem w_tr (h : ta σ H fun x H1 => TrQ K QB x H1) : tTr K ta σ H QB := h
theorem w_trB {b : Bool} (h : QB b H) : TrQ K QB (.bl b) H := ⟨b, rfl, h⟩
theorem w_trL {p : Addr} {xs : List V} (hl : SqL K H p xs) (h : QB (!xs.isEmpty) H) : TrQ K QB (.ref p) H := ⟨_, .inl ⟨xs, hl, rfl⟩, h⟩
theorem w_iU (h : ta σ H fun x H1 => UQ K R x H1) : iU K ta σ H R := h
theorem w_UT {a : Addr} {xs : List V} (hS : SqT K H a xs) (h : R (Itt K a) H) : UQ K R (.ref a) H := ⟨a, rfl, .inl ⟨xs, hS, h⟩⟩
theorem w_UL {a : Addr} {xs : List V} (hS : SqL K H a xs) (h : R (Itl K a) H) : UQ K R (.ref a) H := ⟨a, rfl, .inr ⟨xs, hS, h⟩⟩
theorem flat_ints (ns : List Int) : (ns.map V.int).all flatV = true := by
  rw [List.all_eq_true]
  intro x hx
  obtain ⟨n, _, rfl⟩ := List.mem_map.mp hx
  rfl
theorem in_ints (n : Int) (ns : List Int) : inV (.int n) (ns.map V.int) = decide (n ∈ ns) := by
  unfold inV
  rw [List.any_map]
  induction ns with
  | nil => rfl
  | cons x r ih =>
    rw [List.any_cons, ih]
    have e : ((fun y => eqV y (V.int n)) ∘ V.int) x = decide (n = x) := by
      show eqV (.int x) (.int n) = _
      unfold eqV
      by_cases h : n = x
      · subst h; simp
      · simp [h, Ne.symm h]
    rw [e, ← Bool.decide_or]
    exact decide_eq_decide.mpr List.mem_cons.symm
theorem w_inL {p : Addr} {ns : List Int} {n : Int} (hl : SqL K H p (ns.map V.int)) (h : Q (.bl (decide (n ∈ ns))) H) : rIn K false (.int n) (.ref p) H Q := ⟨p, _, rfl, .inl hl, rfl, flat_ints ns, by rw [in_ints]; exact h⟩
theorem w_niL {p : Addr} {ns : List Int} {n : Int} (hl : SqL K H p (ns.map V.int)) (h : Q (.bl (!decide (n ∈ ns))) H) : rIn K true (.int n) (.ref p) H Q := ⟨p, _, rfl, .inl hl, rfl, flat_ints ns, by rw [in_ints]; exact h⟩
theorem w_inT {p : Addr} {ns : List Int} {n : Int} (hl : SqT K H p (ns.map V.int)) (h : Q (.bl (decide (n ∈ ns))) H) : rIn K false (.int n) (.ref p) H Q := ⟨p, _, rfl, .inr hl, rfl, flat_ints ns, by rw [in_ints]; exact h⟩
theorem w_niT {p : Addr} {ns : List Int} {n : Int} (hl : SqT K H p (ns.map V.int)) (h : Q (.bl (!decide (n ∈ ns))) H) : rIn K true (.int n) (.ref p) H Q := ⟨p, _, rfl, .inr hl, rfl, flat_ints ns, by rw [in_ints]; exact h⟩
theorem w_sorted {a : Addr} {ns : List Int} (hl : SqL K H a (ns.map V.int)) (hn : ns.length < 64) (h : ∀ (ms : List Int) p H', ms.Perm ns → ms.Pairwise (· ≤ ·) → H p = none → Same H H' → H' p = some (.lst (ms.map V.int)) → Q (.ref p) H') : rSorted K [.ref a] H Q :=
  ⟨a, ns, rfl, hl, hn, fun ms p e1 e2 e3 => h ms p _ e1 e2 e3 (Same.new e3) upd_same⟩
theorem w_minL {a : Addr} {ns : List Int} (hl : SqL K H a (ns.map V.int)) (hn : 0 < ns.length) (h : ∀ m, m ∈ ns → (∀ y, y ∈ ns → m ≤ y) → Q (.int m) H) : rMin K [.ref a] H Q := ⟨a, ns, rfl, hl, hn, h⟩
theorem w_iteD {p : Prop} {ip : Decidable p} {A B : Prop} (hp : p) (h : A) : if decide p = true then A else B := by
  rw [decide_eq_true hp]
  exact w_iteT h
theorem w_iteE {p : Prop} {ip : Decidable p} {A B : Prop} (hp : ¬ p) (h : B) : if decide p = true then A else B := by
  rw [decide_eq_false hp]
  exact w_iteF h
theorem w_iteND {p : Prop} {ip : Decidable p} {A B : Prop} (hp : p) (h : B) : if (!decide p) = true then A else B := by
  rw [decide_eq_true hp]
  exact w_iteF h
theorem w_iteNE {p : Prop} {ip : Decidable p} {A B : Prop} (hp : ¬ p) (h : A) : if (!decide p) = true then A else B := by
  rw [decide_eq_false hp]
  exact w_iteT h
theorem lp_tupN {a : Addr} {xs : List V} {j : Nat} {tb : TS} (Pv : Nat → St → Hp → Prop) (h0 : Pv 0 σ H) (hl : ∀ i σ H, i ≤ xs.length → Pv i σ H → SqT K H a xs)
    (hs : ∀ i x σ H, xs[i]? = some x → Pv i σ H → tb { D with nx := Pv (i + 1), ct := Pv (i + 1), bk := D.nx } (σ.set j (some x)) H) (hd : ∀ σ H, Pv xs.length σ H → D.nx σ H) : Lp (Itt K a) (gName j) tb D σ H := for_tup Pv h0 hl hs hd
theorem lp_listN {a : Addr} {xs : List V} {j : Nat} {tb : TS} (Pv : Nat → St → Hp → Prop) (h0 : Pv 0 σ H) (hl : ∀ i σ H, i ≤ xs.length → Pv i σ H → SqL K H a xs)
    (hs : ∀ i x σ H, xs[i]? = some x → Pv i σ H → tb { D with nx := Pv (i + 1), ct := Pv (i + 1), bk := D.nx } (σ.set j (some x)) H) (hd : ∀ σ H, Pv xs.length σ H → D.nx σ H) : Lp (Itl K a) (gName j) tb D σ H := for_list Pv h0 hl hs hd
theorem lq_list {a : Addr} {xs : List V} {j : Nat} {tt : TT} {vs : List Nat} (Pv : Addr → Nat → Hp → Prop) (h0 : ∀ D H1, H D = none → Same H H1 → H1 D = some (.lst []) → Pv D 0 H1) (hl : ∀ D i H1, i ≤ xs.length → Pv D i H1 → SqL K H1 a xs)
    (hs : ∀ D i x H1, H D = none → xs[i]? = some x → Pv D i H1 → wipe ((wipe σ vs).set j (some x)) vs = wipe σ vs ∧ tt ((wipe σ vs).set j (some x)) H1 fun b H3 => if b = true then te ((wipe σ vs).set j (some x)) H3 (Put D (Pv D (i + 1))) else Pv D (i + 1) H3)
    (hd : ∀ D H1, H D = none → Pv D xs.length H1 → Q (.ref D) H1) : Lq (Itl K a) (gName j) tt te vs σ H Q := fun D hD =>
  lc_list (Pv D) (h0 D _ hD (Same.new hD) upd_same) (fun i H1 hi p => hl D i H1 hi p) (fun i x H1 hx p => hs D i x H1 hD hx p) (fun H1 p => hd D H1 hD p)
theorem lq_tup {a : Addr} {xs : List V} {j : Nat} {tt : TT} {vs : List Nat} (Pv : Addr → Nat → Hp → Prop) (h0 : ∀ D H1, H D = none → Same H H1 → H1 D = some (.lst []) → Pv D 0 H1) (hl : ∀ D i H1, i ≤ xs.length → Pv D i H1 → SqT K H1 a xs)
    (hs : ∀ D i x H1, H D = none → xs[i]? = some x → Pv D i H1 → wipe ((wipe σ vs).set j (some x)) vs = wipe σ vs ∧ tt ((wipe σ vs).set j (some x)) H1 fun b H3 => if b = true then te ((wipe σ vs).set j (some x)) H3 (Put D (Pv D (i + 1))) else Pv D (i + 1) H3)
    (hd : ∀ D H1, H D = none → Pv D xs.length H1 → Q (.ref D) H1) : Lq (Itt K a) (gName j) tt te vs σ H Q := fun D hD =>
  lc_tup (Pv D) (h0 D _ hD (Same.new hD) upd_same) (fun i H1 hi p => hl D i H1 hi p) (fun i x H1 hx p => hs D i x H1 hD hx p) (fun H1 p => hd D H1 hD p)
/-- while, by a word with a number that falls -/
def Wq (c : TT) (tb : TS) (D : Ends) (σ : St) (H : Hp) : Prop := tWhile c tb D σ H
theorem w_while {c : TT} {tb : TS} (h : Wq c tb D σ H) : tWhile c tb D σ H := h
theorem wq_by {c : TT} {tb : TS} (W : Nat → St → Hp → Prop) (m0 : Nat) (h0 : W m0 σ H)
    (hs : ∀ m σ H, W m σ H → c σ H fun b H1 => if b = true then ∃ N : St → Hp → Prop, (∀ σ' H', N σ' H' → ∃ m', m' < m ∧ W m' σ' H') ∧ tb { D with nx := N, ct := N, bk := D.nx } σ H1 else D.nx σ H1) : Wq c tb D σ H := ⟨W, ⟨m0, h0⟩, hs⟩
theorem w_tyes {QB : Bool → Hp → Prop} (h : QB true H) : tYes σ H QB := h
end
end Rn
set_option Elab.async false
set_option linter.all false
set_option maxRecDepth 100000
set_option maxHeartbeats 4000000
/-! match over tuples that begin with a text -/
namespace Rn
open PySem PySem.Spec L2 RT
/-- patterns that are names -/
inductive Caps : List Pattern → List Str → Prop
  | nil : Caps [] []
  | cons {x : Str} {pos : Pos} {ps : List Pattern} {xs : List Str} (h : Caps ps xs) : Caps (.MatchAs none (some x) pos :: ps) (x :: xs)
theorem Caps.len : ∀ {ps : List Pattern} {xs : List Str}, Caps ps xs → ps.length = xs.length
  | _, _, .nil => rfl
  | _, _, .cons h => by simp [h.len]
theorem Caps.each {M : Model} {A : Around} {E : Value → Shared → Prop} {s : Shared} {env : Env} : ∀ {ps : List Pattern} {xs : List Str} {us : List Value} {Q : Option (List (Str × Value)) → Shared → Prop}, Caps ps xs → us.length = xs.length → Q (some (xs.zip us)) s → wpAny M A (matchEach ps env us) Q E s
  | _, _, us, Q, .nil, hl, h => by
    cases us with
    | nil => exact wpAny_matchEach_nil h
    | cons u us => cases hl
  | _, _, us, Q, .cons (x := x) (xs := xs) c, hl, h => by
    cases us with
    | nil => cases hl
    | cons u us =>
      refine wpAny_matchEach_cons (wpAny_matchPattern_Capture ?_)
      exact c.each (Nat.succ.inj hl) h
/-- slots of names -/
inductive Slots (X : Cx) : List Str → List Nat → Prop
  | nil : Slots X [] []
  | cons {x : Str} {i : Nat} {xs : List Str} {is : List Nat} (hi : X.N[i]? = some x) (hx : Loc X.env.scope x) (hf : X.fn x = true ∨ X.env.scope.names.lookup x = some .local) (h : Slots X xs is) : Slots X (x :: xs) (i :: is)
def setAll : St → List Nat → List V → St
  | σ, i :: is, v :: vs => setAll (σ.set i (some v)) is vs
  | σ, _, _ => σ
theorem Slots.store {X : Cx} {pins : List (Addr × Obj)} {Q : Unit → Shared → Prop} (hN : X.N.Nodup) : ∀ {xs : List Str} {is : List Nat} {vs : List V} {us : List Value} {σ : St} {H : Hp} {s : Shared}, Slots X xs is → Vals vs us → us.length = xs.length → Inv X pins σ H s → (∀ s', Inv X pins (setAll σ is vs) H s' → Q () s') →
    wpAny (model X.prog X.w) X.A (assignInOrder ((xs.zip us).map fun p => bindName X.env p.1) ((xs.zip us).map (·.2))) Q X.xe s
  | _, _, vs, us, σ, H, s, .nil, r, hl, I, h => by
    have e : setAll σ [] vs = σ := by cases vs <;> rfl
    rw [e] at h
    exact wpAny_assignInOrder_none (h s I)
  | _, _, vs, us, σ, H, s, .cons (x := x) hi hx hf c, r, hl, I, h => by
    cases r with
    | nil => cases hl
    | cons r1 rr => exact wpAny_assignInOrder_more (wpAny_bindName (store_ok I hN hi hx r1 (fun s' I' => c.store hN rr (Nat.succ.inj hl) I' h) hf))
def PMs (X : Cx) (cs : List MatchCase) (t : V → TS) : Prop := ∀ (pins : List (Addr × Obj)) (s : Shared) (σ : St) (H : Hp) (D : Ends) (x : V) (v : Value) (first : Bool), Inv X pins σ H s → RelV x v → t x D σ H →
  wpAny (model X.prog X.w) X.A (matchCases cs X.env v first) (SP X pins D) X.xe s
theorem pm_nil {X : Cx} : PMs X [] fun _ => tNext := fun _ _ σ H _ _ _ _ I _ h => wpAny_matchCases_nil ⟨σ, H, I, h⟩
/-- case (k, names..) over a tuple that begins with a text -/
def tCase (K : PySem.W.Frag) (k : Str) (is : List Nat) (tb : TS) (tr : V → TS) : V → TS := fun x D σ H => ∃ (a : Addr) (z : Str) (ys : List V), x = .ref a ∧ SqT K H a (.str z :: ys) ∧ ys.length ≤ 1000 ∧ if z = k ∧ ys.length = is.length then tb D (setAll σ is ys) H else tr x D σ H
theorem pm_case {X : Cx} (K : PySem.W.Frag) (eK : X.K = K) {k : Str} {j : Nat} {p1 p2 pos : Pos} {ps : List Pattern} {xs : List Str} {is : List Nat} {body : List Stmt} {rest : List MatchCase} {tb : TS} {tr : V → TS} (hc : X.calm = true) (hN : X.N.Nodup) (cp : Caps ps xs) (sl : Slots X xs is)
    (hb : PSs X body tb) (hr : PMs X rest tr) (hlen : xs.length = is.length) (hstar : ((Pattern.MatchValue (.Constant (.str k) j p1) p2) :: ps).findIdx? (·.isStar) = none := by rfl)
    (hwild : (((Pattern.MatchValue (.Constant (.str k) j p1) p2) :: ps).all fun p => p.isWildcard || (p.isStar && p.names.isEmpty)) = false := by rfl) :
    PMs X (⟨.MatchSequence (.MatchValue (.Constant (.str k) j p1) p2 :: ps) pos, none, body⟩ :: rest) (tCase K k is tb tr) := by
  subst eK
  intro pins s σ H D x v first I rx h
  obtain ⟨a, z, ys, ex, hS, hy, h⟩ := h
  subst ex
  obtain rfl : v = .ref a := rx
  obtain ⟨us, rel, tu, _⟩ := I.tuple hS
  cases rel with
  | @cons _ u _ ws r1 rr =>
    obtain ⟨tk, rfl⟩ := r1
    have hl := rr.length
    have hfit : (((Value.str z tk :: ws).toArray.size : Nat) : Int) < 2 ^ 63 := by
      simp only [List.size_toArray, List.length_cons]
      omega
    refine wpAny_matchCases_cons ?_
    by_cases hn : ws.length = ps.length
    · refine PyProof.Rows.matchSeq_tuple_hit tu hfit (by simp [hn]) ?_ hstar hwild
      have el : (Pattern.MatchValue (.Constant (.str k) j p1) p2 :: ps).length = (Value.str z tk :: ws).toArray.size := by simp [hn]
      rw [el]
      refine wpAny_unpackItems_tuple (I.ok.hd hc) (show Heap.IsTuple s.heap a _ from tu) fun g hx => ?_
      have I1 : Inv X pins σ H { s with heap := g, toks := s.toks + 1 + 1 } := I.kept (t' := s.toks + 1 + 1) fun b o q => hx b o (Nat.ne_of_lt (Heap.lt_size q)) q
      refine wpAny_matchEach_cons (wpAny_matchPattern_Value (Calls.Constant_str ?_))
      have I2 := I1.tok (s.toks + 1 + 1 + 1)
      refine thn (op_eq pins _ σ H (.str z) (.str k) _ _ (fun v' H' => v' = .bl (decide (z = k)) ∧ H' = H) I2 ⟨tk, rfl⟩ ⟨_, rfl⟩ ⟨rfl, ?_, rfl⟩) fun cv s2 w2 => ?_
      · congr 1
        exact decide_eq_decide.mpr ⟨fun q => V.str.inj q, fun q => by rw [q]⟩
      · obtain ⟨v2, H2, I3, r2, e2, e3⟩ := w2
        subst e2 e3
        obtain rfl : cv = .bool (decide (z = k)) := r2
        refine wpAny_truthy_bool ?_
        have hlen2 : ys.length = is.length := by rw [hl, hn, cp.len, hlen]
        by_cases hz : z = k
        · rw [decide_eq_true hz]
          rw [if_pos ⟨hz, hlen2⟩] at h
          show wpAny _ _ (matchEach ps X.env ws) _ _ _
          refine cp.each (by rw [hn, cp.len]) ?_
          show wpAny _ _ (assignInOrder _ _) _ _ _
          have em : (List.map (fun (q : Str × Value) => bindName X.env q.1) ([] ++ xs.zip ws)) = (xs.zip ws).map fun p => bindName X.env p.1 := rfl
          refine sl.store hN rr (by rw [hn, cp.len]) I3 fun s4 I4 => ?_
          exact hb.run pins s4 _ _ D I4 h
        · rw [decide_eq_false hz]
          rw [if_neg fun q => hz q.1] at h
          exact hr pins _ σ _ D (.ref a) (.ref a) false I3 rfl h
    · refine PyProof.Rows.matchSeq_tuple_miss tu hfit (by simp; omega) ?_ hstar hwild
      have hne : ¬ (z = k ∧ ys.length = is.length) := fun q => hn (by rw [← hl, q.2, ← hlen, cp.len])
      rw [if_neg hne] at h
      exact hr pins _ σ H D (.ref a) (.ref a) false (I.tok _) rfl h
theorem ps_match {X : Cx} {e : Expr} {cs : List MatchCase} {pos : Pos} {te : TE} {t : V → TS} (he : PE X e te) (hm : PMs X cs t) : PS X (.Match e cs pos) (fun D σ H => te σ H fun x H1 => t x D σ H1) := by
  refine ⟨fun pins s σ H D I h => ?_⟩
  exact wpAny_Match (thn (he.run pins s σ H _ I h) fun v s1 w1 => by
    obtain ⟨x, H1, I1, r1, q⟩ := w1
    exact hm pins s1 σ H1 D x v true I1 r1 q)
/-- the reading of a match -/
def tMatch (te : TE) (t : V → TS) : TS := fun D σ H => te σ H fun x H1 => t x D σ H1
theorem ps_matchQ {X : Cx} {e : Expr} {cs : List MatchCase} {pos : Pos} {te : TE} {t : V → TS} (he : PE X e te) (hm : PMs X cs t) : PS X (.Match e cs pos) (tMatch te t) := ps_match he hm
section
variable {K : PySem.W.Frag} {σ : St} {H : Hp} {D : Ends} {te : TE} {t tr : V → TS} {tb : TS}
theorem w_match (h : te σ H fun x H1 => t x D σ H1) : tMatch te t D σ H := h
theorem w_caseY {a : Addr} {k : Str} {is : List Nat} {ys : List V} (hS : SqT K H a (.str k :: ys)) (hl : ys.length = is.length) (h1 : ys.length ≤ 1000) (h : tb D (setAll σ is ys) H) : tCase K k is tb tr (.ref a) D σ H := ⟨a, k, ys, rfl, hS, h1, by rw [if_pos ⟨rfl, hl⟩]; exact h⟩
theorem w_caseN {a : Addr} {k z : Str} {is : List Nat} {ys : List V} (hS : SqT K H a (.str z :: ys)) (hne : ¬ (z = k ∧ ys.length = is.length)) (h1 : ys.length ≤ 1000) (h : tr (.ref a) D σ H) : tCase K k is tb tr (.ref a) D σ H := ⟨a, z, ys, rfl, hS, h1, by rw [if_neg hne]; exact h⟩
end
end Rn
set_option Elab.async false
set_option linter.all false
set_option maxRecDepth 100000
set_option maxHeartbeats 4000000
/-! slices of tuples, tuples of the top, data compared -/
namespace Rn
open PySem PySem.Spec L2 RT
section
variable {K : PySem.W.Frag} {σ : St} {H : Hp} {te : TE} {Q : VK} {QO : Option Int → Hp → Prop}
theorem w_sl {rs : V → Option Int → Option Int → Hp → VK → Prop} {tl th : TO} (h : te σ H fun x H1 => tl σ H1 fun l H2 => th σ H2 fun u H3 => rs x l u H3 Q) : tSl rs te tl th σ H Q := h
theorem w_noPart (h : QO none H) : tNoPart σ H QO := h
theorem w_part (h : te σ H fun x H1 => ∃ i, x = .int i ∧ QO (some i) H1) : tPart te σ H QO := h
theorem w_pint {a : Int} {P : Int → Prop} (h : P a) : ∃ i, V.int a = .int i ∧ P i := ⟨a, rfl, h⟩
theorem w_slT {a : Addr} {xs : List V} {lo hi : Option Int} (hS : SqT K H a xs) (h : ∀ p H', Same H H' → SqT K H' p (cutV xs lo hi) → Q (.ref p) H') : uSl K (.ref a) lo hi H Q := by
  refine .inl ⟨a, xs, rfl, hS, ?_⟩
  constructor
  · intro e
    refine h a H (Same.refl H) ?_
    unfold cutV
    rw [e.1, e.2, List.drop_zero, Nat.sub_zero, List.take_length]
    exact hS
  · intro _ p hp
    exact h p _ (Same.new hp) (SqT.of upd_same)
end
theorem sqT_K {K : PySem.W.Frag} {a : Addr} {d : Option Addr} {its : Array Value} {n : Nat} {sl : Array (Option Value)} {xs : List V} (H : Hp) (h : K.lookup a = some ⟨.type "tuple", d, .seq its n, sl⟩) (hz : its.size ≤ sizeLine) (v : Vals xs its.toList) : SqT K H a xs := .inr ⟨_, its, n, h, rfl, rfl, hz, v⟩
/-- data that may be laid, not deep -/
def lays (d : PyData) (n : Nat) : Prop := d.canLay0 = true ∧ d.depth ≤ n
def laysAll (ds : List PyData) (n : Nat) : Prop := PyData.canLayAll0 ds = true ∧ PyData.depthAll ds ≤ n
theorem lays.shaped {d : PyData} {n : Nat} (h : lays d n) (hn : n ≤ 64) : SeqAt.shaped d = true := Bool.and_eq_true_iff.mpr ⟨h.1, decide_eq_true (Nat.le_trans h.2 hn)⟩
theorem lays.int (i : Int) : lays (.int i) 1 := by unfold lays; simp [PyData.canLay0, PyData.depth]
theorem lays.bool (i : Bool) : lays (.bool i) 1 := by unfold lays; simp [PyData.canLay0, PyData.depth]
theorem laysAll.nil {n : Nat} : laysAll [] n := by unfold laysAll; simp [PyData.canLayAll0, PyData.depthAll]
theorem laysAll.cons {d : PyData} {ds : List PyData} {n : Nat} (h : lays d n) (r : laysAll ds n) : laysAll (d :: ds) n := by
  unfold laysAll
  simp only [PyData.canLayAll0, PyData.depthAll, h.1, r.1, Bool.and_self, true_and]
  have h1 := h.2
  have h2 := r.2
  omega
theorem laysAll.ints (ns : List Int) : laysAll (ns.map PyData.int) 1 := lay_ints ns
theorem lays.mono {d : PyData} {n m : Nat} (h : lays d n) (e : n ≤ m) : lays d m := ⟨h.1, Nat.le_trans h.2 e⟩
theorem lays.tup {ds : List PyData} {n : Nat} (h : laysAll ds n) : lays (.tuple ds) (n + 1) := by
  unfold lays
  simp only [PyData.canLay0, PyData.depth, h.1, true_and]
  have := h.2
  omega
theorem lays.lst {ds : List PyData} {n : Nat} (h : laysAll ds n) : lays (.list ds) (n + 1) := by
  unfold lays
  simp only [PyData.canLay0, PyData.depth, h.1, true_and]
  have := h.2
  omega
theorem w_neSame {K : PySem.W.Frag} {H : Hp} {Q : VK} {x y : V} {d : PyData} {n : Nat} (hx : Dp K H x d) (hy : Dp K H y d) (hl : lays d n) (hn : n ≤ 64) (h : Q (.bl false) H) : uNe K x y H Q :=
  w_neD hx hy (hl.shaped hn) (hl.shaped hn) (by rw [SeqAt.eqv_refl d hl.1]; exact h)
theorem w_eqSame {K : PySem.W.Frag} {H : Hp} {Q : VK} {x y : V} {d : PyData} {n : Nat} (hx : Dp K H x d) (hy : Dp K H y d) (hl : lays d n) (hn : n ≤ 64) (h : Q (.bl true) H) : uEq K x y H Q :=
  w_eqD hx hy (hl.shaped hn) (hl.shaped hn) (by rw [SeqAt.eqv_refl d hl.1]; exact h)
theorem dp_ints {K : PySem.W.Frag} {H : Hp} {a : Addr} {ns : List Int} (h : SqT K H a (ns.map V.int)) : Dp K H (.ref a) (.tuple (ns.map PyData.int)) := .tup h (DpAll.ints ns)
end Rn
set_option Elab.async false
set_option linter.all false
set_option maxRecDepth 100000
set_option maxHeartbeats 4000000
/-! the mathematics and the promises -/
namespace My
open PySem PySem.Spec L2 RT Rn
/-- the number that figures tell, the lowest first -/
def val (b : Int) : List Int → Int
  | [] => 0
  | d :: r => d + b * val b r
theorem val_drop {b : Int} {ds : List Int} {j : Nat} {d : Int} (h : ds[j]? = some d) : val b (ds.drop j) = val b (ds.drop (j + 1)) * b + d := by
  have hj := (List.getElem?_eq_some_iff.mp h).1
  have e : ds.drop j = d :: ds.drop (j + 1) := by
    rw [List.drop_eq_getElem_cons hj]
    congr 1
    exact (List.getElem?_eq_some_iff.mp h).2
  rw [e]
  show d + b * val b (ds.drop (j + 1)) = _
  rw [Int.mul_comm, Int.add_comm]
def spTold (K : PySem.W.Frag) : Sp := fun vs H Q _ => ∃ (b : Int) (a : Addr) (ds : List Int), vs = [.int b, .ref a] ∧ SqT K H a (ds.map V.int) ∧ -(2 ^ 64) < b ∧ b < 2 ^ 64 ∧ Q (.int (val b ds)) H
/-- so many figures of a number -/
def digs (b : Int) (n : Int) : Nat → List Int
  | 0 => []
  | k + 1 => n % b :: digs b (n / b) k
/-- n by the base, so many times -/
def shr (b : Int) (n : Int) : Nat → Int
  | 0 => n
  | k + 1 => shr b n k / b
theorem digs_end (b n : Int) : ∀ k, digs b n (k + 1) = digs b n k ++ [shr b n k % b] := by
  have shr_in : ∀ k n, shr b n (k + 1) = shr b (n / b) k := by
    intro k
    induction k with
    | zero => intro n; rfl
    | succ k ih =>
      intro n
      show shr b n (k + 1) / b = shr b (n / b) k / b
      rw [ih n]
  intro k
  induction k generalizing n with
  | zero => rfl
  | succ k ih =>
    show n % b :: digs b (n / b) (k + 1) = (n % b :: digs b (n / b) k) ++ [shr b n (k + 1) % b]
    rw [ih, shr_in k n]
    rfl
theorem digs_len (b n : Int) (k : Nat) : (digs b n k).length = k := by
  induction k generalizing n with
  | zero => rfl
  | succ k ih =>
    show (digs b (n / b) k).length + 1 = k + 1
    rw [ih]
/-- a new tuple of these ints -/
def NewT (H : Hp) (Q : VK) (ns : List Int) : Prop := ∀ p H', Same H H' → H p = none → H' p = some (.tup (ns.map V.int)) → Q (.ref p) H'
def spFigures_of : Sp := fun vs H Q _ => ∃ (b n m : Int), vs = [.int b, .int n, .int m] ∧ 0 < b ∧ b < 2 ^ 20 ∧ 0 ≤ m ∧ m ≤ 1000 ∧ NewT H Q (digs b n m.toNat)
def spPower : Sp := fun vs H Q _ => ∃ (b m : Int), vs = [.int b, .int m] ∧ -(2 ^ 64) < b ∧ b < 2 ^ 64 ∧ 0 ≤ m ∧ m < 2 ^ 62 ∧ Q (.int (b ^ m.toNat)) H
/-- the drawing state: a list of a number, the cells' list, a number -/
def DrawAt (H : Hp) (a c : Addr) : Prop := ∃ (s i : Int) (cells : List Int), H a = some (.lst [.int s, .ref c, .int i]) ∧ H c = some (.lst (cells.map V.int)) ∧ 0 ≤ s ∧ 0 ≤ i ∧ cells.length ≤ 63
theorem DrawAt.ne {H : Hp} {a c : Addr} (h : DrawAt H a c) : a ≠ c := by
  obtain ⟨s, i, cells, ha, hc, _⟩ := h
  refine ne_of ha hc fun z => ?_
  have e := HO.lst.inj z
  match cells, e with
  | [], e => cases e
  | [_], e => cases e
  | _ :: y :: r, e =>
    have e2 := (List.cons.inj (List.cons.inj e).2).1
    cases e2
theorem DrawAt.tn {H H' : Hp} {a c : Addr} (h : DrawAt H a c) (k : Kp a c H H') : Tn H H' := by
  obtain ⟨s, i, cells, ha, hc, _⟩ := h
  exact k.tn ha hc
theorem DrawAt.same {H H' : Hp} {a c : Addr} (h : DrawAt H a c) (k : Same H H') : DrawAt H' a c := by
  obtain ⟨s, i, cells, ha, hc, h0⟩ := h
  exact ⟨s, i, cells, k _ _ ha, k _ _ hc, h0⟩
def spNext : Sp := fun vs H Q _ => ∃ (a c : Addr) (m : Int), vs = [.ref a, .int m] ∧ DrawAt H a c ∧ 0 < m ∧ m < 2 ^ 30 ∧ ∀ (r : Int) (H' : Hp), 0 ≤ r → r < m → DrawAt H' a c → Kp a c H H' → Tn H H' → Q (.int r) H'
theorem val_append (b : Int) (xs ys : List Int) : val b (xs ++ ys) = val b xs + b ^ xs.length * val b ys := by
  induction xs with
  | nil =>
    show val b ys = 0 + b ^ 0 * val b ys
    rw [Int.pow_zero, Int.one_mul, Int.zero_add]
  | cons x r ih =>
    show x + b * val b (r ++ ys) = x + b * val b r + b ^ (r.length + 1) * val b ys
    rw [ih, Int.mul_add, Int.pow_succ, Int.add_assoc, Int.mul_comm (b ^ r.length) b, Int.mul_assoc]
theorem val_take {b : Int} {ds : List Int} {i : Nat} {d : Int} (h : ds[i]? = some d) : val b (ds.take (i + 1)) = val b (ds.take i) + d * b ^ i := by
  have hi := (List.getElem?_eq_some_iff.mp h).1
  rw [List.take_add_one, h]
  show val b (ds.take i ++ [d]) = _
  rw [val_append, List.length_take, Nat.min_eq_left (Nat.le_of_lt hi)]
  show val b (ds.take i) + b ^ i * (d + b * 0) = _
  rw [Int.mul_zero, Int.add_zero, Int.mul_comm]
def spNumber (K : PySem.W.Frag) : Sp := fun vs H Q _ => ∃ (b : Int) (a : Addr) (ds : List Int), vs = [.int b, .ref a] ∧ SqT K H a (ds.map V.int) ∧ ds.length ≤ 1000 ∧ (∀ d ∈ ds, 0 ≤ d ∧ d < 2 ^ 60) ∧ -(2 ^ 64) < b ∧ b < 2 ^ 64 ∧ Q (.int (val b ds)) H
def rowOf (b n : Int) (m : Nat) : List Int := (List.range m).map fun k => n / b ^ k % b
theorem pow_pos {b : Int} (h : 0 < b) : ∀ k : Nat, 0 < b ^ k
  | 0 => by rw [Int.pow_zero]; decide
  | k + 1 => by rw [Int.pow_succ]; exact Int.mul_pos (pow_pos h k) h
theorem pow_bits {b : Int} (h : 0 < b) (h2 : b ≤ 16) : ∀ k : Nat, (b ^ k).natAbs < 2 ^ (4 * k + 1)
  | 0 => by rw [Int.pow_zero]; decide
  | k + 1 => by
    have ih := pow_bits h h2 k
    rw [Int.pow_succ, Int.natAbs_mul]
    have e : 2 ^ (4 * (k + 1) + 1) = 2 ^ (4 * k + 1) * 16 := by rw [show 4 * (k + 1) + 1 = 4 * k + 1 + 4 by omega, Nat.pow_add]
    rw [e]
    have hb : b.natAbs ≤ 16 := by omega
    have h1 : (b ^ k).natAbs * b.natAbs ≤ (b ^ k).natAbs * 16 := Nat.mul_le_mul_left _ hb
    omega
def spRow : Sp := fun vs H Q _ => ∃ (b n m : Int), vs = [.int b, .int n, .int m] ∧ 0 < b ∧ b ≤ 16 ∧ 0 ≤ m ∧ m ≤ 1000 ∧ NewT H Q (rowOf b n m.toNat)
def spFigures : Sp := fun vs H Q _ => ∃ (a c : Addr) (b m : Int), vs = [.ref a, .int b, .int m] ∧ DrawAt H a c ∧ 0 < b ∧ b < 2 ^ 30 ∧ 0 ≤ m ∧ m ≤ 1000 ∧
  ∀ (ds : List Int) p H', ds.length = m.toNat → (∀ d ∈ ds, 0 ≤ d ∧ d < b) → DrawAt H' a c → Kp a c H H' → Tn H H' → H' p = some (.tup (ds.map V.int)) → Q (.ref p) H'
def spLaw (K : PySem.W.Frag) : Sp := fun vs H Q _ => ∃ (a : Addr) (ns : List Int), vs = [.ref a] ∧ SqL K H a (ns.map V.int) ∧ ns.length ≤ 63 ∧ ∀ H', Q (.bl true) H'
/-! figures and numbers -/
theorem digs_val {b : Int} (hb : 0 < b) (t : Int) : ∀ ds : List Int, (∀ d ∈ ds, 0 ≤ d ∧ d < b) → digs b (val b ds + b ^ ds.length * t) ds.length = ds
  | [], _ => rfl
  | d :: r, h => by
    obtain ⟨h0, h1⟩ := h d List.mem_cons_self
    have ih := digs_val hb t r fun x hx => h x (List.mem_cons_of_mem _ hx)
    have e : val b (d :: r) + b ^ (d :: r).length * t = d + b * (val b r + b ^ r.length * t) := by
      show d + b * val b r + b ^ (r.length + 1) * t = _
      rw [Int.pow_succ, Int.mul_add, Int.mul_comm (b ^ r.length) b, Int.mul_assoc, Int.add_assoc]
    rw [e]
    show (d + b * (val b r + b ^ r.length * t)) % b :: digs b ((d + b * (val b r + b ^ r.length * t)) / b) r.length = d :: r
    rw [Int.add_mul_emod_self_left, Int.emod_eq_of_lt h0 h1, Int.add_mul_ediv_left _ _ (by omega), Int.ediv_eq_zero_of_lt h0 h1, Int.zero_add, ih]
theorem digs_row {b : Int} (hb : 0 < b) (n : Int) (m : Nat) : digs b n m = rowOf b n m := by
  have shr_eq : ∀ k, shr b n k = n / b ^ k := by
    intro k
    induction k with
    | zero => rw [Int.pow_zero, Int.ediv_one]; rfl
    | succ k ih =>
      show shr b n k / b = _
      rw [ih, Int.pow_succ, Int.ediv_ediv_of_nonneg (Int.le_of_lt (pow_pos hb k))]
  induction m with
  | zero => rfl
  | succ m ih =>
    rw [digs_end, ih, shr_eq]
    unfold rowOf
    rw [List.range_succ, List.map_append]
    rfl
theorem val_zeros (b : Int) (ds : List Int) : val b (ds ++ [0, 0]) = val b ds := by
  rw [val_append]
  show val b ds + b ^ ds.length * (0 + b * (0 + b * 0)) = _
  rw [Int.mul_zero, Int.add_zero, Int.mul_zero, Int.add_zero, Int.mul_zero, Int.add_zero]
end My
set_option Elab.async false
set_option linter.all false
set_option maxRecDepth 100000
set_option maxHeartbeats 4000000
/-! carries: what stays true while levers are done -/
namespace My
open PySem PySem.Spec L2 RT Rn
/-- one if true -/
def one (x : Bool) : Int := if x then 1 else 0
/-- the carry that came to wheel k -/
def cin (d : Nat → Bool) : Nat → Int
  | 0 => 0
  | k + 1 => one (d k)
theorem one_01 (x : Bool) : one x = 0 ∨ one x = 1 := by cases x <;> simp [one]
theorem cin_01 (d : Nat → Bool) (k : Nat) : cin d k = 0 ∨ cin d k = 1 := by
  cases k with
  | zero => exact .inl rfl
  | succ k => exact one_01 _
def vk (way : Int) (w F : Nat → Int) (d : Nat → Bool) (k : Nat) : Int := w k + way * (F k + cin d k)
def InR (b v : Int) : Prop := 0 ≤ v ∧ v < b
structure Wn (b way : Int) (n : Nat) (w F : Nat → Int) : Prop where
  b2 : 2 ≤ b
  way1 : way = 1 ∨ way = -1
  w0 : ∀ k, k < n → 0 ≤ w k ∧ w k < b
  F0 : ∀ k, k < n → 0 ≤ F k ∧ F k < b
/-- the wheels and levers behind the carries of d -/
structure Cs (b way : Int) (n : Nat) (w F : Nat → Int) (d : Nat → Bool) (row L : List Int) : Prop where
  len : row.length = n
  eq : ∀ k, k < n → row[k]? = some (vk way w F d k % b)
  lev : ∀ l : Int, l ∈ L ↔ ∃ k : Nat, k < n ∧ l = (k : Int) ∧ ¬ InR b (vk way w F d k) ∧ d k = false
  dle : ∀ k, k < n → d k = true → ¬ InR b (vk way w F d k)
  up : L.Pairwise (· < ·)
def setD (d : Nat → Bool) (k : Nat) : Nat → Bool := fun j => if j = k then true else d j
theorem setD_same (d : Nat → Bool) (k : Nat) : setD d k k = true := by simp [setD]
theorem setD_ne (d : Nat → Bool) {k j : Nat} (h : j ≠ k) : setD d k j = d j := by simp [setD, h]
theorem vk_ne {way : Int} {w F : Nat → Int} {d : Nat → Bool} {k j : Nat} (h : j ≠ k + 1) : vk way w F (setD d k) j = vk way w F d j := by
  unfold vk
  cases j with
  | zero => rfl
  | succ j =>
    show w (j + 1) + way * (F (j + 1) + one (setD d k j)) = _
    rw [setD_ne d (by omega)]
    rfl
theorem vk_next {way : Int} {w F : Nat → Int} {d : Nat → Bool} {k : Nat} (h : d k = false) : vk way w F (setD d k) (k + 1) = vk way w F d (k + 1) + way := by
  unfold vk
  show w (k + 1) + way * (F (k + 1) + one (setD d k k)) = w (k + 1) + way * (F (k + 1) + one (d k)) + way
  rw [setD_same, h]
  show w (k + 1) + way * (F (k + 1) + 1) = w (k + 1) + way * (F (k + 1) + 0) + way
  rw [Int.add_zero, Int.mul_add, Int.mul_one, Int.add_assoc]
theorem mod_in {b v : Int} (h : InR b v) : v % b = v := Int.emod_eq_of_lt h.1 h.2
/-- one wheel: what it shows and whether it went round -/
theorem wheel_eq {b way w F c : Int} (hb : 2 ≤ b) (hw : way = 1 ∨ way = -1) (h1 : 0 ≤ w ∧ w < b) (h2 : 0 ≤ F ∧ F < b) (hc : c = 0 ∨ c = 1) :
    (InR b (w + way * (F + c)) ∧ (w + way * (F + c)) % b = w + way * (F + c)) ∨ (¬ InR b (w + way * (F + c)) ∧ (w + way * (F + c)) % b = w + way * (F + c) - way * b) := by
  by_cases h : InR b (w + way * (F + c))
  · exact .inl ⟨h, mod_in h⟩
  · refine .inr ⟨h, ?_⟩
    have h' : ¬ (0 ≤ w + way * (F + c) ∧ w + way * (F + c) < b) := h
    rcases hw with e | e <;> subst e
    · rw [Int.one_mul] at h' ⊢
      have e : (w + (F + c)) % b = (w + (F + c) - b) % b := by rw [Int.sub_emod_right]
      rw [e, Int.one_mul]
      exact Int.emod_eq_of_lt (by omega) (by omega)
    · have e : (w + -1 * (F + c)) % b = (w + -1 * (F + c) + b) % b := by rw [Int.add_emod_right]
      rw [e, show w + -1 * (F + c) - -1 * b = w + -1 * (F + c) + b by omega]
      exact Int.emod_eq_of_lt (by omega) (by omega)
/-- the next wheel, gone on by one more -/
theorem wheel_next {b way w F : Int} (hb : 2 ≤ b) (hw : way = 1 ∨ way = -1) (h1 : 0 ≤ w ∧ w < b) (h2 : 0 ≤ F ∧ F < b) :
    (InR b (w + way * (F + 0)) ∧ (InR b (w + way * (F + 0) + way) ↔ InR b ((w + way * (F + 0)) % b + way))) ∨ (¬ InR b (w + way * (F + 0)) ∧ ¬ InR b (w + way * (F + 0) + way) ∧ InR b ((w + way * (F + 0)) % b + way)) := by
  rcases wheel_eq hb hw h1 h2 (.inl rfl : (0 : Int) = 0 ∨ (0 : Int) = 1) with ⟨h, e⟩ | ⟨h, e⟩
  · exact .inl ⟨h, by rw [e]⟩
  · refine .inr ⟨h, ?_⟩
    rw [e]
    unfold InR at h ⊢
    rcases hw with e | e <;> subst e <;> omega
theorem Cs.step {b way : Int} {n : Nat} {w F : Nat → Int} {d : Nat → Bool} {row L L' : List Int} {k : Nat} {x : Int} (N : Wn b way n w F) (C : Cs b way n w F d row L) (hk : (k : Int) ∈ L) (hk1 : k + 1 < n) (hx : row[k + 1]? = some x)
    (hL : ∀ l, l ∈ L' ↔ (l ∈ L ∧ l ≠ (k : Int)) ∨ (l = (k : Int) + 1 ∧ ¬ InR b (x + way))) (up : L'.Pairwise (· < ·)) : Cs b way n w F (setD d k) (row.set (k + 1) ((x + way) % b)) L' := by
  obtain ⟨k', hk', ek, hr, hd⟩ := (C.lev _).mp hk
  have ekk : k' = k := by omega
  subst ekk
  have ex : x = vk way w F d (k' + 1) % b := Option.some.inj (hx.symm.trans (C.eq (k' + 1) hk1))
  have hc : cin d (k' + 1) = 0 := by show one (d k') = 0; rw [hd]; rfl
  have hv : vk way w F d (k' + 1) = w (k' + 1) + way * (F (k' + 1) + 0) := by unfold vk; rw [hc]
  have nx := wheel_next N.b2 N.way1 (N.w0 _ hk1) (N.F0 _ hk1)
  rw [← hv, ← ex] at nx
  have hv' := vk_next (way := way) (w := w) (F := F) hd
  refine ⟨by rw [List.length_set]; exact C.len, fun j hj => ?_, fun l => ?_, fun j hj hdj => ?_, up⟩
  · by_cases ej : j = k' + 1
    · subst ej
      rw [List.getElem?_set_self (by rw [C.len]; exact hj), hv', ex, Int.emod_add_emod]
    · rw [List.getElem?_set_ne (Ne.symm ej), C.eq j hj, vk_ne ej]
  · rw [hL l, C.lev l]
    constructor
    · rintro (⟨⟨j, hj, e, hr', hd'⟩, hne⟩ | ⟨e, hr'⟩)
      · have hjk : j ≠ k' := fun z => hne (by rw [e, z])
        refine ⟨j, hj, e, ?_, by rw [setD_ne d hjk]; exact hd'⟩
        by_cases ej : j = k' + 1
        · subst ej
          rw [hv']
          rcases nx with ⟨a, _⟩ | ⟨_, a, _⟩
          · exact absurd a hr'
          · exact a
        · rw [vk_ne ej]
          exact hr'
      · refine ⟨k' + 1, hk1, by omega, ?_, ?_⟩
        · rw [hv']
          rcases nx with ⟨_, a⟩ | ⟨_, a, _⟩
          · exact fun z => hr' (a.mp z)
          · exact a
        · rw [setD_ne d (by omega)]
          cases e2 : d (k' + 1) with
          | false => rfl
          | true =>
            have := C.dle _ hk1 e2
            rcases nx with ⟨a, _⟩ | ⟨_, _, a⟩
            · exact absurd a this
            · exact absurd a hr'
    · rintro ⟨j, hj, e, hr', hd'⟩
      have hjk : j ≠ k' := fun z => by rw [z, setD_same] at hd'; cases hd'
      rw [setD_ne d hjk] at hd'
      by_cases ej : j = k' + 1
      · subst ej
        rw [hv'] at hr'
        rcases nx with ⟨a, a2⟩ | ⟨a, _, _⟩
        · exact .inr ⟨by omega, fun z => hr' (a2.mpr z)⟩
        · exact .inl ⟨⟨_, hj, e, a, hd'⟩, by omega⟩
      · rw [vk_ne ej] at hr'
        exact .inl ⟨⟨j, hj, e, hr', hd'⟩, by omega⟩
  · by_cases ej : j = k' + 1
    · subst ej
      rw [hv']
      rw [setD_ne d (by omega)] at hdj
      have := C.dle _ hj hdj
      rcases nx with ⟨a, _⟩ | ⟨_, a, _⟩
      · exact absurd a this
      · exact a
    · rw [vk_ne ej]
      by_cases ek : j = k'
      · rw [ek]; exact hr
      · rw [setD_ne d ek] at hdj
        exact C.dle j hj hdj
theorem Cs.last {b way : Int} {n : Nat} {w F : Nat → Int} {d : Nat → Bool} {row L L' : List Int} {k : Nat} (C : Cs b way n w F d row L) (hk : (k : Int) ∈ L) (hk1 : n ≤ k + 1)
    (hL : ∀ l, l ∈ L' ↔ l ∈ L ∧ l ≠ (k : Int)) (up : L'.Pairwise (· < ·)) : Cs b way n w F (setD d k) row L' := by
  obtain ⟨k', hk', ek, hr, hd⟩ := (C.lev _).mp hk
  have ekk : k' = k := by omega
  subst ekk
  refine ⟨C.len, fun j hj => by rw [C.eq j hj, vk_ne (by omega)], fun l => ?_, fun j hj hdj => ?_, up⟩
  · rw [hL l, C.lev l]
    constructor
    · rintro ⟨⟨j, hj, e, hr', hd'⟩, hne⟩
      exact ⟨j, hj, e, by rw [vk_ne (by omega)]; exact hr', by rw [setD_ne d (fun z => hne (by rw [e, z]))]; exact hd'⟩
    · rintro ⟨j, hj, e, hr', hd'⟩
      have hjk : j ≠ k' := fun z => by rw [z, setD_same] at hd'; cases hd'
      rw [setD_ne d hjk] at hd'
      rw [vk_ne (by omega)] at hr'
      exact ⟨⟨j, hj, e, hr', hd'⟩, by omega⟩
  · rw [vk_ne (by omega)]
    by_cases ek : j = k'
    · rw [ek]; exact hr
    · rw [setD_ne d ek] at hdj
      exact C.dle j hj hdj
/-- sums of figures -/
def sumN (b : Int) (f : Nat → Int) : Nat → Int
  | 0 => 0
  | k + 1 => sumN b f k + f k * b ^ k
theorem val_sum (b : Int) (ds : List Int) : ∀ i, i ≤ ds.length → val b (ds.take i) = sumN b (fun k => ds.getD k 0) i
  | 0, _ => by rw [List.take_zero]; rfl
  | i + 1, h => by
    have hx : ds[i]? = some ds[i] := List.getElem?_eq_getElem h
    rw [val_take hx, val_sum b ds i (by omega)]
    show _ = sumN b _ i + ds.getD i 0 * b ^ i
    rw [List.getD_eq_getElem?_getD, hx]
    rfl
theorem val_all (b : Int) (ds : List Int) : val b ds = sumN b (fun k => ds.getD k 0) ds.length := by
  have h := val_sum b ds ds.length (Nat.le_refl _)
  rw [List.take_length] at h
  exact h
theorem sum_congr {b : Int} {f g : Nat → Int} : ∀ {n : Nat}, (∀ k, k < n → f k = g k) → sumN b f n = sumN b g n
  | 0, _ => rfl
  | n + 1, h => by
    show sumN b f n + f n * b ^ n = sumN b g n + g n * b ^ n
    rw [sum_congr fun k hk => h k (by omega), h n (by omega)]
theorem sum_way {b way : Int} {f g : Nat → Int} : ∀ n : Nat, sumN b (fun k => f k + way * g k) n = sumN b f n + way * sumN b g n
  | 0 => by show (0 : Int) = 0 + way * 0; rw [Int.mul_zero]; rfl
  | n + 1 => by
    show sumN b (fun k => f k + way * g k) n + (f n + way * g n) * b ^ n = sumN b f n + f n * b ^ n + way * (sumN b g n + g n * b ^ n)
    rw [sum_way n, Int.add_mul, Int.mul_add, Int.mul_assoc]
    omega
theorem val_bounds {b : Int} (hb : 0 < b) : ∀ ds : List Int, (∀ d ∈ ds, 0 ≤ d ∧ d < b) → 0 ≤ val b ds ∧ val b ds < b ^ ds.length
  | [], _ => by
    show (0 : Int) ≤ 0 ∧ (0 : Int) < b ^ 0
    rw [Int.pow_zero]
    decide
  | d :: r, h => by
    obtain ⟨h0, h1⟩ := h d List.mem_cons_self
    obtain ⟨i0, i1⟩ := val_bounds hb r fun x hx => h x (List.mem_cons_of_mem _ hx)
    show 0 ≤ d + b * val b r ∧ d + b * val b r < b ^ (r.length + 1)
    rw [Int.pow_succ]
    have e : b * val b r ≤ b * (b ^ r.length - 1) := Int.mul_le_mul_of_nonneg_left (by omega) (by omega)
    have e2 : 0 ≤ b * val b r := Int.mul_nonneg (by omega) i0
    rw [Int.mul_sub, Int.mul_one, Int.mul_comm b (b ^ r.length)] at e
    omega
/-- all levers done: the number -/
theorem Cs.done {b way : Int} {n : Nat} {w F : Nat → Int} {d : Nat → Bool} {row : List Int} (N : Wn b way n w F) (C : Cs b way n w F d row []) :
    (∀ x ∈ row, 0 ≤ x ∧ x < b) ∧ val b row = (sumN b w n + way * sumN b F n) % b ^ n ∧ (cin d n = 1 ↔ ¬ InR (b ^ n) (sumN b w n + way * sumN b F n)) := by
  have hb : 0 < b := by have := N.b2; omega
  have rowb : ∀ x ∈ row, 0 ≤ x ∧ x < b := fun x hx => by
    obtain ⟨k, hk, e⟩ := List.getElem_of_mem hx
    have q := C.eq k (by rw [← C.len]; exact hk)
    rw [List.getElem?_eq_getElem hk, e] at q
    rw [Option.some.inj q]
    exact ⟨Int.emod_nonneg _ (by omega), Int.emod_lt_of_pos _ hb⟩
  have full : ∀ k, k < n → vk way w F d k = vk way w F d k % b + way * b * one (d k) := fun k hk => by
    have we := wheel_eq N.b2 N.way1 (N.w0 k hk) (N.F0 k hk) (cin_01 d k)
    rw [show w k + way * (F k + cin d k) = vk way w F d k from rfl] at we
    cases e : d k with
    | true =>
      have := C.dle k hk e
      rcases we with ⟨a, _⟩ | ⟨_, a⟩
      · exact absurd a this
      · show _ = _ + way * b * 1
        rw [a]
        omega
    | false =>
      rcases we with ⟨_, a⟩ | ⟨a, _⟩
      · show _ = _ + way * b * 0
        rw [a]
        omega
      · exact absurd ((C.lev k).mpr ⟨k, hk, rfl, a, e⟩) (List.not_mem_nil)
  have sums : ∀ m, m ≤ n → sumN b w m + way * sumN b F m = sumN b (fun k => vk way w F d k % b) m + way * b ^ m * cin d m := by
    intro m
    induction m with
    | zero => intro _; show (0 : Int) + way * 0 = 0 + way * b ^ 0 * 0; omega
    | succ m ih =>
      intro hm
      have h1 := ih (by omega)
      have h2 := full m (by omega)
      have hv : vk way w F d m = w m + way * F m + way * cin d m := by unfold vk; rw [Int.mul_add, Int.add_assoc]
      show sumN b w m + w m * b ^ m + way * (sumN b F m + F m * b ^ m) = sumN b (fun k => vk way w F d k % b) m + vk way w F d m % b * b ^ m + way * b ^ (m + 1) * one (d m)
      have e1 : vk way w F d m % b = w m + way * F m + way * cin d m - way * b * one (d m) := by omega
      rw [e1, Int.pow_succ, Int.mul_add]
      have e2 : (w m + way * F m + way * cin d m - way * b * one (d m)) * b ^ m = w m * b ^ m + way * (F m * b ^ m) + way * b ^ m * cin d m - way * (b ^ m * b) * one (d m) := by
        rw [Int.sub_mul, Int.add_mul, Int.add_mul]
        congr 1
        · congr 1
          · rw [Int.mul_assoc]
          · rw [Int.mul_assoc, Int.mul_assoc, Int.mul_comm (cin d m)]
        · simp only [Int.mul_comm, Int.mul_left_comm, Int.mul_assoc]
      rw [e2]
      omega
  have hs := sums n (Nat.le_refl _)
  have er : val b row = sumN b (fun k => vk way w F d k % b) n := by
    rw [val_all, C.len]
    refine sum_congr fun k hk => ?_
    rw [List.getD_eq_getElem?_getD, C.eq k hk]
    rfl
  obtain ⟨v0, v1⟩ := val_bounds hb row rowb
  rw [C.len] at v1
  rw [← er] at hs
  refine ⟨rowb, ?_, ?_⟩
  · rw [hs, show way * b ^ n * cin d n = b ^ n * (way * cin d n) by rw [Int.mul_comm way, Int.mul_assoc], Int.add_mul_emod_self_left, Int.emod_eq_of_lt v0 v1]
  · rw [hs]
    unfold InR
    rcases cin_01 d n with e | e <;> rw [e] <;> rcases N.way1 with z | z <;> subst z <;> omega
end My
set_option Elab.async false
set_option linter.all false
set_option maxRecDepth 100000
set_option maxHeartbeats 4000000
/-! machines, stands: promises of the wheels' defs -/
namespace My
open PySem PySem.Spec L2 RT Rn
structure Mach (b s w c : Int) : Prop where
  b0 : 2 ≤ b
  b1 : b ≤ 12
  s0 : 1 ≤ s
  s1 : s ≤ 6
  w0 : s ≤ w
  w1 : w ≤ 16
  c0 : 1 ≤ c
  c1 : c ≤ 10
/-- a machine stands at m -/
def MachAt (K : PySem.W.Frag) (H : Hp) (m : Addr) (b s w c : Int) : Prop := SqT K H m [.int b, .int s, .int w, .int c]
def spNeed (K : PySem.W.Frag) : Sp := fun vs H Q _ => ∃ (m : Addr) (b s w c : Int), vs = [.ref m] ∧ MachAt K H m b s w c ∧ Mach b s w c ∧ Q .non H
def spGone : Sp := fun vs H Q _ => ∃ (b f y : Int), vs = [.int b, .int f, .int y] ∧ 0 < b ∧ ∀ (r : Bool) p H', (r = true ↔ ¬ InR b (f + y)) → H p = none → Same H H' → H' p = some (.tup [.int ((f + y) % b), .bl r]) → Q (.ref p) H'
/-- a stand stands at t: the setting, the place, the wheels, what stands for the counts -/
structure StAt (K : PySem.W.Frag) (H : Hp) (t : Addr) (S W C : List Int) (p : Int) : Prop where
  ex : ∃ a1 a2 a3 : Addr, SqT K H t [.ref a1, .int p, .ref a2, .ref a3] ∧ SqT K H a1 (S.map V.int) ∧ SqT K H a2 (W.map V.int) ∧ SqT K H a3 (C.map V.int)
theorem StAt.tn {K : PySem.W.Frag} {H H' : Hp} {t : Addr} {S W C : List Int} {p : Int} (h : StAt K H t S W C p) (e : Tn H H') : StAt K H' t S W C p := by
  obtain ⟨a1, a2, a3, h0, h1, h2, h3⟩ := h
  exact ⟨a1, a2, a3, SqT.tn e h0, SqT.tn e h1, SqT.tn e h2, SqT.tn e h3⟩
def Figs (b : Int) (ds : List Int) : Prop := ∀ d ∈ ds, 0 ≤ d ∧ d < b
structure Stand (b s w c : Int) (S W C : List Int) (p : Int) : Prop where
  ls : S.length = s.toNat
  lw : W.length = w.toNat
  lc : C.length = c.toNat
  fs : Figs b S
  fw : Figs b W
  fc : Figs b C
  p0 : 0 ≤ p
  p1 : p + s ≤ w
  p2 : p < c
def wN (W : List Int) : Nat → Int := fun k => W.getD k 0
def fN (p : Int) (S : List Int) : Nat → Int := fun k => if p.toNat ≤ k then S.getD (k - p.toNat) 0 else 0
theorem Figs.getD {b : Int} {ds : List Int} (h : Figs b ds) (hb : 0 < b) (k : Nat) : 0 ≤ ds.getD k 0 ∧ ds.getD k 0 < b := by
  rw [List.getD_eq_getElem?_getD]
  cases e : ds[k]? with
  | none => exact ⟨Int.le_refl _, hb⟩
  | some x => exact h x (List.mem_of_getElem? e)
theorem Stand.wn {b s w c p way : Int} {S W C : List Int} (hb : 2 ≤ b) (hw : way = 1 ∨ way = -1) (T : Stand b s w c S W C p) : Wn b way w.toNat (wN W) (fN p S) :=
  ⟨hb, hw, fun k _ => T.fw.getD (by omega) k, fun k _ => by
    unfold fN
    split
    · exact T.fs.getD (by omega) _
    · omega⟩
instance (b v : Int) : Decidable (InR b v) := inferInstanceAs (Decidable (0 ≤ v ∧ v < b))
/-- some first slides done -/
structure Ps (b way : Int) (P : Nat) (w F : Nat → Int) (n i : Nat) (row L : List Int) : Prop where
  len : row.length = n
  eq : ∀ k, k < n → row[k]? = some (if P ≤ k ∧ k < P + i then (w k + way * F k) % b else w k)
  lev : ∀ l : Int, l ∈ L ↔ ∃ k : Nat, P ≤ k ∧ k < P + i ∧ l = (k : Int) ∧ ¬ InR b (w k + way * F k)
  up : L.Pairwise (· < ·)
theorem Ps.step {b way : Int} {P : Nat} {w F : Nat → Int} {n i : Nat} {row L L' : List Int} (C : Ps b way P w F n i row L) (hi : P + i < n)
    (hL : L' = if InR b (w (P + i) + way * F (P + i)) then L else L ++ [((P + i : Nat) : Int)]) : Ps b way P w F n (i + 1) (row.set (P + i) ((w (P + i) + way * F (P + i)) % b)) L' := by
  refine ⟨by rw [List.length_set]; exact C.len, fun k hk => ?_, fun l => ?_, ?_⟩
  · by_cases e : k = P + i
    · subst e
      rw [List.getElem?_set_self (by rw [C.len]; exact hk), if_pos ⟨by omega, by omega⟩]
    · rw [List.getElem?_set_ne (Ne.symm e), C.eq k hk]
      congr 1
      by_cases h : P ≤ k ∧ k < P + i
      · rw [if_pos h, if_pos ⟨h.1, by omega⟩]
      · rw [if_neg h, if_neg (by omega)]
  · rw [hL]
    by_cases h : InR b (w (P + i) + way * F (P + i))
    · rw [if_pos h, C.lev l]
      constructor
      · rintro ⟨k, h1, h2, e, h3⟩
        exact ⟨k, h1, by omega, e, h3⟩
      · rintro ⟨k, h1, h2, e, h3⟩
        have : k ≠ P + i := fun z => h3 (by rw [z]; exact h)
        exact ⟨k, h1, by omega, e, h3⟩
    · rw [if_neg h, List.mem_append, List.mem_singleton, C.lev l]
      constructor
      · rintro (⟨k, h1, h2, e, h3⟩ | e)
        · exact ⟨k, h1, by omega, e, h3⟩
        · exact ⟨P + i, by omega, by omega, e, h⟩
      · rintro ⟨k, h1, h2, e, h3⟩
        by_cases z : k = P + i
        · exact .inr (by rw [e, z])
        · exact .inl ⟨k, h1, by omega, e, h3⟩
  · rw [hL]
    split
    · exact C.up
    · rw [List.pairwise_append]
      refine ⟨C.up, List.pairwise_singleton _ _, fun a ha c hc => ?_⟩
      rw [List.mem_singleton.mp hc]
      obtain ⟨k, _, h2, e, _⟩ := (C.lev a).mp ha
      omega
theorem Ps.done {b s w c p way : Int} {S W C L row : List Int} (hb : 2 ≤ b) (hw : way = 1 ∨ way = -1) (hs : 0 ≤ s) (T : Stand b s w c S W C p) (Z : Ps b way p.toNat (wN W) (fN p S) w.toNat S.length row L) : Cs b way w.toNat (wN W) (fN p S) (fun _ => false) row L := by
  have hv : ∀ k, vk way (wN W) (fN p S) (fun _ => false) k = wN W k + way * fN p S k := fun k => by
    unfold vk
    have : cin (fun _ => false) k = 0 := by cases k <;> rfl
    rw [this, Int.add_zero]
  have out : ∀ k, ¬ (p.toNat ≤ k ∧ k < p.toNat + S.length) → fN p S k = 0 := fun k h => by
    unfold fN
    split
    · rw [List.getD_eq_getElem?_getD, List.getElem?_eq_none (by omega)]
      rfl
    · rfl
  have win : ∀ k, InR b (wN W k) := fun k => T.fw.getD (by omega) k
  have p0 := T.p0
  have p1 := T.p1
  have ls := T.ls
  refine ⟨Z.len, fun k hk => ?_, fun l => ?_, fun k _ h => (by cases h), Z.up⟩
  · rw [Z.eq k hk, hv]
    split
    · rfl
    · next h => rw [out k h, Int.mul_zero, Int.add_zero, mod_in (win k)]
  · rw [Z.lev l]
    constructor
    · rintro ⟨k, h1, h2, e, h3⟩
      exact ⟨k, by omega, e, by rw [hv]; exact h3, rfl⟩
    · rintro ⟨k, h1, e, h3, _⟩
      rw [hv] at h3
      by_cases h : p.toNat ≤ k ∧ k < p.toNat + S.length
      · exact ⟨k, h.1, h.2, e, h3⟩
      · rw [out k h, Int.mul_zero, Int.add_zero] at h3
        exact absurd (win k) h3
def spSpun (K : PySem.W.Frag) : Sp := fun vs H Q _ => ∃ (m t : Addr) (b s w c way p : Int) (S W C : List Int), vs = [.ref m, .ref t, .int way] ∧ MachAt K H m b s w c ∧ Mach b s w c ∧ StAt K H t S W C p ∧ Stand b s w c S W C p ∧ (way = 1 ∨ way = -1) ∧
  ∀ (z r l : Addr) (row L : List Int) (H' : Hp), Same H H' → H' z = some (.tup [.ref r, .ref l]) → H' r = some (.tup (row.map V.int)) → H l = none → H' l = some (.lst (L.map V.int)) → Ps b way p.toNat (wN W) (fN p S) w.toNat S.length row L → Q (.ref z) H'
/-- strictly rising numbers within bounds are few -/
theorem rising_few : ∀ {L : List Int} {lo hi : Int}, L.Pairwise (· < ·) → (∀ x ∈ L, lo ≤ x ∧ x < hi) → (L.length : Int) ≤ max 0 (hi - lo)
  | [], _, _, _, _ => by simp; omega
  | x :: r, lo, hi, hp, hx => by
    obtain ⟨h1, h2⟩ := List.pairwise_cons.mp hp
    have hx0 := hx x List.mem_cons_self
    have ih := rising_few (lo := x + 1) (hi := hi) h2 fun y hy => ⟨by have := h1 y hy; omega, (hx y (List.mem_cons_of_mem _ hy)).2⟩
    rw [List.length_cons]
    omega
theorem Cs.few {b way : Int} {n : Nat} {w F : Nat → Int} {d : Nat → Bool} {row L : List Int} (C : Cs b way n w F d row L) : L.length ≤ n := by
  have h := rising_few (lo := 0) (hi := n) C.up fun x hx => by
    obtain ⟨k, hk, e, _⟩ := (C.lev x).mp hx
    omega
  omega
def spCarried (K : PySem.W.Frag) : Sp := fun vs H Q _ => ∃ (m t l : Addr) (b s w c way : Int) (fw fF : Nat → Int) (d : Nat → Bool) (row L : List Int) (k : Nat), vs = [.ref m, .ref t, .ref l, .int (k : Int), .int way] ∧ MachAt K H m b s w c ∧ Mach b s w c ∧
  SqT K H t (row.map V.int) ∧ SqL K H l (L.map V.int) ∧ Wn b way w.toNat fw fF ∧ Cs b way w.toNat fw fF d row L ∧ (k : Int) ∈ L ∧
  ∀ (z r' l' : Addr) (row' L' : List Int) (H' : Hp), Same H H' → H' z = some (.tup [.ref r', .ref l', .bl (decide (w.toNat ≤ k + 1))]) → H' r' = some (.tup (row'.map V.int)) → H l' = none → H' l' = some (.lst (L'.map V.int)) → Cs b way w.toNat fw fF (setD d k) row' L' → Q (.ref z) H'
def spSettled (K : PySem.W.Frag) : Sp := fun vs H Q _ => ∃ (m t l o : Addr) (b s w c way : Int) (fw fF : Nat → Int) (row L os : List Int), vs = [.ref m, .ref t, .ref l, .ref o, .int way] ∧ MachAt K H m b s w c ∧ Mach b s w c ∧
  SqT K H t (row.map V.int) ∧ SqL K H l (L.map V.int) ∧ SqL K H o (os.map V.int) ∧ Wn b way w.toNat fw fF ∧ Cs b way w.toNat fw fF (fun _ => false) row L ∧
  ∀ (z r' : Addr) (row' : List Int) (d : Nat → Bool) (g : Bool) (H' : Hp), Same H H' → H' z = some (.tup [.ref r', .bl g]) → SqT K H' r' (row'.map V.int) → Cs b way w.toNat fw fF d row' [] → (g = true ↔ cin d w.toNat = 1) → Q (.ref z) H'
/-- how many levers are not done yet -/
def undone (d : Nat → Bool) : Nat → Nat
  | 0 => 0
  | n + 1 => undone d n + (if d n = true then 0 else 1)
theorem undone_far {d : Nat → Bool} {k : Nat} : ∀ {n : Nat}, n ≤ k → undone (setD d k) n = undone d n
  | 0, _ => rfl
  | n + 1, h => by
    show undone (setD d k) n + (if setD d k n = true then 0 else 1) = _
    rw [undone_far (by omega), setD_ne d (by omega)]
    rfl
theorem undone_step {d : Nat → Bool} {k : Nat} (hd : d k = false) : ∀ {n : Nat}, k < n → undone (setD d k) n + 1 = undone d n
  | n + 1, h => by
    show undone (setD d k) n + (if setD d k n = true then 0 else 1) + 1 = undone d n + (if d n = true then 0 else 1)
    by_cases e : k = n
    · subst e
      rw [undone_far (Nat.le_refl _), setD_same, hd]
      simp
    · have ih := undone_step hd (n := n) (by omega)
      rw [setD_ne d (Ne.symm e)]
      omega
theorem cin_set {d : Nat → Bool} {k n : Nat} (hk : k < n) : cin (setD d k) n = 1 ↔ (cin d n = 1 ∨ n ≤ k + 1) := by
  cases n with
  | zero => omega
  | succ n =>
    show one (setD d k n) = 1 ↔ (one (d n) = 1 ∨ n + 1 ≤ k + 1)
    by_cases e : n = k
    · subst e
      rw [setD_same]
      exact ⟨fun _ => .inr (Nat.le_refl _), fun _ => rfl⟩
    · rw [setD_ne d e]
      exact ⟨.inl, fun h => h.elim id fun z => by omega⟩
end My
set_option Elab.async false
set_option linter.all false
set_option maxRecDepth 100000
set_option maxHeartbeats 4000000
/-! what the laws draw -/
namespace My
open PySem PySem.Spec L2 RT Rn
theorem pick2 {x y : V} {r : Int} (h0 : 0 ≤ r) (h1 : r < 2) : atI [x, y] r = some (if r = 0 then x else y) := by
  rcases (show r = 0 ∨ r = 1 by omega) with rfl | rfl <;> rfl
theorem pick3 {x y z : V} {r : Int} (h0 : 0 ≤ r) (h1 : r < 3) : atI [x, y, z] r = some (if r = 0 then x else if r = 1 then y else z) := by
  rcases (show r = 0 ∨ r = 1 ∨ r = 2 by omega) with rfl | rfl | rfl <;> rfl
theorem pick4 {x y z u : V} {r : Int} (h0 : 0 ≤ r) (h1 : r < 4) : atI [x, y, z, u] r = some (if r = 0 then x else if r = 1 then y else if r = 2 then z else u) := by
  rcases (show r = 0 ∨ r = 1 ∨ r = 2 ∨ r = 3 by omega) with rfl | rfl | rfl | rfl <;> rfl
theorem pick2I {x y r : Int} (h0 : 0 ≤ r) (h1 : r < 2) : ∃ v, atI [V.int x, V.int y] r = some (.int v) ∧ (v = x ∨ v = y) := by
  rcases (show r = 0 ∨ r = 1 by omega) with rfl | rfl
  · exact ⟨x, rfl, .inl rfl⟩
  · exact ⟨y, rfl, .inr rfl⟩
theorem pick4I {x y z u r : Int} (h0 : 0 ≤ r) (h1 : r < 4) : ∃ v, atI [V.int x, V.int y, V.int z, V.int u] r = some (.int v) ∧ (v = x ∨ v = y ∨ v = z ∨ v = u) := by
  rcases (show r = 0 ∨ r = 1 ∨ r = 2 ∨ r = 3 by omega) with rfl | rfl | rfl | rfl
  · exact ⟨x, rfl, .inl rfl⟩
  · exact ⟨y, rfl, .inr (.inl rfl)⟩
  · exact ⟨z, rfl, .inr (.inr (.inl rfl))⟩
  · exact ⟨u, rfl, .inr (.inr (.inr rfl))⟩
/-- a draw leaves this behind -/
structure Drew (a c : Addr) (H H' : Hp) : Prop where
  dr : DrawAt H' a c
  kp : Kp a c H H'
  tn : Tn H H'
theorem Drew.trans {a c : Addr} {A B C : Hp} (x : Drew a c A B) (y : Drew a c B C) : Drew a c A C := ⟨y.dr, x.kp.trans y.kp, x.tn.trans y.tn⟩
theorem Drew.same {a c : Addr} {A B C : Hp} (x : Drew a c A B) (y : Same B C) : Drew a c A C := ⟨x.dr.same y, x.kp.trans y.kp, x.tn.trans y.tn⟩
theorem Drew.refl {a c : Addr} {H : Hp} (h : DrawAt H a c) : Drew a c H H := ⟨h, Kp.refl a c H, Tn.refl H⟩
/-- a new object stays through a draw -/
theorem Drew.keep {a c p : Addr} {A B C : Hp} {o : HO} (hA : DrawAt A a c) (hp : A p = none) (hB : B p = some o) (y : Drew a c B C) : C p = some o := by
  obtain ⟨s, i, cells, ha, hc, _⟩ := hA
  exact y.kp p _ hB (ne_of_none ha hp).symm (ne_of_none hc hp).symm
def spMachine : Sp := fun vs H Q _ => ∃ (a c : Addr) (n : Int), vs = [.ref a, .int n] ∧ DrawAt H a c ∧ 3 ≤ n ∧ n ≤ 12 ∧
  ∀ (b s w cc : Int) p H', Mach b s w cc → b ≤ n → Drew a c H H' → H' p = some (.tup [.int b, .int s, .int w, .int cc]) → Q (.ref p) H'
def spLTop (K : PySem.W.Frag) : Sp := fun vs H Q _ => ∃ (m : Addr) (b s w c : Int), vs = [.ref m] ∧ MachAt K H m b s w c ∧ Q (.int (min (w - s) (c - 1))) H
def spStand (K : PySem.W.Frag) : Sp := fun vs H Q _ => ∃ (a c m : Addr) (b s w cc : Int), vs = [.ref a, .ref m] ∧ DrawAt H a c ∧ MachAt K H m b s w cc ∧ Mach b s w cc ∧
  ∀ (S W C : List Int) (p : Int) t H', Stand b s w cc S W C p → Drew a c H H' → StAt K H' t S W C p → Q (.ref t) H'
end My
set_option Elab.async false
set_option linter.all false
set_option maxRecDepth 100000
set_option maxHeartbeats 4000000
/-! turns: the number that comes out -/
namespace My
open PySem PySem.Spec L2 RT Rn
theorem sum_zero {b : Int} {f : Nat → Int} : ∀ {n : Nat}, (∀ k, k < n → f k = 0) → sumN b f n = 0
  | 0, _ => rfl
  | n + 1, h => by
    show sumN b f n + f n * b ^ n = 0
    rw [sum_zero fun k hk => h k (by omega), h n (by omega), Int.zero_mul]
    rfl
theorem sum_add {b : Int} {f : Nat → Int} (P : Nat) : ∀ i : Nat, sumN b f (P + i) = sumN b f P + b ^ P * sumN b (fun k => f (P + k)) i
  | 0 => by show sumN b f P = sumN b f P + b ^ P * 0; rw [Int.mul_zero, Int.add_zero]
  | i + 1 => by
    show sumN b f (P + i) + f (P + i) * b ^ (P + i) = sumN b f P + b ^ P * (sumN b (fun k => f (P + k)) i + f (P + i) * b ^ i)
    rw [sum_add P i, Int.mul_add, Int.pow_add]
    have e : f (P + i) * (b ^ P * b ^ i) = b ^ P * (f (P + i) * b ^ i) := by simp only [Int.mul_comm, Int.mul_left_comm]
    rw [e]
    omega
theorem sum_fN {b p : Int} {S : List Int} {n : Nat} (hn : p.toNat + S.length ≤ n) : sumN b (fN p S) n = val b S * b ^ p.toNat := by
  obtain ⟨r, rfl⟩ : ∃ r, n = p.toNat + (S.length + r) := ⟨n - p.toNat - S.length, by omega⟩
  rw [sum_add, sum_zero (fun k hk => by unfold fN; rw [if_neg (by omega)]), sum_add, Int.zero_add]
  have e1 : sumN b (fun k => fN p S (p.toNat + k)) S.length = val b S := by
    rw [val_all]
    refine sum_congr fun k hk => ?_
    unfold fN
    rw [if_pos (by omega), show p.toNat + k - p.toNat = k by omega]
  have e2 : sumN b (fun k => fN p S (p.toNat + (S.length + k))) r = 0 := sum_zero fun k _ => by
    unfold fN
    rw [if_pos (by omega), List.getD_eq_getElem?_getD, List.getElem?_eq_none (by omega)]
    rfl
  rw [e1, e2, Int.mul_zero, Int.add_zero, Int.mul_comm]
theorem sum_wN (b : Int) (W : List Int) : sumN b (wN W) W.length = val b W := (val_all b W).symm
/-- the wheels' number behind a turn, not cut -/
def whole (b way p : Int) (S W : List Int) : Int := val b W + way * (val b S * b ^ p.toNat)
def wheelsOf (b way p w : Int) (S W : List Int) : List Int := digs b (whole b way p S W % b ^ w.toNat) w.toNat
def countsOf (b tally p c : Int) (C : List Int) : List Int := digs b ((val b C + tally * b ^ p.toNat) % b ^ c.toNat) c.toNat
theorem digs_figs {b : Int} (hb : 0 < b) : ∀ (n : Int) (k : Nat), Figs b (digs b n k)
  | n, 0 => fun d h => (List.not_mem_nil h).elim
  | n, k + 1 => fun d h => by
    rcases List.mem_cons.mp h with e | h
    · rw [e]
      exact ⟨Int.emod_nonneg _ (by omega), Int.emod_lt_of_pos _ hb⟩
    · exact digs_figs hb _ k d h
theorem digs_of_val {b : Int} (hb : 0 < b) {ds : List Int} (h : Figs b ds) : digs b (val b ds) ds.length = ds := by
  have e := digs_val hb 0 ds h
  rw [Int.mul_zero, Int.add_zero] at e
  exact e
theorem val_digs {b : Int} (hb : 0 < b) : ∀ (k : Nat) (n : Int), val b (digs b n k) = n % b ^ k
  | 0, n => by show (0 : Int) = n % b ^ 0; rw [Int.pow_zero, Int.emod_one]
  | k + 1, n => by
    show n % b + b * val b (digs b (n / b) k) = n % b ^ (k + 1)
    have hp := pow_pos hb k
    rw [val_digs hb k, Int.pow_succ]
    have h1 := Int.emod_nonneg (n / b) (show b ^ k ≠ 0 by omega)
    have h2 := Int.emod_lt_of_pos (n / b) hp
    have h3 := Int.emod_nonneg n (show b ≠ 0 by omega)
    have h4 := Int.emod_lt_of_pos n hb
    have e : n = n % b + b * ((n / b) % b ^ k) + (b ^ k * b) * (n / b / b ^ k) := by
      have a1 := Int.emod_add_mul_ediv n b
      have a2 := Int.emod_add_mul_ediv (n / b) (b ^ k)
      have a3 : b * (n / b) = b * ((n / b) % b ^ k) + b * (b ^ k * (n / b / b ^ k)) := by rw [← Int.mul_add, a2]
      have a4 : b * (b ^ k * (n / b / b ^ k)) = (b ^ k * b) * (n / b / b ^ k) := by simp only [Int.mul_comm, Int.mul_left_comm, Int.mul_assoc]
      omega
    have lo : 0 ≤ n % b + b * ((n / b) % b ^ k) := Int.add_nonneg h3 (Int.mul_nonneg (by omega) h1)
    have hi : n % b + b * ((n / b) % b ^ k) < b ^ k * b := by
      have z : b * ((n / b) % b ^ k) ≤ b * (b ^ k - 1) := Int.mul_le_mul_of_nonneg_left (by omega) (by omega)
      rw [Int.mul_sub, Int.mul_one, Int.mul_comm b (b ^ k)] at z
      omega
    generalize hX : n % b + b * ((n / b) % b ^ k) = x at e lo hi ⊢
    rw [e, Int.add_mul_emod_self_left, Int.emod_eq_of_lt lo hi]
/-- the end of a turn's carries, told by the whole number -/
theorem turn_end {b s w c p way : Int} {S W C row : List Int} {d : Nat → Bool} {g : Bool} (hm : Mach b s w c) (hst : Stand b s w c S W C p) (hw : way = 1 ∨ way = -1) (Z : Cs b way w.toNat (wN W) (fN p S) d row []) (hg : g = true ↔ cin d w.toNat = 1) :
    row = wheelsOf b way p w S W ∧ g = decide (¬ InR (b ^ w.toNat) (whole b way p S W)) := by
  have b2 := hm.b0
  have hb : 0 < b := by omega
  have p0 := hst.p0
  have p1 := hst.p1
  have ls := hst.ls
  have lw := hst.lw
  obtain ⟨h1, h2, h3⟩ := Z.done (hst.wn b2 hw)
  have e1 : sumN b (wN W) w.toNat = val b W := by rw [← lw]; exact sum_wN b W
  have s0 := hm.s0
  have e2 : sumN b (fN p S) w.toNat = val b S * b ^ p.toNat := sum_fN (by omega)
  rw [e1, e2] at h2 h3
  refine ⟨?_, ?_⟩
  · have z := digs_of_val hb h1
    rw [Z.len, h2] at z
    exact z.symm
  · cases g with
    | true => exact (decide_eq_true (h3.mp (hg.mp rfl))).symm
    | false =>
      refine (decide_eq_false fun hn => ?_).symm
      have := hg.mpr (h3.mpr hn)
      cases this
theorem Stand.turned {b s w c p way tally : Int} {S W C : List Int} (hm : Mach b s w c) (T : Stand b s w c S W C p) : Stand b s w c S (wheelsOf b way p w S W) (countsOf b tally p c C) p := by
  have b2 := hm.b0
  exact ⟨T.ls, digs_len _ _ _, digs_len _ _ _, T.fs, digs_figs (by omega) _ _, digs_figs (by omega) _ _, T.p0, T.p1, T.p2⟩
theorem pow_small {b : Int} (h : 0 < b) (h2 : b ≤ 16) {k : Nat} (hk : k ≤ 15) : 0 < b ^ k ∧ b ^ k < 2 ^ 61 := by
  have h1 := pow_pos h k
  have h3 := pow_bits h h2 k
  have h4 : (2 : Nat) ^ (4 * k + 1) ≤ 2 ^ 61 := Nat.pow_le_pow_right (by decide) (by omega)
  exact ⟨h1, by omega⟩
def spPPower : Sp := spPower
def spCounted (K : PySem.W.Frag) : Sp := fun vs H Q _ => ∃ (m t : Addr) (b s w c p tally : Int) (S W C : List Int), vs = [.ref m, .ref t, .int tally] ∧ MachAt K H m b s w c ∧ Mach b s w c ∧ StAt K H t S W C p ∧ Stand b s w c S W C p ∧ -1 ≤ tally ∧ tally ≤ 1 ∧ NewT H Q (countsOf b tally p c C)
/-- a stand and whether the bell rang, new at z -/
def Told2 (K : PySem.W.Frag) (H : Hp) (z : Addr) (S W C : List Int) (p : Int) (g : Bool) : Prop := ∃ t, H z = some (.tup [.ref t, .bl g]) ∧ StAt K H t S W C p
def spTurned (K : PySem.W.Frag) : Sp := fun vs H Q _ => ∃ (m t : Addr) (b s w c p way tally : Int) (S W C : List Int), vs = [.ref m, .ref t, .int way, .int tally] ∧ MachAt K H m b s w c ∧ Mach b s w c ∧ StAt K H t S W C p ∧ Stand b s w c S W C p ∧ (way = 1 ∨ way = -1) ∧ -1 ≤ tally ∧ tally ≤ 1 ∧
  ∀ z H', Same H H' → Told2 K H' z S (wheelsOf b way p w S W) (countsOf b tally p c C) p (decide (¬ InR (b ^ w.toNat) (whole b way p S W))) → Q (.ref z) H'
def spDone2 (K : PySem.W.Frag) : Sp := fun vs H Q _ => ∃ (m t d : Addr) (b s w c p way tally : Int) (S W C : List Int), vs = [.ref m, .ref t, .ref d] ∧ SqT K H d [.str "turn", .int way, .int tally] ∧ MachAt K H m b s w c ∧ Mach b s w c ∧ StAt K H t S W C p ∧ Stand b s w c S W C p ∧ (way = 1 ∨ way = -1) ∧ -1 ≤ tally ∧ tally ≤ 1 ∧
  ∀ z H', Same H H' → Told2 K H' z S (wheelsOf b way p w S W) (countsOf b tally p c C) p (decide (¬ InR (b ^ w.toNat) (whole b way p S W))) → Q (.ref z) H'
def spDue2 (K : PySem.W.Frag) : Sp := fun vs H Q _ => ∃ (m t : Addr) (b s w c p way tally : Int) (S W C : List Int), vs = [.ref m, .ref t, .int way, .int tally] ∧ MachAt K H m b s w c ∧ Mach b s w c ∧ StAt K H t S W C p ∧ Stand b s w c S W C p ∧ (way = 1 ∨ way = -1) ∧ -1 ≤ tally ∧ tally ≤ 1 ∧
  ∀ z H', Same H H' → Told2 K H' z S (wheelsOf b way p w S W) (countsOf b tally p c C) p (decide (¬ InR (b ^ w.toNat) (whole b way p S W))) → Q (.ref z) H'
/-- a stand as data -/
def stD (S W C : List Int) (p : Int) : PyData := .tuple [.tuple (S.map .int), .int p, .tuple (W.map .int), .tuple (C.map .int)]
def toldD (S W C : List Int) (p : Int) (g : Bool) : PyData := .tuple [stD S W C p, .bool g]
theorem stD_lays (S W C : List Int) (p : Int) : lays (stD S W C p) 3 := lays.tup (.cons (lays.tup (laysAll.ints S)) (.cons ((lays.int p).mono (by decide)) (.cons (lays.tup (laysAll.ints W)) (.cons (lays.tup (laysAll.ints C)) .nil))))
theorem toldD_lays (S W C : List Int) (p : Int) (g : Bool) : lays (toldD S W C p g) 4 := lays.tup (.cons (stD_lays S W C p) (.cons ((lays.bool g).mono (by decide)) .nil))
theorem StAt.dp {K : PySem.W.Frag} {H : Hp} {t : Addr} {S W C : List Int} {p : Int} (h : StAt K H t S W C p) : Dp K H (.ref t) (stD S W C p) := by
  obtain ⟨a1, a2, a3, h0, h1, h2, h3⟩ := h
  exact .tup h0 (.cons (dp_ints h1) (.cons (.int p) (.cons (dp_ints h2) (.cons (dp_ints h3) .nil))))
theorem Told2.dp {K : PySem.W.Frag} {H : Hp} {z : Addr} {S W C : List Int} {p : Int} {g : Bool} (h : Told2 K H z S W C p g) : Dp K H (.ref z) (toldD S W C p g) := by
  obtain ⟨t, h0, h1⟩ := h
  exact .tup (SqT.of h0) (.cons h1.dp (.cons (.bl g) .nil))
theorem Told2.same {K : PySem.W.Frag} {H H' : Hp} {z : Addr} {S W C : List Int} {p : Int} {g : Bool} (h : Told2 K H z S W C p g) (e : Same H H') : Told2 K H' z S W C p g := by
  obtain ⟨t, h0, h1⟩ := h
  exact ⟨t, e _ _ h0, h1.tn e.tn⟩
theorem whole_back {b way p w : Int} {S W : List Int} (hb : 0 < b) (lw : W.length = w.toNat) (fw : Figs b W) :
    wheelsOf b (0 - way) p w S (wheelsOf b way p w S W) = W ∧ (InR (b ^ w.toNat) (whole b (0 - way) p S (wheelsOf b way p w S W)) ↔ InR (b ^ w.toNat) (whole b way p S W)) := by
  have hp := pow_pos hb w.toNat
  obtain ⟨v0, v1⟩ := val_bounds hb W fw
  rw [lw] at v1
  have e1 : val b (wheelsOf b way p w S W) = whole b way p S W % b ^ w.toNat := by
    unfold wheelsOf
    rw [val_digs hb, Int.emod_emod_of_dvd _ (Int.dvd_refl _)]
  have hd := Int.emod_add_mul_ediv (whole b way p S W) (b ^ w.toNat)
  have e2 : whole b (0 - way) p S (wheelsOf b way p w S W) = val b W - b ^ w.toNat * (whole b way p S W / b ^ w.toNat) := by
    have z : whole b (0 - way) p S (wheelsOf b way p w S W) = val b (wheelsOf b way p w S W) + (0 - way) * (val b S * b ^ p.toNat) := rfl
    have z2 : whole b way p S W = val b W + way * (val b S * b ^ p.toNat) := rfl
    rw [z, e1, Int.sub_mul, Int.zero_mul]
    omega
  refine ⟨?_, ?_⟩
  · show digs b (whole b (0 - way) p S (wheelsOf b way p w S W) % b ^ w.toNat) w.toNat = W
    rw [e2, Int.sub_mul_emod_self_left, Int.emod_eq_of_lt v0 v1, ← lw]
    exact digs_of_val hb fw
  · rw [e2]
    have h1 := Int.emod_nonneg (whole b way p S W) (show b ^ w.toNat ≠ 0 by omega)
    have h2 := Int.emod_lt_of_pos (whole b way p S W) hp
    generalize hx : whole b way p S W = x at hd h1 h2 ⊢
    generalize hy : b ^ w.toNat = y at hp v1 hd h1 h2 ⊢
    generalize hq : x / y = q at hd ⊢
    have hq0 : q = 0 ∨ y ≤ y * q ∨ y * q ≤ -y := by
      rcases Int.lt_trichotomy q 0 with h | h | h
      · right; right
        have := Int.mul_le_mul_of_nonneg_left (show q ≤ -1 by omega) (Int.le_of_lt hp)
        rw [Int.mul_neg, Int.mul_one] at this
        exact this
      · exact .inl h
      · right; left
        have := Int.mul_le_mul_of_nonneg_left (show 1 ≤ q by omega) (Int.le_of_lt hp)
        rw [Int.mul_one] at this
        exact this
    unfold InR
    rcases hq0 with h | h | h
    · subst h
      rw [Int.mul_zero] at hd ⊢
      omega
    · omega
    · omega
theorem counts_back {b tally p c : Int} {C : List Int} (hb : 0 < b) (lc : C.length = c.toNat) (fc : Figs b C) : countsOf b (0 - tally) p c (countsOf b tally p c C) = C := by
  have hp := pow_pos hb c.toNat
  obtain ⟨v0, v1⟩ := val_bounds hb C fc
  rw [lc] at v1
  have e1 : val b (countsOf b tally p c C) = (val b C + tally * b ^ p.toNat) % b ^ c.toNat := by
    unfold countsOf
    rw [val_digs hb, Int.emod_emod_of_dvd _ (Int.dvd_refl _)]
  show digs b ((val b (countsOf b tally p c C) + (0 - tally) * b ^ p.toNat) % b ^ c.toNat) c.toNat = C
  rw [e1, Int.emod_add_emod, Int.sub_mul, Int.zero_mul, show val b C + tally * b ^ p.toNat + (0 - tally * b ^ p.toNat) = val b C by omega, Int.emod_eq_of_lt v0 v1, ← lc]
  exact digs_of_val hb fc
end My
set_option Elab.async false
set_option linter.all false
set_option maxRecDepth 100000
set_option maxHeartbeats 8000000
/-! set(list of ints), its sorted list; list(reversed(range)) -/
namespace L2
open PySem PySem.Spec PyProof.Rows
/-- a set just made -/
def bareSet (w : World) : Obj := { cls := .type "set", dict := none, data := .set #[] 0 (.fresh 0 0 (!w.params.followText "set-order")) }
theorem set_of_list {P : Program} {w : World} {A : Around} {E : Value → Shared → Prop} {s : Shared} {q : Addr} {vs : Array Value} (ms : List Int) {Q : Value → Shared → Prop} (calm : A.handled = none) (hq : s.heap.IsList q vs) (nums : IntsAre vs.toList ms) (few : ms.length + 1 < scanBound)
    (fin : ∀ (g : Heap) (tk c : Nat), SetR w g s.heap.objs.size (fun j => decide (j ∈ ms)) c → c ≤ ms.length → (∀ b o, s.heap.get? b = some o → g.get? b = some o) → Q (.ref s.heap.objs.size) { s with heap := g, toks := tk }) :
    wpAny (model P w) A (call (.type "set") [.ref q]) Q E s := by
  have size : vs.size = ms.length := by have z := IntsAre.length nums; rw [Array.length_toList] at z; exact z
  obtain ⟨c0, tl0, mro0⟩ := F.called_set.mro
  have made0 := F.called_set.made
  have sub0 := F.called_set.sub
  refine wpAny_call (codeAny_of_tree ?_); show wpAny _ _ (callAny (.type "set") _) _ _ _
  refine wpAny_pure ⟨Code.quiet_builtin _ (by decide +kernel), codeAny_builtin F.entry_type_call ?_⟩; rw [Around.under_plain (weight_type_call_type "set" [.ref q] []) rfl]
  have t1 := F.called_set.notType
  have t2 := F.called_set.canCreate
  have t3 := F.typeCall_set_1 (.ref q)
  repeat (any_goals (first | assumption | wp_step))
  refine codeAny_mono (code_set_led1 (.ref q) (E := E) (Q₁ := fun ob s1 => ob = .ref s.heap.objs.size ∧ s1 = { s with heap := s.heap.push (bareSet w) }) ⟨rfl, rfl⟩) fun r s1 hr => ?_
  match r, hr with
  | .error e, hr => exact hr
  | .ok (.ret ob), hr =>
    obtain ⟨rfl, rfl⟩ := hr
    have there : (s.heap.push (bareSet w)).get? s.heap.objs.size = some (bareSet w) := Heap.get?_push_size _ rfl
    have isSet : Shared.TypeIs { s with heap := s.heap.push (bareSet w) } (.ref s.heap.objs.size) "set" := ⟨_, there, rfl⟩
    have t4 := F.called_set.init.lookup
    have t5 := F.called_set.init.bind (.ref s.heap.objs.size)
    repeat (any_goals (first | assumption | wp_step))
    refine codeAny_mono (codeAny_call_builtin (R := wants (fun r s2 => r = .none ∧ ∃ g tk c, s2 = { s with heap := g, toks := tk } ∧ SetR w g s.heap.objs.size (fun j => decide (j ∈ ms)) c ∧ c ≤ ms.length ∧ ∀ b o, s.heap.get? b = some o → g.get? b = some o) E)
      F.called_set.init.plain F.entry_set_init (check_set_init_1 isSet ?_)) fun r2 s2 hr2 => ?_
    · obtain ⟨⟨oc, od, odt, osl⟩, ho, hcl, n1, hdt⟩ := hq
      simp only at hcl hdt
      subst hcl; subst hdt
      have ho2 : (s.heap.push (bareSet w)).get? q = some { cls := .type "list", dict := od, data := .seq vs n1, slots := osl } := Heap.get?_push_of_some _ ho
      have u1 := F.sub_list_set
      have u2 := F.sub_list_frozenset
      have u3 : (Value.type "list" == Value.type "dict") = false := by decide
      have lst1 : (s.heap.push (bareSet w)).IsList q vs := ⟨_, ho2, rfl, n1, rfl⟩
      unfold Builtin.«set.__init__» noKeywords Builtin.Frozenset.updateFrom
      generalize ePI : pyIter = PI
      wp_walk
      subst ePI
      refine wpAny_pyIter_list lst1 (wpAny_bind (wpAny_runValue ?_))
      have qs : q < s.heap.objs.size := Heap.lt_size ho
      have calm3 : A.in1.in1.in1.handled = none := by simp [calm]
      have sz1 : (s.heap.push (bareSet w)).objs.size = s.heap.objs.size + 1 := Heap.size_push ..
      have qI : q ≠ (s.heap.push (bareSet w)).objs.size := by rw [sz1]; exact Nat.ne_of_lt (Nat.lt_succ_of_lt qs)
      have out : s.heap.objs.size ∉ [(s.heap.push (bareSet w)).objs.size, q] := by
        rw [sz1]
        intro z
        rcases List.mem_cons.mp z with z | z
        · exact Nat.ne_of_lt (Nat.lt_succ_self _) z
        · exact Nat.ne_of_gt qs (List.mem_singleton.mp z)
      have each : ∀ (i : Nat) (v : Value), vs[i]? = some v → ∃ k t, ms[i]? = some k ∧ v = .int k t := fun i v hv => by
        have li : i < ms.length := by rw [← size]; exact (Array.getElem?_eq_some_iff.mp hv).1
        obtain ⟨t, e⟩ := PyProof.Rows.IntsAre.int_at nums i v (by rw [Array.getElem?_toList]; exact hv)
        exact ⟨ms[i], t, List.getElem?_eq_getElem li, by rw [e, List.getD_eq_getElem?_getD, List.getElem?_eq_getElem li] <;> rfl⟩
      refine set_update_ints ((Walks.list calm3 _ q qI vs).toS) s.heap.objs.size out ms size few each (vs.size - 0) 0 _ (by omega) (Nat.zero_le _) ⟨⟨_, Heap.get?_push_size _ rfl, rfl, rfl⟩, (lst1.push _)⟩ ?start ?stop
      case start => exact ⟨0, Nat.le_refl 0, setR_new_at (Heap.get?_push_of_some _ there)⟩
      case stop =>
        intro s3 c3 mv lc set3
        obtain ⟨g3, ge3, dr3, tk3, os3⟩ := s3
        obtain rfl : ge3 = s.gens := mv.gens
        obtain rfl : dr3 = s.drawn := mv.drawn
        obtain rfl : os3 = s.os := mv.os
        show wpAny _ _ _ _ _ _
        refine wpAny_pure ?_
        show wpAny _ _ (ret Value.none) _ _ _
        rw [size] at lc
        refine wpAny_pure ⟨rfl, g3, tk3, c3, rfl, set3, lc, fun b o e => mv.heap b o (fun z => ?_) (Heap.get?_push_of_some _ (Heap.get?_push_of_some _ e))⟩
        have lb : b < s.heap.objs.size := Heap.lt_size e
        rcases List.mem_cons.mp z with z | z
        · exact Nat.ne_of_lt lb z
        · have z2 := List.mem_singleton.mp z
          rw [sz1] at z2
          exact Nat.ne_of_lt (Nat.lt_succ_of_lt lb) z2
    · match r2, hr2 with
      | .error e, hr2 => exact hr2
      | .ok (.ret r), hr2 =>
        obtain ⟨rfl, g3, tk3, c3, rfl, set3, lc, kp3⟩ := hr2
        repeat (any_goals (first | assumption | wp_step))
        exact fin _ _ _ set3 lc kp3
      | .ok .next, hr2 => exact hr2.elim
      | .ok .brk, hr2 => exact hr2.elim
      | .ok .cont, hr2 => exact hr2.elim
  | .ok .next, hr => exact hr.elim
  | .ok .brk, hr => exact hr.elim
  | .ok .cont, hr => exact hr.elim
def rSetL1 (K : PySem.W.Frag) (w : World) : List V → Hp → VK → Prop := fun xs H Q => ∃ (p : Addr) (ns : List Int), xs = [.ref p] ∧ SqL K H p (ns.map V.int) ∧ ns.length ≤ 1000 ∧ ∀ (a : Addr) (n : Nat), n ≤ ns.length → H a = none → Q (.ref a) (upd H a (SetO w a (fun j => decide (j ∈ ns)) n))
theorem call_setL {X : Cx} (K : PySem.W.Frag) (eK : X.K = K) (w : World) (ew : X.w = w) (hc : X.calm = true) : CallR X (.type "set") (rSetL1 K w) := by
  subst eK ew
  intro pins s σ H xs us Q I r h
  obtain ⟨p, ns, rfl, hl, hn, q⟩ := h
  obtain ⟨u, rfl, ru⟩ := vals1 r
  obtain rfl : u = .ref p := ru
  obtain ⟨its, rv, pl, hz⟩ := I.list hl
  refine set_of_list ns (I.ok.hd hc) pl.isList (by simpa using Vals.ints rv) (Nat.lt_of_le_of_lt (Nat.succ_le_succ hn) (by decide)) fun g tk c hS hcn kp => ?_
  have J : Inv X pins σ (upd H s.heap.objs.size (SetO X.w s.heap.objs.size (fun j => decide (j ∈ ns)) c)) { s with heap := g, toks := tk } :=
    I.laid kp (Nat.le_refl _) (setO_new hS)
  exact ⟨.ref _, _, J, rfl, q _ c hcn (I.hok.fresh (Nat.le_refl _))⟩
end L2
set_option Elab.async false
set_option linter.all false
set_option maxRecDepth 100000
set_option maxHeartbeats 8000000
/-! list(reversed(range(..))) -/
namespace PySem
open Sem (wp)
section
variable {prog : Program} {w : World} {A : Around} {E : Value → Shared → Prop} {s : Shared}
theorem ri_nolen : typeLookup (.type "range_iterator") "__len__" = pure none := by rw [typeLookup_type, builtinLookup_eq_fast]; kernel_rfl
theorem ri_hint_call {it : Addr} {x n c : Int} {Q : Value → Shared → Prop} (hit : IsRangeIter s.heap it x n c) (h : Q (.int n s.toks) { s with toks := s.toks + 1 }) : wpAny (model prog w) A (call (.builtin "range_iterator.__length_hint__") [.ref it]) Q E s := by
  have ty : s.TypeIs (.ref it) "range_iterator" := ⟨_, hit, rfl⟩
  refine wpAny_call_entry F.slot_range_iterator_length_hint ty F.entry_range_iterator_length_hint ?_ (F.args_range_iterator_length_hint_1 _)
  obtain ⟨hp, g, d, tk, os⟩ := s
  unfold Builtin.«range_iterator.__length_hint__»
  refine wpAny_bind (wpAny_of_eq (a := Value.ref it) (by first | rfl | kernel_rfl) ?_)
  refine wpAny_bind (wpAny_field hit rfl (x := rawInt n) rfl ?_)
  show wpAny _ _ (retInt n) _ _ _
  wp_walk
  exact ⟨_, rfl, h⟩
theorem ri_hint {it : Addr} {x c : Int} {n : Nat} {Q : Bool → Shared → Prop} (hit : IsRangeIter s.heap it x n c) (hn : n ≤ 2 ^ 24) (h : Q false { s with toks := s.toks + 1 }) : wpAny (model prog w) A (Builtin.List.listLengthHint (.ref it)) Q E s := by
  have ty : s.TypeIs (.ref it) "range_iterator" := ⟨_, hit, rfl⟩
  unfold Builtin.List.listLengthHint
  refine wpAny_bind (wpAny_specialOf ty ri_nolen ?_)
  show wpAny _ A (specialOf (Value.ref it) (Str.ofString "__length_hint__") >>= _) _ _ _
  refine wpAny_bind (wpAny_specialOf ty F.slot_range_iterator_length_hint.lookup ?_)
  generalize eid : ("range_iterator.__length_hint__" : String) = id0
  wp_delta
  rw [show splitId id0 = some ("range_iterator", "__length_hint__") from by subst eid; decide +kernel]
  subst eid
  refine wpAny_bind (wpAny_isInstance (b := true) ty (by rw [isSubtype_type]; kernel_rfl) ?_)
  refine wpAny_ite_split (fun z => absurd z (by decide)) (fun _ => ?_)
  refine wpAny_ite_split (fun _ => ?_) (fun z => absurd (show _ from by decide +kernel) z)
  refine wpAny_ite_split (fun _ => ?_) (fun z => absurd (show _ from by decide +kernel) z)
  refine wpAny_bind (ri_hint_call hit ?_)
  have small : Builtin.List.listTooLong ((n : Int).toNat) = false := by simp [Builtin.List.listTooLong, sizeLine]; omega
  refine wpAny_bind (m := asInt? _) (wpAny_pure ?_)
  exact wpAny_ite_split (fun z => absurd z (by rw [small]; decide)) (fun _ => wpAny_pure h)
theorem list_init_ri {R : Result → Shared → Prop} {it S : Addr} {x c : Int} {n : Nat} (calm : A.handled = none) (hit : IsRangeIter s.heap it x n c) (hn : n ≤ 2 ^ 24) (hS : s.heap.get? S = some { cls := .type "list", data := .seq #[] }) (hne : S ≠ it)
    (fin : ∀ g tk acc c1, (∀ b o, b ≠ S → b ≠ it → s.heap.get? b = some o → g.get? b = some o) → g.get? S = some { cls := .type "list", dict := none, data := .seq acc c1, slots := #[] } → ItemsOf (fun i v => ∃ t, v = .int (x + i * c) t) acc n → R (.ok (.ret .none)) { s with heap := g, toks := tk }) :
    wpAny (model prog w) A.in1 (Builtin.«list.__init__» ⟨[.ref S, .ref it], []⟩)
      (fun f s' => match f with | .done f => R (.ok f) s' | .again c' => c'.quiet = true ∧ codeAny (model prog w) A c' R s') (fun e s' => R (.error e) s') s := by
  show wpAny _ _ (do let old ← Builtin.List.listItems (.ref S); Builtin.List.listUpdate (.ref S) (fun _ => #[]); letGo old.toList.reverse; Builtin.List.listExtendWith (.ref S) (.ref it) .none) _ _ s
  refine wpAny_bind ?_
  unfold Builtin.List.listItems
  refine wpAny_bind (wpAny_seqItems hS rfl (wpAny_pure ?_)); show wpAny _ _ (updateSeq S (fun _ => #[]) >>= fun _ => letGo (#[] : Array Value).toList.reverse >>= fun _ => Builtin.List.listExtendWith (.ref S) (.ref it) .none) _ _ s
  refine wpAny_bind (wpAny_updateSeq hS rfl ?_)
  have S2 := Heap.get?_update_self (Obj.mapSeq (fun _ => (#[] : Array Value))) hS rfl
  have oth : ∀ b o, b ≠ S → s.heap.get? b = some o → (s.heap.update S (Obj.mapSeq (fun _ => (#[] : Array Value)))).get? b = some o := fun b o hb e => (Heap.get?_update_other _ _ (Ne.symm hb)).trans e
  have it2 : IsRangeIter (s.heap.update S (Obj.mapSeq (fun _ => (#[] : Array Value)))) it x n c := oth it _ (Ne.symm hne) hit
  refine wpAny_bind (wpAny_letGo ?_)
  generalize s.heap.update S (Obj.mapSeq (fun _ => (#[] : Array Value))) = h2 at S2 oth it2 ⊢
  unfold Builtin.List.listExtendWith
  have ty : ({ s with heap := h2 } : Shared).TypeIs (.ref it) "range_iterator" := ⟨_, it2, rfl⟩
  refine wpAny_bind (wpAny_typeOf ty ?_)
  have e1 : Builtin.List.listSameRef (.ref S) (.ref it) = false := by simp [Builtin.List.listSameRef, hne]
  rw [if_neg (by rw [e1]; decide)]
  refine wpAny_bind (wpAny_pyIter_rangeiter (s := { s with heap := h2 }) it2 ?_)
  refine wpAny_bind (wpAny_holding (ri_hint (s := { s with heap := h2 }) it2 hn ?_))
  rw [if_neg (by decide)]
  have out : S ∉ [it] := fun z => hne (List.mem_singleton.mp z)
  have W := (Walks.range (prog := prog) (w := w) (A := A.in1) calm it x c n).toS
  refine wpAny_pure ⟨plainId_quiet F.plain_extend_loop _, codeAny_extend_loopS W (by rw [sizeLine_eq]; omega) S out .none n 0 _ #[] _ rfl (Nat.zero_le _) ?_ S2 (ItemsOf.nil _) fun s3 acc c3 mv S3 its => ?_⟩
  · show IsRangeIter h2 it (x + ((0 : Nat) : Int) * c) ((n : Int) - ((0 : Nat) : Int)) c
    have z1 : x + ((0 : Nat) : Int) * c = x := by rw [show ((0 : Nat) : Int) = 0 from rfl, Int.zero_mul, Int.add_zero]
    have z2 : (n : Int) - ((0 : Nat) : Int) = n := by omega
    rw [z1, z2]
    exact it2
  · rw [Moved.eq_with mv]
    refine fin s3.heap s3.toks acc c3 (fun b o h1 h2 e => mv.heap b o (fun z => ?_) (oth b o h1 e)) S3 its
    rcases List.mem_cons.mp z with z | z
    · exact h1 z
    · exact h2 (List.mem_singleton.mp z)
theorem list_of_ri {Q : Value → Shared → Prop} {it : Addr} {x c : Int} {n : Nat} (calm : A.handled = none) (hit : IsRangeIter s.heap it x n c) (hn : n ≤ 2 ^ 24)
    (fin : ∀ g tk acc c1, (∀ b o, b ≠ it → s.heap.get? b = some o → g.get? b = some o) → g.get? s.heap.objs.size = some { cls := .type "list", dict := none, data := .seq acc c1, slots := #[] } → ItemsOf (fun i v => ∃ t, v = .int (x + i * c) t) acc n → Q (.ref s.heap.objs.size) { s with heap := g, toks := tk }) :
    wpAny (model prog w) A (call (.type "list") [.ref it]) Q E s := by
  refine callType_codes (Q₁ := fun ob s1 => ob = .ref s.heap.objs.size ∧ s1 = { s with heap := s.heap.push { cls := .type "list", data := .seq #[] } }) F.called_list (F.typeCall_list_1 _) F.entry_list_init (code_list_new _ ⟨rfl, rfl⟩) fun ob s1 h1 => ?_
  obtain ⟨rfl, rfl⟩ := h1
  have S1 : (s.heap.push { cls := .type "list", data := .seq #[] }).get? s.heap.objs.size = some { cls := .type "list", data := .seq #[] } := Heap.get?_push_size _ rfl
  have lt : it < s.heap.objs.size := Heap.lt_size hit
  refine ⟨⟨_, S1, rfl⟩, F.args_list_init_2 _ _, list_init_ri (A := A.in1) (x := x) (c := c) (n := n) calm (Heap.get?_push_of_some _ hit) hn S1 (Nat.ne_of_gt lt) fun g tk acc c1 kp S2 its => ?_⟩
  exact ⟨rfl, fin g tk acc c1 (fun b o h1 e => kp b o (Nat.ne_of_lt (Heap.lt_size e)) h1 (Heap.get?_push_of_some _ e)) S2 its⟩
end
end PySem

namespace L2
open PySem PySem.Spec PyProof.Rows
/-- the numbers of a range from its end -/
def rgDown (n : Nat) : List Int := (List.range n).map fun i => ((n : Int) - 1 + (i : Nat) * (-1))
def tLstRev (tr : St → Hp → (Int → Int → Hp → Prop) → Prop) : TE := fun σ H Q => tr σ H fun a b H1 => a = 0 ∧ 0 ≤ b ∧ b ≤ 1000 ∧ ∀ q, H1 q = none → Q (.ref q) (upd H1 q (.lst ((rgDown b.toNat).map V.int)))
theorem pe_lstRev {X : Cx} {e : Expr} {tr : St → Hp → (Int → Int → Hp → Prop) → Prop} {p p2 pos pos2 : Pos} (hc : X.calm = true) (hg : Gl X "list") (hm : X.mg "list" = none) (hg2 : Gl X "reversed") (hm2 : X.mg "reversed" = none) (he : PRg X e tr)
    (na : starEach [e] X.env = (false, eval e X.env) :: starEach [] X.env := by rfl) (na2 : starEach [Expr.Call (.Name "reversed" p2) [e] [] pos2] X.env = (false, eval (.Call (.Name "reversed" p2) [e] [] pos2) X.env) :: starEach [] X.env := by rfl) :
    PE X (.Call (.Name "list" p) [.Call (.Name "reversed" p2) [e] [] pos2] [] pos) (tLstRev tr) := by
  refine ⟨fun pins s σ H Q I h => ?_⟩
  have b1 : bootBuiltins ("list" : Str) = some (.type "list") := by decide +kernel
  have b2 : bootBuiltins ("reversed" : Str) = some (.type "reversed") := by decide +kernel
  refine Call_ (ld_blt I hg hm b1 (PyProof.Rows.callWith_type1 (args_cons (Call_ (ld_blt I hg2 hm2 b2 (PyProof.Rows.callWith_type1 (args_cons (thn (he pins s σ H _ I h) fun u s1 hx => args_nil ?_) na) na rfl))) na2) na2 rfl))
  obtain ⟨r, a, b, t, w1, v, H1, eu, hr, I1, ea, h0, h1, q⟩ := hx
  subst eu ea
  have hn : Builtin.Range.rangeSize 0 b 1 = ((b.toNat : Nat) : Int) := by rw [rangeSize_nat 0 b, Int.sub_zero]
  refine call_reversed_range hr (smallRev_one (by decide) (by decide) (by omega) (by omega)) ?_
  refine args_nil ?_
  have hit : IsRangeIter (s1.heap.push (rngRevObj 0 b 1)) s1.heap.objs.size ((b.toNat : Int) - 1) (b.toNat : Nat) (-1) := by
    have e1 : ((b.toNat : Nat) : Int) - 1 = 0 + (Builtin.Range.rangeSize 0 b 1 - 1) * 1 := by rw [hn]; omega
    show IsRangeIter _ _ (((b.toNat : Nat) : Int) - 1) ((b.toNat : Nat) : Int) (-1)
    rw [e1, ← hn]
    exact Heap.get?_push_size _ rfl
  refine list_of_ri (s := { s1 with heap := s1.heap.push (rngRevObj 0 b 1) }) (I1.ok.hd hc) hit (by omega) fun g tk acc c1 kp hS its => ?_
  have kp2 : ∀ b' o, s1.heap.get? b' = some o → g.get? b' = some o := fun b' o e => kp b' o (Nat.ne_of_lt (Heap.lt_size e)) (Heap.get?_push_of_some _ e)
  have lenA : acc.toList.length = b.toNat := by rw [Array.length_toList]; exact its.1
  have eqV : (rgDown b.toNat).map V.int = (List.range acc.toList.length).map fun i => V.int ((b.toNat : Int) - 1 + (i : Nat) * (-1)) := by
    unfold rgDown
    rw [lenA, List.map_map]
    rfl
  have rv : Vals ((rgDown b.toNat).map V.int) acc.toList := by
    rw [eqV]
    refine vals_of_get _ _ fun j u hu => ?_
    rw [Array.getElem?_toList] at hu
    exact its.2 j u hu
  have hlen : ((rgDown b.toNat).map V.int).length ≤ sizeLine := by rw [eqV, List.length_map, List.length_range, lenA, sizeLine_eq]; omega
  refine ⟨.ref _, upd H1 _ (.lst ((rgDown b.toNat).map V.int)), I1.laid kp2 (Nat.le_of_lt (by rw [Heap.size_push]; exact Nat.lt_succ_self _)) (show ObjOk X.prog X.w _ _ _ (.lst _) from ⟨hlen, acc.toList, c1, rv, ?_⟩), rfl, q _ (I1.hok.fresh (Nat.le_of_lt (by rw [Heap.size_push]; exact Nat.lt_succ_self _)))⟩
  rw [Array.toArray_toList]
  exact hS
end L2
set_option Elab.async false
set_option linter.all false
set_option maxRecDepth 100000
set_option maxHeartbeats 4000000
/-! k01: carries in any order -/
namespace Rn
open PySem PySem.Spec L2
section
variable {K : PySem.W.Frag} {H : Hp} {Q : VK} {w : World}
theorem w_neB {a b : Bool} (h : Q (.bl (a != b)) H) : uNe K (.bl a) (.bl b) H Q := .inl ⟨rfl, by
  have e : (!decide (V.bl a = V.bl b)) = (a != b) := by cases a <;> cases b <;> rfl
  rw [e]
  exact h⟩
theorem w_eqLI {a b : Addr} {xs ys : List Int} (ha : SqL K H a (xs.map V.int)) (hb : SqL K H b (ys.map V.int)) (h : Q (.bl (decide (xs = ys))) H) : uEq K (.ref a) (.ref b) H Q :=
  w_eqD (.lst ha (DpAll.ints xs)) (.lst hb (DpAll.ints ys)) shaped_list shaped_list (by rw [eqv_listI]; exact h)
theorem w_setOf {p : Addr} {ns : List Int} (hl : SqL K H p (ns.map V.int)) (hn : ns.length ≤ 63) (h : ∀ a n H', n ≤ ns.length → Same H H' → H' a = some (SetO w a (fun j => decide (j ∈ ns)) n) → Q (.ref a) H') : rSetL1 K w [.ref p] H Q :=
  ⟨p, ns, rfl, hl, by omega, fun a n hn' e => h a n _ hn' (Same.new e) upd_same⟩
theorem w_srtS {a : Addr} {ns : List Int} {n : Nat} (ha : H a = some (SetO w a (fun j => decide (j ∈ ns)) n)) (hn : n < 64) (h : ∀ (ms : List Int) p H', ms.Pairwise (· < ·) → (∀ k : Int, k ∈ ms ↔ k ∈ ns) → Same H H' → H' p = some (.lst (ms.map V.int)) → Q (.ref p) H') : rSortedSet w [.ref a] H Q :=
  ⟨a, _, n, rfl, ha, hn, fun ms p e1 e2 _ e3 => h ms p _ e1 (fun k => by rw [e2 k, decide_eq_true_eq]) (Same.new e3) upd_same⟩
theorem w_notIn {σ : St} {i j : Nat} {x y : Int} (hi : σ[i]? = some (some (.int x))) (hj : σ[j]? = some (some (.int y))) (h : Q (.bl (decide (¬ (0 ≤ x ∧ x < y)))) H) :
    tNotV (tChain (rI0 fun i j => V.bl (decide (i ≤ j))) (rI0 fun i j => V.bl (decide (i < j))) (tC (V.int 0)) (tVar i) (tVar j)) σ H Q := by
  refine w_notV (w_chain (w_c (w_var hi (w_I0 (w_bl ?_)))))
  by_cases h1 : 0 ≤ x
  · refine w_iteD h1 (w_var hj (w_I0 (w_bl ?_)))
    have e : (!decide (x < y)) = decide (¬ (0 ≤ x ∧ x < y)) := by
      by_cases h2 : x < y
      · simp [h1, h2]
      · simp [h1, h2]
    rw [e]
    exact h
  · refine w_iteE h1 (w_bl ?_)
    have e : (!false) = decide (¬ (0 ≤ x ∧ x < y)) := by simp [h1]
    rw [e]
    exact h
def LRevQ (Q : VK) : VK := fun x H1 => ∃ n, x = .int n ∧ (0 : Int) = 0 ∧ 0 ≤ n ∧ n ≤ 1000 ∧ ∀ q, H1 q = none → Q (.ref q) (upd H1 q (.lst ((rgDown n.toNat).map V.int)))
theorem w_lrev {ta : TE} {σ : St} (h : ta σ H (LRevQ Q)) : tLstRev (tRg1 ta) σ H Q := h
theorem w_lrevI {n : Int} (h0 : 0 ≤ n ∧ n ≤ 1000) (h : ∀ p H', H p = none → Same H H' → H' p = some (.lst ((rgDown n.toNat).map V.int)) → Q (.ref p) H') : LRevQ Q (.int n) H := ⟨n, rfl, rfl, h0.1, h0.2, fun q hq => h q _ hq (Same.new hq) upd_same⟩
end
end Rn
namespace My
open PySem PySem.Spec L2 RT Rn
theorem Drew.free {a c q : Addr} {A B : Hp} (D : Drew a c A B) (h : B q = none) : A q = none := by
  cases e : A q with
  | none => rfl
  | some o =>
    obtain ⟨s', i', cells', ha', hc', _⟩ := D.dr
    by_cases e1 : q = a
    · rw [e1, ha'] at h; cases h
    by_cases e2 : q = c
    · rw [e2, hc'] at h; cases h
    rw [D.kp q o e e1 e2] at h
    cases h
theorem rising_ext : ∀ {xs ys : List Int}, xs.Pairwise (· < ·) → ys.Pairwise (· < ·) → (∀ k, k ∈ xs ↔ k ∈ ys) → xs = ys
  | [], [], _, _, _ => rfl
  | [], y :: ys, _, _, h => by have := (h y).mpr List.mem_cons_self; simp at this
  | x :: xs, [], _, _, h => by have := (h x).mp List.mem_cons_self; simp at this
  | x :: xs, y :: ys, hx, hy, h => by
    obtain ⟨x1, x2⟩ := List.pairwise_cons.mp hx
    obtain ⟨y1, y2⟩ := List.pairwise_cons.mp hy
    have e : x = y := by
      have a := (h x).mp List.mem_cons_self
      have c := (h y).mpr List.mem_cons_self
      rcases List.mem_cons.mp a with a | a
      · exact a
      · rcases List.mem_cons.mp c with c | c
        · exact c.symm
        · have := y1 x a
          have := x1 y c
          omega
    subst e
    have r := rising_ext x2 y2 fun k => ⟨fun hk => by
      rcases List.mem_cons.mp ((h k).mp (List.mem_cons_of_mem _ hk)) with e | h2
      · have := x1 k hk; omega
      · exact h2, fun hk => by
      rcases List.mem_cons.mp ((h k).mpr (List.mem_cons_of_mem _ hk)) with e | h2
      · have := y1 k hk; omega
      · exact h2⟩
    rw [r]
theorem Ps.same {b way : Int} {P : Nat} {w F : Nat → Int} {n i : Nat} {row L row' L' : List Int} (C : Ps b way P w F n i row L) (D : Ps b way P w F n i row' L') : row = row' ∧ L = L' := by
  refine ⟨List.ext_getElem? fun k => ?_, rising_ext C.up D.up fun k => by rw [C.lev, D.lev]⟩
  by_cases h : k < n
  · rw [C.eq k h, D.eq k h]
  · rw [List.getElem?_eq_none (by rw [C.len]; omega), List.getElem?_eq_none (by rw [D.len]; omega)]
theorem sub_len : ∀ {xs ys : List Int}, xs.Nodup → (∀ x ∈ xs, x ∈ ys) → xs.length ≤ ys.length
  | [], _, _, _ => Nat.zero_le _
  | x :: xs, ys, hn, h => by
    obtain ⟨n1, n2⟩ := List.nodup_cons.mp hn
    have hx := h x List.mem_cons_self
    have r := sub_len (xs := xs) (ys := ys.erase x) n2 fun z hz => (List.mem_erase_of_ne (fun e => n1 (by rw [← e]; exact hz))).mpr (h z (List.mem_cons_of_mem _ hz))
    rw [List.length_erase_of_mem hx] at r
    have := List.length_pos_of_mem hx
    rw [List.length_cons]
    omega
/-- one carry leaves no more levers -/
theorem Cs.fewer {b way : Int} {n : Nat} {w F : Nat → Int} {d : Nat → Bool} {row L row' L' : List Int} {k : Nat} (C : Cs b way n w F d row L) (D : Cs b way n w F (setD d k) row' L') (hk : (k : Int) ∈ L) : (k : Int) ∉ L' ∧ L'.length ≤ L.length := by
  have ndL : L.Nodup := C.up.imp fun h => by omega
  have ndL' : L'.Nodup := D.up.imp fun h => by omega
  have out : (k : Int) ∉ L' := fun z => by
    obtain ⟨j, _, e, _, hd⟩ := (D.lev _).mp z
    have : j = k := by omega
    subst this
    rw [setD_same] at hd
    cases hd
  refine ⟨out, ?_⟩
  have h := sub_len (xs := L') (ys := ((k : Int) + 1) :: L.erase (k : Int)) ndL' fun y hy => by
    obtain ⟨j, j1, e, j2, j3⟩ := (D.lev y).mp hy
    by_cases e1 : j = k + 1
    · subst e1
      rw [e]
      exact List.mem_cons.mpr (.inl (by omega))
    · refine List.mem_cons_of_mem _ ?_
      have ne : j ≠ k := fun e2 => by rw [e2, setD_same] at j3; cases j3
      refine (List.mem_erase_of_ne (by omega)).mpr ((C.lev y).mpr ⟨j, j1, e, ?_, ?_⟩)
      · rw [vk_ne e1] at j2
        exact j2
      · rw [setD_ne d ne] at j3
        exact j3
  rw [List.length_cons, List.length_erase_of_mem hk] at h
  have := List.length_pos_of_mem hk
  omega
theorem undone_le (d : Nat → Bool) : ∀ n : Nat, undone d n ≤ n
  | 0 => Nat.le_refl _
  | n + 1 => by
    have := undone_le d n
    show undone d n + (if d n = true then 0 else 1) ≤ n + 1
    split <;> omega
theorem mod_ne {b v : Int} (hb : 0 < b) : v ≠ v % b ↔ ¬ InR b v := by
  constructor
  · intro h z
    exact h (mod_in z).symm
  · intro h e
    exact h ⟨by rw [e]; exact Int.emod_nonneg _ (by omega), by rw [e]; exact Int.emod_lt_of_pos _ hb⟩
/-- the carries one by one, each lever drawn -/
def spOne (K : PySem.W.Frag) : Sp := fun vs H Q _ => ∃ (a cl m t l : Addr) (b s w c way : Int) (fw fF : Nat → Int) (row L : List Int), vs = [.ref a, .ref m, .ref t, .ref l, .int way] ∧ DrawAt H a cl ∧ l ≠ cl ∧ MachAt K H m b s w c ∧ Mach b s w c ∧
  SqT K H t (row.map V.int) ∧ H l = some (.lst (L.map V.int)) ∧ Wn b way w.toNat fw fF ∧ Cs b way w.toNat fw fF (fun _ => false) row L ∧
  ∀ (z r' : Addr) (row' : List Int) (d : Nat → Bool) (g : Bool) (H' : Hp), Drew a cl H H' → H' z = some (.tup [.ref r', .bl g]) → SqT K H' r' (row'.map V.int) → Cs b way w.toNat fw fF d row' [] → (g = true ↔ cin d w.toNat = 1) → Q (.ref z) H'
end My
set_option Elab.async false
set_option linter.all false
set_option maxRecDepth 100000
set_option maxHeartbeats 4000000
/-! exceptions that are asked by isinstance: a class or a tuple of classes -/
namespace L2
open PySem PySem.Spec PyProof.Rows
/-- isinstance(e, c) or isinstance(e, (c1, c2, ..)), e the exception that the suite holds -/
def rIsX (K : PySem.W.Frag) (a : Addr) (cls : Value) (d : Option Addr) : List V → Hp → VK → Prop := fun xs H Q => ∃ (D : Addr) (c : V) (b : Bool), cls = .ref D ∧ d = none ∧ ExcC K D ∧ xs = [.ref a, c] ∧
  ((∃ u, ClsV c u ∧ PySem.W.kitOne K (.ref D) u = some b) ∨ ∃ (tp : Addr) (cs : List V) (us : List Value), c = .ref tp ∧ H tp = some (.tup cs) ∧ Paired ClsV cs us ∧ PySem.W.kitAny K (.ref D) us = some b) ∧ Q (.bl b) H
theorem call_isX {X : Cx} {a : Addr} {oe : Obj} {cls : Value} {d : Option Addr} {pn : List (Addr × Obj)} (K : PySem.W.Frag) (eK : X.K = K) (hz : Zc cls d oe) (hf : ∃ vs, oe.data = .fields vs) : CallR (X.suite a ((a, oe) :: pn)) (.builtin "isinstance") (rIsX K a cls d) := by
  subst eK
  intro pins s σ H xs us Q I r h
  obtain ⟨D, c, b, rfl, rfl, C, rfl, hc, q⟩ := h
  obtain ⟨u1, u2, rfl, r1, r2⟩ := vals2 r
  cases (show u1 = Value.ref a from r1)
  obtain ⟨hget, _⟩ := I.pin (a, oe) (List.mem_append.mpr (.inl List.mem_cons_self))
  obtain ⟨vs, hv⟩ := hf
  have J : PySem.W.InstAt s.heap a oe D none := by
    obtain ⟨oc, od, oda, osl⟩ := oe
    obtain ⟨h1, h2⟩ := hz
    dsimp only at h1 h2 hv
    subst h1 h2 hv
    exact ⟨hget, rfl, rfl, trivial⟩
  rcases hc with ⟨u, k, e⟩ | ⟨tp, cs, ws, rfl, hT, k, e⟩
  · have ec := k.eq r2
    subst ec
    exact PySem.W.kia_one (PySem.W.handS_kitx_exc C.hg C.hk C.hs C.hd C.ha C.hn C.ht C.hm) I.kIn J e (fun z => nomatch z) fun tk => ⟨.bl b, H, I.kept (t' := tk) fun _ _ z => z, rfl, q⟩
  · cases (show u2 = Value.ref tp from r2)
    obtain ⟨_, its, rv, o, h1, h2, n, h3⟩ := (show ObjOk X.prog X.w H s.heap tp (.tup cs) from I.hok tp _ hT)
    have e3 := ClsV.all k rv
    subst e3
    obtain ⟨oc, od, dt, sl⟩ := o
    simp only at h2 h3
    subst h2 h3
    exact PySem.W.kia_tup (PySem.W.handS_kitx_exc C.hg C.hk C.hs C.hd C.ha C.hn C.ht C.hm) I.kIn J h1 e (fun z => nomatch z) fun tk => ⟨.bl b, H, I.tok tk, rfl, q⟩
end L2
namespace Rn
open PySem PySem.Spec L2 RT
section
variable {K : PySem.W.Frag} {σ : St} {H : Hp} {te : TE} {tr : TA} {Q : VK} {ts : List TE} {acc : Str} {QS : Str → Hp → Prop}
theorem w_callS {sp : Sp} {E : St → XK} (h : tr σ H fun vs H1 => sp vs H1 Q (E σ)) : tCallS sp E tr σ H Q := h
/-- a text of parts, not long -/
def JsQ (ts : List TE) (acc : Str) (σ : St) (QS : Str → Hp → Prop) : VK := fun x H1 => ∃ y : Str, x = .str y ∧ (acc ++ y).length ≤ sizeLine ∧ tJs ts (acc ++ y) σ H1 QS
def JfQ (ts : List TE) (acc : Str) (σ : St) (QS : Str → Hp → Prop) : VK := fun x H1 => (∃ y : Str, x = .str y ∧ y.length ≤ sizeLine ∧ JsQ ts acc σ QS (.str y) H1) ∨ ∃ i : Int, x = .int i ∧ i.natAbs.log2 < 1920 ∧ JsQ ts acc σ QS (.str (toString i)) H1
theorem w_js0 (h : QS acc H) : tJs [] acc σ H QS := h
theorem w_js1 {t : TE} (h : t σ H (JsQ ts acc σ QS)) : tJs (t :: ts) acc σ H QS := h
theorem w_fmt (h : te σ H (JfQ ts acc σ QS)) : tFmt te σ H (JsQ ts acc σ QS) := h
theorem len_app (a b : Str) : (a ++ b).length = a.length + b.length := by
  exact Str.length_append a b
/-- of no more than k parts -/
def Sh (acc : Str) (k : Nat) : Prop := acc.length ≤ k * 2000
theorem Sh.nil : Sh Str.empty 0 := Nat.zero_le _
theorem w_jsC {y : Str} {n : Nat} (ha : Sh acc n) (hn : n ≤ 40) (hy : y.length ≤ 2000) (h : ∀ acc' : Str, Sh acc' (n + 1) → tJs ts acc' σ H QS) : JsQ ts acc σ QS (.str y) H :=
  ⟨y, rfl, by unfold Sh at ha; rw [len_app, sizeLine_eq]; omega, h _ (by unfold Sh at ha ⊢; rw [len_app]; omega)⟩
theorem log_small {i : Int} (h1 : -(2 ^ 64) < i ∧ i < 2 ^ 64) : i.natAbs.log2 < 1920 := by
  by_cases h : i.natAbs = 0
  · rw [h]; decide
  · exact Nat.lt_of_lt_of_le ((Nat.log2_lt h).mpr (show i.natAbs < 2 ^ 65 by omega)) (by decide)
theorem w_jfI {i : Int} {n : Nat} (h1 : -(2 ^ 64) < i ∧ i < 2 ^ 64) (ha : Sh acc n) (hn : n ≤ 40) (h : ∀ acc' : Str, Sh acc' (n + 1) → tJs ts acc' σ H QS) : JfQ ts acc σ QS (.int i) H :=
  .inr ⟨i, rfl, log_small h1, w_jsC ha hn (Nat.le_trans (PyProof.Rows.int_text_len_1921 (log_small h1)) (by decide)) h⟩
theorem w_jfS {y : Str} {n : Nat} (hy : y.length ≤ 2000) (ha : Sh acc n) (hn : n ≤ 40) (h : ∀ acc' : Str, Sh acc' (n + 1) → tJs ts acc' σ H QS) : JfQ ts acc σ QS (.str y) H :=
  .inl ⟨y, rfl, by rw [sizeLine_eq]; omega, w_jsC ha hn hy h⟩
end
end Rn
namespace L2
open PySem PySem.Spec PyProof.Rows PySem.W
theorem kit_self {K : Frag} {x : Addr} : kitOne K (.ref x) (.ref x) = some true := by
  unfold kitOne
  rw [if_pos (beq_self_eq_true _)]
theorem kit_own {K : Frag} {x c : Addr} {b : Bool} (hdct : hasDictIn K c = true) (ht : typeIn K (.ref c) = some (.type "type")) (ne : ((Value.ref x) == (Value.ref c)) = false) (h : subIn K (.ref x) (.ref c) = some b) : kitOne K (.ref x) (.ref c) = some b := by
  obtain ⟨cd, hc, _⟩ := any_some hdct
  have e2 : ((clsIn K c).isSome && typeIn K (.ref c) == some (.type "type")) = true := by rw [hc, ht] <;> rfl
  unfold kitOne
  rw [if_neg (by rw [ne]; exact Bool.false_ne_true)]
  show (if ((clsIn K c).isSome && typeIn K (.ref c) == some (.type "type")) = true then subIn K (.ref x) (.ref c) else none) = some b
  rw [if_pos e2]
  exact h
theorem kit_blt {K : Frag} {x : Addr} {T : String} {b : Bool} (hm : kitMeta T = true) (h : subIn K (.ref x) (.type T) = some b) : kitOne K (.ref x) (.type T) = some b := by
  unfold kitOne
  rw [if_neg (show ¬ ((Value.ref x == Value.type T) = true) from Bool.false_ne_true)]
  show (if kitMeta T = true then subIn K (.ref x) (.type T) else none) = some b
  rw [if_pos hm]
  exact h
end L2
set_option Elab.async false
set_option linter.all false
set_option maxRecDepth 100000
set_option maxHeartbeats 4000000
/-! a tuple, once: t * 1 -/
namespace L2
open PySem PySem.Spec PyProof.Rows
open Sem (wp)
theorem tuple_mul1 (l : Addr) (items : Array Value) (n : Nat) (dd : Option Addr) (sl : Array (Option Value)) (u : Tok) :
    Meets (Builtin.«tuple.__mul__» ⟨[.ref l, .int 1 u], []⟩) (fun _ R s => s.heap.get? l = some { cls := .type "tuple", dict := dd, data := .seq items n, slots := sl } ∧
      R (.ok (.ret (Value.ref l))) s) :=
  .of_wp fun prog w A R s h => by
    obtain ⟨hp, g, d, tk, os⟩ := s
    obtain ⟨hl, h⟩ := h
    have f1 := AutoSeq1.idx_int
    have c1 : (items.isEmpty || (1 : Int) == 1) = true := by simp
    wp_walk using wpAny_loadPart' hl
    repeat (first
      | (refine wpAny_ite_true (decide_eq_true c1) ?_; wp_walk using wpAny_loadPart' hl)
      | (refine wpAny_ite_false (decide_eq_false (by decide)) ?_; wp_walk using wpAny_loadPart' hl))
    exact ⟨_, rfl, h⟩
def rRepT1 (K : PySem.W.Frag) : R2 := fun x y H Q => ∃ l xs, x = .ref l ∧ y = .int 1 ∧ SqT K H l xs ∧ Q (.ref l) H
section
variable {X : Cx}
theorem op_repT1 : OpR X (binaryOp .Mult) (rRepT1 X.K) := by
  intro pins s σ H x y v u Q I rx ry h
  obtain ⟨l, xs, rfl, rfl, hT, q⟩ := h
  cases rx
  obtain ⟨t, rfl⟩ := ry
  obtain ⟨its, r, ⟨⟨cls, dd, data, sl⟩, ho, hc, n, hd⟩, hs⟩ := I.tuple hT
  simp only at hc hd
  subst hc hd
  refine wpAny_binaryOp_repeat_ref (T := "tuple") (U := "int") (by decide) ⟨_, ho, rfl⟩ (fun s' => typeIs_int s' 1 t) noFill_tuple_mul F.fills_int_mul F.slot_int_rmul repeat_tuple F.slot_int_index.lookup
    (call_meets F.slot_int_rmul (typeIs_int s 1 t) F.entry_int_rmul (F.args_int_rmul_2 _ _) (int_rmul_tuple 1 t l its.toArray n dd sl)
      ⟨ho, rfl, ⟨_, ho, rfl⟩, call_meets F.slot_tuple_mul ⟨_, ho, rfl⟩ F.entry_tuple_mul (F.args_tuple_mul_2 _ _) (tuple_mul1 l its.toArray n dd sl t) ⟨ho, ?_⟩⟩)
  exact ⟨.ref l, H, I, rfl, q⟩
def rRepU (K : PySem.W.Frag) : R2 := fun x y H Q => rRepT K x y H Q ∨ rRepT1 K x y H Q
theorem k_rep (K : PySem.W.Frag) (e : X.K = K) : OpR X (binaryOp .Mult) (rRepU K) := by
  subst e
  exact op_repT.or op_repT1
end
end L2
namespace Rn
open PySem PySem.Spec L2 RT
theorem w_repU {K : PySem.W.Frag} {H : Hp} {Q : VK} {l : Addr} {v : V} {k : Int} (hl : SqT K H l [v]) (h1 : 1 ≤ k) (h2 : k ≤ 1000) (h : ∀ p H', Same H H' → SqT K H' p (List.replicate k.toNat v) → Q (.ref p) H') : rRepU K (.ref l) (.int k) H Q := by
  by_cases e : k = 1
  · subst e
    exact .inr ⟨l, _, rfl, rfl, hl, h l H (Same.refl H) hl⟩
  · refine .inl ⟨l, k, _, rfl, rfl, hl, by simp, by omega, h2, by simp, fun p hp => h p _ (Same.new hp) ?_⟩
    have e2 : (List.replicate k.toNat [v]).flatten = List.replicate k.toNat v := by simp
    rw [e2]
    exact SqT.of upd_same
end Rn
set_option Elab.async false
set_option linter.all false
set_option maxRecDepth 100000
set_option maxHeartbeats 4000000
/-! tuple(element for (number, item) in enumerate(a tuple)), the element's free names known -/
namespace Tg
open PySem PySem.Spec PyProof.Rows L2 Rn
/-- the generator expression's own scope: its two names, the walked thing at «.0», captured names -/
structure GenS2 (env : Env) (scope : Scope) (xa xb : Str) : Prop where
  kind : scope.kind = .function
  co : scope.isCoroutine = false
  cell : ∀ y ∈ scope.names, y.2 ≠ .cell
  dot : scope.names.lookup (".0" : Str) = some NameKind.local
  la : scope.names.lookup xa = some .local
  lb : scope.names.lookup xb = some .local
  ne : xa ≠ xb
  free : ∀ y ∈ scope.names, y.2 = .free → env.kindOf y.1 = some .cell
/-- the captured names' values stand in their cells -/
def FreeAt (cl : List (Str × Addr)) (fr : List (Str × V)) (h : Heap) : Prop := ∀ p ∈ fr, ∃ c u, cl.lookup p.1 = some c ∧ h.IsCell c (some u) ∧ RelV p.2 u
/-- the element, of the number i and the item x -/
def EltE (prog : Program) (w : World) (scope : Scope) (cl : List (Str × Addr)) (fr : List (Str × V)) (xa xb : Str) (elt : Expr) (f : Nat → V → V) : Prop :=
  ∀ (cenv : Env) (A' : Around) (E' : Value → Shared → Prop) (i : Nat) (x : V) (t : Tok) (u : Value) (s₂ : Shared) (m₂ : Str → Option Value), cenv.scope = scope → cenv.cells = cl → RelV x u → s₂.heap.Ns cenv.locals m₂ → m₂ xa = some (.int (i : Nat) t) → m₂ xb = some u → FreeAt cl fr s₂.heap →
    wpAny (model prog w) A' (eval elt cenv) (fun y s₃ => RelV (f i x) y ∧ Keeps s₂ s₃) E' s₂
theorem keeps_refl (s : Shared) : Keeps s s := ⟨s.heap, s.toks, rfl, fun _ _ e => e⟩
/-- fv if at == sl else held -/
theorem elt_put {prog : Program} {w : World} {scope : Scope} {cl : List (Str × Addr)} {xa xb ya yb : Str} {j : Int} {fv : V} {p1 p2 p3 p4 p5 p6 : Pos} (hk : scope.kind = .function) (hla : scope.names.lookup xa = some .local) (hlb : scope.names.lookup xb = some .local)
    (hfa : scope.names.lookup ya = some .free) (hfb : scope.names.lookup yb = some .free) (da : (xa == ("__debug__" : Str)) = false := by decide) (db : (xb == ("__debug__" : Str)) = false := by decide)
    (ea : (ya == ("__debug__" : Str)) = false := by decide) (eb : (yb == ("__debug__" : Str)) = false := by decide) (ca : (ya == ("__classdict__" : Str)) = false := by decide) (cb : (yb == ("__classdict__" : Str)) = false := by decide) :
    EltE prog w scope cl [(ya, .int j), (yb, fv)] xa xb (.IfExp (.Compare (.Name xa p1) [.Eq] [.Name ya p2] p3) (.Name yb p4) (.Name xb p5) p6) (fun i x => if (i : Int) = j then fv else x) := by
  intro cenv A' E' i x t u s₂ m₂ hs hc ru hn hma hmb hfr
  have hk' : cenv.scope.kind = .function := by rw [hs]; exact hk
  have la : cenv.kindOf xa = some .local := by show cenv.scope.names.lookup xa = _; rw [hs]; exact hla
  have lb : cenv.kindOf xb = some .local := by show cenv.scope.names.lookup xb = _; rw [hs]; exact hlb
  have lc : cenv.kindOf ya = some .free := by show cenv.scope.names.lookup ya = _; rw [hs]; exact hfa
  have ld : cenv.kindOf yb = some .free := by show cenv.scope.names.lookup yb = _; rw [hs]; exact hfb
  obtain ⟨c1, u1, k1, k2, k3⟩ := hfr (ya, .int j) (by simp)
  obtain ⟨c2, u2, q1, q2, q3⟩ := hfr (yb, fv) (by simp)
  obtain ⟨t1, rfl⟩ := (show ∃ t, u1 = Value.int j t from k3)
  refine wpAny_IfExp ?_
  refine wpAny_isTrue_Compare1 ?_
  refine wpAny_Name (wpAny_loadName_local hk' la hn hma ?_) da
  refine wpAny_Name (wpAny_loadName_free hk' lc (by rw [hc]; exact k1) k2 ?_ ca) ea
  refine wpAny_eq_int ?_
  refine wpAny_truthy_bool ?_
  by_cases e : (i : Int) = j
  · rw [beq_iff_eq.mpr e, if_pos rfl]
    exact wpAny_Name (wpAny_loadName_free hk' ld (by rw [hc]; exact q1) q2 ⟨by show L2.RelV (if (i : Int) = j then fv else x) _; rw [if_pos e]; exact q3, keeps_refl _⟩ cb) eb
  · rw [beq_eq_false_iff_ne.mpr e, if_neg Bool.false_ne_true]
    exact wpAny_Name (wpAny_loadName_local hk' lb hn hmb ⟨by show L2.RelV (if (i : Int) = j then fv else x) _; rw [if_neg e]; exact ru, keeps_refl _⟩) db
section
variable {X : Cx} {pins : List (Addr × Obj)} {σ : L2.St} {H : Hp} {s : Shared}
/-- the generator g over the tuple's items xs, ready to be walked, in the state s5; H1: what was held before -/
def ReadyE (X : Cx) (pins : List (Addr × Obj)) (σ : L2.St) (H1 : Hp) (P : Addr) (xs : List V) (f : Nat → V → V) (g : Addr) (s5 : Shared) : Prop :=
  ∃ (fp wr : List Addr) (G : Array GenState → Array GenState → Prop) (F : Nat → Value → Prop) (St : Nat → Shared → Prop),
    WalksS X.prog X.w X.A.in1.in1.in1 g fp wr G xs.length F St ∧ St 0 s5 ∧ (∀ b ∈ fp, b < s5.heap.objs.size) ∧ g ∈ fp ∧ (∀ i s9, St i s9 → s9.TypeIs (.ref g) "generator") ∧
    (∀ j v, F j v → ∃ x : V, xs[j]? = some x ∧ RelV (f j x) v) ∧
    ∀ s', Moved wr G s5 s' → ∃ H2, GxR.Tabbed P H1 H2 ∧ Inv X pins σ H2 s'

theorem gen_en {c P : Addr} {elt e : Expr} {xa xb : Str} {pa pb pt pe pc gpos : Pos} {kt : Nat} {scope : Scope} {fr : List (Str × V)} {f : Nat → V → V} {ta : TA} {k : Nat} {Q' : Value → Shared → Prop} {R : List V → Hp → Prop}
    (hr : Room k X.A) (hg : Gl X "enumerate") (hm : X.mg "enumerate" = none) (TB : GxR.TabB X.base X.mg c P) (hcode : X.env.code = .ref c) (S : GenS2 X.env scope xa xb) (ha : PA X [e] ta)
    (hel : EltE X.prog X.w scope (cloFrom X.env.cells scope.names []) fr xa xb elt f)
    (hs : ∀ v, genFold (.Call (.Name "enumerate" pe) [e] [] pc) X.env v = pure v) (hst : starEach [e] X.env = [(false, eval e X.env)]) (I : Inv X pins σ H s)
    (h : ta σ H fun vs H1 => ∃ (a : Addr) (xs : List V), vs = [.ref a] ∧ SqT X.K H1 a xs ∧ GxR.TabG H1 P ∧
      (∀ p ∈ fr, ∃ i : Nat, X.N[i]? = some p.1 ∧ σ[i]? = some (some p.2) ∧ X.env.kindOf p.1 = some .cell ∧ (cloFrom X.env.cells scope.names []).lookup p.1 = some ((X.env.cells.lookup p.1).getD 0)) ∧ R xs H1)
    (hQ : ∀ xs H1 g s5, xs.length ≤ sizeLine → R xs H1 → ReadyE X pins σ H1 P xs f g s5 → Q' (.ref g) s5) :
    wpAny (model X.prog X.w) X.A (eval (.GeneratorExp elt [⟨.Tuple [.Name xa pa, .Name xb pb] kt pt, .Call (.Name "enumerate" pe) [e] [] pc, [], 0⟩] scope gpos) X.env) Q' X.xe s := by
  have bo : bootBuiltins ("enumerate" : Str) = some (.type "enumerate") := by decide +kernel
  refine wpAny_GeneratorExp_walksQT hr.hd S.co (closure_ok fun y hy e => I.ok.has _ (.inl (S.free y hy e))) S.cell S.dot S.la S.lb S.ne S.kind (by have := hr.dp; omega) ?_ hs
  refine PyProof.Rows.Call_ (ld_blt I hg hm bo (PyProof.Rows.callWith_type1 (thn (ha.run pc pins s σ H _ I h) fun us s1 w1 => ?_) hst rfl))
  obtain ⟨vs, H1, I1, r1, a, xs, ex, hxs, ⟨ps, hP, ht⟩, hfr, q1⟩ := w1
  subst ex
  obtain ⟨u0, eu, ru⟩ := vals1 r1
  subst eu
  obtain rfl : u0 = .ref a := ru
  obtain ⟨its, rv, tu, hz⟩ := I1.tuple hxs
  have hlen : its.length = xs.length := rv.length.symm
  refine enum1_call (begins_tuple a its.toArray) tu fun g he hit hk => wpAny_pyIter_enum he ?_
  have he0 : IsEnum g (s1.heap.objs.size + 1) s1.heap.objs.size 0 .none := he
  have hne : s1.heap.objs.size + 1 ≠ s1.heap.objs.size := Nat.succ_ne_self _
  have hal : a < s1.heap.objs.size := by
    obtain ⟨_, q, _⟩ := tu
    exact Heap.lt_size q
  have na : a ≠ s1.heap.objs.size := Nat.ne_of_lt hal
  have nae : a ≠ s1.heap.objs.size + 1 := Nat.ne_of_lt (Nat.lt_succ_of_lt hal)
  have gsz : s1.heap.objs.size + 1 < g.objs.size := Heap.lt_size he
  have hPs : s1.heap.get? P = some { cls := .none, data := .fields ps } := I1.hok P _ hP
  have hPlt : P < s1.heap.objs.size := Heap.lt_size hPs
  have hP2 : g.get? P = some { cls := .none, data := .fields ps } := hk _ _ hPs
  have cd : PySem.W.CodeHd g c P := TB.code.keeps fun b u e => hk _ _ (I1.bk b u e)
  have lim2 : g.NoLimit := I1.nolimit.keeps hk
  have cont : ∀ (code : Value) (h3 : Heap) (tk : Nat) (ps' : Array Value), Heap.ExtBut P g h3 → g.objs.size ≤ h3.objs.size → h3.get? P = some { cls := .none, data := .fields ps' } → (∃ more, ps' = ps ++ more) → TriplesOk ps'.toList →
      wpAny (model X.prog X.w) X.A (builtinsFor X.env.globals X.env.builtins) (fun bi s₄ =>
        ∃ Ia fp wr n₀ Pt St₀ Mid pz F, Value.ref (s1.heap.objs.size + 1) = .ref Ia ∧ (∀ A' : Around, A'.handled = none → WalksU X.prog X.w A' Ia fp wr n₀ Pt St₀ Mid) ∧ (∀ i vals, Pt i vals → ∃ va vb, vals = #[va, vb]) ∧ St₀ 0 s₄.heap ∧ (∀ b ∈ fp, b < s₄.heap.objs.size) ∧ s₄.heap.NoLimit ∧ cStatics ∉ wr ∧
          (∀ href : Heap, (∀ b o, s₄.heap.get? b = some o → href.get? b = some o) →
            QuietGenT X.prog X.w (genEnv scope (cloFrom X.env.cells scope.names []) s₄.heap.objs.size code bi X.env) xa xb [] elt (List.range s₄.heap.objs.size) wr Pt pz F href) ∧
          (∀ a h₅ tk gs, gs.bare = true → s₄.heap.objs.size < a → h₅.objs.size = a + 1 → (∀ b o, s₄.heap.get? b = some o → h₅.get? b = some o) →
            WalksS X.prog X.w X.A.in4 a (a :: s₄.heap.objs.size :: List.range s₄.heap.objs.size) (s₄.heap.objs.size :: wr) (GenOnlyQ s₄.gens.size) (passing pz n₀ 0).length
              (fun j y => ∃ i, (passing pz n₀ 0)[j]? = some i ∧ F i y) (GenAt X.prog X.w X.A.in4 a s₄.gens.size s₄.heap.objs.size (List.range s₄.heap.objs.size) wr pz n₀ F) →
            GenAt X.prog X.w X.A.in4 a s₄.gens.size s₄.heap.objs.size (List.range s₄.heap.objs.size) wr pz n₀ F 0 { s₄ with gens := s₄.gens.push gs, toks := tk, heap := h₅ } →
            Q' (.ref a) { s₄ with gens := s₄.gens.push gs, toks := tk, heap := h₅ })) X.xe { s1 with heap := h3, toks := tk } := by
    intro code h3 tk ps' hx hsz hP3 hmore ht3
    obtain ⟨bm, ob, e1, e2, e3, e4, e5, e6, e7, e8⟩ := TB.bm
    have hcP : cStatics ≠ P := fun e => by
      obtain ⟨_, hns, _⟩ := I1.nolimit
      obtain ⟨o', es, ep, ho, hd, _⟩ := hns
      rw [e, hPs] at ho
      cases ho
      cases hd
    have hcl : cStatics < s1.heap.objs.size := let ⟨_, hns, _⟩ := I1.nolimit; hns.lt
    have keep3 : ∀ b u, b ≠ P → s1.heap.get? b = some u → h3.get? b = some u := fun b u hb e => hx b u hb (hk _ _ e)
    refine wpAny_builtinsFor (m := X.mg) (by rw [I1.ok.glob]; exact ((I1.mod.glob.keeps I1.bk).keeps hk).extBut hx TB.gP) e1 e2 (keep3 _ _ e4 (I1.bk _ _ e5)) e6 e7 e8 ?_
    have haP : a ≠ P := fun z => by
      obtain ⟨_, e, hc1, _, hd1⟩ := _root_.id tu
      rw [z, hPs] at e
      cases e
      cases hd1
    have tu3 : h3.IsTuple a its.toArray := by
      obtain ⟨ob, e, r⟩ := _root_.id tu
      exact ⟨ob, keep3 _ _ haP e, r⟩
    have hit3 : h3.IsTupleIter s1.heap.objs.size a 0 := ⟨_, hx _ _ (Nat.ne_of_gt hPlt) hit, rfl, rfl⟩
    have he3 : IsEnum h3 (s1.heap.objs.size + 1) s1.heap.objs.size 0 .none := hx _ _ (Nat.ne_of_gt (Nat.lt_succ_of_lt hPlt)) he0
    have frAt : ∀ h' : Heap, (∀ b o, b < h3.objs.size → b ∉ [s1.heap.objs.size + 1, s1.heap.objs.size] → h3.get? b = some o → h'.get? b = some o) → FreeAt (cloFrom X.env.cells scope.names []) fr h' := fun h' hk' p hp => by
      obtain ⟨i, n1, n2, n3, n4⟩ := hfr p hp
      obtain ⟨m, _, lo⟩ := I1.loc
      obtain ⟨u, ru, lk⟩ := lo i p.1 p.2 n1 n2 (.inr (.inl n3))
      rcases lk with ⟨z, _⟩ | ⟨_, cc, lc, ob, oc, od⟩
      · rw [n3] at z
        cases z
      · refine ⟨cc, u, by rw [n4, lc] <;> rfl, ⟨ob, ?_, od⟩, ru⟩
        have lt := Heap.lt_size oc
        have ncP : cc ≠ P := fun z => by
          have := I1.freeC _ _ lc
          rw [z, hP] at this
          cases this
        have lt' : (cc : Nat) < s1.heap.objs.size := lt
        refine hk' cc ob (Nat.lt_of_lt_of_le (Nat.lt_trans lt (Nat.lt_of_succ_lt gsz)) hsz) (fun z => ?_) (keep3 _ _ ncP oc)
        rcases List.mem_cons.mp z with z | z
        · exact Nat.ne_of_lt (Nat.lt_succ_of_lt lt) z
        · rcases List.mem_cons.mp z with z | z
          · exact Nat.ne_of_lt lt z
          · cases z
    refine ⟨s1.heap.objs.size + 1, (s1.heap.objs.size + 1) :: [s1.heap.objs.size, a], [s1.heap.objs.size + 1, s1.heap.objs.size], its.toArray.size, _, _, _, (fun _ => true),
      (fun i y => ∃ x : V, xs[i]? = some x ∧ RelV (f i x) y), rfl, (fun A' hA => (WalksT.enumerateD (Draws.tuple (A := A'.in1) hA s1.heap.objs.size a na its.toArray) (s1.heap.objs.size + 1) hne (by simp [Ne.symm nae]) (by simp)).toU), ?_, ⟨⟨_, he3⟩, hit3, tu3⟩, ?_, lim2.extBut hx hcP, ?_, ?_, ?_⟩
    · rintro i vals ⟨t, x, _, e⟩
      exact ⟨_, _, e⟩
    · intro b hb
      show (b : Nat) < h3.objs.size
      have hal' : (a : Nat) < s1.heap.objs.size := hal
      rcases List.mem_cons.mp hb with z | z
      · exact z ▸ Nat.lt_of_lt_of_le gsz hsz
      · rcases List.mem_cons.mp z with z | z
        · exact z ▸ Nat.lt_of_lt_of_le (Nat.lt_of_succ_lt gsz) hsz
        · rcases List.mem_cons.mp z with z | z
          · exact z ▸ Nat.lt_trans hal (Nat.lt_of_lt_of_le (Nat.lt_of_succ_lt gsz) hsz)
          · cases z
    · intro z
      rcases List.mem_cons.mp z with z | z
      · exact Nat.ne_of_lt (Nat.lt_succ_of_lt hcl) z
      · rcases List.mem_cons.mp z with z | z
        · exact Nat.ne_of_lt hcl z
        · cases z
    · intro href hhref
      refine ⟨fun A' E' i va vb s₂ m₂ hA hPv hn hma hmb hkp => ?_, fun A' E' i va vb s₂ m₂ hA hPv hp hn hma hmb hkp => ?_⟩
      · simp only [List.forIn_nil]
        exact wpAny_pure ⟨rfl, keeps_refl _⟩
      · obtain ⟨t, x, hx1, e⟩ := hPv
        obtain ⟨ea, eb⟩ : va = .int i t ∧ vb = x := by simpa using congrArg Array.toList e
        subst ea eb
        have hv2 : its[i]? = some vb := by simpa using hx1
        have hi2 : i < its.length := (List.getElem?_eq_some_iff.mp hv2).1
        obtain ⟨x, hxx⟩ : ∃ x, xs[i]? = some x := ⟨xs[i]'(by omega), List.getElem?_eq_getElem _⟩
        obtain ⟨u, hu, ru⟩ := rv.get hxx
        rw [hv2] at hu
        cases hu
        refine wpAny_mono (hel _ A' E' i x t vb s₂ m₂ rfl rfl ru hn hma hmb (frAt _ fun b o hlt hb e => hkp b (List.mem_range.mpr hlt) hb o (hhref b o e))) (fun y s3 r => ⟨⟨x, hxx, r.1⟩, r.2⟩) fun _ _ e => e
    · intro g0 h5 tk5 gs hgb hag hsz5 hk5 W5 hgat
      simp only [GxR.passing_true, List.length_range] at W5
      have hn5 : its.toArray.size = xs.length := by rw [List.size_toArray, hlen]
      rw [hn5] at W5 hgat
      refine hQ xs H1 g0 _ hz q1 ⟨_, _, _, _, _, W5.in4_3, hgat, ?_, List.mem_cons_self, fun i s9 h9 => ?_, ?_, fun s' hm => ?_⟩
      · intro b hb
        show b < h5.objs.size
        have e5 : h5.objs.size = g0 + 1 := hsz5
        have h8 : h3.objs.size < g0 := hag
        rw [e5]
        rcases List.mem_cons.mp hb with z | z
        · rw [z]
          exact Nat.lt_succ_self g0
        · rcases List.mem_cons.mp z with z | z
          · rw [z]
            exact Nat.lt_succ_of_lt h8
          · have z2 := List.mem_range.mp z
            have h7 : b < h3.objs.size := z2
            exact Nat.lt_succ_of_lt (Nat.lt_trans h7 h8)
      · obtain ⟨hg9, _⟩ := h9
        exact hg9.typeIs
      · intro j v hv
        obtain ⟨i, hij, x, hx1, e⟩ := hv
        obtain ⟨hj, ej⟩ := List.getElem?_eq_some_iff.mp hij
        rw [List.getElem_range] at ej
        subst ej
        exact ⟨x, hx1, e⟩
      · obtain ⟨more, em⟩ := hmore
        have nwr : ∀ b u, s1.heap.get? b = some u → b ∉ h3.objs.size :: [s1.heap.objs.size + 1, s1.heap.objs.size] := fun b u e hb => by
          have hl := Heap.lt_size e
          rcases List.mem_cons.mp hb with z | z
          · rw [z] at hl
            exact Nat.lt_irrefl _ (Nat.lt_trans (Nat.lt_of_lt_of_le (Nat.lt_of_succ_lt gsz) hsz) hl)
          · have hl' : (b : Nat) < s1.heap.objs.size := hl
            rcases List.mem_cons.mp z with z | z
            · exact Nat.ne_of_lt (Nat.lt_succ_of_lt hl) z
            · rcases List.mem_cons.mp z with z | z
              · exact Nat.ne_of_lt hl z
              · cases z
        have J := GxR.inv_tab (more := more) (h' := s'.heap) (g' := s'.gens) (d' := s'.drawn) (t' := s'.toks) I1 hP (fun b u hb e => hm.heap b u (nwr b u e) (hk5 b u (keep3 b u hb e)))
          (by rw [← em]; exact hm.heap P _ (nwr P _ hPs) (hk5 P _ hP3)) (AllBare.movedS (I1.bare.push hgb) hm)
        rw [GxR.sh_eta s1 s' hm.os] at J
        refine ⟨upd H1 P (.tbl (ps ++ more)), ⟨⟨ps ++ more, upd_same, by rw [← em]; exact ht3⟩, fun b hb => upd_ne hb⟩, J⟩
  refine ⟨lim2, ?_⟩
  cases hf : codeAmong gpos ps.toList with
  | none =>
    refine wpAny_genexprCodeX hcode (cd.code hP2 ht) (cd.tab hP2) hf fun c' h' tk hx hge hlt hco' _ htab' _ => ?_
    obtain ⟨o1, vs, f1, tf, fl, tg, inF, tx, tt, op, _, _, _, _, _, _, _, _, _, htr, _⟩ := hco'
    exact cont _ h' tk _ hx (Nat.le_trans hge (Nat.le_of_lt hlt)) htab'.2 ⟨_, rfl⟩ htr
  | some cv =>
    refine wpAny_genexprCode_hit hcode (cd.code hP2 ht) hf ?_
    exact cont cv g s1.toks ps (Heap.ExtBut.refl _ _) (Nat.le_refl _) hP2 ⟨#[], by simp⟩ ht

theorem vals_at : ∀ {xs : List V} {vs : List Value}, xs.length = vs.length → (∀ (i : Nat) (x : V), xs[i]? = some x → ∃ v, vs[i]? = some v ∧ RelV x v) → Vals xs vs
  | [], [], _, _ => .nil
  | x :: xs, v :: vs, h, k => .cons (by
      obtain ⟨u, e, r⟩ := k 0 x rfl
      cases e
      exact r) (vals_at (by simpa using h) fun i y hy => k (i + 1) y hy)
/-- f over the items, by their numbers -/
def mapE (f : Nat → V → V) (xs : List V) : List V := xs.mapIdx f
/-- tuple(elt for xa, xb in enumerate(e)) -/
def tTupE (X : Cx) (P : Addr) (scope : Scope) (fr : List (Str × V)) (f : Nat → V → V) (ta : TA) : TE := fun σ H Q => ta σ H fun vs H1 => ∃ (a : Addr) (xs : List V), vs = [.ref a] ∧ SqT X.K H1 a xs ∧ GxR.TabG H1 P ∧
  (∀ p ∈ fr, ∃ i : Nat, X.N[i]? = some p.1 ∧ σ[i]? = some (some p.2) ∧ X.env.kindOf p.1 = some .cell ∧ (cloFrom X.env.cells scope.names []).lookup p.1 = some ((X.env.cells.lookup p.1).getD 0)) ∧
  ∀ H2 p, GxR.Tabbed P H1 H2 → H2 p = none → Q (.ref p) (upd H2 p (.tup (mapE f xs)))
theorem pe_tupE {c P : Addr} {elt e : Expr} {xa xb : Str} {pa pb pt pe pc gpos pn pos : Pos} {kt : Nat} {scope : Scope} {fr : List (Str × V)} {f : Nat → V → V} {ta : TA} {k : Nat}
    (hr : Room k X.A) (hg : Gl X "enumerate") (hm : X.mg "enumerate" = none) (hgt : Gl X "tuple") (hmt : X.mg "tuple" = none) (TB : GxR.TabB X.base X.mg c P) (hcode : X.env.code = .ref c) (S : GenS2 X.env scope xa xb) (ha : PA X [e] ta)
    (hel : EltE X.prog X.w scope (cloFrom X.env.cells scope.names []) fr xa xb elt f)
    (hs : ∀ v, genFold (.Call (.Name "enumerate" pe) [e] [] pc) X.env v = pure v := by intro v; rfl) (hst : starEach [e] X.env = [(false, eval e X.env)] := by rfl)
    (he : starEach [.GeneratorExp elt [⟨.Tuple [.Name xa pa, .Name xb pb] kt pt, .Call (.Name "enumerate" pe) [e] [] pc, [], 0⟩] scope gpos] X.env = (false, eval (.GeneratorExp elt [⟨.Tuple [.Name xa pa, .Name xb pb] kt pt, .Call (.Name "enumerate" pe) [e] [] pc, [], 0⟩] scope gpos) X.env) :: starEach [] X.env := by rfl) :
    PE X (.Call (.Name "tuple" pn) [.GeneratorExp elt [⟨.Tuple [.Name xa pa, .Name xb pb] kt pt, .Call (.Name "enumerate" pe) [e] [] pc, [], 0⟩] scope gpos] [] pos) (tTupE X P scope fr f ta) := by
  refine ⟨fun pins s σ H Q I h => ?_⟩
  have bo : bootBuiltins ("tuple" : Str) = some (.type "tuple") := by decide +kernel
  refine wpAny_Call_Name_kw (ld_blt I hgt hmt bo ?_)
  refine PyProof.Rows.callWith_type1 ?_ he (by rfl)
  rw [he]
  show wpAny _ _ (spliced ((false, eval (.GeneratorExp elt [⟨.Tuple [.Name xa pa, .Name xb pb] kt pt, .Call (.Name "enumerate" pe) [e] [] pc, [], 0⟩] scope gpos) X.env) :: backTo pos (starEach [] X.env))) _ _ s
  refine Calls.spliced_cons (gen_en (R := fun xs H1 => ∀ H2 p, GxR.Tabbed P H1 H2 → H2 p = none → Q (.ref p) (upd H2 p (.tup (mapE f xs)))) hr hg hm TB hcode S ha hel hs hst I h fun xs H1 g s5 jl jq hG => ?_)
  refine Calls.spliced_nil ?_
  obtain ⟨fp, wr, G, F, St, W, hst0, hfp, hgi, hT, hF, hinv⟩ := hG
  refine call_tuple_gen W hT hst0 hfp hgi (fun s' acc hmv hio => ?_) jl
  obtain ⟨H2, ht, J⟩ := hinv s' hmv
  obtain ⟨its, rfl⟩ : ∃ its : List Value, acc = its.toArray := ⟨acc.toList, by simp⟩
  have hz2 : its.length = xs.length := by simpa using hio.1
  have rel : Vals (mapE f xs) its := vals_at (by unfold mapE; rw [List.length_mapIdx, hz2]) fun i x hx => by
    unfold mapE at hx
    rw [List.getElem?_mapIdx] at hx
    have hi : i < xs.length := by
      refine Nat.lt_of_not_le fun z => ?_
      rw [List.getElem?_eq_none z] at hx
      cases hx
    obtain ⟨v, hv⟩ : ∃ v, its[i]? = some v := ⟨its[i]'(by omega), List.getElem?_eq_getElem _⟩
    obtain ⟨y, hy, r⟩ := hF i v (hio.2 i v (by simpa using hv))
    rw [hy] at hx
    cases hx
    exact ⟨v, hv, r⟩
  have hzz : (mapE f xs).length ≤ sizeLine := by unfold mapE; rw [List.length_mapIdx]; exact jl
  have J2 : Inv X pins σ (upd H2 s'.heap.objs.size (.tup (mapE f xs))) { s' with heap := s'.heap.push { cls := .type "tuple", data := .seq its.toArray } } :=
    J.laid (t' := s'.toks) (fun b o e => Heap.get?_push_of_some _ e) (Nat.le_refl _) (show ObjOk X.prog X.w _ _ _ (.tup (mapE f xs)) from ⟨hzz, its, rel, IsTup.new _ _⟩)
  exact ⟨.ref s'.heap.objs.size, _, J2, rfl, jq H2 _ ht (J.hok.fresh (Nat.le_refl _))⟩
end
/-- all stays but what tables hold, and they stay tables -/
def NoTab : HO → Prop
  | .tbl _ => False
  | _ => True
structure SmT (H H' : Hp) : Prop where
  keep : ∀ b x, NoTab x → H b = some x → H' b = some x
  tab : ∀ b ps, H b = some (.tbl ps) → ∃ ps', H' b = some (.tbl ps') ∧ (TriplesOk ps.toList → TriplesOk ps'.toList)
theorem SmT.refl (H : Hp) : SmT H H := ⟨fun _ _ _ h => h, fun _ ps h => ⟨ps, h, id⟩⟩
theorem SmT.trans {A B C : Hp} (x : SmT A B) (y : SmT B C) : SmT A C := ⟨fun b o n h => y.keep b o n (x.keep b o n h), fun b ps h => by
  obtain ⟨p1, h1, k1⟩ := x.tab b ps h
  obtain ⟨p2, h2, k2⟩ := y.tab b p1 h1
  exact ⟨p2, h2, k2 ∘ k1⟩⟩
theorem _root_.L2.Same.smt {H H' : Hp} (e : Same H H') : SmT H H' := ⟨fun b x _ h => e b x h, fun b ps h => ⟨ps, e b _ h, id⟩⟩
theorem SmT.of_tabbed {P : Addr} {H H' : Hp} (hP : GxR.TabG H P) (h : GxR.Tabbed P H H') : SmT H H' := by
  obtain ⟨ps, e, t⟩ := hP
  obtain ⟨⟨ps', e', t'⟩, k⟩ := h
  refine ⟨fun b x n hb => ?_, fun b qs hb => ?_⟩
  · have ne : b ≠ P := fun z => by
      rw [z, e] at hb
      cases hb
      exact n
    rw [k b ne]
    exact hb
  · by_cases z : b = P
    · subst z
      exact ⟨ps', e', fun _ => t'⟩
    · exact ⟨qs, by rw [k b z]; exact hb, id⟩
theorem SmT.tabG {P : Addr} {H H' : Hp} (e : SmT H H') (h : GxR.TabG H P) : GxR.TabG H' P := by
  obtain ⟨ps, a, t⟩ := h
  obtain ⟨ps', b, k⟩ := e.tab P ps a
  exact ⟨ps', b, k t⟩
theorem SmT.free {P : Addr} {H H' : Hp} (e : SmT H H') (h : H' P = none) : H P = none := by
  cases hp : H P with
  | none => rfl
  | some x =>
    by_cases n : NoTab x
    · rw [e.keep P x n hp] at h
      cases h
    · cases x with
      | tbl ps =>
        obtain ⟨ps', b, _⟩ := e.tab P ps hp
        rw [b] at h
        cases h
      | _ => exact absurd trivial n
theorem SmT.tn {H H' : Hp} (e : SmT H H') : Tn H H' := fun a xs h => by
  rcases h with h | ⟨o, h⟩
  · exact .inl (e.keep _ _ trivial h)
  · exact .inr ⟨o, e.keep _ _ trivial h⟩
theorem genS2_by {env : Env} {scope : Scope} {xa xb : Str} (h1 : scope.kind = .function) (h2 : scope.isCoroutine = false) (h3 : (scope.names.all fun y => y.2 != .cell) = true) (h4 : scope.names.lookup (".0" : Str) = some NameKind.local)
    (h5 : scope.names.lookup xa = some .local) (h6 : scope.names.lookup xb = some .local) (h7 : xa ≠ xb) (h8 : (scope.names.all fun y => y.2 != .free || env.scope.names.lookup y.1 == some .cell) = true) : GenS2 env scope xa xb where
  kind := h1
  co := h2
  cell := fun y hy e => by
    have := List.all_eq_true.mp h3 y hy
    rw [e] at this
    cases this
  dot := h4
  la := h5
  lb := h6
  ne := h7
  free := fun y hy e => by
    have := List.all_eq_true.mp h8 y hy
    rw [e] at this
    rcases (Bool.or_eq_true _ _).mp this with z | z
    · cases z
    · exact beq_iff_eq.mp z
section
variable {P : Program} {w : World} {K : PySem.W.Frag} {mg : Str → Option Value} {base : Heap}
/-- Fun.ok, Fun.okX, the code object told -/
theorem _root_.L2.Fun.okC {x qual : Str} {st : Stmt} {f : Addr} {fd : FuncData} {N ps : List Str} {k : Nat} {sp : Sp} (F : Fun K x qual st f fd) (S : FnScope N ps (defScope st)) (len : ∀ vs H Q E, sp vs H Q E → vs.length = ps.length)
    (hbody : ∀ (cdv : Value) (_ : fd.code = cdv) (A : Around) (outer : List Env) (s : Shared) (H : Hp) (vs : List V) (Q : VK) (E : XK), Room k (A.deeper (envOfC qual (defScope st) s.heap.objs.size f cdv)) → sp vs H Q E →
      ∃ t, PSs (cxOf CX0 P w K mg base N qual (defScope st) f cdv A outer s H E).nox (defBody st) t ∧ t { nx := fun _ H' => Q .non H', rt := Q } (start N vs) H) : FnOk P w K mg base CX0 (k + 1) f fd ps sp := by
  obtain ⟨oc, od, kV, doc, pm, an, cdv, ct, osl, rfl, lk, hcd⟩ := F.ex
  refine fn_of lk hcd S len fun A outer s H vs Q E hr hsp => ?_
  obtain ⟨t, h, q⟩ := hbody cdv rfl A outer s H vs Q E hr hsp
  exact ⟨t, h.nox, q⟩
theorem _root_.L2.Fun.okXC {x qual : Str} {st : Stmt} {f : Addr} {fd : FuncData} {N ps : List Str} {k : Nat} {sp : Sp} (F : Fun K x qual st f fd) (S : FnScope N ps (defScope st)) (len : ∀ vs H Q E, sp vs H Q E → vs.length = ps.length)
    (hbody : ∀ (cdv : Value) (_ : fd.code = cdv) (A : Around) (outer : List Env) (s : Shared) (H : Hp) (vs : List V) (Q : VK) (E : XK), Room k (A.deeper (envOfC qual (defScope st) s.heap.objs.size f cdv)) → sp vs H Q E →
      ∃ t, PSs (cxOf (L2.CX P w) P w K mg base N qual (defScope st) f cdv A outer s H E) (defBody st) t ∧ t { nx := fun _ H' => Q .non H', rt := Q } (start N vs) H) : FnOk P w K mg base (L2.CX P w) (k + 1) f fd ps sp := by
  obtain ⟨oc, od, kV, doc, pm, an, cdv, ct, osl, rfl, lk, hcd⟩ := F.ex
  exact fn_of lk hcd S len fun A outer s H vs Q E hr hsp => hbody cdv rfl A outer s H vs Q E hr hsp
end
/-- the reading's question -/
theorem w_tupE {X : Cx} {P : Addr} {scope : Scope} {fr : List (Str × V)} {f : Nat → V → V} {ta : TA} {σ : L2.St} {H : Hp} {Q : VK} (h : ta σ H fun vs H1 => ∃ (a : Addr) (xs : List V), vs = [.ref a] ∧ SqT X.K H1 a xs ∧ GxR.TabG H1 P ∧
  (∀ p ∈ fr, ∃ i : Nat, X.N[i]? = some p.1 ∧ σ[i]? = some (some p.2) ∧ X.env.kindOf p.1 = some .cell ∧ (cloFrom X.env.cells scope.names []).lookup p.1 = some ((X.env.cells.lookup p.1).getD 0)) ∧
  ∀ H2 p, GxR.Tabbed P H1 H2 → H2 p = none → Q (.ref p) (upd H2 p (.tup (mapE f xs)))) : tTupE X P scope fr f ta σ H Q := h
theorem map_put (S : List Int) (i f : Int) (h : 0 ≤ i) : mapE (fun n x => if (n : Int) = i then V.int f else x) (S.map V.int) = (S.set i.toNat f).map V.int := by
  unfold mapE
  apply List.ext_getElem?
  intro n
  rw [List.getElem?_mapIdx, List.getElem?_map, List.getElem?_map, List.getElem?_set]
  by_cases e : i.toNat = n
  · subst e
    rw [if_pos rfl]
    by_cases hl : i.toNat < S.length
    · rw [if_pos hl, List.getElem?_eq_getElem hl]
      show some (if ((i.toNat : Nat) : Int) = i then _ else _) = _
      rw [if_pos (by omega)] <;> rfl
    · rw [if_neg hl, List.getElem?_eq_none (by omega)] <;> rfl
  · rw [if_neg e]
    cases S[n]? with
    | none => rfl
    | some y =>
      show some (if (n : Int) = i then _ else _) = _
      rw [if_neg (by omega)] <;> rfl
theorem each_nil {α : Type} {p : α → Prop} : ∀ x ∈ ([] : List α), p x := fun _ h => nomatch h
theorem each_cons {α : Type} {p : α → Prop} {a : α} {r : List α} (h : p a) (k : ∀ x ∈ r, p x) : ∀ x ∈ a :: r, p x := fun x hx => by
  rcases List.mem_cons.mp hx with e | e
  · rw [e]
    exact h
  · exact k x e
theorem tabG0 {H : Hp} {P : Addr} (h : H P = some (.tbl #[])) : GxR.TabG H P := ⟨#[], h, by trivial⟩
theorem genS_by {env : Env} {scope : Scope} {x : Str} (h1 : scope.kind = .function) (h2 : scope.isCoroutine = false) (h3 : (scope.names.all fun y => y.2 != .cell) = true) (h4 : scope.names.lookup (".0" : Str) = some NameKind.local)
    (h5 : scope.names.lookup x = some .local) (h6 : (scope.names.all fun y => y.2 != .free) = true) : GxR.GenS env scope x where
  kind := h1
  co := h2
  cell := fun y hy e => by
    have := List.all_eq_true.mp h3 y hy
    rw [e] at this
    cases this
  dot := h4
  loc := h5
  free := fun y hy e => by
    have := List.all_eq_true.mp h6 y hy
    rw [e] at this
    cases this
end Tg
set_option Elab.async false
set_option linter.all false
set_option maxRecDepth 100000
set_option maxHeartbeats 4000000
/-! the end where defs of the program hold generator expressions -/
namespace Tg
open PySem PySem.Spec PyProof.Rows L2 Rn LamX
theorem tab_of {base : Heap} {mg : Str → Option Value} {c P : Addr} (h : LamX.TabB base mg c P) : GxR.TabB base mg c P := ⟨h.code, h.bm, h.gP⟩
theorem tabIn_of {K : PySem.W.Frag} {x : Str} {f c P : Addr} {oc : Value} {od : Option Addr} {fd : FuncData} {osl : Array (Option Value)} {e : Value} {dd : Option Addr} {vs : Array Value} {sl : Array (Option Value)} (a : PySem.W.nsIn K mainGlobals x = some (some (.ref f))) (l : K.lookup f = some ⟨oc, od, .func fd, osl⟩)
    (j : fd.code = .ref c) (w : K.lookup c = some ⟨e, dd, .fields vs, sl⟩) (u : vs[11]? = some (.ref P)) : PySem.W.tabIn K x = some (c, P) := by
  unfold PySem.W.tabIn
  rw [a]
  simp only [l, j, w, u]
theorem walk_ofTab {l : PySem.W.OpenLaw} {n k : Nat} {q : Program} {loose : List Str} {XP : (Str → Option Value) → Heap → Prop} {YP : World → Heap → Prop} {d : DefRec} {K : Params → PySem.W.Frag} {CX : World → CXT} {x : Str} (names : List Str)
    (hn : l.most = some n) (hn2 : n ≤ sizeLine) (hdf : d.params.defaults = []) (hr : Room k callerA) (hrec : (names.all fun x => ((recsOf q).find? fun e => e.name == x).isSome) = true) (hY : ∀ (w : World) (h : Heap), YP w h → (K w.params).In h)
    (F : ∀ (w : World) (mg : Str → Option Value) (fa : Addr) (h : Heap), (K w.params).In h → h.Ns mainGlobals mg → mg d.name = some (.ref fa) →
      (∀ x ∈ names, ∀ c P : Addr, PySem.W.tabIn (K w.params) x = some (c, P) → PySem.W.CodeHd h c P ∧ h.get? P = some { cls := .none, data := .fields #[] }) → LawAtS l w (K w.params) (CX w) k n x mg fa h)
    (hCX : ∀ (w : World) (H : Hp) (s : Shared) (e : Value) (s' : Shared), CX w [] H s (fun _ _ _ => False) e s' → False) :
    PySem.W.WalkO q loose XP YP l.row.toRowW d [] (fun f vs => PySem.call f vs) := by
  refine Att.attach_callB hn hdf fun w s₀ s₁ mg mb fa o pm cd doc a vs ns G Y ho hd hcd hmg hobj hints hlen hbits hg => ?_
  have KX := hY w _ Y
  obtain ⟨fd, cs, sp, hT, nT, C, hb, hsp, hF⟩ := F w mg fa _ KX G.T.g hmg fun x hx c P e => by
    have h1 := List.all_eq_true.mp hrec x hx
    obtain ⟨dd, h2⟩ := Option.isSome_iff_exists.mp h1
    exact PySem.W.tab_of G.T KX h2 e
  exact law_callTs KX G.T.g G.T.b G.T.builtins G.T.nolimit hg hT nT C G.T.bmain hobj hints (Nat.le_trans hlen hn2) hr hF hb (fun H hH hS => hsp H a ns hlen hbits hH hS) fun H e s' => hCX w H s₁ e s'
end Tg
set_option Elab.async false
set_option linter.all false
set_option maxRecDepth 100000
set_option maxHeartbeats 4000000
/-! k03: deeds -/
namespace My
open PySem PySem.Spec L2 RT Rn
def spTop (K : PySem.W.Frag) : Sp := fun vs H Q _ => ∃ (m : Addr) (b s w c : Int), vs = [.ref m] ∧ MachAt K H m b s w c ∧ Mach b s w c ∧ Q (.int (min (w - s) (c - 1))) H
/-- nothing set, all at 0 -/
def zer (n : Int) : List Int := List.replicate n.toNat 0
theorem zer_map (n : Int) : (zer n).map V.int = List.replicate n.toNat (V.int 0) := by simp [zer]
def spBegin (K : PySem.W.Frag) : Sp := fun vs H Q _ => ∃ (m : Addr) (b s w c : Int), vs = [.ref m] ∧ MachAt K H m b s w c ∧ Mach b s w c ∧
  ∀ z a1 a2 a3 H', Same H H' → H' z = some (.tup [.ref a1, .int 0, .ref a2, .ref a3]) → SqT K H' a1 ((zer s).map V.int) → SqT K H' a2 ((zer w).map V.int) → SqT K H' a3 ((zer c).map V.int) → Q (.ref z) H'
def Bad (E : XK) (BD : Addr) (H : Hp) : Prop := ∀ H', Same H H' → E (.ref BD) none H'
def spShifted (K : PySem.W.Frag) (BD : Addr) : Sp := fun vs H Q E => ∃ (m t : Addr) (b s w c p y : Int) (S W C : List Int), vs = [.ref m, .ref t, .int y] ∧ MachAt K H m b s w c ∧ Mach b s w c ∧ StAt K H t S W C p ∧ Stand b s w c S W C p ∧ -1000 ≤ y ∧ y ≤ 1000 ∧
  (0 ≤ p + y ∧ p + y ≤ min (w - s) (c - 1) → ∀ z H', Same H H' → StAt K H' z S W C (p + y) → Q (.ref z) H') ∧ (¬ (0 ≤ p + y ∧ p + y ≤ min (w - s) (c - 1)) → Bad E BD H)
def spTurned3 (K : PySem.W.Frag) (BD : Addr) : Sp := fun vs H Q E => ∃ (m t : Addr) (b s w c p way tally : Int) (S W C : List Int), vs = [.ref m, .ref t, .int way, .int tally] ∧ MachAt K H m b s w c ∧ Mach b s w c ∧ StAt K H t S W C p ∧ Stand b s w c S W C p ∧ -1000 ≤ way ∧ way ≤ 1000 ∧ -1000 ≤ tally ∧ tally ≤ 1000 ∧
  ((way = 1 ∨ way = -1) ∧ -1 ≤ tally ∧ tally ≤ 1 → ∀ z H', Same H H' → Told2 K H' z S (wheelsOf b way p w S W) (countsOf b tally p c C) p (decide (¬ InR (b ^ w.toNat) (whole b way p S W))) → Q (.ref z) H') ∧
  (¬ ((way = 1 ∨ way = -1) ∧ -1 ≤ tally ∧ tally ≤ 1) → Bad E BD H)
/-- what a wipe leaves -/
def wipeTo (s w c : Int) (S W C : List Int) (x : Str) : Option (List Int × List Int × List Int) :=
  if x = "setting" then some (zer s, W, C) else if x = "wheels" then some (S, zer w, C) else if x = "counts" then some (S, W, zer c) else none
def spWiped (K : PySem.W.Frag) (BD : Addr) : Sp := fun vs H Q E => ∃ (m t : Addr) (b s w c p : Int) (x : Str) (S W C : List Int), vs = [.ref m, .ref t, .str x] ∧ MachAt K H m b s w c ∧ Mach b s w c ∧ StAt K H t S W C p ∧ Stand b s w c S W C p ∧ x.length ≤ 2000 ∧
  (∀ S' W' C', wipeTo s w c S W C x = some (S', W', C') → ∀ z H', Same H H' → StAt K H' z S' W' C' p → Q (.ref z) H') ∧ (wipeTo s w c S W C x = none → Bad E BD H)
def spSlide (K : PySem.W.Frag) (BD TP : Addr) : Sp := fun vs H Q E => ∃ (m t : Addr) (b s w c p i f : Int) (S W C : List Int), vs = [.ref m, .ref t, .int i, .int f] ∧ MachAt K H m b s w c ∧ Mach b s w c ∧ StAt K H t S W C p ∧ Stand b s w c S W C p ∧ -1000 ≤ i ∧ i ≤ 1000 ∧ -1000 ≤ f ∧ f ≤ 1000 ∧ GxR.TabG H TP ∧
  ((0 ≤ i ∧ i < s) ∧ 0 ≤ f ∧ f < b → ∀ z H', Tg.SmT H H' → StAt K H' z (S.set i.toNat f) W C p → Q (.ref z) H') ∧ (¬ ((0 ≤ i ∧ i < s) ∧ 0 ≤ f ∧ f < b) → Bad E BD H)
/-- deeds -/
inductive Dd
  | set (i f : Int)
  | shift (y : Int)
  | turn (x y : Int)
  | wipe (x : Str)
  | turns
  | load
def Dd.vs : Dd → List V
  | .set i f => [.str "set", .int i, .int f]
  | .shift y => [.str "shift", .int y]
  | .turn x y => [.str "turn", .int x, .int y]
  | .wipe x => [.str "wipe", .str x]
  | .turns => [.str "turns", .int 1, .int 0]
  | .load => [.str "load", .str "a"]
def Dd.ok : Dd → Prop
  | .set i f => -1000 ≤ i ∧ i ≤ 1000 ∧ -1000 ≤ f ∧ f ≤ 1000
  | .shift y => -1000 ≤ y ∧ y ≤ 1000
  | .turn x y => -1000 ≤ x ∧ x ≤ 1000 ∧ -1000 ≤ y ∧ y ≤ 1000
  | .wipe x => x.length ≤ 2000
  | _ => True
/-- what a deed leaves: setting, wheels, counts, place, bell; none: it can't be done -/
def effect (b s w c p : Int) (S W C : List Int) : Dd → Option (List Int × List Int × List Int × Int × Bool)
  | .set i f => if (0 ≤ i ∧ i < s) ∧ 0 ≤ f ∧ f < b then some (S.set i.toNat f, W, C, p, false) else none
  | .shift y => if 0 ≤ p + y ∧ p + y ≤ min (w - s) (c - 1) then some (S, W, C, p + y, false) else none
  | .turn x y => if (x = 1 ∨ x = -1) ∧ -1 ≤ y ∧ y ≤ 1 then some (S, wheelsOf b x p w S W, countsOf b y p c C, p, decide (¬ InR (b ^ w.toNat) (whole b x p S W))) else none
  | .wipe x => (wipeTo s w c S W C x).map fun r => (r.1, r.2.1, r.2.2, p, false)
  | _ => none
def spDone (K : PySem.W.Frag) (BD TP : Addr) : Sp := fun vs H Q E => ∃ (m t d : Addr) (b s w c p : Int) (S W C : List Int) (dd : Dd), vs = [.ref m, .ref t, .ref d] ∧ SqT K H d dd.vs ∧ dd.ok ∧ MachAt K H m b s w c ∧ Mach b s w c ∧ StAt K H t S W C p ∧ Stand b s w c S W C p ∧ GxR.TabG H TP ∧
  (∀ S' W' C' p' g, effect b s w c p S W C dd = some (S', W', C', p', g) → ∀ z H', Tg.SmT H H' → Told2 K H' z S' W' C' p' g → Q (.ref z) H') ∧ (effect b s w c p S W C dd = none → Bad E BD H)
/-- .. or None -/
def spTold3T (K : PySem.W.Frag) (TP : Addr) : Sp := fun vs H Q _ => ∃ (m t d : Addr) (b s w c p : Int) (S W C : List Int) (dd : Dd), vs = [.ref m, .ref t, .ref d] ∧ SqT K H d dd.vs ∧ dd.ok ∧ MachAt K H m b s w c ∧ Mach b s w c ∧ StAt K H t S W C p ∧ Stand b s w c S W C p ∧ GxR.TabG H TP ∧
  (∀ S' W' C' p' g, effect b s w c p S W C dd = some (S', W', C', p', g) → ∀ z H', Tg.SmT H H' → Told2 K H' z S' W' C' p' g → Q (.ref z) H') ∧ (effect b s w c p S W C dd = none → ∀ H', Same H H' → Q .non H')
def spTold3 (K : PySem.W.Frag) : Sp := fun vs H Q _ => ∃ (m t d : Addr) (b s w c p : Int) (S W C : List Int) (dd : Dd), vs = [.ref m, .ref t, .ref d] ∧ SqT K H d dd.vs ∧ dd.ok ∧ MachAt K H m b s w c ∧ Mach b s w c ∧ StAt K H t S W C p ∧ Stand b s w c S W C p ∧
  (∀ S' W' C' p' g, effect b s w c p S W C dd = some (S', W', C', p', g) → ∀ z H', Same H H' → Told2 K H' z S' W' C' p' g → Q (.ref z) H') ∧ (effect b s w c p S W C dd = none → ∀ H', Same H H' → Q .non H')
end My
namespace My
open PySem PySem.Spec L2 RT Rn
/-- a drawn deed, new at d -/
def spDeed (K : PySem.W.Frag) : Sp := fun vs H Q _ => ∃ (a cl m : Addr) (b s w c : Int), vs = [.ref a, .ref m] ∧ DrawAt H a cl ∧ MachAt K H m b s w c ∧ Mach b s w c ∧
  ∀ (d : Addr) (dd : Dd) (H' : Hp), dd.ok → SqT K H' d dd.vs → Drew a cl H H' → Q (.ref d) H'
end My
namespace Rn
open PySem PySem.Spec L2 RT
theorem w_catL {K : PySem.W.Frag} {H : Hp} {Q : VK} {a b : Addr} {xs ys : List V} (ha : H a = some (.lst xs)) (hb : H b = some (.lst ys)) (hz : xs.length + ys.length ≤ 100000) (h : ∀ p H', H p = none → Same H H' → H' p = some (.lst (xs ++ ys)) → Q (.ref p) H') : uAdd K (.ref a) (.ref b) H Q :=
  .inr (.inr (.inl ⟨a, b, xs, ys, rfl, rfl, ha, hb, Nat.le_trans hz (by decide), fun p hp => h p _ hp (Same.new hp) upd_same⟩))
end Rn
namespace My
open PySem PySem.Spec L2 RT Rn
theorem cut_set {S : List Int} {i f : Int} (h0 : 0 ≤ i) (h1 : i < S.length) : cutV (S.map V.int) none (some i) ++ [V.int f] ++ cutV (S.map V.int) (some (i + 1)) none = (S.set i.toNat f).map V.int := by
  have e1 : HT.sIx (S.map V.int).length (S.map V.int).length (some i) = i.toNat := by
    show (if i < 0 then _ else min i.toNat _) = _
    rw [if_neg (by omega), List.length_map]
    omega
  have e2 : HT.sIx (S.map V.int).length 0 (some (i + 1)) = i.toNat + 1 := by
    show (if i + 1 < 0 then _ else min (i + 1).toNat _) = _
    rw [if_neg (by omega), List.length_map]
    omega
  have e3 : HT.sIx (S.map V.int).length 0 none = 0 := rfl
  have e4 : HT.sIx (S.map V.int).length (S.map V.int).length none = (S.map V.int).length := rfl
  unfold cutV
  rw [e1, e2, e3, e4, List.drop_zero, Nat.sub_zero, List.set_eq_take_append_cons_drop, if_pos (by omega), List.map_append, List.map_cons, List.map_take, List.map_drop, List.append_assoc]
  congr 1
  show V.int f :: _ = _
  congr 1
  exact List.take_of_length_le (Nat.le_of_eq (by rw [List.length_drop]))
end My
namespace Rn
open PySem PySem.Spec L2 RT
theorem in_strs (x : Str) : ∀ xs : List Str, inV (.str x) (xs.map V.str) = decide (x ∈ xs)
  | [] => by simp [inV]
  | y :: r => by
    have ih := in_strs x r
    unfold inV at ih ⊢
    rw [List.map_cons, List.any_cons, ih]
    by_cases e : y = x
    · subst e
      simp [eqV]
    · have e2 : x ≠ y := fun z => e z.symm
      simp [eqV, e, e2]
theorem flat_strs (ns : List Str) : (ns.map V.str).all flatV = true := by
  rw [List.all_eq_true]
  intro x hx
  obtain ⟨n, _, rfl⟩ := List.mem_map.mp hx
  rfl
theorem w_inS {K : PySem.W.Frag} {H : Hp} {Q : VK} {p : Addr} {ns : List Str} {n : Str} (hl : SqL K H p (ns.map V.str)) (h : Q (.bl (decide (n ∈ ns))) H) : rIn K false (.str n) (.ref p) H Q := ⟨p, _, rfl, .inl hl, rfl, flat_strs ns, by rw [in_strs]; exact h⟩
end Rn
namespace Rn
open PySem PySem.Spec L2 RT
theorem w_indexS {K : PySem.W.Frag} {H : Hp} {Q : VK} {a : Addr} {ns : List Str} {x : Str} {k : Int} (j : Nat) (hl : SqL K H a (ns.map V.str)) (hj : ns[j]? = some x) (hno : ∀ m, m < j → ns[m]? ≠ some x) (hk : k = (j : Int)) (h : Q (.int k) H) : rIndex K (.ref a) [.str x] H Q :=
  ⟨a, _, .str x, j, .str x, rfl, rfl, hl, rfl, flat_strs ns, by rw [List.getElem?_map, hj]; rfl, by simp [eqV], fun m z hm hz => by
    rw [List.getElem?_map] at hz
    cases e : ns[m]? with
    | none => rw [e] at hz; cases hz
    | some y =>
      rw [e] at hz
      obtain rfl := Option.some.inj hz
      have : y ≠ x := fun q => hno m hm (by rw [e, q])
      simp [eqV, this], by rw [← hk]; exact h⟩
end Rn
namespace My
open PySem PySem.Spec L2 RT Rn
theorem tn_mut {H H' : Hp} {l : Addr} {xs ys : List V} (e : H' = upd H l (.lst ys)) (hl : H l = some (.lst xs)) : Tn H H' := by
  subst e
  intro b o hb
  have ne : b ≠ l := fun eb => by
    subst eb
    rcases hb with h | ⟨o', h⟩
    · rw [hl] at h; cases h
    · rw [hl] at h; cases h
  rcases hb with h | ⟨o', h⟩
  · exact .inl (by rw [upd_ne ne]; exact h)
  · exact .inr ⟨o', by rw [upd_ne ne]; exact h⟩
end My
namespace My
theorem effect_wipe {b s w c p : Int} {S W C A B D : List Int} {x : PySem.Str} (h : wipeTo s w c S W C x = some (A, B, D)) : effect b s w c p S W C (.wipe x) = some (A, B, D, p, false) := by
  have e : effect b s w c p S W C (.wipe x) = (wipeTo s w c S W C x).map fun r => (r.1, r.2.1, r.2.2, p, false) := rfl
  rw [e, h]
  rfl
end My
namespace My
open PySem PySem.Spec L2 RT Rn
theorem zer_figs {b : Int} (hb : 0 < b) (n : Int) : Figs b (zer n) := fun d hd => by
  rw [List.eq_of_mem_replicate hd]
  omega
theorem zer_len (n : Int) : (zer n).length = n.toNat := by simp [zer]
theorem Stand.zero {b s w c : Int} (hm : Mach b s w c) : Stand b s w c (zer s) (zer w) (zer c) 0 := by
  obtain ⟨b0, b1, s0, s1, w0, w1, c0, c1⟩ := hm
  exact ⟨zer_len _, zer_len _, zer_len _, zer_figs (by omega) _, zer_figs (by omega) _, zer_figs (by omega) _, by omega, by omega, by omega⟩
theorem Stand.deed {b s w c p p' : Int} {S W C S' W' C' : List Int} {g : Bool} {dd : Dd} (hm : Mach b s w c) (T : Stand b s w c S W C p) (e : effect b s w c p S W C dd = some (S', W', C', p', g)) : Stand b s w c S' W' C' p' := by
  have T0 := T
  obtain ⟨ls, lw, lc, fs, fw, fc, p0, p1, p2⟩ := T
  obtain ⟨b0, b1, s0, s1, w0, w1, c0, c1⟩ := id hm
  cases dd with
  | set i f =>
    by_cases h : (0 ≤ i ∧ i < s) ∧ 0 ≤ f ∧ f < b
    · have e2 : some (S.set i.toNat f, W, C, p, false) = some (S', W', C', p', g) := (if_pos h).symm.trans e
      cases e2
      exact ⟨by rw [List.length_set]; exact ls, lw, lc, fun d hd => by
        rcases List.mem_or_eq_of_mem_set hd with h1 | h1
        · exact fs d h1
        · rw [h1]; exact h.2, fw, fc, p0, p1, p2⟩
    · have e2 : none = some (S', W', C', p', g) := (if_neg h).symm.trans e
      cases e2
  | shift y =>
    by_cases h : 0 ≤ p + y ∧ p + y ≤ min (w - s) (c - 1)
    · have e2 : some (S, W, C, p + y, false) = some (S', W', C', p', g) := (if_pos h).symm.trans e
      cases e2
      exact ⟨ls, lw, lc, fs, fw, fc, h.1, by omega, by omega⟩
    · have e2 : none = some (S', W', C', p', g) := (if_neg h).symm.trans e
      cases e2
  | turn x y =>
    by_cases h : (x = 1 ∨ x = -1) ∧ -1 ≤ y ∧ y ≤ 1
    · have e2 : some (S, wheelsOf b x p w S W, countsOf b y p c C, p, decide (¬ InR (b ^ w.toNat) (whole b x p S W))) = some (S', W', C', p', g) := (if_pos h).symm.trans e
      cases e2
      exact T0.turned hm
    · have e2 : none = some (S', W', C', p', g) := (if_neg h).symm.trans e
      cases e2
  | wipe x =>
    have e2 : (wipeTo s w c S W C x).map (fun r => (r.1, r.2.1, r.2.2, p, false)) = some (S', W', C', p', g) := e
    unfold wipeTo at e2
    split at e2
    · cases e2
      exact ⟨zer_len _, lw, lc, zer_figs (by omega) _, fw, fc, p0, p1, p2⟩
    · split at e2
      · cases e2
        exact ⟨ls, zer_len _, lc, fs, zer_figs (by omega) _, fc, p0, p1, p2⟩
      · split at e2
        · cases e2
          exact ⟨ls, lw, zer_len _, fs, fw, zer_figs (by omega) _, p0, p1, p2⟩
        · cases e2
  | turns => cases e
  | load => cases e
end My
namespace Rn
open PySem PySem.Spec L2 RT
def rIs : R2 := fun x y H Q => y = .non ∧ Q (.bl (decide (x = .non))) H
def rNot : R2 := fun x y H Q => y = .non ∧ Q (.bl (!decide (x = .non))) H
theorem k_isN {X : Cx} : OpR X (compareOp .Is) rIs := op_isN
theorem k_notN {X : Cx} : OpR X (compareOp .IsNot) rNot := op_notN
section
variable {H : Hp} {Q : VK} {a : Addr}
theorem w_isR (h : Q (.bl false) H) : rIs (.ref a) .non H Q := ⟨rfl, by rw [show decide (V.ref a = V.non) = false from decide_eq_false (fun z => nomatch z)]; exact h⟩
theorem w_isN (h : Q (.bl true) H) : rIs .non .non H Q := ⟨rfl, by rw [show decide (V.non = V.non) = true from decide_eq_true rfl]; exact h⟩
theorem w_notR (h : Q (.bl true) H) : rNot (.ref a) .non H Q := ⟨rfl, by rw [show decide (V.ref a = V.non) = false from decide_eq_false (fun z => nomatch z)]; exact h⟩
theorem w_notN (h : Q (.bl false) H) : rNot .non .non H Q := ⟨rfl, by rw [show decide (V.non = V.non) = true from decide_eq_true rfl]; exact h⟩
end
end Rn
namespace My
open PySem PySem.Spec L2 RT Rn
def spLawT (K : PySem.W.Frag) (Ps : List Addr) : Sp := fun vs H Q _ => ∃ (a : Addr) (ns : List Int), vs = [.ref a] ∧ SqL K H a (ns.map V.int) ∧ ns.length ≤ 63 ∧ (∀ H', Q (.bl true) H') ∧ ∀ P ∈ Ps, GxR.TabG H P
theorem DrawAt.smt {H H' : Hp} {a c : Addr} (h : DrawAt H a c) (e : Tg.SmT H H') : DrawAt H' a c := by
  obtain ⟨s, i, cells, ha, hc, r⟩ := h
  exact ⟨s, i, cells, e.keep _ _ trivial ha, e.keep _ _ trivial hc, r⟩
theorem Told2.smt {K : PySem.W.Frag} {H H' : Hp} {z : Addr} {S W C : List Int} {p : Int} {g : Bool} (h : Told2 K H z S W C p g) (e : Tg.SmT H H') : Told2 K H' z S W C p g := by
  obtain ⟨t, h1, h2⟩ := h
  exact ⟨t, e.keep _ _ trivial h1, h2.tn e.tn⟩
theorem Kp.tab {a c P : Addr} {A B : Hp} (D : Kp a c A B) (hA : DrawAt A a c) (t : GxR.TabG A P) : GxR.TabG B P := by
  obtain ⟨s, i, cells, ha, hc, _⟩ := hA
  obtain ⟨ps, hp, ht⟩ := t
  exact ⟨ps, D P _ hp (fun z => by rw [z, ha] at hp; cases hp) (fun z => by rw [z, hc] at hp; cases hp), ht⟩
theorem Drew.tab {a c P : Addr} {A B : Hp} (D : Drew a c A B) (hA : DrawAt A a c) (t : GxR.TabG A P) : GxR.TabG B P := Kp.tab D.kp hA t
theorem _root_.L2.Same.tabG {P : Addr} {A B : Hp} (e : Same A B) (t : GxR.TabG A P) : GxR.TabG B P := e.smt.tabG t
end My
set_option Elab.async false
set_option linter.all false
set_option maxRecDepth 100000
set_option maxHeartbeats 4000000
namespace My
open PySem PySem.Spec L2 RT Rn
local macro_rules | `(tactic| walk_at "r1") => `(tactic| first
  | ((with_reducible refine' w_var ?hv ?_); (case hv => exact rfl))
  | with_reducible refine' w_c ?_
  | with_reducible refine' w_op ?_
  | with_reducible refine' w_cons ?_
  | with_reducible refine' w_nil ?_
  | with_reducible refine' w_I0 ?_
  | with_reducible refine' w_addI ?_
  | with_reducible refine' w_seq ?_
  | with_reducible refine' w_match ?_
  | with_reducible refine' w_sl ?_
  | with_reducible refine' w_noPart ?_
  | with_reducible refine' w_part ?_
  | with_reducible refine' w_pint ?_
  | with_reducible refine' w_eqS ?_
  | with_reducible refine' w_tr ?_
  | with_reducible refine' w_trB ?_
  | ((with_reducible refine' w_trL ?hl ?_); (case hl => exact SqL.of (by assumption)))
  | with_reducible refine' w_iU ?_
  | with_reducible refine' w_en ?_
  | with_reducible refine' w_tyes ?_
  | with_reducible refine' w_while ?_
  | ((with_reducible refine' w_gTup ?hS ?hn ?_); (case hS => first | assumption | exact SqT.of (by assumption)); (case hn => exact rfl))
  | with_reducible refine' w_gCons ?_
  | with_reducible refine' w_gNil ?_
  | with_reducible refine' w_gName ?_
  | ((with_reducible refine' w_I (C := fun _ j => 0 < j) ?hc ?_); (case hc => (show (0 : Int) < _; omega)))
  | ((with_reducible refine' w_I (C := CDivW) ?hc ?_); (case hc => exact divW (by omega) (by omega)))
  | ((with_reducible refine' w_I (C := CPow) ?hc ?_); (case hc => exact ⟨by decide, by decide, by decide⟩))
  | ((with_reducible refine' w_mulI ?hc ?_); (case hc => first | exact .inr ⟨by omega, by omega⟩ | exact .inl ⟨by omega, by omega⟩))
  | with_reducible refine' w_max ?_
  | with_reducible refine' w_isiII ?_
  | with_reducible refine' w_isiIB ?_
  | with_reducible refine' w_isiBB ?_
  | ((with_reducible refine' w_isiTT ?hp ?_); (case hp => assumption))
  | ((with_reducible refine' w_isiLL ?hp ?_); (case hp => assumption))
  | with_reducible refine' w_min ?_
  | with_reducible refine' w_sub ?_
  | ((with_reducible refine' w_ixL ?hl ?ha ?_); (case hl => exact SqL.of (by assumption)); (case ha => exact rfl))
  | ((with_reducible refine' w_ixT ?hl ?ha ?_); (case hl => assumption); (case ha => exact rfl))
  | ((with_reducible refine' w_lenL ?hl ?_); (case hl => exact SqL.of (by assumption)))
  | ((with_reducible refine' w_lenT ?hl ?_); (case hl => assumption))
  | ((with_reducible refine' w_tyL ?hl ?_); (case hl => assumption))
  | with_reducible refine' w_bm ?_
  | with_reducible refine' w_bm0 ?_
  | with_reducible refine' w_pAdd ?_
  | with_reducible refine' w_pSub ?_
  | with_reducible refine' w_asgN ?_
  | with_reducible refine' w_ret ?_
  | with_reducible refine' w_retN ?_
  | with_reducible refine' w_drop ?_
  | with_reducible refine' w_next ?_
  | with_reducible refine' w_brk ?_
  | with_reducible refine' w_cont ?_
  | with_reducible refine' w_ifS ?_
  | with_reducible refine' w_test ?_
  | with_reducible refine' w_bl ?_
  | with_reducible refine' w_tB ?_
  | with_reducible refine' w_iteT ?_
  | with_reducible refine' w_iteF ?_
  | with_reducible refine' w_iteNF ?_
  | with_reducible refine' w_iteNT ?_
  | with_reducible refine' w_and ?_
  | with_reducible refine' w_or ?_
  | with_reducible refine' w_not ?_
  | with_reducible refine' w_andV ?_
  | with_reducible refine' w_orV ?_
  | with_reducible refine' w_notV ?_
  | with_reducible refine' w_eqI ?_
  | with_reducible refine' w_neB ?_
  | with_reducible refine' w_isR ?_
  | with_reducible refine' w_isN ?_
  | with_reducible refine' w_notR ?_
  | with_reducible refine' w_notN ?_
  | with_reducible refine' w_lrev ?_
  | with_reducible refine' w_neI ?_
  | with_reducible refine' w_call ?_
  | with_reducible refine' w_callS ?_
  | with_reducible refine' w_js1 ?_
  | with_reducible refine' w_js0 ?_
  | with_reducible refine' w_fmt ?_
  | ((with_reducible refine' w_jsC ?ha ?hk ?hy ?_); (case ha => first | assumption | exact Sh.nil); (case hk => decide); (case hy => decide +kernel); intro _ _)
  | ((with_reducible refine' w_jfI ?hi ?ha ?hk ?_); (case hi => omega); (case ha => first | assumption | exact Sh.nil); (case hk => decide); intro _ _)
  | ((with_reducible refine' w_jfS ?hy ?ha ?hk ?_); (case hy => first | assumption | decide +kernel); (case ha => first | assumption | exact Sh.nil); (case hk => decide); intro _ _)
  | with_reducible refine' w_cb ?_
  | with_reducible refine' w_for ?_
  | with_reducible refine' w_lc ?_
  | with_reducible refine' w_rngA ?_
  | with_reducible refine' w_rev ?_
  | with_reducible refine' w_tup ?_
  | with_reducible refine' w_lst ?_
  | with_reducible refine' w_un ?_
  | with_reducible refine' w_neg ?_
  | with_reducible refine' w_chain ?_
  | with_reducible refine' w_ifE ?_
  | with_reducible refine' w_par ?_
  | ((with_reducible refine' w_aug ?hx ?_); (case hx => exact rfl))
  | with_reducible refine' w_asg ?_
  | ((with_reducible refine' w_iteD ?hp ?_); (case hp => omega))
  | ((with_reducible refine' w_iteE ?hp ?_); (case hp => omega))
  | ((with_reducible refine' w_iteND ?hp ?_); (case hp => omega))
  | ((with_reducible refine' w_iteNE ?hp ?_); (case hp => omega)))
local macro_rules | `(tactic| walk_at "rs") => `(tactic| ((repeat walk_at "r1"); (try dsimp only [List.set, List.cons_append, List.nil_append, List.length, List.map, List.replicate]); (repeat walk_at "r1"); (try dsimp only [List.set, List.cons_append, List.nil_append, List.length, List.map, List.replicate])))
def topS (i : Nat) : Stmt := PySem.Challenge.pw_crankdrum_k04_rows_of_figures.main.body.getD i (.Pass ⟨0, 0, 0, 0⟩)
abbrev s__law_next : Stmt := topS 5
theorem sc__law_next : FnScope ["_law_h", "_law_many", "_law_at", "_law_cell"] ["_law_h", "_law_many"] (defScope s__law_next) := ⟨rfl, rfl, rfl, by decide +kernel, rfl, by decide +kernel, by decide +kernel⟩
abbrev s__law_figures : Stmt := topS 8
theorem sc__law_figures : FnScope ["_law_h", "_law_base", "_law_many", "_law_k"] ["_law_h", "_law_base", "_law_many"] (defScope s__law_figures) := ⟨rfl, rfl, rfl, by decide +kernel, rfl, by decide +kernel, by decide +kernel⟩
abbrev s__law_power : Stmt := topS 4
theorem sc__law_power : FnScope ["_law_base", "_law_many", "_law_found", "_law_k"] ["_law_base", "_law_many"] (defScope s__law_power) := ⟨rfl, rfl, rfl, by decide +kernel, rfl, by decide +kernel, by decide +kernel⟩
abbrev s__law_number : Stmt := topS 6
theorem sc__law_number : FnScope ["_law_base", "_law_figures_here", "_law_found", "_law_k"] ["_law_base", "_law_figures_here"] (defScope s__law_number) := ⟨rfl, rfl, rfl, by decide +kernel, rfl, by decide +kernel, by decide +kernel⟩
abbrev s__law_row : Stmt := topS 7
theorem sc__law_row : FnScope ["_law_base", "_law_number_here", "_law_many", "_law_k"] ["_law_base", "_law_number_here", "_law_many"] (defScope s__law_row) := ⟨rfl, rfl, rfl, by decide +kernel, rfl, by decide +kernel, by decide +kernel⟩
abbrev s_figures_of : Stmt := topS 2
theorem sc_figures_of : FnScope ["base", "number", "many", "figures", "at"] ["base", "number", "many"] (defScope s_figures_of) := ⟨rfl, rfl, rfl, by decide +kernel, rfl, by decide +kernel, by decide +kernel⟩
abbrev s_told : Stmt := topS 1
theorem sc_told : FnScope ["base", "figures", "number", "figure"] ["base", "figures"] (defScope s_told) := ⟨rfl, rfl, rfl, by decide +kernel, rfl, by decide +kernel, by decide +kernel⟩
abbrev s_law : Stmt := topS 9
theorem sc_law : FnScope ["_law_script", "_law_h", "_law_base", "_law_turn", "_law_many", "_law_figures_here", "_law_number_here", "_law_found", "_law_far"] ["_law_script"] (defScope s_law) := ⟨rfl, rfl, rfl, by decide +kernel, rfl, by decide +kernel, by decide +kernel⟩
structure Txt (K : PySem.W.Frag) (mg : Str → Option Value) (base : Heap) where
  f__law_next : Addr
  fd__law_next : FuncData
  F__law_next : Fun K "_law_next" "_law_next" s__law_next f__law_next fd__law_next
  g__law_next : mg "_law_next" = some (.ref f__law_next)
  b__law_next : Binds K fd__law_next ["_law_h", "_law_many"] []
  f__law_figures : Addr
  fd__law_figures : FuncData
  F__law_figures : Fun K "_law_figures" "_law_figures" s__law_figures f__law_figures fd__law_figures
  g__law_figures : mg "_law_figures" = some (.ref f__law_figures)
  b__law_figures : Binds K fd__law_figures ["_law_h", "_law_base", "_law_many"] []
  f__law_power : Addr
  fd__law_power : FuncData
  F__law_power : Fun K "_law_power" "_law_power" s__law_power f__law_power fd__law_power
  g__law_power : mg "_law_power" = some (.ref f__law_power)
  b__law_power : Binds K fd__law_power ["_law_base", "_law_many"] []
  f__law_number : Addr
  fd__law_number : FuncData
  F__law_number : Fun K "_law_number" "_law_number" s__law_number f__law_number fd__law_number
  g__law_number : mg "_law_number" = some (.ref f__law_number)
  b__law_number : Binds K fd__law_number ["_law_base", "_law_figures_here"] []
  f__law_row : Addr
  fd__law_row : FuncData
  F__law_row : Fun K "_law_row" "_law_row" s__law_row f__law_row fd__law_row
  g__law_row : mg "_law_row" = some (.ref f__law_row)
  b__law_row : Binds K fd__law_row ["_law_base", "_law_number_here", "_law_many"] []
  f_figures_of : Addr
  fd_figures_of : FuncData
  F_figures_of : Fun K "figures_of" "figures_of" s_figures_of f_figures_of fd_figures_of
  g_figures_of : mg "figures_of" = some (.ref f_figures_of)
  b_figures_of : Binds K fd_figures_of ["base", "number", "many"] []
  f_told : Addr
  fd_told : FuncData
  F_told : Fun K "told" "told" s_told f_told fd_told
  g_told : mg "told" = some (.ref f_told)
  b_told : Binds K fd_told ["base", "figures"] []
  f_law : Addr
  fd_law : FuncData
  F_law : Fun K "law" "law" s_law f_law fd_law
  g_law : mg "law" = some (.ref f_law)
  b_law : Binds K fd_law ["_law_script"] []
  n_bool : mg "bool" = none
  n_int : mg "int" = none
  n_isinstance : mg "isinstance" = none
  n_len : mg "len" = none
  n_list : mg "list" = none
  n_max : mg "max" = none
  n_range : mg "range" = none
  n_reversed : mg "reversed" = none
  n_tuple : mg "tuple" = none
section
variable {P : Program} {wd : World} {K : PySem.W.Frag} {mg : Str → Option Value} {base : Heap}

theorem ok__law_next (T : Txt K mg base) : FnOk P wd K mg base CX0 1 T.f__law_next T.fd__law_next ["_law_h", "_law_many"] (spNext) := by
  refine T.F__law_next.ok sc__law_next (fun vs H Q E h => ?_) (fun cdv A outer s H vs Q E hr h => ?_)
  · obtain ⟨a, c, m, rfl, hd, hm, hm2, q⟩ := h
    rfl
  · have hu := hu_of hr
    obtain ⟨a, c, m, rfl, hd, hm, hm2, q⟩ := h
    refine ⟨_, (pss_cons (ps_set (i := 2) sc__law_next.nd rfl (Or.inl rfl) (pe_op op_mod (pe_ix (k_ix K rfl) (pv 0) pe_int (fun _ _ => rfl)) (pe_callB (call_maxQ rfl) (by rfl) T.n_max (by decide +kernel) (pa_cons pe_int (pa_cons (pe_callB (k_len K rfl) (by rfl) T.n_len (by decide +kernel) (pa_cons (pe_ix (k_ix K rfl) (pv 0) pe_int (fun _ _ => rfl)) pa_nil)) pa_nil))))) (pss_cons (ps_set (i := 3) sc__law_next.nd rfl (Or.inl rfl) (pe_ifExp (pt_cmpR (k_ne K rfl hr.units) (pe_ix (k_ix K rfl) (pv 0) pe_int (fun _ _ => rfl)) (pe_lst pa_nil) (nomark _)) (pe_ix (k_ix K rfl) (pe_ix (k_ix K rfl) (pv 0) pe_int (fun _ _ => rfl)) (pv 2) (fun _ _ => rfl)) pe_int)) (pss_cons (ps_if (pt_cmpR (op_ge) (pv 3) (pe_op op_pow pe_int pe_int) (nomark _)) (pss_cons (ps_asg (pe_op op_fdivW (pv 3) (pv 1)) (pg_sub (pe_ix (k_ix K rfl) (pv 0) pe_int (fun _ _ => rfl)) (pv 2) set_list)) (pss_one (ps_ret (pe_op op_mod (pv 3) (pv 1))))) pss_nil) (pss_cons (ps_asg (pe_op op_mod (pe_op (k_add K rfl) (pe_op (k_add K rfl) (pe_op (k_mul K rfl) (pe_ix (k_ix K rfl) (pv 0) pe_int (fun _ _ => rfl)) pe_int) (pe_op (k_mul K rfl) (pv 3) pe_int)) pe_int) pe_int) (pg_sub (pv 0) pe_int set_list)) (pss_cons (ps_asg (pe_op (k_add K rfl) (pe_ix (k_ix K rfl) (pv 0) pe_int (fun _ _ => rfl)) pe_int) (pg_sub (pv 0) pe_int set_list)) (pss_one (ps_ret (pe_op op_mod (pe_op op_fdivW (pe_ix (k_ix K rfl) (pv 0) pe_int (fun _ _ => rfl)) pe_int) (pv 1))))))))), ?_⟩
    dsimp only [cxOf, L2.start, List.map_cons, List.map_nil, List.length_cons, List.length_nil, List.replicate, List.cons_append, List.nil_append, Nat.reduceAdd, Nat.reduceSub]
    have hac : a ≠ c := hd.ne
    obtain ⟨s, i, cells, ha, hc, hs0, hi0, hl⟩ := id hd
    walk_at "rs"
    refine w_new (Nat.zero_le _) fun p H2 hp sm hp2 => ?_
    have ha2 := sm a _ ha
    have hc2 := sm c _ hc
    refine w_neLI (xs := cells) (ys := []) (SqL.of hc2) (SqL.of hp2) ?_
    walk_at "rs"
    have hj0 : 0 ≤ i % max 1 ((cells.map V.int).length : Int) := Int.emod_nonneg _ (by omega)
    have hj1 : i % max 1 ((cells.map V.int).length : Int) < max 1 ((cells.map V.int).length : Int) := Int.emod_lt_of_pos _ (by omega)
    generalize i % max 1 ((cells.map V.int).length : Int) = j at hj0 hj1 ⊢
    rw [List.length_map] at hj1
    have fin : ∀ (y : Int) (H3 H4 : Hp), 0 ≤ y → H3 = upd H2 a (.lst [.int y, .ref c, .int i]) → H4 = upd H3 a (.lst [.int y, .ref c, .int (i + 1)]) → Q (.int (y / 7 % m)) H4 := fun y H3 H4 hy e3 e4 => by
      subst e4 e3
      refine q _ _ (Int.emod_nonneg _ (by omega)) (Int.emod_lt_of_pos _ hm) ⟨y, i + 1, cells, upd_same, by rw [upd_ne hac.symm, upd_ne hac.symm]; exact hc2, hy, by omega, hl⟩ (fun b o hb nb nc => by rw [upd_ne nb, upd_ne nb]; exact sm b o hb) (DrawAt.tn hd fun b o hb nb nc => by rw [upd_ne nb, upd_ne nb]; exact sm b o hb)
    refine w_iteN (fun hne => ?_) (fun he => ?_)
    · have hlen : 0 < cells.length := List.length_pos_iff.mpr hne
      obtain ⟨x, hx⟩ : ∃ x, cells[j.toNat]? = some x := ⟨_, List.getElem?_eq_getElem (by omega)⟩
      walk_at "rs"
      refine w_ixL (SqL.of hc2) (atI_of hj0 (map_get hx)) ?_
      walk_at "rs"
      refine w_ite (fun hbig => ?_) (fun hsm => ?_)
      · walk_at "rs"
        refine w_setL hc2 (ixN_of hj0 (by rw [List.length_map]; omega)) fun H3 hH3 hc3 => ?_
        walk_at "rs"
        subst hH3
        refine q _ _ (Int.emod_nonneg _ (by omega)) (Int.emod_lt_of_pos _ hm) ⟨s, i, cells.set j.toNat (x / m), by rw [upd_ne hac]; exact ha2, by rw [upd_same, List.map_set], hs0, hi0, by rw [List.length_set]; exact hl⟩ (fun b o hb nb nc => by rw [upd_ne nc]; exact sm b o hb) (DrawAt.tn hd fun b o hb nb nc => by rw [upd_ne nc]; exact sm b o hb)
      · walk_at "rs"
        have hy := Int.emod_nonneg (s * 48271 + x * 69621 + 11) (show (2147483647 : Int) ≠ 0 by decide)
        generalize (s * 48271 + x * 69621 + 11) % 2147483647 = y at hy ⊢
        refine w_setL ha2 rfl fun H3 hH3 ha3 => ?_
        walk_at "rs"
        refine w_setL ha3 rfl fun H4 hH4 ha4 => ?_
        walk_at "rs"
        exact fin y H3 H4 hy hH3 hH4
    · walk_at "rs"
      refine w_ite (fun hbig => absurd hbig (by decide)) (fun hsm => ?_)
      walk_at "rs"
      have hy := Int.emod_nonneg (s * 48271 + 0 * 69621 + 11) (show (2147483647 : Int) ≠ 0 by decide)
      generalize (s * 48271 + 0 * 69621 + 11) % 2147483647 = y at hy ⊢
      refine w_setL ha2 rfl fun H3 hH3 ha3 => ?_
      walk_at "rs"
      refine w_setL ha3 rfl fun H4 hH4 ha4 => ?_
      walk_at "rs"
      exact fin y H3 H4 hy hH3 hH4

theorem ok__law_figures (T : Txt K mg base) : FnOk P wd K mg base CX0 2 T.f__law_figures T.fd__law_figures ["_law_h", "_law_base", "_law_many"] (spFigures) := by
  refine T.F__law_figures.ok sc__law_figures (fun vs H Q E h => ?_) (fun cdv A outer s H vs Q E hr h => ?_)
  · obtain ⟨a, c, b, m, rfl, hd, hb, hb2, hm, hm2, q⟩ := h
    rfl
  · have hu := hu_of hr
    obtain ⟨a, c, b, m, rfl, hd, hb, hb2, hm, hm2, q⟩ := h
    refine ⟨_, (pss_one (ps_ret (pe_callTy (k_tuple K rfl) (by rfl) T.n_tuple (by decide +kernel) (pa_cons (pe_lc (own := [("_law_k", 3)]) rfl sc__law_figures.nd (pi_range1 rfl T.n_range (pa_cons (pv 2) pa_nil)) (blkOk_by (own := [("_law_k", 3)]) (N := ["_law_h", "_law_base", "_law_many", "_law_k"]) (sc := defScope s__law_figures) (by decide +kernel)) (fun _ _ _ _ _ => (pg_name (i := 3) sc__law_figures.nd rfl (Or.inl rfl))) (fun _ _ _ _ _ => pts_nil) (fun _ _ _ _ _ => (pe_ix (k_ix K rfl) (pe_lst (pa_cons (pe_call (ok__law_next T) (hr.mono (by decide)) (by rfl) T.g__law_next T.F__law_next.kp T.b__law_next .nil pass0 (pa_cons (pv 0) (pa_cons (pv 1) pa_nil))) (pa_cons (pe_op op_sub (pv 1) pe_int) (pa_cons pe_int pa_nil)))) (pe_call (ok__law_next T) (hr.mono (by decide)) (by rfl) T.g__law_next T.F__law_next.kp T.b__law_next .nil pass0 (pa_cons (pv 0) (pa_cons pe_int pa_nil))) (fun _ _ => rfl)))) pa_nil)))), ?_⟩
    dsimp only [cxOf, L2.start, List.map_cons, List.map_nil, List.length_cons, List.length_nil, List.replicate, List.cons_append, List.nil_append, Nat.reduceAdd, Nat.reduceSub]
    walk_at "rs"
    refine w_rngI (by omega) ?_
    refine lq_range0 (fun D i H' => DrawAt H' a c ∧ Kp a c H H' ∧ ∃ ds : List Int, ds.length = i ∧ (∀ d ∈ ds, 0 ≤ d ∧ d < b) ∧ H' D = some (.lst (ds.map V.int))) (fun D H1 hD s h => ⟨hd.same s, s.kp, [], rfl, fun _ z => (List.not_mem_nil z).elim, h⟩) ?_ ?_
    · rintro D i H1 hD hi ⟨hd1, kp1, ds, hl, hds, hH⟩
      refine ⟨rfl, ?_⟩
      have hDa : ∀ {H' : Hp}, Kp a c H1 H' → H' D = some (.lst (ds.map V.int)) := fun k => by
        obtain ⟨s, i, cells, ha, hc, _⟩ := hd
        exact k D _ hH (ne_of_none ha hD).symm (ne_of_none hc hD).symm
      dsimp only [wipe]
      walk_at "rs"
      refine ⟨a, c, b, rfl, hd1, hb, hb2, fun r H2 hr0 hr1 hd2 kp2 tn2 => ?_⟩
      walk_at "rs"
      refine w_new (by decide) fun p H3 hp s3 h3 => ?_
      have hd3 := hd2.same s3
      walk_at "rs"
      refine ⟨a, c, 3, rfl, hd3, by decide, by decide, fun r3 H4 hr3 hr4 hd4 kp4 tn4 => ?_⟩
      have kp14 : Kp a c H1 H4 := (kp2.trans s3.kp).trans kp4
      have h4 : H4 p = some (.lst [.int r, .int (b - 1), .int 0]) := by
        obtain ⟨s, i, cells, ha, hc, _⟩ := hd2
        exact kp4 p _ h3 (ne_of_none ha hp).symm (ne_of_none hc hp).symm
      have hput : ∀ x : Int, 0 ≤ x → x < b → Put D (fun H' => DrawAt H' a c ∧ Kp a c H H' ∧ ∃ ds : List Int, ds.length = i + 1 ∧ (∀ d ∈ ds, 0 ≤ d ∧ d < b) ∧ H' D = some (.lst (ds.map V.int))) (.int x) H4 := fun x hx0 hx1 => by
        refine w_put (hDa kp14) (by rw [List.length_map]; omega) fun H5 e5 h5 => ?_
        have kp5 : Kp a c H H5 := e5 ▸ (kp1.trans kp14).mut hD
        refine ⟨?_, kp5, ds ++ [x], by rw [List.length_append, hl]; rfl, fun d hdm => ?_, by rw [h5, List.map_append]; rfl⟩
        · obtain ⟨s, i, cells, ha, hc, h0⟩ := hd4
          obtain ⟨s', i', cells', ha', hc', _⟩ := hd
          exact ⟨s, i, cells, by rw [e5, upd_ne (ne_of_none ha' hD)]; exact ha, by rw [e5, upd_ne (ne_of_none hc' hD)]; exact hc, h0⟩
        · rcases List.mem_append.mp hdm with h | h
          · exact hds d h
          · rw [List.mem_singleton.mp h]
            exact ⟨hx0, hx1⟩
      have hcase : r3 = 0 ∨ r3 = 1 ∨ r3 = 2 := by omega
      rcases hcase with rfl | rfl | rfl
      · walk_at "rs"
        exact hput r hr0 hr1
      · walk_at "rs"
        exact hput (b - 1) (by omega) (by omega)
      · walk_at "rs"
        exact hput 0 (by omega) (by omega)
    · rintro D H1 hD ⟨hd1, kp1, ds, hl, hds, hH⟩
      walk_at "rs"
      refine w_tupL (SqL.of hH) fun p H3 hp s3 h3 => ?_
      exact q ds p H3 hl hds (hd1.same s3) (kp1.trans s3.kp) (hd.tn (kp1.trans s3.kp)) h3

theorem ok__law_power (T : Txt K mg base) : FnOk P wd K mg base CX0 1 T.f__law_power T.fd__law_power ["_law_base", "_law_many"] (spPower) := by
  refine T.F__law_power.ok sc__law_power (fun vs H Q E h => ?_) (fun cdv A outer s H vs Q E hr h => ?_)
  · obtain ⟨b, m, rfl, hb, hb2, hm0, hm, q⟩ := h
    rfl
  · have hu := hu_of hr
    obtain ⟨b, m, rfl, hb, hb2, hm0, hm, q⟩ := h
    refine ⟨_, (pss_cons (ps_set (i := 2) sc__law_power.nd rfl (Or.inl rfl) pe_int) (pss_cons (ps_for PassesOwn.never rfl (pi_range1 rfl T.n_range (pa_cons (pv 1) pa_nil)) (pg_name (i := 3) sc__law_power.nd rfl (Or.inl rfl)) (pss_one (ps_set (i := 2) sc__law_power.nd rfl (Or.inl rfl) (pe_op (k_mul K rfl) (pv 2) (pv 0))))) (pss_one (ps_ret (pv 2))))), ?_⟩
    dsimp only [cxOf, L2.start, List.map_cons, List.map_nil, List.length_cons, List.length_nil, List.replicate, List.cons_append, List.nil_append, Nat.reduceAdd, Nat.reduceSub]
    walk_at "rs"
    refine w_rngI (by omega) ?_
    refine lp_range0 (fun i σ H' => ∃ x, σ = [some (.int b), some (.int m), some (.int (b ^ i)), x] ∧ H' = H) ⟨none, by rw [Int.pow_zero], rfl⟩ ?_ ?_
    · rintro i σ H' hi ⟨z, rfl, rfl⟩
      walk_at "rs"
      refine ⟨some (.int (i : Int)), ?_, rfl⟩
      rw [Int.pow_succ]
    · rintro σ H' ⟨x, rfl, rfl⟩
      walk_at "rs"
      exact q

theorem ok__law_number (T : Txt K mg base) : FnOk P wd K mg base CX0 2 T.f__law_number T.fd__law_number ["_law_base", "_law_figures_here"] (spNumber K) := by
  refine T.F__law_number.ok sc__law_number (fun vs H Q E h => ?_) (fun cdv A outer s H vs Q E hr h => ?_)
  · obtain ⟨b, a, ds, rfl, hS, hn, hd, hb1, hb2, q⟩ := h
    rfl
  · have hu := hu_of hr
    obtain ⟨b, a, ds, rfl, hS, hn, hd, hb1, hb2, q⟩ := h
    refine ⟨_, (pss_cons (ps_set (i := 2) sc__law_number.nd rfl (Or.inl rfl) pe_int) (pss_cons (ps_for PassesOwn.never rfl (pi_range1 rfl T.n_range (pa_cons (pe_callB (k_len K rfl) (by rfl) T.n_len (by decide +kernel) (pa_cons (pv 1) pa_nil)) pa_nil)) (pg_name (i := 3) sc__law_number.nd rfl (Or.inl rfl)) (pss_one (ps_set (i := 2) sc__law_number.nd rfl (Or.inl rfl) (pe_op (k_add K rfl) (pv 2) (pe_op (k_mul K rfl) (pe_ix (k_ix K rfl) (pv 1) (pv 3) (fun _ _ => rfl)) (pe_call (ok__law_power T) (hr.mono (by decide)) (by rfl) T.g__law_power T.F__law_power.kp T.b__law_power .nil pass0 (pa_cons (pv 0) (pa_cons (pv 3) pa_nil)))))))) (pss_one (ps_ret (pv 2))))), ?_⟩
    dsimp only [cxOf, L2.start, List.map_cons, List.map_nil, List.length_cons, List.length_nil, List.replicate, List.cons_append, List.nil_append, Nat.reduceAdd, Nat.reduceSub]
    walk_at "rs"
    refine w_rngI (by rw [List.length_map]; omega) ?_
    refine lp_range0 (fun i σ H' => ∃ x, σ = [some (.int b), some (.ref a), some (.int (val b (ds.take i))), x] ∧ H' = H) ⟨none, by rw [List.take_zero]; rfl, rfl⟩ ?_ ?_
    · rintro i σ H' hi ⟨z, rfl, rfl⟩
      have hi' : i < ds.length := by simpa using hi
      obtain ⟨d, hx⟩ : ∃ d, ds[i]? = some d := ⟨_, List.getElem?_eq_getElem hi'⟩
      have hdd := hd d (List.mem_of_getElem? hx)
      walk_at "rs"
      refine w_ixT hS (atI_nat (map_get hx)) ?_
      walk_at "rs"
      refine ⟨b, i, rfl, hb1, hb2, by omega, by omega, ?_⟩
      walk_at "rs"
      refine ⟨some (.int (i : Int)), ?_, rfl⟩
      rw [val_take hx]
      rfl
    · rintro σ H' ⟨x, rfl, rfl⟩
      walk_at "rs"
      have e : ds.take ((ds.map V.int).length : Int).toNat = ds := List.take_of_length_le (by simp)
      rw [e]
      exact q

theorem ok__law_row (T : Txt K mg base) : FnOk P wd K mg base CX0 2 T.f__law_row T.fd__law_row ["_law_base", "_law_number_here", "_law_many"] (spRow) := by
  refine T.F__law_row.ok sc__law_row (fun vs H Q E h => ?_) (fun cdv A outer s H vs Q E hr h => ?_)
  · obtain ⟨b, n, m, rfl, hb, hb2, hm, hm2, q⟩ := h
    rfl
  · have hu := hu_of hr
    obtain ⟨b, n, m, rfl, hb, hb2, hm, hm2, q⟩ := h
    refine ⟨_, (pss_one (ps_ret (pe_callTy (k_tuple K rfl) (by rfl) T.n_tuple (by decide +kernel) (pa_cons (pe_lc (own := [("_law_k", 3)]) rfl sc__law_row.nd (pi_range1 rfl T.n_range (pa_cons (pv 2) pa_nil)) (blkOk_by (own := [("_law_k", 3)]) (N := ["_law_base", "_law_number_here", "_law_many", "_law_k"]) (sc := defScope s__law_row) (by decide +kernel)) (fun _ _ _ _ _ => (pg_name (i := 3) sc__law_row.nd rfl (Or.inl rfl))) (fun _ _ _ _ _ => pts_nil) (fun _ _ _ _ _ => (pe_op op_mod (pe_op op_fdivW (pv 1) (pe_call (ok__law_power T) (hr.mono (by decide)) (by rfl) T.g__law_power T.F__law_power.kp T.b__law_power .nil pass0 (pa_cons (pv 0) (pa_cons (pv 3) pa_nil)))) (pv 0)))) pa_nil)))), ?_⟩
    dsimp only [cxOf, L2.start, List.map_cons, List.map_nil, List.length_cons, List.length_nil, List.replicate, List.cons_append, List.nil_append, Nat.reduceAdd, Nat.reduceSub]
    walk_at "rs"
    refine w_rngI (by omega) ?_
    refine lq_range0 (fun D i H' => Same H H' ∧ H' D = some (.lst ((rowOf b n i).map V.int))) (fun D H1 _ s h => ⟨s, h⟩) ?_ ?_
    · rintro D i H1 hD hi ⟨sm, hH⟩
      refine ⟨rfl, ?_⟩
      dsimp only [wipe]
      walk_at "rs"
      refine ⟨b, i, rfl, by omega, by omega, by omega, by omega, ?_⟩
      refine w_I (wide_div (b := 9000) (pow_pos hb _) (Nat.lt_of_lt_of_le (pow_bits hb hb2 _) (Nat.pow_le_pow_right (by decide) (by omega))) (by decide) (by decide)) ?_
      walk_at "rs"
      refine w_put hH (by simp [rowOf]; omega) fun H3 e3 h3 => ⟨e3 ▸ Same.mut sm hD, ?_⟩
      rw [h3]
      unfold rowOf
      rw [List.range_succ, List.map_append, List.map_append]
      rfl
    · rintro D H1 hD ⟨sm, hH⟩
      walk_at "rs"
      refine w_tupL (SqL.of hH) fun p H3 hp s3 h3 => ?_
      exact q p _ (sm.trans s3) (sm.free hp) h3

theorem ok_figures_of (T : Txt K mg base) : FnOk P wd K mg base CX0 1 T.f_figures_of T.fd_figures_of ["base", "number", "many"] (spFigures_of) := by
  refine T.F_figures_of.ok sc_figures_of (fun vs H Q E h => ?_) (fun cdv A outer s H vs Q E hr h => ?_)
  · obtain ⟨b, n, m, rfl, hb, hb2, hm, hm2, q⟩ := h
    rfl
  · have hu := hu_of hr
    obtain ⟨b, n, m, rfl, hb, hb2, hm, hm2, q⟩ := h
    refine ⟨_, (pss_cons (ps_set (i := 3) sc_figures_of.nd rfl (Or.inl rfl) (pe_lst pa_nil)) (pss_cons (ps_for PassesOwn.never rfl (pi_range1 rfl T.n_range (pa_cons (pv 2) pa_nil)) (pg_name (i := 4) sc_figures_of.nd rfl (Or.inl rfl)) (pss_cons (ps_expr (pe_bm PySem.F.plainAttrs_list PySem.F.slot_list_append PySem.F.type_list_append mt_append (pv 3) (pa_cons (pe_op op_mod (pv 1) (pv 0)) pa_nil))) (pss_one (ps_aug (i := 1) sc_figures_of.nd rfl (Or.inl rfl) (pv 0) ip_fdivW)))) (pss_one (ps_ret (pe_callTy (k_tuple K rfl) (by rfl) T.n_tuple (by decide +kernel) (pa_cons (pv 3) pa_nil)))))), ?_⟩
    dsimp only [cxOf, L2.start, List.map_cons, List.map_nil, List.length_cons, List.length_nil, List.replicate, List.cons_append, List.nil_append, Nat.reduceAdd, Nat.reduceSub]
    walk_at "rs"
    refine w_new (Nat.zero_le _) fun l H1 hl s1 hH1 => ?_
    walk_at "rs"
    refine w_rngI (by omega) ?_
    refine lp_range0 (fun i σ H' => ∃ x, σ = [some (.int b), some (.int (shr b n i)), some (.int m), some (.ref l), x] ∧ Same H H' ∧ H' l = some (.lst ((digs b n i).map V.int))) ⟨none, rfl, s1, hH1⟩ ?_ ?_
    · rintro i σ H' hi ⟨z, rfl, sm, hH⟩
      walk_at "rs"
      refine w_append hH (by rw [List.length_map, digs_len]; omega) fun H3 e3 hH3 => ?_
      walk_at "rs"
      refine w_pDiv (divW hb (by omega)) ?_
      walk_at "rs"
      refine ⟨_, rfl, e3 ▸ Same.mut sm hl, ?_⟩
      rw [hH3, digs_end, List.map_append]
      rfl
    · rintro σ H' ⟨x, rfl, sm, hH⟩
      walk_at "rs"
      refine w_tupL (SqL.of hH) fun p H3 hp s3 h3 => ?_
      exact q p _ (sm.trans s3) (sm.free hp) h3

theorem ok_told (T : Txt K mg base) : FnOk P wd K mg base CX0 1 T.f_told T.fd_told ["base", "figures"] (spTold K) := by
  refine T.F_told.ok sc_told (fun vs H Q E h => ?_) (fun cdv A outer s H vs Q E hr h => ?_)
  · obtain ⟨b, a, ds, rfl, hS, hb1, hb2, q⟩ := h
    rfl
  · have hu := hu_of hr
    obtain ⟨b, a, ds, rfl, hS, hb1, hb2, q⟩ := h
    refine ⟨_, (pss_cons (ps_set (i := 2) sc_told.nd rfl (Or.inl rfl) pe_int) (pss_cons (ps_for PassesOwn.never rfl (pi_revA (by rfl) T.n_reversed (pv 1)) (pg_name (i := 3) sc_told.nd rfl (Or.inl rfl)) (pss_one (ps_set (i := 2) sc_told.nd rfl (Or.inl rfl) (pe_op (k_add K rfl) (pe_op (k_mul K rfl) (pv 2) (pv 0)) (pv 3))))) (pss_one (ps_ret (pv 2))))), ?_⟩
    dsimp only [cxOf, L2.start, List.map_cons, List.map_nil, List.length_cons, List.length_nil, List.replicate, List.cons_append, List.nil_append, Nat.reduceAdd, Nat.reduceSub]
    walk_at "rs"
    refine w_revT hS ?_
    refine lp_revT (fun i σ H' => ∃ x, σ = [some (.int b), some (.ref a), some (.int (val b (ds.drop (ds.length - i)))), x] ∧ H' = H) ⟨none, by rw [Nat.sub_zero, List.drop_length]; rfl, rfl⟩ (fun _ _ _ ⟨_, _, e⟩ => e ▸ hS) ?_ ?_
    · rintro i x σ H' hi hx ⟨z, rfl, rfl⟩
      obtain ⟨d, hd, rfl⟩ := map_at hx
      rw [List.length_map] at hi hd
      walk_at "rs"
      refine ⟨some (.int d), ?_, rfl⟩
      rw [show ds.length - (i + 1) = ds.length - 1 - i by omega, val_drop hd, show ds.length - 1 - i + 1 = ds.length - i by omega]
    · rintro σ H' ⟨x, rfl, rfl⟩
      walk_at "rs"
      rw [List.length_map, Nat.sub_self]
      exact q

theorem ok_law (T : Txt K mg base) : FnOk P wd K mg base CX0 3 T.f_law T.fd_law ["_law_script"] (spLaw K) := by
  refine T.F_law.ok sc_law (fun vs H Q E h => ?_) (fun cdv A outer s H vs Q E hr h => ?_)
  · obtain ⟨a, ns, rfl, hS, hn, q⟩ := h
    rfl
  · have hu := hu_of hr
    obtain ⟨a, ns, rfl, hS, hn, q⟩ := h
    refine ⟨_, (pss_cons (ps_set (i := 1) sc_law.nd rfl (Or.inl rfl) (pe_lst (pa_cons pe_int (pa_cons (pe_callTy (k_list K rfl) (by rfl) T.n_list (by decide +kernel) (pa_cons (pv 0) pa_nil)) (pa_cons pe_int pa_nil))))) (pss_cons (ps_set (i := 2) sc_law.nd rfl (Or.inl rfl) (pe_op (k_add K rfl) pe_int (pe_call (ok__law_next T) (hr.mono (by decide)) (by rfl) T.g__law_next T.F__law_next.kp T.b__law_next .nil pass0 (pa_cons (pv 1) (pa_cons pe_int pa_nil))))) (pss_cons (ps_for PassesOwn.never rfl (pi_range1 rfl T.n_range (pa_cons pe_int pa_nil)) (pg_name (i := 3) sc_law.nd rfl (Or.inl rfl)) (pss_cons (ps_set (i := 4) sc_law.nd rfl (Or.inl rfl) (pe_call (ok__law_next T) (hr.mono (by decide)) (by rfl) T.g__law_next T.F__law_next.kp T.b__law_next .nil pass0 (pa_cons (pv 1) (pa_cons pe_int pa_nil)))) (pss_cons (ps_set (i := 5) sc_law.nd rfl (Or.inl rfl) (pe_call (ok__law_figures T) (hr.mono (by decide)) (by rfl) T.g__law_figures T.F__law_figures.kp T.b__law_figures .nil pass0 (pa_cons (pv 1) (pa_cons (pv 2) (pa_cons (pv 4) pa_nil))))) (pss_cons (ps_set (i := 6) sc_law.nd rfl (Or.inl rfl) (pe_call (ok_told T) (hr.mono (by decide)) (by rfl) T.g_told T.F_told.kp T.b_told .nil pass0 (pa_cons (pv 2) (pa_cons (pv 5) pa_nil)))) (pss_cons (ps_if (PW.pt (pw_or (pt_val (pe_callB (k_isi K rfl) (by rfl) T.n_isinstance (by decide +kernel) (pa_cons (pv 6) (pa_cons (pe_bltn (v := .ty "bool") (by rfl) T.n_bool (by decide +kernel) rfl) pa_nil)))) (pw_or (pt_not (pt_val (pe_callB (k_isi K rfl) (by rfl) T.n_isinstance (by decide +kernel) (pa_cons (pv 6) (pa_cons (pe_bltn (v := .ty "int") (by rfl) T.n_int (by decide +kernel) rfl) pa_nil))))) (pw_or1 (pt_cmpR (k_ne K rfl hr.units) (pv 6) (pe_call (ok__law_number T) (hr.mono (by decide)) (by rfl) T.g__law_number T.F__law_number.kp T.b__law_number .nil pass0 (pa_cons (pv 2) (pa_cons (pv 5) pa_nil))) (nomark _)))))) (pss_one (ps_ret pe_bl)) pss_nil) (pss_cons (ps_set (i := 7) sc_law.nd rfl (Or.inl rfl) (pe_call (ok_figures_of T) (hr.mono (by decide)) (by rfl) T.g_figures_of T.F_figures_of.kp T.b_figures_of .nil pass0 (pa_cons (pv 2) (pa_cons (pv 6) (pa_cons (pv 4) pa_nil))))) (pss_cons (ps_if (PW.pt (pw_or (pt_not (pt_val (pe_callB (k_isi K rfl) (by rfl) T.n_isinstance (by decide +kernel) (pa_cons (pv 7) (pa_cons (pe_bltn (v := .ty "tuple") (by rfl) T.n_tuple (by decide +kernel) rfl) pa_nil))))) (pw_or1 (pt_cmpR (k_ne K rfl hr.units) (pv 7) (pv 5) (nomark _))))) (pss_one (ps_ret pe_bl)) pss_nil) (pss_cons (ps_set (i := 8) sc_law.nd rfl (Or.inl rfl) (pe_op (k_add K rfl) (pv 6) (pe_op (k_mul K rfl) (pe_call (ok__law_power T) (hr.mono (by decide)) (by rfl) T.g__law_power T.F__law_power.kp T.b__law_power .nil pass0 (pa_cons (pv 2) (pa_cons (pv 4) pa_nil))) (pe_call (ok__law_next T) (hr.mono (by decide)) (by rfl) T.g__law_next T.F__law_next.kp T.b__law_next .nil pass0 (pa_cons (pv 1) (pa_cons (pe_op op_pow pe_int pe_int) pa_nil)))))) (pss_cons (ps_if (PW.pt (pw_or (pt_cmpR (k_ne K rfl hr.units) (pe_call (ok_figures_of T) (hr.mono (by decide)) (by rfl) T.g_figures_of T.F_figures_of.kp T.b_figures_of .nil pass0 (pa_cons (pv 2) (pa_cons (pv 8) (pa_cons (pv 4) pa_nil)))) (pv 5) (nomark _)) (pw_or1 (pt_cmpR (k_ne K rfl hr.units) (pe_call (ok_told T) (hr.mono (by decide)) (by rfl) T.g_told T.F_told.kp T.b_told .nil pass0 (pa_cons (pv 2) (pa_cons (pe_op (k_add K rfl) (pv 5) (pe_tup (pa_cons pe_int (pa_cons pe_int pa_nil)))) pa_nil))) (pv 6) (nomark _))))) (pss_one (ps_ret pe_bl)) pss_nil) (pss_one (ps_if (pt_cmpR (k_ne K rfl hr.units) (pe_call (ok_figures_of T) (hr.mono (by decide)) (by rfl) T.g_figures_of T.F_figures_of.kp T.b_figures_of .nil pass0 (pa_cons (pv 2) (pa_cons (pv 8) (pa_cons (pe_op (k_add K rfl) (pv 4) pe_int) pa_nil)))) (pe_call (ok__law_row T) (hr.mono (by decide)) (by rfl) T.g__law_row T.F__law_row.kp T.b__law_row .nil pass0 (pa_cons (pv 2) (pa_cons (pv 8) (pa_cons (pe_op (k_add K rfl) (pv 4) pe_int) pa_nil)))) (nomark _)) (pss_one (ps_ret pe_bl)) pss_nil))))))))))) (pss_one (ps_ret (pe_and (pe_cmpR (k_eq K rfl hr.units) (pe_call (ok_told T) (hr.mono (by decide)) (by rfl) T.g_told T.F_told.kp T.b_told .nil pass0 (pa_cons (pv 2) (pa_cons (pe_tup pa_nil) pa_nil))) pe_int (nomark _)) (pe_one (pe_cmpR (k_eq K rfl hr.units) (pe_call (ok_figures_of T) (hr.mono (by decide)) (by rfl) T.g_figures_of T.F_figures_of.kp T.b_figures_of .nil pass0 (pa_cons (pv 2) (pa_cons pe_int (pa_cons pe_int pa_nil)))) (pe_tup pa_nil) (nomark _))))))))), ?_⟩
    dsimp only [cxOf, L2.start, List.map_cons, List.map_nil, List.length_cons, List.length_nil, List.replicate, List.cons_append, List.nil_append, Nat.reduceAdd, Nat.reduceSub]
    walk_at "rs"
    refine w_lstL hS fun l H1 hl s1 h1 => ?_
    walk_at "rs"
    refine w_new (by decide) fun h H2 hh s2 h2 => ?_
    have hd : DrawAt H2 h l := ⟨19, 0, ns, h2, s2 l _ h1, by decide, by decide, hn⟩
    walk_at "rs"
    refine ⟨h, l, 11, rfl, hd, by decide, by decide, fun r H3 hr0 hr1 hd3 _ _ => ?_⟩
    walk_at "rs"
    refine w_rngI (by decide) ?_
    have hb0 : 2 ≤ 2 + r := by omega
    have hb1 : 2 + r ≤ 12 := by omega
    generalize 2 + r = b at hb0 hb1 ⊢
    refine lp_range0 (fun i σ H' => DrawAt H' h l ∧ ∃ x1 x2 x3 x4 x5 x6, σ = [some (.ref a), some (.ref h), some (.int b), x1, x2, x3, x4, x5, x6]) ⟨hd3, none, none, none, none, none, none, rfl⟩ ?_ ?_
    · rintro i σ H4 hi ⟨hd4, x1, x2, x3, x4, x5, x6, rfl⟩
      walk_at "rs"
      refine ⟨h, l, 17, rfl, hd4, by decide, by decide, fun m H5 hm0 hm1 hd5 _ _ => ?_⟩
      walk_at "rs"
      refine ⟨h, l, b, m, rfl, hd5, by omega, by omega, hm0, by omega, fun ds p H6 hds hdb hd6 _ _ h6 => ?_⟩
      have t6 : SqT K H6 p (ds.map V.int) := SqT.of h6
      walk_at "rs"
      refine ⟨b, p, ds, rfl, t6, by omega, by omega, ?_⟩
      walk_at "rs"
      refine ⟨b, p, ds, rfl, t6, by omega, fun d hd => by have := hdb d hd; omega, by omega, by omega, ?_⟩
      walk_at "rs"
      first | refine w_iteN (fun z => absurd rfl z) fun _ => ?_ | skip
      walk_at "rs"
      refine ⟨b, val b ds, m, rfl, by omega, by omega, hm0, by omega, fun p7 H7 s7 _ h7 => ?_⟩
      have e7 : digs b (val b ds) m.toNat = ds := by
        have e := digs_val (b := b) (by omega) 0 ds hdb
        rw [Int.mul_zero, Int.add_zero, hds] at e
        exact e
      rw [e7] at h7
      have t67 := s7.tn
      walk_at "rs"
      refine w_neTI (SqT.of h7) (SqT.tn t67 t6) ?_
      walk_at "rs"
      first | refine w_iteN (fun z => absurd rfl z) fun _ => ?_ | skip
      walk_at "rs"
      refine ⟨b, m, rfl, by omega, by omega, hm0, by omega, ?_⟩
      walk_at "rs"
      refine ⟨h, l, _, rfl, hd6.same s7, by decide, by decide, fun t H8 ht0 ht1 hd8 kp8 tn8 => ?_⟩
      have e6 : (10 : Int) ^ Int.toNat 6 = 1000000 := by decide
      rw [e6] at ht1
      walk_at "rs"
      refine ⟨b, _, m, rfl, by omega, by omega, hm0, by omega, fun p9 H9 s9 _ h9 => ?_⟩
      have e9 : digs b (val b ds + b ^ m.toNat * t) m.toNat = ds := by
        have e := digs_val (b := b) (by omega) t ds hdb
        rw [hds] at e
        exact e
      rw [e9] at h9
      have tn69 : Tn H6 H9 := (t67.trans tn8).trans s9.tn
      have t9 := SqT.tn tn69 t6
      walk_at "rs"
      refine w_neTI (SqT.of h9) t9 ?_
      walk_at "rs"
      first | refine w_iteN (fun z => absurd rfl z) fun _ => ?_ | skip
      walk_at "rs"
      refine w_new (by decide) fun p10 H10 _ s10 h10 => ?_
      refine w_catT (SqT.tn s10.tn t9) (SqT.of h10) (by simp; omega) fun p11 H11 s11 t11 => ?_
      walk_at "rs"
      refine ⟨b, p11, ds ++ [0, 0], rfl, by rw [List.map_append]; exact t11, by omega, by omega, ?_⟩
      rw [val_zeros]
      walk_at "rs"
      first | refine w_iteN (fun z => absurd rfl z) fun _ => ?_ | skip
      have hd11 : DrawAt H11 h l := ((hd8.same s9).same s10).same s11
      walk_at "rs"
      refine ⟨b, _, m + 3, rfl, by omega, by omega, by omega, by omega, fun p12 H12 s12 _ h12 => ?_⟩
      walk_at "rs"
      refine ⟨b, _, m + 3, rfl, by omega, by omega, by omega, by omega, fun p13 H13 s13 _ h13 => ?_⟩
      walk_at "rs"
      refine w_neTI (SqT.tn s13.tn (SqT.of h12)) (SqT.of h13) ?_
      walk_at "rs"
      refine w_iteN (fun z => absurd (digs_row (by omega) _ _) z) fun _ => ?_
      walk_at "rs"
      exact ⟨(hd11.same s12).same s13, _, _, _, _, _, _, rfl⟩
    · rintro σ H4 ⟨hd4, x1, x2, x3, x4, x5, x6, rfl⟩
      walk_at "rs"
      refine w_new (Nat.zero_le _) fun p H5 _ s5 h5 => ?_
      walk_at "rs"
      refine ⟨b, p, [], rfl, SqT.of h5, by omega, by omega, ?_⟩
      walk_at "rs"
      refine w_ite (fun _ => ?_) (fun z => absurd rfl z)
      walk_at "rs"
      refine ⟨b, 5, 0, rfl, by omega, by omega, by decide, by decide, fun p6 H6 _ s6 h6 => ?_⟩
      walk_at "rs"
      refine w_new (Nat.zero_le _) fun p7 H7 _ s7 h7 => ?_
      refine w_eqTI (xs := []) (ys := []) (SqT.tn s7.tn (SqT.of h6)) (SqT.of h7) ?_
      exact q H7
end
theorem all_mk {l : PySem.W.OpenLaw} {w : World} {K : PySem.W.Frag} {h : Heap} {mg : Str → Option Value} {fa : Addr} (X : K.In h) (G : h.Ns mainGlobals mg) (hfa : mg "law" = some (.ref fa))
    {od1 an1 : Option Addr} {sl1 : Array (Option Value)} {oc1 kV1 dc1 pm1 cd1 ct1 : Value} {f1 : Addr}
    {od2 an2 : Option Addr} {sl2 : Array (Option Value)} {oc2 kV2 dc2 pm2 cd2 ct2 : Value} {f2 : Addr}
    {od3 an3 : Option Addr} {sl3 : Array (Option Value)} {oc3 kV3 dc3 pm3 cd3 ct3 : Value} {f3 : Addr}
    {od4 an4 : Option Addr} {sl4 : Array (Option Value)} {oc4 kV4 dc4 pm4 cd4 ct4 : Value} {f4 : Addr}
    {od5 an5 : Option Addr} {sl5 : Array (Option Value)} {oc5 kV5 dc5 pm5 cd5 ct5 : Value} {f5 : Addr}
    {od6 an6 : Option Addr} {sl6 : Array (Option Value)} {oc6 kV6 dc6 pm6 cd6 ct6 : Value} {f6 : Addr}
    {od7 an7 : Option Addr} {sl7 : Array (Option Value)} {oc7 kV7 dc7 pm7 cd7 ct7 : Value} {f7 : Addr}
    {od8 an8 : Option Addr} {sl8 : Array (Option Value)} {oc8 kV8 dc8 pm8 cd8 ct8 : Value} {f8 : Addr}
    (a1 : PySem.W.nsIn K mainGlobals "_law_next" = some (some (.ref f1))) (l1 : K.lookup f1 = some ⟨oc1, od1, .func (PySem.W.fnOf "_law_next" "_law_next" (defArgs s__law_next) (defBody s__law_next) (defScope s__law_next) .none kV1 dc1 pm1 an1 cd1 ct1), sl1⟩) (c1 : PySem.W.codeIn K cd1 "_law_next" = true) (k1 : PySem.W.keepIn K (.ref f1) = true)
    (a2 : PySem.W.nsIn K mainGlobals "_law_figures" = some (some (.ref f2))) (l2 : K.lookup f2 = some ⟨oc2, od2, .func (PySem.W.fnOf "_law_figures" "_law_figures" (defArgs s__law_figures) (defBody s__law_figures) (defScope s__law_figures) .none kV2 dc2 pm2 an2 cd2 ct2), sl2⟩) (c2 : PySem.W.codeIn K cd2 "_law_figures" = true) (k2 : PySem.W.keepIn K (.ref f2) = true)
    (a3 : PySem.W.nsIn K mainGlobals "_law_power" = some (some (.ref f3))) (l3 : K.lookup f3 = some ⟨oc3, od3, .func (PySem.W.fnOf "_law_power" "_law_power" (defArgs s__law_power) (defBody s__law_power) (defScope s__law_power) .none kV3 dc3 pm3 an3 cd3 ct3), sl3⟩) (c3 : PySem.W.codeIn K cd3 "_law_power" = true) (k3 : PySem.W.keepIn K (.ref f3) = true)
    (a4 : PySem.W.nsIn K mainGlobals "_law_number" = some (some (.ref f4))) (l4 : K.lookup f4 = some ⟨oc4, od4, .func (PySem.W.fnOf "_law_number" "_law_number" (defArgs s__law_number) (defBody s__law_number) (defScope s__law_number) .none kV4 dc4 pm4 an4 cd4 ct4), sl4⟩) (c4 : PySem.W.codeIn K cd4 "_law_number" = true) (k4 : PySem.W.keepIn K (.ref f4) = true)
    (a5 : PySem.W.nsIn K mainGlobals "_law_row" = some (some (.ref f5))) (l5 : K.lookup f5 = some ⟨oc5, od5, .func (PySem.W.fnOf "_law_row" "_law_row" (defArgs s__law_row) (defBody s__law_row) (defScope s__law_row) .none kV5 dc5 pm5 an5 cd5 ct5), sl5⟩) (c5 : PySem.W.codeIn K cd5 "_law_row" = true) (k5 : PySem.W.keepIn K (.ref f5) = true)
    (a6 : PySem.W.nsIn K mainGlobals "figures_of" = some (some (.ref f6))) (l6 : K.lookup f6 = some ⟨oc6, od6, .func (PySem.W.fnOf "figures_of" "figures_of" (defArgs s_figures_of) (defBody s_figures_of) (defScope s_figures_of) .none kV6 dc6 pm6 an6 cd6 ct6), sl6⟩) (c6 : PySem.W.codeIn K cd6 "figures_of" = true) (k6 : PySem.W.keepIn K (.ref f6) = true)
    (a7 : PySem.W.nsIn K mainGlobals "told" = some (some (.ref f7))) (l7 : K.lookup f7 = some ⟨oc7, od7, .func (PySem.W.fnOf "told" "told" (defArgs s_told) (defBody s_told) (defScope s_told) .none kV7 dc7 pm7 an7 cd7 ct7), sl7⟩) (c7 : PySem.W.codeIn K cd7 "told" = true) (k7 : PySem.W.keepIn K (.ref f7) = true)
    (a8 : PySem.W.nsIn K mainGlobals "law" = some (some (.ref f8))) (l8 : K.lookup f8 = some ⟨oc8, od8, .func (PySem.W.fnOf "law" "law" (defArgs s_law) (defBody s_law) (defScope s_law) .none kV8 dc8 pm8 an8 cd8 ct8), sl8⟩) (c8 : PySem.W.codeIn K cd8 "law" = true) (k8 : PySem.W.keepIn K (.ref f8) = true)
    (z1 : PySem.W.nsIn K mainGlobals "bool" = some none) (z2 : PySem.W.nsIn K mainGlobals "int" = some none) (z3 : PySem.W.nsIn K mainGlobals "isinstance" = some none) (z4 : PySem.W.nsIn K mainGlobals "len" = some none) (z5 : PySem.W.nsIn K mainGlobals "list" = some none) (z6 : PySem.W.nsIn K mainGlobals "max" = some none) (z7 : PySem.W.nsIn K mainGlobals "range" = some none) (z8 : PySem.W.nsIn K mainGlobals "reversed" = some none) (z9 : PySem.W.nsIn K mainGlobals "tuple" = some none) :
    ∃ fd : FuncData, (∀ (s : Shared) (v : Value), BindsTo s fd ⟨[v], []⟩ [("_law_script", v)]) ∧ ∀ base : Heap, K.In base → base.Ns mainGlobals mg → FnOk l.prog w K mg base CX0 3 fa fd ["_law_script"] (spLaw K) := by
  have e := hfa.symm.trans (PySem.W.mg_of X G a8)
  cases e
  have b1 := (fun_mk (st := s__law_next) l1 c1 k1).binds (ps := ["_law_h", "_law_many"]) fun _ _ _ _ _ _ us hl => match us, hl with | [_, _], _ => rfl
  have b2 := (fun_mk (st := s__law_figures) l2 c2 k2).binds (ps := ["_law_h", "_law_base", "_law_many"]) fun _ _ _ _ _ _ us hl => match us, hl with | [_, _, _], _ => rfl
  have b3 := (fun_mk (st := s__law_power) l3 c3 k3).binds (ps := ["_law_base", "_law_many"]) fun _ _ _ _ _ _ us hl => match us, hl with | [_, _], _ => rfl
  have b4 := (fun_mk (st := s__law_number) l4 c4 k4).binds (ps := ["_law_base", "_law_figures_here"]) fun _ _ _ _ _ _ us hl => match us, hl with | [_, _], _ => rfl
  have b5 := (fun_mk (st := s__law_row) l5 c5 k5).binds (ps := ["_law_base", "_law_number_here", "_law_many"]) fun _ _ _ _ _ _ us hl => match us, hl with | [_, _, _], _ => rfl
  have b6 := (fun_mk (st := s_figures_of) l6 c6 k6).binds (ps := ["base", "number", "many"]) fun _ _ _ _ _ _ us hl => match us, hl with | [_, _, _], _ => rfl
  have b7 := (fun_mk (st := s_told) l7 c7 k7).binds (ps := ["base", "figures"]) fun _ _ _ _ _ _ us hl => match us, hl with | [_, _], _ => rfl
  have b8 := (fun_mk (st := s_law) l8 c8 k8).binds (ps := ["_law_script"]) fun _ _ _ _ _ _ us hl => match us, hl with | [_], _ => rfl
  exact ⟨PySem.W.fnOf "law" "law" (defArgs s_law) (defBody s_law) (defScope s_law) .none kV8 dc8 pm8 an8 cd8 ct8, fun s v => .of_eq rfl, fun base _ _ =>
    let T : Txt K mg base := {
    f__law_next := f1, fd__law_next := _, F__law_next := fun_mk (st := s__law_next) l1 c1 k1, g__law_next := PySem.W.mg_of X G a1, b__law_next := b1,
    f__law_figures := f2, fd__law_figures := _, F__law_figures := fun_mk (st := s__law_figures) l2 c2 k2, g__law_figures := PySem.W.mg_of X G a2, b__law_figures := b2,
    f__law_power := f3, fd__law_power := _, F__law_power := fun_mk (st := s__law_power) l3 c3 k3, g__law_power := PySem.W.mg_of X G a3, b__law_power := b3,
    f__law_number := f4, fd__law_number := _, F__law_number := fun_mk (st := s__law_number) l4 c4 k4, g__law_number := PySem.W.mg_of X G a4, b__law_number := b4,
    f__law_row := f5, fd__law_row := _, F__law_row := fun_mk (st := s__law_row) l5 c5 k5, g__law_row := PySem.W.mg_of X G a5, b__law_row := b5,
    f_figures_of := f6, fd_figures_of := _, F_figures_of := fun_mk (st := s_figures_of) l6 c6 k6, g_figures_of := PySem.W.mg_of X G a6, b_figures_of := b6,
    f_told := f7, fd_told := _, F_told := fun_mk (st := s_told) l7 c7 k7, g_told := PySem.W.mg_of X G a7, b_told := b7,
    f_law := fa, fd_law := _, F_law := fun_mk (st := s_law) l8 c8 k8, g_law := PySem.W.mg_of X G a8, b_law := b8,
    n_bool := PySem.W.mg_none_of X G z1,
    n_int := PySem.W.mg_none_of X G z2,
    n_isinstance := PySem.W.mg_none_of X G z3,
    n_len := PySem.W.mg_none_of X G z4,
    n_list := PySem.W.mg_none_of X G z5,
    n_max := PySem.W.mg_none_of X G z6,
    n_range := PySem.W.mg_none_of X G z7,
    n_reversed := PySem.W.mg_none_of X G z8,
    n_tuple := PySem.W.mg_none_of X G z9 }
    ok_law T⟩
end My
open PySem PySem.W PyProof.Rows
set_option maxRecDepth 100000 in
set_option maxHeartbeats 0 in
theorem PySem.Challenge.cw_crankdrum_k04_rows_of_figures_holds : PySem.Challenge.rw_crankdrum_k04_rows_of_figures.Holds := by
  w_on; o_law; k_head; (case hw => w_witness2)
  k_fill
  refine L2.walk_of (l := PySem.Challenge.rw_crankdrum_k04_rows_of_figures) (n := 63) (k := 3) (x := "_law_script") (CX := fun _ => L2.CX0) (sp := fun w => My.spLaw _) rfl (by decide) rfl ⟨rfl, by decide, by decide⟩ (fun w h Y => PySem.W.kIn_of Y) ?F (fun _ _ a ns hl _ hS => ⟨a, ns, rfl, hS, hl, fun _ => rfl⟩) (fun _ _ _ _ _ h => h)
  case F =>
    intro w mg fa h KX G hmg
    refine' My.all_mk KX G hmg ?a1 ?l1 ?c1 ?k1 ?a2 ?l2 ?c2 ?k2 ?a3 ?l3 ?c3 ?k3 ?a4 ?l4 ?c4 ?k4 ?a5 ?l5 ?c5 ?k5 ?a6 ?l6 ?c6 ?k6 ?a7 ?l7 ?c7 ?k7 ?a8 ?l8 ?c8 ?k8 ?z1 ?z2 ?z3 ?z4 ?z5 ?z6 ?z7 ?z8 ?z9
    (case a1 => k_is); (case l1 => k_is); (case c1 => k_is); (case k1 => k_is); (case a2 => k_is); (case l2 => k_is); (case c2 => k_is); (case k2 => k_is); (case a3 => k_is); (case l3 => k_is); (case c3 => k_is); (case k3 => k_is); (case a4 => k_is); (case l4 => k_is); (case c4 => k_is); (case k4 => k_is); (case a5 => k_is); (case l5 => k_is); (case c5 => k_is); (case k5 => k_is); (case a6 => k_is); (case l6 => k_is); (case c6 => k_is); (case k6 => k_is); (case a7 => k_is); (case l7 => k_is); (case c7 => k_is); (case k7 => k_is); (case a8 => k_is); (case l8 => k_is); (case c8 => k_is); (case k8 => k_is); (case z1 => k_is); (case z2 => k_is); (case z3 => k_is); (case z4 => k_is); (case z5 => k_is); (case z6 => k_is); (case z7 => k_is); (case z8 => k_is); (case z9 => k_is)
