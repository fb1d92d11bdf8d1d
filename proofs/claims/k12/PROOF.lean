import PyProof.Rows.All
import Wide.All
import OpenK.AllK
import Wide.FinOn
import HandS.ForMost
import HandS.Wide
import HandS.WideMore
import HandS.IsInst
import HandS.Rev
import HandS.RevRange
import HandS.TupAny
import HandS.TupMul
import KE.GoesEnum
import HandS.Iter
import PyProof.Rows.MatchSeqLen
import PyProof.RulesMatchSeq
import HandS.Strs
import HandS.SetFor
import PyProof.FactsAll.range_iterator_1
import HandS.Conv
import HandS.ExcIs
import HandS.ForExc
import HandS.RaiseMore
import HandS.FStr
import PyProof.Rows.RegStrFacts
import HandS.AnyAll
import HandS.EndTab
import PyProof.TupleOfGen
import PyProof.GenCompT
import KE.GoesMore
import KE.KNest
import HandS.EndOwn
import HandS.Dict
import HandS.DictComp
import HandS.More
import HandS.WordsDict
import PyProof.StrBlock
import HandS.ExcInit
import HandS.Lambda
import PySem.Challenge.RW_crankdrum_k12_handbooks_refused
set_option Elab.async false
set_option linter.all false
set_option maxRecDepth 100000
set_option maxHeartbeats 4000000
/-! own engine: what stays of tuples, data that never change, unions of rules, steps of readings -/
namespace Rn
open PySem PySem.Spec L2 RT

/-! ### heaps -/
/-- tuples stay -/
def Tn (H H' : Hp) : Prop := ∀ a xs, Rd H a (.tup xs) → Rd H' a (.tup xs)
theorem Tn.refl (H : Hp) : Tn H H := fun _ _ h => h
theorem Tn.trans {A B C : Hp} (x : Tn A B) (y : Tn B C) : Tn A C := fun a xs h => y a xs (x a xs h)
theorem _root_.L2.Same.tn {H H' : Hp} (e : Same H H') : Tn H H' := fun a xs h => by
  rcases h with h | ⟨o, h⟩
  · exact .inl (e _ _ h)
  · exact .inr ⟨o, e _ _ h⟩
theorem _root_.L2.Same.new {H : Hp} {p : Addr} {o : HO} (h : H p = none) : Same H (upd H p o) := fun b x e => by
  rw [upd_ne (ne_of_none e h)]
  exact e
/-- what H does not know may change behind -/
theorem _root_.L2.Same.mut {H H' : Hp} {p : Addr} {o : HO} (e : Same H H') (h : H p = none) : Same H (upd H' p o) := fun b x ha => by
  rw [upd_ne (ne_of_none ha h)]
  exact e b x ha
theorem _root_.L2.Same.back {H H' : Hp} {p : Addr} (e : Same H H') (h : H' p = none) : H p = none := e.free h
theorem SqT.tn {K : PySem.W.Frag} {H H' : Hp} {a : Addr} {xs : List V} (e : Tn H H') (h : SqT K H a xs) : SqT K H' a xs := by
  rcases h with h | h
  · exact .inl (e _ _ h)
  · exact .inr h
/-- all stays but what stands at the two -/
def Kp (a c : Addr) (H H' : Hp) : Prop := ∀ b o, H b = some o → b ≠ a → b ≠ c → H' b = some o
theorem Kp.refl (a c : Addr) (H : Hp) : Kp a c H H := fun _ _ h _ _ => h
theorem Kp.trans {a c : Addr} {A B C : Hp} (x : Kp a c A B) (y : Kp a c B C) : Kp a c A C := fun b o h n m => y b o (x b o h n m) n m
theorem _root_.L2.Same.kp {a c : Addr} {H H' : Hp} (e : Same H H') : Kp a c H H' := fun b o h _ _ => e b o h
theorem Kp.mut {a c D : Addr} {H H' : Hp} {o : HO} (k : Kp a c H H') (hD : H D = none) : Kp a c H (upd H' D o) := fun b o hb na nc => by
  rw [upd_ne (ne_of_none hb hD)]
  exact k b o hb na nc
theorem Kp.tn {a c : Addr} {H H' : Hp} {xs ys : List V} (k : Kp a c H H') (ha : H a = some (.lst xs)) (hc : H c = some (.lst ys)) : Tn H H' := fun b zs h => by
  rcases h with h | ⟨o, h⟩
  · exact .inl (k _ _ h (ne_of h ha (by intro z; cases z)) (ne_of h hc (by intro z; cases z)))
  · exact .inr ⟨o, k _ _ h (ne_of h ha (by intro z; cases z)) (ne_of h hc (by intro z; cases z))⟩

/-! ### data that never change -/
mutual
inductive Fz (K : PySem.W.Frag) (H : Hp) : V → PyData → Prop
  | non : Fz K H .non .none
  | bl (b : Bool) : Fz K H (.bl b) (.bool b)
  | int (i : Int) : Fz K H (.int i) (.int i)
  | str (x : Str) : Fz K H (.str x) (.str x)
  | tup {a : Addr} {xs : List V} {ds : List PyData} : SqT K H a xs → Fzs K H xs ds → Fz K H (.ref a) (.tuple ds)
inductive Fzs (K : PySem.W.Frag) (H : Hp) : List V → List PyData → Prop
  | nil : Fzs K H [] []
  | cons {v : V} {vs : List V} {d : PyData} {ds : List PyData} : Fz K H v d → Fzs K H vs ds → Fzs K H (v :: vs) (d :: ds)
end
mutual
theorem Fz.tn {K : PySem.W.Frag} {H H' : Hp} (e : Tn H H') : ∀ {v : V} {d : PyData}, Fz K H v d → Fz K H' v d
  | _, _, .non => .non
  | _, _, .bl b => .bl b
  | _, _, .int i => .int i
  | _, _, .str x => .str x
  | _, _, .tup h r => .tup (SqT.tn e h) (Fzs.tn e r)
theorem Fzs.tn {K : PySem.W.Frag} {H H' : Hp} (e : Tn H H') : ∀ {vs : List V} {ds : List PyData}, Fzs K H vs ds → Fzs K H' vs ds
  | _, _, .nil => .nil
  | _, _, .cons h r => .cons (Fz.tn e h) (Fzs.tn e r)
end
mutual
theorem Fz.dp {K : PySem.W.Frag} {H : Hp} : ∀ {v : V} {d : PyData}, Fz K H v d → Dp K H v d
  | _, _, .non => .non
  | _, _, .bl b => .bl b
  | _, _, .int i => .int i
  | _, _, .str x => .str x
  | _, _, .tup h r => .tup h (Fzs.dp r)
theorem Fzs.dp {K : PySem.W.Frag} {H : Hp} : ∀ {vs : List V} {ds : List PyData}, Fzs K H vs ds → DpAll K H vs ds
  | _, _, .nil => .nil
  | _, _, .cons h r => .cons (Fz.dp h) (Fzs.dp r)
end
theorem Fzs.ints {K : PySem.W.Frag} {H : Hp} : ∀ ns : List Int, Fzs K H (ns.map V.int) (ns.map PyData.int)
  | [] => .nil
  | n :: r => .cons (.int n) (Fzs.ints r)
theorem DpAll.ints {K : PySem.W.Frag} {H : Hp} : ∀ ns : List Int, DpAll K H (ns.map V.int) (ns.map PyData.int)
  | [] => .nil
  | n :: r => .cons (.int n) (DpAll.ints r)
theorem Fz.ints {K : PySem.W.Frag} {H : Hp} {a : Addr} {ns : List Int} (h : SqT K H a (ns.map V.int)) : Fz K H (.ref a) (.tuple (ns.map PyData.int)) := .tup h (Fzs.ints ns)

/-! ### unions of rules -/
section
variable {X : Cx}
def rCatS : R2 := fun x y H Q => ∃ i j, x = .str i ∧ y = .str j ∧ i.length + j.length ≤ sizeLine ∧ Q (.str (i ++ j)) H
def uAdd (K : PySem.W.Frag) : R2 := fun x y H Q => rI0 (fun i j => .int (i + j)) x y H Q ∨ rCatA K x y H Q ∨ rCat x y H Q ∨ rCatS x y H Q
theorem op_addU : OpR X (binaryOp .Add) (uAdd X.K) := op_add.or (op_catA.or (op_cat.or op_add_str))
def uMul (K : PySem.W.Frag) : R2 := fun x y H Q => rI CMul (fun i j => .int (i * j)) x y H Q ∨ rRepT K x y H Q ∨ rRep x y H Q ∨ rI CMulW (fun i j => .int (i * j)) x y H Q
theorem op_mulU : OpR X (binaryOp .Mult) (uMul X.K) := op_mul.or (op_repT.or (op_rep.or op_mulW))
def uEq (K : PySem.W.Frag) : R2 := fun x y H Q => rEq x y H Q ∨ rEqD K x y H Q
theorem op_eqU (hu : X.A.units + 64 < cLine) : OpR X (compareOp .Eq) (uEq X.K) := op_eq.or (op_eqD hu)
def uNe (K : PySem.W.Frag) : R2 := fun x y H Q => rNe x y H Q ∨ rNeD K x y H Q
theorem op_neU (hu : X.A.units + 64 < cLine) : OpR X (compareOp .NotEq) (uNe X.K) := op_ne.or (op_neD hu)
def rLenQ (K : PySem.W.Frag) : List V → Hp → VK → Prop := fun xs H Q => ∃ p ys, xs = [.ref p] ∧ (SqL K H p ys ∨ SqT K H p ys) ∧ Q (.int ys.length) H
def rLenT : List V → Hp → VK → Prop := fun xs H Q => ∃ z, xs = [.str z] ∧ z.length ≤ sizeLine ∧ Q (.int z.length) H
def uLen (K : PySem.W.Frag) : List V → Hp → VK → Prop := fun xs H Q => rLenQ K xs H Q ∨ rLenT xs H Q
theorem call_lenU : CallR X (.builtin "len") (uLen X.K) := call_len_seq.or call_len_str
def uSl (K : PySem.W.Frag) : V → Option Int → Option Int → Hp → VK → Prop := fun x lo hi H Q => rSlA K x lo hi H Q ∨ rSlL K x lo hi H Q
theorem sl_U : SlR X (uSl X.K) := SlR.or sl_tupA sl_list
theorem PI.or {tg it : Expr} {w1 w2 : TI} (a : PI X tg it w1) (b : PI X tg it w2) : PI X tg it (fun σ H R => w1 σ H R ∨ w2 σ H R) :=
  ⟨fun pins s σ H R I h => h.elim (fun h => a.run pins s σ H R I h) (fun h => b.run pins s σ H R I h)⟩
def uI (K : PySem.W.Frag) (te : TE) : TI := fun σ H R => iTup K te σ H R ∨ iList K te σ H R
theorem pi_U {tg l : Expr} {tl : TE} (hl : PE X l tl) : PI X tg l (uI X.K tl) := PI.or (pi_tup hl) (pi_list hl)
/-- the operators in place, at a local name -/
theorem ip_of {op : Operator} {r : R2} (h : OpR X (inplaceOp op) r) : PIp X op (fun x y H Q => r x y H Q) := by
  intro pins s σ H x y u v Q I rx ry hh
  exact augR h I rx ry hh
end

/-- tuple(list) -/
def rTupQ (K : PySem.W.Frag) : List V → Hp → VK → Prop := fun xs H Q => ∃ p ys, xs = [.ref p] ∧ ((SqL K H p ys ∧ ∀ l, H l = none → Q (.ref l) (upd H l (.tup ys))) ∨ (SqT K H p ys ∧ Q (.ref p) H))
theorem call_tupleQ {X : Cx} : CallR X (.type "tuple") (rTupQ X.K) := call_tuple_of
def rLstQ (K : PySem.W.Frag) : List V → Hp → VK → Prop := fun xs H Q => ∃ p ys, xs = [.ref p] ∧ (SqL K H p ys ∨ SqT K H p ys) ∧ ∀ l, H l = none → Q (.ref l) (upd H l (.lst ys))
theorem call_listQ {X : Cx} : CallR X (.type "list") (rLstQ X.K) := call_list_of
/-! the same, the written part said -/
section
variable {X : Cx} (K : PySem.W.Frag) (e : X.K = K)
include e
theorem k_add : OpR X (binaryOp .Add) (uAdd K) := e ▸ op_addU
theorem k_mul : OpR X (binaryOp .Mult) (uMul K) := e ▸ op_mulU
theorem k_eq (hu : X.A.units + 64 < cLine) : OpR X (compareOp .Eq) (uEq K) := e ▸ op_eqU hu
theorem k_ne (hu : X.A.units + 64 < cLine) : OpR X (compareOp .NotEq) (uNe K) := e ▸ op_neU hu
theorem k_len : CallR X (.builtin "len") (uLen K) := e ▸ call_lenU
theorem k_sl : SlR X (uSl K) := e ▸ sl_U
theorem k_ix : IxR X (rIx K) := e ▸ ix_seq
theorem k_in : OpR X (compareOp .In) (rIn K false) := e ▸ op_in_seq
theorem k_ni : OpR X (compareOp .NotIn) (rIn K true) := e ▸ op_notIn_seq
theorem k_isi : CallR X (.builtin "isinstance") (rIsi K) := e ▸ call_isi
theorem k_tuple : CallR X (.type "tuple") (rTupQ K) := e ▸ call_tupleQ
theorem k_list : CallR X (.type "list") (rLstQ K) := e ▸ call_listQ
theorem k_I {tg l : Expr} {tl : TE} (hl : PE X l tl) : PI X tg l (uI K tl) := e ▸ pi_U hl
end

/-! ### steps of readings -/
section
variable {K : PySem.W.Frag} {σ : St} {H : Hp} {D : Ends} {t u : TS} {te ta tb tc : TE} {tr : TA} {c c1 c2 : TT} {Q : VK} {QB : Bool → Hp → Prop} {QL : List V → Hp → Prop} {v x y : V} {i : Nat} {g : TG} {r r' : R2}
theorem w_seq (h : t { D with nx := u D } σ H) : tSeq t u D σ H := h
theorem w_asgN (h : te σ H fun x H1 => D.nx (σ.set i (some x)) H1) : tAsg te (gName i) D σ H := h
theorem w_asg (h : te σ H fun x H1 => g x σ H1 D.nx) : tAsg te g D σ H := h
theorem w_ret (h : te σ H D.rt) : tRet te D σ H := h
theorem w_retN (h : D.rt .non H) : tRetN D σ H := h
theorem w_drop (h : te σ H fun _ H1 => D.nx σ H1) : tDrop te D σ H := h
theorem w_next (h : D.nx σ H) : tNext D σ H := h
theorem w_brk (h : D.bk σ H) : tBreak D σ H := h
theorem w_cont (h : D.ct σ H) : tCont D σ H := h
theorem w_ifS (h : c σ H fun b H1 => if b = true then t D σ H1 else u D σ H1) : tIfS c t u D σ H := h
theorem w_par {i j : Nat} {ta : TA} (h : ta σ H fun vs H1 => ∃ v w, vs = [v, w] ∧ D.nx ((σ.set i (some v)).set j (some w)) H1) : tPar i j ta D σ H := h
theorem w_aug {ti : TIp} (hx : σ[i]? = some (some x)) (h : te σ H fun y H1 => ti x y H1 fun z H2 => D.nx (σ.set i (some z)) H2) : tAug i te ti D σ H := ⟨x, hx, h⟩
theorem w_var (hv : σ[i]? = some (some v)) (h : Q v H) : tVar i σ H Q := ⟨v, hv, h⟩
theorem w_c (h : Q v H) : tC v σ H Q := h
theorem w_op (h : ta σ H fun x H1 => tb σ H1 fun y H2 => r x y H2 Q) : tOp r ta tb σ H Q := h
theorem w_un {ru : V → Hp → VK → Prop} (h : ta σ H fun x H1 => ru x H1 Q) : tUn ru ta σ H Q := h
theorem w_neg {a : Int} (h : Q (.int (-a)) H) : rU (fun i => .int (-i)) (.int a) H Q := ⟨a, rfl, h⟩
theorem w_ifE (h : c σ H fun b H1 => if b = true then ta σ H1 Q else tb σ H1 Q) : tIf c ta tb σ H Q := h
theorem w_nil (h : QL [] H) : tNil σ H QL := h
theorem w_cons (h : ta σ H fun x H1 => tr σ H1 fun xs H2 => QL (x :: xs) H2) : tCons ta tr σ H QL := h
/-- a new object at p -/
def NewQ (H : Hp) (o : HO) (R : Addr → Hp → Prop) : Prop := ∀ p, H p = none → R p (upd H p o)
theorem w_tup (h : tr σ H fun xs H1 => xs.length ≤ sizeLine ∧ NewQ H1 (.tup xs) fun p H2 => Q (.ref p) H2) : tTup tr σ H Q := h
theorem w_lst (h : tr σ H fun xs H1 => xs.length ≤ sizeLine ∧ NewQ H1 (.lst xs) fun p H2 => Q (.ref p) H2) : tLst tr σ H Q := h
theorem w_new {n : Nat} {o : HO} {R : Addr → Hp → Prop} (hz : n ≤ 100000) (h : ∀ p H', H p = none → Same H H' → H' p = some o → R p H') : n ≤ sizeLine ∧ NewQ H o R := ⟨Nat.le_trans hz (by decide), fun p hp => h p _ hp (Same.new hp) upd_same⟩
theorem w_call {sp : Sp} {dvs : List V} {E : XK} (h : tr σ H fun vs H1 => sp (vs ++ dvs) H1 Q E) : tCall sp dvs E tr σ H Q := h
theorem w_cb {rc : List V → Hp → VK → Prop} (h : tr σ H fun vs H1 => rc vs H1 Q) : tCB rc tr σ H Q := h
theorem w_test (h : te σ H fun x H' => ∃ k, x = .bl k ∧ QB k H') : tTest te σ H QB := h
theorem w_tB (h : te σ H fun x H1 => ∃ c, x = .bl c ∧ QB c H1) : tB te σ H QB := h
theorem w_bl {b : Bool} {P : Bool → Prop} (h : P b) : ∃ k, V.bl b = .bl k ∧ P k := ⟨b, rfl, h⟩
theorem w_and (h : c1 σ H fun b H1 => if b = true then c2 σ H1 QB else QB false H1) : tAnd c1 c2 σ H QB := h
theorem w_or (h : c1 σ H fun b H1 => if b = true then QB true H1 else c2 σ H1 QB) : tOr c1 c2 σ H QB := h
theorem w_not (h : c1 σ H fun b H1 => QB (!b) H1) : tNot c1 σ H QB := h
theorem w_andV (h : ta σ H fun x H1 => ∃ c, x = .bl c ∧ if c = true then tb σ H1 Q else Q (.bl false) H1) : tAndV ta tb σ H Q := h
theorem w_orV (h : ta σ H fun x H1 => ∃ c, x = .bl c ∧ if c = true then Q (.bl true) H1 else tb σ H1 Q) : tOrV ta tb σ H Q := h
theorem w_notV (h : ta σ H fun x H1 => ∃ c, x = .bl c ∧ Q (.bl (!c)) H1) : tNotV ta σ H Q := h
theorem w_chain (h : ta σ H fun x H1 => tb σ H1 fun y H2 => r x y H2 fun z H3 => ∃ k, z = .bl k ∧ if k = true then tc σ H3 fun z2 H4 => r' y z2 H4 Q else Q (.bl false) H3) : tChain r r' ta tb tc σ H Q := h
/-! by values -/
theorem w_addI {a b : Int} (h : Q (.int (a + b)) H) : uAdd K (.int a) (.int b) H Q := .inl ⟨a, b, rfl, rfl, h⟩
theorem w_I0 {f : Int → Int → V} {a b : Int} (h : Q (f a b) H) : rI0 f (.int a) (.int b) H Q := ⟨a, b, rfl, rfl, h⟩
theorem w_I {C : Int → Int → Prop} {f : Int → Int → V} {a b : Int} (hc : C a b) (h : Q (f a b) H) : rI C f (.int a) (.int b) H Q := ⟨a, b, rfl, rfl, hc, h⟩
theorem w_mulI {a b : Int} (hc : CMul a b) (h : Q (.int (a * b)) H) : uMul K (.int a) (.int b) H Q := .inl ⟨a, b, rfl, rfl, hc, h⟩
theorem w_eqI {a b : Int} (h : Q (.bl (decide (a = b))) H) : uEq K (.int a) (.int b) H Q := .inl ⟨rfl, by
  have e : decide (V.int a = V.int b) = decide (a = b) := decide_eq_decide.mpr ⟨fun z => V.int.inj z, fun z => by rw [z]⟩
  rw [e]
  exact h⟩
theorem w_neI {a b : Int} (h : Q (.bl (!decide (a = b))) H) : uNe K (.int a) (.int b) H Q := .inl ⟨rfl, by
  have e : decide (V.int a = V.int b) = decide (a = b) := decide_eq_decide.mpr ⟨fun z => V.int.inj z, fun z => by rw [z]⟩
  rw [e]
  exact h⟩
theorem w_eqS {a b : Str} (h : Q (.bl (decide (a = b))) H) : uEq K (.str a) (.str b) H Q := .inl ⟨rfl, by
  have e : decide (V.str a = V.str b) = decide (a = b) := decide_eq_decide.mpr ⟨fun z => V.str.inj z, fun z => by rw [z]⟩
  rw [e]
  exact h⟩
theorem w_eqD {d e : PyData} (hd : Dp K H x d) (he : Dp K H y e) (sd : SeqAt.shaped d = true) (se : SeqAt.shaped e = true) (h : Q (.bl (PyData.eqv d e)) H) : uEq K x y H Q := .inr ⟨d, e, hd, he, sd, se, h⟩
theorem w_neD {d e : PyData} (hd : Dp K H x d) (he : Dp K H y e) (sd : SeqAt.shaped d = true) (se : SeqAt.shaped e = true) (h : Q (.bl (!PyData.eqv d e)) H) : uNe K x y H Q := .inr ⟨d, e, hd, he, sd, se, h⟩
theorem w_ixL {p : Addr} {xs : List V} {a : Int} (hl : SqL K H p xs) (ha : atI xs a = some v) (h : Q v H) : rIx K (.ref p) (.int a) H Q := .inl ⟨p, xs, a, v, rfl, rfl, hl, ha, h⟩
theorem w_ixT {p : Addr} {xs : List V} {a : Int} (hl : SqT K H p xs) (ha : atI xs a = some v) (h : Q v H) : rIx K (.ref p) (.int a) H Q := .inr (.inl ⟨p, xs, a, v, rfl, rfl, hl, ha, h⟩)
theorem w_lenL {p : Addr} {xs : List V} (hl : SqL K H p xs) (h : Q (.int xs.length) H) : uLen K [.ref p] H Q := .inl ⟨p, xs, rfl, .inl hl, h⟩
theorem w_lenT {p : Addr} {xs : List V} (hl : SqT K H p xs) (h : Q (.int xs.length) H) : uLen K [.ref p] H Q := .inl ⟨p, xs, rfl, .inr hl, h⟩
theorem w_iteT {A B : Prop} (h : A) : if true = true then A else B := by
  rw [if_pos rfl]
  exact h
theorem w_iteF {A B : Prop} (h : B) : if false = true then A else B := by
  rw [if_neg Bool.false_ne_true]
  exact h
theorem w_iteNF {A B : Prop} (h : A) : if (!false) = true then A else B := w_iteT h
theorem w_iteNT {A B : Prop} (h : B) : if (!true) = true then A else B := w_iteF h
theorem w_ite {p : Prop} [Decidable p] {A B : Prop} (h1 : p → A) (h2 : ¬ p → B) : if decide p = true then A else B := by
  by_cases h : p
  · rw [decide_eq_true h]
    exact w_iteT (h1 h)
  · rw [decide_eq_false h]
    exact w_iteF (h2 h)
theorem w_iteN {p : Prop} [Decidable p] {A B : Prop} (h1 : ¬ p → A) (h2 : p → B) : if (!decide p) = true then A else B := by
  by_cases h : p
  · rw [decide_eq_true h]
    exact w_iteF (h2 h)
  · rw [decide_eq_false h]
    exact w_iteT (h1 h)
theorem w_iteB {b : Bool} {A B : Prop} (h1 : b = true → A) (h2 : b = false → B) : if b = true then A else B := by
  cases b with
  | true => exact w_iteT (h1 rfl)
  | false => exact w_iteF (h2 rfl)
/-! loops -/
def Lp (J : It) (g : TG) (tb : TS) (D : Ends) (σ : St) (H : Hp) : Prop := ∃ W : Nat → Nat → St → Hp → Prop, (∃ m, W 0 m σ H) ∧ ∀ i m σ H, W i m σ H →
  (J.stop i H ∧ D.nx σ H) ∨ (J.go i H ∧ ∃ N : St → Hp → Prop, (∀ σ' H', N σ' H' → ∃ m', m' < m ∧ W (i + 1) m' σ' H') ∧ ∀ x H', J.yld i H x H' → g x σ H' fun σ2 H2 => tb { D with nx := N, ct := N, bk := D.nx } σ2 H2)
theorem w_for {wi : TI} {g : TG} {tb : TS} (h : wi σ H fun J H1 => Lp J g tb D σ H1) : tFor wi g tb D σ H := h
theorem w_rng1 {ta : TA} {R : It → Hp → Prop} (h : ta σ H fun vs H1 => ∃ j : Int, vs = [.int j] ∧ -(2 ^ 62) ≤ j ∧ j < 2 ^ 62 ∧ R (Itr 0 j.toNat) H1) : iRng1 ta σ H R := h
theorem w_rng1' {j : Int} {R : It → Hp → Prop} (h1 : -(2 ^ 62) ≤ j) (h2 : j < 2 ^ 62) (h : R (Itr 0 j.toNat) H) : ∃ i : Int, [V.int j] = [.int i] ∧ -(2 ^ 62) ≤ i ∧ i < 2 ^ 62 ∧ R (Itr 0 i.toNat) H := ⟨j, rfl, h1, h2, h⟩
theorem lp_range {lo : Int} {n : Nat} {g : TG} {tb : TS} (Pv : Nat → St → Hp → Prop) (h0 : Pv 0 σ H)
    (hs : ∀ i σ H, i < n → Pv i σ H → g (.int (lo + i)) σ H fun σ2 H2 => tb { D with nx := Pv (i + 1), ct := Pv (i + 1), bk := D.nx } σ2 H2) (hd : ∀ σ H, Pv n σ H → D.nx σ H) : Lp (Itr lo n) g tb D σ H := for_range Pv h0 hs hd
/-- a range from 0, its target a name -/
theorem lp_range0 {n : Nat} {j : Nat} {tb : TS} (Pv : Nat → St → Hp → Prop) (h0 : Pv 0 σ H)
    (hs : ∀ (i : Nat) σ H, i < n → Pv i σ H → tb { D with nx := Pv (i + 1), ct := Pv (i + 1), bk := D.nx } (σ.set j (some (.int (i : Int)))) H) (hd : ∀ σ H, Pv n σ H → D.nx σ H) : Lp (Itr 0 n) (gName j) tb D σ H :=
  for_range Pv h0 (fun i σ H hi p => by
    show tb _ (σ.set j (some (.int (0 + (i : Int))))) H
    rw [Int.zero_add]
    exact hs i σ H hi p) hd
/-- comprehensions -/
def Lq (J : It) (g : TG) (tt : TT) (te : TE) (vs : List Nat) (σ : St) (H1 : Hp) (Q : VK) : Prop := ∀ D, H1 D = none → ∃ W : Nat → Nat → Hp → Prop, (∃ m, W 0 m (upd H1 D (.lst []))) ∧ ∀ i m H, W i m H →
  (J.stop i H ∧ Q (.ref D) H) ∨ (J.go i H ∧ ∃ Nx : Hp → Prop, (∀ H', Nx H' → ∃ m', m' < m ∧ W (i + 1) m' H') ∧ ∀ x H', J.yld i H x H' → g x (wipe σ vs) H' fun σ2 H2 => wipe σ2 vs = wipe σ vs ∧ tt σ2 H2 fun b H3 =>
    if b = true then te σ2 H3 fun y H4 => ∃ acc, H4 D = some (.lst acc) ∧ acc.length < sizeLine ∧ Nx (upd H4 D (.lst (acc ++ [y]))) else Nx H3)
theorem w_lc {wi : TI} {tt : TT} {vs : List Nat} (h : wi σ H fun J H1 => Lq J g tt te vs σ H1 Q) : tLc wi g tt te vs σ H Q := h
/-- what a turn of a comprehension hands on: an item y more at D -/
def Put (D : Addr) (Nx : Hp → Prop) (y : V) (H4 : Hp) : Prop := ∃ acc, H4 D = some (.lst acc) ∧ acc.length < sizeLine ∧ Nx (upd H4 D (.lst (acc ++ [y])))
theorem w_put {D : Addr} {Nx : Hp → Prop} {acc : List V} (h1 : H D = some (.lst acc)) (h2 : acc.length < 100000) (h : ∀ H', H' = upd H D (.lst (acc ++ [y])) → H' D = some (.lst (acc ++ [y])) → Nx H') : Put D Nx y H := ⟨acc, h1, Nat.lt_of_lt_of_le h2 (by decide), h _ rfl upd_same⟩
/-- a comprehension without tests over a range from 0: Pv by the turn, the list's place, the heap -/
theorem lq_range0 {n : Nat} {j : Nat} {vs : List Nat} (Pv : Addr → Nat → Hp → Prop) (h0 : ∀ D H1, H D = none → Same H H1 → H1 D = some (.lst []) → Pv D 0 H1)
    (hs : ∀ D (i : Nat) H1, H D = none → i < n → Pv D i H1 → wipe ((wipe σ vs).set j (some (.int (i : Int)))) vs = wipe σ vs ∧ te ((wipe σ vs).set j (some (.int (i : Int)))) H1 (Put D (Pv D (i + 1)))) (hd : ∀ D H1, H D = none → Pv D n H1 → Q (.ref D) H1) : Lq (Itr 0 n) (gName j) tYes te vs σ H Q := fun D hD =>
  lc_range (Pv D) (h0 D _ hD (Same.new hD) upd_same) (fun i H1 hi p => by
    have e : (0 : Int) + (i : Int) = (i : Int) := Int.zero_add _
    have h := hs D i H1 hD hi p
    rw [← e] at h
    exact ⟨h.1, w_iteT (B := Pv D (i + 1) H1) h.2⟩) (fun H1 p => hd D H1 hD p)
/-- reversed over a tuple, its target a name -/
theorem lp_revT {a : Addr} {xs : List V} {j : Nat} {tb : TS} (Pv : Nat → St → Hp → Prop) (h0 : Pv 0 σ H) (hq : ∀ i σ H, Pv i σ H → SqT K H a xs)
    (hs : ∀ (i : Nat) (x : V) (σ : St) (H : Hp), i < xs.length → xs[xs.length - 1 - i]? = some x → Pv i σ H → tb { D with nx := Pv (i + 1), ct := Pv (i + 1), bk := D.nx } (σ.set j (some x)) H) (hd : ∀ σ H, Pv xs.length σ H → D.nx σ H) :
    Lp (ItvT K a xs.length) (gName j) tb D σ H := for_ItvT Pv h0 hq hs hd
theorem lp_tup {a : Addr} {xs : List V} {tb : TS} (Pv : Nat → St → Hp → Prop) (h0 : Pv 0 σ H) (hl : ∀ i σ H, i ≤ xs.length → Pv i σ H → SqT K H a xs)
    (hs : ∀ i x σ H, xs[i]? = some x → Pv i σ H → g x σ H fun σ2 H2 => tb { D with nx := Pv (i + 1), ct := Pv (i + 1), bk := D.nx } σ2 H2) (hd : ∀ σ H, Pv xs.length σ H → D.nx σ H) : Lp (Itt K a) g tb D σ H := for_tup Pv h0 hl hs hd
theorem lp_list {a : Addr} {xs : List V} {tb : TS} (Pv : Nat → St → Hp → Prop) (h0 : Pv 0 σ H) (hl : ∀ i σ H, i ≤ xs.length → Pv i σ H → SqL K H a xs)
    (hs : ∀ i x σ H, xs[i]? = some x → Pv i σ H → g x σ H fun σ2 H2 => tb { D with nx := Pv (i + 1), ct := Pv (i + 1), bk := D.nx } σ2 H2) (hd : ∀ σ H, Pv xs.length σ H → D.nx σ H) : Lp (Itl K a) g tb D σ H := for_list Pv h0 hl hs hd
theorem w_uIT {tl : TE} {a : Addr} {xs : List V} {R : It → Hp → Prop} (h : tl σ H fun x H1 => x = .ref a ∧ SqT K H1 a xs ∧ R (Itt K a) H1) (mono : ∀ Q Q' : VK, (∀ x H, Q x H → Q' x H) → tl σ H Q → tl σ H Q') : uI K tl σ H R :=
  .inl (mono _ _ (fun x H1 ⟨e, s, r⟩ => ⟨a, e, ⟨xs, s⟩, r⟩) h)
def RevQ (K : PySem.W.Frag) (R : It → Hp → Prop) (v : V) (H1 : Hp) : Prop := ∃ (a : Addr) (xs : List V), v = .ref a ∧ ((SqL K H1 a xs ∧ R (Itv K a xs.length) H1) ∨ (SqT K H1 a xs ∧ R (ItvT K a xs.length) H1))
theorem w_rev {R : It → Hp → Prop} (h : te σ H fun v H1 => RevQ K R v H1) : iRevA K te σ H R := h
theorem w_revT {R : It → Hp → Prop} {a : Addr} {xs : List V} (hS : SqT K H a xs) (h : R (ItvT K a xs.length) H) : RevQ K R (.ref a) H := ⟨a, xs, rfl, .inr ⟨hS, h⟩⟩
def RngQ (R : It → Hp → Prop) (vs : List V) (H1 : Hp) : Prop := ∃ j : Int, vs = [.int j] ∧ -(2 ^ 62) ≤ j ∧ j < 2 ^ 62 ∧ R (Itr 0 j.toNat) H1
theorem w_rngA {ta : TA} {R : It → Hp → Prop} (h : ta σ H fun vs H1 => RngQ R vs H1) : iRng1 ta σ H R := h
theorem w_rngI {j : Int} {R : It → Hp → Prop} (h1 : -(2 ^ 62) ≤ j ∧ j < 2 ^ 62) (h : R (Itr 0 j.toNat) H) : RngQ R [V.int j] H := ⟨j, rfl, h1.1, h1.2, h⟩
theorem w_bm {T : String} {rm : V → List V → Hp → VK → Prop} {to : TE} {tr : TA} (h : to σ H fun x H1 => tyV K T x H1 ∧ tr σ H1 fun xs H2 => rm x xs H2 Q) : tBM K T rm to tr σ H Q := h
theorem w_bm0 {T : String} {rm : V → List V → Hp → VK → Prop} {to : TE} (h : to σ H fun x H1 => tyV K T x H1 ∧ rm x [] H1 Q) : tBM0 K T rm to σ H Q := h
theorem w_tyL {l : Addr} {xs : List V} {P : Prop} (hl : H l = some (.lst xs)) (h : P) : tyV K "list" (.ref l) H ∧ P := ⟨.inl ⟨rfl, _, SqL.of hl⟩, h⟩
theorem w_append {l : Addr} {xs : List V} {y : V} (hl : H l = some (.lst xs)) (hz : xs.length ≤ 100000) (h : ∀ H', H' = upd H l (.lst (xs ++ [y])) → H' l = some (.lst (xs ++ [y])) → Q .non H') : rAppend (.ref l) [y] H Q := ⟨l, xs, y, rfl, rfl, hl, Nat.lt_of_le_of_lt hz (by decide), h _ rfl upd_same⟩
theorem w_tupL {p : Addr} {xs : List V} (hl : SqL K H p xs) (h : ∀ l H', H l = none → Same H H' → H' l = some (.tup xs) → Q (.ref l) H') : rTupQ K [.ref p] H Q := ⟨p, xs, rfl, .inl ⟨hl, fun l hl => h l _ hl (Same.new hl) upd_same⟩⟩
theorem w_tupT {p : Addr} {xs : List V} (hl : SqT K H p xs) (h : Q (.ref p) H) : rTupQ K [.ref p] H Q := ⟨p, xs, rfl, .inr ⟨hl, h⟩⟩
theorem w_lstL {p : Addr} {xs : List V} (hl : SqL K H p xs) (h : ∀ l H', H l = none → Same H H' → H' l = some (.lst xs) → Q (.ref l) H') : rLstQ K [.ref p] H Q := ⟨p, xs, rfl, .inl hl, fun l hl => h l _ hl (Same.new hl) upd_same⟩
theorem w_lstT {p : Addr} {xs : List V} (hl : SqT K H p xs) (h : ∀ l H', H l = none → Same H H' → H' l = some (.lst xs) → Q (.ref l) H') : rLstQ K [.ref p] H Q := ⟨p, xs, rfl, .inr hl, fun l hl => h l _ hl (Same.new hl) upd_same⟩
end
section
variable {X : Cx}
def pAdd : TIp := rI0 fun i j => .int (i + j)
def pSub : TIp := rI0 fun i j => .int (i - j)
def pDiv : TIp := rI CDivW fun i j => .int (i / j)
def pMod : TIp := rI (fun _ j => 0 < j) fun i j => .int (i % j)
def pMul : TIp := rI CMul fun i j => .int (i * j)
theorem ip_addI : PIp X .Add pAdd := ip_of iop_add
theorem ip_subI : PIp X .Sub pSub := ip_of iop_sub
theorem ip_fdivW : PIp X .FloorDiv pDiv := ip_of iop_fdivW
theorem ip_modI : PIp X .Mod pMod := ip_of iop_mod
theorem ip_mulI : PIp X .Mult pMul := ip_of iop_mul
end
section
variable {H : Hp} {Q : VK} {a b : Int}
theorem w_pAdd (h : Q (.int (a + b)) H) : pAdd (.int a) (.int b) H Q := w_I0 h
theorem w_pSub (h : Q (.int (a - b)) H) : pSub (.int a) (.int b) H Q := w_I0 h
theorem w_pDiv (hc : CDivW a b) (h : Q (.int (a / b)) H) : pDiv (.int a) (.int b) H Q := w_I hc h
theorem w_pMod (hc : 0 < b) (h : Q (.int (a % b)) H) : pMod (.int a) (.int b) H Q := w_I hc h
theorem w_pMul (hc : CMul a b) (h : Q (.int (a * b)) H) : pMul (.int a) (.int b) H Q := w_I hc h
end
theorem divW {a b : Int} (h : 0 < b) (h2 : b < 2 ^ 30) : CDivW a b := wide_div (b := 30) h (by omega) (by decide) (by decide)
/-! data compared -/
theorem lay_ints : ∀ ns : List Int, PyData.canLayAll0 (ns.map PyData.int) = true ∧ PyData.depthAll (ns.map PyData.int) ≤ 1
  | [] => by simp [PyData.canLayAll0, PyData.depthAll]
  | n :: r => by
    have h := lay_ints r
    simp only [List.map_cons, PyData.canLayAll0, PyData.depthAll, PyData.canLay0, PyData.depth, h.1, Bool.and_self, true_and]
    omega
theorem shaped_list {ns : List Int} : SeqAt.shaped (.list (ns.map PyData.int)) = true := by
  have h := lay_ints ns
  exact Bool.and_eq_true_iff.mpr ⟨by simp only [PyData.canLay0]; exact h.1, decide_eq_true (by simp only [PyData.depth]; have := h.2; omega)⟩
theorem shaped_tuple {ns : List Int} : SeqAt.shaped (.tuple (ns.map PyData.int)) = true := by
  have h := lay_ints ns
  exact Bool.and_eq_true_iff.mpr ⟨by simp only [PyData.canLay0]; exact h.1, decide_eq_true (by simp only [PyData.depth]; have := h.2; omega)⟩
theorem eqvAll_ints : ∀ xs ys : List Int, PyData.eqvAll (xs.map PyData.int) (ys.map PyData.int) = decide (xs = ys)
  | [], [] => by simp [PyData.eqvAll]
  | [], _ :: _ => by simp [PyData.eqvAll]
  | _ :: _, [] => by simp [PyData.eqvAll]
  | x :: xs, y :: ys => by
    have h := eqvAll_ints xs ys
    rw [List.map_cons, List.map_cons, PyData.eqvAll, h]
    simp [PyData.eqv, Bool.beq_eq_decide_eq]
theorem eqv_listI (xs ys : List Int) : PyData.eqv (.list (xs.map PyData.int)) (.list (ys.map PyData.int)) = decide (xs = ys) := by
  rw [PyData.eqv]
  exact eqvAll_ints xs ys
theorem eqv_tupI (xs ys : List Int) : PyData.eqv (.tuple (xs.map PyData.int)) (.tuple (ys.map PyData.int)) = decide (xs = ys) := by
  rw [PyData.eqv]
  exact eqvAll_ints xs ys
section
variable {K : PySem.W.Frag} {H : Hp} {Q : VK}
theorem w_neLI {a b : Addr} {xs ys : List Int} (ha : SqL K H a (xs.map V.int)) (hb : SqL K H b (ys.map V.int)) (h : Q (.bl (!decide (xs = ys))) H) : uNe K (.ref a) (.ref b) H Q :=
  w_neD (.lst ha (DpAll.ints xs)) (.lst hb (DpAll.ints ys)) shaped_list shaped_list (by rw [eqv_listI]; exact h)
theorem w_neTI {a b : Addr} {xs ys : List Int} (ha : SqT K H a (xs.map V.int)) (hb : SqT K H b (ys.map V.int)) (h : Q (.bl (!decide (xs = ys))) H) : uNe K (.ref a) (.ref b) H Q :=
  w_neD (.tup ha (DpAll.ints xs)) (.tup hb (DpAll.ints ys)) shaped_tuple shaped_tuple (by rw [eqv_tupI]; exact h)
theorem w_eqTI {a b : Addr} {xs ys : List Int} (ha : SqT K H a (xs.map V.int)) (hb : SqT K H b (ys.map V.int)) (h : Q (.bl (decide (xs = ys))) H) : uEq K (.ref a) (.ref b) H Q :=
  w_eqD (.tup ha (DpAll.ints xs)) (.tup hb (DpAll.ints ys)) shaped_tuple shaped_tuple (by rw [eqv_tupI]; exact h)
def rMaxQ : List V → Hp → VK → Prop := fun xs H Q => ∃ i j, xs = [.int i, .int j] ∧ Q (.int (if j > i then j else i)) H
def rMinQ : List V → Hp → VK → Prop := fun xs H Q => ∃ i j, xs = [.int i, .int j] ∧ Q (.int (if j < i then j else i)) H
theorem call_maxQ {X : Cx} (hc : X.calm = true) : CallR X (.builtin "max") rMaxQ := call_max2 hc
theorem call_minQ {X : Cx} (hc : X.calm = true) : CallR X (.builtin "min") rMinQ := call_min2 hc
theorem w_max {a b : Int} (h : Q (.int (max a b)) H) : rMaxQ [.int a, .int b] H Q := ⟨a, b, rfl, by
  have e : (if b > a then b else a) = max a b := by
    rw [Int.max_def]
    split <;> split <;> omega
  rw [e]
  exact h⟩
theorem w_min {a b : Int} (h : Q (.int (min a b)) H) : rMinQ [.int a, .int b] H Q := ⟨a, b, rfl, by
  have e : (if b < a then b else a) = min a b := by
    rw [Int.min_def]
    split <;> split <;> omega
  rw [e]
  exact h⟩
theorem w_sub {to ti : TE} {ts : TSet} {σ : St} {v : V} {R : St → Hp → Prop} (h : to σ H fun o H1 => ti σ H1 fun i H2 => ts o i v H2 fun H3 => R σ H3) : gSub to ti ts v σ H R := h
theorem w_setL {p : Addr} {xs : List V} {k : Int} {j : Nat} {v : V} {R : Hp → Prop} (hl : H p = some (.lst xs)) (hk : ixN xs.length k = some j) (h : ∀ H', H' = upd H p (.lst (xs.set j v)) → H' p = some (.lst (xs.set j v)) → R H') : rSetL (.ref p) (.int k) v H R := ⟨p, xs, k, j, rfl, rfl, hl, hk, h _ rfl upd_same⟩
end
section
variable {K : PySem.W.Frag} {H : Hp} {Q : VK}
theorem w_isi {x : V} {a b : String} {r : Bool} (ht : TyX K H x (.type a)) (hk : kitB a b = some r) (h : Q (.bl r) H) : rIsi K [x, .ty b] H Q := ⟨x, .ty b, .type a, .type b, r, rfl, .ty b, ht, kit_ty hk, h⟩
theorem w_isiII {n : Int} (h : Q (.bl true) H) : rIsi K [.int n, .ty "int"] H Q := w_isi (.base (.int n)) (by decide +kernel) h
theorem w_isiIB {n : Int} (h : Q (.bl false) H) : rIsi K [.int n, .ty "bool"] H Q := w_isi (.base (.int n)) (by decide +kernel) h
theorem w_isiBB {n : Bool} (h : Q (.bl true) H) : rIsi K [.bl n, .ty "bool"] H Q := w_isi (.base (.bl n)) (by decide +kernel) h
theorem w_isiTT {p : Addr} {xs : List V} (hp : H p = some (.tup xs)) (h : Q (.bl true) H) : rIsi K [.ref p, .ty "tuple"] H Q := w_isi (.base (.tup hp)) (by decide +kernel) h
theorem w_isiLL {p : Addr} {xs : List V} (hp : H p = some (.lst xs)) (h : Q (.bl true) H) : rIsi K [.ref p, .ty "list"] H Q := w_isi (.base (.lst hp)) (by decide +kernel) h
theorem w_catT {a b : Addr} {xs ys : List V} (ha : SqT K H a xs) (hb : SqT K H b ys) (hz : xs.length + ys.length ≤ 100000) (h : ∀ p H', Same H H' → SqT K H' p (xs ++ ys) → Q (.ref p) H') : uAdd K (.ref a) (.ref b) H Q := .inr (.inl ⟨a, b, xs, ys, rfl, rfl, ha, hb, Nat.le_trans hz (by decide), fun e => h b H (Same.refl H) (by rw [e]; exact hb), fun _ e => h a H (Same.refl H) (by rw [e, List.append_nil]; exact ha), fun _ _ p hp => h p _ (Same.new hp) (SqT.of upd_same)⟩)
end
theorem ixN_of {n : Nat} {k : Int} (h0 : 0 ≤ k) (h : k < n) : ixN n k = some k.toNat := by
  unfold ixN
  rw [if_pos h0, if_pos h]
theorem atI_of {α : Type} {xs : List α} {k : Int} {x : α} (h0 : 0 ≤ k) (h : xs[k.toNat]? = some x) : atI xs k = some x := by
  have hl := (List.getElem?_eq_some_iff.mp h).1
  unfold atI
  rw [ixN_of h0 (by omega)]
  exact h
theorem length_mapI {α β : Type} {f : α → β} {l : List α} : (l.map f).length = l.length := List.length_map f
/-! ints in lists -/
theorem map_get {ns : List Int} {i : Nat} {n : Int} (h : ns[i]? = some n) : (ns.map V.int)[i]? = some (.int n) := by
  rw [List.getElem?_map, h]
  rfl
theorem map_at {ns : List Int} {i : Nat} {x : V} (h : (ns.map V.int)[i]? = some x) : ∃ n, ns[i]? = some n ∧ x = .int n := by
  rw [List.getElem?_map] at h
  cases e : ns[i]? with
  | none =>
    rw [e] at h
    cases h
  | some n =>
    rw [e] at h
    exact ⟨n, rfl, (Option.some.inj h).symm⟩
end Rn
set_option Elab.async false
set_option linter.all false
set_option maxRecDepth 100000
set_option maxHeartbeats 4000000
/-! enumerate of a tuple -/
namespace PySem
/-- the enumerate object over the iterator at i -/
def enumRec (i : Addr) : Obj := { cls := .type "enumerate", data := .fields #[.none, .bool false, .ref i, rawInt 0, .none, .none] }
theorem enum1_meets {v : Value} {ob : Obj} {Hs : Heap → Prop} (bg : Begins v ob Hs) : Meets (Builtin.«enumerate.__new__» ⟨[.type "enumerate", v], []⟩)
    (fun _ R s => Hs s.heap ∧ R (.ok (.ret (.ref (s.heap.push ob).objs.size))) { s with heap := (s.heap.push ob).push (enumRec s.heap.objs.size) }) :=
  .of_wp fun pr wo ar res st hyp => by
    obtain ⟨hh, g, d, tk, os⟩ := st
    obtain ⟨hv, hyp⟩ := hyp
    have sub := sub_enumerate
    have goes : ∀ {A2 : Around} {E2 : Value → Shared → Prop} {Q2 : Value → Shared → Prop}, Q2 (.ref hh.objs.size) ⟨hh.push ob, g, d, tk, os⟩ → wpAny (model pr wo) A2 (pyIter v) Q2 E2 ⟨hh, g, d, tk, os⟩ :=
      fun z => bg.iter pr wo _ _ ⟨hh, g, d, tk, os⟩ _ hv z
    wp_walk using goes
    refine wpAny_stack_any fun stk => wpAny_pure ?_
    split
    · rename_i cc _ _ _ _ _
      cases (cc == Value.type "enumerate") <;> (wp_walk using goes; exact ⟨_, rfl, hyp⟩)
    · wp_walk using goes; exact ⟨_, rfl, hyp⟩
theorem enum1_call {prog : Program} {w : World} {A : Around} {E : Value → Shared → Prop} {s : Shared} {v : Value} {ob : Obj} {Hs : Heap → Prop} {Q : Value → Shared → Prop} (bg : Begins v ob Hs) (hv : Hs s.heap)
    (fin : ∀ g, IsEnum g (s.heap.objs.size + 1) s.heap.objs.size 0 .none → g.get? s.heap.objs.size = some ob → (∀ b o, s.heap.get? b = some o → g.get? b = some o) → Q (.ref (s.heap.objs.size + 1)) { s with heap := g }) :
    wpAny (model prog w) A (call (.type "enumerate") [v]) Q E s := by
  refine callType_new F.called_enumerate (by decide) (F.typeCall_enumerate_1 v) (F.newCall_enumerate_1 v) (fun obj => F.args_object_init_2 obj v) F.entry_enumerate_new (enum1_meets bg) ⟨hv, ?_⟩
  have sz : (s.heap.push ob).objs.size = s.heap.objs.size + 1 := Heap.size_push ..
  show _ ∧ _
  rw [sz]
  have e1 : ((s.heap.push ob).push (enumRec s.heap.objs.size)).get? (s.heap.objs.size + 1) = some (enumRec s.heap.objs.size) := by
    have z := Heap.get?_push_size (s.heap.push ob) (o := enumRec s.heap.objs.size) rfl
    rw [sz] at z
    exact z
  exact ⟨⟨_, e1, rfl⟩, fin _ e1 (Heap.get?_push_of_some _ (Heap.get?_push_size _ bg.free)) fun b o z => Heap.get?_push_of_some _ (Heap.get?_push_of_some _ z)⟩
end PySem
namespace Rn
open PySem PySem.Spec L2 RT
/-- the tuple at a, each item in a new pair with its number -/
def ItEn (K : PySem.W.Frag) (a : Addr) : It where
  go i H := ∃ (xs : List V) (x : V), SqT K H a xs ∧ xs[i]? = some x
  yld i H v H' := ∃ T x, v = .ref T ∧ H T = none ∧ H' = upd H T (.tup [.int (i : Nat), x]) ∧ ∀ xs, SqT K H a xs → xs[i]? = some x
  stop i H := ∃ xs : List V, SqT K H a xs ∧ xs.length = i
theorem turn_en {P : Program} {w : World} {K : PySem.W.Frag} {es : List Expr} {k1 : Nat} {tp : Pos} (a e it : Addr) :
    Turn P w K (.Tuple es k1 tp) (ItEn K a) [e, it] e (fun i g => (∃ o1, IsEnum g e it ((i : Nat) : Int) o1) ∧ g.IsTupleIter it a i ∧ e ≠ it) where
  mem := by simp
  obj := fun i g st b hb => by
    obtain ⟨⟨o1, h1⟩, ⟨o2, h2, _, h3⟩, _⟩ := st
    rcases (show b = e ∨ b = it by simpa using hb) with z | z
    · rw [z]; exact ⟨_, h1, (fun _ q => nomatch q)⟩
    · rw [z]; exact ⟨o2, h2, fun _ q => by rw [h3] at q; cases q⟩
  keep := fun i g g' st k => let ⟨⟨o1, h1⟩, h2, h3⟩ := st; ⟨⟨o1, k e (by simp) _ h1⟩, h2.at fun o q => k it (by simp) o q, h3⟩
  item := by
    intro X hP hw hK hc i pins s σ H E I fp st hg
    subst hP hw hK
    obtain ⟨⟨o1, h1⟩, h2, h3⟩ := st
    obtain ⟨xs, x, hx1, hx2⟩ := hg
    obtain ⟨us, rel, tu, _⟩ := I.tuple hx1
    obtain ⟨u, hu, ru⟩ := rel.get hx2
    have le : e < s.heap.objs.size := Heap.lt_size h1
    have li : it < s.heap.objs.size := by obtain ⟨_, q, _⟩ := h2; exact Heap.lt_size q
    have na : a ≠ it := fun z => by
      obtain ⟨o2, q, c2, _⟩ := h2
      obtain ⟨o3, q3, c3, _⟩ := tu
      rw [z, q] at q3
      cases q3
      exact absurd (Value.type.inj (c2.symm.trans c3)) (by decide)
    have ne : a ≠ e := fun z => by
      obtain ⟨o3, q3, c3, _⟩ := tu
      rw [z, show s.heap.get? e = _ from h1] at q3
      cases q3
      exact absurd (Value.type.inj c3) (by decide)
    have hlt : i < us.toArray.size := by
      have := (List.getElem?_eq_some_iff.mp hu).1
      simpa using this
    have hh := I.ok.hd hc
    refine wpAny_pyNext_enum_itemD (Draws.tuple (A := X.A.in1) hh it a na us.toArray) h1 ⟨h2, tu⟩ hlt h3 (by simp [h3, Ne.symm ne]) fun v g tk hv ho hit hT hsz hk => ?_
    have ev : v = u := by
      have q : us.toArray[i]? = some u := by simpa using hu
      exact Option.some.inj (hv.symm.trans q)
    subst ev
    refine ⟨_, rfl, wpAny_letOwnedTupleGo_enum (s := { s with heap := g, toks := tk + 1 }) ho fun g2 he2 sb => ?_⟩
    have hT2 : g2.get? s.heap.objs.size = some { cls := .type "tuple", data := .seq #[.int i tk, v] } := (sb.2 _ (Nat.ne_of_gt le)).trans hT
    have new : ObjOk X.prog X.w (upd H s.heap.objs.size (.tup [.int (i : Nat), x])) g2 s.heap.objs.size (.tup [.int (i : Nat), x]) :=
      ⟨by show 2 ≤ sizeLine; decide, [.int i tk, v], .cons ⟨_, rfl⟩ (.cons ru .nil), ⟨_, hT2, rfl, _, rfl⟩⟩
    have I2 : Inv X pins σ (upd H s.heap.objs.size (.tup [.int (i : Nat), x])) { s with heap := g2, toks := tk + 1 } :=
      I.turnedNew (ch := [e, it]) (fun b ob hb q => (sb.2 b (fun z => hb (by simp [z]))).trans (hk b ob (fun z => hb (by simp [z])) (fun z => hb (by simp [z])) q)) fp (Nat.le_refl _) new
    refine ⟨.ref s.heap.objs.size, _, I2, rfl, ⟨_, x, rfl, I.hok.fresh (Nat.le_refl _), rfl, fun ys hy => by rw [I.tuple_inj hy hx1]; exact hx2⟩, ⟨⟨v, ?_⟩, hit.1.at fun o q => (sb.2 it (Ne.symm h3)).trans q, h3⟩, fun b hb => ?_⟩
    · rw [show ((i + 1 : Nat) : Int) = (i : Int) + 1 by omega]
      exact he2
    · have lb : b < s.heap.objs.size := by
        rcases (show b = e ∨ b = it by simpa using hb) with z | z
        · exact z ▸ le
        · exact z ▸ li
      rw [upd_ne (Nat.ne_of_lt lb)]
      exact (fp b hb).1
  done := by
    intro X hP hw hK hc i pins s σ H E I fp st hg
    subst hP hw hK
    obtain ⟨⟨o1, h1⟩, h2, h3⟩ := st
    obtain ⟨xs, hx1, hx2⟩ := hg
    obtain ⟨us, rel, tu, _⟩ := I.tuple hx1
    obtain ⟨g0, g1, g2, g3, g4, g5⟩ := fp it (by simp)
    have hl := rel.length
    have na : a ≠ it := fun z => by
      obtain ⟨o2, q, c2, _⟩ := h2
      obtain ⟨o3, q3, c3, _⟩ := tu
      rw [z, q] at q3
      cases q3
      exact absurd (Value.type.inj (c2.symm.trans c3)) (by decide)
    have hz : us.toArray.size = i := by
      rw [← hx2, hl]
      simp
    refine wpAny_pyNext_enum_endD (Draws.tuple (A := X.A.in1) (I.ok.hd hc) it a na us.toArray) h1 (hz ▸ ⟨h2, tu⟩) fun g eb => ⟨rfl, I.turned (t' := s.toks) (fun b o hb q => eb b o hb q) g0 g1 g3 g4 g5⟩
  self := fun A i s Q E st q => let ⟨⟨_, h1⟩, _⟩ := st; wpAny_pyIter_enum h1 q
/-- what enumerate walks: a tuple, a list -/
def EnQ (K : PySem.W.Frag) (R : It → Hp → Prop) (vs : List V) (H1 : Hp) : Prop := ∃ a, vs = [.ref a] ∧ ((∃ xs, SqT K H1 a xs ∧ R (ItEn K a) H1) ∨ (∃ xs, SqL K H1 a xs ∧ R (Ite K a) H1))
def iEn (K : PySem.W.Frag) (ta : TA) : TI := fun σ H R => ta σ H fun vs H1 => EnQ K R vs H1
theorem pi_en {X : Cx} (K : PySem.W.Frag) (eK : X.K = K) {e : Expr} {ta : TA} {p pos tp : Pos} {es : List Expr} {k1 : Nat} (hg : Gl X "enumerate") (hm : X.mg "enumerate" = none) (ha : PA X [e] ta) (hs : starEach [e] X.env = [(false, eval e X.env)] := by rfl) :
    PI X (.Tuple es k1 tp) (.Call (.Name "enumerate" p) [e] [] pos) (iEn K ta) := by
  subst eK
  refine ⟨fun pins s σ H R I h => ?_⟩
  have bo : bootBuiltins ("enumerate" : Str) = some (.type "enumerate") := by decide +kernel
  refine PyProof.Rows.Call_ (ld_blt I hg hm bo (PyProof.Rows.callWith_type1 (thn (ha.run pos pins s σ H _ I h) fun us s1 w1 => ?_) hs rfl))
  obtain ⟨vs, H1, I1, r1, q1⟩ := w1
  obtain ⟨a, ex, q⟩ := q1
  subst ex
  obtain ⟨u, eu, ru⟩ := vals1 r1
  subst eu
  obtain rfl : u = .ref a := ru
  have fresh : ∀ {H' : Hp} {g : Heap} (_ : ∀ b o, s1.heap.get? b = some o → g.get? b = some o), H' = H1 → ∀ b ∈ [s1.heap.objs.size + 1, s1.heap.objs.size], FpOk X pins H1 b := fun _ _ b hb => by
    have hle : s1.heap.objs.size ≤ b := by
      rcases (show b = s1.heap.objs.size + 1 ∨ b = s1.heap.objs.size by simpa using hb) with z | z <;> omega
    exact I1.fpOk hle (I1.hok.fresh hle)
  rcases q with ⟨xs, hx, q⟩ | ⟨xs, hx, q⟩
  · obtain ⟨its, rv, tu, hz⟩ := I1.tuple hx
    refine enum1_call (begins_tuple a its.toArray) tu fun g he hit hk => wpAny_pyIter_enum he ?_
    refine ⟨s1.heap.objs.size + 1, [s1.heap.objs.size + 1, s1.heap.objs.size], _, _, H1, rfl, I1.kept (t' := s1.toks) hk, turn_en a (s1.heap.objs.size + 1) s1.heap.objs.size, ⟨⟨.none, he⟩, ⟨_, hit, rfl, rfl⟩, Nat.succ_ne_self _⟩, fresh hk rfl, q⟩
  · obtain ⟨its, rv, pl, hz⟩ := I1.list hx
    refine enum1_call (begins_list a its.toArray) pl.isList fun g he hit hk => wpAny_pyIter_enum he ?_
    refine ⟨s1.heap.objs.size + 1, [s1.heap.objs.size + 1, s1.heap.objs.size], _, _, H1, rfl, I1.kept (t' := s1.toks) hk, turn_enum a (s1.heap.objs.size + 1) s1.heap.objs.size, ⟨⟨.none, he⟩, ⟨_, hit, rfl, rfl⟩, Nat.succ_ne_self _⟩, fresh hk rfl, q⟩
section
variable {K : PySem.W.Frag} {σ : St} {H : Hp} {D : Ends}
theorem w_en {ta : TA} {R : It → Hp → Prop} (h : ta σ H fun vs H1 => EnQ K R vs H1) : iEn K ta σ H R := h
theorem w_enT {a : Addr} {xs : List V} {R : It → Hp → Prop} (hS : SqT K H a xs) (h : R (ItEn K a) H) : EnQ K R [.ref a] H := ⟨a, rfl, .inl ⟨xs, hS, h⟩⟩
theorem w_gTup {n : Nat} {t : TGs} {a : Addr} {xs : List V} {R : St → Hp → Prop} (hS : SqT K H a xs) (hn : xs.length = n) (h : t xs σ H R) : gTup K n t (.ref a) σ H R := ⟨a, xs, rfl, hS, hn, h⟩
theorem w_gCons {t : TG} {u : TGs} {x : V} {r : List V} {R : St → Hp → Prop} (h : t x σ H fun σ' H' => u r σ' H' R) : gCons t u (x :: r) σ H R := ⟨x, r, rfl, h⟩
theorem w_gNil {R : St → Hp → Prop} (h : R σ H) : gNil [] σ H R := ⟨rfl, h⟩
theorem w_gName {i : Nat} {x : V} {R : St → Hp → Prop} (h : R (σ.set i (some x)) H) : gName i x σ H R := h
/-- enumerate over a tuple, its targets two names -/
theorem lp_en {a : Addr} {xs : List V} {g : TG} {tb : TS} (Pv : Nat → St → Hp → Prop) (h0 : Pv 0 σ H) (hl : ∀ i σ H, i ≤ xs.length → Pv i σ H → SqT K H a xs)
    (hs : ∀ i x σ H T H', xs[i]? = some x → Pv i σ H → H T = none → Same H H' → H' T = some (.tup [.int (i : Nat), x]) → g (.ref T) σ H' fun σ2 H2 => tb { D with nx := Pv (i + 1), ct := Pv (i + 1), bk := D.nx } σ2 H2) (hd : ∀ σ H, Pv xs.length σ H → D.nx σ H) :
    Lp (ItEn K a) g tb D σ H := by
  refine ⟨fun i m σ H => m = xs.length - i ∧ i ≤ xs.length ∧ Pv i σ H, ⟨xs.length, by simp, Nat.zero_le _, h0⟩, ?_⟩
  rintro i m σ1 H1 ⟨em, hi, p⟩
  have q := hl i σ1 H1 hi p
  by_cases lt : i < xs.length
  · have hx : xs[i]? = some xs[i] := List.getElem?_eq_getElem lt
    refine .inr ⟨⟨xs, xs[i], q, hx⟩, Pv (i + 1), fun σ' H' p' => ⟨xs.length - (i + 1), by omega, rfl, lt, p'⟩, fun v H' y => ?_⟩
    obtain ⟨T, x, ev, hT, eH, hxx⟩ := y
    have ex : xs[i] = x := Option.some.inj (hx.symm.trans (hxx xs q))
    subst ev eH ex
    exact hs i _ σ1 H1 T _ hx p hT (Same.new hT) upd_same
  · have e : i = xs.length := by omega
    subst e
    exact .inl ⟨⟨xs, q, rfl⟩, hd σ1 H1 p⟩
end
end Rn
set_option Elab.async false
set_option linter.all false
set_option maxRecDepth 100000
set_option maxHeartbeats 4000000
/-! more steps: truth, in, sorted, least, loops and comprehensions over what may be a list or a tuple -/
namespace Rn
open PySem PySem.Spec L2 RT
def TrQ (K : PySem.W.Frag) (QB : Bool → Hp → Prop) (x : V) (H : Hp) : Prop := ∃ k, TruV K x H k ∧ QB k H
def tTr (K : PySem.W.Frag) (ta : TE) : TT := fun σ H QB => ta σ H fun x H1 => TrQ K QB x H1
def UQ (K : PySem.W.Frag) (R : It → Hp → Prop) (x : V) (H1 : Hp) : Prop := ∃ a, x = .ref a ∧ ((∃ xs, SqT K H1 a xs ∧ R (Itt K a) H1) ∨ (∃ xs, SqL K H1 a xs ∧ R (Itl K a) H1))
def iU (K : PySem.W.Frag) (tl : TE) : TI := fun σ H R => tl σ H fun x H1 => UQ K R x H1
section
variable {X : Cx} (K : PySem.W.Frag) (eK : X.K = K)
include eK
theorem k_tr {a : Expr} {ta : TE} (ha : PE X a ta) (he : ∀ whole, isTrue a X.env whole = (do let v ← whole; standAt a.pos; holding [v] (truthy v))) : PT X a (tTr K ta) := by
  subst eK
  exact pt_truth ha he
theorem k_sorted : CallR X (.builtin "sorted") (rSorted K) := by
  subst eK
  exact cr_sorted
theorem k_minL (hc : X.calm = true) : CallR X (.builtin "min") (rMin K) := by
  subst eK
  exact cr_min hc
theorem k_maxL (hc : X.calm = true) : CallR X (.builtin "max") (rMax K) := by
  subst eK
  exact cr_max hc
theorem k_U {tg l : Expr} {tl : TE} (hl : PE X l tl) : PI X tg l (iU K tl) := by
  subst eK
  refine ⟨fun pins s σ H R I h => ?_⟩
  refine thn (hl.run pins s σ H _ I h) fun v s1 w1 => ?_
  obtain ⟨x, H1, I1, r1, a, ex, q⟩ := w1
  subst ex
  obtain rfl : v = .ref a := r1
  have one : ∀ b ∈ [s1.heap.objs.size], FpOk X pins H1 b := fun b hb => by
    rw [List.mem_singleton.mp hb]
    exact I1.fpOk (Nat.le_refl _) (I1.hok.fresh (Nat.le_refl _))
  have kp : ∀ o : Obj, Inv X pins σ H1 { s1 with heap := s1.heap.push o } := fun o => I1.kept (t' := s1.toks) fun b u z => Heap.get?_push_of_some _ z
  rcases q with ⟨xs, hx, q⟩ | ⟨xs, hx, q⟩
  · obtain ⟨us, rel, tu, _⟩ := I1.tuple hx
    refine wpAny_pyIter_tuple (show s1.heap.IsTuple a us.toArray from tu) ?_
    exact ⟨_, [s1.heap.objs.size], _, _, H1, rfl, kp _, turn_tuple a _, ⟨_, Heap.get?_push_size _ rfl, rfl, rfl⟩, one, q⟩
  · obtain ⟨us, rel, pl, _⟩ := I1.list hx
    refine wpAny_pyIter_list pl.isList ?_
    exact ⟨_, [s1.heap.objs.size], _, _, H1, rfl, kp _, turn_list a _, ⟨_, Heap.get?_push_size _ rfl, rfl, rfl⟩, one, q⟩
end
section
variable {K : PySem.W.Frag} {σ : St} {H : Hp} {D : Ends} {te ta : TE} {Q : VK} {QB : Bool → Hp → Prop} {R : It → Hp → Prop}
theorem w_tr (h : ta σ H fun x H1 => TrQ K QB x H1) : tTr K ta σ H QB := h
theorem w_trB {b : Bool} (h : QB b H) : TrQ K QB (.bl b) H := ⟨b, rfl, h⟩
theorem w_trL {p : Addr} {xs : List V} (hl : SqL K H p xs) (h : QB (!xs.isEmpty) H) : TrQ K QB (.ref p) H := ⟨_, .inl ⟨xs, hl, rfl⟩, h⟩
theorem w_iU (h : ta σ H fun x H1 => UQ K R x H1) : iU K ta σ H R := h
theorem w_UT {a : Addr} {xs : List V} (hS : SqT K H a xs) (h : R (Itt K a) H) : UQ K R (.ref a) H := ⟨a, rfl, .inl ⟨xs, hS, h⟩⟩
theorem w_UL {a : Addr} {xs : List V} (hS : SqL K H a xs) (h : R (Itl K a) H) : UQ K R (.ref a) H := ⟨a, rfl, .inr ⟨xs, hS, h⟩⟩
theorem flat_ints (ns : List Int) : (ns.map V.int).all flatV = true := by
  rw [List.all_eq_true]
  intro x hx
  obtain ⟨n, _, rfl⟩ := List.mem_map.mp hx
  rfl
theorem in_ints (n : Int) (ns : List Int) : inV (.int n) (ns.map V.int) = decide (n ∈ ns) := by
  unfold inV
  rw [List.any_map]
  induction ns with
  | nil => rfl
  | cons x r ih =>
    rw [List.any_cons, ih]
    have e : ((fun y => eqV y (V.int n)) ∘ V.int) x = decide (n = x) := by
      show eqV (.int x) (.int n) = _
      unfold eqV
      by_cases h : n = x
      · subst h; simp
      · simp [h, Ne.symm h]
    rw [e, ← Bool.decide_or]
    exact decide_eq_decide.mpr List.mem_cons.symm
theorem w_inL {p : Addr} {ns : List Int} {n : Int} (hl : SqL K H p (ns.map V.int)) (h : Q (.bl (decide (n ∈ ns))) H) : rIn K false (.int n) (.ref p) H Q := ⟨p, _, rfl, .inl hl, rfl, flat_ints ns, by rw [in_ints]; exact h⟩
theorem w_niL {p : Addr} {ns : List Int} {n : Int} (hl : SqL K H p (ns.map V.int)) (h : Q (.bl (!decide (n ∈ ns))) H) : rIn K true (.int n) (.ref p) H Q := ⟨p, _, rfl, .inl hl, rfl, flat_ints ns, by rw [in_ints]; exact h⟩
theorem w_inT {p : Addr} {ns : List Int} {n : Int} (hl : SqT K H p (ns.map V.int)) (h : Q (.bl (decide (n ∈ ns))) H) : rIn K false (.int n) (.ref p) H Q := ⟨p, _, rfl, .inr hl, rfl, flat_ints ns, by rw [in_ints]; exact h⟩
theorem w_niT {p : Addr} {ns : List Int} {n : Int} (hl : SqT K H p (ns.map V.int)) (h : Q (.bl (!decide (n ∈ ns))) H) : rIn K true (.int n) (.ref p) H Q := ⟨p, _, rfl, .inr hl, rfl, flat_ints ns, by rw [in_ints]; exact h⟩
theorem w_sorted {a : Addr} {ns : List Int} (hl : SqL K H a (ns.map V.int)) (hn : ns.length < 64) (h : ∀ (ms : List Int) p H', ms.Perm ns → ms.Pairwise (· ≤ ·) → H p = none → Same H H' → H' p = some (.lst (ms.map V.int)) → Q (.ref p) H') : rSorted K [.ref a] H Q :=
  ⟨a, ns, rfl, hl, hn, fun ms p e1 e2 e3 => h ms p _ e1 e2 e3 (Same.new e3) upd_same⟩
theorem w_minL {a : Addr} {ns : List Int} (hl : SqL K H a (ns.map V.int)) (hn : 0 < ns.length) (h : ∀ m, m ∈ ns → (∀ y, y ∈ ns → m ≤ y) → Q (.int m) H) : rMin K [.ref a] H Q := ⟨a, ns, rfl, hl, hn, h⟩
theorem w_iteD {p : Prop} {ip : Decidable p} {A B : Prop} (hp : p) (h : A) : if decide p = true then A else B := by
  rw [decide_eq_true hp]
  exact w_iteT h
theorem w_iteE {p : Prop} {ip : Decidable p} {A B : Prop} (hp : ¬ p) (h : B) : if decide p = true then A else B := by
  rw [decide_eq_false hp]
  exact w_iteF h
theorem w_iteND {p : Prop} {ip : Decidable p} {A B : Prop} (hp : p) (h : B) : if (!decide p) = true then A else B := by
  rw [decide_eq_true hp]
  exact w_iteF h
theorem w_iteNE {p : Prop} {ip : Decidable p} {A B : Prop} (hp : ¬ p) (h : A) : if (!decide p) = true then A else B := by
  rw [decide_eq_false hp]
  exact w_iteT h
theorem lp_tupN {a : Addr} {xs : List V} {j : Nat} {tb : TS} (Pv : Nat → St → Hp → Prop) (h0 : Pv 0 σ H) (hl : ∀ i σ H, i ≤ xs.length → Pv i σ H → SqT K H a xs)
    (hs : ∀ i x σ H, xs[i]? = some x → Pv i σ H → tb { D with nx := Pv (i + 1), ct := Pv (i + 1), bk := D.nx } (σ.set j (some x)) H) (hd : ∀ σ H, Pv xs.length σ H → D.nx σ H) : Lp (Itt K a) (gName j) tb D σ H := for_tup Pv h0 hl hs hd
theorem lp_listN {a : Addr} {xs : List V} {j : Nat} {tb : TS} (Pv : Nat → St → Hp → Prop) (h0 : Pv 0 σ H) (hl : ∀ i σ H, i ≤ xs.length → Pv i σ H → SqL K H a xs)
    (hs : ∀ i x σ H, xs[i]? = some x → Pv i σ H → tb { D with nx := Pv (i + 1), ct := Pv (i + 1), bk := D.nx } (σ.set j (some x)) H) (hd : ∀ σ H, Pv xs.length σ H → D.nx σ H) : Lp (Itl K a) (gName j) tb D σ H := for_list Pv h0 hl hs hd
theorem lq_list {a : Addr} {xs : List V} {j : Nat} {tt : TT} {vs : List Nat} (Pv : Addr → Nat → Hp → Prop) (h0 : ∀ D H1, H D = none → Same H H1 → H1 D = some (.lst []) → Pv D 0 H1) (hl : ∀ D i H1, i ≤ xs.length → Pv D i H1 → SqL K H1 a xs)
    (hs : ∀ D i x H1, H D = none → xs[i]? = some x → Pv D i H1 → wipe ((wipe σ vs).set j (some x)) vs = wipe σ vs ∧ tt ((wipe σ vs).set j (some x)) H1 fun b H3 => if b = true then te ((wipe σ vs).set j (some x)) H3 (Put D (Pv D (i + 1))) else Pv D (i + 1) H3)
    (hd : ∀ D H1, H D = none → Pv D xs.length H1 → Q (.ref D) H1) : Lq (Itl K a) (gName j) tt te vs σ H Q := fun D hD =>
  lc_list (Pv D) (h0 D _ hD (Same.new hD) upd_same) (fun i H1 hi p => hl D i H1 hi p) (fun i x H1 hx p => hs D i x H1 hD hx p) (fun H1 p => hd D H1 hD p)
theorem lq_tup {a : Addr} {xs : List V} {j : Nat} {tt : TT} {vs : List Nat} (Pv : Addr → Nat → Hp → Prop) (h0 : ∀ D H1, H D = none → Same H H1 → H1 D = some (.lst []) → Pv D 0 H1) (hl : ∀ D i H1, i ≤ xs.length → Pv D i H1 → SqT K H1 a xs)
    (hs : ∀ D i x H1, H D = none → xs[i]? = some x → Pv D i H1 → wipe ((wipe σ vs).set j (some x)) vs = wipe σ vs ∧ tt ((wipe σ vs).set j (some x)) H1 fun b H3 => if b = true then te ((wipe σ vs).set j (some x)) H3 (Put D (Pv D (i + 1))) else Pv D (i + 1) H3)
    (hd : ∀ D H1, H D = none → Pv D xs.length H1 → Q (.ref D) H1) : Lq (Itt K a) (gName j) tt te vs σ H Q := fun D hD =>
  lc_tup (Pv D) (h0 D _ hD (Same.new hD) upd_same) (fun i H1 hi p => hl D i H1 hi p) (fun i x H1 hx p => hs D i x H1 hD hx p) (fun H1 p => hd D H1 hD p)
/-- while, by a word with a number that falls -/
def Wq (c : TT) (tb : TS) (D : Ends) (σ : St) (H : Hp) : Prop := tWhile c tb D σ H
theorem w_while {c : TT} {tb : TS} (h : Wq c tb D σ H) : tWhile c tb D σ H := h
theorem wq_by {c : TT} {tb : TS} (W : Nat → St → Hp → Prop) (m0 : Nat) (h0 : W m0 σ H)
    (hs : ∀ m σ H, W m σ H → c σ H fun b H1 => if b = true then ∃ N : St → Hp → Prop, (∀ σ' H', N σ' H' → ∃ m', m' < m ∧ W m' σ' H') ∧ tb { D with nx := N, ct := N, bk := D.nx } σ H1 else D.nx σ H1) : Wq c tb D σ H := ⟨W, ⟨m0, h0⟩, hs⟩
theorem w_tyes {QB : Bool → Hp → Prop} (h : QB true H) : tYes σ H QB := h
end
end Rn
set_option Elab.async false
set_option linter.all false
set_option maxRecDepth 100000
set_option maxHeartbeats 4000000
/-! match over tuples that begin with a text -/
namespace Rn
open PySem PySem.Spec L2 RT
/-- patterns that are names -/
inductive Caps : List Pattern → List Str → Prop
  | nil : Caps [] []
  | cons {x : Str} {pos : Pos} {ps : List Pattern} {xs : List Str} (h : Caps ps xs) : Caps (.MatchAs none (some x) pos :: ps) (x :: xs)
theorem Caps.len : ∀ {ps : List Pattern} {xs : List Str}, Caps ps xs → ps.length = xs.length
  | _, _, .nil => rfl
  | _, _, .cons h => by simp [h.len]
theorem Caps.each {M : Model} {A : Around} {E : Value → Shared → Prop} {s : Shared} {env : Env} : ∀ {ps : List Pattern} {xs : List Str} {us : List Value} {Q : Option (List (Str × Value)) → Shared → Prop}, Caps ps xs → us.length = xs.length → Q (some (xs.zip us)) s → wpAny M A (matchEach ps env us) Q E s
  | _, _, us, Q, .nil, hl, h => by
    cases us with
    | nil => exact wpAny_matchEach_nil h
    | cons u us => cases hl
  | _, _, us, Q, .cons (x := x) (xs := xs) c, hl, h => by
    cases us with
    | nil => cases hl
    | cons u us =>
      refine wpAny_matchEach_cons (wpAny_matchPattern_Capture ?_)
      exact c.each (Nat.succ.inj hl) h
/-- slots of names -/
inductive Slots (X : Cx) : List Str → List Nat → Prop
  | nil : Slots X [] []
  | cons {x : Str} {i : Nat} {xs : List Str} {is : List Nat} (hi : X.N[i]? = some x) (hx : Loc X.env.scope x) (hf : X.fn x = true ∨ X.env.scope.names.lookup x = some .local) (h : Slots X xs is) : Slots X (x :: xs) (i :: is)
def setAll : St → List Nat → List V → St
  | σ, i :: is, v :: vs => setAll (σ.set i (some v)) is vs
  | σ, _, _ => σ
theorem Slots.store {X : Cx} {pins : List (Addr × Obj)} {Q : Unit → Shared → Prop} (hN : X.N.Nodup) : ∀ {xs : List Str} {is : List Nat} {vs : List V} {us : List Value} {σ : St} {H : Hp} {s : Shared}, Slots X xs is → Vals vs us → us.length = xs.length → Inv X pins σ H s → (∀ s', Inv X pins (setAll σ is vs) H s' → Q () s') →
    wpAny (model X.prog X.w) X.A (assignInOrder ((xs.zip us).map fun p => bindName X.env p.1) ((xs.zip us).map (·.2))) Q X.xe s
  | _, _, vs, us, σ, H, s, .nil, r, hl, I, h => by
    have e : setAll σ [] vs = σ := by cases vs <;> rfl
    rw [e] at h
    exact wpAny_assignInOrder_none (h s I)
  | _, _, vs, us, σ, H, s, .cons (x := x) hi hx hf c, r, hl, I, h => by
    cases r with
    | nil => cases hl
    | cons r1 rr => exact wpAny_assignInOrder_more (wpAny_bindName (store_ok I hN hi hx r1 (fun s' I' => c.store hN rr (Nat.succ.inj hl) I' h) hf))
def PMs (X : Cx) (cs : List MatchCase) (t : V → TS) : Prop := ∀ (pins : List (Addr × Obj)) (s : Shared) (σ : St) (H : Hp) (D : Ends) (x : V) (v : Value) (first : Bool), Inv X pins σ H s → RelV x v → t x D σ H →
  wpAny (model X.prog X.w) X.A (matchCases cs X.env v first) (SP X pins D) X.xe s
theorem pm_nil {X : Cx} : PMs X [] fun _ => tNext := fun _ _ σ H _ _ _ _ I _ h => wpAny_matchCases_nil ⟨σ, H, I, h⟩
/-- case (k, names..) over a tuple that begins with a text -/
def tCase (K : PySem.W.Frag) (k : Str) (is : List Nat) (tb : TS) (tr : V → TS) : V → TS := fun x D σ H => ∃ (a : Addr) (z : Str) (ys : List V), x = .ref a ∧ SqT K H a (.str z :: ys) ∧ ys.length ≤ 1000 ∧ if z = k ∧ ys.length = is.length then tb D (setAll σ is ys) H else tr x D σ H
theorem pm_case {X : Cx} (K : PySem.W.Frag) (eK : X.K = K) {k : Str} {j : Nat} {p1 p2 pos : Pos} {ps : List Pattern} {xs : List Str} {is : List Nat} {body : List Stmt} {rest : List MatchCase} {tb : TS} {tr : V → TS} (hc : X.calm = true) (hN : X.N.Nodup) (cp : Caps ps xs) (sl : Slots X xs is)
    (hb : PSs X body tb) (hr : PMs X rest tr) (hlen : xs.length = is.length) (hstar : ((Pattern.MatchValue (.Constant (.str k) j p1) p2) :: ps).findIdx? (·.isStar) = none := by rfl)
    (hwild : (((Pattern.MatchValue (.Constant (.str k) j p1) p2) :: ps).all fun p => p.isWildcard || (p.isStar && p.names.isEmpty)) = false := by rfl) :
    PMs X (⟨.MatchSequence (.MatchValue (.Constant (.str k) j p1) p2 :: ps) pos, none, body⟩ :: rest) (tCase K k is tb tr) := by
  subst eK
  intro pins s σ H D x v first I rx h
  obtain ⟨a, z, ys, ex, hS, hy, h⟩ := h
  subst ex
  obtain rfl : v = .ref a := rx
  obtain ⟨us, rel, tu, _⟩ := I.tuple hS
  cases rel with
  | @cons _ u _ ws r1 rr =>
    obtain ⟨tk, rfl⟩ := r1
    have hl := rr.length
    have hfit : (((Value.str z tk :: ws).toArray.size : Nat) : Int) < 2 ^ 63 := by
      simp only [List.size_toArray, List.length_cons]
      omega
    refine wpAny_matchCases_cons ?_
    by_cases hn : ws.length = ps.length
    · refine PyProof.Rows.matchSeq_tuple_hit tu hfit (by simp [hn]) ?_ hstar hwild
      have el : (Pattern.MatchValue (.Constant (.str k) j p1) p2 :: ps).length = (Value.str z tk :: ws).toArray.size := by simp [hn]
      rw [el]
      refine wpAny_unpackItems_tuple (I.ok.hd hc) (show Heap.IsTuple s.heap a _ from tu) fun g hx => ?_
      have I1 : Inv X pins σ H { s with heap := g, toks := s.toks + 1 + 1 } := I.kept (t' := s.toks + 1 + 1) fun b o q => hx b o (Nat.ne_of_lt (Heap.lt_size q)) q
      refine wpAny_matchEach_cons (wpAny_matchPattern_Value (Calls.Constant_str ?_))
      have I2 := I1.tok (s.toks + 1 + 1 + 1)
      refine thn (op_eq pins _ σ H (.str z) (.str k) _ _ (fun v' H' => v' = .bl (decide (z = k)) ∧ H' = H) I2 ⟨tk, rfl⟩ ⟨_, rfl⟩ ⟨rfl, ?_, rfl⟩) fun cv s2 w2 => ?_
      · congr 1
        exact decide_eq_decide.mpr ⟨fun q => V.str.inj q, fun q => by rw [q]⟩
      · obtain ⟨v2, H2, I3, r2, e2, e3⟩ := w2
        subst e2 e3
        obtain rfl : cv = .bool (decide (z = k)) := r2
        refine wpAny_truthy_bool ?_
        have hlen2 : ys.length = is.length := by rw [hl, hn, cp.len, hlen]
        by_cases hz : z = k
        · rw [decide_eq_true hz]
          rw [if_pos ⟨hz, hlen2⟩] at h
          show wpAny _ _ (matchEach ps X.env ws) _ _ _
          refine cp.each (by rw [hn, cp.len]) ?_
          show wpAny _ _ (assignInOrder _ _) _ _ _
          have em : (List.map (fun (q : Str × Value) => bindName X.env q.1) ([] ++ xs.zip ws)) = (xs.zip ws).map fun p => bindName X.env p.1 := rfl
          refine sl.store hN rr (by rw [hn, cp.len]) I3 fun s4 I4 => ?_
          exact hb.run pins s4 _ _ D I4 h
        · rw [decide_eq_false hz]
          rw [if_neg fun q => hz q.1] at h
          exact hr pins _ σ _ D (.ref a) (.ref a) false I3 rfl h
    · refine PyProof.Rows.matchSeq_tuple_miss tu hfit (by simp; omega) ?_ hstar hwild
      have hne : ¬ (z = k ∧ ys.length = is.length) := fun q => hn (by rw [← hl, q.2, ← hlen, cp.len])
      rw [if_neg hne] at h
      exact hr pins _ σ H D (.ref a) (.ref a) false (I.tok _) rfl h
theorem ps_match {X : Cx} {e : Expr} {cs : List MatchCase} {pos : Pos} {te : TE} {t : V → TS} (he : PE X e te) (hm : PMs X cs t) : PS X (.Match e cs pos) (fun D σ H => te σ H fun x H1 => t x D σ H1) := by
  refine ⟨fun pins s σ H D I h => ?_⟩
  exact wpAny_Match (thn (he.run pins s σ H _ I h) fun v s1 w1 => by
    obtain ⟨x, H1, I1, r1, q⟩ := w1
    exact hm pins s1 σ H1 D x v true I1 r1 q)
/-- the reading of a match -/
def tMatch (te : TE) (t : V → TS) : TS := fun D σ H => te σ H fun x H1 => t x D σ H1
theorem ps_matchQ {X : Cx} {e : Expr} {cs : List MatchCase} {pos : Pos} {te : TE} {t : V → TS} (he : PE X e te) (hm : PMs X cs t) : PS X (.Match e cs pos) (tMatch te t) := ps_match he hm
section
variable {K : PySem.W.Frag} {σ : St} {H : Hp} {D : Ends} {te : TE} {t tr : V → TS} {tb : TS}
theorem w_match (h : te σ H fun x H1 => t x D σ H1) : tMatch te t D σ H := h
theorem w_caseY {a : Addr} {k : Str} {is : List Nat} {ys : List V} (hS : SqT K H a (.str k :: ys)) (hl : ys.length = is.length) (h1 : ys.length ≤ 1000) (h : tb D (setAll σ is ys) H) : tCase K k is tb tr (.ref a) D σ H := ⟨a, k, ys, rfl, hS, h1, by rw [if_pos ⟨rfl, hl⟩]; exact h⟩
theorem w_caseN {a : Addr} {k z : Str} {is : List Nat} {ys : List V} (hS : SqT K H a (.str z :: ys)) (hne : ¬ (z = k ∧ ys.length = is.length)) (h1 : ys.length ≤ 1000) (h : tr (.ref a) D σ H) : tCase K k is tb tr (.ref a) D σ H := ⟨a, z, ys, rfl, hS, h1, by rw [if_neg hne]; exact h⟩
end
end Rn
set_option Elab.async false
set_option linter.all false
set_option maxRecDepth 100000
set_option maxHeartbeats 4000000
/-! slices of tuples, tuples of the top, data compared -/
namespace Rn
open PySem PySem.Spec L2 RT
section
variable {K : PySem.W.Frag} {σ : St} {H : Hp} {te : TE} {Q : VK} {QO : Option Int → Hp → Prop}
theorem w_sl {rs : V → Option Int → Option Int → Hp → VK → Prop} {tl th : TO} (h : te σ H fun x H1 => tl σ H1 fun l H2 => th σ H2 fun u H3 => rs x l u H3 Q) : tSl rs te tl th σ H Q := h
theorem w_noPart (h : QO none H) : tNoPart σ H QO := h
theorem w_part (h : te σ H fun x H1 => ∃ i, x = .int i ∧ QO (some i) H1) : tPart te σ H QO := h
theorem w_pint {a : Int} {P : Int → Prop} (h : P a) : ∃ i, V.int a = .int i ∧ P i := ⟨a, rfl, h⟩
theorem w_slT {a : Addr} {xs : List V} {lo hi : Option Int} (hS : SqT K H a xs) (h : ∀ p H', Same H H' → SqT K H' p (cutV xs lo hi) → Q (.ref p) H') : uSl K (.ref a) lo hi H Q := by
  refine .inl ⟨a, xs, rfl, hS, ?_⟩
  constructor
  · intro e
    refine h a H (Same.refl H) ?_
    unfold cutV
    rw [e.1, e.2, List.drop_zero, Nat.sub_zero, List.take_length]
    exact hS
  · intro _ p hp
    exact h p _ (Same.new hp) (SqT.of upd_same)
end
theorem sqT_K {K : PySem.W.Frag} {a : Addr} {d : Option Addr} {its : Array Value} {n : Nat} {sl : Array (Option Value)} {xs : List V} (H : Hp) (h : K.lookup a = some ⟨.type "tuple", d, .seq its n, sl⟩) (hz : its.size ≤ sizeLine) (v : Vals xs its.toList) : SqT K H a xs := .inr ⟨_, its, n, h, rfl, rfl, hz, v⟩
/-- data that may be laid, not deep -/
def lays (d : PyData) (n : Nat) : Prop := d.canLay0 = true ∧ d.depth ≤ n
def laysAll (ds : List PyData) (n : Nat) : Prop := PyData.canLayAll0 ds = true ∧ PyData.depthAll ds ≤ n
theorem lays.shaped {d : PyData} {n : Nat} (h : lays d n) (hn : n ≤ 64) : SeqAt.shaped d = true := Bool.and_eq_true_iff.mpr ⟨h.1, decide_eq_true (Nat.le_trans h.2 hn)⟩
theorem lays.int (i : Int) : lays (.int i) 1 := by unfold lays; simp [PyData.canLay0, PyData.depth]
theorem lays.bool (i : Bool) : lays (.bool i) 1 := by unfold lays; simp [PyData.canLay0, PyData.depth]
theorem laysAll.nil {n : Nat} : laysAll [] n := by unfold laysAll; simp [PyData.canLayAll0, PyData.depthAll]
theorem laysAll.cons {d : PyData} {ds : List PyData} {n : Nat} (h : lays d n) (r : laysAll ds n) : laysAll (d :: ds) n := by
  unfold laysAll
  simp only [PyData.canLayAll0, PyData.depthAll, h.1, r.1, Bool.and_self, true_and]
  have h1 := h.2
  have h2 := r.2
  omega
theorem laysAll.ints (ns : List Int) : laysAll (ns.map PyData.int) 1 := lay_ints ns
theorem lays.mono {d : PyData} {n m : Nat} (h : lays d n) (e : n ≤ m) : lays d m := ⟨h.1, Nat.le_trans h.2 e⟩
theorem lays.tup {ds : List PyData} {n : Nat} (h : laysAll ds n) : lays (.tuple ds) (n + 1) := by
  unfold lays
  simp only [PyData.canLay0, PyData.depth, h.1, true_and]
  have := h.2
  omega
theorem lays.lst {ds : List PyData} {n : Nat} (h : laysAll ds n) : lays (.list ds) (n + 1) := by
  unfold lays
  simp only [PyData.canLay0, PyData.depth, h.1, true_and]
  have := h.2
  omega
theorem w_neSame {K : PySem.W.Frag} {H : Hp} {Q : VK} {x y : V} {d : PyData} {n : Nat} (hx : Dp K H x d) (hy : Dp K H y d) (hl : lays d n) (hn : n ≤ 64) (h : Q (.bl false) H) : uNe K x y H Q :=
  w_neD hx hy (hl.shaped hn) (hl.shaped hn) (by rw [SeqAt.eqv_refl d hl.1]; exact h)
theorem w_eqSame {K : PySem.W.Frag} {H : Hp} {Q : VK} {x y : V} {d : PyData} {n : Nat} (hx : Dp K H x d) (hy : Dp K H y d) (hl : lays d n) (hn : n ≤ 64) (h : Q (.bl true) H) : uEq K x y H Q :=
  w_eqD hx hy (hl.shaped hn) (hl.shaped hn) (by rw [SeqAt.eqv_refl d hl.1]; exact h)
theorem dp_ints {K : PySem.W.Frag} {H : Hp} {a : Addr} {ns : List Int} (h : SqT K H a (ns.map V.int)) : Dp K H (.ref a) (.tuple (ns.map PyData.int)) := .tup h (DpAll.ints ns)
end Rn
set_option Elab.async false
set_option linter.all false
set_option maxRecDepth 100000
set_option maxHeartbeats 4000000
/-! the mathematics and the promises -/
namespace My
open PySem PySem.Spec L2 RT Rn
/-- the number that figures tell, the lowest first -/
def val (b : Int) : List Int → Int
  | [] => 0
  | d :: r => d + b * val b r
theorem val_drop {b : Int} {ds : List Int} {j : Nat} {d : Int} (h : ds[j]? = some d) : val b (ds.drop j) = val b (ds.drop (j + 1)) * b + d := by
  have hj := (List.getElem?_eq_some_iff.mp h).1
  have e : ds.drop j = d :: ds.drop (j + 1) := by
    rw [List.drop_eq_getElem_cons hj]
    congr 1
    exact (List.getElem?_eq_some_iff.mp h).2
  rw [e]
  show d + b * val b (ds.drop (j + 1)) = _
  rw [Int.mul_comm, Int.add_comm]
def spTold (K : PySem.W.Frag) : Sp := fun vs H Q _ => ∃ (b : Int) (a : Addr) (ds : List Int), vs = [.int b, .ref a] ∧ SqT K H a (ds.map V.int) ∧ -(2 ^ 64) < b ∧ b < 2 ^ 64 ∧ Q (.int (val b ds)) H
/-- so many figures of a number -/
def digs (b : Int) (n : Int) : Nat → List Int
  | 0 => []
  | k + 1 => n % b :: digs b (n / b) k
/-- n by the base, so many times -/
def shr (b : Int) (n : Int) : Nat → Int
  | 0 => n
  | k + 1 => shr b n k / b
theorem digs_end (b n : Int) : ∀ k, digs b n (k + 1) = digs b n k ++ [shr b n k % b] := by
  have shr_in : ∀ k n, shr b n (k + 1) = shr b (n / b) k := by
    intro k
    induction k with
    | zero => intro n; rfl
    | succ k ih =>
      intro n
      show shr b n (k + 1) / b = shr b (n / b) k / b
      rw [ih n]
  intro k
  induction k generalizing n with
  | zero => rfl
  | succ k ih =>
    show n % b :: digs b (n / b) (k + 1) = (n % b :: digs b (n / b) k) ++ [shr b n (k + 1) % b]
    rw [ih, shr_in k n]
    rfl
theorem digs_len (b n : Int) (k : Nat) : (digs b n k).length = k := by
  induction k generalizing n with
  | zero => rfl
  | succ k ih =>
    show (digs b (n / b) k).length + 1 = k + 1
    rw [ih]
/-- a new tuple of these ints -/
def NewT (H : Hp) (Q : VK) (ns : List Int) : Prop := ∀ p H', Same H H' → H p = none → H' p = some (.tup (ns.map V.int)) → Q (.ref p) H'
def spFigures_of : Sp := fun vs H Q _ => ∃ (b n m : Int), vs = [.int b, .int n, .int m] ∧ 0 < b ∧ b < 2 ^ 20 ∧ 0 ≤ m ∧ m ≤ 1000 ∧ NewT H Q (digs b n m.toNat)
def spPower : Sp := fun vs H Q _ => ∃ (b m : Int), vs = [.int b, .int m] ∧ -(2 ^ 64) < b ∧ b < 2 ^ 64 ∧ 0 ≤ m ∧ m < 2 ^ 62 ∧ Q (.int (b ^ m.toNat)) H
/-- the drawing state: a list of a number, the cells' list, a number -/
def DrawAt (H : Hp) (a c : Addr) : Prop := ∃ (s i : Int) (cells : List Int), H a = some (.lst [.int s, .ref c, .int i]) ∧ H c = some (.lst (cells.map V.int)) ∧ 0 ≤ s ∧ 0 ≤ i ∧ cells.length ≤ 63
theorem DrawAt.ne {H : Hp} {a c : Addr} (h : DrawAt H a c) : a ≠ c := by
  obtain ⟨s, i, cells, ha, hc, _⟩ := h
  refine ne_of ha hc fun z => ?_
  have e := HO.lst.inj z
  match cells, e with
  | [], e => cases e
  | [_], e => cases e
  | _ :: y :: r, e =>
    have e2 := (List.cons.inj (List.cons.inj e).2).1
    cases e2
theorem DrawAt.tn {H H' : Hp} {a c : Addr} (h : DrawAt H a c) (k : Kp a c H H') : Tn H H' := by
  obtain ⟨s, i, cells, ha, hc, _⟩ := h
  exact k.tn ha hc
theorem DrawAt.same {H H' : Hp} {a c : Addr} (h : DrawAt H a c) (k : Same H H') : DrawAt H' a c := by
  obtain ⟨s, i, cells, ha, hc, h0⟩ := h
  exact ⟨s, i, cells, k _ _ ha, k _ _ hc, h0⟩
def spNext : Sp := fun vs H Q _ => ∃ (a c : Addr) (m : Int), vs = [.ref a, .int m] ∧ DrawAt H a c ∧ 0 < m ∧ m < 2 ^ 30 ∧ ∀ (r : Int) (H' : Hp), 0 ≤ r → r < m → DrawAt H' a c → Kp a c H H' → Tn H H' → Q (.int r) H'
theorem val_append (b : Int) (xs ys : List Int) : val b (xs ++ ys) = val b xs + b ^ xs.length * val b ys := by
  induction xs with
  | nil =>
    show val b ys = 0 + b ^ 0 * val b ys
    rw [Int.pow_zero, Int.one_mul, Int.zero_add]
  | cons x r ih =>
    show x + b * val b (r ++ ys) = x + b * val b r + b ^ (r.length + 1) * val b ys
    rw [ih, Int.mul_add, Int.pow_succ, Int.add_assoc, Int.mul_comm (b ^ r.length) b, Int.mul_assoc]
theorem val_take {b : Int} {ds : List Int} {i : Nat} {d : Int} (h : ds[i]? = some d) : val b (ds.take (i + 1)) = val b (ds.take i) + d * b ^ i := by
  have hi := (List.getElem?_eq_some_iff.mp h).1
  rw [List.take_add_one, h]
  show val b (ds.take i ++ [d]) = _
  rw [val_append, List.length_take, Nat.min_eq_left (Nat.le_of_lt hi)]
  show val b (ds.take i) + b ^ i * (d + b * 0) = _
  rw [Int.mul_zero, Int.add_zero, Int.mul_comm]
def spNumber (K : PySem.W.Frag) : Sp := fun vs H Q _ => ∃ (b : Int) (a : Addr) (ds : List Int), vs = [.int b, .ref a] ∧ SqT K H a (ds.map V.int) ∧ ds.length ≤ 1000 ∧ (∀ d ∈ ds, 0 ≤ d ∧ d < 2 ^ 60) ∧ -(2 ^ 64) < b ∧ b < 2 ^ 64 ∧ Q (.int (val b ds)) H
def rowOf (b n : Int) (m : Nat) : List Int := (List.range m).map fun k => n / b ^ k % b
theorem pow_pos {b : Int} (h : 0 < b) : ∀ k : Nat, 0 < b ^ k
  | 0 => by rw [Int.pow_zero]; decide
  | k + 1 => by rw [Int.pow_succ]; exact Int.mul_pos (pow_pos h k) h
theorem pow_bits {b : Int} (h : 0 < b) (h2 : b ≤ 16) : ∀ k : Nat, (b ^ k).natAbs < 2 ^ (4 * k + 1)
  | 0 => by rw [Int.pow_zero]; decide
  | k + 1 => by
    have ih := pow_bits h h2 k
    rw [Int.pow_succ, Int.natAbs_mul]
    have e : 2 ^ (4 * (k + 1) + 1) = 2 ^ (4 * k + 1) * 16 := by rw [show 4 * (k + 1) + 1 = 4 * k + 1 + 4 by omega, Nat.pow_add]
    rw [e]
    have hb : b.natAbs ≤ 16 := by omega
    have h1 : (b ^ k).natAbs * b.natAbs ≤ (b ^ k).natAbs * 16 := Nat.mul_le_mul_left _ hb
    omega
def spRow : Sp := fun vs H Q _ => ∃ (b n m : Int), vs = [.int b, .int n, .int m] ∧ 0 < b ∧ b ≤ 16 ∧ 0 ≤ m ∧ m ≤ 1000 ∧ NewT H Q (rowOf b n m.toNat)
def spFigures : Sp := fun vs H Q _ => ∃ (a c : Addr) (b m : Int), vs = [.ref a, .int b, .int m] ∧ DrawAt H a c ∧ 0 < b ∧ b < 2 ^ 30 ∧ 0 ≤ m ∧ m ≤ 1000 ∧
  ∀ (ds : List Int) p H', ds.length = m.toNat → (∀ d ∈ ds, 0 ≤ d ∧ d < b) → DrawAt H' a c → Kp a c H H' → Tn H H' → H' p = some (.tup (ds.map V.int)) → Q (.ref p) H'
def spLaw (K : PySem.W.Frag) : Sp := fun vs H Q _ => ∃ (a : Addr) (ns : List Int), vs = [.ref a] ∧ SqL K H a (ns.map V.int) ∧ ns.length ≤ 63 ∧ ∀ H', Q (.bl true) H'
/-! figures and numbers -/
theorem digs_val {b : Int} (hb : 0 < b) (t : Int) : ∀ ds : List Int, (∀ d ∈ ds, 0 ≤ d ∧ d < b) → digs b (val b ds + b ^ ds.length * t) ds.length = ds
  | [], _ => rfl
  | d :: r, h => by
    obtain ⟨h0, h1⟩ := h d List.mem_cons_self
    have ih := digs_val hb t r fun x hx => h x (List.mem_cons_of_mem _ hx)
    have e : val b (d :: r) + b ^ (d :: r).length * t = d + b * (val b r + b ^ r.length * t) := by
      show d + b * val b r + b ^ (r.length + 1) * t = _
      rw [Int.pow_succ, Int.mul_add, Int.mul_comm (b ^ r.length) b, Int.mul_assoc, Int.add_assoc]
    rw [e]
    show (d + b * (val b r + b ^ r.length * t)) % b :: digs b ((d + b * (val b r + b ^ r.length * t)) / b) r.length = d :: r
    rw [Int.add_mul_emod_self_left, Int.emod_eq_of_lt h0 h1, Int.add_mul_ediv_left _ _ (by omega), Int.ediv_eq_zero_of_lt h0 h1, Int.zero_add, ih]
theorem digs_row {b : Int} (hb : 0 < b) (n : Int) (m : Nat) : digs b n m = rowOf b n m := by
  have shr_eq : ∀ k, shr b n k = n / b ^ k := by
    intro k
    induction k with
    | zero => rw [Int.pow_zero, Int.ediv_one]; rfl
    | succ k ih =>
      show shr b n k / b = _
      rw [ih, Int.pow_succ, Int.ediv_ediv_of_nonneg (Int.le_of_lt (pow_pos hb k))]
  induction m with
  | zero => rfl
  | succ m ih =>
    rw [digs_end, ih, shr_eq]
    unfold rowOf
    rw [List.range_succ, List.map_append]
    rfl
theorem val_zeros (b : Int) (ds : List Int) : val b (ds ++ [0, 0]) = val b ds := by
  rw [val_append]
  show val b ds + b ^ ds.length * (0 + b * (0 + b * 0)) = _
  rw [Int.mul_zero, Int.add_zero, Int.mul_zero, Int.add_zero, Int.mul_zero, Int.add_zero]
end My
set_option Elab.async false
set_option linter.all false
set_option maxRecDepth 100000
set_option maxHeartbeats 4000000
/-! carries: what stays true while levers are done -/
namespace My
open PySem PySem.Spec L2 RT Rn
/-- one if true -/
def one (x : Bool) : Int := if x then 1 else 0
/-- the carry that came to wheel k -/
def cin (d : Nat → Bool) : Nat → Int
  | 0 => 0
  | k + 1 => one (d k)
theorem one_01 (x : Bool) : one x = 0 ∨ one x = 1 := by cases x <;> simp [one]
theorem cin_01 (d : Nat → Bool) (k : Nat) : cin d k = 0 ∨ cin d k = 1 := by
  cases k with
  | zero => exact .inl rfl
  | succ k => exact one_01 _
def vk (way : Int) (w F : Nat → Int) (d : Nat → Bool) (k : Nat) : Int := w k + way * (F k + cin d k)
def InR (b v : Int) : Prop := 0 ≤ v ∧ v < b
structure Wn (b way : Int) (n : Nat) (w F : Nat → Int) : Prop where
  b2 : 2 ≤ b
  way1 : way = 1 ∨ way = -1
  w0 : ∀ k, k < n → 0 ≤ w k ∧ w k < b
  F0 : ∀ k, k < n → 0 ≤ F k ∧ F k < b
/-- the wheels and levers behind the carries of d -/
structure Cs (b way : Int) (n : Nat) (w F : Nat → Int) (d : Nat → Bool) (row L : List Int) : Prop where
  len : row.length = n
  eq : ∀ k, k < n → row[k]? = some (vk way w F d k % b)
  lev : ∀ l : Int, l ∈ L ↔ ∃ k : Nat, k < n ∧ l = (k : Int) ∧ ¬ InR b (vk way w F d k) ∧ d k = false
  dle : ∀ k, k < n → d k = true → ¬ InR b (vk way w F d k)
  up : L.Pairwise (· < ·)
def setD (d : Nat → Bool) (k : Nat) : Nat → Bool := fun j => if j = k then true else d j
theorem setD_same (d : Nat → Bool) (k : Nat) : setD d k k = true := by simp [setD]
theorem setD_ne (d : Nat → Bool) {k j : Nat} (h : j ≠ k) : setD d k j = d j := by simp [setD, h]
theorem vk_ne {way : Int} {w F : Nat → Int} {d : Nat → Bool} {k j : Nat} (h : j ≠ k + 1) : vk way w F (setD d k) j = vk way w F d j := by
  unfold vk
  cases j with
  | zero => rfl
  | succ j =>
    show w (j + 1) + way * (F (j + 1) + one (setD d k j)) = _
    rw [setD_ne d (by omega)]
    rfl
theorem vk_next {way : Int} {w F : Nat → Int} {d : Nat → Bool} {k : Nat} (h : d k = false) : vk way w F (setD d k) (k + 1) = vk way w F d (k + 1) + way := by
  unfold vk
  show w (k + 1) + way * (F (k + 1) + one (setD d k k)) = w (k + 1) + way * (F (k + 1) + one (d k)) + way
  rw [setD_same, h]
  show w (k + 1) + way * (F (k + 1) + 1) = w (k + 1) + way * (F (k + 1) + 0) + way
  rw [Int.add_zero, Int.mul_add, Int.mul_one, Int.add_assoc]
theorem mod_in {b v : Int} (h : InR b v) : v % b = v := Int.emod_eq_of_lt h.1 h.2
/-- one wheel: what it shows and whether it went round -/
theorem wheel_eq {b way w F c : Int} (hb : 2 ≤ b) (hw : way = 1 ∨ way = -1) (h1 : 0 ≤ w ∧ w < b) (h2 : 0 ≤ F ∧ F < b) (hc : c = 0 ∨ c = 1) :
    (InR b (w + way * (F + c)) ∧ (w + way * (F + c)) % b = w + way * (F + c)) ∨ (¬ InR b (w + way * (F + c)) ∧ (w + way * (F + c)) % b = w + way * (F + c) - way * b) := by
  by_cases h : InR b (w + way * (F + c))
  · exact .inl ⟨h, mod_in h⟩
  · refine .inr ⟨h, ?_⟩
    have h' : ¬ (0 ≤ w + way * (F + c) ∧ w + way * (F + c) < b) := h
    rcases hw with e | e <;> subst e
    · rw [Int.one_mul] at h' ⊢
      have e : (w + (F + c)) % b = (w + (F + c) - b) % b := by rw [Int.sub_emod_right]
      rw [e, Int.one_mul]
      exact Int.emod_eq_of_lt (by omega) (by omega)
    · have e : (w + -1 * (F + c)) % b = (w + -1 * (F + c) + b) % b := by rw [Int.add_emod_right]
      rw [e, show w + -1 * (F + c) - -1 * b = w + -1 * (F + c) + b by omega]
      exact Int.emod_eq_of_lt (by omega) (by omega)
/-- the next wheel, gone on by one more -/
theorem wheel_next {b way w F : Int} (hb : 2 ≤ b) (hw : way = 1 ∨ way = -1) (h1 : 0 ≤ w ∧ w < b) (h2 : 0 ≤ F ∧ F < b) :
    (InR b (w + way * (F + 0)) ∧ (InR b (w + way * (F + 0) + way) ↔ InR b ((w + way * (F + 0)) % b + way))) ∨ (¬ InR b (w + way * (F + 0)) ∧ ¬ InR b (w + way * (F + 0) + way) ∧ InR b ((w + way * (F + 0)) % b + way)) := by
  rcases wheel_eq hb hw h1 h2 (.inl rfl : (0 : Int) = 0 ∨ (0 : Int) = 1) with ⟨h, e⟩ | ⟨h, e⟩
  · exact .inl ⟨h, by rw [e]⟩
  · refine .inr ⟨h, ?_⟩
    rw [e]
    unfold InR at h ⊢
    rcases hw with e | e <;> subst e <;> omega
theorem Cs.step {b way : Int} {n : Nat} {w F : Nat → Int} {d : Nat → Bool} {row L L' : List Int} {k : Nat} {x : Int} (N : Wn b way n w F) (C : Cs b way n w F d row L) (hk : (k : Int) ∈ L) (hk1 : k + 1 < n) (hx : row[k + 1]? = some x)
    (hL : ∀ l, l ∈ L' ↔ (l ∈ L ∧ l ≠ (k : Int)) ∨ (l = (k : Int) + 1 ∧ ¬ InR b (x + way))) (up : L'.Pairwise (· < ·)) : Cs b way n w F (setD d k) (row.set (k + 1) ((x + way) % b)) L' := by
  obtain ⟨k', hk', ek, hr, hd⟩ := (C.lev _).mp hk
  have ekk : k' = k := by omega
  subst ekk
  have ex : x = vk way w F d (k' + 1) % b := Option.some.inj (hx.symm.trans (C.eq (k' + 1) hk1))
  have hc : cin d (k' + 1) = 0 := by show one (d k') = 0; rw [hd]; rfl
  have hv : vk way w F d (k' + 1) = w (k' + 1) + way * (F (k' + 1) + 0) := by unfold vk; rw [hc]
  have nx := wheel_next N.b2 N.way1 (N.w0 _ hk1) (N.F0 _ hk1)
  rw [← hv, ← ex] at nx
  have hv' := vk_next (way := way) (w := w) (F := F) hd
  refine ⟨by rw [List.length_set]; exact C.len, fun j hj => ?_, fun l => ?_, fun j hj hdj => ?_, up⟩
  · by_cases ej : j = k' + 1
    · subst ej
      rw [List.getElem?_set_self (by rw [C.len]; exact hj), hv', ex, Int.emod_add_emod]
    · rw [List.getElem?_set_ne (Ne.symm ej), C.eq j hj, vk_ne ej]
  · rw [hL l, C.lev l]
    constructor
    · rintro (⟨⟨j, hj, e, hr', hd'⟩, hne⟩ | ⟨e, hr'⟩)
      · have hjk : j ≠ k' := fun z => hne (by rw [e, z])
        refine ⟨j, hj, e, ?_, by rw [setD_ne d hjk]; exact hd'⟩
        by_cases ej : j = k' + 1
        · subst ej
          rw [hv']
          rcases nx with ⟨a, _⟩ | ⟨_, a, _⟩
          · exact absurd a hr'
          · exact a
        · rw [vk_ne ej]
          exact hr'
      · refine ⟨k' + 1, hk1, by omega, ?_, ?_⟩
        · rw [hv']
          rcases nx with ⟨_, a⟩ | ⟨_, a, _⟩
          · exact fun z => hr' (a.mp z)
          · exact a
        · rw [setD_ne d (by omega)]
          cases e2 : d (k' + 1) with
          | false => rfl
          | true =>
            have := C.dle _ hk1 e2
            rcases nx with ⟨a, _⟩ | ⟨_, _, a⟩
            · exact absurd a this
            · exact absurd a hr'
    · rintro ⟨j, hj, e, hr', hd'⟩
      have hjk : j ≠ k' := fun z => by rw [z, setD_same] at hd'; cases hd'
      rw [setD_ne d hjk] at hd'
      by_cases ej : j = k' + 1
      · subst ej
        rw [hv'] at hr'
        rcases nx with ⟨a, a2⟩ | ⟨a, _, _⟩
        · exact .inr ⟨by omega, fun z => hr' (a2.mpr z)⟩
        · exact .inl ⟨⟨_, hj, e, a, hd'⟩, by omega⟩
      · rw [vk_ne ej] at hr'
        exact .inl ⟨⟨j, hj, e, hr', hd'⟩, by omega⟩
  · by_cases ej : j = k' + 1
    · subst ej
      rw [hv']
      rw [setD_ne d (by omega)] at hdj
      have := C.dle _ hj hdj
      rcases nx with ⟨a, _⟩ | ⟨_, a, _⟩
      · exact absurd a this
      · exact a
    · rw [vk_ne ej]
      by_cases ek : j = k'
      · rw [ek]; exact hr
      · rw [setD_ne d ek] at hdj
        exact C.dle j hj hdj
theorem Cs.last {b way : Int} {n : Nat} {w F : Nat → Int} {d : Nat → Bool} {row L L' : List Int} {k : Nat} (C : Cs b way n w F d row L) (hk : (k : Int) ∈ L) (hk1 : n ≤ k + 1)
    (hL : ∀ l, l ∈ L' ↔ l ∈ L ∧ l ≠ (k : Int)) (up : L'.Pairwise (· < ·)) : Cs b way n w F (setD d k) row L' := by
  obtain ⟨k', hk', ek, hr, hd⟩ := (C.lev _).mp hk
  have ekk : k' = k := by omega
  subst ekk
  refine ⟨C.len, fun j hj => by rw [C.eq j hj, vk_ne (by omega)], fun l => ?_, fun j hj hdj => ?_, up⟩
  · rw [hL l, C.lev l]
    constructor
    · rintro ⟨⟨j, hj, e, hr', hd'⟩, hne⟩
      exact ⟨j, hj, e, by rw [vk_ne (by omega)]; exact hr', by rw [setD_ne d (fun z => hne (by rw [e, z]))]; exact hd'⟩
    · rintro ⟨j, hj, e, hr', hd'⟩
      have hjk : j ≠ k' := fun z => by rw [z, setD_same] at hd'; cases hd'
      rw [setD_ne d hjk] at hd'
      rw [vk_ne (by omega)] at hr'
      exact ⟨⟨j, hj, e, hr', hd'⟩, by omega⟩
  · rw [vk_ne (by omega)]
    by_cases ek : j = k'
    · rw [ek]; exact hr
    · rw [setD_ne d ek] at hdj
      exact C.dle j hj hdj
/-- sums of figures -/
def sumN (b : Int) (f : Nat → Int) : Nat → Int
  | 0 => 0
  | k + 1 => sumN b f k + f k * b ^ k
theorem val_sum (b : Int) (ds : List Int) : ∀ i, i ≤ ds.length → val b (ds.take i) = sumN b (fun k => ds.getD k 0) i
  | 0, _ => by rw [List.take_zero]; rfl
  | i + 1, h => by
    have hx : ds[i]? = some ds[i] := List.getElem?_eq_getElem h
    rw [val_take hx, val_sum b ds i (by omega)]
    show _ = sumN b _ i + ds.getD i 0 * b ^ i
    rw [List.getD_eq_getElem?_getD, hx]
    rfl
theorem val_all (b : Int) (ds : List Int) : val b ds = sumN b (fun k => ds.getD k 0) ds.length := by
  have h := val_sum b ds ds.length (Nat.le_refl _)
  rw [List.take_length] at h
  exact h
theorem sum_congr {b : Int} {f g : Nat → Int} : ∀ {n : Nat}, (∀ k, k < n → f k = g k) → sumN b f n = sumN b g n
  | 0, _ => rfl
  | n + 1, h => by
    show sumN b f n + f n * b ^ n = sumN b g n + g n * b ^ n
    rw [sum_congr fun k hk => h k (by omega), h n (by omega)]
theorem sum_way {b way : Int} {f g : Nat → Int} : ∀ n : Nat, sumN b (fun k => f k + way * g k) n = sumN b f n + way * sumN b g n
  | 0 => by show (0 : Int) = 0 + way * 0; rw [Int.mul_zero]; rfl
  | n + 1 => by
    show sumN b (fun k => f k + way * g k) n + (f n + way * g n) * b ^ n = sumN b f n + f n * b ^ n + way * (sumN b g n + g n * b ^ n)
    rw [sum_way n, Int.add_mul, Int.mul_add, Int.mul_assoc]
    omega
theorem val_bounds {b : Int} (hb : 0 < b) : ∀ ds : List Int, (∀ d ∈ ds, 0 ≤ d ∧ d < b) → 0 ≤ val b ds ∧ val b ds < b ^ ds.length
  | [], _ => by
    show (0 : Int) ≤ 0 ∧ (0 : Int) < b ^ 0
    rw [Int.pow_zero]
    decide
  | d :: r, h => by
    obtain ⟨h0, h1⟩ := h d List.mem_cons_self
    obtain ⟨i0, i1⟩ := val_bounds hb r fun x hx => h x (List.mem_cons_of_mem _ hx)
    show 0 ≤ d + b * val b r ∧ d + b * val b r < b ^ (r.length + 1)
    rw [Int.pow_succ]
    have e : b * val b r ≤ b * (b ^ r.length - 1) := Int.mul_le_mul_of_nonneg_left (by omega) (by omega)
    have e2 : 0 ≤ b * val b r := Int.mul_nonneg (by omega) i0
    rw [Int.mul_sub, Int.mul_one, Int.mul_comm b (b ^ r.length)] at e
    omega
/-- all levers done: the number -/
theorem Cs.done {b way : Int} {n : Nat} {w F : Nat → Int} {d : Nat → Bool} {row : List Int} (N : Wn b way n w F) (C : Cs b way n w F d row []) :
    (∀ x ∈ row, 0 ≤ x ∧ x < b) ∧ val b row = (sumN b w n + way * sumN b F n) % b ^ n ∧ (cin d n = 1 ↔ ¬ InR (b ^ n) (sumN b w n + way * sumN b F n)) := by
  have hb : 0 < b := by have := N.b2; omega
  have rowb : ∀ x ∈ row, 0 ≤ x ∧ x < b := fun x hx => by
    obtain ⟨k, hk, e⟩ := List.getElem_of_mem hx
    have q := C.eq k (by rw [← C.len]; exact hk)
    rw [List.getElem?_eq_getElem hk, e] at q
    rw [Option.some.inj q]
    exact ⟨Int.emod_nonneg _ (by omega), Int.emod_lt_of_pos _ hb⟩
  have full : ∀ k, k < n → vk way w F d k = vk way w F d k % b + way * b * one (d k) := fun k hk => by
    have we := wheel_eq N.b2 N.way1 (N.w0 k hk) (N.F0 k hk) (cin_01 d k)
    rw [show w k + way * (F k + cin d k) = vk way w F d k from rfl] at we
    cases e : d k with
    | true =>
      have := C.dle k hk e
      rcases we with ⟨a, _⟩ | ⟨_, a⟩
      · exact absurd a this
      · show _ = _ + way * b * 1
        rw [a]
        omega
    | false =>
      rcases we with ⟨_, a⟩ | ⟨a, _⟩
      · show _ = _ + way * b * 0
        rw [a]
        omega
      · exact absurd ((C.lev k).mpr ⟨k, hk, rfl, a, e⟩) (List.not_mem_nil)
  have sums : ∀ m, m ≤ n → sumN b w m + way * sumN b F m = sumN b (fun k => vk way w F d k % b) m + way * b ^ m * cin d m := by
    intro m
    induction m with
    | zero => intro _; show (0 : Int) + way * 0 = 0 + way * b ^ 0 * 0; omega
    | succ m ih =>
      intro hm
      have h1 := ih (by omega)
      have h2 := full m (by omega)
      have hv : vk way w F d m = w m + way * F m + way * cin d m := by unfold vk; rw [Int.mul_add, Int.add_assoc]
      show sumN b w m + w m * b ^ m + way * (sumN b F m + F m * b ^ m) = sumN b (fun k => vk way w F d k % b) m + vk way w F d m % b * b ^ m + way * b ^ (m + 1) * one (d m)
      have e1 : vk way w F d m % b = w m + way * F m + way * cin d m - way * b * one (d m) := by omega
      rw [e1, Int.pow_succ, Int.mul_add]
      have e2 : (w m + way * F m + way * cin d m - way * b * one (d m)) * b ^ m = w m * b ^ m + way * (F m * b ^ m) + way * b ^ m * cin d m - way * (b ^ m * b) * one (d m) := by
        rw [Int.sub_mul, Int.add_mul, Int.add_mul]
        congr 1
        · congr 1
          · rw [Int.mul_assoc]
          · rw [Int.mul_assoc, Int.mul_assoc, Int.mul_comm (cin d m)]
        · simp only [Int.mul_comm, Int.mul_left_comm, Int.mul_assoc]
      rw [e2]
      omega
  have hs := sums n (Nat.le_refl _)
  have er : val b row = sumN b (fun k => vk way w F d k % b) n := by
    rw [val_all, C.len]
    refine sum_congr fun k hk => ?_
    rw [List.getD_eq_getElem?_getD, C.eq k hk]
    rfl
  obtain ⟨v0, v1⟩ := val_bounds hb row rowb
  rw [C.len] at v1
  rw [← er] at hs
  refine ⟨rowb, ?_, ?_⟩
  · rw [hs, show way * b ^ n * cin d n = b ^ n * (way * cin d n) by rw [Int.mul_comm way, Int.mul_assoc], Int.add_mul_emod_self_left, Int.emod_eq_of_lt v0 v1]
  · rw [hs]
    unfold InR
    rcases cin_01 d n with e | e <;> rw [e] <;> rcases N.way1 with z | z <;> subst z <;> omega
end My
set_option Elab.async false
set_option linter.all false
set_option maxRecDepth 100000
set_option maxHeartbeats 4000000
/-! machines, stands: promises of the wheels' defs -/
namespace My
open PySem PySem.Spec L2 RT Rn
structure Mach (b s w c : Int) : Prop where
  b0 : 2 ≤ b
  b1 : b ≤ 12
  s0 : 1 ≤ s
  s1 : s ≤ 6
  w0 : s ≤ w
  w1 : w ≤ 16
  c0 : 1 ≤ c
  c1 : c ≤ 10
/-- a machine stands at m -/
def MachAt (K : PySem.W.Frag) (H : Hp) (m : Addr) (b s w c : Int) : Prop := SqT K H m [.int b, .int s, .int w, .int c]
def spNeed (K : PySem.W.Frag) : Sp := fun vs H Q _ => ∃ (m : Addr) (b s w c : Int), vs = [.ref m] ∧ MachAt K H m b s w c ∧ Mach b s w c ∧ Q .non H
def spGone : Sp := fun vs H Q _ => ∃ (b f y : Int), vs = [.int b, .int f, .int y] ∧ 0 < b ∧ ∀ (r : Bool) p H', (r = true ↔ ¬ InR b (f + y)) → H p = none → Same H H' → H' p = some (.tup [.int ((f + y) % b), .bl r]) → Q (.ref p) H'
/-- a stand stands at t: the setting, the place, the wheels, what stands for the counts -/
structure StAt (K : PySem.W.Frag) (H : Hp) (t : Addr) (S W C : List Int) (p : Int) : Prop where
  ex : ∃ a1 a2 a3 : Addr, SqT K H t [.ref a1, .int p, .ref a2, .ref a3] ∧ SqT K H a1 (S.map V.int) ∧ SqT K H a2 (W.map V.int) ∧ SqT K H a3 (C.map V.int)
theorem StAt.tn {K : PySem.W.Frag} {H H' : Hp} {t : Addr} {S W C : List Int} {p : Int} (h : StAt K H t S W C p) (e : Tn H H') : StAt K H' t S W C p := by
  obtain ⟨a1, a2, a3, h0, h1, h2, h3⟩ := h
  exact ⟨a1, a2, a3, SqT.tn e h0, SqT.tn e h1, SqT.tn e h2, SqT.tn e h3⟩
def Figs (b : Int) (ds : List Int) : Prop := ∀ d ∈ ds, 0 ≤ d ∧ d < b
structure Stand (b s w c : Int) (S W C : List Int) (p : Int) : Prop where
  ls : S.length = s.toNat
  lw : W.length = w.toNat
  lc : C.length = c.toNat
  fs : Figs b S
  fw : Figs b W
  fc : Figs b C
  p0 : 0 ≤ p
  p1 : p + s ≤ w
  p2 : p < c
def wN (W : List Int) : Nat → Int := fun k => W.getD k 0
def fN (p : Int) (S : List Int) : Nat → Int := fun k => if p.toNat ≤ k then S.getD (k - p.toNat) 0 else 0
theorem Figs.getD {b : Int} {ds : List Int} (h : Figs b ds) (hb : 0 < b) (k : Nat) : 0 ≤ ds.getD k 0 ∧ ds.getD k 0 < b := by
  rw [List.getD_eq_getElem?_getD]
  cases e : ds[k]? with
  | none => exact ⟨Int.le_refl _, hb⟩
  | some x => exact h x (List.mem_of_getElem? e)
theorem Stand.wn {b s w c p way : Int} {S W C : List Int} (hb : 2 ≤ b) (hw : way = 1 ∨ way = -1) (T : Stand b s w c S W C p) : Wn b way w.toNat (wN W) (fN p S) :=
  ⟨hb, hw, fun k _ => T.fw.getD (by omega) k, fun k _ => by
    unfold fN
    split
    · exact T.fs.getD (by omega) _
    · omega⟩
instance (b v : Int) : Decidable (InR b v) := inferInstanceAs (Decidable (0 ≤ v ∧ v < b))
/-- some first slides done -/
structure Ps (b way : Int) (P : Nat) (w F : Nat → Int) (n i : Nat) (row L : List Int) : Prop where
  len : row.length = n
  eq : ∀ k, k < n → row[k]? = some (if P ≤ k ∧ k < P + i then (w k + way * F k) % b else w k)
  lev : ∀ l : Int, l ∈ L ↔ ∃ k : Nat, P ≤ k ∧ k < P + i ∧ l = (k : Int) ∧ ¬ InR b (w k + way * F k)
  up : L.Pairwise (· < ·)
theorem Ps.step {b way : Int} {P : Nat} {w F : Nat → Int} {n i : Nat} {row L L' : List Int} (C : Ps b way P w F n i row L) (hi : P + i < n)
    (hL : L' = if InR b (w (P + i) + way * F (P + i)) then L else L ++ [((P + i : Nat) : Int)]) : Ps b way P w F n (i + 1) (row.set (P + i) ((w (P + i) + way * F (P + i)) % b)) L' := by
  refine ⟨by rw [List.length_set]; exact C.len, fun k hk => ?_, fun l => ?_, ?_⟩
  · by_cases e : k = P + i
    · subst e
      rw [List.getElem?_set_self (by rw [C.len]; exact hk), if_pos ⟨by omega, by omega⟩]
    · rw [List.getElem?_set_ne (Ne.symm e), C.eq k hk]
      congr 1
      by_cases h : P ≤ k ∧ k < P + i
      · rw [if_pos h, if_pos ⟨h.1, by omega⟩]
      · rw [if_neg h, if_neg (by omega)]
  · rw [hL]
    by_cases h : InR b (w (P + i) + way * F (P + i))
    · rw [if_pos h, C.lev l]
      constructor
      · rintro ⟨k, h1, h2, e, h3⟩
        exact ⟨k, h1, by omega, e, h3⟩
      · rintro ⟨k, h1, h2, e, h3⟩
        have : k ≠ P + i := fun z => h3 (by rw [z]; exact h)
        exact ⟨k, h1, by omega, e, h3⟩
    · rw [if_neg h, List.mem_append, List.mem_singleton, C.lev l]
      constructor
      · rintro (⟨k, h1, h2, e, h3⟩ | e)
        · exact ⟨k, h1, by omega, e, h3⟩
        · exact ⟨P + i, by omega, by omega, e, h⟩
      · rintro ⟨k, h1, h2, e, h3⟩
        by_cases z : k = P + i
        · exact .inr (by rw [e, z])
        · exact .inl ⟨k, h1, by omega, e, h3⟩
  · rw [hL]
    split
    · exact C.up
    · rw [List.pairwise_append]
      refine ⟨C.up, List.pairwise_singleton _ _, fun a ha c hc => ?_⟩
      rw [List.mem_singleton.mp hc]
      obtain ⟨k, _, h2, e, _⟩ := (C.lev a).mp ha
      omega
theorem Ps.done {b s w c p way : Int} {S W C L row : List Int} (hb : 2 ≤ b) (hw : way = 1 ∨ way = -1) (hs : 0 ≤ s) (T : Stand b s w c S W C p) (Z : Ps b way p.toNat (wN W) (fN p S) w.toNat S.length row L) : Cs b way w.toNat (wN W) (fN p S) (fun _ => false) row L := by
  have hv : ∀ k, vk way (wN W) (fN p S) (fun _ => false) k = wN W k + way * fN p S k := fun k => by
    unfold vk
    have : cin (fun _ => false) k = 0 := by cases k <;> rfl
    rw [this, Int.add_zero]
  have out : ∀ k, ¬ (p.toNat ≤ k ∧ k < p.toNat + S.length) → fN p S k = 0 := fun k h => by
    unfold fN
    split
    · rw [List.getD_eq_getElem?_getD, List.getElem?_eq_none (by omega)]
      rfl
    · rfl
  have win : ∀ k, InR b (wN W k) := fun k => T.fw.getD (by omega) k
  have p0 := T.p0
  have p1 := T.p1
  have ls := T.ls
  refine ⟨Z.len, fun k hk => ?_, fun l => ?_, fun k _ h => (by cases h), Z.up⟩
  · rw [Z.eq k hk, hv]
    split
    · rfl
    · next h => rw [out k h, Int.mul_zero, Int.add_zero, mod_in (win k)]
  · rw [Z.lev l]
    constructor
    · rintro ⟨k, h1, h2, e, h3⟩
      exact ⟨k, by omega, e, by rw [hv]; exact h3, rfl⟩
    · rintro ⟨k, h1, e, h3, _⟩
      rw [hv] at h3
      by_cases h : p.toNat ≤ k ∧ k < p.toNat + S.length
      · exact ⟨k, h.1, h.2, e, h3⟩
      · rw [out k h, Int.mul_zero, Int.add_zero] at h3
        exact absurd (win k) h3
def spSpun (K : PySem.W.Frag) : Sp := fun vs H Q _ => ∃ (m t : Addr) (b s w c way p : Int) (S W C : List Int), vs = [.ref m, .ref t, .int way] ∧ MachAt K H m b s w c ∧ Mach b s w c ∧ StAt K H t S W C p ∧ Stand b s w c S W C p ∧ (way = 1 ∨ way = -1) ∧
  ∀ (z r l : Addr) (row L : List Int) (H' : Hp), Same H H' → H' z = some (.tup [.ref r, .ref l]) → H' r = some (.tup (row.map V.int)) → H l = none → H' l = some (.lst (L.map V.int)) → Ps b way p.toNat (wN W) (fN p S) w.toNat S.length row L → Q (.ref z) H'
/-- strictly rising numbers within bounds are few -/
theorem rising_few : ∀ {L : List Int} {lo hi : Int}, L.Pairwise (· < ·) → (∀ x ∈ L, lo ≤ x ∧ x < hi) → (L.length : Int) ≤ max 0 (hi - lo)
  | [], _, _, _, _ => by simp; omega
  | x :: r, lo, hi, hp, hx => by
    obtain ⟨h1, h2⟩ := List.pairwise_cons.mp hp
    have hx0 := hx x List.mem_cons_self
    have ih := rising_few (lo := x + 1) (hi := hi) h2 fun y hy => ⟨by have := h1 y hy; omega, (hx y (List.mem_cons_of_mem _ hy)).2⟩
    rw [List.length_cons]
    omega
theorem Cs.few {b way : Int} {n : Nat} {w F : Nat → Int} {d : Nat → Bool} {row L : List Int} (C : Cs b way n w F d row L) : L.length ≤ n := by
  have h := rising_few (lo := 0) (hi := n) C.up fun x hx => by
    obtain ⟨k, hk, e, _⟩ := (C.lev x).mp hx
    omega
  omega
def spCarried (K : PySem.W.Frag) : Sp := fun vs H Q _ => ∃ (m t l : Addr) (b s w c way : Int) (fw fF : Nat → Int) (d : Nat → Bool) (row L : List Int) (k : Nat), vs = [.ref m, .ref t, .ref l, .int (k : Int), .int way] ∧ MachAt K H m b s w c ∧ Mach b s w c ∧
  SqT K H t (row.map V.int) ∧ SqL K H l (L.map V.int) ∧ Wn b way w.toNat fw fF ∧ Cs b way w.toNat fw fF d row L ∧ (k : Int) ∈ L ∧
  ∀ (z r' l' : Addr) (row' L' : List Int) (H' : Hp), Same H H' → H' z = some (.tup [.ref r', .ref l', .bl (decide (w.toNat ≤ k + 1))]) → H' r' = some (.tup (row'.map V.int)) → H l' = none → H' l' = some (.lst (L'.map V.int)) → Cs b way w.toNat fw fF (setD d k) row' L' → Q (.ref z) H'
def spSettled (K : PySem.W.Frag) : Sp := fun vs H Q _ => ∃ (m t l o : Addr) (b s w c way : Int) (fw fF : Nat → Int) (row L os : List Int), vs = [.ref m, .ref t, .ref l, .ref o, .int way] ∧ MachAt K H m b s w c ∧ Mach b s w c ∧
  SqT K H t (row.map V.int) ∧ SqL K H l (L.map V.int) ∧ SqL K H o (os.map V.int) ∧ Wn b way w.toNat fw fF ∧ Cs b way w.toNat fw fF (fun _ => false) row L ∧
  ∀ (z r' : Addr) (row' : List Int) (d : Nat → Bool) (g : Bool) (H' : Hp), Same H H' → H' z = some (.tup [.ref r', .bl g]) → SqT K H' r' (row'.map V.int) → Cs b way w.toNat fw fF d row' [] → (g = true ↔ cin d w.toNat = 1) → Q (.ref z) H'
/-- how many levers are not done yet -/
def undone (d : Nat → Bool) : Nat → Nat
  | 0 => 0
  | n + 1 => undone d n + (if d n = true then 0 else 1)
theorem undone_far {d : Nat → Bool} {k : Nat} : ∀ {n : Nat}, n ≤ k → undone (setD d k) n = undone d n
  | 0, _ => rfl
  | n + 1, h => by
    show undone (setD d k) n + (if setD d k n = true then 0 else 1) = _
    rw [undone_far (by omega), setD_ne d (by omega)]
    rfl
theorem undone_step {d : Nat → Bool} {k : Nat} (hd : d k = false) : ∀ {n : Nat}, k < n → undone (setD d k) n + 1 = undone d n
  | n + 1, h => by
    show undone (setD d k) n + (if setD d k n = true then 0 else 1) + 1 = undone d n + (if d n = true then 0 else 1)
    by_cases e : k = n
    · subst e
      rw [undone_far (Nat.le_refl _), setD_same, hd]
      simp
    · have ih := undone_step hd (n := n) (by omega)
      rw [setD_ne d (Ne.symm e)]
      omega
theorem cin_set {d : Nat → Bool} {k n : Nat} (hk : k < n) : cin (setD d k) n = 1 ↔ (cin d n = 1 ∨ n ≤ k + 1) := by
  cases n with
  | zero => omega
  | succ n =>
    show one (setD d k n) = 1 ↔ (one (d n) = 1 ∨ n + 1 ≤ k + 1)
    by_cases e : n = k
    · subst e
      rw [setD_same]
      exact ⟨fun _ => .inr (Nat.le_refl _), fun _ => rfl⟩
    · rw [setD_ne d e]
      exact ⟨.inl, fun h => h.elim id fun z => by omega⟩
end My
set_option Elab.async false
set_option linter.all false
set_option maxRecDepth 100000
set_option maxHeartbeats 4000000
/-! what the laws draw -/
namespace My
open PySem PySem.Spec L2 RT Rn
theorem pick2 {x y : V} {r : Int} (h0 : 0 ≤ r) (h1 : r < 2) : atI [x, y] r = some (if r = 0 then x else y) := by
  rcases (show r = 0 ∨ r = 1 by omega) with rfl | rfl <;> rfl
theorem pick3 {x y z : V} {r : Int} (h0 : 0 ≤ r) (h1 : r < 3) : atI [x, y, z] r = some (if r = 0 then x else if r = 1 then y else z) := by
  rcases (show r = 0 ∨ r = 1 ∨ r = 2 by omega) with rfl | rfl | rfl <;> rfl
theorem pick4 {x y z u : V} {r : Int} (h0 : 0 ≤ r) (h1 : r < 4) : atI [x, y, z, u] r = some (if r = 0 then x else if r = 1 then y else if r = 2 then z else u) := by
  rcases (show r = 0 ∨ r = 1 ∨ r = 2 ∨ r = 3 by omega) with rfl | rfl | rfl | rfl <;> rfl
theorem pick2I {x y r : Int} (h0 : 0 ≤ r) (h1 : r < 2) : ∃ v, atI [V.int x, V.int y] r = some (.int v) ∧ (v = x ∨ v = y) := by
  rcases (show r = 0 ∨ r = 1 by omega) with rfl | rfl
  · exact ⟨x, rfl, .inl rfl⟩
  · exact ⟨y, rfl, .inr rfl⟩
theorem pick4I {x y z u r : Int} (h0 : 0 ≤ r) (h1 : r < 4) : ∃ v, atI [V.int x, V.int y, V.int z, V.int u] r = some (.int v) ∧ (v = x ∨ v = y ∨ v = z ∨ v = u) := by
  rcases (show r = 0 ∨ r = 1 ∨ r = 2 ∨ r = 3 by omega) with rfl | rfl | rfl | rfl
  · exact ⟨x, rfl, .inl rfl⟩
  · exact ⟨y, rfl, .inr (.inl rfl)⟩
  · exact ⟨z, rfl, .inr (.inr (.inl rfl))⟩
  · exact ⟨u, rfl, .inr (.inr (.inr rfl))⟩
/-- a draw leaves this behind -/
structure Drew (a c : Addr) (H H' : Hp) : Prop where
  dr : DrawAt H' a c
  kp : Kp a c H H'
  tn : Tn H H'
theorem Drew.trans {a c : Addr} {A B C : Hp} (x : Drew a c A B) (y : Drew a c B C) : Drew a c A C := ⟨y.dr, x.kp.trans y.kp, x.tn.trans y.tn⟩
theorem Drew.same {a c : Addr} {A B C : Hp} (x : Drew a c A B) (y : Same B C) : Drew a c A C := ⟨x.dr.same y, x.kp.trans y.kp, x.tn.trans y.tn⟩
theorem Drew.refl {a c : Addr} {H : Hp} (h : DrawAt H a c) : Drew a c H H := ⟨h, Kp.refl a c H, Tn.refl H⟩
/-- a new object stays through a draw -/
theorem Drew.keep {a c p : Addr} {A B C : Hp} {o : HO} (hA : DrawAt A a c) (hp : A p = none) (hB : B p = some o) (y : Drew a c B C) : C p = some o := by
  obtain ⟨s, i, cells, ha, hc, _⟩ := hA
  exact y.kp p _ hB (ne_of_none ha hp).symm (ne_of_none hc hp).symm
def spMachine : Sp := fun vs H Q _ => ∃ (a c : Addr) (n : Int), vs = [.ref a, .int n] ∧ DrawAt H a c ∧ 3 ≤ n ∧ n ≤ 12 ∧
  ∀ (b s w cc : Int) p H', Mach b s w cc → b ≤ n → Drew a c H H' → H' p = some (.tup [.int b, .int s, .int w, .int cc]) → Q (.ref p) H'
def spLTop (K : PySem.W.Frag) : Sp := fun vs H Q _ => ∃ (m : Addr) (b s w c : Int), vs = [.ref m] ∧ MachAt K H m b s w c ∧ Q (.int (min (w - s) (c - 1))) H
def spStand (K : PySem.W.Frag) : Sp := fun vs H Q _ => ∃ (a c m : Addr) (b s w cc : Int), vs = [.ref a, .ref m] ∧ DrawAt H a c ∧ MachAt K H m b s w cc ∧ Mach b s w cc ∧
  ∀ (S W C : List Int) (p : Int) t H', Stand b s w cc S W C p → Drew a c H H' → StAt K H' t S W C p → Q (.ref t) H'
end My
set_option Elab.async false
set_option linter.all false
set_option maxRecDepth 100000
set_option maxHeartbeats 4000000
/-! turns: the number that comes out -/
namespace My
open PySem PySem.Spec L2 RT Rn
theorem sum_zero {b : Int} {f : Nat → Int} : ∀ {n : Nat}, (∀ k, k < n → f k = 0) → sumN b f n = 0
  | 0, _ => rfl
  | n + 1, h => by
    show sumN b f n + f n * b ^ n = 0
    rw [sum_zero fun k hk => h k (by omega), h n (by omega), Int.zero_mul]
    rfl
theorem sum_add {b : Int} {f : Nat → Int} (P : Nat) : ∀ i : Nat, sumN b f (P + i) = sumN b f P + b ^ P * sumN b (fun k => f (P + k)) i
  | 0 => by show sumN b f P = sumN b f P + b ^ P * 0; rw [Int.mul_zero, Int.add_zero]
  | i + 1 => by
    show sumN b f (P + i) + f (P + i) * b ^ (P + i) = sumN b f P + b ^ P * (sumN b (fun k => f (P + k)) i + f (P + i) * b ^ i)
    rw [sum_add P i, Int.mul_add, Int.pow_add]
    have e : f (P + i) * (b ^ P * b ^ i) = b ^ P * (f (P + i) * b ^ i) := by simp only [Int.mul_comm, Int.mul_left_comm]
    rw [e]
    omega
theorem sum_fN {b p : Int} {S : List Int} {n : Nat} (hn : p.toNat + S.length ≤ n) : sumN b (fN p S) n = val b S * b ^ p.toNat := by
  obtain ⟨r, rfl⟩ : ∃ r, n = p.toNat + (S.length + r) := ⟨n - p.toNat - S.length, by omega⟩
  rw [sum_add, sum_zero (fun k hk => by unfold fN; rw [if_neg (by omega)]), sum_add, Int.zero_add]
  have e1 : sumN b (fun k => fN p S (p.toNat + k)) S.length = val b S := by
    rw [val_all]
    refine sum_congr fun k hk => ?_
    unfold fN
    rw [if_pos (by omega), show p.toNat + k - p.toNat = k by omega]
  have e2 : sumN b (fun k => fN p S (p.toNat + (S.length + k))) r = 0 := sum_zero fun k _ => by
    unfold fN
    rw [if_pos (by omega), List.getD_eq_getElem?_getD, List.getElem?_eq_none (by omega)]
    rfl
  rw [e1, e2, Int.mul_zero, Int.add_zero, Int.mul_comm]
theorem sum_wN (b : Int) (W : List Int) : sumN b (wN W) W.length = val b W := (val_all b W).symm
/-- the wheels' number behind a turn, not cut -/
def whole (b way p : Int) (S W : List Int) : Int := val b W + way * (val b S * b ^ p.toNat)
def wheelsOf (b way p w : Int) (S W : List Int) : List Int := digs b (whole b way p S W % b ^ w.toNat) w.toNat
def countsOf (b tally p c : Int) (C : List Int) : List Int := digs b ((val b C + tally * b ^ p.toNat) % b ^ c.toNat) c.toNat
theorem digs_figs {b : Int} (hb : 0 < b) : ∀ (n : Int) (k : Nat), Figs b (digs b n k)
  | n, 0 => fun d h => (List.not_mem_nil h).elim
  | n, k + 1 => fun d h => by
    rcases List.mem_cons.mp h with e | h
    · rw [e]
      exact ⟨Int.emod_nonneg _ (by omega), Int.emod_lt_of_pos _ hb⟩
    · exact digs_figs hb _ k d h
theorem digs_of_val {b : Int} (hb : 0 < b) {ds : List Int} (h : Figs b ds) : digs b (val b ds) ds.length = ds := by
  have e := digs_val hb 0 ds h
  rw [Int.mul_zero, Int.add_zero] at e
  exact e
theorem val_digs {b : Int} (hb : 0 < b) : ∀ (k : Nat) (n : Int), val b (digs b n k) = n % b ^ k
  | 0, n => by show (0 : Int) = n % b ^ 0; rw [Int.pow_zero, Int.emod_one]
  | k + 1, n => by
    show n % b + b * val b (digs b (n / b) k) = n % b ^ (k + 1)
    have hp := pow_pos hb k
    rw [val_digs hb k, Int.pow_succ]
    have h1 := Int.emod_nonneg (n / b) (show b ^ k ≠ 0 by omega)
    have h2 := Int.emod_lt_of_pos (n / b) hp
    have h3 := Int.emod_nonneg n (show b ≠ 0 by omega)
    have h4 := Int.emod_lt_of_pos n hb
    have e : n = n % b + b * ((n / b) % b ^ k) + (b ^ k * b) * (n / b / b ^ k) := by
      have a1 := Int.emod_add_mul_ediv n b
      have a2 := Int.emod_add_mul_ediv (n / b) (b ^ k)
      have a3 : b * (n / b) = b * ((n / b) % b ^ k) + b * (b ^ k * (n / b / b ^ k)) := by rw [← Int.mul_add, a2]
      have a4 : b * (b ^ k * (n / b / b ^ k)) = (b ^ k * b) * (n / b / b ^ k) := by simp only [Int.mul_comm, Int.mul_left_comm, Int.mul_assoc]
      omega
    have lo : 0 ≤ n % b + b * ((n / b) % b ^ k) := Int.add_nonneg h3 (Int.mul_nonneg (by omega) h1)
    have hi : n % b + b * ((n / b) % b ^ k) < b ^ k * b := by
      have z : b * ((n / b) % b ^ k) ≤ b * (b ^ k - 1) := Int.mul_le_mul_of_nonneg_left (by omega) (by omega)
      rw [Int.mul_sub, Int.mul_one, Int.mul_comm b (b ^ k)] at z
      omega
    generalize hX : n % b + b * ((n / b) % b ^ k) = x at e lo hi ⊢
    rw [e, Int.add_mul_emod_self_left, Int.emod_eq_of_lt lo hi]
/-- the end of a turn's carries, told by the whole number -/
theorem turn_end {b s w c p way : Int} {S W C row : List Int} {d : Nat → Bool} {g : Bool} (hm : Mach b s w c) (hst : Stand b s w c S W C p) (hw : way = 1 ∨ way = -1) (Z : Cs b way w.toNat (wN W) (fN p S) d row []) (hg : g = true ↔ cin d w.toNat = 1) :
    row = wheelsOf b way p w S W ∧ g = decide (¬ InR (b ^ w.toNat) (whole b way p S W)) := by
  have b2 := hm.b0
  have hb : 0 < b := by omega
  have p0 := hst.p0
  have p1 := hst.p1
  have ls := hst.ls
  have lw := hst.lw
  obtain ⟨h1, h2, h3⟩ := Z.done (hst.wn b2 hw)
  have e1 : sumN b (wN W) w.toNat = val b W := by rw [← lw]; exact sum_wN b W
  have s0 := hm.s0
  have e2 : sumN b (fN p S) w.toNat = val b S * b ^ p.toNat := sum_fN (by omega)
  rw [e1, e2] at h2 h3
  refine ⟨?_, ?_⟩
  · have z := digs_of_val hb h1
    rw [Z.len, h2] at z
    exact z.symm
  · cases g with
    | true => exact (decide_eq_true (h3.mp (hg.mp rfl))).symm
    | false =>
      refine (decide_eq_false fun hn => ?_).symm
      have := hg.mpr (h3.mpr hn)
      cases this
theorem Stand.turned {b s w c p way tally : Int} {S W C : List Int} (hm : Mach b s w c) (T : Stand b s w c S W C p) : Stand b s w c S (wheelsOf b way p w S W) (countsOf b tally p c C) p := by
  have b2 := hm.b0
  exact ⟨T.ls, digs_len _ _ _, digs_len _ _ _, T.fs, digs_figs (by omega) _ _, digs_figs (by omega) _ _, T.p0, T.p1, T.p2⟩
theorem pow_small {b : Int} (h : 0 < b) (h2 : b ≤ 16) {k : Nat} (hk : k ≤ 15) : 0 < b ^ k ∧ b ^ k < 2 ^ 61 := by
  have h1 := pow_pos h k
  have h3 := pow_bits h h2 k
  have h4 : (2 : Nat) ^ (4 * k + 1) ≤ 2 ^ 61 := Nat.pow_le_pow_right (by decide) (by omega)
  exact ⟨h1, by omega⟩
def spPPower : Sp := spPower
def spCounted (K : PySem.W.Frag) : Sp := fun vs H Q _ => ∃ (m t : Addr) (b s w c p tally : Int) (S W C : List Int), vs = [.ref m, .ref t, .int tally] ∧ MachAt K H m b s w c ∧ Mach b s w c ∧ StAt K H t S W C p ∧ Stand b s w c S W C p ∧ -1 ≤ tally ∧ tally ≤ 1 ∧ NewT H Q (countsOf b tally p c C)
/-- a stand and whether the bell rang, new at z -/
def Told2 (K : PySem.W.Frag) (H : Hp) (z : Addr) (S W C : List Int) (p : Int) (g : Bool) : Prop := ∃ t, H z = some (.tup [.ref t, .bl g]) ∧ StAt K H t S W C p
def spTurned (K : PySem.W.Frag) : Sp := fun vs H Q _ => ∃ (m t : Addr) (b s w c p way tally : Int) (S W C : List Int), vs = [.ref m, .ref t, .int way, .int tally] ∧ MachAt K H m b s w c ∧ Mach b s w c ∧ StAt K H t S W C p ∧ Stand b s w c S W C p ∧ (way = 1 ∨ way = -1) ∧ -1 ≤ tally ∧ tally ≤ 1 ∧
  ∀ z H', Same H H' → Told2 K H' z S (wheelsOf b way p w S W) (countsOf b tally p c C) p (decide (¬ InR (b ^ w.toNat) (whole b way p S W))) → Q (.ref z) H'
def spDone2 (K : PySem.W.Frag) : Sp := fun vs H Q _ => ∃ (m t d : Addr) (b s w c p way tally : Int) (S W C : List Int), vs = [.ref m, .ref t, .ref d] ∧ SqT K H d [.str "turn", .int way, .int tally] ∧ MachAt K H m b s w c ∧ Mach b s w c ∧ StAt K H t S W C p ∧ Stand b s w c S W C p ∧ (way = 1 ∨ way = -1) ∧ -1 ≤ tally ∧ tally ≤ 1 ∧
  ∀ z H', Same H H' → Told2 K H' z S (wheelsOf b way p w S W) (countsOf b tally p c C) p (decide (¬ InR (b ^ w.toNat) (whole b way p S W))) → Q (.ref z) H'
def spDue2 (K : PySem.W.Frag) : Sp := fun vs H Q _ => ∃ (m t : Addr) (b s w c p way tally : Int) (S W C : List Int), vs = [.ref m, .ref t, .int way, .int tally] ∧ MachAt K H m b s w c ∧ Mach b s w c ∧ StAt K H t S W C p ∧ Stand b s w c S W C p ∧ (way = 1 ∨ way = -1) ∧ -1 ≤ tally ∧ tally ≤ 1 ∧
  ∀ z H', Same H H' → Told2 K H' z S (wheelsOf b way p w S W) (countsOf b tally p c C) p (decide (¬ InR (b ^ w.toNat) (whole b way p S W))) → Q (.ref z) H'
/-- a stand as data -/
def stD (S W C : List Int) (p : Int) : PyData := .tuple [.tuple (S.map .int), .int p, .tuple (W.map .int), .tuple (C.map .int)]
def toldD (S W C : List Int) (p : Int) (g : Bool) : PyData := .tuple [stD S W C p, .bool g]
theorem stD_lays (S W C : List Int) (p : Int) : lays (stD S W C p) 3 := lays.tup (.cons (lays.tup (laysAll.ints S)) (.cons ((lays.int p).mono (by decide)) (.cons (lays.tup (laysAll.ints W)) (.cons (lays.tup (laysAll.ints C)) .nil))))
theorem toldD_lays (S W C : List Int) (p : Int) (g : Bool) : lays (toldD S W C p g) 4 := lays.tup (.cons (stD_lays S W C p) (.cons ((lays.bool g).mono (by decide)) .nil))
theorem StAt.dp {K : PySem.W.Frag} {H : Hp} {t : Addr} {S W C : List Int} {p : Int} (h : StAt K H t S W C p) : Dp K H (.ref t) (stD S W C p) := by
  obtain ⟨a1, a2, a3, h0, h1, h2, h3⟩ := h
  exact .tup h0 (.cons (dp_ints h1) (.cons (.int p) (.cons (dp_ints h2) (.cons (dp_ints h3) .nil))))
theorem Told2.dp {K : PySem.W.Frag} {H : Hp} {z : Addr} {S W C : List Int} {p : Int} {g : Bool} (h : Told2 K H z S W C p g) : Dp K H (.ref z) (toldD S W C p g) := by
  obtain ⟨t, h0, h1⟩ := h
  exact .tup (SqT.of h0) (.cons h1.dp (.cons (.bl g) .nil))
theorem Told2.same {K : PySem.W.Frag} {H H' : Hp} {z : Addr} {S W C : List Int} {p : Int} {g : Bool} (h : Told2 K H z S W C p g) (e : Same H H') : Told2 K H' z S W C p g := by
  obtain ⟨t, h0, h1⟩ := h
  exact ⟨t, e _ _ h0, h1.tn e.tn⟩
theorem whole_back {b way p w : Int} {S W : List Int} (hb : 0 < b) (lw : W.length = w.toNat) (fw : Figs b W) :
    wheelsOf b (0 - way) p w S (wheelsOf b way p w S W) = W ∧ (InR (b ^ w.toNat) (whole b (0 - way) p S (wheelsOf b way p w S W)) ↔ InR (b ^ w.toNat) (whole b way p S W)) := by
  have hp := pow_pos hb w.toNat
  obtain ⟨v0, v1⟩ := val_bounds hb W fw
  rw [lw] at v1
  have e1 : val b (wheelsOf b way p w S W) = whole b way p S W % b ^ w.toNat := by
    unfold wheelsOf
    rw [val_digs hb, Int.emod_emod_of_dvd _ (Int.dvd_refl _)]
  have hd := Int.emod_add_mul_ediv (whole b way p S W) (b ^ w.toNat)
  have e2 : whole b (0 - way) p S (wheelsOf b way p w S W) = val b W - b ^ w.toNat * (whole b way p S W / b ^ w.toNat) := by
    have z : whole b (0 - way) p S (wheelsOf b way p w S W) = val b (wheelsOf b way p w S W) + (0 - way) * (val b S * b ^ p.toNat) := rfl
    have z2 : whole b way p S W = val b W + way * (val b S * b ^ p.toNat) := rfl
    rw [z, e1, Int.sub_mul, Int.zero_mul]
    omega
  refine ⟨?_, ?_⟩
  · show digs b (whole b (0 - way) p S (wheelsOf b way p w S W) % b ^ w.toNat) w.toNat = W
    rw [e2, Int.sub_mul_emod_self_left, Int.emod_eq_of_lt v0 v1, ← lw]
    exact digs_of_val hb fw
  · rw [e2]
    have h1 := Int.emod_nonneg (whole b way p S W) (show b ^ w.toNat ≠ 0 by omega)
    have h2 := Int.emod_lt_of_pos (whole b way p S W) hp
    generalize hx : whole b way p S W = x at hd h1 h2 ⊢
    generalize hy : b ^ w.toNat = y at hp v1 hd h1 h2 ⊢
    generalize hq : x / y = q at hd ⊢
    have hq0 : q = 0 ∨ y ≤ y * q ∨ y * q ≤ -y := by
      rcases Int.lt_trichotomy q 0 with h | h | h
      · right; right
        have := Int.mul_le_mul_of_nonneg_left (show q ≤ -1 by omega) (Int.le_of_lt hp)
        rw [Int.mul_neg, Int.mul_one] at this
        exact this
      · exact .inl h
      · right; left
        have := Int.mul_le_mul_of_nonneg_left (show 1 ≤ q by omega) (Int.le_of_lt hp)
        rw [Int.mul_one] at this
        exact this
    unfold InR
    rcases hq0 with h | h | h
    · subst h
      rw [Int.mul_zero] at hd ⊢
      omega
    · omega
    · omega
theorem counts_back {b tally p c : Int} {C : List Int} (hb : 0 < b) (lc : C.length = c.toNat) (fc : Figs b C) : countsOf b (0 - tally) p c (countsOf b tally p c C) = C := by
  have hp := pow_pos hb c.toNat
  obtain ⟨v0, v1⟩ := val_bounds hb C fc
  rw [lc] at v1
  have e1 : val b (countsOf b tally p c C) = (val b C + tally * b ^ p.toNat) % b ^ c.toNat := by
    unfold countsOf
    rw [val_digs hb, Int.emod_emod_of_dvd _ (Int.dvd_refl _)]
  show digs b ((val b (countsOf b tally p c C) + (0 - tally) * b ^ p.toNat) % b ^ c.toNat) c.toNat = C
  rw [e1, Int.emod_add_emod, Int.sub_mul, Int.zero_mul, show val b C + tally * b ^ p.toNat + (0 - tally * b ^ p.toNat) = val b C by omega, Int.emod_eq_of_lt v0 v1, ← lc]
  exact digs_of_val hb fc
end My
set_option Elab.async false
set_option linter.all false
set_option maxRecDepth 100000
set_option maxHeartbeats 8000000
/-! set(list of ints), its sorted list; list(reversed(range)) -/
namespace L2
open PySem PySem.Spec PyProof.Rows
/-- a set just made -/
def bareSet (w : World) : Obj := { cls := .type "set", dict := none, data := .set #[] 0 (.fresh 0 0 (!w.params.followText "set-order")) }
theorem set_of_list {P : Program} {w : World} {A : Around} {E : Value → Shared → Prop} {s : Shared} {q : Addr} {vs : Array Value} (ms : List Int) {Q : Value → Shared → Prop} (calm : A.handled = none) (hq : s.heap.IsList q vs) (nums : IntsAre vs.toList ms) (few : ms.length + 1 < scanBound)
    (fin : ∀ (g : Heap) (tk c : Nat), SetR w g s.heap.objs.size (fun j => decide (j ∈ ms)) c → c ≤ ms.length → (∀ b o, s.heap.get? b = some o → g.get? b = some o) → Q (.ref s.heap.objs.size) { s with heap := g, toks := tk }) :
    wpAny (model P w) A (call (.type "set") [.ref q]) Q E s := by
  have size : vs.size = ms.length := by have z := IntsAre.length nums; rw [Array.length_toList] at z; exact z
  obtain ⟨c0, tl0, mro0⟩ := F.called_set.mro
  have made0 := F.called_set.made
  have sub0 := F.called_set.sub
  refine wpAny_call (codeAny_of_tree ?_); show wpAny _ _ (callAny (.type "set") _) _ _ _
  refine wpAny_pure ⟨Code.quiet_builtin _ (by decide +kernel), codeAny_builtin F.entry_type_call ?_⟩; rw [Around.under_plain (weight_type_call_type "set" [.ref q] []) rfl]
  have t1 := F.called_set.notType
  have t2 := F.called_set.canCreate
  have t3 := F.typeCall_set_1 (.ref q)
  repeat (any_goals (first | assumption | wp_step))
  refine codeAny_mono (code_set_led1 (.ref q) (E := E) (Q₁ := fun ob s1 => ob = .ref s.heap.objs.size ∧ s1 = { s with heap := s.heap.push (bareSet w) }) ⟨rfl, rfl⟩) fun r s1 hr => ?_
  match r, hr with
  | .error e, hr => exact hr
  | .ok (.ret ob), hr =>
    obtain ⟨rfl, rfl⟩ := hr
    have there : (s.heap.push (bareSet w)).get? s.heap.objs.size = some (bareSet w) := Heap.get?_push_size _ rfl
    have isSet : Shared.TypeIs { s with heap := s.heap.push (bareSet w) } (.ref s.heap.objs.size) "set" := ⟨_, there, rfl⟩
    have t4 := F.called_set.init.lookup
    have t5 := F.called_set.init.bind (.ref s.heap.objs.size)
    repeat (any_goals (first | assumption | wp_step))
    refine codeAny_mono (codeAny_call_builtin (R := wants (fun r s2 => r = .none ∧ ∃ g tk c, s2 = { s with heap := g, toks := tk } ∧ SetR w g s.heap.objs.size (fun j => decide (j ∈ ms)) c ∧ c ≤ ms.length ∧ ∀ b o, s.heap.get? b = some o → g.get? b = some o) E)
      F.called_set.init.plain F.entry_set_init (check_set_init_1 isSet ?_)) fun r2 s2 hr2 => ?_
    · obtain ⟨⟨oc, od, odt, osl⟩, ho, hcl, n1, hdt⟩ := hq
      simp only at hcl hdt
      subst hcl; subst hdt
      have ho2 : (s.heap.push (bareSet w)).get? q = some { cls := .type "list", dict := od, data := .seq vs n1, slots := osl } := Heap.get?_push_of_some _ ho
      have u1 := F.sub_list_set
      have u2 := F.sub_list_frozenset
      have u3 : (Value.type "list" == Value.type "dict") = false := by decide
      have lst1 : (s.heap.push (bareSet w)).IsList q vs := ⟨_, ho2, rfl, n1, rfl⟩
      unfold Builtin.«set.__init__» noKeywords Builtin.Frozenset.updateFrom
      generalize ePI : pyIter = PI
      wp_walk
      subst ePI
      refine wpAny_pyIter_list lst1 (wpAny_bind (wpAny_runValue ?_))
      have qs : q < s.heap.objs.size := Heap.lt_size ho
      have calm3 : A.in1.in1.in1.handled = none := by simp [calm]
      have sz1 : (s.heap.push (bareSet w)).objs.size = s.heap.objs.size + 1 := Heap.size_push ..
      have qI : q ≠ (s.heap.push (bareSet w)).objs.size := by rw [sz1]; exact Nat.ne_of_lt (Nat.lt_succ_of_lt qs)
      have out : s.heap.objs.size ∉ [(s.heap.push (bareSet w)).objs.size, q] := by
        rw [sz1]
        intro z
        rcases List.mem_cons.mp z with z | z
        · exact Nat.ne_of_lt (Nat.lt_succ_self _) z
        · exact Nat.ne_of_gt qs (List.mem_singleton.mp z)
      have each : ∀ (i : Nat) (v : Value), vs[i]? = some v → ∃ k t, ms[i]? = some k ∧ v = .int k t := fun i v hv => by
        have li : i < ms.length := by rw [← size]; exact (Array.getElem?_eq_some_iff.mp hv).1
        obtain ⟨t, e⟩ := PyProof.Rows.IntsAre.int_at nums i v (by rw [Array.getElem?_toList]; exact hv)
        exact ⟨ms[i], t, List.getElem?_eq_getElem li, by rw [e, List.getD_eq_getElem?_getD, List.getElem?_eq_getElem li] <;> rfl⟩
      refine set_update_ints ((Walks.list calm3 _ q qI vs).toS) s.heap.objs.size out ms size few each (vs.size - 0) 0 _ (by omega) (Nat.zero_le _) ⟨⟨_, Heap.get?_push_size _ rfl, rfl, rfl⟩, (lst1.push _)⟩ ?start ?stop
      case start => exact ⟨0, Nat.le_refl 0, setR_new_at (Heap.get?_push_of_some _ there)⟩
      case stop =>
        intro s3 c3 mv lc set3
        obtain ⟨g3, ge3, dr3, tk3, os3⟩ := s3
        obtain rfl : ge3 = s.gens := mv.gens
        obtain rfl : dr3 = s.drawn := mv.drawn
        obtain rfl : os3 = s.os := mv.os
        show wpAny _ _ _ _ _ _
        refine wpAny_pure ?_
        show wpAny _ _ (ret Value.none) _ _ _
        rw [size] at lc
        refine wpAny_pure ⟨rfl, g3, tk3, c3, rfl, set3, lc, fun b o e => mv.heap b o (fun z => ?_) (Heap.get?_push_of_some _ (Heap.get?_push_of_some _ e))⟩
        have lb : b < s.heap.objs.size := Heap.lt_size e
        rcases List.mem_cons.mp z with z | z
        · exact Nat.ne_of_lt lb z
        · have z2 := List.mem_singleton.mp z
          rw [sz1] at z2
          exact Nat.ne_of_lt (Nat.lt_succ_of_lt lb) z2
    · match r2, hr2 with
      | .error e, hr2 => exact hr2
      | .ok (.ret r), hr2 =>
        obtain ⟨rfl, g3, tk3, c3, rfl, set3, lc, kp3⟩ := hr2
        repeat (any_goals (first | assumption | wp_step))
        exact fin _ _ _ set3 lc kp3
      | .ok .next, hr2 => exact hr2.elim
      | .ok .brk, hr2 => exact hr2.elim
      | .ok .cont, hr2 => exact hr2.elim
  | .ok .next, hr => exact hr.elim
  | .ok .brk, hr => exact hr.elim
  | .ok .cont, hr => exact hr.elim
def rSetL1 (K : PySem.W.Frag) (w : World) : List V → Hp → VK → Prop := fun xs H Q => ∃ (p : Addr) (ns : List Int), xs = [.ref p] ∧ SqL K H p (ns.map V.int) ∧ ns.length ≤ 1000 ∧ ∀ (a : Addr) (n : Nat), n ≤ ns.length → H a = none → Q (.ref a) (upd H a (SetO w a (fun j => decide (j ∈ ns)) n))
theorem call_setL {X : Cx} (K : PySem.W.Frag) (eK : X.K = K) (w : World) (ew : X.w = w) (hc : X.calm = true) : CallR X (.type "set") (rSetL1 K w) := by
  subst eK ew
  intro pins s σ H xs us Q I r h
  obtain ⟨p, ns, rfl, hl, hn, q⟩ := h
  obtain ⟨u, rfl, ru⟩ := vals1 r
  obtain rfl : u = .ref p := ru
  obtain ⟨its, rv, pl, hz⟩ := I.list hl
  refine set_of_list ns (I.ok.hd hc) pl.isList (by simpa using Vals.ints rv) (Nat.lt_of_le_of_lt (Nat.succ_le_succ hn) (by decide)) fun g tk c hS hcn kp => ?_
  have J : Inv X pins σ (upd H s.heap.objs.size (SetO X.w s.heap.objs.size (fun j => decide (j ∈ ns)) c)) { s with heap := g, toks := tk } :=
    I.laid kp (Nat.le_refl _) (setO_new hS)
  exact ⟨.ref _, _, J, rfl, q _ c hcn (I.hok.fresh (Nat.le_refl _))⟩
end L2
set_option Elab.async false
set_option linter.all false
set_option maxRecDepth 100000
set_option maxHeartbeats 8000000
/-! list(reversed(range(..))) -/
namespace PySem
open Sem (wp)
section
variable {prog : Program} {w : World} {A : Around} {E : Value → Shared → Prop} {s : Shared}
theorem ri_nolen : typeLookup (.type "range_iterator") "__len__" = pure none := by rw [typeLookup_type, builtinLookup_eq_fast]; kernel_rfl
theorem ri_hint_call {it : Addr} {x n c : Int} {Q : Value → Shared → Prop} (hit : IsRangeIter s.heap it x n c) (h : Q (.int n s.toks) { s with toks := s.toks + 1 }) : wpAny (model prog w) A (call (.builtin "range_iterator.__length_hint__") [.ref it]) Q E s := by
  have ty : s.TypeIs (.ref it) "range_iterator" := ⟨_, hit, rfl⟩
  refine wpAny_call_entry F.slot_range_iterator_length_hint ty F.entry_range_iterator_length_hint ?_ (F.args_range_iterator_length_hint_1 _)
  obtain ⟨hp, g, d, tk, os⟩ := s
  unfold Builtin.«range_iterator.__length_hint__»
  refine wpAny_bind (wpAny_of_eq (a := Value.ref it) (by first | rfl | kernel_rfl) ?_)
  refine wpAny_bind (wpAny_field hit rfl (x := rawInt n) rfl ?_)
  show wpAny _ _ (retInt n) _ _ _
  wp_walk
  exact ⟨_, rfl, h⟩
theorem ri_hint {it : Addr} {x c : Int} {n : Nat} {Q : Bool → Shared → Prop} (hit : IsRangeIter s.heap it x n c) (hn : n ≤ 2 ^ 24) (h : Q false { s with toks := s.toks + 1 }) : wpAny (model prog w) A (Builtin.List.listLengthHint (.ref it)) Q E s := by
  have ty : s.TypeIs (.ref it) "range_iterator" := ⟨_, hit, rfl⟩
  unfold Builtin.List.listLengthHint
  refine wpAny_bind (wpAny_specialOf ty ri_nolen ?_)
  show wpAny _ A (specialOf (Value.ref it) (Str.ofString "__length_hint__") >>= _) _ _ _
  refine wpAny_bind (wpAny_specialOf ty F.slot_range_iterator_length_hint.lookup ?_)
  generalize eid : ("range_iterator.__length_hint__" : String) = id0
  wp_delta
  rw [show splitId id0 = some ("range_iterator", "__length_hint__") from by subst eid; decide +kernel]
  subst eid
  refine wpAny_bind (wpAny_isInstance (b := true) ty (by rw [isSubtype_type]; kernel_rfl) ?_)
  refine wpAny_ite_split (fun z => absurd z (by decide)) (fun _ => ?_)
  refine wpAny_ite_split (fun _ => ?_) (fun z => absurd (show _ from by decide +kernel) z)
  refine wpAny_ite_split (fun _ => ?_) (fun z => absurd (show _ from by decide +kernel) z)
  refine wpAny_bind (ri_hint_call hit ?_)
  have small : Builtin.List.listTooLong ((n : Int).toNat) = false := by simp [Builtin.List.listTooLong, sizeLine]; omega
  refine wpAny_bind (m := asInt? _) (wpAny_pure ?_)
  exact wpAny_ite_split (fun z => absurd z (by rw [small]; decide)) (fun _ => wpAny_pure h)
theorem list_init_ri {R : Result → Shared → Prop} {it S : Addr} {x c : Int} {n : Nat} (calm : A.handled = none) (hit : IsRangeIter s.heap it x n c) (hn : n ≤ 2 ^ 24) (hS : s.heap.get? S = some { cls := .type "list", data := .seq #[] }) (hne : S ≠ it)
    (fin : ∀ g tk acc c1, (∀ b o, b ≠ S → b ≠ it → s.heap.get? b = some o → g.get? b = some o) → g.get? S = some { cls := .type "list", dict := none, data := .seq acc c1, slots := #[] } → ItemsOf (fun i v => ∃ t, v = .int (x + i * c) t) acc n → R (.ok (.ret .none)) { s with heap := g, toks := tk }) :
    wpAny (model prog w) A.in1 (Builtin.«list.__init__» ⟨[.ref S, .ref it], []⟩)
      (fun f s' => match f with | .done f => R (.ok f) s' | .again c' => c'.quiet = true ∧ codeAny (model prog w) A c' R s') (fun e s' => R (.error e) s') s := by
  show wpAny _ _ (do let old ← Builtin.List.listItems (.ref S); Builtin.List.listUpdate (.ref S) (fun _ => #[]); letGo old.toList.reverse; Builtin.List.listExtendWith (.ref S) (.ref it) .none) _ _ s
  refine wpAny_bind ?_
  unfold Builtin.List.listItems
  refine wpAny_bind (wpAny_seqItems hS rfl (wpAny_pure ?_)); show wpAny _ _ (updateSeq S (fun _ => #[]) >>= fun _ => letGo (#[] : Array Value).toList.reverse >>= fun _ => Builtin.List.listExtendWith (.ref S) (.ref it) .none) _ _ s
  refine wpAny_bind (wpAny_updateSeq hS rfl ?_)
  have S2 := Heap.get?_update_self (Obj.mapSeq (fun _ => (#[] : Array Value))) hS rfl
  have oth : ∀ b o, b ≠ S → s.heap.get? b = some o → (s.heap.update S (Obj.mapSeq (fun _ => (#[] : Array Value)))).get? b = some o := fun b o hb e => (Heap.get?_update_other _ _ (Ne.symm hb)).trans e
  have it2 : IsRangeIter (s.heap.update S (Obj.mapSeq (fun _ => (#[] : Array Value)))) it x n c := oth it _ (Ne.symm hne) hit
  refine wpAny_bind (wpAny_letGo ?_)
  generalize s.heap.update S (Obj.mapSeq (fun _ => (#[] : Array Value))) = h2 at S2 oth it2 ⊢
  unfold Builtin.List.listExtendWith
  have ty : ({ s with heap := h2 } : Shared).TypeIs (.ref it) "range_iterator" := ⟨_, it2, rfl⟩
  refine wpAny_bind (wpAny_typeOf ty ?_)
  have e1 : Builtin.List.listSameRef (.ref S) (.ref it) = false := by simp [Builtin.List.listSameRef, hne]
  rw [if_neg (by rw [e1]; decide)]
  refine wpAny_bind (wpAny_pyIter_rangeiter (s := { s with heap := h2 }) it2 ?_)
  refine wpAny_bind (wpAny_holding (ri_hint (s := { s with heap := h2 }) it2 hn ?_))
  rw [if_neg (by decide)]
  have out : S ∉ [it] := fun z => hne (List.mem_singleton.mp z)
  have W := (Walks.range (prog := prog) (w := w) (A := A.in1) calm it x c n).toS
  refine wpAny_pure ⟨plainId_quiet F.plain_extend_loop _, codeAny_extend_loopS W (by rw [sizeLine_eq]; omega) S out .none n 0 _ #[] _ rfl (Nat.zero_le _) ?_ S2 (ItemsOf.nil _) fun s3 acc c3 mv S3 its => ?_⟩
  · show IsRangeIter h2 it (x + ((0 : Nat) : Int) * c) ((n : Int) - ((0 : Nat) : Int)) c
    have z1 : x + ((0 : Nat) : Int) * c = x := by rw [show ((0 : Nat) : Int) = 0 from rfl, Int.zero_mul, Int.add_zero]
    have z2 : (n : Int) - ((0 : Nat) : Int) = n := by omega
    rw [z1, z2]
    exact it2
  · rw [Moved.eq_with mv]
    refine fin s3.heap s3.toks acc c3 (fun b o h1 h2 e => mv.heap b o (fun z => ?_) (oth b o h1 e)) S3 its
    rcases List.mem_cons.mp z with z | z
    · exact h1 z
    · exact h2 (List.mem_singleton.mp z)
theorem list_of_ri {Q : Value → Shared → Prop} {it : Addr} {x c : Int} {n : Nat} (calm : A.handled = none) (hit : IsRangeIter s.heap it x n c) (hn : n ≤ 2 ^ 24)
    (fin : ∀ g tk acc c1, (∀ b o, b ≠ it → s.heap.get? b = some o → g.get? b = some o) → g.get? s.heap.objs.size = some { cls := .type "list", dict := none, data := .seq acc c1, slots := #[] } → ItemsOf (fun i v => ∃ t, v = .int (x + i * c) t) acc n → Q (.ref s.heap.objs.size) { s with heap := g, toks := tk }) :
    wpAny (model prog w) A (call (.type "list") [.ref it]) Q E s := by
  refine callType_codes (Q₁ := fun ob s1 => ob = .ref s.heap.objs.size ∧ s1 = { s with heap := s.heap.push { cls := .type "list", data := .seq #[] } }) F.called_list (F.typeCall_list_1 _) F.entry_list_init (code_list_new _ ⟨rfl, rfl⟩) fun ob s1 h1 => ?_
  obtain ⟨rfl, rfl⟩ := h1
  have S1 : (s.heap.push { cls := .type "list", data := .seq #[] }).get? s.heap.objs.size = some { cls := .type "list", data := .seq #[] } := Heap.get?_push_size _ rfl
  have lt : it < s.heap.objs.size := Heap.lt_size hit
  refine ⟨⟨_, S1, rfl⟩, F.args_list_init_2 _ _, list_init_ri (A := A.in1) (x := x) (c := c) (n := n) calm (Heap.get?_push_of_some _ hit) hn S1 (Nat.ne_of_gt lt) fun g tk acc c1 kp S2 its => ?_⟩
  exact ⟨rfl, fin g tk acc c1 (fun b o h1 e => kp b o (Nat.ne_of_lt (Heap.lt_size e)) h1 (Heap.get?_push_of_some _ e)) S2 its⟩
end
end PySem

namespace L2
open PySem PySem.Spec PyProof.Rows
/-- the numbers of a range from its end -/
def rgDown (n : Nat) : List Int := (List.range n).map fun i => ((n : Int) - 1 + (i : Nat) * (-1))
def tLstRev (tr : St → Hp → (Int → Int → Hp → Prop) → Prop) : TE := fun σ H Q => tr σ H fun a b H1 => a = 0 ∧ 0 ≤ b ∧ b ≤ 1000 ∧ ∀ q, H1 q = none → Q (.ref q) (upd H1 q (.lst ((rgDown b.toNat).map V.int)))
theorem pe_lstRev {X : Cx} {e : Expr} {tr : St → Hp → (Int → Int → Hp → Prop) → Prop} {p p2 pos pos2 : Pos} (hc : X.calm = true) (hg : Gl X "list") (hm : X.mg "list" = none) (hg2 : Gl X "reversed") (hm2 : X.mg "reversed" = none) (he : PRg X e tr)
    (na : starEach [e] X.env = (false, eval e X.env) :: starEach [] X.env := by rfl) (na2 : starEach [Expr.Call (.Name "reversed" p2) [e] [] pos2] X.env = (false, eval (.Call (.Name "reversed" p2) [e] [] pos2) X.env) :: starEach [] X.env := by rfl) :
    PE X (.Call (.Name "list" p) [.Call (.Name "reversed" p2) [e] [] pos2] [] pos) (tLstRev tr) := by
  refine ⟨fun pins s σ H Q I h => ?_⟩
  have b1 : bootBuiltins ("list" : Str) = some (.type "list") := by decide +kernel
  have b2 : bootBuiltins ("reversed" : Str) = some (.type "reversed") := by decide +kernel
  refine Call_ (ld_blt I hg hm b1 (PyProof.Rows.callWith_type1 (args_cons (Call_ (ld_blt I hg2 hm2 b2 (PyProof.Rows.callWith_type1 (args_cons (thn (he pins s σ H _ I h) fun u s1 hx => args_nil ?_) na) na rfl))) na2) na2 rfl))
  obtain ⟨r, a, b, t, w1, v, H1, eu, hr, I1, ea, h0, h1, q⟩ := hx
  subst eu ea
  have hn : Builtin.Range.rangeSize 0 b 1 = ((b.toNat : Nat) : Int) := by rw [rangeSize_nat 0 b, Int.sub_zero]
  refine call_reversed_range hr (smallRev_one (by decide) (by decide) (by omega) (by omega)) ?_
  refine args_nil ?_
  have hit : IsRangeIter (s1.heap.push (rngRevObj 0 b 1)) s1.heap.objs.size ((b.toNat : Int) - 1) (b.toNat : Nat) (-1) := by
    have e1 : ((b.toNat : Nat) : Int) - 1 = 0 + (Builtin.Range.rangeSize 0 b 1 - 1) * 1 := by rw [hn]; omega
    show IsRangeIter _ _ (((b.toNat : Nat) : Int) - 1) ((b.toNat : Nat) : Int) (-1)
    rw [e1, ← hn]
    exact Heap.get?_push_size _ rfl
  refine list_of_ri (s := { s1 with heap := s1.heap.push (rngRevObj 0 b 1) }) (I1.ok.hd hc) hit (by omega) fun g tk acc c1 kp hS its => ?_
  have kp2 : ∀ b' o, s1.heap.get? b' = some o → g.get? b' = some o := fun b' o e => kp b' o (Nat.ne_of_lt (Heap.lt_size e)) (Heap.get?_push_of_some _ e)
  have lenA : acc.toList.length = b.toNat := by rw [Array.length_toList]; exact its.1
  have eqV : (rgDown b.toNat).map V.int = (List.range acc.toList.length).map fun i => V.int ((b.toNat : Int) - 1 + (i : Nat) * (-1)) := by
    unfold rgDown
    rw [lenA, List.map_map]
    rfl
  have rv : Vals ((rgDown b.toNat).map V.int) acc.toList := by
    rw [eqV]
    refine vals_of_get _ _ fun j u hu => ?_
    rw [Array.getElem?_toList] at hu
    exact its.2 j u hu
  have hlen : ((rgDown b.toNat).map V.int).length ≤ sizeLine := by rw [eqV, List.length_map, List.length_range, lenA, sizeLine_eq]; omega
  refine ⟨.ref _, upd H1 _ (.lst ((rgDown b.toNat).map V.int)), I1.laid kp2 (Nat.le_of_lt (by rw [Heap.size_push]; exact Nat.lt_succ_self _)) (show ObjOk X.prog X.w _ _ _ (.lst _) from ⟨hlen, acc.toList, c1, rv, ?_⟩), rfl, q _ (I1.hok.fresh (Nat.le_of_lt (by rw [Heap.size_push]; exact Nat.lt_succ_self _)))⟩
  rw [Array.toArray_toList]
  exact hS
end L2
set_option Elab.async false
set_option linter.all false
set_option maxRecDepth 100000
set_option maxHeartbeats 4000000
/-! k01: carries in any order -/
namespace Rn
open PySem PySem.Spec L2
section
variable {K : PySem.W.Frag} {H : Hp} {Q : VK} {w : World}
theorem w_neB {a b : Bool} (h : Q (.bl (a != b)) H) : uNe K (.bl a) (.bl b) H Q := .inl ⟨rfl, by
  have e : (!decide (V.bl a = V.bl b)) = (a != b) := by cases a <;> cases b <;> rfl
  rw [e]
  exact h⟩
theorem w_eqLI {a b : Addr} {xs ys : List Int} (ha : SqL K H a (xs.map V.int)) (hb : SqL K H b (ys.map V.int)) (h : Q (.bl (decide (xs = ys))) H) : uEq K (.ref a) (.ref b) H Q :=
  w_eqD (.lst ha (DpAll.ints xs)) (.lst hb (DpAll.ints ys)) shaped_list shaped_list (by rw [eqv_listI]; exact h)
theorem w_setOf {p : Addr} {ns : List Int} (hl : SqL K H p (ns.map V.int)) (hn : ns.length ≤ 63) (h : ∀ a n H', n ≤ ns.length → Same H H' → H' a = some (SetO w a (fun j => decide (j ∈ ns)) n) → Q (.ref a) H') : rSetL1 K w [.ref p] H Q :=
  ⟨p, ns, rfl, hl, by omega, fun a n hn' e => h a n _ hn' (Same.new e) upd_same⟩
theorem w_srtS {a : Addr} {ns : List Int} {n : Nat} (ha : H a = some (SetO w a (fun j => decide (j ∈ ns)) n)) (hn : n < 64) (h : ∀ (ms : List Int) p H', ms.Pairwise (· < ·) → (∀ k : Int, k ∈ ms ↔ k ∈ ns) → Same H H' → H' p = some (.lst (ms.map V.int)) → Q (.ref p) H') : rSortedSet w [.ref a] H Q :=
  ⟨a, _, n, rfl, ha, hn, fun ms p e1 e2 _ e3 => h ms p _ e1 (fun k => by rw [e2 k, decide_eq_true_eq]) (Same.new e3) upd_same⟩
theorem w_notIn {σ : St} {i j : Nat} {x y : Int} (hi : σ[i]? = some (some (.int x))) (hj : σ[j]? = some (some (.int y))) (h : Q (.bl (decide (¬ (0 ≤ x ∧ x < y)))) H) :
    tNotV (tChain (rI0 fun i j => V.bl (decide (i ≤ j))) (rI0 fun i j => V.bl (decide (i < j))) (tC (V.int 0)) (tVar i) (tVar j)) σ H Q := by
  refine w_notV (w_chain (w_c (w_var hi (w_I0 (w_bl ?_)))))
  by_cases h1 : 0 ≤ x
  · refine w_iteD h1 (w_var hj (w_I0 (w_bl ?_)))
    have e : (!decide (x < y)) = decide (¬ (0 ≤ x ∧ x < y)) := by
      by_cases h2 : x < y
      · simp [h1, h2]
      · simp [h1, h2]
    rw [e]
    exact h
  · refine w_iteE h1 (w_bl ?_)
    have e : (!false) = decide (¬ (0 ≤ x ∧ x < y)) := by simp [h1]
    rw [e]
    exact h
def LRevQ (Q : VK) : VK := fun x H1 => ∃ n, x = .int n ∧ (0 : Int) = 0 ∧ 0 ≤ n ∧ n ≤ 1000 ∧ ∀ q, H1 q = none → Q (.ref q) (upd H1 q (.lst ((rgDown n.toNat).map V.int)))
theorem w_lrev {ta : TE} {σ : St} (h : ta σ H (LRevQ Q)) : tLstRev (tRg1 ta) σ H Q := h
theorem w_lrevI {n : Int} (h0 : 0 ≤ n ∧ n ≤ 1000) (h : ∀ p H', H p = none → Same H H' → H' p = some (.lst ((rgDown n.toNat).map V.int)) → Q (.ref p) H') : LRevQ Q (.int n) H := ⟨n, rfl, rfl, h0.1, h0.2, fun q hq => h q _ hq (Same.new hq) upd_same⟩
end
end Rn
namespace My
open PySem PySem.Spec L2 RT Rn
theorem Drew.free {a c q : Addr} {A B : Hp} (D : Drew a c A B) (h : B q = none) : A q = none := by
  cases e : A q with
  | none => rfl
  | some o =>
    obtain ⟨s', i', cells', ha', hc', _⟩ := D.dr
    by_cases e1 : q = a
    · rw [e1, ha'] at h; cases h
    by_cases e2 : q = c
    · rw [e2, hc'] at h; cases h
    rw [D.kp q o e e1 e2] at h
    cases h
theorem rising_ext : ∀ {xs ys : List Int}, xs.Pairwise (· < ·) → ys.Pairwise (· < ·) → (∀ k, k ∈ xs ↔ k ∈ ys) → xs = ys
  | [], [], _, _, _ => rfl
  | [], y :: ys, _, _, h => by have := (h y).mpr List.mem_cons_self; simp at this
  | x :: xs, [], _, _, h => by have := (h x).mp List.mem_cons_self; simp at this
  | x :: xs, y :: ys, hx, hy, h => by
    obtain ⟨x1, x2⟩ := List.pairwise_cons.mp hx
    obtain ⟨y1, y2⟩ := List.pairwise_cons.mp hy
    have e : x = y := by
      have a := (h x).mp List.mem_cons_self
      have c := (h y).mpr List.mem_cons_self
      rcases List.mem_cons.mp a with a | a
      · exact a
      · rcases List.mem_cons.mp c with c | c
        · exact c.symm
        · have := y1 x a
          have := x1 y c
          omega
    subst e
    have r := rising_ext x2 y2 fun k => ⟨fun hk => by
      rcases List.mem_cons.mp ((h k).mp (List.mem_cons_of_mem _ hk)) with e | h2
      · have := x1 k hk; omega
      · exact h2, fun hk => by
      rcases List.mem_cons.mp ((h k).mpr (List.mem_cons_of_mem _ hk)) with e | h2
      · have := y1 k hk; omega
      · exact h2⟩
    rw [r]
theorem Ps.same {b way : Int} {P : Nat} {w F : Nat → Int} {n i : Nat} {row L row' L' : List Int} (C : Ps b way P w F n i row L) (D : Ps b way P w F n i row' L') : row = row' ∧ L = L' := by
  refine ⟨List.ext_getElem? fun k => ?_, rising_ext C.up D.up fun k => by rw [C.lev, D.lev]⟩
  by_cases h : k < n
  · rw [C.eq k h, D.eq k h]
  · rw [List.getElem?_eq_none (by rw [C.len]; omega), List.getElem?_eq_none (by rw [D.len]; omega)]
theorem sub_len : ∀ {xs ys : List Int}, xs.Nodup → (∀ x ∈ xs, x ∈ ys) → xs.length ≤ ys.length
  | [], _, _, _ => Nat.zero_le _
  | x :: xs, ys, hn, h => by
    obtain ⟨n1, n2⟩ := List.nodup_cons.mp hn
    have hx := h x List.mem_cons_self
    have r := sub_len (xs := xs) (ys := ys.erase x) n2 fun z hz => (List.mem_erase_of_ne (fun e => n1 (by rw [← e]; exact hz))).mpr (h z (List.mem_cons_of_mem _ hz))
    rw [List.length_erase_of_mem hx] at r
    have := List.length_pos_of_mem hx
    rw [List.length_cons]
    omega
/-- one carry leaves no more levers -/
theorem Cs.fewer {b way : Int} {n : Nat} {w F : Nat → Int} {d : Nat → Bool} {row L row' L' : List Int} {k : Nat} (C : Cs b way n w F d row L) (D : Cs b way n w F (setD d k) row' L') (hk : (k : Int) ∈ L) : (k : Int) ∉ L' ∧ L'.length ≤ L.length := by
  have ndL : L.Nodup := C.up.imp fun h => by omega
  have ndL' : L'.Nodup := D.up.imp fun h => by omega
  have out : (k : Int) ∉ L' := fun z => by
    obtain ⟨j, _, e, _, hd⟩ := (D.lev _).mp z
    have : j = k := by omega
    subst this
    rw [setD_same] at hd
    cases hd
  refine ⟨out, ?_⟩
  have h := sub_len (xs := L') (ys := ((k : Int) + 1) :: L.erase (k : Int)) ndL' fun y hy => by
    obtain ⟨j, j1, e, j2, j3⟩ := (D.lev y).mp hy
    by_cases e1 : j = k + 1
    · subst e1
      rw [e]
      exact List.mem_cons.mpr (.inl (by omega))
    · refine List.mem_cons_of_mem _ ?_
      have ne : j ≠ k := fun e2 => by rw [e2, setD_same] at j3; cases j3
      refine (List.mem_erase_of_ne (by omega)).mpr ((C.lev y).mpr ⟨j, j1, e, ?_, ?_⟩)
      · rw [vk_ne e1] at j2
        exact j2
      · rw [setD_ne d ne] at j3
        exact j3
  rw [List.length_cons, List.length_erase_of_mem hk] at h
  have := List.length_pos_of_mem hk
  omega
theorem undone_le (d : Nat → Bool) : ∀ n : Nat, undone d n ≤ n
  | 0 => Nat.le_refl _
  | n + 1 => by
    have := undone_le d n
    show undone d n + (if d n = true then 0 else 1) ≤ n + 1
    split <;> omega
theorem mod_ne {b v : Int} (hb : 0 < b) : v ≠ v % b ↔ ¬ InR b v := by
  constructor
  · intro h z
    exact h (mod_in z).symm
  · intro h e
    exact h ⟨by rw [e]; exact Int.emod_nonneg _ (by omega), by rw [e]; exact Int.emod_lt_of_pos _ hb⟩
/-- the carries one by one, each lever drawn -/
def spOne (K : PySem.W.Frag) : Sp := fun vs H Q _ => ∃ (a cl m t l : Addr) (b s w c way : Int) (fw fF : Nat → Int) (row L : List Int), vs = [.ref a, .ref m, .ref t, .ref l, .int way] ∧ DrawAt H a cl ∧ l ≠ cl ∧ MachAt K H m b s w c ∧ Mach b s w c ∧
  SqT K H t (row.map V.int) ∧ H l = some (.lst (L.map V.int)) ∧ Wn b way w.toNat fw fF ∧ Cs b way w.toNat fw fF (fun _ => false) row L ∧
  ∀ (z r' : Addr) (row' : List Int) (d : Nat → Bool) (g : Bool) (H' : Hp), Drew a cl H H' → H' z = some (.tup [.ref r', .bl g]) → SqT K H' r' (row'.map V.int) → Cs b way w.toNat fw fF d row' [] → (g = true ↔ cin d w.toNat = 1) → Q (.ref z) H'
end My
set_option Elab.async false
set_option linter.all false
set_option maxRecDepth 100000
set_option maxHeartbeats 4000000
/-! exceptions that are asked by isinstance: a class or a tuple of classes -/
namespace L2
open PySem PySem.Spec PyProof.Rows
/-- isinstance(e, c) or isinstance(e, (c1, c2, ..)), e the exception that the suite holds -/
def rIsX (K : PySem.W.Frag) (a : Addr) (cls : Value) (d : Option Addr) : List V → Hp → VK → Prop := fun xs H Q => ∃ (D : Addr) (c : V) (b : Bool), cls = .ref D ∧ d = none ∧ ExcC K D ∧ xs = [.ref a, c] ∧
  ((∃ u, ClsV c u ∧ PySem.W.kitOne K (.ref D) u = some b) ∨ ∃ (tp : Addr) (cs : List V) (us : List Value), c = .ref tp ∧ H tp = some (.tup cs) ∧ Paired ClsV cs us ∧ PySem.W.kitAny K (.ref D) us = some b) ∧ Q (.bl b) H
theorem call_isX {X : Cx} {a : Addr} {oe : Obj} {cls : Value} {d : Option Addr} {pn : List (Addr × Obj)} (K : PySem.W.Frag) (eK : X.K = K) (hz : Zc cls d oe) (hf : ∃ vs, oe.data = .fields vs) : CallR (X.suite a ((a, oe) :: pn)) (.builtin "isinstance") (rIsX K a cls d) := by
  subst eK
  intro pins s σ H xs us Q I r h
  obtain ⟨D, c, b, rfl, rfl, C, rfl, hc, q⟩ := h
  obtain ⟨u1, u2, rfl, r1, r2⟩ := vals2 r
  cases (show u1 = Value.ref a from r1)
  obtain ⟨hget, _⟩ := I.pin (a, oe) (List.mem_append.mpr (.inl List.mem_cons_self))
  obtain ⟨vs, hv⟩ := hf
  have J : PySem.W.InstAt s.heap a oe D none := by
    obtain ⟨oc, od, oda, osl⟩ := oe
    obtain ⟨h1, h2⟩ := hz
    dsimp only at h1 h2 hv
    subst h1 h2 hv
    exact ⟨hget, rfl, rfl, trivial⟩
  rcases hc with ⟨u, k, e⟩ | ⟨tp, cs, ws, rfl, hT, k, e⟩
  · have ec := k.eq r2
    subst ec
    exact PySem.W.kia_one (PySem.W.handS_kitx_exc C.hg C.hk C.hs C.hd C.ha C.hn C.ht C.hm) I.kIn J e (fun z => nomatch z) fun tk => ⟨.bl b, H, I.kept (t' := tk) fun _ _ z => z, rfl, q⟩
  · cases (show u2 = Value.ref tp from r2)
    obtain ⟨_, its, rv, o, h1, h2, n, h3⟩ := (show ObjOk X.prog X.w H s.heap tp (.tup cs) from I.hok tp _ hT)
    have e3 := ClsV.all k rv
    subst e3
    obtain ⟨oc, od, dt, sl⟩ := o
    simp only at h2 h3
    subst h2 h3
    exact PySem.W.kia_tup (PySem.W.handS_kitx_exc C.hg C.hk C.hs C.hd C.ha C.hn C.ht C.hm) I.kIn J h1 e (fun z => nomatch z) fun tk => ⟨.bl b, H, I.tok tk, rfl, q⟩
end L2
namespace Rn
open PySem PySem.Spec L2 RT
section
variable {K : PySem.W.Frag} {σ : St} {H : Hp} {te : TE} {tr : TA} {Q : VK} {ts : List TE} {acc : Str} {QS : Str → Hp → Prop}
theorem w_callS {sp : Sp} {E : St → XK} (h : tr σ H fun vs H1 => sp vs H1 Q (E σ)) : tCallS sp E tr σ H Q := h
/-- a text of parts, not long -/
def JsQ (ts : List TE) (acc : Str) (σ : St) (QS : Str → Hp → Prop) : VK := fun x H1 => ∃ y : Str, x = .str y ∧ (acc ++ y).length ≤ sizeLine ∧ tJs ts (acc ++ y) σ H1 QS
def JfQ (ts : List TE) (acc : Str) (σ : St) (QS : Str → Hp → Prop) : VK := fun x H1 => (∃ y : Str, x = .str y ∧ y.length ≤ sizeLine ∧ JsQ ts acc σ QS (.str y) H1) ∨ ∃ i : Int, x = .int i ∧ i.natAbs.log2 < 1920 ∧ JsQ ts acc σ QS (.str (toString i)) H1
theorem w_js0 (h : QS acc H) : tJs [] acc σ H QS := h
theorem w_js1 {t : TE} (h : t σ H (JsQ ts acc σ QS)) : tJs (t :: ts) acc σ H QS := h
theorem w_fmt (h : te σ H (JfQ ts acc σ QS)) : tFmt te σ H (JsQ ts acc σ QS) := h
theorem len_app (a b : Str) : (a ++ b).length = a.length + b.length := by
  exact Str.length_append a b
/-- of no more than k parts -/
def Sh (acc : Str) (k : Nat) : Prop := acc.length ≤ k * 2000
theorem Sh.nil : Sh Str.empty 0 := Nat.zero_le _
theorem w_jsC {y : Str} {n : Nat} (ha : Sh acc n) (hn : n ≤ 40) (hy : y.length ≤ 2000) (h : ∀ acc' : Str, Sh acc' (n + 1) → tJs ts acc' σ H QS) : JsQ ts acc σ QS (.str y) H :=
  ⟨y, rfl, by unfold Sh at ha; rw [len_app, sizeLine_eq]; omega, h _ (by unfold Sh at ha ⊢; rw [len_app]; omega)⟩
theorem log_small {i : Int} (h1 : -(2 ^ 64) < i ∧ i < 2 ^ 64) : i.natAbs.log2 < 1920 := by
  by_cases h : i.natAbs = 0
  · rw [h]; decide
  · exact Nat.lt_of_lt_of_le ((Nat.log2_lt h).mpr (show i.natAbs < 2 ^ 65 by omega)) (by decide)
theorem w_jfI {i : Int} {n : Nat} (h1 : -(2 ^ 64) < i ∧ i < 2 ^ 64) (ha : Sh acc n) (hn : n ≤ 40) (h : ∀ acc' : Str, Sh acc' (n + 1) → tJs ts acc' σ H QS) : JfQ ts acc σ QS (.int i) H :=
  .inr ⟨i, rfl, log_small h1, w_jsC ha hn (Nat.le_trans (PyProof.Rows.int_text_len_1921 (log_small h1)) (by decide)) h⟩
theorem w_jfS {y : Str} {n : Nat} (hy : y.length ≤ 2000) (ha : Sh acc n) (hn : n ≤ 40) (h : ∀ acc' : Str, Sh acc' (n + 1) → tJs ts acc' σ H QS) : JfQ ts acc σ QS (.str y) H :=
  .inl ⟨y, rfl, by rw [sizeLine_eq]; omega, w_jsC ha hn hy h⟩
end
end Rn
namespace L2
open PySem PySem.Spec PyProof.Rows PySem.W
theorem kit_self {K : Frag} {x : Addr} : kitOne K (.ref x) (.ref x) = some true := by
  unfold kitOne
  rw [if_pos (beq_self_eq_true _)]
theorem kit_own {K : Frag} {x c : Addr} {b : Bool} (hdct : hasDictIn K c = true) (ht : typeIn K (.ref c) = some (.type "type")) (ne : ((Value.ref x) == (Value.ref c)) = false) (h : subIn K (.ref x) (.ref c) = some b) : kitOne K (.ref x) (.ref c) = some b := by
  obtain ⟨cd, hc, _⟩ := any_some hdct
  have e2 : ((clsIn K c).isSome && typeIn K (.ref c) == some (.type "type")) = true := by rw [hc, ht] <;> rfl
  unfold kitOne
  rw [if_neg (by rw [ne]; exact Bool.false_ne_true)]
  show (if ((clsIn K c).isSome && typeIn K (.ref c) == some (.type "type")) = true then subIn K (.ref x) (.ref c) else none) = some b
  rw [if_pos e2]
  exact h
theorem kit_blt {K : Frag} {x : Addr} {T : String} {b : Bool} (hm : kitMeta T = true) (h : subIn K (.ref x) (.type T) = some b) : kitOne K (.ref x) (.type T) = some b := by
  unfold kitOne
  rw [if_neg (show ¬ ((Value.ref x == Value.type T) = true) from Bool.false_ne_true)]
  show (if kitMeta T = true then subIn K (.ref x) (.type T) else none) = some b
  rw [if_pos hm]
  exact h
end L2
set_option Elab.async false
set_option linter.all false
set_option maxRecDepth 100000
set_option maxHeartbeats 4000000
/-! a tuple, once: t * 1 -/
namespace L2
open PySem PySem.Spec PyProof.Rows
open Sem (wp)
theorem tuple_mul1 (l : Addr) (items : Array Value) (n : Nat) (dd : Option Addr) (sl : Array (Option Value)) (u : Tok) :
    Meets (Builtin.«tuple.__mul__» ⟨[.ref l, .int 1 u], []⟩) (fun _ R s => s.heap.get? l = some { cls := .type "tuple", dict := dd, data := .seq items n, slots := sl } ∧
      R (.ok (.ret (Value.ref l))) s) :=
  .of_wp fun prog w A R s h => by
    obtain ⟨hp, g, d, tk, os⟩ := s
    obtain ⟨hl, h⟩ := h
    have f1 := AutoSeq1.idx_int
    have c1 : (items.isEmpty || (1 : Int) == 1) = true := by simp
    wp_walk using wpAny_loadPart' hl
    repeat (first
      | (refine wpAny_ite_true (decide_eq_true c1) ?_; wp_walk using wpAny_loadPart' hl)
      | (refine wpAny_ite_false (decide_eq_false (by decide)) ?_; wp_walk using wpAny_loadPart' hl))
    exact ⟨_, rfl, h⟩
theorem tuple_mul0 (l : Addr) (items : Array Value) (n : Nat) (dd : Option Addr) (sl : Array (Option Value)) (u : Tok) (hi : items.isEmpty = false) :
    Meets (Builtin.«tuple.__mul__» ⟨[.ref l, .int 0 u], []⟩) (fun _ R s => s.heap.get? l = some { cls := .type "tuple", dict := dd, data := .seq items n, slots := sl } ∧
      R (.ok (.ret (Value.ref s.heap.objs.size))) { s with heap := s.heap.push { cls := Value.type "tuple", data := Data.seq #[] }, toks := s.toks }) :=
  .of_wp fun prog w A R s h => by
    obtain ⟨hp, g, d, tk, os⟩ := s
    obtain ⟨hl, h⟩ := h
    have f1 := AutoSeq1.idx_int
    have c1 : (items.isEmpty || (0 : Int) == 1) = false := by rw [hi]; rfl
    have c2 : (decide ((0 : Int) ≤ 0) || items.isEmpty) = true := by simp
    wp_walk using wpAny_loadPart' hl
    repeat (first
      | (refine wpAny_ite_false (decide_eq_false (by rw [c1]; exact Bool.false_ne_true)) ?_; wp_walk using wpAny_loadPart' hl)
      | (refine wpAny_ite_true (decide_eq_true c2) ?_; wp_walk using wpAny_loadPart' hl)
      | (refine wpAny_ite_false (decide_eq_false (by decide)) ?_; wp_walk using wpAny_loadPart' hl))
    exact ⟨_, rfl, h⟩
def rRepT0 (K : PySem.W.Frag) : R2 := fun x y H Q => ∃ l xs, x = .ref l ∧ y = .int 0 ∧ SqT K H l xs ∧ xs ≠ [] ∧ ∀ p, H p = none → Q (.ref p) (upd H p (.tup []))
def rRepT1 (K : PySem.W.Frag) : R2 := fun x y H Q => ∃ l xs, x = .ref l ∧ y = .int 1 ∧ SqT K H l xs ∧ Q (.ref l) H
section
variable {X : Cx}
theorem op_repT1 : OpR X (binaryOp .Mult) (rRepT1 X.K) := by
  intro pins s σ H x y v u Q I rx ry h
  obtain ⟨l, xs, rfl, rfl, hT, q⟩ := h
  cases rx
  obtain ⟨t, rfl⟩ := ry
  obtain ⟨its, r, ⟨⟨cls, dd, data, sl⟩, ho, hc, n, hd⟩, hs⟩ := I.tuple hT
  simp only at hc hd
  subst hc hd
  refine wpAny_binaryOp_repeat_ref (T := "tuple") (U := "int") (by decide) ⟨_, ho, rfl⟩ (fun s' => typeIs_int s' 1 t) noFill_tuple_mul F.fills_int_mul F.slot_int_rmul repeat_tuple F.slot_int_index.lookup
    (call_meets F.slot_int_rmul (typeIs_int s 1 t) F.entry_int_rmul (F.args_int_rmul_2 _ _) (int_rmul_tuple 1 t l its.toArray n dd sl)
      ⟨ho, rfl, ⟨_, ho, rfl⟩, call_meets F.slot_tuple_mul ⟨_, ho, rfl⟩ F.entry_tuple_mul (F.args_tuple_mul_2 _ _) (tuple_mul1 l its.toArray n dd sl t) ⟨ho, ?_⟩⟩)
  exact ⟨.ref l, H, I, rfl, q⟩
theorem op_repT0 : OpR X (binaryOp .Mult) (rRepT0 X.K) := by
  intro pins s σ H x y v u Q I rx ry h
  obtain ⟨l, xs, rfl, rfl, hT, hne, q⟩ := h
  cases rx
  obtain ⟨t, rfl⟩ := ry
  obtain ⟨its, r, ⟨⟨cls, dd, data, sl⟩, ho, hc, n, hd⟩, hs⟩ := I.tuple hT
  simp only at hc hd
  subst hc hd
  have hle : its.length = xs.length := r.length.symm
  have hi : its.toArray.isEmpty = false := by
    cases its with
    | nil => exact absurd (List.eq_nil_of_length_eq_zero hle.symm) hne
    | cons a b => rfl
  refine wpAny_binaryOp_repeat_ref (T := "tuple") (U := "int") (by decide) ⟨_, ho, rfl⟩ (fun s' => typeIs_int s' 0 t) noFill_tuple_mul F.fills_int_mul F.slot_int_rmul repeat_tuple F.slot_int_index.lookup
    (call_meets F.slot_int_rmul (typeIs_int s 0 t) F.entry_int_rmul (F.args_int_rmul_2 _ _) (int_rmul_tuple 0 t l its.toArray n dd sl)
      ⟨ho, rfl, ⟨_, ho, rfl⟩, call_meets F.slot_tuple_mul ⟨_, ho, rfl⟩ F.entry_tuple_mul (F.args_tuple_mul_2 _ _) (tuple_mul0 l its.toArray n dd sl t hi) ⟨ho, ?_⟩⟩)
  refine ⟨.ref s.heap.objs.size, _, I.laid (t' := s.toks) (o := .tup []) (fun b ob q => Heap.get?_push_of_some _ q) (Nat.le_refl _) ?_, rfl, q _ (I.hok.fresh (Nat.le_refl _))⟩
  exact ⟨Nat.zero_le _, [], .nil, IsTup.new _ _⟩
def rRepU (K : PySem.W.Frag) : R2 := fun x y H Q => rRepT K x y H Q ∨ rRepT1 K x y H Q ∨ rRepT0 K x y H Q
theorem k_rep (K : PySem.W.Frag) (e : X.K = K) : OpR X (binaryOp .Mult) (rRepU K) := by
  subst e
  exact op_repT.or (op_repT1.or op_repT0)
end
end L2
namespace Rn
open PySem PySem.Spec L2 RT
theorem w_repU {K : PySem.W.Frag} {H : Hp} {Q : VK} {l : Addr} {v : V} {k : Int} (hl : SqT K H l [v]) (h1 : 1 ≤ k) (h2 : k ≤ 1000) (h : ∀ p H', Same H H' → SqT K H' p (List.replicate k.toNat v) → Q (.ref p) H') : rRepU K (.ref l) (.int k) H Q := by
  by_cases e : k = 1
  · subst e
    exact .inr (.inl ⟨l, _, rfl, rfl, hl, h l H (Same.refl H) hl⟩)
  · refine .inl ⟨l, k, _, rfl, rfl, hl, by simp, by omega, h2, by simp, fun p hp => h p _ (Same.new hp) ?_⟩
    have e2 : (List.replicate k.toNat [v]).flatten = List.replicate k.toNat v := by simp
    rw [e2]
    exact SqT.of upd_same
theorem w_repU0 {K : PySem.W.Frag} {H : Hp} {Q : VK} {l : Addr} {v : V} {k : Int} (hl : SqT K H l [v]) (h1 : 0 ≤ k) (h2 : k ≤ 1000) (h : ∀ p H', Same H H' → SqT K H' p (List.replicate k.toNat v) → Q (.ref p) H') : rRepU K (.ref l) (.int k) H Q := by
  by_cases e : k = 0
  · subst e
    exact .inr (.inr ⟨l, _, rfl, rfl, hl, by simp, fun p hp => h p _ (Same.new hp) (SqT.of upd_same)⟩)
  · exact w_repU hl (by omega) h2 h
end Rn
set_option Elab.async false
set_option linter.all false
set_option maxRecDepth 100000
set_option maxHeartbeats 4000000
/-! tuple(element for (number, item) in enumerate(a tuple)), the element's free names known -/
namespace Tg
open PySem PySem.Spec PyProof.Rows L2 Rn
/-- the generator expression's own scope: its two names, the walked thing at «.0», captured names -/
structure GenS2 (env : Env) (scope : Scope) (xa xb : Str) : Prop where
  kind : scope.kind = .function
  co : scope.isCoroutine = false
  cell : ∀ y ∈ scope.names, y.2 ≠ .cell
  dot : scope.names.lookup (".0" : Str) = some NameKind.local
  la : scope.names.lookup xa = some .local
  lb : scope.names.lookup xb = some .local
  ne : xa ≠ xb
  free : ∀ y ∈ scope.names, y.2 = .free → env.kindOf y.1 = some .cell
/-- the captured names' values stand in their cells -/
def FreeAt (cl : List (Str × Addr)) (fr : List (Str × V)) (h : Heap) : Prop := ∀ p ∈ fr, ∃ c u, cl.lookup p.1 = some c ∧ h.IsCell c (some u) ∧ RelV p.2 u
/-- the element, of the number i and the item x -/
def EltE (prog : Program) (w : World) (scope : Scope) (cl : List (Str × Addr)) (fr : List (Str × V)) (xa xb : Str) (elt : Expr) (f : Nat → V → V) : Prop :=
  ∀ (cenv : Env) (A' : Around) (E' : Value → Shared → Prop) (i : Nat) (x : V) (t : Tok) (u : Value) (s₂ : Shared) (m₂ : Str → Option Value), cenv.scope = scope → cenv.cells = cl → RelV x u → s₂.heap.Ns cenv.locals m₂ → m₂ xa = some (.int (i : Nat) t) → m₂ xb = some u → FreeAt cl fr s₂.heap →
    wpAny (model prog w) A' (eval elt cenv) (fun y s₃ => RelV (f i x) y ∧ Keeps s₂ s₃) E' s₂
theorem keeps_refl (s : Shared) : Keeps s s := ⟨s.heap, s.toks, rfl, fun _ _ e => e⟩
/-- fv if at == sl else held -/
theorem elt_put {prog : Program} {w : World} {scope : Scope} {cl : List (Str × Addr)} {xa xb ya yb : Str} {j : Int} {fv : V} {p1 p2 p3 p4 p5 p6 : Pos} (hk : scope.kind = .function) (hla : scope.names.lookup xa = some .local) (hlb : scope.names.lookup xb = some .local)
    (hfa : scope.names.lookup ya = some .free) (hfb : scope.names.lookup yb = some .free) (da : (xa == ("__debug__" : Str)) = false := by decide) (db : (xb == ("__debug__" : Str)) = false := by decide)
    (ea : (ya == ("__debug__" : Str)) = false := by decide) (eb : (yb == ("__debug__" : Str)) = false := by decide) (ca : (ya == ("__classdict__" : Str)) = false := by decide) (cb : (yb == ("__classdict__" : Str)) = false := by decide) :
    EltE prog w scope cl [(ya, .int j), (yb, fv)] xa xb (.IfExp (.Compare (.Name xa p1) [.Eq] [.Name ya p2] p3) (.Name yb p4) (.Name xb p5) p6) (fun i x => if (i : Int) = j then fv else x) := by
  intro cenv A' E' i x t u s₂ m₂ hs hc ru hn hma hmb hfr
  have hk' : cenv.scope.kind = .function := by rw [hs]; exact hk
  have la : cenv.kindOf xa = some .local := by show cenv.scope.names.lookup xa = _; rw [hs]; exact hla
  have lb : cenv.kindOf xb = some .local := by show cenv.scope.names.lookup xb = _; rw [hs]; exact hlb
  have lc : cenv.kindOf ya = some .free := by show cenv.scope.names.lookup ya = _; rw [hs]; exact hfa
  have ld : cenv.kindOf yb = some .free := by show cenv.scope.names.lookup yb = _; rw [hs]; exact hfb
  obtain ⟨c1, u1, k1, k2, k3⟩ := hfr (ya, .int j) (by simp)
  obtain ⟨c2, u2, q1, q2, q3⟩ := hfr (yb, fv) (by simp)
  obtain ⟨t1, rfl⟩ := (show ∃ t, u1 = Value.int j t from k3)
  refine wpAny_IfExp ?_
  refine wpAny_isTrue_Compare1 ?_
  refine wpAny_Name (wpAny_loadName_local hk' la hn hma ?_) da
  refine wpAny_Name (wpAny_loadName_free hk' lc (by rw [hc]; exact k1) k2 ?_ ca) ea
  refine wpAny_eq_int ?_
  refine wpAny_truthy_bool ?_
  by_cases e : (i : Int) = j
  · rw [beq_iff_eq.mpr e, if_pos rfl]
    exact wpAny_Name (wpAny_loadName_free hk' ld (by rw [hc]; exact q1) q2 ⟨by show L2.RelV (if (i : Int) = j then fv else x) _; rw [if_pos e]; exact q3, keeps_refl _⟩ cb) eb
  · rw [beq_eq_false_iff_ne.mpr e, if_neg Bool.false_ne_true]
    exact wpAny_Name (wpAny_loadName_local hk' lb hn hmb ⟨by show L2.RelV (if (i : Int) = j then fv else x) _; rw [if_neg e]; exact ru, keeps_refl _⟩) db
section
variable {X : Cx} {pins : List (Addr × Obj)} {σ : L2.St} {H : Hp} {s : Shared}
/-- the generator g over the tuple's items xs, ready to be walked, in the state s5; H1: what was held before -/
def ReadyE (X : Cx) (pins : List (Addr × Obj)) (σ : L2.St) (H1 : Hp) (P : Addr) (xs : List V) (f : Nat → V → V) (g : Addr) (s5 : Shared) : Prop :=
  ∃ (fp wr : List Addr) (G : Array GenState → Array GenState → Prop) (F : Nat → Value → Prop) (St : Nat → Shared → Prop),
    WalksS X.prog X.w X.A.in1.in1.in1 g fp wr G xs.length F St ∧ St 0 s5 ∧ (∀ b ∈ fp, b < s5.heap.objs.size) ∧ g ∈ fp ∧ (∀ i s9, St i s9 → s9.TypeIs (.ref g) "generator") ∧
    (∀ j v, F j v → ∃ x : V, xs[j]? = some x ∧ RelV (f j x) v) ∧
    ∀ s', Moved wr G s5 s' → ∃ H2, GxR.Tabbed P H1 H2 ∧ Inv X pins σ H2 s'

theorem gen_en {c P : Addr} {elt e : Expr} {xa xb : Str} {pa pb pt pe pc gpos : Pos} {kt : Nat} {scope : Scope} {fr : List (Str × V)} {f : Nat → V → V} {ta : TA} {k : Nat} {Q' : Value → Shared → Prop} {R : List V → Hp → Prop}
    (hr : Room k X.A) (hg : Gl X "enumerate") (hm : X.mg "enumerate" = none) (TB : GxR.TabB X.base X.mg c P) (hcode : X.env.code = .ref c) (S : GenS2 X.env scope xa xb) (ha : PA X [e] ta)
    (hel : EltE X.prog X.w scope (cloFrom X.env.cells scope.names []) fr xa xb elt f)
    (hs : ∀ v, genFold (.Call (.Name "enumerate" pe) [e] [] pc) X.env v = pure v) (hst : starEach [e] X.env = [(false, eval e X.env)]) (I : Inv X pins σ H s)
    (h : ta σ H fun vs H1 => ∃ (a : Addr) (xs : List V), vs = [.ref a] ∧ SqT X.K H1 a xs ∧ GxR.TabG H1 P ∧
      (∀ p ∈ fr, ∃ i : Nat, X.N[i]? = some p.1 ∧ σ[i]? = some (some p.2) ∧ X.env.kindOf p.1 = some .cell ∧ (cloFrom X.env.cells scope.names []).lookup p.1 = some ((X.env.cells.lookup p.1).getD 0)) ∧ R xs H1)
    (hQ : ∀ xs H1 g s5, xs.length ≤ sizeLine → R xs H1 → ReadyE X pins σ H1 P xs f g s5 → Q' (.ref g) s5) :
    wpAny (model X.prog X.w) X.A (eval (.GeneratorExp elt [⟨.Tuple [.Name xa pa, .Name xb pb] kt pt, .Call (.Name "enumerate" pe) [e] [] pc, [], 0⟩] scope gpos) X.env) Q' X.xe s := by
  have bo : bootBuiltins ("enumerate" : Str) = some (.type "enumerate") := by decide +kernel
  refine wpAny_GeneratorExp_walksQT hr.hd S.co (closure_ok fun y hy e => I.ok.has _ (.inl (S.free y hy e))) S.cell S.dot S.la S.lb S.ne S.kind (by have := hr.dp; omega) ?_ hs
  refine PyProof.Rows.Call_ (ld_blt I hg hm bo (PyProof.Rows.callWith_type1 (thn (ha.run pc pins s σ H _ I h) fun us s1 w1 => ?_) hst rfl))
  obtain ⟨vs, H1, I1, r1, a, xs, ex, hxs, ⟨ps, hP, ht⟩, hfr, q1⟩ := w1
  subst ex
  obtain ⟨u0, eu, ru⟩ := vals1 r1
  subst eu
  obtain rfl : u0 = .ref a := ru
  obtain ⟨its, rv, tu, hz⟩ := I1.tuple hxs
  have hlen : its.length = xs.length := rv.length.symm
  refine enum1_call (begins_tuple a its.toArray) tu fun g he hit hk => wpAny_pyIter_enum he ?_
  have he0 : IsEnum g (s1.heap.objs.size + 1) s1.heap.objs.size 0 .none := he
  have hne : s1.heap.objs.size + 1 ≠ s1.heap.objs.size := Nat.succ_ne_self _
  have hal : a < s1.heap.objs.size := by
    obtain ⟨_, q, _⟩ := tu
    exact Heap.lt_size q
  have na : a ≠ s1.heap.objs.size := Nat.ne_of_lt hal
  have nae : a ≠ s1.heap.objs.size + 1 := Nat.ne_of_lt (Nat.lt_succ_of_lt hal)
  have gsz : s1.heap.objs.size + 1 < g.objs.size := Heap.lt_size he
  have hPs : s1.heap.get? P = some { cls := .none, data := .fields ps } := I1.hok P _ hP
  have hPlt : P < s1.heap.objs.size := Heap.lt_size hPs
  have hP2 : g.get? P = some { cls := .none, data := .fields ps } := hk _ _ hPs
  have cd : PySem.W.CodeHd g c P := TB.code.keeps fun b u e => hk _ _ (I1.bk b u e)
  have lim2 : g.NoLimit := I1.nolimit.keeps hk
  have cont : ∀ (code : Value) (h3 : Heap) (tk : Nat) (ps' : Array Value), Heap.ExtBut P g h3 → g.objs.size ≤ h3.objs.size → h3.get? P = some { cls := .none, data := .fields ps' } → (∃ more, ps' = ps ++ more) → TriplesOk ps'.toList →
      wpAny (model X.prog X.w) X.A (builtinsFor X.env.globals X.env.builtins) (fun bi s₄ =>
        ∃ Ia fp wr n₀ Pt St₀ Mid pz F, Value.ref (s1.heap.objs.size + 1) = .ref Ia ∧ (∀ A' : Around, A'.handled = none → WalksU X.prog X.w A' Ia fp wr n₀ Pt St₀ Mid) ∧ (∀ i vals, Pt i vals → ∃ va vb, vals = #[va, vb]) ∧ St₀ 0 s₄.heap ∧ (∀ b ∈ fp, b < s₄.heap.objs.size) ∧ s₄.heap.NoLimit ∧ cStatics ∉ wr ∧
          (∀ href : Heap, (∀ b o, s₄.heap.get? b = some o → href.get? b = some o) →
            QuietGenT X.prog X.w (genEnv scope (cloFrom X.env.cells scope.names []) s₄.heap.objs.size code bi X.env) xa xb [] elt (List.range s₄.heap.objs.size) wr Pt pz F href) ∧
          (∀ a h₅ tk gs, gs.bare = true → s₄.heap.objs.size < a → h₅.objs.size = a + 1 → (∀ b o, s₄.heap.get? b = some o → h₅.get? b = some o) →
            WalksS X.prog X.w X.A.in4 a (a :: s₄.heap.objs.size :: List.range s₄.heap.objs.size) (s₄.heap.objs.size :: wr) (GenOnlyQ s₄.gens.size) (passing pz n₀ 0).length
              (fun j y => ∃ i, (passing pz n₀ 0)[j]? = some i ∧ F i y) (GenAt X.prog X.w X.A.in4 a s₄.gens.size s₄.heap.objs.size (List.range s₄.heap.objs.size) wr pz n₀ F) →
            GenAt X.prog X.w X.A.in4 a s₄.gens.size s₄.heap.objs.size (List.range s₄.heap.objs.size) wr pz n₀ F 0 { s₄ with gens := s₄.gens.push gs, toks := tk, heap := h₅ } →
            Q' (.ref a) { s₄ with gens := s₄.gens.push gs, toks := tk, heap := h₅ })) X.xe { s1 with heap := h3, toks := tk } := by
    intro code h3 tk ps' hx hsz hP3 hmore ht3
    obtain ⟨bm, ob, e1, e2, e3, e4, e5, e6, e7, e8⟩ := TB.bm
    have hcP : cStatics ≠ P := fun e => by
      obtain ⟨_, hns, _⟩ := I1.nolimit
      obtain ⟨o', es, ep, ho, hd, _⟩ := hns
      rw [e, hPs] at ho
      cases ho
      cases hd
    have hcl : cStatics < s1.heap.objs.size := let ⟨_, hns, _⟩ := I1.nolimit; hns.lt
    have keep3 : ∀ b u, b ≠ P → s1.heap.get? b = some u → h3.get? b = some u := fun b u hb e => hx b u hb (hk _ _ e)
    refine wpAny_builtinsFor (m := X.mg) (by rw [I1.ok.glob]; exact ((I1.mod.glob.keeps I1.bk).keeps hk).extBut hx TB.gP) e1 e2 (keep3 _ _ e4 (I1.bk _ _ e5)) e6 e7 e8 ?_
    have haP : a ≠ P := fun z => by
      obtain ⟨_, e, hc1, _, hd1⟩ := _root_.id tu
      rw [z, hPs] at e
      cases e
      cases hd1
    have tu3 : h3.IsTuple a its.toArray := by
      obtain ⟨ob, e, r⟩ := _root_.id tu
      exact ⟨ob, keep3 _ _ haP e, r⟩
    have hit3 : h3.IsTupleIter s1.heap.objs.size a 0 := ⟨_, hx _ _ (Nat.ne_of_gt hPlt) hit, rfl, rfl⟩
    have he3 : IsEnum h3 (s1.heap.objs.size + 1) s1.heap.objs.size 0 .none := hx _ _ (Nat.ne_of_gt (Nat.lt_succ_of_lt hPlt)) he0
    have frAt : ∀ h' : Heap, (∀ b o, b < h3.objs.size → b ∉ [s1.heap.objs.size + 1, s1.heap.objs.size] → h3.get? b = some o → h'.get? b = some o) → FreeAt (cloFrom X.env.cells scope.names []) fr h' := fun h' hk' p hp => by
      obtain ⟨i, n1, n2, n3, n4⟩ := hfr p hp
      obtain ⟨m, _, lo⟩ := I1.loc
      obtain ⟨u, ru, lk⟩ := lo i p.1 p.2 n1 n2 (.inr (.inl n3))
      rcases lk with ⟨z, _⟩ | ⟨_, cc, lc, ob, oc, od⟩
      · rw [n3] at z
        cases z
      · refine ⟨cc, u, by rw [n4, lc] <;> rfl, ⟨ob, ?_, od⟩, ru⟩
        have lt := Heap.lt_size oc
        have ncP : cc ≠ P := fun z => by
          have := I1.freeC _ _ lc
          rw [z, hP] at this
          cases this
        have lt' : (cc : Nat) < s1.heap.objs.size := lt
        refine hk' cc ob (Nat.lt_of_lt_of_le (Nat.lt_trans lt (Nat.lt_of_succ_lt gsz)) hsz) (fun z => ?_) (keep3 _ _ ncP oc)
        rcases List.mem_cons.mp z with z | z
        · exact Nat.ne_of_lt (Nat.lt_succ_of_lt lt) z
        · rcases List.mem_cons.mp z with z | z
          · exact Nat.ne_of_lt lt z
          · cases z
    refine ⟨s1.heap.objs.size + 1, (s1.heap.objs.size + 1) :: [s1.heap.objs.size, a], [s1.heap.objs.size + 1, s1.heap.objs.size], its.toArray.size, _, _, _, (fun _ => true),
      (fun i y => ∃ x : V, xs[i]? = some x ∧ RelV (f i x) y), rfl, (fun A' hA => (WalksT.enumerateD (Draws.tuple (A := A'.in1) hA s1.heap.objs.size a na its.toArray) (s1.heap.objs.size + 1) hne (by simp [Ne.symm nae]) (by simp)).toU), ?_, ⟨⟨_, he3⟩, hit3, tu3⟩, ?_, lim2.extBut hx hcP, ?_, ?_, ?_⟩
    · rintro i vals ⟨t, x, _, e⟩
      exact ⟨_, _, e⟩
    · intro b hb
      show (b : Nat) < h3.objs.size
      have hal' : (a : Nat) < s1.heap.objs.size := hal
      rcases List.mem_cons.mp hb with z | z
      · exact z ▸ Nat.lt_of_lt_of_le gsz hsz
      · rcases List.mem_cons.mp z with z | z
        · exact z ▸ Nat.lt_of_lt_of_le (Nat.lt_of_succ_lt gsz) hsz
        · rcases List.mem_cons.mp z with z | z
          · exact z ▸ Nat.lt_trans hal (Nat.lt_of_lt_of_le (Nat.lt_of_succ_lt gsz) hsz)
          · cases z
    · intro z
      rcases List.mem_cons.mp z with z | z
      · exact Nat.ne_of_lt (Nat.lt_succ_of_lt hcl) z
      · rcases List.mem_cons.mp z with z | z
        · exact Nat.ne_of_lt hcl z
        · cases z
    · intro href hhref
      refine ⟨fun A' E' i va vb s₂ m₂ hA hPv hn hma hmb hkp => ?_, fun A' E' i va vb s₂ m₂ hA hPv hp hn hma hmb hkp => ?_⟩
      · simp only [List.forIn_nil]
        exact wpAny_pure ⟨rfl, keeps_refl _⟩
      · obtain ⟨t, x, hx1, e⟩ := hPv
        obtain ⟨ea, eb⟩ : va = .int i t ∧ vb = x := by simpa using congrArg Array.toList e
        subst ea eb
        have hv2 : its[i]? = some vb := by simpa using hx1
        have hi2 : i < its.length := (List.getElem?_eq_some_iff.mp hv2).1
        obtain ⟨x, hxx⟩ : ∃ x, xs[i]? = some x := ⟨xs[i]'(by omega), List.getElem?_eq_getElem _⟩
        obtain ⟨u, hu, ru⟩ := rv.get hxx
        rw [hv2] at hu
        cases hu
        refine wpAny_mono (hel _ A' E' i x t vb s₂ m₂ rfl rfl ru hn hma hmb (frAt _ fun b o hlt hb e => hkp b (List.mem_range.mpr hlt) hb o (hhref b o e))) (fun y s3 r => ⟨⟨x, hxx, r.1⟩, r.2⟩) fun _ _ e => e
    · intro g0 h5 tk5 gs hgb hag hsz5 hk5 W5 hgat
      simp only [GxR.passing_true, List.length_range] at W5
      have hn5 : its.toArray.size = xs.length := by rw [List.size_toArray, hlen]
      rw [hn5] at W5 hgat
      refine hQ xs H1 g0 _ hz q1 ⟨_, _, _, _, _, W5.in4_3, hgat, ?_, List.mem_cons_self, fun i s9 h9 => ?_, ?_, fun s' hm => ?_⟩
      · intro b hb
        show b < h5.objs.size
        have e5 : h5.objs.size = g0 + 1 := hsz5
        have h8 : h3.objs.size < g0 := hag
        rw [e5]
        rcases List.mem_cons.mp hb with z | z
        · rw [z]
          exact Nat.lt_succ_self g0
        · rcases List.mem_cons.mp z with z | z
          · rw [z]
            exact Nat.lt_succ_of_lt h8
          · have z2 := List.mem_range.mp z
            have h7 : b < h3.objs.size := z2
            exact Nat.lt_succ_of_lt (Nat.lt_trans h7 h8)
      · obtain ⟨hg9, _⟩ := h9
        exact hg9.typeIs
      · intro j v hv
        obtain ⟨i, hij, x, hx1, e⟩ := hv
        obtain ⟨hj, ej⟩ := List.getElem?_eq_some_iff.mp hij
        rw [List.getElem_range] at ej
        subst ej
        exact ⟨x, hx1, e⟩
      · obtain ⟨more, em⟩ := hmore
        have nwr : ∀ b u, s1.heap.get? b = some u → b ∉ h3.objs.size :: [s1.heap.objs.size + 1, s1.heap.objs.size] := fun b u e hb => by
          have hl := Heap.lt_size e
          rcases List.mem_cons.mp hb with z | z
          · rw [z] at hl
            exact Nat.lt_irrefl _ (Nat.lt_trans (Nat.lt_of_lt_of_le (Nat.lt_of_succ_lt gsz) hsz) hl)
          · have hl' : (b : Nat) < s1.heap.objs.size := hl
            rcases List.mem_cons.mp z with z | z
            · exact Nat.ne_of_lt (Nat.lt_succ_of_lt hl) z
            · rcases List.mem_cons.mp z with z | z
              · exact Nat.ne_of_lt hl z
              · cases z
        have J := GxR.inv_tab (more := more) (h' := s'.heap) (g' := s'.gens) (d' := s'.drawn) (t' := s'.toks) I1 hP (fun b u hb e => hm.heap b u (nwr b u e) (hk5 b u (keep3 b u hb e)))
          (by rw [← em]; exact hm.heap P _ (nwr P _ hPs) (hk5 P _ hP3)) (AllBare.movedS (I1.bare.push hgb) hm)
        rw [GxR.sh_eta s1 s' hm.os] at J
        refine ⟨upd H1 P (.tbl (ps ++ more)), ⟨⟨ps ++ more, upd_same, by rw [← em]; exact ht3⟩, fun b hb => upd_ne hb⟩, J⟩
  refine ⟨lim2, ?_⟩
  cases hf : codeAmong gpos ps.toList with
  | none =>
    refine wpAny_genexprCodeX hcode (cd.code hP2 ht) (cd.tab hP2) hf fun c' h' tk hx hge hlt hco' _ htab' _ => ?_
    obtain ⟨o1, vs, f1, tf, fl, tg, inF, tx, tt, op, _, _, _, _, _, _, _, _, _, htr, _⟩ := hco'
    exact cont _ h' tk _ hx (Nat.le_trans hge (Nat.le_of_lt hlt)) htab'.2 ⟨_, rfl⟩ htr
  | some cv =>
    refine wpAny_genexprCode_hit hcode (cd.code hP2 ht) hf ?_
    exact cont cv g s1.toks ps (Heap.ExtBut.refl _ _) (Nat.le_refl _) hP2 ⟨#[], by simp⟩ ht

theorem vals_at : ∀ {xs : List V} {vs : List Value}, xs.length = vs.length → (∀ (i : Nat) (x : V), xs[i]? = some x → ∃ v, vs[i]? = some v ∧ RelV x v) → Vals xs vs
  | [], [], _, _ => .nil
  | x :: xs, v :: vs, h, k => .cons (by
      obtain ⟨u, e, r⟩ := k 0 x rfl
      cases e
      exact r) (vals_at (by simpa using h) fun i y hy => k (i + 1) y hy)
/-- f over the items, by their numbers -/
def mapE (f : Nat → V → V) (xs : List V) : List V := xs.mapIdx f
/-- tuple(elt for xa, xb in enumerate(e)) -/
def tTupE (X : Cx) (P : Addr) (scope : Scope) (fr : List (Str × V)) (f : Nat → V → V) (ta : TA) : TE := fun σ H Q => ta σ H fun vs H1 => ∃ (a : Addr) (xs : List V), vs = [.ref a] ∧ SqT X.K H1 a xs ∧ GxR.TabG H1 P ∧
  (∀ p ∈ fr, ∃ i : Nat, X.N[i]? = some p.1 ∧ σ[i]? = some (some p.2) ∧ X.env.kindOf p.1 = some .cell ∧ (cloFrom X.env.cells scope.names []).lookup p.1 = some ((X.env.cells.lookup p.1).getD 0)) ∧
  ∀ H2 p, GxR.Tabbed P H1 H2 → H2 p = none → Q (.ref p) (upd H2 p (.tup (mapE f xs)))
theorem pe_tupE {c P : Addr} {elt e : Expr} {xa xb : Str} {pa pb pt pe pc gpos pn pos : Pos} {kt : Nat} {scope : Scope} {fr : List (Str × V)} {f : Nat → V → V} {ta : TA} {k : Nat}
    (hr : Room k X.A) (hg : Gl X "enumerate") (hm : X.mg "enumerate" = none) (hgt : Gl X "tuple") (hmt : X.mg "tuple" = none) (TB : GxR.TabB X.base X.mg c P) (hcode : X.env.code = .ref c) (S : GenS2 X.env scope xa xb) (ha : PA X [e] ta)
    (hel : EltE X.prog X.w scope (cloFrom X.env.cells scope.names []) fr xa xb elt f)
    (hs : ∀ v, genFold (.Call (.Name "enumerate" pe) [e] [] pc) X.env v = pure v := by intro v; rfl) (hst : starEach [e] X.env = [(false, eval e X.env)] := by rfl)
    (he : starEach [.GeneratorExp elt [⟨.Tuple [.Name xa pa, .Name xb pb] kt pt, .Call (.Name "enumerate" pe) [e] [] pc, [], 0⟩] scope gpos] X.env = (false, eval (.GeneratorExp elt [⟨.Tuple [.Name xa pa, .Name xb pb] kt pt, .Call (.Name "enumerate" pe) [e] [] pc, [], 0⟩] scope gpos) X.env) :: starEach [] X.env := by rfl) :
    PE X (.Call (.Name "tuple" pn) [.GeneratorExp elt [⟨.Tuple [.Name xa pa, .Name xb pb] kt pt, .Call (.Name "enumerate" pe) [e] [] pc, [], 0⟩] scope gpos] [] pos) (tTupE X P scope fr f ta) := by
  refine ⟨fun pins s σ H Q I h => ?_⟩
  have bo : bootBuiltins ("tuple" : Str) = some (.type "tuple") := by decide +kernel
  refine wpAny_Call_Name_kw (ld_blt I hgt hmt bo ?_)
  refine PyProof.Rows.callWith_type1 ?_ he (by rfl)
  rw [he]
  show wpAny _ _ (spliced ((false, eval (.GeneratorExp elt [⟨.Tuple [.Name xa pa, .Name xb pb] kt pt, .Call (.Name "enumerate" pe) [e] [] pc, [], 0⟩] scope gpos) X.env) :: backTo pos (starEach [] X.env))) _ _ s
  refine Calls.spliced_cons (gen_en (R := fun xs H1 => ∀ H2 p, GxR.Tabbed P H1 H2 → H2 p = none → Q (.ref p) (upd H2 p (.tup (mapE f xs)))) hr hg hm TB hcode S ha hel hs hst I h fun xs H1 g s5 jl jq hG => ?_)
  refine Calls.spliced_nil ?_
  obtain ⟨fp, wr, G, F, St, W, hst0, hfp, hgi, hT, hF, hinv⟩ := hG
  refine call_tuple_gen W hT hst0 hfp hgi (fun s' acc hmv hio => ?_) jl
  obtain ⟨H2, ht, J⟩ := hinv s' hmv
  obtain ⟨its, rfl⟩ : ∃ its : List Value, acc = its.toArray := ⟨acc.toList, by simp⟩
  have hz2 : its.length = xs.length := by simpa using hio.1
  have rel : Vals (mapE f xs) its := vals_at (by unfold mapE; rw [List.length_mapIdx, hz2]) fun i x hx => by
    unfold mapE at hx
    rw [List.getElem?_mapIdx] at hx
    have hi : i < xs.length := by
      refine Nat.lt_of_not_le fun z => ?_
      rw [List.getElem?_eq_none z] at hx
      cases hx
    obtain ⟨v, hv⟩ : ∃ v, its[i]? = some v := ⟨its[i]'(by omega), List.getElem?_eq_getElem _⟩
    obtain ⟨y, hy, r⟩ := hF i v (hio.2 i v (by simpa using hv))
    rw [hy] at hx
    cases hx
    exact ⟨v, hv, r⟩
  have hzz : (mapE f xs).length ≤ sizeLine := by unfold mapE; rw [List.length_mapIdx]; exact jl
  have J2 : Inv X pins σ (upd H2 s'.heap.objs.size (.tup (mapE f xs))) { s' with heap := s'.heap.push { cls := .type "tuple", data := .seq its.toArray } } :=
    J.laid (t' := s'.toks) (fun b o e => Heap.get?_push_of_some _ e) (Nat.le_refl _) (show ObjOk X.prog X.w _ _ _ (.tup (mapE f xs)) from ⟨hzz, its, rel, IsTup.new _ _⟩)
  exact ⟨.ref s'.heap.objs.size, _, J2, rfl, jq H2 _ ht (J.hok.fresh (Nat.le_refl _))⟩
end
/-- all stays but what the table at P holds, and it stays a table -/
def NoTab : HO → Prop
  | .tbl _ => False
  | _ => True
structure SmT (P : Addr) (H H' : Hp) : Prop where
  keep : ∀ b x, (b ≠ P ∨ NoTab x) → H b = some x → H' b = some x
  tab : ∀ ps, H P = some (.tbl ps) → ∃ ps', H' P = some (.tbl ps') ∧ (TriplesOk ps.toList → TriplesOk ps'.toList)
theorem SmT.refl {P : Addr} (H : Hp) : SmT P H H := ⟨fun _ _ _ h => h, fun ps h => ⟨ps, h, id⟩⟩
theorem SmT.trans {P : Addr} {A B C : Hp} (x : SmT P A B) (y : SmT P B C) : SmT P A C := ⟨fun b o n h => y.keep b o n (x.keep b o n h), fun ps h => by
  obtain ⟨p1, h1, k1⟩ := x.tab ps h
  obtain ⟨p2, h2, k2⟩ := y.tab p1 h1
  exact ⟨p2, h2, k2 ∘ k1⟩⟩
theorem _root_.L2.Same.smt {P : Addr} {H H' : Hp} (e : Same H H') : SmT P H H' := ⟨fun b x _ h => e b x h, fun ps h => ⟨ps, e _ _ h, id⟩⟩
theorem SmT.of_tabbed {P : Addr} {H H' : Hp} (hP : GxR.TabG H P) (h : GxR.Tabbed P H H') : SmT P H H' := by
  obtain ⟨ps, e, t⟩ := hP
  obtain ⟨⟨ps', e', t'⟩, k⟩ := h
  refine ⟨fun b x n hb => ?_, fun qs hb => ⟨ps', e', fun _ => t'⟩⟩
  have ne : b ≠ P := fun z => by
    rcases n with n | n
    · exact n z
    · rw [z, e] at hb
      cases hb
      exact n
  rw [k b ne]
  exact hb
theorem SmT.tabG {P Q : Addr} {H H' : Hp} (e : SmT P H H') (h : GxR.TabG H Q) : GxR.TabG H' Q := by
  obtain ⟨ps, a, t⟩ := h
  by_cases z : Q = P
  · subst z
    obtain ⟨ps', b, k⟩ := e.tab ps a
    exact ⟨ps', b, k t⟩
  · exact ⟨ps, e.keep Q _ (.inl z) a, t⟩
theorem SmT.free {P b : Addr} {H H' : Hp} (e : SmT P H H') (h : H' b = none) : H b = none := by
  cases hp : H b with
  | none => rfl
  | some x =>
    by_cases n : b ≠ P ∨ NoTab x
    · rw [e.keep b x n hp] at h
      cases h
    · have z : b = P := Classical.not_not.mp fun z => n (.inl z)
      subst z
      cases x with
      | tbl ps =>
        obtain ⟨ps', c, _⟩ := e.tab ps hp
        rw [c] at h
        cases h
      | _ => exact absurd (.inr trivial) n
theorem SmT.tn {P : Addr} {H H' : Hp} (e : SmT P H H') : Tn H H' := fun a xs h => by
  rcases h with h | ⟨o, h⟩
  · exact .inl (e.keep _ _ (.inr trivial) h)
  · exact .inr ⟨o, e.keep _ _ (.inr trivial) h⟩
theorem SmT.l {P : Addr} {H H' : Hp} (e : SmT P H H') {b : Addr} {xs : List V} (h : H b = some (.lst xs)) : H' b = some (.lst xs) := e.keep _ _ (.inr trivial) h
theorem SmT.t {P : Addr} {H H' : Hp} (e : SmT P H H') {b : Addr} {xs : List V} (h : H b = some (.tup xs)) : H' b = some (.tup xs) := e.keep _ _ (.inr trivial) h
theorem SmT.d {P : Addr} {H H' : Hp} (e : SmT P H H') {b : Addr} {xs : List (Key × V)} (h : H b = some (.dK xs)) : H' b = some (.dK xs) := e.keep _ _ (.inr trivial) h
theorem genS2_by {env : Env} {scope : Scope} {xa xb : Str} (h1 : scope.kind = .function) (h2 : scope.isCoroutine = false) (h3 : (scope.names.all fun y => y.2 != .cell) = true) (h4 : scope.names.lookup (".0" : Str) = some NameKind.local)
    (h5 : scope.names.lookup xa = some .local) (h6 : scope.names.lookup xb = some .local) (h7 : xa ≠ xb) (h8 : (scope.names.all fun y => y.2 != .free || env.scope.names.lookup y.1 == some .cell) = true) : GenS2 env scope xa xb where
  kind := h1
  co := h2
  cell := fun y hy e => by
    have := List.all_eq_true.mp h3 y hy
    rw [e] at this
    cases this
  dot := h4
  la := h5
  lb := h6
  ne := h7
  free := fun y hy e => by
    have := List.all_eq_true.mp h8 y hy
    rw [e] at this
    rcases (Bool.or_eq_true _ _).mp this with z | z
    · cases z
    · exact beq_iff_eq.mp z
section
variable {P : Program} {w : World} {K : PySem.W.Frag} {mg : Str → Option Value} {base : Heap}
/-- Fun.ok, Fun.okX, the code object told -/
theorem _root_.L2.Fun.okC {x qual : Str} {st : Stmt} {f : Addr} {fd : FuncData} {N ps : List Str} {k : Nat} {sp : Sp} (F : Fun K x qual st f fd) (S : FnScope N ps (defScope st)) (len : ∀ vs H Q E, sp vs H Q E → vs.length = ps.length)
    (hbody : ∀ (cdv : Value) (_ : fd.code = cdv) (A : Around) (outer : List Env) (s : Shared) (H : Hp) (vs : List V) (Q : VK) (E : XK), Room k (A.deeper (envOfC qual (defScope st) s.heap.objs.size f cdv)) → sp vs H Q E →
      ∃ t, PSs (cxOf CX0 P w K mg base N qual (defScope st) f cdv A outer s H E).nox (defBody st) t ∧ t { nx := fun _ H' => Q .non H', rt := Q } (start N vs) H) : FnOk P w K mg base CX0 (k + 1) f fd ps sp := by
  obtain ⟨oc, od, kV, doc, pm, an, cdv, ct, osl, rfl, lk, hcd⟩ := F.ex
  refine fn_of lk hcd S len fun A outer s H vs Q E hr hsp => ?_
  obtain ⟨t, h, q⟩ := hbody cdv rfl A outer s H vs Q E hr hsp
  exact ⟨t, h.nox, q⟩
theorem _root_.L2.Fun.okXC {x qual : Str} {st : Stmt} {f : Addr} {fd : FuncData} {N ps : List Str} {k : Nat} {sp : Sp} (F : Fun K x qual st f fd) (S : FnScope N ps (defScope st)) (len : ∀ vs H Q E, sp vs H Q E → vs.length = ps.length)
    (hbody : ∀ (cdv : Value) (_ : fd.code = cdv) (A : Around) (outer : List Env) (s : Shared) (H : Hp) (vs : List V) (Q : VK) (E : XK), Room k (A.deeper (envOfC qual (defScope st) s.heap.objs.size f cdv)) → sp vs H Q E →
      ∃ t, PSs (cxOf (L2.CX P w) P w K mg base N qual (defScope st) f cdv A outer s H E) (defBody st) t ∧ t { nx := fun _ H' => Q .non H', rt := Q } (start N vs) H) : FnOk P w K mg base (L2.CX P w) (k + 1) f fd ps sp := by
  obtain ⟨oc, od, kV, doc, pm, an, cdv, ct, osl, rfl, lk, hcd⟩ := F.ex
  exact fn_of lk hcd S len fun A outer s H vs Q E hr hsp => hbody cdv rfl A outer s H vs Q E hr hsp
end
/-- the reading's question -/
theorem w_tupE {X : Cx} {P : Addr} {scope : Scope} {fr : List (Str × V)} {f : Nat → V → V} {ta : TA} {σ : L2.St} {H : Hp} {Q : VK} (h : ta σ H fun vs H1 => ∃ (a : Addr) (xs : List V), vs = [.ref a] ∧ SqT X.K H1 a xs ∧ GxR.TabG H1 P ∧
  (∀ p ∈ fr, ∃ i : Nat, X.N[i]? = some p.1 ∧ σ[i]? = some (some p.2) ∧ X.env.kindOf p.1 = some .cell ∧ (cloFrom X.env.cells scope.names []).lookup p.1 = some ((X.env.cells.lookup p.1).getD 0)) ∧
  ∀ H2 p, GxR.Tabbed P H1 H2 → H2 p = none → Q (.ref p) (upd H2 p (.tup (mapE f xs)))) : tTupE X P scope fr f ta σ H Q := h
theorem map_put (S : List Int) (i f : Int) (h : 0 ≤ i) : mapE (fun n x => if (n : Int) = i then V.int f else x) (S.map V.int) = (S.set i.toNat f).map V.int := by
  unfold mapE
  apply List.ext_getElem?
  intro n
  rw [List.getElem?_mapIdx, List.getElem?_map, List.getElem?_map, List.getElem?_set]
  by_cases e : i.toNat = n
  · subst e
    rw [if_pos rfl]
    by_cases hl : i.toNat < S.length
    · rw [if_pos hl, List.getElem?_eq_getElem hl]
      show some (if ((i.toNat : Nat) : Int) = i then _ else _) = _
      rw [if_pos (by omega)] <;> rfl
    · rw [if_neg hl, List.getElem?_eq_none (by omega)] <;> rfl
  · rw [if_neg e]
    cases S[n]? with
    | none => rfl
    | some y =>
      show some (if (n : Int) = i then _ else _) = _
      rw [if_neg (by omega)] <;> rfl
theorem each_nil {α : Type} {p : α → Prop} : ∀ x ∈ ([] : List α), p x := fun _ h => nomatch h
theorem each_cons {α : Type} {p : α → Prop} {a : α} {r : List α} (h : p a) (k : ∀ x ∈ r, p x) : ∀ x ∈ a :: r, p x := fun x hx => by
  rcases List.mem_cons.mp hx with e | e
  · rw [e]
    exact h
  · exact k x e
theorem tabG0 {H : Hp} {P : Addr} (h : H P = some (.tbl #[])) : GxR.TabG H P := ⟨#[], h, by trivial⟩
theorem genS_by {env : Env} {scope : Scope} {x : Str} (h1 : scope.kind = .function) (h2 : scope.isCoroutine = false) (h3 : (scope.names.all fun y => y.2 != .cell) = true) (h4 : scope.names.lookup (".0" : Str) = some NameKind.local)
    (h5 : scope.names.lookup x = some .local) (h6 : (scope.names.all fun y => y.2 != .free) = true) : GxR.GenS env scope x where
  kind := h1
  co := h2
  cell := fun y hy e => by
    have := List.all_eq_true.mp h3 y hy
    rw [e] at this
    cases this
  dot := h4
  loc := h5
  free := fun y hy e => by
    have := List.all_eq_true.mp h6 y hy
    rw [e] at this
    cases this
end Tg
set_option Elab.async false
set_option linter.all false
set_option maxRecDepth 100000
set_option maxHeartbeats 4000000
/-! the end where defs of the program hold generator expressions -/
namespace Tg
open PySem PySem.Spec PyProof.Rows L2 Rn LamX
theorem tab_of {base : Heap} {mg : Str → Option Value} {c P : Addr} (h : LamX.TabB base mg c P) : GxR.TabB base mg c P := ⟨h.code, h.bm, h.gP⟩
theorem tabIn_of {K : PySem.W.Frag} {x : Str} {f c P : Addr} {oc : Value} {od : Option Addr} {fd : FuncData} {osl : Array (Option Value)} {e : Value} {dd : Option Addr} {vs : Array Value} {sl : Array (Option Value)} (a : PySem.W.nsIn K mainGlobals x = some (some (.ref f))) (l : K.lookup f = some ⟨oc, od, .func fd, osl⟩)
    (j : fd.code = .ref c) (w : K.lookup c = some ⟨e, dd, .fields vs, sl⟩) (u : vs[11]? = some (.ref P)) : PySem.W.tabIn K x = some (c, P) := by
  unfold PySem.W.tabIn
  rw [a]
  simp only [l, j, w, u]
theorem walk_ofTab {l : PySem.W.OpenLaw} {n k : Nat} {q : Program} {loose : List Str} {XP : (Str → Option Value) → Heap → Prop} {YP : World → Heap → Prop} {d : DefRec} {K : Params → PySem.W.Frag} {CX : World → CXT} {x : Str} (names : List Str)
    (hn : l.most = some n) (hn2 : n ≤ sizeLine) (hdf : d.params.defaults = []) (hr : Room k callerA) (hrec : (names.all fun x => ((recsOf q).find? fun e => e.name == x).isSome) = true) (hY : ∀ (w : World) (h : Heap), YP w h → (K w.params).In h)
    (F : ∀ (w : World) (mg : Str → Option Value) (fa : Addr) (h : Heap), (K w.params).In h → h.Ns mainGlobals mg → mg d.name = some (.ref fa) →
      (∀ x ∈ names, ∀ c P : Addr, PySem.W.tabIn (K w.params) x = some (c, P) → PySem.W.CodeHd h c P ∧ h.get? P = some { cls := .none, data := .fields #[] }) → LawAtS l w (K w.params) (CX w) k n x mg fa h)
    (hCX : ∀ (w : World) (H : Hp) (s : Shared) (e : Value) (s' : Shared), CX w [] H s (fun _ _ _ => False) e s' → False) :
    PySem.W.WalkO q loose XP YP l.row.toRowW d [] (fun f vs => PySem.call f vs) := by
  refine Att.attach_callB hn hdf fun w s₀ s₁ mg mb fa o pm cd doc a vs ns G Y ho hd hcd hmg hobj hints hlen hbits hg => ?_
  have KX := hY w _ Y
  obtain ⟨fd, cs, sp, hT, nT, C, hb, hsp, hF⟩ := F w mg fa _ KX G.T.g hmg fun x hx c P e => by
    have h1 := List.all_eq_true.mp hrec x hx
    obtain ⟨dd, h2⟩ := Option.isSome_iff_exists.mp h1
    exact PySem.W.tab_of G.T KX h2 e
  exact law_callTs KX G.T.g G.T.b G.T.builtins G.T.nolimit hg hT nT C G.T.bmain hobj hints (Nat.le_trans hlen hn2) hr hF hb (fun H hH hS => hsp H a ns hlen hbits hH hS) fun H e s' => hCX w H s₁ e s'
end Tg
set_option Elab.async false
set_option linter.all false
set_option maxRecDepth 100000
set_option maxHeartbeats 4000000
/-! all(a sign's test by a module's text for the sign in a text); dicts, two words in a case, what is never reached -/
namespace Tg
open PySem PySem.Spec PyProof.Rows L2 Rn
/-- the element: a test of the sign c, which may read the module's names -/
def EltG (X : Cx) (scope : Scope) (x : Str) (elt : Expr) (pb : Nat → Bool) : Prop :=
  ∀ (cenv : Env) (A' : Around) (E' : Value → Shared → Prop) (c : Nat) (t : Tok) (s₂ : Shared) (m₂ : Str → Option Value), cenv.scope = scope → cenv.globals = mainGlobals → s₂.heap.Ns mainGlobals X.mg → s₂.heap.Ns cenv.locals m₂ → m₂ x = some (.str ⟨#[c]⟩ t) →
    wpAny (model X.prog X.w) A' (eval elt cenv) (fun y s₃ => y = .bool (pb c) ∧ Keeps s₂ s₃) E' s₂
/-- x in TEXT -/
theorem elt_inG {X : Cx} {scope : Scope} {x g z : Str} {u : Tok} {p1 p2 p3 : Pos} (hk : scope.kind = .function) (hl : scope.names.lookup x = some .local) (hg : (genEnv scope [] 0 .none 0 X.env).kindOf g = some .globalImplicit) (hm : X.mg g = some (.str z u))
    (hd : (x == ("__debug__" : Str)) = false := by decide) (hdg : (g == ("__debug__" : Str)) = false := by decide) :
    EltG X scope x (.Compare (.Name x p1) [.In] [.Name g p2] p3) (fun c => Txt.contains z ⟨#[c]⟩) := by
  intro cenv A' E' c t s₂ m₂ hs hgl hG hn hm2
  refine wpAny_Compare1 ?_ (by rfl)
  refine wpAny_Name (wpAny_loadName_local (by rw [hs]; exact hk) (show cenv.scope.names.lookup x = some .local by rw [hs]; exact hl) hn hm2 ?_) hd
  refine Calls.Name_function_global (by rw [hs]; exact hk) (show cenv.kindOf g = _ by show cenv.scope.names.lookup g = _; rw [hs]; exact hg) (Calls.loadGlobal_global (by rw [hgl]; exact hG) hm ?_) hdg
  exact PySem.SB.contains ⟨rfl, keeps_refl _⟩
section
variable {X : Cx} {pins : List (Addr × Obj)} {σ : L2.St} {H : Hp} {s : Shared}
theorem gen_strG {c P : Addr} {elt iter : Expr} {x : Str} {px gpos : Pos} {scope : Scope} {pb : Nat → Bool} {te : TE} {k : Nat} {Q' : Value → Shared → Prop} {R : Str → Hp → Prop}
    (hr : Room k X.A) (TB : GxR.TabB X.base X.mg c P) (hcode : X.env.code = .ref c) (S : GxR.GenS X.env scope x) (hi : PE X iter te) (hel : EltG X scope x elt pb)
    (hs : ∀ v, genFold iter X.env v = pure v) (I : Inv X pins σ H s) (h : te σ H fun v H1 => ∃ a : Str, v = .str a ∧ GxR.TabG H1 P ∧ R a H1)
    (hQ : ∀ a H1 g s5, R a H1 → GxR.Ready X pins σ H1 P a pb g s5 → Q' (.ref g) s5) :
    wpAny (model X.prog X.w) X.A (eval (.GeneratorExp elt [⟨.Name x px, iter, [], 0⟩] scope gpos) X.env) Q' X.xe s := by
  refine wpAny_GeneratorExp_walksQ hr.hd S.co (closure_ok S.free) S.cell S.dot S.loc S.kind (by have := hr.dp; omega) ?_ hs
  refine thn (hi.run pins s σ H _ I h) fun xv s1 ⟨v, H1, I1, r1, q1⟩ => ?_
  obtain ⟨a, rfl, ⟨ps, hP, ht⟩, q1⟩ := q1
  obtain ⟨t, rfl⟩ := _root_.id r1
  refine wpAny_pyIter_str fun o St W hst => ?_
  have hPs : s1.heap.get? P = some { cls := .none, data := .fields ps } := I1.hok P _ hP
  have hPlt : P < s1.heap.objs.size := Heap.lt_size hPs
  have hP2 : (s1.heap.push o).get? P = some { cls := .none, data := .fields ps } := Heap.get?_push_of_some _ hPs
  have cd : PySem.W.CodeHd (s1.heap.push o) c P := TB.code.keeps fun b u e => Heap.get?_push_of_some _ (I1.bk b u e)
  have lim2 : (s1.heap.push o).NoLimit := I1.nolimit.push o
  have cont : ∀ (code : Value) (h3 : Heap) (tk : Nat) (ps' : Array Value), Heap.ExtBut P (s1.heap.push o) h3 → (s1.heap.push o).objs.size ≤ h3.objs.size → h3.get? P = some { cls := .none, data := .fields ps' } → (∃ more, ps' = ps ++ more) → TriplesOk ps'.toList →
      wpAny (model X.prog X.w) X.A (builtinsFor X.env.globals X.env.builtins) (fun bi s₄ =>
        ∃ Ia fp wr n₀ Pf St₀ pz F, Value.ref s1.heap.objs.size = .ref Ia ∧ (∀ A' : Around, A'.handled = none → Walks X.prog X.w A' Ia fp wr n₀ Pf St₀) ∧ St₀ 0 s₄.heap ∧ (∀ b ∈ fp, b < s₄.heap.objs.size) ∧ s₄.heap.NoLimit ∧ cStatics ∉ wr ∧
          (∀ href : Heap, (∀ b o, s₄.heap.get? b = some o → href.get? b = some o) →
            QuietGen X.prog X.w (genEnv scope (cloFrom X.env.cells scope.names []) s₄.heap.objs.size code bi X.env) x [] elt (List.range s₄.heap.objs.size) wr Pf pz F href) ∧
          (∀ a h₅ tk gs, gs.bare = true → s₄.heap.objs.size < a → h₅.objs.size = a + 1 → (∀ b o, s₄.heap.get? b = some o → h₅.get? b = some o) →
            WalksS X.prog X.w X.A.in4 a (a :: s₄.heap.objs.size :: List.range s₄.heap.objs.size) (s₄.heap.objs.size :: wr) (GenOnlyQ s₄.gens.size) (passing pz n₀ 0).length
              (fun j y => ∃ i, (passing pz n₀ 0)[j]? = some i ∧ F i y) (GenAt X.prog X.w X.A.in4 a s₄.gens.size s₄.heap.objs.size (List.range s₄.heap.objs.size) wr pz n₀ F) →
            GenAt X.prog X.w X.A.in4 a s₄.gens.size s₄.heap.objs.size (List.range s₄.heap.objs.size) wr pz n₀ F 0 { s₄ with gens := s₄.gens.push gs, toks := tk, heap := h₅ } →
            Q' (.ref a) { s₄ with gens := s₄.gens.push gs, toks := tk, heap := h₅ })) X.xe { s1 with heap := h3, toks := tk } := by
    intro code h3 tk ps' hx hsz hP3 hmore ht3
    obtain ⟨bm, ob, e1, e2, e3, e4, e5, e6, e7, e8⟩ := TB.bm
    have hcP : cStatics ≠ P := fun e => by
      obtain ⟨_, hns, _⟩ := I1.nolimit
      obtain ⟨o', es, ep, ho, hd, _⟩ := hns
      rw [e, hPs] at ho
      cases ho
      cases hd
    have hcl : cStatics < s1.heap.objs.size := let ⟨_, hns, _⟩ := I1.nolimit; hns.lt
    have keep3 : ∀ b u, b ≠ P → s1.heap.get? b = some u → h3.get? b = some u := fun b u hb e => hx b u hb (Heap.get?_push_of_some _ e)
    have hG1 : s1.heap.Ns mainGlobals X.mg := I1.mod.glob.keeps I1.bk
    have hG3 : h3.Ns mainGlobals X.mg := (hG1.push o).extBut hx TB.gP
    refine wpAny_builtinsFor (m := X.mg) (by rw [I1.ok.glob]; exact hG3) e1 e2 (keep3 _ _ e4 (I1.bk _ _ e5)) e6 e7 e8 ?_
    refine ⟨s1.heap.objs.size, [s1.heap.objs.size], [s1.heap.objs.size], a.cps.size, SignAt a, St, (fun _ => true), (fun i y => ∃ cc, a.cps[i]? = some cc ∧ y = .bool (pb cc)), rfl, W, ?_, ?_, lim2.extBut hx hcP, ?_, ?_, ?_⟩
    · refine (W X.A hr.hd).frame _ _ _ hst fun b hb u e => hx b u (fun z => ?_) e
      rcases List.mem_cons.mp hb with z2 | z2
      · exact Nat.ne_of_lt hPlt (z.symm.trans z2)
      · cases z2
    · intro b hb
      rcases List.mem_cons.mp hb with z | z
      · rw [z]
        show s1.heap.objs.size < h3.objs.size
        have sz2 : (s1.heap.push o).objs.size = s1.heap.objs.size + 1 := Heap.size_push ..
        omega
      · cases z
    · intro z
      rcases List.mem_cons.mp z with z | z
      · exact Nat.ne_of_lt hcl z
      · cases z
    · intro href hhref
      refine ⟨fun A' E' i v s₂ m₂ hA hPv hn hm hk => ?_, fun A' E' i v s₂ m₂ hA hPv hp hn hm hk => ?_⟩
      · simp only [List.forIn_nil]
        exact wpAny_pure ⟨rfl, keeps_refl _⟩
      · obtain ⟨cc, u, hcc, rfl⟩ := hPv
        refine wpAny_mono (hel _ A' E' cc u s₂ m₂ rfl (show X.env.globals = mainGlobals from I1.ok.glob) (hG3.at' fun o e => hk mainGlobals (List.mem_range.mpr hG3.lt) (fun z => ?_) o (hhref _ _ e)) hn hm) (fun y s3 r => ⟨⟨cc, hcc, r.1⟩, r.2⟩) fun _ _ e => e
        rcases List.mem_cons.mp z with z | z
        · exact Nat.ne_of_lt hG1.lt z
        · cases z
    · intro g h5 tk5 gs hgb hag hsz5 hk5 W5 hat
      simp only [GxR.passing_true, List.length_range] at W5
      refine hQ a H1 g _ q1 ⟨_, _, _, _, _, W5.in4_1, hat, ?_, fun s' hm => ?_⟩
      · intro j y sj Qj Ej hy hQj
        obtain ⟨i, hij, cc, hcc, rfl⟩ := hy
        obtain ⟨hj, ej⟩ := List.getElem?_eq_some_iff.mp hij
        rw [List.getElem_range] at ej
        subst ej
        have e9 : a.cps.toList[j]? = some cc := by rw [Array.getElem?_toList]; exact hcc
        have hQ2 : Qj (GxR.trF pb a.cps.toList j) sj := hQj
        rw [GxR.trF_some e9] at hQ2
        exact wpAny_truthy_bool hQ2
      · obtain ⟨more, em⟩ := hmore
        have nwr : ∀ b u, s1.heap.get? b = some u → b ∉ h3.objs.size :: [s1.heap.objs.size] := fun b u e hb => by
          have hl := Heap.lt_size e
          have sz2 : (s1.heap.push o).objs.size = s1.heap.objs.size + 1 := Heap.size_push ..
          rcases List.mem_cons.mp hb with z | z
          · rw [z] at hl
            have h9 : (h3.objs.size : Nat) < s1.heap.objs.size := hl
            omega
          · rcases List.mem_cons.mp z with z | z
            · rw [z] at hl
              exact Nat.lt_irrefl _ hl
            · cases z
        have J := GxR.inv_tab (more := more) (h' := s'.heap) (g' := s'.gens) (d' := s'.drawn) (t' := s'.toks) I1 hP (fun b u hb e => hm.heap b u (nwr b u e) (hk5 b u (keep3 b u hb e)))
          (by rw [← em]; exact hm.heap P _ (nwr P _ hPs) (hk5 P _ hP3)) (AllBare.movedS (I1.bare.push hgb) hm)
        rw [GxR.sh_eta s1 s' hm.os] at J
        refine ⟨upd H1 P (.tbl (ps ++ more)), ⟨⟨ps ++ more, upd_same, by rw [← em]; exact ht3⟩, fun b hb => upd_ne hb⟩, J⟩
  refine ⟨lim2, ?_⟩
  cases hf : codeAmong gpos ps.toList with
  | none =>
    refine wpAny_genexprCodeX hcode (cd.code hP2 ht) (cd.tab hP2) hf fun c' h' tk hx hge hlt hco' _ htab' _ => ?_
    obtain ⟨o1, vs, f1, tf, fl, tg, inF, tx, tt, op, _, _, _, _, _, _, _, _, _, htr, _⟩ := hco'
    exact cont _ h' tk _ hx (Nat.le_trans hge (Nat.le_of_lt hlt)) htab'.2 ⟨_, rfl⟩ htr
  | some cv =>
    refine wpAny_genexprCode_hit hcode (cd.code hP2 ht) hf ?_
    exact cont cv (s1.heap.push o) s1.toks ps (Heap.ExtBut.refl _ _) (Nat.le_refl _) hP2 ⟨#[], by simp⟩ ht
def tAllG (P : Addr) (pb : Nat → Bool) (te : TE) : TE := fun σ H Q => te σ H fun v H1 => ∃ a : Str, v = .str a ∧ GxR.TabG H1 P ∧ ∀ H2, GxR.Tabbed P H1 H2 → Q (.bl (a.cps.toList.all pb)) H2
theorem w_allG {P : Addr} {pb : Nat → Bool} {te : TE} {Q : VK} (h : te σ H fun v H1 => ∃ a : Str, v = .str a ∧ GxR.TabG H1 P ∧ ∀ H2, GxR.Tabbed P H1 H2 → Q (.bl (a.cps.toList.all pb)) H2) : tAllG P pb te σ H Q := h
theorem pe_allG {c P : Addr} {elt iter : Expr} {x : Str} {px p pos gpos : Pos} {scope : Scope} {pb : Nat → Bool} {te : TE} {k : Nat}
    (hr : Room k X.A) (hg : Gl X "all") (hm : X.mg "all" = none) (TB : GxR.TabB X.base X.mg c P) (hcode : X.env.code = .ref c) (S : GxR.GenS X.env scope x) (hi : PE X iter te) (hel : EltG X scope x elt pb)
    (hs : ∀ v, genFold iter X.env v = pure v := by intro v; rfl)
    (he : starEach [.GeneratorExp elt [⟨.Name x px, iter, [], 0⟩] scope gpos] X.env = (false, eval (.GeneratorExp elt [⟨.Name x px, iter, [], 0⟩] scope gpos) X.env) :: starEach [] X.env := by rfl) :
    PE X (.Call (.Name "all" p) [.GeneratorExp elt [⟨.Name x px, iter, [], 0⟩] scope gpos] [] pos) (tAllG P pb te) := by
  refine ⟨fun pins s σ H Q I h => ?_⟩
  have hb : bootBuiltins "all" = some (.builtin "all") := by decide +kernel
  refine wpAny_Call_Name_kw (ld_blt I hg hm hb ?_)
  refine PyProof.Rows.callWith_builtin1 ?_ he (by rfl)
  rw [he]
  show wpAny _ _ (spliced ((false, eval (.GeneratorExp elt [⟨.Name x px, iter, [], 0⟩] scope gpos) X.env) :: backTo pos (starEach [] X.env))) _ _ s
  refine Calls.spliced_cons (gen_strG (R := fun a H1 => ∀ H2, GxR.Tabbed P H1 H2 → Q (.bl (a.cps.toList.all pb)) H2) hr TB hcode S hi hel hs I h fun a H1 g s5 hR hG => ?_)
  obtain ⟨fp, wr, G, F, St, W, hst, htr, hI⟩ := hG
  refine Calls.spliced_nil ?_
  refine call_all_walkS (W.self 0 _ _ _ hst ⟨g, fp, wr, G, _, F, St, _, rfl, W, hst, htr, fun s' hmv => ?_⟩)
  obtain ⟨H2, hT, J⟩ := hI s' hmv
  refine ⟨.bl _, H2, J, rfl, ?_⟩
  rw [GxR.all_signs a pb]
  exact hR H2 hT
end
end Tg

namespace Rn
open PySem PySem.Spec L2 RT
/-- what is never reached -/
def tNo : TE := fun _ _ _ => False
theorem pe_no {X : Cx} {e : Expr} : PE X e tNo := ⟨fun _ _ _ _ _ _ h => h.elim⟩
/-- case (k1, k2) over a tuple of two texts -/
def tCase2 (K : PySem.W.Frag) (k1 k2 : Str) (tb : TS) (tr : V → TS) : V → TS := fun x D σ H => ∃ (a : Addr) (z y : Str), x = .ref a ∧ SqT K H a [.str z, .str y] ∧ if z = k1 ∧ y = k2 then tb D σ H else tr x D σ H
theorem pm_case2 {X : Cx} (K : PySem.W.Frag) (eK : X.K = K) {k1 k2 : Str} {j1 j2 : Nat} {p1 p2 p3 p4 pos : Pos} {body : List Stmt} {rest : List MatchCase} {tb : TS} {tr : V → TS} (hc : X.calm = true)
    (hb : PSs X body tb) (hr : PMs X rest tr) (hstar : ([Pattern.MatchValue (.Constant (.str k1) j1 p1) p2, Pattern.MatchValue (.Constant (.str k2) j2 p3) p4]).findIdx? (·.isStar) = none := by rfl)
    (hwild : (([Pattern.MatchValue (.Constant (.str k1) j1 p1) p2, Pattern.MatchValue (.Constant (.str k2) j2 p3) p4]).all fun p => p.isWildcard || (p.isStar && p.names.isEmpty)) = false := by rfl) :
    PMs X (⟨.MatchSequence [.MatchValue (.Constant (.str k1) j1 p1) p2, .MatchValue (.Constant (.str k2) j2 p3) p4] pos, none, body⟩ :: rest) (tCase2 K k1 k2 tb tr) := by
  subst eK
  intro pins s σ H D x v first I rx h
  obtain ⟨a, z, y, ex, hS, h⟩ := h
  subst ex
  obtain rfl : v = .ref a := rx
  obtain ⟨us, rel, tu, _⟩ := I.tuple hS
  cases rel with
  | @cons _ u1 _ ws r1 rr =>
    cases rr with
    | @cons _ u2 _ ws2 r2 rr2 =>
      cases rr2
      obtain ⟨t1, rfl⟩ := r1
      obtain ⟨t2, rfl⟩ := r2
      have hfit : (((Value.str z t1 :: [Value.str y t2]).toArray.size : Nat) : Int) < 2 ^ 63 := by
        simp only [List.size_toArray, List.length_cons, List.length_nil]
        omega
      refine wpAny_matchCases_cons ?_
      refine PyProof.Rows.matchSeq_tuple_hit tu hfit (by rfl) ?_ hstar hwild
      have el : [Pattern.MatchValue (.Constant (.str k1) j1 p1) p2, Pattern.MatchValue (.Constant (.str k2) j2 p3) p4].length = ([Value.str z t1, Value.str y t2] : List Value).toArray.size := rfl
      rw [el]
      refine wpAny_unpackItems_tuple (I.ok.hd hc) (show Heap.IsTuple s.heap a _ from tu) fun g hx => ?_
      have I1 : Inv X pins σ H { s with heap := g, toks := s.toks + 1 + 1 } := I.kept (t' := s.toks + 1 + 1) fun b o q => hx b o (Nat.ne_of_lt (Heap.lt_size q)) q
      refine wpAny_matchEach_cons (wpAny_matchPattern_Value (Calls.Constant_str ?_))
      have I2 := I1.tok (s.toks + 1 + 1 + 1)
      refine thn (op_eq pins _ σ H (.str z) (.str k1) _ _ (fun v' H' => v' = .bl (decide (z = k1)) ∧ H' = H) I2 ⟨t1, rfl⟩ ⟨_, rfl⟩ ⟨rfl, ?_, rfl⟩) fun cv s2 w2 => ?_
      · congr 1
        exact decide_eq_decide.mpr ⟨fun q => V.str.inj q, fun q => by rw [q]⟩
      · obtain ⟨v2, H2, I3, rr2, e2, e3⟩ := w2
        subst e2 e3
        obtain rfl : cv = .bool (decide (z = k1)) := rr2
        refine wpAny_truthy_bool ?_
        by_cases hz : z = k1
        · rw [decide_eq_true hz]
          refine wpAny_matchEach_cons (wpAny_matchPattern_Value (Calls.Constant_str ?_))
          have I4 := I3.tok (s2.toks + 1)
          refine thn (op_eq pins _ σ H2 (.str y) (.str k2) _ _ (fun v' H' => v' = .bl (decide (y = k2)) ∧ H' = H2) I4 ⟨t2, rfl⟩ ⟨_, rfl⟩ ⟨rfl, ?_, rfl⟩) fun cv2 s3 w3 => ?_
          · congr 1
            exact decide_eq_decide.mpr ⟨fun q => V.str.inj q, fun q => by rw [q]⟩
          · obtain ⟨v3, H3, I5, rr3, e4, e5⟩ := w3
            subst e4 e5
            obtain rfl : cv2 = .bool (decide (y = k2)) := rr3
            refine wpAny_truthy_bool ?_
            by_cases hy : y = k2
            · rw [decide_eq_true hy]
              rw [if_pos ⟨hz, hy⟩] at h
              refine wpAny_matchEach_nil ?_
              exact wpAny_assignInOrder_none (hb.run pins s3 _ _ D I5 h)
            · rw [decide_eq_false hy]
              rw [if_neg fun q => hy q.2] at h
              exact hr pins _ σ _ D (.ref a) (.ref a) false I5 rfl h
        · rw [decide_eq_false hz]
          rw [if_neg fun q => hz q.1] at h
          exact hr pins _ σ _ D (.ref a) (.ref a) false I3 rfl h
section
variable {K : PySem.W.Frag} {σ : St} {H : Hp} {D : Ends} {tb : TS} {tr : V → TS}
theorem w_case2Y {a : Addr} {k1 k2 : Str} (hS : SqT K H a [.str k1, .str k2]) (h : tb D σ H) : tCase2 K k1 k2 tb tr (.ref a) D σ H := ⟨a, k1, k2, rfl, hS, by rw [if_pos ⟨rfl, rfl⟩]; exact h⟩
theorem w_case2N {a : Addr} {k1 k2 z y : Str} (hS : SqT K H a [.str z, .str y]) (hne : ¬ (z = k1 ∧ y = k2)) (h : tr (.ref a) D σ H) : tCase2 K k1 k2 tb tr (.ref a) D σ H := ⟨a, z, y, rfl, hS, by rw [if_neg hne]; exact h⟩
end
/-! ### dicts -/
section
variable {σ : St} {H : Hp} {Q : VK} {D : Ends} {td ty tv : TE}
def DGetQ (x y : V) (H : Hp) (Q : VK) : Prop := ∃ a v, x = .ref a ∧ DGet H a y (some v) ∧ Q v H
def DInQ (x y : V) (H : Hp) (Q : VK) : Prop := ∃ a o, x = .ref a ∧ DGet H a y o ∧ Q (.bl o.isSome) H
def DPutQ (x y v : V) (H : Hp) (R : Hp → Prop) : Prop := ∃ a H', x = .ref a ∧ DPut H a y v H' ∧ R H'
theorem w_dget (h : td σ H fun x H1 => ty σ H1 fun y H2 => DGetQ x y H2 Q) : tDGet td ty σ H Q := h
theorem w_dgetK {d : Addr} {kvs : List (Key × V)} (k : Key) {v : V} (hd : H d = some (.dK kvs)) (hv : valV kvs k = some v) (h : Q v H) : DGetQ (.ref d) (kV k) H Q := ⟨d, v, rfl, hv ▸ DGet.k hd, h⟩
theorem w_dgetS {d : Addr} {kvs : List (Key × V)} {k : Str} {v : V} (hd : H d = some (.dK kvs)) (hv : valV kvs (.inr k) = some v) (h : Q v H) : DGetQ (.ref d) (.str k) H Q := w_dgetK (.inr k) hd hv h
theorem w_din (h : ty σ H fun y H1 => td σ H1 fun x H2 => DInQ x y H2 Q) : tDIn ty td σ H Q := h
theorem w_dinS {d : Addr} {kvs : List (Key × V)} {k : Str} (hd : H d = some (.dK kvs)) (h : Q (.bl (valV kvs (.inr k)).isSome) H) : DInQ (.ref d) (.str k) H Q := ⟨d, _, rfl, DGet.k (k := .inr k) hd, h⟩
theorem w_dput (h : tv σ H fun v H1 => td σ H1 fun x H2 => ty σ H2 fun y H3 => DPutQ x y v H3 (D.nx σ)) : sDPut td ty tv D σ H := h
theorem w_dputS {d : Addr} {kvs kvs' : List (Key × V)} {k : Str} {v : V} {R : Hp → Prop} (hd : H d = some (.dK kvs)) (hl : kvs.length ≤ 1000) (e : putK kvs (.inr k) v = kvs') (h : ∀ H', H' = upd H d (.dK kvs') → H' d = some (.dK kvs') → R H') : DPutQ (.ref d) (.str k) v H R :=
  ⟨d, _, rfl, DPut.k (k := .inr k) hd (Nat.lt_of_le_of_lt hl (by decide)), by rw [e]; exact h _ rfl upd_same⟩
def rLenD : List V → Hp → VK → Prop := fun xs H Q => ∃ a kvs, xs = [V.ref a] ∧ H a = some (.dK kvs) ∧ Q (.int kvs.length) H
theorem k_lenD {X : Cx} : CallR X (.builtin "len") rLenD := call_lenD
def rDictD : List V → Hp → VK → Prop := fun xs H Q => ∃ (a : Addr) (kvs : List (Key × V)), xs = [.ref a] ∧ Rd H a (.dK kvs) ∧ ∀ p, H p = none → Q (.ref p) (upd H p (.dK kvs))
theorem k_dictD {X : Cx} : CallR X (.type "dict") rDictD := call_dictD
theorem w_dlen {d : Addr} {kvs : List (Key × V)} (hd : H d = some (.dK kvs)) (h : Q (.int kvs.length) H) : rLenD [.ref d] H Q := ⟨d, kvs, rfl, hd, h⟩
theorem w_dcopy {d : Addr} {kvs : List (Key × V)} (hd : H d = some (.dK kvs)) (h : ∀ p H', H p = none → Same H H' → H' p = some (.dK kvs) → Q (.ref p) H') : rDictD [.ref d] H Q :=
  ⟨d, kvs, rfl, .inl hd, fun p hp => h p _ hp (Same.new hp) upd_same⟩
def DNiQ (x y : V) (H : Hp) (Q : VK) : Prop := ∃ a o, x = .ref a ∧ DGet H a y o ∧ Q (.bl (!o.isSome)) H
theorem w_dni (h : ty σ H fun y H1 => td σ H1 fun x H2 => DNiQ x y H2 Q) : tDNotIn ty td σ H Q := h
theorem w_dniS {d : Addr} {kvs : List (Key × V)} {k : Str} (hd : H d = some (.dK kvs)) (h : Q (.bl (!(valV kvs (.inr k)).isSome)) H) : DNiQ (.ref d) (.str k) H Q := ⟨d, _, rfl, DGet.k (k := .inr k) hd, h⟩
theorem w_dnew (h : ∀ p H', H p = none → Same H H' → H' p = some (.dK []) → Q (.ref p) H') : tDNewK σ H Q := fun p hp => h p _ hp (Same.new hp) upd_same
end
end Rn
namespace L2
open PySem PySem.Spec PyProof.Rows
section
variable {X : Cx}
/-- y = {k: v for ..} -/
theorem ps_setDc {i : Nat} {y : Str} {py : Pos} {kx vx tg iter : Expr} {ifs : List Expr} {scope : Scope} {own : List (Str × Nat)} {pos spos : Pos} {wi : TI} {g : TG} {tt : TT} {tk tv : TE} (hc : X.calm = true) (hN : X.N.Nodup) (hy : X.N[i]? = some y) (hyl : X.env.scope.names.lookup y = some .local)
    (hsw : swapsWith (.DictComp kx vx [⟨tg, iter, ifs, 0⟩] scope pos) (some (.Name y py)) spos.line X.env = pure true) (hi : PI X tg iter wi) (ok : BlkOk X.N X.env.scope scope own)
    (hg : ∀ (s : Shared) (H : Hp) (C : Addr) (cl : List (Str × Addr)) (fp : List Addr), PG (X.blk s H scope (compEnvC scope cl C X.env) fp) tg g) (ht : ∀ (s : Shared) (H : Hp) (C : Addr) (cl : List (Str × Addr)) (fp : List Addr), PTs (X.blk s H scope (compEnvC scope cl C X.env) fp) ifs tt)
    (hk : ∀ (s : Shared) (H : Hp) (C : Addr) (cl : List (Str × Addr)) (fp : List Addr), PE (X.blk s H scope (compEnvC scope cl C X.env) fp) kx tk)
    (he : ∀ (s : Shared) (H : Hp) (C : Addr) (cl : List (Str × Addr)) (fp : List Addr), PE (X.blk s H scope (compEnvC scope cl C X.env) fp) vx tv) (hs : ∀ x, foldedSetIterable iter X.env x = pure x := by intro _; rfl) :
    PS X (.Assign [.Name y py] (.DictComp kx vx [⟨tg, iter, ifs, 0⟩] scope pos) spos) (tAsg (tDc wi g tt tk tv (own.map (·.2))) (gName i)) := by
  refine ⟨fun pins s σ H D I h => ?_⟩
  rw [exec_Assign_Name_used _ _ _ _ hsw]
  refine wpAny_bind (wpAny_standAt (wpAny_bind ?_))
  show wpAny _ X.A (do let _ ← comprehension (.DictComp kx vx [⟨tg, iter, ifs, 0⟩] scope pos) scope X.env (firstIterPos [⟨tg, iter, ifs, 0⟩] pos) newDict false (eval iter X.env) (some (assign (.Name y py) X.env))) _ _ s
  have h : tDc wi g tt tk tv (own.map (·.2)) σ H (fun x H1 => gName i x σ H1 D.nx) := h
  refine wpAny_bind (thn (dc_core (Qf := fun _ s' => SP X pins D .next s') hc hN I hi ok hg ht hk he hs h fun L C s' m H' I' q hn f => ?_) fun _ s' hq => wpAny_pure (wpAny_pure hq))
  show wpAny _ _ (assign (.Name y py) X.env (.ref L)) _ _ _
  refine wpAny_assign_Name (store_ok2 (v := V.ref L) I' hN hy (.inl hyl) rfl (fun s2 I2 ⟨a, sb, ha⟩ => ?_) (.inr hyl))
  obtain ⟨f0, f1, f2, f3, f4, f5⟩ := f
  have haC : C ≠ a := by
    rcases ha with z | z
    · rw [z]; exact f1
    · exact fun e => f4 y a z e.symm
  refine ⟨m, hn.sameBut sb haC, fun h3 sb3 => ?_⟩
  exact ⟨_, H', I2.turned (t' := s2.toks) (fun b o hb e => (sb3.2 b hb).trans e) f0 f1 f3 f4 f5, q⟩
theorem sw_trueD {kx vx : Expr} {gs : List Comprehension} {scope : Scope} {pos py : Pos} {y : Str} {l : Nat} {env : Env} (hk : env.scope.kind = .function) (hy : env.scope.names.lookup y = some .local) (hl : (py.line == pos.line) = true)
    (ha : (scope.names.any fun (n, k) => n == y && (k == .local || k == .cell)) = false) : swapsWith (.DictComp kx vx gs scope pos) (some (.Name y py)) l env = pure true := by
  have ky : env.kindOf y = some .local := hy
  have hb : env.blockKind = .function := by unfold Env.blockKind; rw [hk]; rfl
  unfold swapsWith
  simp only [hb, ky, ha, Expr.pos, hl]
  rfl
end
end L2
namespace Rn
open PySem PySem.Spec L2 RT
section
variable {K : PySem.W.Frag} {σ : St} {H : Hp} {Q : VK}
/-- a dict comprehension without tests over a tuple: Pv by the dict's place, the turn, the heap -/
def DcQ (g : TG) (tt : TT) (tk tv : TE) (vs : List Nat) (σ : St) (Q : VK) (J : It) (H1 : Hp) : Prop := ∀ D, H1 D = none → ∃ W : Nat → Nat → Hp → Prop, (∃ m, W 0 m (upd H1 D (.dK []))) ∧ ∀ i m H, W i m H →
  (J.stop i H ∧ Q (.ref D) H) ∨ (J.go i H ∧ ∃ Nx : Hp → Prop, (∀ H', Nx H' → ∃ m', m' < m ∧ W (i + 1) m' H') ∧ ∀ x H', J.yld i H x H' → g x (wipe σ vs) H' fun σ2 H2 => wipe σ2 vs = wipe σ vs ∧ tt σ2 H2 fun b H3 =>
    if b = true then tk σ2 H3 fun y H4 => tv σ2 H4 fun z H5 => ∃ kvs k, y = kV k ∧ H5 D = some (.dK kvs) ∧ kvs.length < sizeLine ∧ Nx (upd H5 D (.dK (putK kvs k z))) else Nx H3)
theorem w_dc {wi : TI} {g : TG} {tt : TT} {tk tv : TE} {vs : List Nat} (h : wi σ H fun J H1 => DcQ g tt tk tv vs σ Q J H1) : tDc wi g tt tk tv vs σ H Q := h
theorem dq_tup {a : Addr} {xs : List V} {g : TG} {tt : TT} {tk tv : TE} {vs : List Nat} {H1 : Hp} (Pv : Addr → Nat → Hp → Prop) (h0 : ∀ D H2, H1 D = none → Same H1 H2 → H2 D = some (.dK []) → Pv D 0 H2) (hl : ∀ D i H, i ≤ xs.length → Pv D i H → SqT K H a xs)
    (hs : ∀ D i x H, H1 D = none → xs[i]? = some x → Pv D i H → g x (wipe σ vs) H fun σ2 H2 => wipe σ2 vs = wipe σ vs ∧ tt σ2 H2 fun b H3 =>
      if b = true then tk σ2 H3 fun y H4 => tv σ2 H4 fun z H5 => ∃ kvs k, y = kV k ∧ H5 D = some (.dK kvs) ∧ kvs.length < sizeLine ∧ Pv D (i + 1) (upd H5 D (.dK (putK kvs k z))) else Pv D (i + 1) H3) (hd : ∀ D H, H1 D = none → Pv D xs.length H → Q (.ref D) H) : DcQ g tt tk tv vs σ Q (Itt K a) H1 :=
  fun D hD => dc_tup (Pv D) (h0 D _ hD (Same.new hD) upd_same) (fun i H hi p => hl D i H hi p) (fun i x H hx p => hs D i x H hD hx p) fun H p => hd D H hD p
theorem w_niST {p : Addr} {ns : List Str} {n : Str} (hl : SqT K H p (ns.map V.str)) (h : Q (.bl (!decide (n ∈ ns))) H) : rIn K true (.str n) (.ref p) H Q := by
  have e1 : ∀ xs : List Str, inV (.str n) (xs.map V.str) = decide (n ∈ xs) := fun xs => by
    induction xs with
    | nil => simp [inV]
    | cons y r ih =>
      unfold inV at ih ⊢
      rw [List.map_cons, List.any_cons, ih]
      by_cases e : y = n
      · subst e
        simp [eqV]
      · have e2 : n ≠ y := fun z => e z.symm
        simp [eqV, e, e2]
  have e2 : (ns.map V.str).all flatV = true := by
    rw [List.all_eq_true]
    intro x hx
    obtain ⟨n, _, rfl⟩ := List.mem_map.mp hx
    rfl
  exact ⟨p, _, rfl, .inr hl, rfl, e2, by rw [e1]; exact h⟩
end
end Rn
namespace L2
open PySem PySem.Spec PyProof.Rows
theorem pg_tupK {X : Cx} (K : PySem.W.Frag) (e : X.K = K) {es : List Expr} {k : Nat} {t : TGs} {n : Nat} {pos : Pos} (hc : X.calm = true) (h : PGs X es t)
    (hn : (assignEach es X.env).length = n := by rfl) (hst : (assignEach es X.env).findIdx? (·.1) = none := by rfl) : PG X (.Tuple es k pos) (gTup K n t) := e ▸ pg_tup hc h hn hst
end L2
namespace Rn
theorem w_iteNF2 {p : Prop} {ip : Decidable p} {A B : Prop} (hp : p) (h : B) : if (!decide p) = true then A else B := by
  rw [decide_eq_true hp]
  exact w_iteF h
end Rn
set_option Elab.async false
set_option linter.all false
set_option maxRecDepth 100000
set_option maxHeartbeats 4000000
/-! k03: deeds -/
namespace My
open PySem PySem.Spec L2 RT Rn
def spTop (K : PySem.W.Frag) : Sp := fun vs H Q _ => ∃ (m : Addr) (b s w c : Int), vs = [.ref m] ∧ MachAt K H m b s w c ∧ Mach b s w c ∧ Q (.int (min (w - s) (c - 1))) H
/-- nothing set, all at 0 -/
def zer (n : Int) : List Int := List.replicate n.toNat 0
theorem zer_map (n : Int) : (zer n).map V.int = List.replicate n.toNat (V.int 0) := by simp [zer]
def spBegin (K : PySem.W.Frag) : Sp := fun vs H Q _ => ∃ (m : Addr) (b s w c : Int), vs = [.ref m] ∧ MachAt K H m b s w c ∧ Mach b s w c ∧
  ∀ z a1 a2 a3 H', Same H H' → H' z = some (.tup [.ref a1, .int 0, .ref a2, .ref a3]) → SqT K H' a1 ((zer s).map V.int) → SqT K H' a2 ((zer w).map V.int) → SqT K H' a3 ((zer c).map V.int) → Q (.ref z) H'
def Bad (E : XK) (BD : Addr) (H : Hp) : Prop := ∀ H', Same H H' → E (.ref BD) none H'
def spShifted (K : PySem.W.Frag) (BD : Addr) : Sp := fun vs H Q E => ∃ (m t : Addr) (b s w c p y : Int) (S W C : List Int), vs = [.ref m, .ref t, .int y] ∧ MachAt K H m b s w c ∧ Mach b s w c ∧ StAt K H t S W C p ∧ Stand b s w c S W C p ∧ -1000 ≤ y ∧ y ≤ 1000 ∧
  (0 ≤ p + y ∧ p + y ≤ min (w - s) (c - 1) → ∀ z H', Same H H' → StAt K H' z S W C (p + y) → Q (.ref z) H') ∧ (¬ (0 ≤ p + y ∧ p + y ≤ min (w - s) (c - 1)) → Bad E BD H)
def spTurned3 (K : PySem.W.Frag) (BD : Addr) : Sp := fun vs H Q E => ∃ (m t : Addr) (b s w c p way tally : Int) (S W C : List Int), vs = [.ref m, .ref t, .int way, .int tally] ∧ MachAt K H m b s w c ∧ Mach b s w c ∧ StAt K H t S W C p ∧ Stand b s w c S W C p ∧ -1000 ≤ way ∧ way ≤ 1000 ∧ -1000 ≤ tally ∧ tally ≤ 1000 ∧
  ((way = 1 ∨ way = -1) ∧ -1 ≤ tally ∧ tally ≤ 1 → ∀ z H', Same H H' → Told2 K H' z S (wheelsOf b way p w S W) (countsOf b tally p c C) p (decide (¬ InR (b ^ w.toNat) (whole b way p S W))) → Q (.ref z) H') ∧
  (¬ ((way = 1 ∨ way = -1) ∧ -1 ≤ tally ∧ tally ≤ 1) → Bad E BD H)
/-- what a wipe leaves -/
def wipeTo (s w c : Int) (S W C : List Int) (x : Str) : Option (List Int × List Int × List Int) :=
  if x = "setting" then some (zer s, W, C) else if x = "wheels" then some (S, zer w, C) else if x = "counts" then some (S, W, zer c) else none
def spWiped (K : PySem.W.Frag) (BD : Addr) : Sp := fun vs H Q E => ∃ (m t : Addr) (b s w c p : Int) (x : Str) (S W C : List Int), vs = [.ref m, .ref t, .str x] ∧ MachAt K H m b s w c ∧ Mach b s w c ∧ StAt K H t S W C p ∧ Stand b s w c S W C p ∧ x.length ≤ 2000 ∧
  (∀ S' W' C', wipeTo s w c S W C x = some (S', W', C') → ∀ z H', Same H H' → StAt K H' z S' W' C' p → Q (.ref z) H') ∧ (wipeTo s w c S W C x = none → Bad E BD H)
def spSlide (K : PySem.W.Frag) (BD TP : Addr) : Sp := fun vs H Q E => ∃ (m t : Addr) (b s w c p i f : Int) (S W C : List Int), vs = [.ref m, .ref t, .int i, .int f] ∧ MachAt K H m b s w c ∧ Mach b s w c ∧ StAt K H t S W C p ∧ Stand b s w c S W C p ∧ -1000 ≤ i ∧ i ≤ 1000 ∧ -1000 ≤ f ∧ f ≤ 1000 ∧ GxR.TabG H TP ∧
  ((0 ≤ i ∧ i < s) ∧ 0 ≤ f ∧ f < b → ∀ z H', Tg.SmT TP H H' → StAt K H' z (S.set i.toNat f) W C p → Q (.ref z) H') ∧ (¬ ((0 ≤ i ∧ i < s) ∧ 0 ≤ f ∧ f < b) → Bad E BD H)
/-- deeds -/
inductive Dd
  | set (i f : Int)
  | shift (y : Int)
  | turn (x y : Int)
  | wipe (x : Str)
  | turns
  | load
def Dd.vs : Dd → List V
  | .set i f => [.str "set", .int i, .int f]
  | .shift y => [.str "shift", .int y]
  | .turn x y => [.str "turn", .int x, .int y]
  | .wipe x => [.str "wipe", .str x]
  | .turns => [.str "turns", .int 1, .int 0]
  | .load => [.str "load", .str "a"]
def Dd.ok : Dd → Prop
  | .set i f => -1000 ≤ i ∧ i ≤ 1000 ∧ -1000 ≤ f ∧ f ≤ 1000
  | .shift y => -1000 ≤ y ∧ y ≤ 1000
  | .turn x y => -1000 ≤ x ∧ x ≤ 1000 ∧ -1000 ≤ y ∧ y ≤ 1000
  | .wipe x => x.length ≤ 2000
  | _ => True
/-- what a deed leaves: setting, wheels, counts, place, bell; none: it can't be done -/
def effect (b s w c p : Int) (S W C : List Int) : Dd → Option (List Int × List Int × List Int × Int × Bool)
  | .set i f => if (0 ≤ i ∧ i < s) ∧ 0 ≤ f ∧ f < b then some (S.set i.toNat f, W, C, p, false) else none
  | .shift y => if 0 ≤ p + y ∧ p + y ≤ min (w - s) (c - 1) then some (S, W, C, p + y, false) else none
  | .turn x y => if (x = 1 ∨ x = -1) ∧ -1 ≤ y ∧ y ≤ 1 then some (S, wheelsOf b x p w S W, countsOf b y p c C, p, decide (¬ InR (b ^ w.toNat) (whole b x p S W))) else none
  | .wipe x => (wipeTo s w c S W C x).map fun r => (r.1, r.2.1, r.2.2, p, false)
  | _ => none
def spDone (K : PySem.W.Frag) (BD TP : Addr) : Sp := fun vs H Q E => ∃ (m t d : Addr) (b s w c p : Int) (S W C : List Int) (dd : Dd), vs = [.ref m, .ref t, .ref d] ∧ SqT K H d dd.vs ∧ dd.ok ∧ MachAt K H m b s w c ∧ Mach b s w c ∧ StAt K H t S W C p ∧ Stand b s w c S W C p ∧ GxR.TabG H TP ∧
  (∀ S' W' C' p' g, effect b s w c p S W C dd = some (S', W', C', p', g) → ∀ z H', Tg.SmT TP H H' → Told2 K H' z S' W' C' p' g → Q (.ref z) H') ∧ (effect b s w c p S W C dd = none → Bad E BD H)
/-- .. or None -/
def spTold3T (K : PySem.W.Frag) (TP : Addr) : Sp := fun vs H Q _ => ∃ (m t d : Addr) (b s w c p : Int) (S W C : List Int) (dd : Dd), vs = [.ref m, .ref t, .ref d] ∧ SqT K H d dd.vs ∧ dd.ok ∧ MachAt K H m b s w c ∧ Mach b s w c ∧ StAt K H t S W C p ∧ Stand b s w c S W C p ∧ GxR.TabG H TP ∧
  (∀ S' W' C' p' g, effect b s w c p S W C dd = some (S', W', C', p', g) → ∀ z H', Tg.SmT TP H H' → Told2 K H' z S' W' C' p' g → Q (.ref z) H') ∧ (effect b s w c p S W C dd = none → ∀ H', Same H H' → Q .non H')
def spTold3 (K : PySem.W.Frag) : Sp := fun vs H Q _ => ∃ (m t d : Addr) (b s w c p : Int) (S W C : List Int) (dd : Dd), vs = [.ref m, .ref t, .ref d] ∧ SqT K H d dd.vs ∧ dd.ok ∧ MachAt K H m b s w c ∧ Mach b s w c ∧ StAt K H t S W C p ∧ Stand b s w c S W C p ∧
  (∀ S' W' C' p' g, effect b s w c p S W C dd = some (S', W', C', p', g) → ∀ z H', Same H H' → Told2 K H' z S' W' C' p' g → Q (.ref z) H') ∧ (effect b s w c p S W C dd = none → ∀ H', Same H H' → Q .non H')
end My
namespace My
open PySem PySem.Spec L2 RT Rn
/-- a drawn deed, new at d -/
def spDeed (K : PySem.W.Frag) : Sp := fun vs H Q _ => ∃ (a cl m : Addr) (b s w c : Int), vs = [.ref a, .ref m] ∧ DrawAt H a cl ∧ MachAt K H m b s w c ∧ Mach b s w c ∧
  ∀ (d : Addr) (dd : Dd) (H' : Hp), dd.ok → SqT K H' d dd.vs → Drew a cl H H' → Q (.ref d) H'
end My
namespace Rn
open PySem PySem.Spec L2 RT
theorem w_catL {K : PySem.W.Frag} {H : Hp} {Q : VK} {a b : Addr} {xs ys : List V} (ha : H a = some (.lst xs)) (hb : H b = some (.lst ys)) (hz : xs.length + ys.length ≤ 100000) (h : ∀ p H', H p = none → Same H H' → H' p = some (.lst (xs ++ ys)) → Q (.ref p) H') : uAdd K (.ref a) (.ref b) H Q :=
  .inr (.inr (.inl ⟨a, b, xs, ys, rfl, rfl, ha, hb, Nat.le_trans hz (by decide), fun p hp => h p _ hp (Same.new hp) upd_same⟩))
end Rn
namespace My
open PySem PySem.Spec L2 RT Rn
theorem cut_set {S : List Int} {i f : Int} (h0 : 0 ≤ i) (h1 : i < S.length) : cutV (S.map V.int) none (some i) ++ [V.int f] ++ cutV (S.map V.int) (some (i + 1)) none = (S.set i.toNat f).map V.int := by
  have e1 : HT.sIx (S.map V.int).length (S.map V.int).length (some i) = i.toNat := by
    show (if i < 0 then _ else min i.toNat _) = _
    rw [if_neg (by omega), List.length_map]
    omega
  have e2 : HT.sIx (S.map V.int).length 0 (some (i + 1)) = i.toNat + 1 := by
    show (if i + 1 < 0 then _ else min (i + 1).toNat _) = _
    rw [if_neg (by omega), List.length_map]
    omega
  have e3 : HT.sIx (S.map V.int).length 0 none = 0 := rfl
  have e4 : HT.sIx (S.map V.int).length (S.map V.int).length none = (S.map V.int).length := rfl
  unfold cutV
  rw [e1, e2, e3, e4, List.drop_zero, Nat.sub_zero, List.set_eq_take_append_cons_drop, if_pos (by omega), List.map_append, List.map_cons, List.map_take, List.map_drop, List.append_assoc]
  congr 1
  show V.int f :: _ = _
  congr 1
  exact List.take_of_length_le (Nat.le_of_eq (by rw [List.length_drop]))
end My
namespace Rn
open PySem PySem.Spec L2 RT
theorem in_strs (x : Str) : ∀ xs : List Str, inV (.str x) (xs.map V.str) = decide (x ∈ xs)
  | [] => by simp [inV]
  | y :: r => by
    have ih := in_strs x r
    unfold inV at ih ⊢
    rw [List.map_cons, List.any_cons, ih]
    by_cases e : y = x
    · subst e
      simp [eqV]
    · have e2 : x ≠ y := fun z => e z.symm
      simp [eqV, e, e2]
theorem flat_strs (ns : List Str) : (ns.map V.str).all flatV = true := by
  rw [List.all_eq_true]
  intro x hx
  obtain ⟨n, _, rfl⟩ := List.mem_map.mp hx
  rfl
theorem w_inS {K : PySem.W.Frag} {H : Hp} {Q : VK} {p : Addr} {ns : List Str} {n : Str} (hl : SqL K H p (ns.map V.str)) (h : Q (.bl (decide (n ∈ ns))) H) : rIn K false (.str n) (.ref p) H Q := ⟨p, _, rfl, .inl hl, rfl, flat_strs ns, by rw [in_strs]; exact h⟩
end Rn
namespace Rn
open PySem PySem.Spec L2 RT
theorem w_indexS {K : PySem.W.Frag} {H : Hp} {Q : VK} {a : Addr} {ns : List Str} {x : Str} {k : Int} (j : Nat) (hl : SqL K H a (ns.map V.str)) (hj : ns[j]? = some x) (hno : ∀ m, m < j → ns[m]? ≠ some x) (hk : k = (j : Int)) (h : Q (.int k) H) : rIndex K (.ref a) [.str x] H Q :=
  ⟨a, _, .str x, j, .str x, rfl, rfl, hl, rfl, flat_strs ns, by rw [List.getElem?_map, hj]; rfl, by simp [eqV], fun m z hm hz => by
    rw [List.getElem?_map] at hz
    cases e : ns[m]? with
    | none => rw [e] at hz; cases hz
    | some y =>
      rw [e] at hz
      obtain rfl := Option.some.inj hz
      have : y ≠ x := fun q => hno m hm (by rw [e, q])
      simp [eqV, this], by rw [← hk]; exact h⟩
end Rn
namespace My
open PySem PySem.Spec L2 RT Rn
theorem tn_mut {H H' : Hp} {l : Addr} {xs ys : List V} (e : H' = upd H l (.lst ys)) (hl : H l = some (.lst xs)) : Tn H H' := by
  subst e
  intro b o hb
  have ne : b ≠ l := fun eb => by
    subst eb
    rcases hb with h | ⟨o', h⟩
    · rw [hl] at h; cases h
    · rw [hl] at h; cases h
  rcases hb with h | ⟨o', h⟩
  · exact .inl (by rw [upd_ne ne]; exact h)
  · exact .inr ⟨o', by rw [upd_ne ne]; exact h⟩
end My
namespace My
theorem effect_wipe {b s w c p : Int} {S W C A B D : List Int} {x : PySem.Str} (h : wipeTo s w c S W C x = some (A, B, D)) : effect b s w c p S W C (.wipe x) = some (A, B, D, p, false) := by
  have e : effect b s w c p S W C (.wipe x) = (wipeTo s w c S W C x).map fun r => (r.1, r.2.1, r.2.2, p, false) := rfl
  rw [e, h]
  rfl
end My
namespace My
open PySem PySem.Spec L2 RT Rn
theorem zer_figs {b : Int} (hb : 0 < b) (n : Int) : Figs b (zer n) := fun d hd => by
  rw [List.eq_of_mem_replicate hd]
  omega
theorem zer_len (n : Int) : (zer n).length = n.toNat := by simp [zer]
theorem Stand.zero {b s w c : Int} (hm : Mach b s w c) : Stand b s w c (zer s) (zer w) (zer c) 0 := by
  obtain ⟨b0, b1, s0, s1, w0, w1, c0, c1⟩ := hm
  exact ⟨zer_len _, zer_len _, zer_len _, zer_figs (by omega) _, zer_figs (by omega) _, zer_figs (by omega) _, by omega, by omega, by omega⟩
theorem Stand.deed {b s w c p p' : Int} {S W C S' W' C' : List Int} {g : Bool} {dd : Dd} (hm : Mach b s w c) (T : Stand b s w c S W C p) (e : effect b s w c p S W C dd = some (S', W', C', p', g)) : Stand b s w c S' W' C' p' := by
  have T0 := T
  obtain ⟨ls, lw, lc, fs, fw, fc, p0, p1, p2⟩ := T
  obtain ⟨b0, b1, s0, s1, w0, w1, c0, c1⟩ := id hm
  cases dd with
  | set i f =>
    by_cases h : (0 ≤ i ∧ i < s) ∧ 0 ≤ f ∧ f < b
    · have e2 : some (S.set i.toNat f, W, C, p, false) = some (S', W', C', p', g) := (if_pos h).symm.trans e
      cases e2
      exact ⟨by rw [List.length_set]; exact ls, lw, lc, fun d hd => by
        rcases List.mem_or_eq_of_mem_set hd with h1 | h1
        · exact fs d h1
        · rw [h1]; exact h.2, fw, fc, p0, p1, p2⟩
    · have e2 : none = some (S', W', C', p', g) := (if_neg h).symm.trans e
      cases e2
  | shift y =>
    by_cases h : 0 ≤ p + y ∧ p + y ≤ min (w - s) (c - 1)
    · have e2 : some (S, W, C, p + y, false) = some (S', W', C', p', g) := (if_pos h).symm.trans e
      cases e2
      exact ⟨ls, lw, lc, fs, fw, fc, h.1, by omega, by omega⟩
    · have e2 : none = some (S', W', C', p', g) := (if_neg h).symm.trans e
      cases e2
  | turn x y =>
    by_cases h : (x = 1 ∨ x = -1) ∧ -1 ≤ y ∧ y ≤ 1
    · have e2 : some (S, wheelsOf b x p w S W, countsOf b y p c C, p, decide (¬ InR (b ^ w.toNat) (whole b x p S W))) = some (S', W', C', p', g) := (if_pos h).symm.trans e
      cases e2
      exact T0.turned hm
    · have e2 : none = some (S', W', C', p', g) := (if_neg h).symm.trans e
      cases e2
  | wipe x =>
    have e2 : (wipeTo s w c S W C x).map (fun r => (r.1, r.2.1, r.2.2, p, false)) = some (S', W', C', p', g) := e
    unfold wipeTo at e2
    split at e2
    · cases e2
      exact ⟨zer_len _, lw, lc, zer_figs (by omega) _, fw, fc, p0, p1, p2⟩
    · split at e2
      · cases e2
        exact ⟨ls, zer_len _, lc, fs, zer_figs (by omega) _, fc, p0, p1, p2⟩
      · split at e2
        · cases e2
          exact ⟨ls, lw, zer_len _, fs, fw, zer_figs (by omega) _, p0, p1, p2⟩
        · cases e2
  | turns => cases e
  | load => cases e
end My
namespace Rn
open PySem PySem.Spec L2 RT
def rIs : R2 := fun x y H Q => y = .non ∧ Q (.bl (decide (x = .non))) H
def rNot : R2 := fun x y H Q => y = .non ∧ Q (.bl (!decide (x = .non))) H
theorem k_isN {X : Cx} : OpR X (compareOp .Is) rIs := op_isN
theorem k_notN {X : Cx} : OpR X (compareOp .IsNot) rNot := op_notN
section
variable {H : Hp} {Q : VK} {a : Addr}
theorem w_isR (h : Q (.bl false) H) : rIs (.ref a) .non H Q := ⟨rfl, by rw [show decide (V.ref a = V.non) = false from decide_eq_false (fun z => nomatch z)]; exact h⟩
theorem w_isN (h : Q (.bl true) H) : rIs .non .non H Q := ⟨rfl, by rw [show decide (V.non = V.non) = true from decide_eq_true rfl]; exact h⟩
theorem w_notR (h : Q (.bl true) H) : rNot (.ref a) .non H Q := ⟨rfl, by rw [show decide (V.ref a = V.non) = false from decide_eq_false (fun z => nomatch z)]; exact h⟩
theorem w_notN (h : Q (.bl false) H) : rNot .non .non H Q := ⟨rfl, by rw [show decide (V.non = V.non) = true from decide_eq_true rfl]; exact h⟩
end
end Rn
namespace My
open PySem PySem.Spec L2 RT Rn
def spLawT (K : PySem.W.Frag) (Ps : List Addr) : Sp := fun vs H Q _ => ∃ (a : Addr) (ns : List Int), vs = [.ref a] ∧ SqL K H a (ns.map V.int) ∧ ns.length ≤ 63 ∧ (∀ H', Q (.bl true) H') ∧ ∀ P ∈ Ps, GxR.TabG H P
theorem DrawAt.smt {TP : Addr} {H H' : Hp} {a c : Addr} (h : DrawAt H a c) (e : Tg.SmT TP H H') : DrawAt H' a c := by
  obtain ⟨s, i, cells, ha, hc, r⟩ := h
  exact ⟨s, i, cells, e.keep _ _ (.inr trivial) ha, e.keep _ _ (.inr trivial) hc, r⟩
theorem Told2.smt {TP : Addr} {K : PySem.W.Frag} {H H' : Hp} {z : Addr} {S W C : List Int} {p : Int} {g : Bool} (h : Told2 K H z S W C p g) (e : Tg.SmT TP H H') : Told2 K H' z S W C p g := by
  obtain ⟨t, h1, h2⟩ := h
  exact ⟨t, e.keep _ _ (.inr trivial) h1, h2.tn e.tn⟩
theorem Kp.tab {a c P : Addr} {A B : Hp} (D : Kp a c A B) (hA : DrawAt A a c) (t : GxR.TabG A P) : GxR.TabG B P := by
  obtain ⟨s, i, cells, ha, hc, _⟩ := hA
  obtain ⟨ps, hp, ht⟩ := t
  exact ⟨ps, D P _ hp (fun z => by rw [z, ha] at hp; cases hp) (fun z => by rw [z, hc] at hp; cases hp), ht⟩
theorem Drew.tab {a c P : Addr} {A B : Hp} (D : Drew a c A B) (hA : DrawAt A a c) (t : GxR.TabG A P) : GxR.TabG B P := Kp.tab D.kp hA t
theorem _root_.L2.Same.tabG {P : Addr} {A B : Hp} (e : Same A B) (t : GxR.TabG A P) : GxR.TabG B P := (Same.smt (P := P) e).tabG t
end My
set_option Elab.async false
set_option linter.all false
set_option maxRecDepth 100000
set_option maxHeartbeats 4000000
/-! handbooks as data -/
namespace My
open PySem PySem.Spec L2 RT Rn
structure Inp where
  nm : Str
  fg : Int
  ls : Int
inductive Dee
  | load (n : Str)
  | one
  | shift (y : Int)
  | turn (x y : Int)
  | wipe (c : Bool)
  | turns (n : Str) (k x y : Int)
  | bell (y : Int)
  | odds (y : Int)
def wipeW (c : Bool) : Str := if c then "counts" else "wheels"
def Dee.vs : Dee → List V
  | .load n => [.str "load", .str n]
  | .one => [.str "one"]
  | .shift y => [.str "shift", .int y]
  | .turn x y => [.str "turn", .int x, .int y]
  | .wipe c => [.str "wipe", .str (wipeW c)]
  | .turns n k x y => [.str "turns", .str n, .int k, .int x, .int y]
  | .bell y => [.str "bell", .int y]
  | .odds y => [.str "odds", .int y]
inductive Sid
  | num (n : Int)
  | wheels
  | counts
  | inp (n : Str)
  | add (p q : Sid)
  | times (p q : Sid)
structure Cla where
  less : Bool
  p : Sid
  q : Sid
structure Bok where
  ins : List Inp
  dds : List Dee
  cls : List Cla
/-! ### what the program holds for good -/
def small : Str := "abcdefghijklmnopqrstuvwxyz"
def nameOk (n : Str) : Bool := decide (1 ≤ n.length) && decide (n.length ≤ 8) && !decide (n ∈ (["wheels", "counts"] : List Str)) && n.cps.toList.all fun c => Txt.contains small ⟨#[c]⟩
def inputOk (s : Int) (ns : List Str) (i : Inp) : Bool := !decide (i.nm ∈ ns) && nameOk i.nm && decide (1 ≤ i.fg) && decide (i.fg ≤ s) && decide (i.ls = 0 ∨ i.ls = 1)
def names (ins : List Inp) : List Str := ins.map (·.nm)
def insOk (s : Int) (ins : List Inp) : Prop := ins.length ≤ 4 ∧ ∀ (k : Nat) (i : Inp), ins[k]? = some i → inputOk s ((names ins).take k) i = true
/-- the figures of the input of that name -/
def figsOf (ins : List Inp) (n : Str) : Option Int := (ins.find? fun i => decide (i.nm = n)).map (·.fg)
def wayOk (x : Int) : Bool := decide (x = 1 ∨ x = -1)
def tallyOk (y : Int) : Bool := decide (-1 ≤ y ∧ y ≤ 1)
def deeOk (ins : List Inp) : Dee → Bool
  | .load n => (figsOf ins n).isSome
  | .one => true
  | .shift _ => true
  | .turn x y => wayOk x && tallyOk y
  | .wipe _ => true
  | .turns n k x y => match figsOf ins n with
    | some f => decide (0 ≤ k) && decide (k < f) && wayOk x && tallyOk y
    | none => false
  | .bell y => tallyOk y
  | .odds y => tallyOk y
def sidOk (ins : List Inp) : Sid → Nat → Bool
  | _, 0 => false
  | .num n, _ + 1 => decide (0 ≤ n) && decide (n ≤ 1000000000)
  | .wheels, _ + 1 => true
  | .counts, _ + 1 => true
  | .inp n, _ + 1 => (figsOf ins n).isSome
  | .add p q, k + 1 => sidOk ins p k && sidOk ins q k
  | .times p q, k + 1 => sidOk ins p k && sidOk ins q k
def claOk (ins : List Inp) (c : Cla) : Bool := sidOk ins c.p 4 && sidOk ins c.q 4
structure BokOk (s : Int) (B : Bok) : Prop where
  ins : insOk s B.ins
  dl : B.dds.length ≤ 40
  dds : ∀ d ∈ B.dds, deeOk B.ins d = true
  cl : B.cls.length ≤ 8
  cls : ∀ c ∈ B.cls, claOk B.ins c = true
/-! ### in the heap -/
section
variable (K : PySem.W.Frag)
def InpAt (H : Hp) (a : Addr) (i : Inp) : Prop := SqT K H a [.str i.nm, .int i.fg, .int i.ls]
def DeeAt (H : Hp) (a : Addr) (d : Dee) : Prop := SqT K H a d.vs
inductive SidAt (H : Hp) : Addr → Sid → Prop
  | num {a : Addr} {n : Int} (h : SqT K H a [.str "num", .int n]) : SidAt H a (.num n)
  | wheels {a : Addr} (h : SqT K H a [.str "wheels"]) : SidAt H a .wheels
  | counts {a : Addr} (h : SqT K H a [.str "counts"]) : SidAt H a .counts
  | inp {a : Addr} {n : Str} (h : SqT K H a [.str "input", .str n]) : SidAt H a (.inp n)
  | add {a x y : Addr} {p q : Sid} (h : SqT K H a [.str "add", .ref x, .ref y]) (hx : SidAt H x p) (hy : SidAt H y q) : SidAt H a (.add p q)
  | times {a x y : Addr} {p q : Sid} (h : SqT K H a [.str "times", .ref x, .ref y]) (hx : SidAt H x p) (hy : SidAt H y q) : SidAt H a (.times p q)
def claW (less : Bool) : Str := if less then "less" else "same"
def ClaAt (H : Hp) (a : Addr) (c : Cla) : Prop := ∃ x y, SqT K H a [.str (claW c.less), .ref x, .ref y] ∧ SidAt K H x c.p ∧ SidAt K H y c.q
def BokAt (H : Hp) (b : Addr) (B : Bok) : Prop := ∃ (x y z : Addr) (xs ys zs : List Addr), SqT K H b [.ref x, .ref y, .ref z] ∧ SqT K H x (xs.map V.ref) ∧ Paired (InpAt K H) xs B.ins ∧
  SqT K H y (ys.map V.ref) ∧ Paired (DeeAt K H) ys B.dds ∧ SqT K H z (zs.map V.ref) ∧ Paired (ClaAt K H) zs B.cls
variable {K} {H H' : Hp}
theorem InpAt.tn {a : Addr} {i : Inp} (h : InpAt K H a i) (e : Tn H H') : InpAt K H' a i := SqT.tn e h
theorem DeeAt.tn {a : Addr} {d : Dee} (h : DeeAt K H a d) (e : Tn H H') : DeeAt K H' a d := SqT.tn e h
theorem SidAt.tn {a : Addr} {p : Sid} (h : SidAt K H a p) (e : Tn H H') : SidAt K H' a p := by
  induction h with
  | num h => exact .num (SqT.tn e h)
  | wheels h => exact .wheels (SqT.tn e h)
  | counts h => exact .counts (SqT.tn e h)
  | inp h => exact .inp (SqT.tn e h)
  | add h _ _ i j => exact .add (SqT.tn e h) i j
  | times h _ _ i j => exact .times (SqT.tn e h) i j
theorem ClaAt.tn {a : Addr} {c : Cla} (h : ClaAt K H a c) (e : Tn H H') : ClaAt K H' a c := by
  obtain ⟨x, y, h1, h2, h3⟩ := h
  exact ⟨x, y, SqT.tn e h1, h2.tn e, h3.tn e⟩
theorem paired_imp {α β : Type} {R S : α → β → Prop} (k : ∀ a b, R a b → S a b) : ∀ {xs : List α} {ys : List β}, Paired R xs ys → Paired S xs ys
  | _, _, .nil => .nil
  | _, _, .cons h t => .cons (k _ _ h) (paired_imp k t)
theorem paired_get {α β : Type} {R : α → β → Prop} {xs : List α} {ys : List β} (r : Paired R xs ys) : ∀ {k : Nat} {y : β}, ys[k]? = some y → ∃ x, xs[k]? = some x ∧ R x y := by
  induction r with
  | nil => intro k y e; cases e
  | cons h t ih =>
    intro k y e
    cases k with
    | zero => cases e; exact ⟨_, rfl, h⟩
    | succ k => exact ih e
theorem paired_getL {α β : Type} {R : α → β → Prop} {xs : List α} {ys : List β} (r : Paired R xs ys) : ∀ {k : Nat} {x : α}, xs[k]? = some x → ∃ y, ys[k]? = some y ∧ R x y := by
  induction r with
  | nil => intro k y e; cases e
  | cons h t ih =>
    intro k y e
    cases k with
    | zero => cases e; exact ⟨_, rfl, h⟩
    | succ k => exact ih e
theorem paired_len {α β : Type} {R : α → β → Prop} : ∀ {xs : List α} {ys : List β}, Paired R xs ys → xs.length = ys.length
  | _, _, .nil => rfl
  | _, _, .cons h t => by simp [paired_len t]
theorem BokAt.tn {b : Addr} {B : Bok} (h : BokAt K H b B) (e : Tn H H') : BokAt K H' b B := by
  obtain ⟨x, y, z, xs, ys, zs, h0, h1, h2, h3, h4, h5, h6⟩ := h
  exact ⟨x, y, z, xs, ys, zs, SqT.tn e h0, SqT.tn e h1, paired_imp (fun _ _ h => h.tn e) h2, SqT.tn e h3, paired_imp (fun _ _ h => h.tn e) h4, SqT.tn e h5, paired_imp (fun _ _ h => h.tn e) h6⟩
end
/-- figures as a dict -/
def figsD (ins : List Inp) : List (Key × V) := ins.map fun i => (.inr i.nm, .int i.fg)
theorem figsD_val (ins : List Inp) (n : Str) : valV (figsD ins) (.inr n) = (figsOf ins n).map V.int := by
  induction ins with
  | nil => rfl
  | cons i r ih =>
    by_cases e : i.nm = n
    · have e2 : ((Sum.inr i.nm : Key)) = .inr n := by rw [e]
      show valV ((.inr i.nm, V.int i.fg) :: figsD r) _ = _
      rw [valV_pos (p := ((Sum.inr i.nm : Key), V.int i.fg)) e2]
      unfold figsOf
      rw [List.find?_cons_of_pos (by simpa using e)]
      rfl
    · have e2 : ¬ ((Sum.inr i.nm : Key)) = .inr n := fun z => e (Sum.inr.inj z)
      show valV ((.inr i.nm, V.int i.fg) :: figsD r) _ = _
      rw [valV_neg (p := ((Sum.inr i.nm : Key), V.int i.fg)) e2, ih]
      unfold figsOf
      rw [List.find?_cons_of_neg (by simpa using e)]
/-! ### promises -/
def spIsName (TP : Addr) : Sp := fun vs H Q _ => ∃ n : Str, vs = [.str n] ∧ n.length ≤ 1000 ∧ GxR.TabG H TP ∧ ∀ H', Tg.SmT TP H H' → Q (.bl (nameOk n)) H'
def spIsInput (K : PySem.W.Frag) (TP : Addr) : Sp := fun vs H Q _ => ∃ (m r l : Addr) (b s w c : Int) (i : Inp) (ns : List Str), vs = [.ref m, .ref r, .ref l] ∧ MachAt K H m b s w c ∧ InpAt K H r i ∧ SqL K H l (ns.map V.str) ∧ i.nm.length ≤ 1000 ∧ GxR.TabG H TP ∧ ∀ H', Tg.SmT TP H H' → Q (.bl (inputOk s ns i)) H'
def spNeedInputs (K : PySem.W.Frag) (TP : Addr) : Sp := fun vs H Q _ => ∃ (m x : Addr) (b s w c : Int) (xs : List Addr) (ins : List Inp), vs = [.ref m, .ref x] ∧ MachAt K H m b s w c ∧ SqT K H x (xs.map V.ref) ∧ Paired (InpAt K H) xs ins ∧ insOk s ins ∧ GxR.TabG H TP ∧ ∀ H', Tg.SmT TP H H' → Q .non H'
def spIsDeed (K : PySem.W.Frag) : Sp := fun vs H Q _ => ∃ (f a : Addr) (ins : List Inp) (d : Dee), vs = [.ref f, .ref a] ∧ H f = some (.dK (figsD ins)) ∧ DeeAt K H a d ∧ Q (.bl (deeOk ins d)) H
def spNeedDeeds (K : PySem.W.Frag) : Sp := fun vs H Q _ => ∃ (f x : Addr) (ins : List Inp) (xs : List Addr) (ds : List Dee), vs = [.ref f, .ref x] ∧ H f = some (.dK (figsD ins)) ∧ SqT K H x (xs.map V.ref) ∧ Paired (DeeAt K H) xs ds ∧ ds.length ≤ 40 ∧ (∀ d ∈ ds, deeOk ins d = true) ∧ ∀ H', Same H H' → Q .non H'
def spIsSide (K : PySem.W.Frag) (n : Nat) : Sp := fun vs H Q _ => ∃ (f a : Addr) (ins : List Inp) (p : Sid) (k : Nat), vs = [.ref f, .ref a, .int k] ∧ k ≤ n ∧ H f = some (.dK (figsD ins)) ∧ SidAt K H a p ∧ Q (.bl (sidOk ins p k)) H
def spIsClaim (K : PySem.W.Frag) : Sp := fun vs H Q _ => ∃ (f a : Addr) (ins : List Inp) (c : Cla), vs = [.ref f, .ref a] ∧ H f = some (.dK (figsD ins)) ∧ ClaAt K H a c ∧ Q (.bl (claOk ins c)) H
def spNeedClaims (K : PySem.W.Frag) : Sp := fun vs H Q _ => ∃ (f x : Addr) (ins : List Inp) (xs : List Addr) (cs : List Cla), vs = [.ref f, .ref x] ∧ H f = some (.dK (figsD ins)) ∧ SqT K H x (xs.map V.ref) ∧ Paired (ClaAt K H) xs cs ∧ cs.length ≤ 8 ∧ (∀ c ∈ cs, claOk ins c = true) ∧ ∀ H', Same H H' → Q .non H'
def spNeedBook (K : PySem.W.Frag) (TP : Addr) : Sp := fun vs H Q _ => ∃ (m bk : Addr) (b s w c : Int) (B : Bok), vs = [.ref m, .ref bk] ∧ MachAt K H m b s w c ∧ Mach b s w c ∧ BokAt K H bk B ∧ BokOk s B ∧ GxR.TabG H TP ∧ ∀ H', Tg.SmT TP H H' → Q .non H'
end My
namespace Rn
open PySem PySem.Spec L2 RT
theorem w_inST {K : PySem.W.Frag} {H : Hp} {Q : VK} {p : Addr} {ns : List Str} {n : Str} (hl : SqT K H p (ns.map V.str)) (h : Q (.bl (decide (n ∈ ns))) H) : rIn K false (.str n) (.ref p) H Q := ⟨p, _, rfl, .inr hl, rfl, flat_strs ns, by rw [in_strs]; exact h⟩
theorem w_lenS {K : PySem.W.Frag} {H : Hp} {Q : VK} {z : Str} (hz : z.length ≤ 100000) (h : Q (.int z.length) H) : uLen K [.str z] H Q := .inr ⟨z, rfl, Nat.le_trans hz (by decide), h⟩
end Rn
namespace Tg
open PySem PySem.Spec L2 RT Rn
theorem SmT.mut {P : Addr} {H H' : Hp} {p : Addr} {o : HO} (e : SmT P H H') (h : H p = none) : SmT P H (upd H' p o) := ⟨fun b x n hb => by
  rw [upd_ne (ne_of_none hb h)]
  exact e.keep b x n hb, fun ps hb => by
  rw [upd_ne (ne_of_none hb h)]
  exact e.tab ps hb⟩
theorem SmT.seqT {P : Addr} {K : PySem.W.Frag} {H H' : Hp} {a : Addr} {xs : List V} (e : SmT P H H') (h : SqT K H a xs) : SqT K H' a xs := SqT.tn e.tn h
end Tg
namespace My
open PySem PySem.Spec L2 RT Rn
theorem map_ref {xs : List Addr} {i : Nat} {v : V} (h : (xs.map V.ref)[i]? = some v) : ∃ r, xs[i]? = some r ∧ v = .ref r := by
  rw [List.getElem?_map] at h
  cases e : xs[i]? with
  | none => rw [e] at h; cases h
  | some r => rw [e] at h; cases h; exact ⟨r, rfl, rfl⟩
theorem nameOk_len {n : Str} (h : nameOk n = true) : n.length ≤ 8 := by
  unfold nameOk at h
  simp only [Bool.and_eq_true, decide_eq_true_eq] at h
  exact h.1.1.2
theorem inputOk_name {s : Int} {ns : List Str} {i : Inp} (h : inputOk s ns i = true) : nameOk i.nm = true := by
  unfold inputOk at h
  simp only [Bool.and_eq_true, decide_eq_true_eq] at h
  exact h.1.1.1.2
theorem take_names {ins : List Inp} {k : Nat} {i : Inp} (h : ins[k]? = some i) : (names ins).take (k + 1) = (names ins).take k ++ [i.nm] := by
  unfold names
  rw [List.take_add_one, List.getElem?_map, h]
  rfl
end My
namespace My
theorem way_in (x : Int) : wayOk x = decide (x ∈ ([1, -1] : List Int)) := by
  unfold wayOk
  exact decide_eq_decide.mpr (by simp)
theorem tally_in (y : Int) : tallyOk y = decide (y ∈ ([-1, 0, 1] : List Int)) := by
  unfold tallyOk
  exact decide_eq_decide.mpr (by simp; omega)
end My
namespace My
open PySem PySem.Spec L2 RT Rn
theorem figsOf_none {ins : List Inp} {n : Str} (h : n ∉ names ins) : figsOf ins n = none := by
  unfold figsOf
  rw [List.find?_eq_none.mpr fun i hi => ?_]
  · rfl
  · simp only [decide_eq_true_eq]
    exact fun e => h (by rw [← e]; exact List.mem_map_of_mem hi)
theorem inputOk_new {s : Int} {ns : List Str} {i : Inp} (h : inputOk s ns i = true) : i.nm ∉ ns := by
  unfold inputOk at h
  simp only [Bool.and_eq_true, Bool.not_eq_true', decide_eq_false_iff_not, decide_eq_true_eq] at h
  exact h.1.1.1.1
theorem figsD_snoc {s : Int} {ins : List Inp} {k : Nat} {i : Inp} (h : ins[k]? = some i) (g : inputOk s ((names ins).take k) i = true) : putK (figsD (ins.take k)) (.inr i.nm) (.int i.fg) = figsD (ins.take (k + 1)) := by
  have e : valV (figsD (ins.take k)) (.inr i.nm) = none := by
    rw [figsD_val, figsOf_none]
    · rfl
    · have := inputOk_new g
      unfold names at this ⊢
      rw [← List.map_take] at this
      exact this
  rw [putK_new _ e]
  unfold figsD
  rw [List.take_add_one, h]
  simp
end My
namespace My
theorem figsD_len (ins : List Inp) : (figsD ins).length = ins.length := by simp [figsD]
end My
set_option Elab.async false
set_option linter.all false
set_option maxRecDepth 100000
set_option maxHeartbeats 4000000
/-! handbooks worked, with numbers -/
namespace My
open PySem PySem.Spec L2 RT Rn
theorem pow_le12 {b : Int} (h0 : 0 < b) (h1 : b ≤ 12) : ∀ {n N : Nat}, n ≤ N → b ^ n ≤ 12 ^ N
  | 0, N, _ => by
    rw [Int.pow_zero]
    have := Int.pow_pos (n := 12) (m := N) (by omega)
    omega
  | n + 1, 0, h => by omega
  | n + 1, N + 1, h => by
    rw [Int.pow_succ, Int.pow_succ]
    have i := pow_le12 h0 h1 (show n ≤ N by omega)
    exact Int.mul_le_mul i h1 (by omega) (Int.le_of_lt (Int.pow_pos (by omega)))
/-! ### roots -/
/-- the greatest number whose square is no more -/
def sqN : Nat → Nat
  | 0 => 0
  | n + 1 => if (sqN n + 1) * (sqN n + 1) ≤ n + 1 then sqN n + 1 else sqN n
theorem sqN_ok : ∀ n, sqN n * sqN n ≤ n ∧ n < (sqN n + 1) * (sqN n + 1)
  | 0 => by decide
  | n + 1 => by
    obtain ⟨h1, h2⟩ := sqN_ok n
    unfold sqN
    by_cases c : (sqN n + 1) * (sqN n + 1) ≤ n + 1
    · rw [if_pos c]
      refine ⟨c, ?_⟩
      have : (sqN n + 1 + 1) * (sqN n + 1 + 1) = (sqN n + 1) * (sqN n + 1) + 2 * sqN n + 3 := by
        simp only [Nat.add_mul, Nat.mul_add]
        omega
      omega
    · rw [if_neg c]
      exact ⟨by omega, by omega⟩
def sqI (n : Int) : Int := (sqN n.toNat : Nat)
theorem sqI_ok {n : Int} (h : 0 ≤ n) : 0 ≤ sqI n ∧ sqI n * sqI n ≤ n ∧ n < (sqI n + 1) * (sqI n + 1) := by
  obtain ⟨h1, h2⟩ := sqN_ok n.toNat
  refine ⟨Int.natCast_nonneg _, ?_, ?_⟩
  · have : ((sqN n.toNat * sqN n.toNat : Nat) : Int) ≤ (n.toNat : Nat) := by exact_mod_cast h1
    rw [Int.natCast_mul] at this
    unfold sqI
    omega
  · have : ((n.toNat : Nat) : Int) < (((sqN n.toNat + 1) * (sqN n.toNat + 1) : Nat) : Int) := by exact_mod_cast h2
    rw [Int.natCast_mul, Int.natCast_add] at this
    unfold sqI
    have e : ((1 : Nat) : Int) = 1 := rfl
    rw [e] at this
    omega
theorem sq_lt {a b : Int} (h0 : 0 ≤ b) (h : a * a < b * b) : a < b := by
  refine Int.not_le.mp fun z => ?_
  have := Int.mul_le_mul z z h0 (Int.le_trans h0 z)
  omega
theorem sqI_uniq {n r : Int} (h0 : 0 ≤ n) (hr : 0 ≤ r) (h1 : r * r ≤ n) (h2 : n < (r + 1) * (r + 1)) : sqI n = r := by
  obtain ⟨k0, k1, k2⟩ := sqI_ok h0
  have a : r < sqI n + 1 := sq_lt (by omega) (by omega)
  have b : sqI n < r + 1 := sq_lt (by omega) (by omega)
  omega
/-- how many of f, f + 2, .. -/
def oddsN (N f : Int) : Int := (sqI (4 * N + (f - 1) * (f - 1)) - (f - 1)) / 2
theorem oddsN_ok {N f : Int} (hN : 0 ≤ N) (hf : 0 ≤ f) : 0 ≤ oddsN N f ∧ oddsN N f * (oddsN N f + f - 1) ≤ N ∧ N < (oddsN N f + 1) * (oddsN N f + f) := by
  generalize hs : f - 1 = s
  have ss : 0 ≤ s * s := by
    rcases Int.le_total 0 s with h | h
    · exact Int.mul_nonneg h h
    · have := Int.mul_nonneg (Int.neg_nonneg_of_nonpos h) (Int.neg_nonneg_of_nonpos h)
      rwa [Int.neg_mul_neg] at this
  obtain ⟨r0, r1, r2⟩ := sqI_ok (n := 4 * N + s * s) (by omega)
  unfold oddsN
  rw [hs]
  generalize sqI (4 * N + s * s) = R at r0 r1 r2
  have rs : s < R + 1 := sq_lt (by omega) (by omega)
  generalize hm : (R - s) / 2 = m
  have m1 : 2 * m ≤ R - s := by omega
  have m2 : R - s < 2 * m + 2 := by omega
  have m0 : 0 ≤ m := by omega
  have e1 : (2 * m + s) * (2 * m + s) = 4 * (m * (m + s)) + s * s := by
    simp only [Int.add_mul, Int.mul_add]
    have a : 2 * m * (2 * m) = 4 * (m * m) := by
      rw [Int.mul_assoc, Int.mul_left_comm m 2 m, ← Int.mul_assoc]
      rfl
    have b : 2 * m * s = 2 * (m * s) := Int.mul_assoc ..
    have c : s * (2 * m) = 2 * (m * s) := by rw [Int.mul_left_comm, Int.mul_comm s m]
    rw [a, b, c]
    omega
  have e2 : (2 * (m + 1) + s) * (2 * (m + 1) + s) = 4 * ((m + 1) * (m + 1 + s)) + s * s := by
    simp only [Int.add_mul, Int.mul_add]
    have a : 2 * m * (2 * m) = 4 * (m * m) := by
      rw [Int.mul_assoc, Int.mul_left_comm m 2 m, ← Int.mul_assoc]
      rfl
    have b : 2 * m * s = 2 * (m * s) := Int.mul_assoc ..
    have c : s * (2 * m) = 2 * (m * s) := by rw [Int.mul_left_comm, Int.mul_comm s m]
    rw [a, b, c]
    omega
  refine ⟨m0, ?_, ?_⟩
  · have : (2 * m + s) * (2 * m + s) ≤ R * R ∨ 2 * m + s < 0 := by
      rcases Int.lt_or_le (2 * m + s) 0 with h | h
      · exact .inr h
      · exact .inl (Int.mul_le_mul (by omega) (by omega) h (by omega))
    have e3 : m + f - 1 = m + s := by omega
    rw [e3]
    rcases this with h | h
    · omega
    · have mz : m = 0 := by omega
      subst mz
      omega
  · have : (R + 1) * (R + 1) ≤ (2 * (m + 1) + s) * (2 * (m + 1) + s) := Int.mul_le_mul (by omega) (by omega) (by omega) (by omega)
    have e3 : m + f = m + 1 + s := by omega
    rw [e3]
    omega
theorem oddsN_uniq {N f m : Int} (hN : 0 ≤ N) (hf : 0 ≤ f) (hm : 0 ≤ m) (h1 : m * (m + f - 1) ≤ N) (h2 : N < (m + 1) * (m + f)) : oddsN N f = m := by
  obtain ⟨k0, k1, k2⟩ := oddsN_ok hN hf
  generalize oddsN N f = q at k0 k1 k2
  have mono : ∀ x y : Int, 0 ≤ x → x + 1 ≤ y → (x + 1) * (x + f) ≤ y * (y + f - 1) := fun x y hx hxy => Int.mul_le_mul (by omega) (by omega) (by omega) (by omega)
  refine Int.le_antisymm (Int.not_lt.mp fun z => ?_) (Int.not_lt.mp fun z => ?_)
  · have := mono m q hm (by omega)
    omega
  · have := mono q m k0 (by omega)
    omega
/-! ### the four numbers -/
structure Num4 where
  S : Int
  P : Int
  W : Int
  C : Int
structure NumOk (b s w c : Int) (x : Num4) : Prop where
  s0 : 0 ≤ x.S
  s1 : x.S < b ^ s.toNat
  p0 : 0 ≤ x.P
  p1 : x.P ≤ w - s
  p2 : x.P ≤ c - 1
  w0 : 0 ≤ x.W
  w1 : x.W < b ^ w.toNat
  c0 : 0 ≤ x.C
  c1 : x.C < b ^ c.toNat
def NumAt (K : PySem.W.Frag) (H : Hp) (a : Addr) (x : Num4) : Prop := SqT K H a [.int x.S, .int x.P, .int x.W, .int x.C]
theorem NumAt.tn {K : PySem.W.Frag} {H H' : Hp} {a : Addr} {x : Num4} (h : NumAt K H a x) (e : Tn H H') : NumAt K H' a x := SqT.tn e h
/-- so many turns of one way -/
def turnedN (b w c : Int) (x : Num4) (many way tally : Int) : Num4 := ⟨x.S, x.P, (x.W + way * many * x.S * b ^ x.P.toNat) % b ^ w.toNat, (x.C + tally * many * b ^ x.P.toNat) % b ^ c.toNat⟩
def rungN (b w c : Int) (x : Num4) (tally : Int) : Option Num4 := if x.S = 0 then none else some (turnedN b w c x (x.W / (x.S * b ^ x.P.toNat)) (-1) tally)
def oddsM (b : Int) (x : Num4) : Int := oddsN (x.W / b ^ x.P.toNat) x.S
def oddsT (b s w c : Int) (x : Num4) (tally : Int) : Option Num4 :=
  let m := oddsM b x
  if x.S + 2 * m ≥ b ^ s.toNat then none else
  let y := turnedN b w c ⟨x.S + m - 1, x.P, x.W, x.C⟩ m (-1) tally
  some ⟨x.S + 2 * m, x.P, y.W, y.C⟩
/-- the inputs' values by their names -/
def valOf (ins : List Inp) (vals : List Int) (n : Str) : Int := ((ins.zip vals).find? fun p => decide (p.1.nm = n)).elim 0 (·.2)
def stepN (b s w c : Int) (val : Str → Int) (x : Num4) : Dee → Option Num4
  | .load n => some ⟨val n, x.P, x.W, x.C⟩
  | .one => some ⟨1, x.P, x.W, x.C⟩
  | .shift y => if 0 ≤ x.P + y ∧ x.P + y ≤ min (w - s) (c - 1) then some ⟨x.S, x.P + y, x.W, x.C⟩ else none
  | .turn way tally => some (turnedN b w c x 1 way tally)
  | .turns n k way tally => some (turnedN b w c x (shr b (val n) k.toNat % b) way tally)
  | .bell tally => rungN b w c x tally
  | .odds tally => oddsT b s w c x tally
  | .wipe false => some ⟨x.S, x.P, 0, x.C⟩
  | .wipe true => some ⟨x.S, x.P, x.W, 0⟩
/-- the deeds in order: the number of the one that can't be done, or the numbers at the end -/
def runN (b s w c : Int) (val : Str → Int) : List Dee → Nat → Num4 → Sum Nat Num4
  | [], _, x => .inr x
  | d :: r, k, x => match stepN b s w c val x d with
    | none => .inl k
    | some y => runN b s w c val r (k + 1) y
/-! ### promises -/
def spRoot : Sp := fun vs H Q _ => ∃ n : Int, vs = [.int n] ∧ 0 ≤ n ∧ n < 2 ^ 62 ∧ ∀ H', Same H H' → Q (.int (sqI n)) H'
def spOddsBefore : Sp := fun vs H Q _ => ∃ N f : Int, vs = [.int N, .int f] ∧ 0 ≤ N ∧ N < 2 ^ 58 ∧ 0 ≤ f ∧ f < 2 ^ 24 ∧ ∀ H', Same H H' → Q (.int (oddsN N f)) H'
def spTurnedW (K : PySem.W.Frag) : Sp := fun vs H Q _ => ∃ (m nu : Addr) (b s w c : Int) (x : Num4) (many way tally : Int), vs = [.ref m, .ref nu, .int many, .int way, .int tally] ∧ MachAt K H m b s w c ∧ Mach b s w c ∧ NumAt K H nu x ∧
  -(2 ^ 60) < x.S ∧ x.S < 2 ^ 60 ∧ 0 ≤ x.P ∧ x.P ≤ c - 1 ∧ -2 ≤ way ∧ way ≤ 2 ∧ -2 ≤ tally ∧ tally ≤ 2 ∧ ∀ z H', Same H H' → NumAt K H' z (turnedN b w c x many way tally) → Q (.ref z) H'
def spShiftedW (K : PySem.W.Frag) : Sp := fun vs H Q _ => ∃ (m nu : Addr) (b s w c y : Int) (x : Num4), vs = [.ref m, .ref nu, .int y] ∧ MachAt K H m b s w c ∧ Mach b s w c ∧ NumAt K H nu x ∧
  (0 ≤ x.P + y ∧ x.P + y ≤ min (w - s) (c - 1) → ∀ z H', Same H H' → NumAt K H' z ⟨x.S, x.P + y, x.W, x.C⟩ → Q (.ref z) H') ∧ (¬ (0 ≤ x.P + y ∧ x.P + y ≤ min (w - s) (c - 1)) → Q .non H)
/-- the numbers behind, or None -/
def OutN (K : PySem.W.Frag) (H : Hp) (Q : VK) (o : Option Num4) : Prop := (∀ y, o = some y → ∀ z H', Same H H' → NumAt K H' z y → Q (.ref z) H') ∧ (o = none → ∀ H', Same H H' → Q .non H')
def spRung (K : PySem.W.Frag) : Sp := fun vs H Q _ => ∃ (m nu : Addr) (b s w c tally : Int) (x : Num4), vs = [.ref m, .ref nu, .int tally] ∧ MachAt K H m b s w c ∧ Mach b s w c ∧ NumAt K H nu x ∧ NumOk b s w c x ∧ -2 ≤ tally ∧ tally ≤ 2 ∧ OutN K H Q (rungN b w c x tally)
def spOddsT (K : PySem.W.Frag) : Sp := fun vs H Q _ => ∃ (m nu : Addr) (b s w c tally : Int) (x : Num4), vs = [.ref m, .ref nu, .int tally] ∧ MachAt K H m b s w c ∧ Mach b s w c ∧ NumAt K H nu x ∧ NumOk b s w c x ∧ -2 ≤ tally ∧ tally ≤ 2 ∧ OutN K H Q (oddsT b s w c x tally)
/-- values as a dict -/
def valsD (ins : List Inp) (vals : List Int) : List (Key × V) := (ins.zip vals).map fun p => (.inr p.1.nm, .int p.2)
structure ValsOk (b : Int) (ins : List Inp) (vals : List Int) : Prop where
  len : vals.length = ins.length
  at_ : ∀ (k : Nat) (i : Inp) (v : Int), ins[k]? = some i → vals[k]? = some v → i.ls ≤ v ∧ v < b ^ i.fg.toNat
end My
namespace My
open PySem PySem.Spec L2 RT Rn
theorem divW66 {a b : Int} (h : 0 < b) (h2 : b < 2 ^ 66) : CDivW a b := wide_div (b := 66) h (by omega) (by decide) (by decide)
end My
namespace My
open PySem PySem.Spec L2 RT Rn
theorem valsD_val {ins : List Inp} {vals : List Int} {n : Str} (hl : vals.length = ins.length) (h : (figsOf ins n).isSome = true) : valV (valsD ins vals) (.inr n) = some (.int (valOf ins vals n)) := by
  induction ins generalizing vals with
  | nil => cases h
  | cons i r ih =>
    cases vals with
    | nil => cases hl
    | cons v vs =>
      by_cases e : i.nm = n
      · have e2 : ((Sum.inr i.nm : Key)) = .inr n := by rw [e]
        show valV (((Sum.inr i.nm : Key), V.int v) :: valsD r vs) _ = _
        rw [valV_pos (p := ((Sum.inr i.nm : Key), V.int v)) e2]
        unfold valOf
        rw [List.zip_cons_cons, List.find?_cons_of_pos (by simpa using e)]
        rfl
      · have e2 : ¬ ((Sum.inr i.nm : Key)) = .inr n := fun z => e (Sum.inr.inj z)
        show valV (((Sum.inr i.nm : Key), V.int v) :: valsD r vs) _ = _
        unfold figsOf at h
        rw [List.find?_cons_of_neg (by simpa using e)] at h
        rw [valV_neg (p := ((Sum.inr i.nm : Key), V.int v)) e2, ih (by simpa using hl) h]
        unfold valOf
        rw [List.zip_cons_cons, List.find?_cons_of_neg (by simpa using e)]
theorem valOf_at {ins : List Inp} {vals : List Int} {n : Str} (hl : vals.length = ins.length) (h : (figsOf ins n).isSome = true) : ∃ (k : Nat) (i : Inp), ins[k]? = some i ∧ vals[k]? = some (valOf ins vals n) ∧ i.nm = n ∧ figsOf ins n = some i.fg := by
  induction ins generalizing vals with
  | nil => cases h
  | cons i r ih =>
    cases vals with
    | nil => cases hl
    | cons v vs =>
      by_cases e : i.nm = n
      · refine ⟨0, i, rfl, ?_, e, ?_⟩
        · unfold valOf
          rw [List.zip_cons_cons, List.find?_cons_of_pos (by simpa using e)]
          rfl
        · unfold figsOf
          rw [List.find?_cons_of_pos (by simpa using e)]
          rfl
      · unfold figsOf at h
        rw [List.find?_cons_of_neg (by simpa using e)] at h
        obtain ⟨k, j, h1, h2, h3, h4⟩ := ih (vals := vs) (by simpa using hl) h
        refine ⟨k + 1, j, h1, ?_, h3, ?_⟩
        · unfold valOf
          rw [List.zip_cons_cons, List.find?_cons_of_neg (by simpa using e)]
          exact h2
        · unfold figsOf
          rw [List.find?_cons_of_neg (by simpa using e)]
          exact h4
theorem digs_at (b n : Int) (k : Nat) : atI ((digs b n (k + 1)).map V.int) (k : Int) = some (.int (shr b n k % b)) := by
  have e : (digs b n (k + 1))[k]? = some (shr b n k % b) := by
    rw [digs_end, List.getElem?_append_right (by rw [digs_len]; omega), digs_len, Nat.sub_self]
    rfl
  exact atI_of (by omega) (by rw [Int.toNat_natCast, List.getElem?_map, e]; rfl)
theorem figs_bound {s : Int} {ins : List Inp} {n : Str} {f : Int} (hi : insOk s ins) (h : figsOf ins n = some f) : 1 ≤ f ∧ f ≤ s := by
  unfold figsOf at h
  cases e : ins.find? fun i => decide (i.nm = n) with
  | none => rw [e] at h; cases h
  | some i =>
    rw [e] at h
    cases h
    have hm := List.mem_of_find?_eq_some e
    obtain ⟨k, hk⟩ := List.getElem?_of_mem hm
    have io := hi.2 k i hk
    unfold inputOk at io
    simp only [Bool.and_eq_true, decide_eq_true_eq] at io
    exact ⟨io.1.1.2, io.1.2⟩
theorem turns_ok {s : Int} {ins : List Inp} {n : Str} {k x y : Int} (hi : insOk s ins) (h : deeOk ins (.turns n k x y) = true) : (figsOf ins n).isSome = true ∧ 0 ≤ k ∧ k < s ∧ wayOk x = true ∧ tallyOk y = true := by
  unfold deeOk at h
  cases e : figsOf ins n with
  | none => simp only [e] at h; cases h
  | some f =>
    simp only [e, Bool.and_eq_true, decide_eq_true_eq] at h
    obtain ⟨⟨⟨h1, h2⟩, h3⟩, h4⟩ := h
    have := figs_bound hi e
    exact ⟨rfl, h1, by omega, h3, h4⟩
def spBehind (K : PySem.W.Frag) : Sp := fun vs H Q _ => ∃ (m v nu d : Addr) (b s w c : Int) (ins : List Inp) (vals : List Int) (x : Num4) (dd : Dee), vs = [.ref m, .ref v, .ref nu, .ref d] ∧ MachAt K H m b s w c ∧ Mach b s w c ∧ H v = some (.dK (valsD ins vals)) ∧ vals.length = ins.length ∧ insOk s ins ∧
  NumAt K H nu x ∧ NumOk b s w c x ∧ DeeAt K H d dd ∧ deeOk ins dd = true ∧ OutN K H Q (stepN b s w c (valOf ins vals) x dd)
/-- numbers stay in bounds -/
theorem NumOk.step {b s w c : Int} {ins : List Inp} {vals : List Int} {x y : Num4} {dd : Dee} (hm : Mach b s w c) (hi : insOk s ins) (hv : ValsOk b ins vals) (h : NumOk b s w c x) (g : deeOk ins dd = true) (e : stepN b s w c (valOf ins vals) x dd = some y) : NumOk b s w c y := by
  obtain ⟨b0, b1, s0, s1, w0, w1, c0, c1⟩ := id hm
  obtain ⟨S0, S1, P0, P1, P2, W0, W1, C0, C1⟩ := id h
  have pw := Int.pow_pos (n := b) (m := w.toNat) (by omega)
  have pc := Int.pow_pos (n := b) (m := c.toNat) (by omega)
  have tu : ∀ (z : Num4) (many way tally : Int), 0 ≤ (turnedN b w c z many way tally).W ∧ (turnedN b w c z many way tally).W < b ^ w.toNat ∧ 0 ≤ (turnedN b w c z many way tally).C ∧ (turnedN b w c z many way tally).C < b ^ c.toNat := fun z many way tally =>
    ⟨Int.emod_nonneg _ (by omega), Int.emod_lt_of_pos _ pw, Int.emod_nonneg _ (by omega), Int.emod_lt_of_pos _ pc⟩
  have tk : ∀ (many way tally : Int), NumOk b s w c (turnedN b w c x many way tally) := fun many way tally => ⟨S0, S1, P0, P1, P2, (tu x many way tally).1, (tu x many way tally).2.1, (tu x many way tally).2.2.1, (tu x many way tally).2.2.2⟩
  cases dd with
  | load n =>
    cases e
    obtain ⟨k, i, h1, h2, h3, h4⟩ := valOf_at hv.len g
    obtain ⟨l1, l2⟩ := hv.at_ k i _ h1 h2
    have io := hi.2 k i h1
    unfold inputOk at io
    simp only [Bool.and_eq_true, decide_eq_true_eq] at io
    obtain ⟨⟨⟨_, f1⟩, f2⟩, f3⟩ := io
    have hp : b ^ i.fg.toNat ≤ b ^ s.toNat := by
      obtain ⟨j, hj⟩ : ∃ j, s.toNat = i.fg.toNat + j := ⟨s.toNat - i.fg.toNat, by omega⟩
      rw [hj, Int.pow_add]
      have a := Int.pow_pos (n := b) (m := i.fg.toNat) (by omega)
      have d := Int.pow_pos (n := b) (m := j) (by omega)
      have := Int.mul_le_mul_of_nonneg_left (show 1 ≤ b ^ j by omega) (Int.le_of_lt a)
      omega
    exact ⟨by show 0 ≤ valOf ins vals n; omega, by show valOf ins vals n < _; omega, P0, P1, P2, W0, W1, C0, C1⟩
  | one =>
    cases e
    have : b ^ 1 ≤ b ^ s.toNat := by
      obtain ⟨j, hj⟩ : ∃ j, s.toNat = 1 + j := ⟨s.toNat - 1, by omega⟩
      rw [hj, Int.pow_add]
      have d := Int.pow_pos (n := b) (m := j) (by omega)
      have := Int.mul_le_mul_of_nonneg_left (show 1 ≤ b ^ j by omega) (show 0 ≤ b ^ 1 by rw [Int.pow_succ, Int.pow_zero]; omega)
      omega
    rw [Int.pow_succ, Int.pow_zero] at this
    exact ⟨by show (0 : Int) ≤ 1; omega, by show (1 : Int) < _; omega, P0, P1, P2, W0, W1, C0, C1⟩
  | shift z =>
    by_cases q : 0 ≤ x.P + z ∧ x.P + z ≤ min (w - s) (c - 1)
    · have e2 : some (⟨x.S, x.P + z, x.W, x.C⟩ : Num4) = some y := (if_pos q).symm.trans e
      cases e2
      exact ⟨S0, S1, q.1, by show x.P + z ≤ _; omega, by show x.P + z ≤ _; omega, W0, W1, C0, C1⟩
    · have e2 : none = some y := (if_neg q).symm.trans e
      cases e2
  | turn way tally =>
    cases e
    exact tk _ _ _
  | wipe cc =>
    cases cc with
    | false => cases e; exact ⟨S0, S1, P0, P1, P2, by show (0 : Int) ≤ 0; omega, pw, C0, C1⟩
    | true => cases e; exact ⟨S0, S1, P0, P1, P2, W0, W1, by show (0 : Int) ≤ 0; omega, pc⟩
  | turns n k way tally =>
    cases e
    exact tk _ _ _
  | bell tally =>
    by_cases q : x.S = 0
    · have e2 : none = some y := (if_pos q).symm.trans e
      cases e2
    · have e2 : some (turnedN b w c x (x.W / (x.S * b ^ x.P.toNat)) (-1) tally) = some y := (if_neg q).symm.trans e
      cases e2
      exact tk _ _ _
  | odds tally =>
    have e0 : oddsT b s w c x tally = some y := e
    unfold oddsT at e0
    have hN0 : 0 ≤ x.W / b ^ x.P.toNat := Int.ediv_nonneg W0 (Int.le_of_lt (Int.pow_pos (by omega)))
    obtain ⟨k0, k1, k2⟩ := oddsN_ok hN0 S0
    have em : oddsN (x.W / b ^ x.P.toNat) x.S = oddsM b x := rfl
    rw [em] at k0
    dsimp only at e0
    by_cases q : x.S + 2 * oddsM b x ≥ b ^ s.toNat
    · rw [if_pos q] at e0
      cases e0
    · rw [if_neg q] at e0
      cases e0
      have t := tu ⟨x.S + oddsM b x - 1, x.P, x.W, x.C⟩ (oddsM b x) (-1) tally
      exact ⟨by show 0 ≤ x.S + 2 * oddsM b x; omega, by show x.S + 2 * oddsM b x < _; omega, P0, P1, P2, t.1, t.2.1, t.2.2.1, t.2.2.2⟩
end My
namespace My
open PySem PySem.Spec L2 RT Rn
def spNeedValues (K : PySem.W.Frag) : Sp := fun vs H Q _ => ∃ (m x v : Addr) (b s w c : Int) (xs : List Addr) (ins : List Inp) (vals : List Int), vs = [.ref m, .ref x, .ref v] ∧ MachAt K H m b s w c ∧ Mach b s w c ∧ SqT K H x (xs.map V.ref) ∧ Paired (InpAt K H) xs ins ∧ insOk s ins ∧
  H v = some (.dK (valsD ins vals)) ∧ ValsOk b ins vals ∧ Q .non H
theorem valsD_len {ins : List Inp} {vals : List Int} (h : vals.length = ins.length) : (valsD ins vals).length = ins.length := by
  unfold valsD
  rw [List.length_map, List.length_zip, h, Nat.min_self]
end My
namespace My
open PySem PySem.Spec L2 RT Rn
theorem names_uniq {s : Int} {ins : List Inp} (h : insOk s ins) {k j : Nat} {a b : Inp} (ha : ins[k]? = some a) (hb : ins[j]? = some b) (e : a.nm = b.nm) : k = j := by
  have lt : ∀ {k j : Nat} {a b : Inp}, ins[k]? = some a → ins[j]? = some b → a.nm = b.nm → ¬ k < j := fun {k j a b} ha hb e hlt => by
    refine inputOk_new (h.2 j b hb) ?_
    rw [← e]
    refine List.mem_of_getElem? (i := k) ?_
    rw [List.getElem?_take_of_lt hlt]
    unfold names
    rw [List.getElem?_map, ha]
    rfl
  have h1 := lt ha hb e
  have h2 := lt hb ha e.symm
  omega
theorem figsOf_some {ins : List Inp} {i : Inp} (h : i ∈ ins) : (figsOf ins i.nm).isSome = true := by
  unfold figsOf
  rw [Option.isSome_map, List.find?_isSome]
  exact ⟨i, h, by simp⟩
theorem valOf_in {s b : Int} {ins : List Inp} {vals : List Int} (h : insOk s ins) (hv : ValsOk b ins vals) {k : Nat} {i : Inp} (hi : ins[k]? = some i) : vals[k]? = some (valOf ins vals i.nm) ∧ i.ls ≤ valOf ins vals i.nm ∧ valOf ins vals i.nm < b ^ i.fg.toNat := by
  obtain ⟨j, i', h1, h2, h3, _⟩ := valOf_at hv.len (figsOf_some (List.mem_of_getElem? hi))
  have e := names_uniq h h1 hi h3
  subst e
  rw [hi] at h1
  cases h1
  exact ⟨h2, hv.at_ _ _ _ hi h2⟩
end My
namespace My
open PySem PySem.Spec L2 RT Rn
theorem runN_step {b s w c : Int} {val : Str → Int} {ds : List Dee} {i : Nat} {d : Dee} (x : Num4) (h : ds[i]? = some d) : runN b s w c val (ds.drop i) i x = (match stepN b s w c val x d with
    | none => .inl i
    | some y => runN b s w c val (ds.drop (i + 1)) (i + 1) y) := by
  have hi := (List.getElem?_eq_some_iff.mp h).1
  have e : ds.drop i = d :: ds.drop (i + 1) := by
    rw [List.drop_eq_getElem_cons hi]
    congr 1
    exact (List.getElem?_eq_some_iff.mp h).2
  rw [e]
  rfl
def num0 : Num4 := ⟨0, 0, 0, 0⟩
theorem num0_ok {b s w c : Int} (hm : Mach b s w c) : NumOk b s w c num0 := by
  obtain ⟨b0, b1, s0, s1, w0, w1, c0, c1⟩ := hm
  exact ⟨Int.le_refl _, Int.pow_pos (by omega), Int.le_refl _, by show (0 : Int) ≤ w - s; omega, by show (0 : Int) ≤ c - 1; omega, Int.le_refl _, Int.pow_pos (by omega), Int.le_refl _, Int.pow_pos (by omega)⟩
def spWorked (K : PySem.W.Frag) (TP CS : Addr) : Sp := fun vs H Q E => ∃ (m bk v : Addr) (b s w c : Int) (B : Bok) (vals : List Int), vs = [.ref m, .ref bk, .ref v] ∧ MachAt K H m b s w c ∧ Mach b s w c ∧ BokAt K H bk B ∧ BokOk s B ∧ H v = some (.dK (valsD B.ins vals)) ∧ ValsOk b B.ins vals ∧ GxR.TabG H TP ∧
  (∀ k, runN b s w c (valOf B.ins vals) B.dds 0 num0 = .inl k → ∀ d H', Tg.SmT TP H H' → H' d = some (.xd [("number", .int (k : Nat))]) → E (.ref CS) (some d) H') ∧
  (∀ y, runN b s w c (valOf B.ins vals) B.dds 0 num0 = .inr y → ∀ z H', Tg.SmT TP H H' → SqT K H' z [.int y.W, .int y.C] → Q (.ref z) H')
end My
set_option Elab.async false
set_option linter.all false
set_option maxRecDepth 100000
set_option maxHeartbeats 4000000
/-! exceptions with an __init__ of their own: raised, asked by isinstance, their fields read -/
namespace PySem.W
open PySem PySem.Spec PySem.Calls PyProof.Rows
section
variable {K : Frag} {prog : Program} {w : World} {A : Around} {E : Value → Shared → Prop} {s : Shared} {x D : Addr} {ox : Obj} {od : Option Obj}
theorem kin_classED {Q : Option Value → Shared → Prop} (hga : findIn K (.ref D) "__getattribute__" = some (some (.builtin "BaseException.__getattribute__"))) (hgt : findIn K (.ref D) "__getattr__" = some none) (hsub : subIn K (.ref D) (.type "BaseException") = some true)
    (hdct : hasDictIn K D = true) (ha : findIn K (.ref D) "__class__" = some (some (.builtin "object.__class__")))
    (hn : specialIn K (.builtin "object.__class__") "__get__" = some (some (.builtin "getset_descriptor.__get__"))) (htk : takesIn K (.builtin "object.__class__") = some true) (hm : mroIn K D (.type "object") = some true)
    (X : K.In s.heap) (I : InstAt s.heap x ox D od) (h : Q (some (.ref D)) { s with toks := s.toks + 1 }) : wpAny (model prog w) A (getAttr? (.ref x) "__class__") Q E s := by
  have hf : findObj K D od "__class__" = some (.bind (.builtin "getset_descriptor.__get__") (.builtin "object.__class__")) := by
    cases od with
    | none => exact findObj_dataN (by obtain ⟨cd, hc, _⟩ := any_some hdct; rw [hc]; rfl) ha hn htk
    | some o => exact findObj_data (by obtain ⟨cd, hc, _⟩ := any_some hdct; rw [hc]; rfl) ha hn htk
  obtain ⟨hp, g, d, t, os⟩ := s
  have L0 := I.type (M := model prog w)
  have L1 := looks_findIn (M := model prog w) X hga
  have L2 := looks_findIn (M := model prog w) X hgt
  have L3 := looks_find (M := model prog w) X I hf
  have sub : Looks (model prog w) hp (isInstance (.ref x) (.type "BaseException")) true := L0.andThen (looks_subIn X hsub)
  have hx0 : (false && onTheHeap (Value.builtin "BaseException.__getattribute__")) = false := rfl
  have hx2 : (Value.builtin "BaseException.__getattribute__" == Value.builtin "object.__getattribute__") = false := by decide +kernel
  have hx1 : (onTheHeap (Value.ref D) && Value.builtin "BaseException.__getattribute__" == Value.builtin "object.__getattribute__") = false := by rw [hx2]; rfl
  unfold getAttr? getAttrBy? getAttrBy
  refine wpAny_bind (wpAny_mkText (wpAny_bind (wpAny_attempt (wpAny_holding (wpAny_bind (L0.at (wpAny_bind (L1.at ?_))))))))
  show wpAny _ _ (if (onTheHeap (Value.ref D) && Value.builtin "BaseException.__getattribute__" == Value.builtin "object.__getattribute__") = true then _ else _) _ _ _
  rw [hx1, if_neg Bool.false_ne_true]
  unfold getAttrByItsOwn hookBefore
  refine wpAny_bind ?_
  rw [if_pos (show onTheHeap (Value.ref D) = true from rfl)]
  refine L2.at ?_
  refine wpAny_bind (wpAny_attempt (wpAny_holding ?_))
  unfold callGetattribute
  rw [hx0, if_neg Bool.false_ne_true]
  unfold boundAndCalled
  rw [PySem.F.excAttr_ValueError.ga.bind (.ref x)]
  refine wpAny_bind (wpAny_pure ?_)
  show wpAny _ _ (call (.builtin "BaseException.__getattribute__") [.ref x, .str "__class__" t]) _ _ _
  refine wpAny_call (codeAny_call_builtin PySem.F.excAttr_ValueError.ga.plain PySem.F.entry_bexc_ga ?_)
  refine @check_slot (model prog w) _ _ ⟨hp, g, d, t + 1, os⟩ "BaseException.__getattribute__" "BaseException" "__getattribute__" (.ref x) [.str "__class__" t] [] _ (by decide +kernel) (by decide +kernel) sub (PySem.F.args_bexc_ga (.ref x) (.str "__class__" t)) ?_
  unfold Builtin.«object.__getattribute__»
  refine wpAny_bind (wpAny_of_eq (a := ((Value.ref x : Value), [Value.str "__class__" t])) (by first | rfl | (simp only [slotArgs]; rfl)) ?_)
  refine wpAny_bind (wpAny_pure (wpAny_bind (L0.at (wpAny_bind (L3.at ?_)))))
  show wpAny _ _ (holding [Value.builtin "object.__class__"] (call (.builtin "getset_descriptor.__get__") [.builtin "object.__class__", .ref x, .ref D]) >>= ret) _ _ _
  refine wpAny_bind (wpAny_holding (wpAny_call (class_get (s := ⟨hp, g, d, t + 1, os⟩) (ox := ox) (od := od) X I hm ?_)))
  refine wpAny_pure ?_
  show wpAny _ _ (handedOut (.ref D)) _ _ _
  rw [handedOut_of (v := .ref D) rfl]
  first
    | exact wpAny_pure (wpAny_pure h)
    | exact wpAny_pure h
    | exact wpAny_pure (wpAny_bind (wpAny_pure (wpAny_pure h)))
theorem kitx_excD (hga : findIn K (.ref D) "__getattribute__" = some (some (.builtin "BaseException.__getattribute__"))) (hgt : findIn K (.ref D) "__getattr__" = some none) (hsub : subIn K (.ref D) (.type "BaseException") = some true) (hdct : hasDictIn K D = true) (ha : findIn K (.ref D) "__class__" = some (some (.builtin "object.__class__")))
    (hn : specialIn K (.builtin "object.__class__") "__get__" = some (some (.builtin "getset_descriptor.__get__"))) (htk : takesIn K (.builtin "object.__class__") = some true) (hm : mroIn K D (.type "object") = some true) :
    KitX K (.ref x) (.ref D) (fun h => InstAt h x ox D od) where
  ty := fun _ _ _ I => I.type
  it := fun _ _ X _ => by
    obtain ⟨cdD, hcD, _⟩ := any_some hdct
    unfold clsIn at hcD
    split at hcD
    · rename_i c' d' cd' sl' ho
      intro A' Q' E' s' k q
      unfold isType loadHead
      exact wpAny_bind (wpAny_loadPart (k _ _ (X _ _ ho)) (wpAny_pure q))
    · cases hcD
  ne := fun h tp dd its n sl X htp => by
    obtain ⟨cdD, hcD, _⟩ := any_some hdct
    refine Bool.eq_false_iff.mpr fun q => ?_
    have e : D = tp := Value.ref.inj (beq_iff_eq.mp q)
    subst e
    unfold clsIn at hcD
    split at hcD
    · rename_i c' d' cd' sl' ho
      have z := (X _ _ ho).symm.trans htp
      cases z
    · cases hcD
  ca := fun X I k => kin_classED hga hgt hsub hdct ha hn htk hm X I k
end
end PySem.W
namespace L2
open PySem PySem.Spec PyProof.Rows
/-- isinstance of the held exception, which may have a dict -/
def rIsY (K : PySem.W.Frag) (a : Addr) (cls : Value) (d : Option Addr) : List V → Hp → VK → Prop := fun xs H Q => ∃ (D : Addr) (c : V) (b : Bool), cls = .ref D ∧ (d = none ∨ ∃ dd fs, d = some dd ∧ H dd = some (.xd fs)) ∧ ExcC K D ∧ xs = [.ref a, c] ∧
  ((∃ u, ClsV c u ∧ PySem.W.kitOne K (.ref D) u = some b) ∨ ∃ (tp : Addr) (cs : List V) (us : List Value), c = .ref tp ∧ H tp = some (.tup cs) ∧ Paired ClsV cs us ∧ PySem.W.kitAny K (.ref D) us = some b) ∧ Q (.bl b) H
theorem call_isY {X : Cx} {a : Addr} {oe : Obj} {cls : Value} {d : Option Addr} {pn : List (Addr × Obj)} (K : PySem.W.Frag) (eK : X.K = K) (hz : Zc cls d oe) (hf : ∃ vs, oe.data = .fields vs) : CallR (X.suite a ((a, oe) :: pn)) (.builtin "isinstance") (rIsY K a cls d) := by
  subst eK
  intro pins s σ H xs us Q I r h
  obtain ⟨D, c, b, rfl, hdd, C, rfl, hc, q⟩ := h
  obtain ⟨u1, u2, rfl, r1, r2⟩ := vals2 r
  cases (show u1 = Value.ref a from r1)
  obtain ⟨hget, _⟩ := I.pin (a, oe) (List.mem_append.mpr (.inl List.mem_cons_self))
  obtain ⟨vs, hv⟩ := hf
  have J : ∃ od, PySem.W.InstAt s.heap a oe D od := by
    rcases hdd with rfl | ⟨dd, fs, rfl, hx⟩
    · refine ⟨none, ?_⟩
      obtain ⟨oc, od, oda, osl⟩ := oe
      obtain ⟨h1, h2⟩ := hz
      dsimp only at h1 h2 hv
      subst h1 h2 hv
      exact ⟨hget, rfl, rfl, trivial⟩
    · have hx : ObjOk X.prog X.w H s.heap dd (.xd fs) := I.hok dd _ hx
      obtain ⟨mA, hns, hr⟩ := hx
      obtain ⟨od, ho, hl⟩ := lookIn_ns hns
      exact ⟨some od, hget, hz.1, by unfold PySem.W.notCls; rw [hv], by rw [hz.2]; exact ho⟩
  obtain ⟨od, J⟩ := J
  rcases hc with ⟨u, k, e⟩ | ⟨tp, cs, ws, rfl, hT, k, e⟩
  · have ec := k.eq r2
    subst ec
    exact PySem.W.kia_one (PySem.W.kitx_excD C.hg C.hk C.hs C.hd C.ha C.hn C.ht C.hm) I.kIn J e (fun z => nomatch z) fun tk => ⟨.bl b, H, I.kept (t' := tk) fun _ _ z => z, rfl, q⟩
  · cases (show u2 = Value.ref tp from r2)
    obtain ⟨_, its, rv, o, h1, h2, n, h3⟩ := (show ObjOk X.prog X.w H s.heap tp (.tup cs) from I.hok tp _ hT)
    have e3 := ClsV.all k rv
    subst e3
    obtain ⟨oc, od, dt, sl⟩ := o
    simp only at h2 h3
    subst h2 h3
    exact PySem.W.kia_tup (PySem.W.kitx_excD C.hg C.hk C.hs C.hd C.ha C.hn C.ht C.hm) I.kIn J h1 e (fun z => nomatch z) fun tk => ⟨.bl b, H, I.tok tk, rfl, q⟩
/-- e.f, e the exception that the suite holds -/
def tXBy (K : PySem.W.Frag) (a : Addr) (cls : Value) (d : Option Addr) (f : Str) (te : TE) : TE := fun σ H Q => te σ H fun x H1 => x = .ref a ∧ ∃ (C dd : Addr) (fs : List (Str × V)) (v : V), cls = .ref C ∧ ExcC K C ∧ PySem.W.findIn K (.ref C) f = some none ∧ d = some dd ∧ H1 dd = some (.xd fs) ∧ fs.lookup f = some v ∧ Q v H1
theorem pe_xby {X : Cx} {a : Addr} {oe : Obj} {cls : Value} {d : Option Addr} {pn : List (Addr × Obj)} (K : PySem.W.Frag) (eK : X.K = K) {f : Str} {e : Expr} {te : TE} {pos : Pos} (hz : Zc cls d oe) (hf : ∃ vs, oe.data = .fields vs) (he : PE (X.suite a ((a, oe) :: pn)) e te)
    (hb : attributeBase e f X.env (eval e X.env) = eval e X.env := by rfl) : PE (X.suite a ((a, oe) :: pn)) (.Attribute e f pos) (tXBy K a cls d f te) := by
  subst eK
  refine ⟨fun pins s σ H Q I h => ?_⟩
  refine attr_of hb (thn (he.run pins s σ H _ I h) fun u s1 hh => ?_)
  obtain ⟨x, H1, I1, rx, ex, C, dd, fs, v, ec, T, noN, ed, ea, el, q⟩ := hh
  subst ex
  obtain rfl : u = Value.ref a := rx
  subst ec
  subst ed
  obtain ⟨ha, _⟩ := I1.pin (a, oe) (List.mem_append_left _ List.mem_cons_self)
  obtain ⟨vs, hd⟩ := hf
  have hx : ObjOk X.prog X.w H1 s1.heap dd (.xd fs) := I1.hok dd _ ea
  obtain ⟨mA, hns, hr⟩ := hx
  obtain ⟨od, ho, hl⟩ := lookIn_ns hns
  obtain ⟨u, hu, ru⟩ := RelO.some_of (v := v) (o := mA f) (by rw [← el]; exact hr f)
  have J : PySem.W.InstAt s1.heap a oe C (some od) := ⟨ha, hz.1, by unfold PySem.W.notCls; rw [hd] <;> rfl, by rw [hz.2]; exact ho⟩
  exact HandSPX.exc_get I1.kIn J T.hg T.hk T.hs (PySem.W.findObj_own T.hd noN rfl (by rw [hl, hu])) (handed_of ru) ⟨v, H1, I1.tok _, ru, q⟩
/-- B.__init__(self, ..), B an own class without an __init__, over ValueError -/
theorem pe_dinit {X : Cx} {x : Str} {B : Addr} {e : Expr} {es : List Expr} {ta : TA} {p1 p2 pos : Pos} {pl : Sem Bool} (K : PySem.W.Frag) (eK : X.K = K) (hg : Gl X x) (hm : X.mg x = some (.ref B)) (ga : PySem.W.specialIn K (.ref B) "__getattribute__" = some (some (.builtin "type.__getattribute__"))) (hr : PySem.W.readsIn K B (.type "type") = true)
    (vV : PySem.W.findCls K (.ref B) (.type "type") "__init__" = some (.val (.builtin "ValueError.__init__"))) (ha : PA X (e :: es) ta)
    (hc : eval (.Call (.Attribute (.Name x p1) "__init__" p2) (e :: es) [] pos) X.env = (do
      let ov ← eval (.Name x p1) X.env
      standAt p2.atName
      let (f, first) ← holding [ov] (getMethod ov "__init__" pl)
      callWith pos f first (backTo pos (starEach (e :: es) X.env)) (backToKw pos (keywordEach [] X.env))) := by rfl)
    (hdb : (x == ("__debug__" : Str)) = false := by decide) (he : starEach (e :: es) X.env = (false, eval e X.env) :: starEach es X.env := by rfl) (hpl : (backTo pos (starEach es X.env)).any (·.1) = false := by rfl) :
    PE X (.Call (.Attribute (.Name x p1) "__init__" p2) (e :: es) [] pos) (tVeI K ta) := by
  subst eK
  refine ⟨fun pins s σ H Q I h => ?_⟩
  refine PySem.W.methodCall_KW (ld_glob I hg hm ?_ hdb) hc
  refine PySem.W.method_cls I.kIn ga ?_
  refine PySem.W.cls_value I.kIn hr vV (by decide +kernel) ?_
  show wpAny _ _ (callWith pos (Value.builtin "ValueError.__init__") [] (backTo pos (starEach (e :: es) X.env)) []) _ _ _
  refine PyProof.Rows.callWith_method1 (thn (ha.run pos pins _ σ H _ (I.tok _) h) fun us s1 ⟨vs, H1, I1, r1, a, C, ws, ev, hl, T, ea, q⟩ => ?_) he hpl
  subst ev
  cases r1 with
  | @cons _ u0 _ ur ra rw' =>
    obtain rfl : u0 = Value.ref a := ra
    have hlen : ur.length ≤ sizeLine := by
      rw [← Paired.length rw', sizeLine_eq]
      omega
    exact oinit_ok T I1 ea hlen fun s' J => ⟨.non, H1, J, rfl, q⟩
end L2
namespace Rn
open PySem PySem.Spec L2 RT
section
variable {K : PySem.W.Frag} {σ : St} {H : Hp} {te to : TE} {ta : TA} {Q : VK} {D : Ends}
theorem w_vei (h : ta σ H fun vs H1 => ∃ (a C : Addr) (ws : List V), vs = .ref a :: ws ∧ ws.length ≤ 1000 ∧ OexC K C ∧ H1 a = some (exo a C none) ∧ Q .non H1) : tVeI K ta σ H Q := h
/-- self.f = y -/
def OstQ (K : PySem.W.Frag) (f : Str) (x y : V) (H2 : Hp) (N : Hp → Prop) : Prop := ∃ a C : Addr, x = .ref a ∧ OexC K C ∧ PySem.W.findIn K (.ref C) f = some none ∧
  ((H2 a = some (exo a C none) ∧ ∀ dx, H2 dx = none → dx ≠ a → N (upd (upd H2 dx (exd dx [(f, y)])) a (exo a C (some dx)))) ∨
    ∃ (dx : Addr) (fs : List (Str × V)), H2 a = some (exo a C (some dx)) ∧ H2 dx = some (exd dx fs) ∧ fs.length ≤ 900 ∧ N (upd H2 dx (exd dx ((f, y) :: fs))))
theorem w_ost {f : Str} (h : te σ H fun y H1 => to σ H1 fun x H2 => OstQ K f x y H2 (D.nx σ)) : tOst K f to te D σ H := h
theorem w_xby {a : Addr} {cls : Value} {d : Option Addr} {f : Str} (h : te σ H fun x H1 => x = .ref a ∧ ∃ (C dd : Addr) (fs : List (Str × V)) (v : V), cls = .ref C ∧ ExcC K C ∧ PySem.W.findIn K (.ref C) f = some none ∧ d = some dd ∧ H1 dd = some (.xd fs) ∧ fs.lookup f = some v ∧ Q v H1) : tXBy K a cls d f te σ H Q := h
end
end Rn
namespace My
open PySem PySem.Spec L2 RT Rn
/-- a statement of a class's body -/
def clsB (st : Stmt) (j : Nat) : Stmt := match st with
  | .ClassDef _ _ _ body _ _ _ _ _ _ _ => body.getD j (.Pass ⟨0, 0, 0, 0⟩)
  | _ => .Pass ⟨0, 0, 0, 0⟩
/-- __init__ that keeps one number -/
def spInit1 (C : Addr) (f : Str) : Sp := fun vs H Q _ => ∃ (a : Addr) (n : Int), vs = [.ref a, .int n] ∧ -(2 ^ 64) < n ∧ n < 2 ^ 64 ∧ H a = some (exo a C none) ∧ ∀ d H', H d = none → d ≠ a → H' = upd (upd H d (exd d [(f, .int n)])) a (exo a C (some d)) → Q .non H'
end My
namespace Rn
open PySem PySem.Spec L2 RT
def MkOQ (C : Addr) (sp : Sp) (dvs : List V) (vs : List V) (H1 : Hp) (Q : XK) : Prop := vs.length ≤ 1000 ∧ ∀ a, H1 a = none → sp (.ref a :: (vs ++ dvs)) (upd H1 a (exo a C none))
  (fun v H2 => v = .non ∧ ∃ (d : Addr) (fs : List (Str × V)), H2 a = some (exo a C (some d)) ∧ H2 d = some (exd d fs) ∧ H1 d = none ∧ Q (.ref C) (some d) (upd (del H2 a) d (.xd fs))) (fun _ _ _ => False)
theorem w_mko {C : Addr} {sp : Sp} {dvs : List V} {ta : TA} {σ : St} {H : Hp} {Q : XK} (h : ta σ H fun vs H1 => MkOQ C sp dvs vs H1 Q) : tMkO C sp dvs ta σ H Q := h
theorem w_mk1 {C : Addr} {f : Str} {n : Int} {H1 : Hp} {Q : XK} (h0 : -(2 ^ 64) < n) (h1 : n < 2 ^ 64) (h : ∀ d H', Same H1 H' → H1 d = none → H' d = some (.xd [(f, .int n)]) → Q (.ref C) (some d) H') : MkOQ C (My.spInit1 C f) [] [.int n] H1 Q := by
  refine ⟨by simp, fun a ha => ⟨a, n, rfl, h0, h1, upd_same, fun d H' hd hda e => ⟨rfl, d, [(f, .int n)], ?_, ?_, ?_, ?_⟩⟩⟩
  · rw [e, upd_same]
  · rw [e, upd_ne hda, upd_same]
  · rw [upd_ne hda] at hd
    exact hd
  · rw [upd_ne hda] at hd
    refine h d _ (fun b x hb => ?_) hd upd_same
    have ba : b ≠ a := ne_of_none hb ha
    have bd : b ≠ d := ne_of_none hb hd
    rw [upd_ne bd, del_ne ba, e, upd_ne ba, upd_ne bd, upd_ne ba]
    exact hb
end Rn
set_option Elab.async false
set_option linter.all false
set_option maxRecDepth 100000
set_option maxHeartbeats 4000000
/-! the law's own reckoning, deed by deed -/
namespace My
open PySem PySem.Spec L2 RT Rn
/-- the law's dict of five numbers -/
def simD (x : Num4) (L : Int) : List (Key × V) := [(.inr "wheels", .int x.W), (.inr "counts", .int x.C), (.inr "set", .int x.S), (.inr "place", .int x.P), (.inr "left", .int L)]
theorem sim_wheels (x : Num4) (L : Int) : valV (simD x L) (.inr "wheels") = some (.int x.W) := by rfl
theorem sim_counts (x : Num4) (L : Int) : valV (simD x L) (.inr "counts") = some (.int x.C) := by rfl
theorem sim_set (x : Num4) (L : Int) : valV (simD x L) (.inr "set") = some (.int x.S) := by rfl
theorem sim_place (x : Num4) (L : Int) : valV (simD x L) (.inr "place") = some (.int x.P) := by rfl
theorem sim_left (x : Num4) (L : Int) : valV (simD x L) (.inr "left") = some (.int L) := by rfl
theorem put_wheels (x : Num4) (L v : Int) : putK (simD x L) (.inr "wheels") (.int v) = simD { x with W := v } L := by rfl
theorem put_counts (x : Num4) (L v : Int) : putK (simD x L) (.inr "counts") (.int v) = simD { x with C := v } L := by rfl
theorem put_set (x : Num4) (L v : Int) : putK (simD x L) (.inr "set") (.int v) = simD { x with S := v } L := by rfl
theorem put_place (x : Num4) (L v : Int) : putK (simD x L) (.inr "place") (.int v) = simD { x with P := v } L := by rfl
theorem put_left (x : Num4) (L v : Int) : putK (simD x L) (.inr "left") (.int v) = simD x v := by rfl
/-- all but s stays -/
def Bt (s : Addr) (H H' : Hp) : Prop := ∀ b x, b ≠ s → H b = some x → H' b = some x
theorem Bt.refl (s : Addr) (H : Hp) : Bt s H H := fun _ _ _ h => h
theorem Bt.trans {s : Addr} {A B C : Hp} (x : Bt s A B) (y : Bt s B C) : Bt s A C := fun b o n h => y b o n (x b o n h)
theorem Bt.put {s : Addr} {H H' : Hp} {o : HO} (x : Bt s H H') : Bt s H (upd H' s o) := fun b u n h => by
  rw [upd_ne n]
  exact x b u n h
theorem Bt.tn {s : Addr} {H H' : Hp} {kvs : List (Key × V)} (x : Bt s H H') (hs : H s = some (.dK kvs)) : Tn H H' := fun a xs h => by
  have ne : a ≠ s := fun z => by
    subst z
    rcases h with h | ⟨o, h⟩ <;> (rw [hs] at h; cases h)
  rcases h with h | ⟨o, h⟩
  · exact .inl (x a _ ne h)
  · exact .inr ⟨o, x a _ ne h⟩
/-- one turn of the law -/
def turnL (b w c : Int) (x : Num4) (way tally : Int) : Num4 := ⟨x.S, x.P, (x.W + way * x.S * b ^ x.P.toNat) % b ^ w.toNat, (x.C + tally * b ^ x.P.toNat) % b ^ c.toNat⟩
def bellL (b w : Int) (x : Num4) (way : Int) : Bool := !decide (x.W + way * x.S * b ^ x.P.toNat = (x.W + way * x.S * b ^ x.P.toNat) % b ^ w.toNat)
def spTurnL (K : PySem.W.Frag) : Sp := fun vs H Q _ => ∃ (m s : Addr) (b sl w c way tally L : Int) (x : Num4), vs = [.ref m, .ref s, .int way, .int tally] ∧ MachAt K H m b sl w c ∧ Mach b sl w c ∧ H s = some (.dK (simD x L)) ∧ -(2 ^ 40) < x.S ∧ x.S < 2 ^ 40 ∧ 0 ≤ x.P ∧ x.P ≤ c - 1 ∧ -2 ≤ way ∧ way ≤ 2 ∧ -2 ≤ tally ∧ tally ≤ 2 ∧
  ∀ H', Bt s H H' → H' s = some (.dK (simD (turnL b w c x way tally) (L - 1))) → Q (.bl (bellL b w x way)) H'
/-! ### turns until the bell rings -/
/-- what so many turns have taken -/
def tri (more S i : Int) : Int := if more = 0 then i * S else i * (S + i - 1)
theorem tri_step {more S i : Int} (h : more = 0 ∨ more = 2) : tri more S (i + 1) = tri more S i + (S + more * i) := by
  unfold tri
  rcases h with rfl | rfl
  · rw [if_pos rfl, if_pos rfl, Int.add_mul]
    omega
  · rw [if_neg (by decide), if_neg (by decide)]
    simp only [Int.add_mul, Int.mul_add, Int.mul_sub, Int.sub_mul]
    omega
/-- behind i turns without the bell -/
structure UntilI (b s w c tally more : Int) (x : Num4) (L : Int) (i : Int) (y : Num4) (L' : Int) : Prop where
  i0 : 0 ≤ i
  S : y.S = x.S + more * i
  P : y.P = x.P
  W : y.W = x.W - tri more x.S i * b ^ x.P.toNat
  W0 : 0 ≤ y.W
  C : y.C = (x.C + tally * i * b ^ x.P.toNat) % b ^ c.toNat
  L : L' = L - i
  S1 : y.S < b ^ s.toNat
theorem UntilI.start {b s w c tally more L : Int} {x : Num4} (h : NumOk b s w c x) : UntilI b s w c tally more x L 0 x L where
  i0 := Int.le_refl _
  S := by rw [Int.mul_zero, Int.add_zero]
  P := rfl
  W := by
    unfold tri
    split <;> simp
  W0 := h.w0
  C := by rw [Int.mul_zero, Int.zero_mul, Int.add_zero, Int.emod_eq_of_lt h.c0 h.c1]
  L := by omega
  S1 := h.s1
theorem bell_iff {b s w c : Int} {y : Num4} (h0 : 0 ≤ y.S) (hw0 : 0 ≤ y.W) (hw1 : y.W < b ^ w.toNat) (hb : 0 < b) : bellL b w y (-1) = decide (y.W < y.S * b ^ y.P.toNat) := by
  have hp := Int.pow_pos (n := b) (m := y.P.toNat) hb
  have hw := Int.pow_pos (n := b) (m := w.toNat) hb
  have hn : 0 ≤ y.S * b ^ y.P.toNat := Int.mul_nonneg h0 (Int.le_of_lt hp)
  have e : y.W + -1 * y.S * b ^ y.P.toNat = y.W - y.S * b ^ y.P.toNat := by
    rw [Int.mul_assoc]
    omega
  unfold bellL
  rw [e]
  by_cases g : y.W < y.S * b ^ y.P.toNat
  · rw [decide_eq_true g]
    have := Int.emod_nonneg (y.W - y.S * b ^ y.P.toNat) (show b ^ w.toNat ≠ 0 by omega)
    rw [decide_eq_false (by omega)]
    rfl
  · rw [decide_eq_false g, decide_eq_true (Int.emod_eq_of_lt (by omega) (by omega)).symm]
    rfl
/-- a turn without the bell -/
theorem UntilI.next {b s w c tally more L L' i : Int} {x y : Num4} (hm : Mach b s w c) (hx : NumOk b s w c x) (hmo : more = 0 ∨ more = 2) (h : UntilI b s w c tally more x L i y L') (g : ¬ y.W < y.S * b ^ y.P.toNat) (hlt : y.S + more < b ^ s.toNat) :
    UntilI b s w c tally more x L (i + 1) { turnL b w c y (-1) tally with S := y.S + more } (L' - 1) := by
  obtain ⟨b0, b1, s0, s1, w0, w1, c0, c1⟩ := id hm
  obtain ⟨i0, eS, eP, eW, W0, eC, eL, S1⟩ := h
  have hp := Int.pow_pos (n := b) (m := x.P.toNat) (by omega)
  have hS : 0 ≤ y.S := by
    have := hx.s0
    have : 0 ≤ more * i := Int.mul_nonneg (by omega) i0
    omega
  have hW1 : y.W < b ^ w.toNat := by
    have : 0 ≤ tri more x.S i * b ^ x.P.toNat := by
      refine Int.mul_nonneg ?_ (Int.le_of_lt hp)
      unfold tri
      split
      · exact Int.mul_nonneg i0 hx.s0
      · rcases Int.lt_or_le 0 i with z | z
        · exact Int.mul_nonneg i0 (by have := hx.s0; omega)
        · have : i = 0 := by omega
          subst this
          simp
    have := hx.w1
    omega
  rw [eP] at g
  have e : y.W + -1 * y.S * b ^ y.P.toNat = y.W - y.S * b ^ x.P.toNat := by
    rw [eP, Int.mul_assoc]
    omega
  have hn : 0 ≤ y.S * b ^ x.P.toNat := Int.mul_nonneg hS (Int.le_of_lt hp)
  have em : (y.W + -1 * y.S * b ^ y.P.toNat) % b ^ w.toNat = y.W - y.S * b ^ x.P.toNat := by
    rw [e]
    exact Int.emod_eq_of_lt (by omega) (by omega)
  refine ⟨by omega, ?_, eP, ?_, ?_, ?_, by omega, hlt⟩
  · show y.S + more = _
    rw [eS, Int.mul_add, Int.mul_one]
    omega
  · show (y.W + -1 * y.S * b ^ y.P.toNat) % b ^ w.toNat = _
    rw [em, tri_step hmo, Int.add_mul, ← eS]
    omega
  · show 0 ≤ (y.W + -1 * y.S * b ^ y.P.toNat) % b ^ w.toNat
    rw [em]
    omega
  · show (y.C + tally * b ^ y.P.toNat) % b ^ c.toNat = _
    rw [eC, eP, Int.emod_add_emod]
    congr 1
    rw [Int.mul_add, Int.mul_one, Int.add_mul]
    omega
/-- the bell, and the turn back -/
theorem turn_back {b s w c tally : Int} {y : Num4} (hb : 0 < b) (W0 : 0 ≤ y.W) (W1 : y.W < b ^ w.toNat) (C0 : 0 ≤ y.C) (C1 : y.C < b ^ c.toNat) : turnL b w c (turnL b w c y (-1) tally) 1 (0 - tally) = y := by
  have hw : 0 < b ^ w.toNat := Int.pow_pos hb
  have hc : 0 < b ^ c.toNat := Int.pow_pos hb
  unfold turnL
  dsimp only
  rw [Int.emod_add_emod, Int.emod_add_emod]
  have e1 : y.W + -1 * y.S * b ^ y.P.toNat + 1 * y.S * b ^ y.P.toNat = y.W := by
    rw [Int.neg_mul, Int.neg_mul]
    omega
  have e2 : y.C + tally * b ^ y.P.toNat + (0 - tally) * b ^ y.P.toNat = y.C := by
    rw [Int.sub_mul, Int.zero_mul]
    omega
  rw [e1, e2, Int.emod_eq_of_lt W0 W1, Int.emod_eq_of_lt C0 C1]
end My
namespace My
open PySem PySem.Spec L2 RT Rn
theorem ediv_of {N u q : Int} (hu : 0 < u) (h1 : q * u ≤ N) (h2 : N < (q + 1) * u) : N / u = q := by
  have a : q ≤ N / u := (Int.le_ediv_iff_mul_le hu).mpr h1
  have b : N / u < q + 1 := (Int.ediv_lt_iff_lt_mul hu).mpr h2
  omega
theorem until_bell0 {b s w c tally L L' i : Int} {x y : Num4} (hm : Mach b s w c) (hx : NumOk b s w c x) (hS : 0 < x.S) (h : UntilI b s w c tally 0 x L i y L') (g : y.W < y.S * b ^ y.P.toNat) : rungN b w c x tally = some y := by
  obtain ⟨b0, b1, s0, s1, w0, w1, c0, c1⟩ := id hm
  obtain ⟨i0, eS, eP, eW, W0, eC, eL, S1⟩ := h
  have hp := Int.pow_pos (n := b) (m := x.P.toNat) (by omega)
  have hsu := Int.mul_pos hS hp
  have eS' : y.S = x.S := by omega
  have et : tri 0 x.S i = i * x.S := by unfold tri; rw [if_pos rfl]
  rw [et, Int.mul_assoc] at eW
  have hi : 0 ≤ i * (x.S * b ^ x.P.toNat) := Int.mul_nonneg i0 (Int.le_of_lt hsu)
  rw [eP, eS'] at g
  have q : x.W / (x.S * b ^ x.P.toNat) = i := by
    refine ediv_of hsu (by omega) ?_
    rw [Int.add_mul, Int.one_mul]
    omega
  unfold rungN
  rw [if_neg (by omega), q]
  have e1 : turnedN b w c x i (-1) tally = y := by
    unfold turnedN
    have e2 : -1 * i * x.S * b ^ x.P.toNat = -(i * (x.S * b ^ x.P.toNat)) := by
      rw [Int.neg_mul, Int.one_mul, Int.neg_mul, Int.neg_mul, Int.mul_assoc]
    rw [e2, Int.emod_eq_of_lt (by omega) (by have := hx.w1; omega), ← eC, show x.W + -(i * (x.S * b ^ x.P.toNat)) = y.W by omega, ← eS', ← eP]
  rw [e1]
theorem until_tri {b s w c tally L L' i : Int} {x y : Num4} (hm : Mach b s w c) (h : UntilI b s w c tally 2 x L i y L') (g : y.W < y.S * b ^ y.P.toNat) (hx : NumOk b s w c x) : oddsM b x = i := by
  obtain ⟨b0, b1, s0, s1, w0, w1, c0, c1⟩ := id hm
  obtain ⟨i0, eS, eP, eW, W0, eC, eL, S1⟩ := h
  have hp := Int.pow_pos (n := b) (m := x.P.toNat) (by omega)
  have et : tri 2 x.S i = i * (x.S + i - 1) := by unfold tri; rw [if_neg (by decide)]
  have e2 := tri_step (S := x.S) (i := i) (show (2 : Int) = 0 ∨ (2 : Int) = 2 from .inr rfl)
  have et2 : tri 2 x.S (i + 1) = (i + 1) * (x.S + i) := by
    unfold tri
    rw [if_neg (by decide)]
    congr 1
    omega
  rw [eP, eS] at g
  have hN : 0 ≤ x.W / b ^ x.P.toNat := Int.ediv_nonneg hx.w0 (Int.le_of_lt hp)
  unfold oddsM
  refine oddsN_uniq hN hx.s0 i0 ?_ ?_
  · rw [Int.le_ediv_iff_mul_le hp, show i + x.S - 1 = x.S + i - 1 by omega, ← et]
    omega
  · rw [Int.ediv_lt_iff_lt_mul hp, show i + x.S = x.S + i by omega, ← et2, e2, Int.add_mul]
    omega
theorem until_bell2 {b s w c tally L L' i : Int} {x y : Num4} (hm : Mach b s w c) (hx : NumOk b s w c x) (h : UntilI b s w c tally 2 x L i y L') (g : y.W < y.S * b ^ y.P.toNat) : oddsT b s w c x tally = some y := by
  have q := until_tri hm h g hx
  obtain ⟨b0, b1, s0, s1, w0, w1, c0, c1⟩ := id hm
  obtain ⟨i0, eS, eP, eW, W0, eC, eL, S1⟩ := h
  have hp := Int.pow_pos (n := b) (m := x.P.toNat) (by omega)
  have et : tri 2 x.S i = i * (x.S + i - 1) := by unfold tri; rw [if_neg (by decide)]
  have hi : 0 ≤ i * (x.S + i - 1) * b ^ x.P.toNat := by
    refine Int.mul_nonneg ?_ (Int.le_of_lt hp)
    rcases Int.lt_or_le 0 i with z | z
    · exact Int.mul_nonneg i0 (by have := hx.s0; omega)
    · have : i = 0 := by omega
      subst this
      simp
  rw [et] at eW
  unfold oddsT
  dsimp only
  rw [q, if_neg (by omega)]
  unfold turnedN
  dsimp only
  have e2 : -1 * i * (x.S + i - 1) * b ^ x.P.toNat = -(i * (x.S + i - 1) * b ^ x.P.toNat) := by
    rw [Int.neg_mul, Int.one_mul, Int.neg_mul, Int.neg_mul]
  rw [e2, Int.emod_eq_of_lt (by omega) (by have := hx.w1; omega), ← eC, show x.W + -(i * (x.S + i - 1) * b ^ x.P.toNat) = y.W by omega, ← eS, ← eP]
theorem until_stuck2 {b s w c tally L L' i : Int} {x y : Num4} (hm : Mach b s w c) (hx : NumOk b s w c x) (h : UntilI b s w c tally 2 x L i y L') (g : ¬ y.W < y.S * b ^ y.P.toNat) (hs : b ^ s.toNat ≤ y.S + 2) : oddsT b s w c x tally = none := by
  obtain ⟨b0, b1, s0, s1, w0, w1, c0, c1⟩ := id hm
  obtain ⟨i0, eS, eP, eW, W0, eC, eL, S1⟩ := h
  have hp := Int.pow_pos (n := b) (m := x.P.toNat) (by omega)
  have hN : 0 ≤ x.W / b ^ x.P.toNat := Int.ediv_nonneg hx.w0 (Int.le_of_lt hp)
  obtain ⟨k0, k1, k2⟩ := oddsN_ok hN hx.s0
  have em : oddsN (x.W / b ^ x.P.toNat) x.S = oddsM b x := rfl
  rw [em] at k0 k1 k2
  have e2 := tri_step (S := x.S) (i := i) (show (2 : Int) = 0 ∨ (2 : Int) = 2 from .inr rfl)
  have et2 : tri 2 x.S (i + 1) = (i + 1) * (x.S + i) := by
    unfold tri
    rw [if_neg (by decide)]
    congr 1
    omega
  rw [eP, eS] at g
  have h1 : (i + 1) * (x.S + i) ≤ x.W / b ^ x.P.toNat := by
    rw [Int.le_ediv_iff_mul_le hp, ← et2, e2, Int.add_mul]
    omega
  have hm2 : i + 1 ≤ oddsM b x := by
    refine Int.not_lt.mp fun z => ?_
    have := Int.mul_le_mul (show oddsM b x + 1 ≤ i + 1 by omega) (show oddsM b x + x.S ≤ x.S + i by omega) (by have := hx.s0; omega) (by omega)
    omega
  unfold oddsT
  dsimp only
  rw [if_pos (by omega)]
/-! ### promises -/
/-- what a deed leaves: the dict of the law, and whether it went well, said only where turns are left -/
def DoneL (s : Addr) (H : Hp) (Q : VK) (o : Option Num4) : Prop := ∀ (good : Bool) (y : Num4) (L' : Int) (H' : Hp), Bt s H H' → H' s = some (.dK (simD y L')) → (0 ≤ L' → o = if good = true then some y else none) → Q (.bl good) H'
def spUntil (K : PySem.W.Frag) : Sp := fun vs H Q _ => ∃ (m s : Addr) (b sl w c tally more L : Int) (x : Num4), vs = [.ref m, .ref s, .int tally, .int more] ∧ MachAt K H m b sl w c ∧ Mach b sl w c ∧ H s = some (.dK (simD x L)) ∧ NumOk b sl w c x ∧ 0 ≤ L ∧ -2 ≤ tally ∧ tally ≤ 2 ∧
  (more = 0 ∧ 0 < x.S ∧ DoneL s H Q (rungN b w c x tally) ∨ more = 2 ∧ DoneL s H Q (oddsT b sl w c x tally))
def spDoL (K : PySem.W.Frag) : Sp := fun vs H Q _ => ∃ (m s d v : Addr) (b sl w c L : Int) (ins : List Inp) (vals : List Int) (x : Num4) (dd : Dee), vs = [.ref m, .ref s, .ref d, .ref v] ∧ MachAt K H m b sl w c ∧ Mach b sl w c ∧ H s = some (.dK (simD x L)) ∧ NumOk b sl w c x ∧ 0 ≤ L ∧
  DeeAt K H d dd ∧ deeOk ins dd = true ∧ insOk sl ins ∧ H v = some (.dK (valsD ins vals)) ∧ v ≠ s ∧ ValsOk b ins vals ∧ DoneL s H Q (stepN b sl w c (valOf ins vals) x dd)
end My
namespace Rn
theorem w_iteNT2 {p : Prop} {ip : Decidable p} {A B : Prop} (hp : ¬ p) (h : A) : if (!decide p) = true then A else B := by
  rw [decide_eq_false hp]
  exact w_iteT h
end Rn
namespace Rn
open PySem PySem.Spec L2 RT
def rInt1 : List V → Hp → VK → Prop := fun xs H Q => (∃ i, xs = [.int i] ∧ Q (.int i) H) ∨ ∃ k, xs = [.bl k] ∧ Q (.int (if k then 1 else 0)) H
theorem k_int1 {X : Cx} : CallR X (.type "int") rInt1 := call_int1
theorem w_intB {k : Bool} {H : Hp} {Q : VK} (h : Q (.int (if k then 1 else 0)) H) : rInt1 [.bl k] H Q := .inr ⟨k, rfl, h⟩
/-- == of two texts -/
theorem w_eqStr {K : PySem.W.Frag} {x y : Str} {H : Hp} {Q : VK} (h : Q (.bl (decide (x = y))) H) : uEq K (.str x) (.str y) H Q := .inl ⟨rfl, by
  have e : decide (V.str x = V.str y) = decide (x = y) := decide_eq_decide.mpr ⟨fun z => V.str.inj z, fun z => by rw [z]⟩
  rw [e]
  exact h⟩
end Rn
namespace My
open PySem PySem.Spec L2 RT Rn
theorem shr_div {b n : Int} (hb : 0 < b) : ∀ k : Nat, shr b n k = n / b ^ k
  | 0 => by
    rw [Int.pow_zero, Int.ediv_one]
    rfl
  | k + 1 => by
    show shr b n k / b = _
    have hp := Int.pow_pos (n := b) (m := k) hb
    rw [shr_div hb k, Int.pow_succ, Int.ediv_ediv, if_neg (fun z => by omega), Int.sub_zero]
theorem turned0 {b s w c way tally : Int} {x : Num4} (h : NumOk b s w c x) : turnedN b w c x 0 way tally = x := by
  unfold turnedN
  rw [Int.mul_zero, Int.zero_mul, Int.zero_mul, Int.add_zero, Int.mul_zero, Int.zero_mul, Int.add_zero, Int.emod_eq_of_lt h.w0 h.w1, Int.emod_eq_of_lt h.c0 h.c1]
theorem turned_next {b w c way tally i : Int} {x : Num4} : turnL b w c (turnedN b w c x i way tally) way tally = turnedN b w c x (i + 1) way tally := by
  unfold turnL turnedN
  dsimp only
  rw [Int.emod_add_emod, Int.emod_add_emod]
  have e1 : x.W + way * i * x.S * b ^ x.P.toNat + way * x.S * b ^ x.P.toNat = x.W + way * (i + 1) * x.S * b ^ x.P.toNat := by
    rw [Int.mul_add, Int.mul_one, Int.add_mul, Int.add_mul]
    omega
  have e2 : x.C + tally * i * b ^ x.P.toNat + tally * b ^ x.P.toNat = x.C + tally * (i + 1) * b ^ x.P.toNat := by
    rw [Int.mul_add, Int.mul_one, Int.add_mul]
    omega
  rw [e1, e2]
theorem turned1 {b w c way tally : Int} {x : Num4} : turnL b w c x way tally = turnedN b w c x 1 way tally := by
  unfold turnL turnedN
  rw [Int.mul_one, Int.mul_one]
end My
namespace Rn
open PySem PySem.Spec L2 RT
theorem w_disp {trs : List (TE × TE)} {σ : St} {H : Hp} {Q : VK} (h : ∀ p, H p = none → tPairs trs σ (upd H p (.dK [])) fun ps H2 => H2 p = some (.dK []) ∧ ∃ kvs : List (Key × V), ps = kvs.map (fun kv => (kV kv.1, kv.2)) ∧ kvs.length ≤ 15 ∧ Q (.ref p) (upd H2 p (.dK (mergeK [] kvs)))) : tDisp trs σ H Q := h
end Rn
namespace My
open PySem PySem.Spec L2 RT Rn
theorem _root_.L2.Same.bt {s : Addr} {H H1 H2 : Hp} (e : Same H H1) (hs : H s = none) (b : Bt s H1 H2) : Same H H2 := fun a x h => b a x (ne_of_none h hs) (e a x h)
theorem upd_upd {H : Hp} {p : Addr} {o u : HO} : upd (upd H p o) p u = upd H p u := by
  funext b
  unfold upd
  split <;> rfl
def spWork (K : PySem.W.Frag) : Sp := fun vs H Q _ => ∃ (m bk v : Addr) (b s w c : Int) (B : Bok) (vals : List Int), vs = [.ref m, .ref bk, .ref v] ∧ MachAt K H m b s w c ∧ Mach b s w c ∧ BokAt K H bk B ∧ BokOk s B ∧ H v = some (.dK (valsD B.ins vals)) ∧ ValsOk b B.ins vals ∧
  (∀ H', Same H H' → Q .non H') ∧ (∀ k, runN b s w c (valOf B.ins vals) B.dds 0 num0 = .inl k → ∀ H', Same H H' → Q (.int (k : Nat)) H') ∧
  (∀ y, runN b s w c (valOf B.ins vals) B.dds 0 num0 = .inr y → ∀ z H', Same H H' → SqT K H' z [.int y.W, .int y.C] → Q (.ref z) H')
end My
set_option Elab.async false
set_option linter.all false
set_option maxRecDepth 100000
set_option maxHeartbeats 4000000
/-! handbooks that the laws draw -/
namespace My
open PySem PySem.Spec L2 RT Rn
theorem w_nx {a cl : Addr} {m : Int} {H : Hp} {Q : VK} {E : XK} (hd : DrawAt H a cl) (h0 : 0 < m) (h1 : m < 2 ^ 30) (h : ∀ (r : Int) (H' : Hp), 0 ≤ r → r < m → Drew a cl H H' → Q (.int r) H') : spNext [.ref a, .int m] H Q E :=
  ⟨a, cl, m, rfl, hd, h0, h1, fun r H' r0 r1 d k t => h r H' r0 r1 ⟨d, k, t⟩⟩
/-- not the drawing state -/
def Off (a cl p : Addr) : Prop := p ≠ a ∧ p ≠ cl
theorem off_new {H : Hp} {a cl p : Addr} (hA : DrawAt H a cl) (hp : H p = none) : Off a cl p := by
  obtain ⟨s, i, cells, ha, hc, _⟩ := hA
  exact ⟨(ne_of_none ha hp).symm, (ne_of_none hc hp).symm⟩
theorem Drew.at {a cl p : Addr} {A B : Hp} {o : HO} (y : Drew a cl A B) (n : Off a cl p) (h : A p = some o) : B p = some o := y.kp p _ h n.1 n.2
/-- the inputs as a list -/
structure InsL (K : PySem.W.Frag) (H : Hp) (li : Addr) (xs : List Addr) (ins : List Inp) : Prop where
  at_ : H li = some (.lst (xs.map V.ref))
  each : Paired (InpAt K H) xs ins
theorem InsL.drew {K : PySem.W.Frag} {A B : Hp} {a cl li : Addr} {xs : List Addr} {ins : List Inp} (h : InsL K A li xs ins) (n : Off a cl li) (y : Drew a cl A B) : InsL K B li xs ins := ⟨y.at n h.at_, paired_imp (fun _ _ h => h.tn y.tn) h.each⟩
theorem InsL.same {K : PySem.W.Frag} {A B : Hp} {li : Addr} {xs : List Addr} {ins : List Inp} (h : InsL K A li xs ins) (y : Same A B) : InsL K B li xs ins := ⟨y _ _ h.at_, paired_imp (fun _ _ h => h.tn y.tn) h.each⟩
theorem InsL.pick {K : PySem.W.Frag} {H : Hp} {li : Addr} {xs : List Addr} {ins : List Inp} (h : InsL K H li xs ins) {r : Int} (r0 : 0 ≤ r) (r1 : r < ((xs.map V.ref).length : Nat)) : ∃ (x : Addr) (i : Inp), atI (xs.map V.ref) r = some (.ref x) ∧ i ∈ ins ∧ InpAt K H x i := by
  have hl : r.toNat < xs.length := by rw [List.length_map] at r1; omega
  have hx : xs[r.toNat]? = some xs[r.toNat] := List.getElem?_eq_getElem hl
  obtain ⟨i, hi, hr⟩ := paired_getL h.each hx
  exact ⟨_, i, atI_of r0 (by rw [List.getElem?_map, hx]; rfl), List.mem_of_getElem? hi, hr⟩
/-- deeds that make sense -/
def AllD (K : PySem.W.Frag) (ins : List Inp) (H : Hp) (xs : List V) : Prop := ∀ x ∈ xs, ∃ d dd, x = V.ref d ∧ deeOk ins dd = true ∧ DeeAt K H d dd
theorem AllD.nil {K : PySem.W.Frag} {ins : List Inp} {H : Hp} : AllD K ins H [] := fun _ h => nomatch h
theorem AllD.cons {K : PySem.W.Frag} {ins : List Inp} {H : Hp} {d : Addr} {xs : List V} (dd : Dee) (g : deeOk ins dd = true) (h : DeeAt K H d dd) (r : AllD K ins H xs) : AllD K ins H (V.ref d :: xs) := fun x hx => by
  rcases List.mem_cons.mp hx with e | hx
  · exact ⟨d, dd, e, g, h⟩
  · exact r x hx
theorem AllD.tn {K : PySem.W.Frag} {ins : List Inp} {A B : Hp} {xs : List V} (h : AllD K ins A xs) (t : Tn A B) : AllD K ins B xs := fun x hx => by
  obtain ⟨d, dd, e, g, k⟩ := h x hx
  exact ⟨d, dd, e, g, k.tn t⟩
theorem AllD.app {K : PySem.W.Frag} {ins : List Inp} {H : Hp} {xs ys : List V} (h : AllD K ins H xs) (k : AllD K ins H ys) : AllD K ins H (xs ++ ys) := fun x hx => (List.mem_append.mp hx).elim (h x) (k x)
theorem AllD.pick {K : PySem.W.Frag} {ins : List Inp} {H : Hp} {xs : List V} (h : AllD K ins H xs) {r : Int} (r0 : 0 ≤ r) (r1 : r < (xs.length : Nat)) : ∃ d dd, atI xs r = some (.ref d) ∧ deeOk ins dd = true ∧ DeeAt K H d dd := by
  have hl : r.toNat < xs.length := by omega
  have hx : xs[r.toNat]? = some xs[r.toNat] := List.getElem?_eq_getElem hl
  obtain ⟨d, dd, e, g, k⟩ := h _ (List.mem_of_getElem? hx)
  exact ⟨d, dd, by rw [atI_of r0 hx, e], g, k⟩
theorem figs_of_mem {s : Int} {ins : List Inp} {i : Inp} (h : insOk s ins) (hi : i ∈ ins) : figsOf ins i.nm = some i.fg := by
  have e := figsOf_some hi
  unfold figsOf at e ⊢
  cases f : ins.find? fun j => decide (j.nm = i.nm) with
  | none => rw [f] at e; cases e
  | some j =>
    have hj := List.mem_of_find?_eq_some f
    have en : j.nm = i.nm := by
      have := List.find?_some f
      simpa using this
    obtain ⟨k1, h1⟩ := List.getElem?_of_mem hj
    obtain ⟨k2, h2⟩ := List.getElem?_of_mem hi
    have := names_uniq h h1 h2 en
    subst this
    rw [h1] at h2
    cases h2
    rfl
theorem ok_load {ins : List Inp} {i : Inp} (hi : i ∈ ins) : deeOk ins (.load i.nm) = true := figsOf_some hi
theorem ok_turns {s : Int} {ins : List Inp} {i : Inp} {k x y : Int} (h : insOk s ins) (hi : i ∈ ins) (k0 : 0 ≤ k) (k1 : k < i.fg) (hx : x = 1 ∨ x = -1) (hy : -1 ≤ y ∧ y ≤ 1) : deeOk ins (.turns i.nm k x y) = true := by
  unfold deeOk
  simp only [figs_of_mem h hi, wayOk, tallyOk, Bool.and_eq_true, decide_eq_true_eq]
  exact ⟨⟨⟨k0, k1⟩, hx⟩, hy⟩
theorem ok_turn {ins : List Inp} {x y : Int} (hx : x = 1 ∨ x = -1) (hy : -1 ≤ y ∧ y ≤ 1) : deeOk ins (.turn x y) = true := by
  unfold deeOk
  simp only [wayOk, tallyOk, Bool.and_eq_true, decide_eq_true_eq]
  exact ⟨hx, hy⟩
theorem ok_bell {ins : List Inp} {y : Int} (hy : -1 ≤ y ∧ y ≤ 1) : deeOk ins (.bell y) = true := by
  unfold deeOk
  simp only [tallyOk, decide_eq_true_eq]
  exact hy
theorem ok_odds {ins : List Inp} {y : Int} (hy : -1 ≤ y ∧ y ≤ 1) : deeOk ins (.odds y) = true := by
  unfold deeOk
  simp only [tallyOk, decide_eq_true_eq]
  exact hy
def spBooksMachine : Sp := fun vs H Q _ => ∃ (a cl : Addr), vs = [.ref a] ∧ DrawAt H a cl ∧ ∀ (b s w c : Int) p H', Mach b s w c → b ≤ 5 → 2 ≤ s → Drew a cl H H' → H' p = some (.tup [.int b, .int s, .int w, .int c]) → Q (.ref p) H'
/-- a drawn deed -/
def spDeedL (K : PySem.W.Frag) : Sp := fun vs H Q _ => ∃ (a cl li : Addr) (xs : List Addr) (ins : List Inp) (s : Int), vs = [.ref a, .ref li] ∧ DrawAt H a cl ∧ InsL K H li xs ins ∧ Off a cl li ∧ insOk s ins ∧ s ≤ 6 ∧ ins ≠ [] ∧
  ∀ d dd H', deeOk ins dd = true → DeeAt K H' d dd → Drew a cl H H' → Q (.ref d) H'
end My
namespace My
open PySem PySem.Spec L2 RT Rn
/-- sides that hold, no deeper than so -/
def AllS (K : PySem.W.Frag) (ins : List Inp) (k : Nat) (H : Hp) (xs : List V) : Prop := ∀ x ∈ xs, ∃ d p, x = V.ref d ∧ sidOk ins p k = true ∧ SidAt K H d p
theorem AllS.nil {K : PySem.W.Frag} {ins : List Inp} {k : Nat} {H : Hp} : AllS K ins k H [] := fun _ h => nomatch h
theorem AllS.cons {K : PySem.W.Frag} {ins : List Inp} {k : Nat} {H : Hp} {d : Addr} {xs : List V} (p : Sid) (g : sidOk ins p k = true) (h : SidAt K H d p) (r : AllS K ins k H xs) : AllS K ins k H (V.ref d :: xs) := fun x hx => by
  rcases List.mem_cons.mp hx with e | hx
  · exact ⟨d, p, e, g, h⟩
  · exact r x hx
theorem AllS.tn {K : PySem.W.Frag} {ins : List Inp} {k : Nat} {A B : Hp} {xs : List V} (h : AllS K ins k A xs) (t : Tn A B) : AllS K ins k B xs := fun x hx => by
  obtain ⟨d, dd, e, g, k⟩ := h x hx
  exact ⟨d, dd, e, g, k.tn t⟩
theorem AllS.pick {K : PySem.W.Frag} {ins : List Inp} {k : Nat} {H : Hp} {xs : List V} (h : AllS K ins k H xs) {r : Int} (r0 : 0 ≤ r) (r1 : r < (xs.length : Nat)) : ∃ d p, atI xs r = some (.ref d) ∧ sidOk ins p k = true ∧ SidAt K H d p := by
  have hl : r.toNat < xs.length := by omega
  have hx : xs[r.toNat]? = some xs[r.toNat] := List.getElem?_eq_getElem hl
  obtain ⟨d, dd, e, g, k⟩ := h _ (List.mem_of_getElem? hx)
  exact ⟨d, dd, by rw [atI_of r0 hx, e], g, k⟩
theorem pick3I {x y z r : Int} (h0 : 0 ≤ r) (h1 : r < 3) : ∃ v, atI [V.int x, V.int y, V.int z] r = some (.int v) ∧ (v = x ∨ v = y ∨ v = z) := by
  rcases (show r = 0 ∨ r = 1 ∨ r = 2 by omega) with rfl | rfl | rfl
  · exact ⟨x, rfl, .inl rfl⟩
  · exact ⟨y, rfl, .inr (.inl rfl)⟩
  · exact ⟨z, rfl, .inr (.inr rfl)⟩
/-- a drawn side -/
def spSideL (K : PySem.W.Frag) (n : Nat) : Sp := fun vs H Q _ => ∃ (a cl li : Addr) (xs : List Addr) (ins : List Inp) (s : Int) (k : Nat), vs = [.ref a, .ref li, .int k] ∧ k ≤ n ∧ k ≤ 20 ∧ DrawAt H a cl ∧ InsL K H li xs ins ∧ Off a cl li ∧ insOk s ins ∧ ins ≠ [] ∧
  ∀ d p H', sidOk ins p (k + 1) = true → SidAt K H' d p → Drew a cl H H' → Q (.ref d) H'
end My
namespace My
open PySem PySem.Spec L2 RT Rn
theorem InsL.last {K : PySem.W.Frag} {H : Hp} {li : Addr} {xs : List Addr} {ins : List Inp} (h : InsL K H li xs ins) (hn : 0 < xs.length) : ∃ (x : Addr) (i : Inp), atI (xs.map V.ref) (-1) = some (.ref x) ∧ i ∈ ins ∧ InpAt K H x i := by
  have hl : xs.length - 1 < xs.length := by omega
  have hx : xs[xs.length - 1]? = some xs[xs.length - 1] := List.getElem?_eq_getElem hl
  obtain ⟨i, hi, hr⟩ := paired_getL h.each hx
  refine ⟨_, i, ?_, List.mem_of_getElem? hi, hr⟩
  unfold atI ixN
  rw [if_neg (by decide), if_pos (by rw [List.length_map]; omega)]
  show ((xs.map V.ref)[(-1 + ((xs.map V.ref).length : Nat) : Int).toNat]?) = _
  rw [List.getElem?_map, show (-1 + ((xs.map V.ref).length : Nat) : Int).toNat = xs.length - 1 by rw [List.length_map]; omega, hx]
  rfl
/-- claims that hold together -/
def AllC (K : PySem.W.Frag) (ins : List Inp) (H : Hp) (xs : List V) : Prop := ∀ x ∈ xs, ∃ d c, x = V.ref d ∧ claOk ins c = true ∧ ClaAt K H d c
theorem AllC.nil {K : PySem.W.Frag} {ins : List Inp} {H : Hp} : AllC K ins H [] := fun _ h => nomatch h
theorem AllC.cons {K : PySem.W.Frag} {ins : List Inp} {H : Hp} {d : Addr} {xs : List V} (c : Cla) (g : claOk ins c = true) (h : ClaAt K H d c) (r : AllC K ins H xs) : AllC K ins H (V.ref d :: xs) := fun x hx => by
  rcases List.mem_cons.mp hx with e | hx
  · exact ⟨d, c, e, g, h⟩
  · exact r x hx
theorem AllC.tn {K : PySem.W.Frag} {ins : List Inp} {A B : Hp} {xs : List V} (h : AllC K ins A xs) (t : Tn A B) : AllC K ins B xs := fun x hx => by
  obtain ⟨d, dd, e, g, k⟩ := h x hx
  exact ⟨d, dd, e, g, k.tn t⟩
theorem AllC.app {K : PySem.W.Frag} {ins : List Inp} {H : Hp} {xs ys : List V} (h : AllC K ins H xs) (k : AllC K ins H ys) : AllC K ins H (xs ++ ys) := fun x hx => (List.mem_append.mp hx).elim (h x) (k x)
theorem AllC.pick {K : PySem.W.Frag} {ins : List Inp} {H : Hp} {xs : List V} (h : AllC K ins H xs) {r : Int} (r0 : 0 ≤ r) (r1 : r < (xs.length : Nat)) : ∃ d c, atI xs r = some (.ref d) ∧ claOk ins c = true ∧ ClaAt K H d c := by
  have hl : r.toNat < xs.length := by omega
  have hx : xs[r.toNat]? = some xs[r.toNat] := List.getElem?_eq_getElem hl
  obtain ⟨d, dd, e, g, k⟩ := h _ (List.mem_of_getElem? hx)
  exact ⟨d, dd, by rw [atI_of r0 hx, e], g, k⟩
def spLikely (K : PySem.W.Frag) : Sp := fun vs H Q _ => ∃ (a cl li : Addr) (xs : List Addr) (ins : List Inp) (s : Int), vs = [.ref a, .ref li] ∧ DrawAt H a cl ∧ InsL K H li xs ins ∧ Off a cl li ∧ insOk s ins ∧ ins ≠ [] ∧
  ∀ d c H', claOk ins c = true → ClaAt K H' d c → Drew a cl H H' → Q (.ref d) H'
end My
namespace My
open PySem PySem.Spec L2 RT Rn
theorem DrawAt.off {H : Hp} {a cl p : Addr} {o : HO} (h : DrawAt H a cl) (n : Off a cl p) : DrawAt (upd H p o) a cl := by
  obtain ⟨s, i, cells, ha, hc, r⟩ := h
  exact ⟨s, i, cells, by rw [upd_ne n.1.symm]; exact ha, by rw [upd_ne n.2.symm]; exact hc, r⟩
end My
namespace Rn
open PySem PySem.Spec L2 RT
section
variable {K : PySem.W.Frag} {H : Hp} {Q : VK}
theorem w_slL {a : Addr} {xs : List V} {lo hi : Option Int} (hl : SqL K H a xs) (h : ∀ p H', H p = none → Same H H' → H' p = some (.lst (cutV xs lo hi)) → Q (.ref p) H') : uSl K (.ref a) lo hi H Q := .inr ⟨a, xs, rfl, hl, fun p hp => h p _ hp (Same.new hp) upd_same⟩
theorem w_slS {z : Str} {lo hi : Option Int} (hz : z.length ≤ 100000) (h : Q (.str (cutS z lo hi)) H) : rSlS (.str z) lo hi H Q := ⟨z, rfl, Nat.le_trans hz (by decide), h⟩
theorem w_catS {x y : Str} (hz : x.length + y.length ≤ 100000) (h : Q (.str (x ++ y)) H) : uAdd K (.str x) (.str y) H Q := .inr (.inr (.inr ⟨x, y, rfl, rfl, Nat.le_trans hz (by decide), h⟩))
theorem cut_drop {xs : List V} {k : Int} (h0 : 0 ≤ k) : cutV xs (some k) none = xs.drop k.toNat := by
  have e2 : HT.sIx xs.length 0 (some k) = min k.toNat xs.length := by
    show (if k < 0 then _ else min k.toNat _) = _
    rw [if_neg (by omega)]
  have e4 : HT.sIx xs.length xs.length none = xs.length := rfl
  unfold cutV
  rw [e2, e4]
  by_cases g : k.toNat ≤ xs.length
  · rw [Nat.min_eq_left g]
    exact List.take_of_length_le (Nat.le_of_eq (by rw [List.length_drop]))
  · rw [Nat.min_eq_right (by omega), List.drop_eq_nil_of_le (Nat.le_refl _), List.drop_eq_nil_of_le (by omega)]
    simp
theorem cut_take {xs : List V} {k : Int} (h0 : 0 ≤ k) : cutV xs none (some k) = xs.take k.toNat := by
  have e1 : HT.sIx xs.length xs.length (some k) = min k.toNat xs.length := by
    show (if k < 0 then _ else min k.toNat _) = _
    rw [if_neg (by omega)]
  have e3 : HT.sIx xs.length 0 none = 0 := rfl
  unfold cutV
  rw [e1, e3, List.drop_zero, Nat.sub_zero]
  by_cases g : k.toNat ≤ xs.length
  · rw [Nat.min_eq_left g]
  · rw [Nat.min_eq_right (by omega), List.take_of_length_le (Nat.le_refl _), List.take_of_length_le (by omega)]
end
end Rn
namespace My
open PySem PySem.Spec L2 RT Rn
/-- names for inputs -/
structure NamesOk (ns : List Str) : Prop where
  nd : ns.Nodup
  ok : ∀ n ∈ ns, nameOk n = true
theorem NamesOk.take {ns : List Str} (h : NamesOk ns) (k : Nat) : NamesOk (ns.take k) := ⟨h.nd.sublist (List.take_sublist k ns), fun n hn => h.ok n (List.mem_of_mem_take hn)⟩
theorem NamesOk.rot {ns : List Str} (h : NamesOk ns) (k : Nat) : NamesOk (ns.drop k ++ ns.take k) := by
  have p : (ns.drop k ++ ns.take k).Perm ns := by
    have := List.perm_append_comm (l₁ := ns.drop k) (l₂ := ns.take k)
    rw [List.take_append_drop] at this
    exact this
  exact ⟨p.nodup_iff.mpr h.nd, fun n hn => h.ok n (p.mem_iff.mp hn)⟩
def namesB (ns : List Str) : Bool := decide ns.Nodup && ns.all nameOk
theorem namesB_ok {ns : List Str} (h : namesB ns = true) : NamesOk ns := by
  unfold namesB at h
  rw [Bool.and_eq_true, decide_eq_true_eq, List.all_eq_true] at h
  exact ⟨h.1, h.2⟩
theorem names_word {r : Int} (r0 : 0 ≤ r) (r1 : r < 7) : NamesOk [cutS "abcdefg" (some r) none, cutS "abcdefg" (some r) none ++ "x", cutS "abcdefg" (some r) none ++ "y", "x" ++ cutS "abcdefg" (some r) none] ∧ (cutS "abcdefg" (some r) none).length ≤ 7 := by
  rcases (show r = 0 ∨ r = 1 ∨ r = 2 ∨ r = 3 ∨ r = 4 ∨ r = 5 ∨ r = 6 by omega) with rfl | rfl | rfl | rfl | rfl | rfl | rfl <;> exact ⟨namesB_ok (by decide +kernel), by decide +kernel⟩
theorem names_nd : NamesOk ["n", "d", "nd", "dn"] := namesB_ok (by decide +kernel)
/-- inputs of such names -/
theorem ins_of {s : Int} {ins : List Inp} (h : NamesOk (names ins)) (h4 : ins.length ≤ 4) (hf : ∀ i ∈ ins, 1 ≤ i.fg ∧ i.fg ≤ s ∧ (i.ls = 0 ∨ i.ls = 1)) : insOk s ins := by
  refine ⟨h4, fun k i hk => ?_⟩
  have hm := List.mem_of_getElem? hk
  obtain ⟨f1, f2, f3⟩ := hf i hm
  unfold inputOk
  simp only [Bool.and_eq_true, Bool.not_eq_true', decide_eq_false_iff_not, decide_eq_true_eq]
  refine ⟨⟨⟨⟨fun z => ?_, h.ok _ (List.mem_map_of_mem hm)⟩, f1⟩, f2⟩, f3⟩
  have hk' : (names ins)[k]? = some i.nm := by
    unfold names
    rw [List.getElem?_map, hk]
    rfl
  have e : names ins = (names ins).take k ++ (names ins).drop k := (List.take_append_drop k _).symm
  have nd := h.nd
  rw [e] at nd
  have hd : i.nm ∈ (names ins).drop k := by
    refine List.mem_of_getElem? (i := 0) ?_
    rw [List.getElem?_drop, Nat.add_zero]
    exact hk'
  exact (List.nodup_append.mp nd).2.2 _ z _ hd rfl
/-- drawn inputs -/
def spInputsL (K : PySem.W.Frag) : Sp := fun vs H Q _ => ∃ (a cl : Addr) (most : Int), vs = [.ref a, .int most] ∧ DrawAt H a cl ∧ 1 ≤ most ∧ most ≤ 6 ∧
  ∀ (li : Addr) (xs : List Addr) (ins : List Inp) (H' : Hp), H li = none → insOk most ins → ins ≠ [] → InsL K H' li xs ins → Drew a cl H H' → Q (.ref li) H'
end My
namespace My
open PySem PySem.Spec L2 RT Rn
theorem Drew.mut {a cl D : Addr} {A B : Hp} {xs ys : List V} (h : Drew a cl A B) (hA : DrawAt A a cl) (hD : A D = none) (hB : B D = some (.lst xs)) : Drew a cl A (upd B D (.lst ys)) :=
  ⟨h.dr.off (off_new hA hD), fun b o hb na nc => by rw [upd_ne (ne_of_none hb hD)]; exact h.kp b o hb na nc, h.tn.trans (tn_mut rfl hB)⟩
/-- a list of inputs under way -/
def InsP (K : PySem.W.Frag) (a cl : Addr) (most : Int) (src : List Str) (H0 : Hp) (D : Addr) (i : Nat) (H' : Hp) : Prop := Drew a cl H0 H' ∧ ∃ (ads : List Addr) (ins : List Inp), H' D = some (.lst (ads.map V.ref)) ∧ Paired (InpAt K H') ads ins ∧ names ins = src.take i ∧ ∀ j ∈ ins, 1 ≤ j.fg ∧ j.fg ≤ most ∧ (j.ls = 0 ∨ j.ls = 1)
theorem paired_snoc {α β : Type} {R : α → β → Prop} {a : α} {b : β} (h : R a b) : ∀ {xs : List α} {ys : List β}, Paired R xs ys → Paired R (xs ++ [a]) (ys ++ [b])
  | _, _, .nil => .cons h .nil
  | _, _, .cons k t => .cons k (paired_snoc h t)
theorem InsP.start {K : PySem.W.Frag} {a cl : Addr} {most : Int} {src : List Str} {H0 H1 : Hp} {D : Addr} (hd : DrawAt H0 a cl) (s : Same H0 H1) (h : H1 D = some (.lst [])) : InsP K a cl most src H0 D 0 H1 :=
  ⟨(Drew.refl hd).same s, [], [], h, .nil, by simp [names], fun _ h => nomatch h⟩
theorem InsP.put {K : PySem.W.Frag} {a cl : Addr} {most : Int} {src : List Str} {H0 H1 H2 H3 : Hp} {D t : Addr} {i : Nat} {nm : Str} {fg ls : Int} (hd : DrawAt H0 a cl) (hD : H0 D = none) (p : InsP K a cl most src H0 D i H1) (d : Drew a cl H1 H2) (s : Same H2 H3) (ht : H3 t = some (.tup [.str nm, .int fg, .int ls]))
    (hn : src[i]? = some nm) (h1 : 1 ≤ fg) (h2 : fg ≤ most) (h3 : ls = 0 ∨ ls = 1) (hz : src.length ≤ 1000) : Put D (InsP K a cl most src H0 D (i + 1)) (.ref t) H3 := by
  obtain ⟨d01, ads, ins, hl, hp, hnm, hf⟩ := p
  have o := off_new hd hD
  have hl3 := s _ _ (d.at o hl)
  have hi : i < src.length := (List.getElem?_eq_some_iff.mp hn).1
  have hlen : ads.length = i := by
    have e1 := paired_len hp
    have e2 : (names ins).length = ins.length := by simp [names]
    rw [hnm, List.length_take] at e2
    omega
  refine w_put hl3 (by rw [List.length_map]; omega) fun H4 e4 h4 => ?_
  have t34 : Tn H3 H4 := tn_mut e4 hl3
  refine ⟨?_, ads ++ [t], ins ++ [⟨nm, fg, ls⟩], ?_, ?_, ?_, ?_⟩
  · rw [e4]
    exact ((d01.trans d).same s).mut hd hD hl3
  · rw [h4, List.map_append]
    rfl
  · exact paired_snoc (R := InpAt K H4) (b := ⟨nm, fg, ls⟩) (SqT.tn t34 (SqT.of ht)) (paired_imp (fun _ _ h => InpAt.tn h (d.tn.trans (s.tn.trans t34))) hp)
  · unfold names at hnm ⊢
    rw [List.map_append, hnm, List.take_add_one, hn]
    rfl
  · intro j hj
    rcases List.mem_append.mp hj with z | z
    · exact hf j z
    · rw [List.mem_singleton.mp z]
      exact ⟨h1, h2, h3⟩
theorem map_str {xs : List Str} {i : Nat} {v : V} (h : (xs.map V.str)[i]? = some v) : ∃ r, xs[i]? = some r ∧ v = .str r := by
  rw [List.getElem?_map] at h
  cases e : xs[i]? with
  | none => rw [e] at h; cases h
  | some r => rw [e] at h; cases h; exact ⟨r, rfl, rfl⟩
end My
namespace My
open PySem PySem.Spec L2 RT Rn
/-- a list of deeds, new since H -/
structure DeesL (K : PySem.W.Frag) (a cl : Addr) (ins : List Inp) (H H' : Hp) (dl : Addr) (ds : List V) : Prop where
  at_ : H' dl = some (.lst ds)
  off : Off a cl dl
  new : H dl = none
  all : AllD K ins H' ds
theorem DeesL.drew {K : PySem.W.Frag} {a cl : Addr} {ins : List Inp} {H A B : Hp} {dl : Addr} {ds : List V} (h : DeesL K a cl ins H A dl ds) (d : Drew a cl A B) : DeesL K a cl ins H B dl ds := ⟨d.at h.off h.at_, h.off, h.new, h.all.tn d.tn⟩
theorem DeesL.same {K : PySem.W.Frag} {a cl : Addr} {ins : List Inp} {H A B : Hp} {dl : Addr} {ds : List V} (h : DeesL K a cl ins H A dl ds) (d : Same A B) : DeesL K a cl ins H B dl ds := ⟨d _ _ h.at_, h.off, h.new, h.all.tn d.tn⟩
def spLongL (K : PySem.W.Frag) : Sp := fun vs H Q _ => ∃ (a cl li : Addr) (xs : List Addr) (ins : List Inp) (s : Int), vs = [.ref a, .ref li] ∧ DrawAt H a cl ∧ InsL K H li xs ins ∧ Off a cl li ∧ insOk s ins ∧ ins ≠ [] ∧
  ∀ dl ds H', DeesL K a cl ins H H' dl ds → ds.length ≤ 34 → Drew a cl H H' → Q (.ref dl) H'
theorem AllD.data {K : PySem.W.Frag} {ins : List Inp} {H : Hp} : ∀ {xs : List V}, AllD K ins H xs → ∃ (ads : List Addr) (dds : List Dee), xs = ads.map V.ref ∧ Paired (DeeAt K H) ads dds ∧ ∀ d ∈ dds, deeOk ins d = true
  | [], _ => ⟨[], [], rfl, .nil, fun _ h => nomatch h⟩
  | x :: xs, h => by
    obtain ⟨d, dd, rfl, g, k⟩ := h x List.mem_cons_self
    obtain ⟨ads, dds, rfl, p, q⟩ := AllD.data (xs := xs) fun y hy => h y (List.mem_cons_of_mem _ hy)
    refine ⟨d :: ads, dd :: dds, rfl, .cons k p, fun z hz => ?_⟩
    rcases List.mem_cons.mp hz with e | e
    · rw [e]; exact g
    · exact q z e
theorem AllC.data {K : PySem.W.Frag} {ins : List Inp} {H : Hp} : ∀ {xs : List V}, AllC K ins H xs → ∃ (ads : List Addr) (cs : List Cla), xs = ads.map V.ref ∧ Paired (ClaAt K H) ads cs ∧ ∀ d ∈ cs, claOk ins d = true
  | [], _ => ⟨[], [], rfl, .nil, fun _ h => nomatch h⟩
  | x :: xs, h => by
    obtain ⟨d, dd, rfl, g, k⟩ := h x List.mem_cons_self
    obtain ⟨ads, dds, rfl, p, q⟩ := AllC.data (xs := xs) fun y hy => h y (List.mem_cons_of_mem _ hy)
    refine ⟨d :: ads, dd :: dds, rfl, .cons k p, fun z hz => ?_⟩
    rcases List.mem_cons.mp hz with e | e
    · rw [e]; exact g
    · exact q z e
theorem AllD.sub {K : PySem.W.Frag} {ins : List Inp} {H : Hp} {xs ys : List V} (h : AllD K ins H xs) (k : ∀ y ∈ ys, y ∈ xs) : AllD K ins H ys := fun y hy => h y (k y hy)
theorem sidOk_mono {ins : List Inp} : ∀ {p : Sid} {k : Nat}, sidOk ins p k = true → sidOk ins p (k + 1) = true
  | .num n, 0, h => by cases h
  | .wheels, 0, h => by cases h
  | .counts, 0, h => by cases h
  | .inp n, 0, h => by cases h
  | .add p q, 0, h => by cases h
  | .times p q, 0, h => by cases h
  | .num n, k + 1, h => h
  | .wheels, k + 1, h => h
  | .counts, k + 1, h => h
  | .inp n, k + 1, h => h
  | .add p q, k + 1, h => by
    have h' : (sidOk ins p k && sidOk ins q k) = true := h
    rw [Bool.and_eq_true] at h'
    show (sidOk ins p (k + 1) && sidOk ins q (k + 1)) = true
    rw [sidOk_mono h'.1, sidOk_mono h'.2]
    rfl
  | .times p q, k + 1, h => by
    have h' : (sidOk ins p k && sidOk ins q k) = true := h
    rw [Bool.and_eq_true] at h'
    show (sidOk ins p (k + 1) && sidOk ins q (k + 1)) = true
    rw [sidOk_mono h'.1, sidOk_mono h'.2]
    rfl
def spBookL (K : PySem.W.Frag) : Sp := fun vs H Q _ => ∃ (a cl : Addr) (most : Int), vs = [.ref a, .int most] ∧ DrawAt H a cl ∧ 1 ≤ most ∧ most ≤ 6 ∧
  ∀ (bk : Addr) (B : Bok) (H' : Hp), BokAt K H' bk B → BokOk most B → B.ins ≠ [] → Drew a cl H H' → Q (.ref bk) H'
end My
namespace Rn
open PySem PySem.Spec L2 RT
/-- what follows a statement is read once -/
theorem w_join {t : TS} {D : Ends} {σ : St} {H : Hp} (R : St → Hp → Prop) (h1 : ∀ N : St → Hp → Prop, (∀ σ' H', R σ' H' → N σ' H') → t { D with nx := N } σ H) (h2 : ∀ σ' H', R σ' H' → D.nx σ' H') : t D σ H := h1 D.nx h2
end Rn
namespace My
open PySem PySem.Spec L2 RT Rn
/-- dicts of values, in a list -/
def AllV (b : Int) (ins : List Inp) (H : Hp) (xs : List V) : Prop := ∀ x ∈ xs, ∃ d vals, x = V.ref d ∧ H d = some (.dK (valsD ins vals)) ∧ ValsOk b ins vals
theorem AllV.same {b : Int} {ins : List Inp} {A B : Hp} {xs : List V} (h : AllV b ins A xs) (e : Same A B) : AllV b ins B xs := fun x hx => by
  obtain ⟨d, v, e1, e2, e3⟩ := h x hx
  exact ⟨d, v, e1, e _ _ e2, e3⟩
theorem valsD_none {ins : List Inp} {vals : List Int} {n : Str} (h : n ∉ names ins) : valV (valsD ins vals) (.inr n) = none := by
  induction ins generalizing vals with
  | nil => rfl
  | cons i r ih =>
    cases vals with
    | nil => rfl
    | cons v vs =>
      have e : ¬ i.nm = n := fun z => h (by rw [← z]; exact List.mem_cons_self)
      have e2 : ¬ ((Sum.inr i.nm : Key)) = .inr n := fun z => e (Sum.inr.inj z)
      show valV (((Sum.inr i.nm : Key), V.int v) :: valsD r vs) _ = _
      rw [valV_neg (p := ((Sum.inr i.nm : Key), V.int v)) e2]
      exact ih fun z => h (List.mem_cons_of_mem _ z)
theorem valsD_snoc {s b : Int} {ins : List Inp} {vals : List Int} {k : Nat} {i : Inp} {n : Int} (hi : insOk s ins) (h : ins[k]? = some i) (hl : ValsOk b (ins.take k) vals) : putK (valsD (ins.take k) vals) (.inr i.nm) (.int n) = valsD (ins.take (k + 1)) (vals ++ [n]) := by
  have g := hi.2 k i h
  have e : valV (valsD (ins.take k) vals) (.inr i.nm) = none := by
    refine valsD_none ?_
    have := inputOk_new g
    unfold names at this ⊢
    rw [← List.map_take] at this
    exact this
  rw [putK_new _ e]
  unfold valsD
  rw [List.take_add_one, h]
  show _ = List.map _ ((ins.take k ++ [i]).zip (vals ++ [n]))
  rw [List.zip_append hl.len.symm, List.map_append]
  rfl
theorem ValsOk.snoc {b : Int} {ins : List Inp} {vals : List Int} {k : Nat} {i : Inp} {n : Int} (h : ins[k]? = some i) (hl : ValsOk b (ins.take k) vals) (h1 : i.ls ≤ n) (h2 : n < b ^ i.fg.toNat) : ValsOk b (ins.take (k + 1)) (vals ++ [n]) := by
  have hk : k < ins.length := (List.getElem?_eq_some_iff.mp h).1
  have e : ins.take (k + 1) = ins.take k ++ [i] := by
    rw [List.take_add_one, h]
    rfl
  have lk : (ins.take k).length = k := by rw [List.length_take]; omega
  refine ⟨by rw [e, List.length_append, List.length_append, hl.len]; rfl, fun j x v hx hv => ?_⟩
  rw [e] at hx
  by_cases z : j < k
  · rw [List.getElem?_append_left (by omega)] at hx
    rw [List.getElem?_append_left (by rw [hl.len]; omega)] at hv
    exact hl.at_ j x v hx hv
  · rw [List.getElem?_append_right (by omega), lk] at hx
    rw [List.getElem?_append_right (by rw [hl.len]; omega), hl.len, lk] at hv
    have jk : j - k = 0 := by
      refine Nat.eq_zero_of_not_pos fun y => ?_
      rw [List.getElem?_eq_none (by simp; omega)] at hx
      cases hx
    rw [jk] at hx hv
    cases hx
    cases hv
    exact ⟨h1, h2⟩
def spAllVals (K : PySem.W.Frag) : Sp := fun vs H Q _ => ∃ (m bk : Addr) (b s w c : Int) (B : Bok), vs = [.ref m, .ref bk] ∧ MachAt K H m b s w c ∧ Mach b s w c ∧ b ≤ 7 ∧ BokAt K H bk B ∧ BokOk s B ∧ (∀ i ∈ B.ins, i.fg ≤ 2) ∧
  ∀ lf vs H', Same H H' → H lf = none → H' lf = some (.lst vs) → AllV b B.ins H' vs → 0 < vs.length → vs.length ≤ 6000000 → Q (.ref lf) H'
end My
namespace Rn
open PySem PySem.Spec L2 RT
theorem w_appendW {l : Addr} {xs : List V} {y : V} {H : Hp} {Q : VK} (hl : H l = some (.lst xs)) (hz : xs.length ≤ 10000000) (h : ∀ H', H' = upd H l (.lst (xs ++ [y])) → H' l = some (.lst (xs ++ [y])) → Q .non H') : rAppend (.ref l) [y] H Q := ⟨l, xs, y, rfl, rfl, hl, Nat.lt_of_le_of_lt hz (by decide), h _ rfl upd_same⟩
end Rn
namespace Rn
open PySem PySem.Spec L2 RT
section
variable {σ : St} {H : Hp} {Q : VK}
theorem w_dnewR (h : ∀ p H', H p = none → Same H H' → H' p = some (.dK []) → Q (.ref p) H') : tDNewK σ H Q := fun p hp => h p _ hp (Same.new hp) upd_same
end
end Rn
namespace Rn
open PySem PySem.Spec L2 RT
def Rng2Q (R : It → Hp → Prop) (vs : List V) (H1 : Hp) : Prop := ∃ i j : Int, vs = [.int i, .int j] ∧ (-(2 ^ 62) ≤ i ∧ i < 2 ^ 62 ∧ -(2 ^ 62) ≤ j ∧ j < 2 ^ 62) ∧ R (Itr i (j - i).toNat) H1
theorem w_rng2 {ta : TA} {σ : St} {H : Hp} {R : It → Hp → Prop} (h : ta σ H fun vs H1 => Rng2Q R vs H1) : iRng2 ta σ H R := h
theorem w_rng2I {i j : Int} {H : Hp} {R : It → Hp → Prop} (hb : -(2 ^ 62) ≤ i ∧ i < 2 ^ 62 ∧ -(2 ^ 62) ≤ j ∧ j < 2 ^ 62) (h : R (Itr i (j - i).toNat) H) : Rng2Q R [.int i, .int j] H := ⟨i, j, rfl, hb, h⟩
/-- a range, its target a name -/
theorem lp_rangeN {K : PySem.W.Frag} {D : Ends} {σ : St} {H : Hp} {lo : Int} {n j : Nat} {tb : TS} (Pv : Nat → St → Hp → Prop) (h0 : Pv 0 σ H)
    (hs : ∀ (i : Nat) σ H, i < n → Pv i σ H → tb { D with nx := Pv (i + 1), ct := Pv (i + 1), bk := D.nx } (σ.set j (some (.int (lo + i)))) H) (hd : ∀ σ H, Pv n σ H → D.nx σ H) : Lp (Itr lo n) (gName j) tb D σ H := for_range Pv h0 hs hd
end Rn
namespace My
open PySem PySem.Spec L2 RT Rn
theorem AllV.app {b : Int} {ins : List Inp} {A : Hp} {l q : Addr} {xs ys zs : List V} {vals : List Int} (h : AllV b ins A xs) (hl : A l = some (.lst ys)) (hq : A q = some (.dK (valsD ins vals))) (hv : ValsOk b ins vals) : AllV b ins (upd A l (.lst zs)) (xs ++ [.ref q]) := by
  have key : ∀ (d : Addr) (kvs : List (Key × V)), A d = some (.dK kvs) → upd A l (.lst zs) d = some (.dK kvs) := fun d kvs e => by
    rw [upd_ne (fun z => by rw [z, hl] at e; cases e)]
    exact e
  intro x hx
  rcases List.mem_append.mp hx with hx | hx
  · obtain ⟨d, v, e1, e2, e3⟩ := h x hx
    exact ⟨d, v, e1, key _ _ e2, e3⟩
  · rw [List.mem_singleton.mp hx]
    exact ⟨q, vals, rfl, key _ _ hq, hv⟩
end My
namespace My
open PySem PySem.Spec L2 RT Rn
def spTold5 (K : PySem.W.Frag) (TP : Addr) : Sp := fun vs H Q _ => ∃ (m bk v : Addr) (b s w c : Int) (B : Bok) (vals : List Int), vs = [.ref m, .ref bk, .ref v] ∧ MachAt K H m b s w c ∧ Mach b s w c ∧ BokAt K H bk B ∧ BokOk s B ∧ H v = some (.dK (valsD B.ins vals)) ∧ ValsOk b B.ins vals ∧ GxR.TabG H TP ∧
  (∀ k, runN b s w c (valOf B.ins vals) B.dds 0 num0 = .inl k → ∀ H', Tg.SmT TP H H' → Q (.int (k : Nat)) H') ∧
  (∀ y, runN b s w c (valOf B.ins vals) B.dds 0 num0 = .inr y → ∀ z H', Tg.SmT TP H H' → SqT K H' z [.int y.W, .int y.C] → Q (.ref z) H')
end My
namespace My
open PySem PySem.Spec L2 RT Rn
def spOddsBook (K : PySem.W.Frag) : Sp := fun vs H Q _ => ∃ (a cl : Addr), vs = [.ref a] ∧ DrawAt H a cl ∧
  ∀ (p m bk : Addr) (b s : Int) (B : Bok) (H' : Hp), Mach b s 8 6 → b ≤ 7 → s ≤ 2 → MachAt K H' m b s 8 6 → BokAt K H' bk B → BokOk s B → Drew a cl H H' → H' p = some (.tup [.ref m, .ref bk]) → Q (.ref p) H'
end My
namespace My
open PySem PySem.Spec L2 RT Rn
theorem paired_app {α β : Type} {R : α → β → Prop} {as : List α} {bs : List β} (h : Paired R as bs) : ∀ {xs : List α} {ys : List β}, Paired R xs ys → Paired R (xs ++ as) (ys ++ bs)
  | _, _, .nil => h
  | _, _, .cons k t => .cons k (paired_app h t)
theorem paired_rep {α β : Type} {R : α → β → Prop} {a : α} {b : β} (h : R a b) : ∀ n, Paired R (List.replicate n a) (List.replicate n b)
  | 0 => .nil
  | n + 1 => .cons h (paired_rep h n)
theorem odds_ok {b s r2 r3 r4 : Int} (h1 : 1 ≤ s) (r20 : 0 ≤ r2) (r21 : r2 < 6) (r30 : 0 ≤ r3) (r31 : r3 < 2) (r40 : 0 ≤ r4) (r41 : r4 < 2) : BokOk s ⟨[⟨"n", s, 0⟩], .load "n" :: (List.replicate (1 + r2).toNat (.turn 1 0) ++ [.one, .odds r3]) ++ List.replicate r4.toNat (.turn 1 0), []⟩ := by
  have hi : insOk s [⟨"n", s, 0⟩] := by
    refine ⟨by simp, fun k i hk => ?_⟩
    cases k with
    | succ k => cases hk
    | zero =>
      cases hk
      have hn : nameOk "n" = true := by decide +kernel
      unfold inputOk
      simp only [hn, Bool.and_eq_true, Bool.not_eq_true', decide_eq_false_iff_not, decide_eq_true_eq]
      exact ⟨⟨⟨⟨by simp, trivial⟩, h1⟩, Int.le_refl _⟩, .inl trivial⟩
  refine ⟨hi, by simp; omega, fun d hd => ?_, by simp, fun c hc => nomatch hc⟩
  have ht : deeOk [⟨"n", s, 0⟩] (.turn 1 0) = true := ok_turn (.inl rfl) ⟨by omega, by omega⟩
  rcases List.mem_append.mp hd with hd | hd
  · rcases List.mem_cons.mp hd with rfl | hd
    · exact ok_load (i := ⟨"n", s, 0⟩) (by simp)
    · rcases List.mem_append.mp hd with hd | hd
      · rw [(List.mem_replicate.mp hd).2]
        exact ht
      · rcases List.mem_cons.mp hd with rfl | hd
        · rfl
        · rw [List.mem_singleton.mp hd]
          exact ok_odds ⟨by omega, by omega⟩
  · rw [(List.mem_replicate.mp hd).2]
    exact ht
end My
namespace My
open PySem PySem.Spec L2 RT Rn
theorem inputOk_mono {s s' : Int} {ns : List Str} {i : Inp} (h : inputOk s ns i = true) (g : s ≤ s') : inputOk s' ns i = true := by
  unfold inputOk at h ⊢
  simp only [Bool.and_eq_true, decide_eq_true_eq] at h ⊢
  exact ⟨⟨h.1.1, by omega⟩, h.2⟩
theorem BokOk.mono {s s' : Int} {B : Bok} (h : BokOk s B) (g : s ≤ s') : BokOk s' B := ⟨⟨h.ins.1, fun k i hk => inputOk_mono (h.ins.2 k i hk) g⟩, h.dl, h.dds, h.cl, h.cls⟩
theorem BokOk.fg {s : Int} {B : Bok} (h : BokOk s B) (g : s ≤ 2) : ∀ i ∈ B.ins, i.fg ≤ 2 := fun i hi => by
  obtain ⟨k, hk⟩ := List.getElem?_of_mem hi
  have io := h.ins.2 k i hk
  unfold inputOk at io
  simp only [Bool.and_eq_true, decide_eq_true_eq] at io
  omega
theorem AllV.drew {b : Int} {ins : List Inp} {A B : Hp} {a cl : Addr} {xs : List V} (h : AllV b ins A xs) (hd : DrawAt A a cl) (y : Drew a cl A B) : AllV b ins B xs := fun x hx => by
  obtain ⟨d, v, e1, e2, e3⟩ := h x hx
  obtain ⟨s, i, cells, ha, hc, _⟩ := hd
  exact ⟨d, v, e1, y.kp d _ e2 (fun z => by rw [z, ha] at e2; cases e2) (fun z => by rw [z, hc] at e2; cases e2), e3⟩
theorem AllV.smt {TP : Addr} {b : Int} {ins : List Inp} {A B : Hp} {xs : List V} (h : AllV b ins A xs) (e : Tg.SmT TP A B) : AllV b ins B xs := fun x hx => by
  obtain ⟨d, v, e1, e2, e3⟩ := h x hx
  exact ⟨d, v, e1, e.d e2, e3⟩
theorem AllV.pick {b : Int} {ins : List Inp} {H : Hp} {xs : List V} (h : AllV b ins H xs) {r : Int} (r0 : 0 ≤ r) (r1 : r < (xs.length : Nat)) : ∃ d vals, atI xs r = some (.ref d) ∧ H d = some (.dK (valsD ins vals)) ∧ ValsOk b ins vals := by
  have hl : r.toNat < xs.length := by omega
  have hx : xs[r.toNat]? = some xs[r.toNat] := List.getElem?_eq_getElem hl
  obtain ⟨d, v, e, g, k⟩ := h _ (List.mem_of_getElem? hx)
  exact ⟨d, v, by rw [atI_of r0 hx, e], g, k⟩
end My
namespace Rn
open PySem PySem.Spec L2 RT
theorem ty_sqT {K : PySem.W.Frag} {H : Hp} {p : Addr} {xs : List V} (h : SqT K H p xs) : TyX K H (.ref p) (.type "tuple") := by
  rcases h with (h | ⟨o, h⟩) | ⟨o, its, n, h, c, _⟩
  · exact .base (.tup h)
  · exact .fTuple h
  · exact .kTuple h c
theorem w_isiT {K : PySem.W.Frag} {H : Hp} {Q : VK} {p : Addr} {xs : List V} (hp : SqT K H p xs) (h : Q (.bl true) H) : rIsi K [.ref p, .ty "tuple"] H Q := w_isi (ty_sqT hp) (by decide +kernel) h
theorem w_isiTF {K : PySem.W.Frag} {H : Hp} {Q : VK} {n : Int} (h : Q (.bl false) H) : rIsi K [.int n, .ty "tuple"] H Q := w_isi (.base (.int n)) (by decide +kernel) h
end Rn
namespace My
open PySem PySem.Spec L2 RT Rn
theorem valsD_refl {s : Int} {ins : List Inp} {vals : List Int} (hi : insOk s ins) (hl : vals.length = ins.length) : ∀ p ∈ valsD ins vals, valV (valsD ins vals) p.1 = some p.2 ∧ flatB p.2 = true := by
  intro p hp
  unfold valsD at hp
  obtain ⟨⟨i, n⟩, hz, rfl⟩ := List.mem_map.mp hp
  obtain ⟨k, hk⟩ := List.getElem?_of_mem hz
  rw [List.getElem?_zip_eq_some] at hk
  have hv := valsD_val hl (figsOf_some (List.mem_of_getElem? hk.1))
  refine ⟨?_, rfl⟩
  rw [hv]
  obtain ⟨j, i', h1, h2, h3, _⟩ := valOf_at hl (figsOf_some (List.mem_of_getElem? hk.1))
  have e := names_uniq hi h1 hk.1 h3
  subst e
  rw [h2] at hk
  exact congrArg (fun z => some (V.int z)) (Option.some.inj hk.2)
end My
namespace Rn
open PySem PySem.Spec L2 RT
theorem w_notI {n : Int} {H : Hp} {Q : VK} (h : Q (.bl true) H) : rNot (.int n) .non H Q := ⟨rfl, by rw [show decide (V.int n = V.non) = false from decide_eq_false (fun z => nomatch z)]; exact h⟩
end Rn
set_option Elab.async false
set_option linter.all false
set_option maxRecDepth 100000
set_option maxHeartbeats 4000000
/-! what is refused: machines, handbooks, values -/
namespace L2
open PySem PySem.Spec PyProof.Rows
theorem passX0 {P : Program} {w : World} {X : Cx} : Passes (L2.CX P w) X (fun _ _ _ => False) := fun _ _ _ _ _ _ _ h => by
  obtain ⟨_, _, _, _, _, _, _, _, _, _, _, _, z⟩ := h
  exact z.elim
/-- list.count of a flat value -/
def rCntV (K : PySem.W.Frag) : V → List V → Hp → VK → Prop := fun x xs H Q => ∃ (p : Addr) (ys : List V) (y : V), x = .ref p ∧ xs = [y] ∧ SqL K H p ys ∧ flatV y = true ∧ ys.all flatV = true ∧ Q (.int (ys.countP (fun z => eqV z y) : Nat)) H
theorem countP_eqU {x : V} : ∀ {xs : List V} {us : List Value}, Vals xs us → xs.all flatV = true → us.countP (eqU x) = xs.countP fun y => eqV y x
  | _, _, .nil, _ => rfl
  | _, _, .cons r t, f => by
    rw [List.all_cons, Bool.and_eq_true] at f
    rw [List.countP_cons, List.countP_cons, countP_eqU t f.2, eqU_of r f.1]
theorem mt_countV {X : Cx} : MtR X "list.count" (rCntV X.K) := by
  intro pins s σ H x xs v us Q I rx rxs h
  obtain ⟨p, ys, y, rfl, rfl, hs, fy, fys, q⟩ := h
  cases rx
  obtain ⟨u, rfl, ru⟩ := rxs.one
  obtain ⟨its, rv, ⟨⟨cls, dd, data, sl⟩, n, ho, hc, hdn, hd⟩, hlen⟩ := I.list hs
  simp only at hc hd
  subst hc hd
  refine call_meets PySem.F.slot_list_count ⟨_, ho, rfl⟩ PySem.F.entry_list_count (PySem.F.args_list_count_2 _ _)
    (SeqAt.list_countAt p its.toArray n dd sl u (eqU y)) ⟨ho, fun u' hu' => mem_eqAt ru fy rv fys u' (by simpa using hu'), ?_⟩
  have ec : its.toArray.toList.countP (eqU y) = ys.countP fun z => eqV z y := countP_eqU rv fys
  refine ⟨.int (ys.countP (fun z => eqV z y) : Nat), H, I.tok _, ⟨s.toks, ?_⟩, q⟩
  show Value.int ((its.toArray.toList.countP (eqU y) : Nat) : Int) s.toks = Value.int ((ys.countP (fun z => eqV z y) : Nat) : Int) s.toks
  rw [ec]
end L2
namespace My
open PySem PySem.Spec L2 RT Rn
/-! ### machines -/
def machOk : List Int → Bool
  | [b, s, w, c] => decide (2 ≤ b) && decide (b ≤ 12) && decide (1 ≤ s) && decide (s ≤ 6) && decide (s ≤ w) && decide (w ≤ 16) && decide (1 ≤ c) && decide (c ≤ 10)
  | _ => false
def MachBad (K : PySem.W.Frag) (H : Hp) (m : Addr) : Prop := ∃ ms : List Int, SqT K H m (ms.map V.int) ∧ ms.length ≤ 1000 ∧ machOk ms = false ∧ ∀ x ∈ ms, -(2 ^ 40) < x ∧ x < 2 ^ 40
theorem MachBad.tn {K : PySem.W.Frag} {H H' : Hp} {m : Addr} (h : MachBad K H m) (e : Tn H H') : MachBad K H' m := by
  obtain ⟨ms, h1, h2⟩ := h
  exact ⟨ms, SqT.tn e h1, h2⟩
def spNeedX (K : PySem.W.Frag) (CB : Addr) : Sp := fun vs H Q E => spNeed K vs H Q E ∨ ∃ m, vs = [.ref m] ∧ MachBad K H m ∧ E (.ref CB) none H
def spTopX (K : PySem.W.Frag) (CB : Addr) : Sp := fun vs H Q E => spTop K vs H Q E ∨ ∃ m, vs = [.ref m] ∧ MachBad K H m ∧ E (.ref CB) none H
def spBad1 (K : PySem.W.Frag) (CB : Addr) : Sp := fun vs H _ E => ∃ (m : Addr), vs = [.ref m] ∧ MachBad K H m ∧ E (.ref CB) none H
def spBad2 (K : PySem.W.Frag) (CB : Addr) : Sp := fun vs H _ E => ∃ (m : Addr) (x : V), vs = [.ref m, x] ∧ MachBad K H m ∧ E (.ref CB) none H
def spBad3 (K : PySem.W.Frag) (CB : Addr) : Sp := fun vs H _ E => ∃ (m : Addr) (x y : V), vs = [.ref m, x, y] ∧ MachBad K H m ∧ E (.ref CB) none H
def spBad5 (K : PySem.W.Frag) (CB : Addr) : Sp := fun vs H _ E => ∃ (m : Addr) (x y z u : V), vs = [.ref m, x, y, z, u] ∧ MachBad K H m ∧ E (.ref CB) none H
/-! ### handbooks that may be none -/
inductive RDee
  | ok (d : Dee)
  | wip (z : Str)
  | bad (w : Str) (r : List V)
def RDee.vs : RDee → List V
  | .ok d => d.vs
  | .wip z => [.str "wipe", .str z]
  | .bad w r => .str w :: r
/-- words and how much stands behind them -/
def shapeD (w : Str) (n : Nat) : Bool := decide ((w, n) ∈ ([("load", 1), ("one", 0), ("shift", 1), ("turn", 2), ("wipe", 1), ("turns", 4), ("bell", 1), ("odds", 1)] : List (Str × Nat)))
def rdeeOk (ins : List Inp) : RDee → Bool
  | .ok d => deeOk ins d
  | .wip z => decide (z ∈ (["wheels", "counts"] : List Str))
  | .bad _ _ => false
def RDee.wf : RDee → Prop
  | .bad w r => shapeD w r.length = false ∧ r.length ≤ 1000
  | _ => True
inductive RSid
  | num (n : Int)
  | wheels
  | counts
  | inp (n : Str)
  | add (p q : RSid)
  | times (p q : RSid)
  | bad
def shapeS (w : Str) (n : Nat) : Bool := decide ((w, n) ∈ ([("num", 1), ("wheels", 0), ("counts", 0), ("input", 1), ("add", 2), ("times", 2)] : List (Str × Nat)))
def rsidOk (ins : List Inp) : RSid → Nat → Bool
  | _, 0 => false
  | .num n, _ + 1 => decide (0 ≤ n) && decide (n ≤ 1000000000)
  | .wheels, _ + 1 => true
  | .counts, _ + 1 => true
  | .inp n, _ + 1 => (figsOf ins n).isSome
  | .add p q, k + 1 => rsidOk ins p k && rsidOk ins q k
  | .times p q, k + 1 => rsidOk ins p k && rsidOk ins q k
  | .bad, _ + 1 => false
inductive RCla
  | two (w : Str) (p q : RSid)
  | bad
def rclaOk (ins : List Inp) : RCla → Bool
  | .two w p q => decide (w ∈ (["same", "less"] : List Str)) && rsidOk ins p 4 && rsidOk ins q 4
  | .bad => false
structure RBok where
  ins : List Inp
  dds : List RDee
  cls : List RCla
/-- the first that isn't so -/
def firstNo {α : Type} (ok : α → Bool) : List α → Nat → Option Nat
  | [], _ => none
  | x :: r, k => if ok x then firstNo ok r (k + 1) else some k
def firstIn (s : Int) (ins : List Inp) : List Inp → Nat → Option Nat
  | [], _ => none
  | x :: r, k => if inputOk s ((names ins).take k) x then firstIn s ins r (k + 1) else some k
def whyIn (s : Int) (ins : List Inp) : Option Nat := if ins.length > 4 then some 0 else firstIn s ins ins 0
def whyNot (s : Int) (R : RBok) : Option (Nat × Str) := match whyIn s R.ins with
  | some k => some (k, "input")
  | none => match (if R.dds.length > 40 then some 0 else firstNo (rdeeOk R.ins) R.dds 0) with
    | some k => some (k, "deed")
    | none => match (if R.cls.length > 8 then some 0 else firstNo (rclaOk R.ins) R.cls 0) with
      | some k => some (k, "claim")
      | none => none
section
variable (K : PySem.W.Frag)
def RDeeAt (H : Hp) (a : Addr) (d : RDee) : Prop := SqT K H a d.vs ∧ d.wf
inductive RSidAt (H : Hp) : Addr → RSid → Prop
  | num {a : Addr} {n : Int} (h : SqT K H a [.str "num", .int n]) : RSidAt H a (.num n)
  | wheels {a : Addr} (h : SqT K H a [.str "wheels"]) : RSidAt H a .wheels
  | counts {a : Addr} (h : SqT K H a [.str "counts"]) : RSidAt H a .counts
  | inp {a : Addr} {n : Str} (h : SqT K H a [.str "input", .str n]) : RSidAt H a (.inp n)
  | add {a x y : Addr} {p q : RSid} (h : SqT K H a [.str "add", .ref x, .ref y]) (hx : RSidAt H x p) (hy : RSidAt H y q) : RSidAt H a (.add p q)
  | times {a x y : Addr} {p q : RSid} (h : SqT K H a [.str "times", .ref x, .ref y]) (hx : RSidAt H x p) (hy : RSidAt H y q) : RSidAt H a (.times p q)
  | bad {a : Addr} {w : Str} {r : List V} (h : SqT K H a (.str w :: r)) (hn : shapeS w r.length = false) (hl : r.length ≤ 1000) : RSidAt H a .bad
inductive RClaAt (H : Hp) : Addr → RCla → Prop
  | two {a x y : Addr} {w : Str} {p q : RSid} (h : SqT K H a [.str w, .ref x, .ref y]) (hx : RSidAt K H x p) (hy : RSidAt K H y q) : RClaAt H a (.two w p q)
  | bad {a : Addr} {vs : List V} (h : SqT K H a vs) (hn : vs.length ≠ 3) (hl : vs.length ≤ 1000) : RClaAt H a .bad
def RBokAt (H : Hp) (b : Addr) (B : RBok) : Prop := ∃ (x y z : Addr) (xs ys zs : List Addr), SqT K H b [.ref x, .ref y, .ref z] ∧ SqT K H x (xs.map V.ref) ∧ Paired (InpAt K H) xs B.ins ∧
  SqT K H y (ys.map V.ref) ∧ Paired (RDeeAt K H) ys B.dds ∧ SqT K H z (zs.map V.ref) ∧ Paired (RClaAt K H) zs B.cls ∧ ∀ i ∈ B.ins, i.nm.length ≤ 1000
variable {K} {H H' : Hp}
theorem RDeeAt.tn {a : Addr} {d : RDee} (h : RDeeAt K H a d) (e : Tn H H') : RDeeAt K H' a d := ⟨SqT.tn e h.1, h.2⟩
theorem RSidAt.tn {a : Addr} {p : RSid} (h : RSidAt K H a p) (e : Tn H H') : RSidAt K H' a p := by
  induction h with
  | num h => exact .num (SqT.tn e h)
  | wheels h => exact .wheels (SqT.tn e h)
  | counts h => exact .counts (SqT.tn e h)
  | inp h => exact .inp (SqT.tn e h)
  | add h _ _ i j => exact .add (SqT.tn e h) i j
  | times h _ _ i j => exact .times (SqT.tn e h) i j
  | bad h hn hl => exact .bad (SqT.tn e h) hn hl
theorem RClaAt.tn {a : Addr} {p : RCla} (h : RClaAt K H a p) (e : Tn H H') : RClaAt K H' a p := by
  cases h with
  | two h x y => exact .two (SqT.tn e h) (x.tn e) (y.tn e)
  | bad h hn hl => exact .bad (SqT.tn e h) hn hl
theorem RBokAt.tn {b : Addr} {B : RBok} (h : RBokAt K H b B) (e : Tn H H') : RBokAt K H' b B := by
  obtain ⟨x, y, z, xs, ys, zs, h0, h1, h2, h3, h4, h5, h6, h7⟩ := h
  exact ⟨x, y, z, xs, ys, zs, SqT.tn e h0, SqT.tn e h1, paired_imp (fun _ _ h => h.tn e) h2, SqT.tn e h3, paired_imp (fun _ _ h => h.tn e) h4, SqT.tn e h5, paired_imp (fun _ _ h => h.tn e) h6, h7⟩
end
/-! ### good ones among them -/
def Sid.r : Sid → RSid
  | .num n => .num n
  | .wheels => .wheels
  | .counts => .counts
  | .inp n => .inp n
  | .add p q => .add p.r q.r
  | .times p q => .times p.r q.r
def Cla.r (c : Cla) : RCla := .two (claW c.less) c.p.r c.q.r
def Bok.r (B : Bok) : RBok := ⟨B.ins, B.dds.map .ok, B.cls.map Cla.r⟩
theorem rsid_r (ins : List Inp) : ∀ (p : Sid) (k : Nat), rsidOk ins p.r k = sidOk ins p k
  | p, 0 => by cases p <;> rfl
  | .num n, k + 1 => rfl
  | .wheels, k + 1 => rfl
  | .counts, k + 1 => rfl
  | .inp n, k + 1 => rfl
  | .add p q, k + 1 => by
    show (rsidOk ins p.r k && rsidOk ins q.r k) = (sidOk ins p k && sidOk ins q k)
    rw [rsid_r ins p k, rsid_r ins q k]
  | .times p q, k + 1 => by
    show (rsidOk ins p.r k && rsidOk ins q.r k) = (sidOk ins p k && sidOk ins q k)
    rw [rsid_r ins p k, rsid_r ins q k]
theorem rcla_r (ins : List Inp) (c : Cla) : rclaOk ins c.r = claOk ins c := by
  show (decide (claW c.less ∈ (["same", "less"] : List Str)) && rsidOk ins c.p.r 4 && rsidOk ins c.q.r 4) = (sidOk ins c.p 4 && sidOk ins c.q 4)
  have e : decide (claW c.less ∈ (["same", "less"] : List Str)) = true := by cases c.less <;> decide +kernel
  rw [e, rsid_r, rsid_r]
  rfl
section
variable {K : PySem.W.Frag} {H : Hp}
theorem SidAt.r {a : Addr} {p : Sid} (h : SidAt K H a p) : RSidAt K H a p.r := by
  induction h with
  | num h => exact .num h
  | wheels h => exact .wheels h
  | counts h => exact .counts h
  | inp h => exact .inp h
  | add h _ _ i j => exact .add h i j
  | times h _ _ i j => exact .times h i j
theorem ClaAt.r {a : Addr} {c : Cla} (h : ClaAt K H a c) : RClaAt K H a c.r := by
  obtain ⟨x, y, h1, h2, h3⟩ := h
  exact .two h1 h2.r h3.r
theorem DeeAt.r {a : Addr} {d : Dee} (h : DeeAt K H a d) : RDeeAt K H a (.ok d) := ⟨h, trivial⟩
theorem paired_map {α β γ : Type} {R : α → β → Prop} {S : α → γ → Prop} {f : β → γ} (k : ∀ a b, R a b → S a (f b)) : ∀ {xs : List α} {ys : List β}, Paired R xs ys → Paired S xs (ys.map f)
  | _, _, .nil => .nil
  | _, _, .cons h t => .cons (k _ _ h) (paired_map k t)
theorem BokAt.r {b : Addr} {B : Bok} {s : Int} (h : BokAt K H b B) (ok : BokOk s B) : RBokAt K H b B.r := by
  obtain ⟨x, y, z, xs, ys, zs, h0, h1, h2, h3, h4, h5, h6⟩ := h
  refine ⟨x, y, z, xs, ys, zs, h0, h1, h2, h3, paired_map (fun _ _ h => h.r) h4, h5, paired_map (fun _ _ h => h.r) h6, fun i hi => ?_⟩
  obtain ⟨k, hk⟩ := List.getElem?_of_mem hi
  have := nameOk_len (inputOk_name (ok.ins.2 k i hk))
  omega
end
theorem firstNo_none {α : Type} {ok : α → Bool} : ∀ {xs : List α} {k : Nat}, (∀ x ∈ xs, ok x = true) → firstNo ok xs k = none
  | [], _, _ => rfl
  | x :: r, k, h => by
    unfold firstNo
    rw [if_pos (h x List.mem_cons_self)]
    exact firstNo_none fun y hy => h y (List.mem_cons_of_mem _ hy)
theorem firstNo_drop {α : Type} {ok : α → Bool} {xs : List α} {i : Nat} {x : α} (h : xs[i]? = some x) : firstNo ok (xs.drop i) i = if ok x then firstNo ok (xs.drop (i + 1)) (i + 1) else some i := by
  have hi := (List.getElem?_eq_some_iff.mp h).1
  have e : xs.drop i = x :: xs.drop (i + 1) := by
    rw [List.drop_eq_getElem_cons hi]
    congr 1
    exact (List.getElem?_eq_some_iff.mp h).2
  rw [e]
  rfl
theorem firstIn_drop {s : Int} {ins : List Inp} {xs : List Inp} {i : Nat} {x : Inp} (h : xs[i]? = some x) : firstIn s ins (xs.drop i) i = if inputOk s ((names ins).take i) x then firstIn s ins (xs.drop (i + 1)) (i + 1) else some i := by
  have hi := (List.getElem?_eq_some_iff.mp h).1
  have e : xs.drop i = x :: xs.drop (i + 1) := by
    rw [List.drop_eq_getElem_cons hi]
    congr 1
    exact (List.getElem?_eq_some_iff.mp h).2
  rw [e]
  rfl
theorem firstIn_none {s : Int} {ins : List Inp} : ∀ {xs : List Inp} {k : Nat}, (∀ (j : Nat) (i : Inp), xs[j]? = some i → inputOk s ((names ins).take (k + j)) i = true) → firstIn s ins xs k = none
  | [], _, _ => rfl
  | x :: r, k, h => by
    unfold firstIn
    rw [if_pos (show inputOk s (List.take k (names ins)) x = true from h 0 x rfl)]
    refine firstIn_none fun j i e => ?_
    have := h (j + 1) i e
    rw [show k + 1 + j = k + (j + 1) by omega]
    exact this
theorem firstIn_all {s : Int} {ins : List Inp} : ∀ {xs : List Inp} {k : Nat}, firstIn s ins xs k = none → ∀ (j : Nat) (i : Inp), xs[j]? = some i → inputOk s ((names ins).take (k + j)) i = true
  | [], k, _, j, i, e => nomatch e
  | x :: r, k, h, j, i, e => by
    unfold firstIn at h
    by_cases g : inputOk s ((names ins).take k) x = true
    · rw [if_pos g] at h
      cases j with
      | zero =>
        cases e
        exact g
      | succ j =>
        have := firstIn_all h j i e
        rw [show k + (j + 1) = k + 1 + j by omega]
        exact this
    · rw [if_neg g] at h
      cases h
theorem whyNot_good {s : Int} {B : Bok} (ok : BokOk s B) : whyNot s B.r = none := by
  have e1 : whyIn s B.r.ins = none := by
    unfold whyIn
    rw [if_neg (by have := ok.ins.1; show ¬ B.ins.length > 4; omega)]
    exact firstIn_none fun j i e => by rw [Nat.zero_add]; exact ok.ins.2 j i e
  have e2 : (if B.r.dds.length > 40 then some 0 else firstNo (rdeeOk B.r.ins) B.r.dds 0) = none := by
    rw [if_neg (by have := ok.dl; show ¬ (B.dds.map RDee.ok).length > 40; rw [List.length_map]; omega)]
    refine firstNo_none fun d hd => ?_
    obtain ⟨d0, h0, rfl⟩ := List.mem_map.mp (show d ∈ B.dds.map RDee.ok from hd)
    exact ok.dds d0 h0
  have e3 : (if B.r.cls.length > 8 then some 0 else firstNo (rclaOk B.r.ins) B.r.cls 0) = none := by
    rw [if_neg (by have := ok.cl; show ¬ (B.cls.map Cla.r).length > 8; rw [List.length_map]; omega)]
    refine firstNo_none fun d hd => ?_
    obtain ⟨d0, h0, rfl⟩ := List.mem_map.mp (show d ∈ B.cls.map Cla.r from hd)
    rw [rcla_r]
    exact ok.cls d0 h0
  unfold whyNot
  rw [e1]
  dsimp only
  rw [e2]
  dsimp only
  rw [e3]
/-! ### promises -/
/-- the own dict of a BadBook -/
def badD (k : Nat) (w : Str) : List (Str × V) := [("word", .str w), ("at", .int (k : Nat))]
def OutBad (TP CB : Addr) (H : Hp) (E : XK) (k : Nat) (w : Str) : Prop := ∀ d H', Tg.SmT TP H H' → H' d = some (.xd (badD k w)) → E (.ref CB) (some d) H'
def spInit2 (C : Addr) : Sp := fun vs H Q _ => ∃ (a : Addr) (n : Int) (w : Str), vs = [.ref a, .int n, .str w] ∧ -(2 ^ 64) < n ∧ n < 2 ^ 64 ∧ w.length ≤ 1000 ∧ H a = some (exo a C none) ∧ ∀ d H', H d = none → d ≠ a → H' = upd (upd H d (exd d [("word", .str w), ("at", .int n)])) a (exo a C (some d)) → Q .non H'
def spNeedInputsX (K : PySem.W.Frag) (TP CB : Addr) : Sp := fun vs H Q E => ∃ (m x : Addr) (b s w c : Int) (xs : List Addr) (ins : List Inp), vs = [.ref m, .ref x] ∧ MachAt K H m b s w c ∧ SqT K H x (xs.map V.ref) ∧ Paired (InpAt K H) xs ins ∧ ins.length ≤ 1000 ∧ (∀ i ∈ ins, i.nm.length ≤ 1000) ∧ GxR.TabG H TP ∧
  (whyIn s ins = none → ∀ H', Tg.SmT TP H H' → Q .non H') ∧ ∀ k, whyIn s ins = some k → OutBad TP CB H E k "input"
def spIsDeedX (K : PySem.W.Frag) : Sp := fun vs H Q _ => ∃ (f a : Addr) (ins : List Inp) (d : RDee), vs = [.ref f, .ref a] ∧ H f = some (.dK (figsD ins)) ∧ RDeeAt K H a d ∧ Q (.bl (rdeeOk ins d)) H
def spNeedDeedsX (K : PySem.W.Frag) (TP CB : Addr) : Sp := fun vs H Q E => ∃ (f x : Addr) (ins : List Inp) (xs : List Addr) (ds : List RDee), vs = [.ref f, .ref x] ∧ H f = some (.dK (figsD ins)) ∧ SqT K H x (xs.map V.ref) ∧ Paired (RDeeAt K H) xs ds ∧ ds.length ≤ 1000 ∧
  ((if ds.length > 40 then some 0 else firstNo (rdeeOk ins) ds 0) = none → ∀ H', Same H H' → Q .non H') ∧ ∀ k, (if ds.length > 40 then some 0 else firstNo (rdeeOk ins) ds 0) = some k → OutBad TP CB H E k "deed"
def spIsSideX (K : PySem.W.Frag) (n : Nat) : Sp := fun vs H Q _ => ∃ (f a : Addr) (ins : List Inp) (p : RSid) (k : Nat), vs = [.ref f, .ref a, .int k] ∧ k ≤ n ∧ H f = some (.dK (figsD ins)) ∧ RSidAt K H a p ∧ Q (.bl (rsidOk ins p k)) H
def spIsClaimX (K : PySem.W.Frag) : Sp := fun vs H Q _ => ∃ (f a : Addr) (ins : List Inp) (c : RCla), vs = [.ref f, .ref a] ∧ H f = some (.dK (figsD ins)) ∧ RClaAt K H a c ∧ Q (.bl (rclaOk ins c)) H
def spNeedClaimsX (K : PySem.W.Frag) (TP CB : Addr) : Sp := fun vs H Q E => ∃ (f x : Addr) (ins : List Inp) (xs : List Addr) (cs : List RCla), vs = [.ref f, .ref x] ∧ H f = some (.dK (figsD ins)) ∧ SqT K H x (xs.map V.ref) ∧ Paired (RClaAt K H) xs cs ∧ cs.length ≤ 1000 ∧
  ((if cs.length > 8 then some 0 else firstNo (rclaOk ins) cs 0) = none → ∀ H', Same H H' → Q .non H') ∧ ∀ k, (if cs.length > 8 then some 0 else firstNo (rclaOk ins) cs 0) = some k → OutBad TP CB H E k "claim"
/-- a handbook, good or not, and what need_book does of it -/
def spNeedBookG (K : PySem.W.Frag) (TP CB : Addr) : Sp := fun vs H Q E => ∃ (m bk : Addr) (b s w c : Int) (R : RBok), vs = [.ref m, .ref bk] ∧ MachAt K H m b s w c ∧ Mach b s w c ∧ RBokAt K H bk R ∧ R.ins.length ≤ 1000 ∧ R.dds.length ≤ 1000 ∧ R.cls.length ≤ 1000 ∧ GxR.TabG H TP ∧
  (whyNot s R = none → ∀ H', Tg.SmT TP H H' → Q .non H') ∧ ∀ k z, whyNot s R = some (k, z) → OutBad TP CB H E k z
def spNeedBookX (K : PySem.W.Frag) (TP CM CB : Addr) : Sp := fun vs H Q E => spNeedBookG K TP CB vs H Q E ∨ ∃ (m : Addr) (x : V), vs = [.ref m, x] ∧ MachBad K H m ∧ E (.ref CM) none H
/-- looked at what is refused -/
def spLookedB (K : PySem.W.Frag) (TP CM CB : Addr) : Sp := fun vs H Q E => (∃ (m bk : Addr) (b s w c : Int) (R : RBok) (k : Nat) (z : Str), vs = [.ref m, .ref bk] ∧ MachAt K H m b s w c ∧ Mach b s w c ∧ RBokAt K H bk R ∧ R.ins.length ≤ 1000 ∧ R.dds.length ≤ 1000 ∧ R.cls.length ≤ 1000 ∧ GxR.TabG H TP ∧ whyNot s R = some (k, z) ∧ OutBad TP CB H E k z) ∨
  ∃ (m : Addr) (x : V), vs = [.ref m, x] ∧ MachBad K H m ∧ E (.ref CM) none H
/-! ### values -/
def rvalD (kv : List (Str × Int)) : List (Key × V) := kv.map fun p => (.inr p.1, .int p.2)
def rvalOf (kv : List (Str × Int)) (n : Str) : Option Int := (kv.find? fun p => decide (p.1 = n)).map (·.2)
theorem rvalD_val (kv : List (Str × Int)) (n : Str) : valV (rvalD kv) (.inr n) = (rvalOf kv n).map V.int := by
  induction kv with
  | nil => rfl
  | cons i r ih =>
    by_cases e : i.1 = n
    · have e2 : ((Sum.inr i.1 : Key)) = .inr n := by rw [e]
      show valV (((Sum.inr i.1 : Key), V.int i.2) :: rvalD r) _ = _
      rw [valV_pos (p := ((Sum.inr i.1 : Key), V.int i.2)) e2]
      unfold rvalOf
      rw [List.find?_cons_of_pos (by simpa using e)]
      rfl
    · have e2 : ¬ ((Sum.inr i.1 : Key)) = .inr n := fun z => e (Sum.inr.inj z)
      show valV (((Sum.inr i.1 : Key), V.int i.2) :: rvalD r) _ = _
      rw [valV_neg (p := ((Sum.inr i.1 : Key), V.int i.2)) e2, ih]
      unfold rvalOf
      rw [List.find?_cons_of_neg (by simpa using e)]
def rvalIn (b : Int) (kv : List (Str × Int)) (i : Inp) : Bool := match rvalOf kv i.nm with
  | some v => decide (i.ls ≤ v) && decide (v < b ^ i.fg.toNat)
  | none => false
def rvalsOk (b : Int) (ins : List Inp) (kv : List (Str × Int)) : Bool := decide (kv.length = ins.length) && ins.all (rvalIn b kv)
def spNeedValuesB (K : PySem.W.Frag) (CV : Addr) : Sp := fun vs H Q E => ∃ (m x v : Addr) (b s w c : Int) (xs : List Addr) (ins : List Inp) (kv : List (Str × Int)), vs = [.ref m, .ref x, .ref v] ∧ MachAt K H m b s w c ∧ Mach b s w c ∧ SqT K H x (xs.map V.ref) ∧ Paired (InpAt K H) xs ins ∧ insOk s ins ∧
  H v = some (.dK (rvalD kv)) ∧ rvalsOk b ins kv = false ∧ E (.ref CV) none H
def spNeedValuesX (K : PySem.W.Frag) (CV : Addr) : Sp := fun vs H Q E => spNeedValues K vs H Q E ∨ spNeedValuesB K CV vs H Q E
def spWorkedX (K : PySem.W.Frag) (TP CM CB CV CS : Addr) : Sp := fun vs H Q E => spWorked K TP CS vs H Q E ∨
  (∃ (m : Addr) (x y : V), vs = [.ref m, x, y] ∧ MachBad K H m ∧ E (.ref CM) none H) ∨
  (∃ (m bk : Addr) (v : V) (b s w c : Int) (R : RBok) (k : Nat) (z : Str), vs = [.ref m, .ref bk, v] ∧ MachAt K H m b s w c ∧ Mach b s w c ∧ RBokAt K H bk R ∧ R.ins.length ≤ 1000 ∧ R.dds.length ≤ 1000 ∧ R.cls.length ≤ 1000 ∧ GxR.TabG H TP ∧ whyNot s R = some (k, z) ∧ OutBad TP CB H E k z) ∨
  ∃ (m bk v : Addr) (b s w c : Int) (B : Bok) (kv : List (Str × Int)), vs = [.ref m, .ref bk, .ref v] ∧ MachAt K H m b s w c ∧ Mach b s w c ∧ BokAt K H bk B ∧ BokOk s B ∧ H v = some (.dK (rvalD kv)) ∧ rvalsOk b B.ins kv = false ∧ GxR.TabG H TP ∧ ∀ H', Tg.SmT TP H H' → E (.ref CV) none H'
end My
namespace Rn
open PySem PySem.Spec L2 RT
theorem w_mk2 {C : Addr} {w : Str} {n : Int} {H1 : Hp} {Q : XK} (h0 : -(2 ^ 64) < n) (h1 : n < 2 ^ 64) (hw : w.length ≤ 1000) (h : ∀ d H', Same H1 H' → H1 d = none → H' d = some (.xd [("word", .str w), ("at", .int n)]) → Q (.ref C) (some d) H') : MkOQ C (My.spInit2 C) [] [.int n, .str w] H1 Q := by
  refine ⟨by simp, fun a ha => ⟨a, n, w, rfl, h0, h1, hw, upd_same, fun d H' hd hda e => ⟨rfl, d, [("word", .str w), ("at", .int n)], ?_, ?_, ?_, ?_⟩⟩⟩
  · rw [e, upd_same]
  · rw [e, upd_ne hda, upd_same]
  · rw [upd_ne hda] at hd
    exact hd
  · rw [upd_ne hda] at hd
    refine h d _ (fun b x hb => ?_) hd upd_same
    have ba : b ≠ a := ne_of_none hb ha
    have bd : b ≠ d := ne_of_none hb hd
    rw [upd_ne bd, del_ne ba, e, upd_ne ba, upd_ne bd, upd_ne ba]
    exact hb
end Rn
set_option Elab.async false
set_option linter.all false
set_option maxRecDepth 100000
set_option maxHeartbeats 4000000
/-! a lambda handed to a def that calls it; other tables stay -/
namespace Lb
open PySem PySem.Spec PyProof.Rows L2
section
variable {X : Cx} {pins : List (Addr × Obj)} {σ : L2.St} {H : Hp} {s : Shared}
theorem smt_put {P c : Addr} {q : Str} {ps qs : Array Value} (hP : H P = some (.tbl ps)) (hn : H c = none) (ht : TriplesOk ps.toList → TriplesOk qs.toList) : Tg.SmT P H (upd (upd H P (.tbl qs)) c (LamX.CodeO c q)) := by
  have hPc := ne_of_none hP hn
  refine ⟨fun b x hb e => ?_, fun rs e => ⟨qs, by rw [upd_ne hPc, upd_same], ?_⟩⟩
  · have h1 : b ≠ P := by
      rcases hb with hb | hb
      · exact hb
      · intro z
        subst z
        rw [hP] at e
        cases e
        exact hb
    rw [upd_ne (ne_of_none e hn), upd_ne h1]
    exact e
  · rw [hP] at e
    cases e
    exact ht
/-- the lambda's function object is made -/
theorem made {P c : Addr} {q : Str} {ag : Arguments} {bd : Expr} {sc : Scope} {ps0 : Pos} {Ex : Value → Shared → Prop} {Qx : Value → Shared → Prop} (J : Inv X pins σ H s) (tb : LamX.TabB X.base X.mg c P) (hcode : X.env.code = .ref c) (hq : X.env.qual ++ "<lambda>" = q) (hT : LamX.TabS H P q)
    (hdef : defaultsOf ag X.env = ([], [])) (hfr : ∀ y ∈ sc.names, y.2 = .free → ∃ c, X.env.cells.lookup y.1 = some c)
    (go : ∀ (f c2 : Addr) (pm cv : Value) (H1 : Hp) (s1 : Shared), Inv X pins σ H1 s1 → Tg.SmT P H H1 → LamX.TabS H1 P q → H1 c2 = some (LamX.CodeO c2 q) → H1 f = none → f ∉ frs X.stack →
      s1.heap.get? f = some (PySem.W.kla_obj "<lambda>" (X.env.qual ++ "<lambda>") ag bd sc (cloFrom X.env.cells sc.names []) pm c2 cv) → Qx (.ref f) s1) : wpAny (model X.prog X.w) X.A (eval (.Lambda ag bd sc ps0) X.env) Qx Ex s := by
  subst hq
  obtain ⟨ps, hP, tri, named⟩ := hT
  have hPs : s.heap.get? P = some { cls := .none, data := .fields ps } := J.hok P _ hP
  have away : ∀ f : Addr, s.heap.objs.size ≤ f → f ∉ frs X.stack := by
    intro f hf hm
    rcases List.mem_cons.mp (J.stkSub _ hm) with z | z
    · exact absurd J.lt (Nat.not_lt.mpr (z ▸ hf))
    · exact J.nofs hf z
  have gl := J.mod.glob.keeps J.bk
  have cd := tb.code.keeps J.bk
  have bm := tb.bm.keeps J.bk
  refine PySem.W.kla_eval hdef ?_
  cases hit : codeAmong ps0 ps.toList with
  | some u =>
    obtain ⟨c2, rfl, hco⟩ := named ps0 u hit
    exact PySem.W.kla_makeFunctionHit (mg := X.mg) (ps := ps) (P := P) (c := c) (closure_ok hfr) J.ok.glob gl hcode cd hPs tri hit bm fun cv g tk kp hz =>
      go _ c2 _ cv H _ (J.kept (t' := tk) fun b o e => Heap.get?_push_of_some _ (kp b o e)) (Tg.SmT.refl H) ⟨ps, hP, tri, named⟩ hco (J.hok.fresh hz) (away _ hz) (Heap.get?_push_size _ rfl)
  | none =>
    refine PySem.W.kla_makeFunction (mg := X.mg) (ps := ps) (P := P) (c := c) (closure_ok hfr) J.ok.glob gl hcode cd hPs tri hit tb.gP bm fun c2 cv g tk kp hge hlt rec hP2 => ?_
    obtain ⟨_, oc, vs, t, e, r1, r2, r3⟩ := rec
    cases e
    have hn : H c2 = none := J.hok.fresh hge
    have hz : s.heap.objs.size ≤ g.objs.size := Nat.le_of_lt (Nat.lt_of_le_of_lt hge hlt)
    have el : (ps ++ #[rawInt ps0.line, rawInt ps0.col, .ref c2]).toList = ps.toList ++ [rawInt ps0.line, rawInt ps0.col, .ref c2] := by simp
    have tri2 : TriplesOk (ps ++ #[rawInt ps0.line, rawInt ps0.col, .ref c2]).toList := by
      rw [el]
      exact PySem.TriplesOk_snoc _ _ _ _ tri
    have K1 := LamX.inv_table (t' := tk) (h' := g.push (PySem.W.kla_obj "<lambda>" (X.env.qual ++ "<lambda>") ag bd sc (cloFrom X.env.cells sc.names []) ((X.mg "__name__").getD .none) c2 cv)) (more := #[rawInt ps0.line, rawInt ps0.col, .ref c2]) J hP
      (fun b o n e => Heap.get?_push_of_some _ (kp b o n e)) (Heap.get?_push_of_some _ hP2) hge ⟨oc, vs, t, Heap.get?_push_of_some _ r1, r2, r3⟩
    have sm := smt_put (q := X.env.qual ++ "<lambda>") (qs := ps ++ #[rawInt ps0.line, rawInt ps0.col, .ref c2]) hP hn fun _ => tri2
    have ne1 : g.objs.size ≠ c2 := fun z => Nat.lt_irrefl _ (z ▸ hlt)
    have ne2 : g.objs.size ≠ P := fun z => Nat.lt_irrefl _ (Nat.lt_of_lt_of_le (Heap.lt_size hPs) (z ▸ hz))
    refine go _ c2 _ cv _ _ K1 sm ⟨_, by rw [upd_ne (ne_of_none hP hn), upd_same], tri2, fun p2 u hu => ?_⟩ upd_same (by rw [upd_ne ne1, upd_ne ne2]; exact J.hok.fresh hz) (away _ hz) (Heap.get?_push_size _ rfl)
    rw [el] at hu
    rcases LamX.among_app _ tri hu with z | z
    · obtain ⟨c0, e1, e2⟩ := named p2 u z
      exact ⟨c0, e1, sm.keep _ _ (.inr (show Tg.NoTab (LamX.CodeO c0 _) from trivial)) e2⟩
    · exact ⟨c2, z, upd_same⟩
end
/-- x() where x holds what was got; tl: the lambda's reading at its maker, W: what is wished of a refusal -/
def tAct (f c2 : Addr) (q : Str) (W : WX) (tl : XK → Hp → VK → Prop) : TE := fun σZ HZ Q => ∃ E : XK, (∀ cls d H', E cls d H' → W cls d σZ H') ∧ σZ[0]? = some (some (.ref f)) ∧ HZ c2 = some (LamX.CodeO c2 q) ∧ tl E HZ Q
section
variable {X : Cx} {pins : List (Addr × Obj)} {σ : L2.St} {H : Hp} {s : Shared}
theorem acts {CXg : CXT} {Eg : XK} {Ng : List Str} {qg : Str} {sg : Scope} {g f c2 : Addr} {cdg pm cv : Value} {ag : Arguments} {bd : Expr} {sc : Scope} {k : Nat} {a : Str} {pn : List (Addr × Obj)} {xe : Value → Shared → Prop} {W : WX} {t : XK → TE} {p1 p2 : Pos}
    (J : Inv X pins σ H s) (L : LamX.LamS X.env.scope sc) (hf : s.heap.get? f = some (PySem.W.kla_obj "<lambda>" (X.env.qual ++ "<lambda>") ag bd sc (cloFrom X.env.cells sc.names []) pm c2 cv)) (hfn : H f = none) (hfr : f ∉ frs X.stack)
    (hb : bindArgs (PySem.W.kla_fn "<lambda>" (X.env.qual ++ "<lambda>") ag bd sc (cloFrom X.env.cells sc.names []) pm (.ref c2) cv) ⟨[], []⟩ = pure []) (tk : Takes ((cxOf CXg X.prog X.w X.K X.mg X.base Ng qg sg g cdg X.A X.stack s H Eg).tr pn xe) W)
    (hr : Room (k + 1) (X.A.deeper (envOfC qg sg s.heap.objs.size g cdg))) (body : ∀ (A : Around) (outer : List Env) (s : Shared) (H : Hp) (E : XK), Room k (A.deeper (LamX.lamEnv X sc s.heap.objs.size f c2)) → PE (LamX.lamCx X A outer s H E sc f c2) bd (t E))
    (hN : Ng[0]? = some a) (hv : Vis sg a) (hd : (a == ("__debug__" : Str)) = false) (hcd : (a == ("__classdict__" : Str)) = false) :
    PE ((cxOf CXg X.prog X.w X.K X.mg X.base Ng qg sg g cdg X.A X.stack s H Eg).tr pn xe) (.Call (.Name a p1) [] [] p2) (tAct f c2 (X.env.qual ++ "<lambda>") W fun E H' Q' => t E σ H' Q') := by
  refine ⟨fun pz sz σz Hz Qz Iz hh => ?_⟩
  obtain ⟨E0, hW, hs, hco, ht⟩ := hh
  refine wpAny_Call_Name_kw (thn ((pe_var (pos := p1) (i := 0) hN hv hd hcd).run pz sz σz Hz (fun v H1 => v = .ref f ∧ H1 = Hz) Iz ⟨.ref f, hs, rfl, rfl⟩) fun u s1 ⟨v, H1, I1, r1, e1, e2⟩ => ?_)
  subst e1 e2
  obtain rfl : u = Value.ref f := r1
  have hf1 := I1.base.keep f _ hf hfn hfr (fun z => nomatch (show f ∈ ([] : List Addr) from z))
  have un : Un (frs X.stack) [] H H1 s.heap s1.heap := I1.base
  obtain ⟨⟨oc, us, tt, hoc, hdc, hvc⟩, _, _⟩ := I1.hok c2 _ hco
  refine PySem.W.callWith_F0 ⟨_, _, _, _, hf1⟩ ?_
  have run : codeAny (model X.prog X.w) (X.A.deeper (envOfC qg sg s.heap.objs.size g cdg)) (.call (.ref f) ⟨[], []⟩) (CR (L2.CX X.prog X.w) (envOfC qg sg s.heap.objs.size g cdg :: X.stack) X.prog X.w H1 s1 Qz E0) s1 := by
    refine PySem.W.kla_callFunE hr.depth hf1 rfl L.co L.gen rfl ⟨c2, oc, us, tt, rfl, hoc, hdc, hvc⟩ ?_
    rw [hb]
    refine wpAny_pure (wpAny_newFunctionEnv (fun y hy => (L.own y hy).2) (fun y hy => absurd hy (by simp)) (fun h3 hns hsb => ⟨I1.nolimit.fresh _ hsb, ?_⟩) L.kind)
    show codeAny _ _ (.expr bd (LamX.lamEnv X sc s1.heap.objs.size f c2)) _ _
    have J3 : Inv (LamX.lamCx X (X.A.deeper (envOfC qg sg s.heap.objs.size g cdg)) (envOfC qg sg s.heap.objs.size g cdg :: X.stack) s1 H1 E0 sc f c2) [] σ H1 { s1 with heap := h3, toks := s1.toks + ([] : List (Str × Value)).length } :=
      LamX.lam_start2 J L I1.env0 hr.hd un hns fun b o e => hsb.extBut b o (Nat.ne_of_lt (Heap.lt_size e)) (Heap.get?_push_of_some _ e)
    refine PySem.W.kla_codeExpr (wpAny_mono ((body _ _ s1 H1 _ (hr.deeper _)).run [] _ _ H1 Qz J3 ht) (fun v s4 hq => ?_) fun e s4 hq => hq)
    obtain ⟨y, H4, J4, rv, q⟩ := hq
    exact ⟨y, H4, J4.os, J4.bare, J4.base, J4.hok, rv, q⟩
  refine wpAny_call (codeAny_mono run fun r s4 hq => ?_)
  cases r with
  | ok fl =>
    cases fl with
    | ret u => exact I1.after hq
    | _ => exact False.elim hq
  | error e => exact tk e s4 (XE.of_call I1 hW hq)
end
/-- the def g at work on a lambda -/
def Gives (P : Program) (w : World) (K : PySem.W.Frag) (mg : Str → Option Value) (base : Heap) (A : Around) (stack : List Env) (k : Nat) (Ng : List Str) (x : Str) (sg : Scope) (g : Addr) (cdg : Value) (bg : List Stmt) (a q : Str) (TT : (XK → Hp → VK → Prop) → Hp → VK → Prop) : Prop :=
  ∀ (f c2 : Addr) (s : Shared) (H : Hp) (Q : VK) (tl : XK → Hp → VK → Prop), Room k (A.deeper (envOfC x sg s.heap.objs.size g cdg)) →
    (∀ (W : WX) (pn : List (Addr × Obj)) (xe : Value → Shared → Prop) (p1 p2 : Pos), Takes ((cxOf L2.CX0 P w K mg base Ng x sg g cdg A stack s H L2.E0).tr pn xe) W →
      PE ((cxOf L2.CX0 P w K mg base Ng x sg g cdg A stack s H L2.E0).tr pn xe) (.Call (.Name a p1) [] [] p2) (tAct f c2 q W tl)) →
    H c2 = some (LamX.CodeO c2 q) → TT tl H Q →
    ∃ t, PSs (cxOf L2.CX0 P w K mg base Ng x sg g cdg A stack s H L2.E0).nox bg t ∧ t { nx := fun _ H' => Q .non H', rt := Q } (L2.start Ng [.ref f]) H
def tLamC (P : Addr) (q : Str) (TT : (XK → Hp → VK → Prop) → Hp → VK → Prop) (t : XK → TE) : TE := fun σ H Q => LamX.TabS H P q ∧ ∀ H1, Tg.SmT P H H1 → LamX.TabS H1 P q → TT (fun E H' Q' => t E σ H' Q') H1 Q
section
variable {X : Cx}
/-- x(lambda: body) -/
theorem pe_lam {TT : (XK → Hp → VK → Prop) → Hp → VK → Prop} {x a q : Str} {st : Stmt} {fd : FuncData} {g c P : Addr} {k : Nat} {Ng : List Str} {ag : Arguments} {bd : Expr} {sc : Scope} {t : XK → TE} {p1 p2 p3 : Pos} (hg : Gl X x) (hm : X.mg x = some (.ref g)) (F : Fun X.K x x st g fd) (hb : Binds X.K fd [a] [])
    (Sg : FnScope Ng [a] (defScope st)) (hNg : Ng[0]? = some a) (hva : Vis (defScope st) a) (hG : ∀ cdg, Gives X.prog X.w X.K X.mg X.base X.A X.stack (k + 1) Ng x (defScope st) g cdg (defBody st) a q TT) (tb : LamX.TabB X.base X.mg c P) (hcode : X.env.code = .ref c) (hq : X.env.qual ++ "<lambda>" = q)
    (hr : Room (k + 2) X.A) (L : LamX.LamS X.env.scope sc) (hdef : defaultsOf ag X.env = ([], [])) (hbind : ∀ (q2 : Str) (cl : List (Str × Addr)) (pm cv ctv : Value), bindArgs (PySem.W.kla_fn "<lambda>" q2 ag bd sc cl pm cv ctv) ⟨[], []⟩ = pure [])
    (hbody : ∀ (A : Around) (outer : List Env) (s : Shared) (H : Hp) (E : XK) (f c2 : Addr), Room k (A.deeper (LamX.lamEnv X sc s.heap.objs.size f c2)) → PE (LamX.lamCx X A outer s H E sc f c2) bd (t E))
    (hdb : (x == ("__debug__" : Str)) = false := by decide) (hd : (a == ("__debug__" : Str)) = false := by decide) (hcd : (a == ("__classdict__" : Str)) = false := by decide) :
    PE X (.Call (.Name x p1) [.Lambda ag bd sc p2] [] p3) (tLamC P q TT t) := by
  refine ⟨fun pins s σ H Q J hh => ?_⟩
  obtain ⟨hT, hh⟩ := hh
  obtain ⟨oc, od, kV, doc, pm, an, cdv, ct, osl, rfl, lk, hcd2⟩ := F.ex
  refine wpAny_Call_Name_kw (ld_glob J hg hm ?_ hdb)
  refine PySem.W.callWith_K (h₀ := X.base) J.ok.mod.kin F.kp ?_ (by rfl) (by rfl)
  show wpAny _ _ (spliced ((false, eval (.Lambda ag bd sc p2) X.env) :: backTo p3 (starEach [] X.env))) _ _ s
  refine Calls.spliced_cons (made J tb hcode hq hT hdef (L.has J.ok) fun f c2 pm2 cv H1 s1 J1 sm T1 hco hfn hfr hf => ?_)
  refine Calls.spliced_nil ⟨J1.kIn, ?_⟩
  subst hq
  have rc : codeAny (model X.prog X.w) X.A (.call (.ref g) ⟨[.ref f], []⟩) (CR L2.CX0 X.stack X.prog X.w H1 s1 Q L2.E0) s1 :=
    LamX.run_ofS (us := [.ref f]) (vs := [.ref f]) (N := Ng) (ps := [a]) lk hcd2 Sg hr J1.env0 (hb s1 [.ref f] J1.kIn rfl) (.cons rfl .nil) rfl fun hr2 => by
      obtain ⟨t2, ht2, hq2⟩ := hG cdv f c2 s1 H1 Q (fun E H' Q' => t E σ H' Q') hr2 (fun W pn xe q1 q2 tk => acts J1 L hf hfn hfr (hbind _ _ _ _ _) tk hr2 (fun A outer s H E hr3 => hbody A outer s H E f c2 hr3) hNg hva hd hcd) hco (hh H1 sm T1)
      exact ⟨t2, ht2.nox, hq2⟩
  refine wpAny_call (codeAny_mono rc fun r s2 hq => ?_)
  cases r with
  | error e => exact (show False from hq).elim
  | ok fl =>
    cases fl with
    | ret u => exact J1.after hq
    | next => exact False.elim hq
    | brk => exact False.elim hq
    | cont => exact False.elim hq
end
end Lb
namespace Tg
open PySem
theorem tab_lam {base : Heap} {mg : Str → Option Value} {c P : Addr} (h : GxR.TabB base mg c P) : LamX.TabB base mg c P := ⟨h.code, h.bm, h.gP⟩
end Tg
namespace My
open PySem PySem.Spec L2 RT Rn
/-- a law, the tables empty -/
def spLawE (K : PySem.W.Frag) (Ps : List Addr) : Sp := fun vs H Q _ => ∃ (a : Addr) (ns : List Int), vs = [.ref a] ∧ SqL K H a (ns.map V.int) ∧ ns.length ≤ 63 ∧ (∀ H', Q (.bl true) H') ∧ ∀ P ∈ Ps, H P = some (.tbl #[])
end My
namespace Rn
open PySem PySem.Spec L2 RT
section
variable {σ : St} {H : Hp} {Q : VK}
theorem w_lam {P : Addr} {q : Str} {TT : (XK → Hp → VK → Prop) → Hp → VK → Prop} {t : XK → TE} (hT : LamX.TabS H P q) (h : ∀ H1, Tg.SmT P H H1 → LamX.TabS H1 P q → TT (fun E H' Q' => t E σ H' Q') H1 Q) : Lb.tLamC P q TT t σ H Q := ⟨hT, h⟩
end
end Rn
set_option Elab.async false
set_option linter.all false
set_option maxRecDepth 100000
set_option maxHeartbeats 4000000
/-! a call of what an expression gives; the words of what a lambda is handed to -/
namespace Lb
open PySem PySem.Spec PyProof.Rows L2
/-- a def that may be called, whatever it is -/
def HeldX (P : Program) (w : World) (K : PySem.W.Frag) (mg : Str → Option Value) (base : Heap) (CX : CXT) (k : Nat) (f : Addr) (sp : Sp) : Prop :=
  ∃ (j : Nat) (fd : FuncData) (ps : List Str), j ≤ k ∧ FnOk P w K mg base CX j f fd ps sp ∧ PySem.W.keepIn K (.ref f) = true ∧ Binds K fd ps []
def tCallE (P : Program) (w : World) (K : PySem.W.Frag) (mg : Str → Option Value) (base : Heap) (CX : CXT) (k : Nat) (E : L2.St → XK) (te : TE) (ta : TA) : TE := fun σ H Q => te σ H fun v H1 => ∃ (f : Addr) (sp : Sp), v = .ref f ∧ HeldX P w K mg base CX k f sp ∧ ta σ H1 fun vs H2 => sp vs H2 Q (E σ)
section
variable {X : Cx} {CX : CXT} {k : Nat} {E : L2.St → XK} {fe e : Expr} {es : List Expr} {pos : Pos} {te : TE} {ta : TA}
theorem pe_callE (hr : Room k X.A) (hf : PE X fe te) (hx : ∀ σ, PassesAt CX X σ (E σ)) (ha : PA X (e :: es) ta) (hc : eval (.Call fe (e :: es) [] pos) X.env = (do callWith pos (← eval fe X.env) [] (backTo pos (starEach (e :: es) X.env)) (backToKw pos (keywordEach [] X.env))) := by rfl)
    (he : starEach (e :: es) X.env = (false, eval e X.env) :: starEach es X.env := by rfl) (hpl : (backTo pos (starEach es X.env)).any (·.1) = false := by rfl) : PE X (.Call fe (e :: es) [] pos) (tCallE X.prog X.w X.K X.mg X.base CX k E te ta) := by
  refine ⟨fun pins s σ H Q I h => ?_⟩
  rw [hc]
  refine wpAny_bind (thn (hf.run pins s σ H _ I h) fun u s1 ⟨v, H1, I1, r1, f, sp, ev, ⟨j, fd, ps, hj, F, hk, hb⟩, q1⟩ => ?_)
  subst ev
  obtain rfl : u = Value.ref f := r1
  exact PySem.W.callWith_K (h₀ := X.base) I1.ok.mod.kin hk (thn (ha.run pos pins s1 σ H1 _ I1 q1) fun us s2 ⟨vs, H2, I2, r2, q2⟩ => ⟨I2.kIn, run_fnS F (hr.mono hj) hb (hx σ) I2 r2 q2⟩) he hpl
end
end Lb
namespace L2
open PySem PySem.Spec PyProof.Rows
theorem pe_bmK {X : Cx} {o e : Expr} {es : List Expr} {to : TE} {t : TA} {name : Str} {p1 p2 : Pos} {T id : String} {r : V → List V → Hp → VK → Prop} (K : PySem.W.Frag) (eK : X.K = K) (pa : PlainAttrs T) (sl : Slot T name id) (ty : typeOf (.builtin id) = pure (.type "method_descriptor")) (hm : MtR X id r) (ho : PE X o to) (ha : PA X (e :: es) t)
    (h1 : attributeBase o name X.env (eval o X.env) = eval o X.env := by rfl) (h2 : ((backTo p2 (starEach (e :: es) X.env)).all (fun x => !x.1) && (backToKw p2 (keywordEach [] X.env)).all (fun x => x.1.isSome) && decide ((e :: es).length + ([] : List Keyword).length + (if ([] : List Keyword).isEmpty then 0 else 1) < 30)) = true := by rfl)
    (h3 : (p1.endLine == p2.line) = true := by rfl) (h4 : starEach (e :: es) X.env = (false, eval e X.env) :: starEach es X.env := by rfl) (h5 : (backTo p2 (starEach es X.env)).any (·.1) = false := by rfl) : PE X (.Call (.Attribute o name p1) (e :: es) [] p2) (tBM K T r to t) := eK ▸ pe_bm pa sl ty hm ho ha h1 h2 h3 h4 h5
theorem pe_bm0K {X : Cx} {o : Expr} {to : TE} {name : Str} {p1 p2 : Pos} {T id : String} {r : V → List V → Hp → VK → Prop} (K : PySem.W.Frag) (eK : X.K = K) (pa : PlainAttrs T) (sl : Slot T name id) (ty : typeOf (.builtin id) = pure (.type "method_descriptor")) (hm : MtR X id r) (ho : PE X o to)
    (h1 : attributeBase o name X.env (eval o X.env) = eval o X.env := by rfl) (h3 : (p1.endLine == p2.line) = true := by rfl) : PE X (.Call (.Attribute o name p1) [] [] p2) (tBM0 K T r to) := eK ▸ pe_bm0 pa sl ty hm ho h1 h3
end L2
namespace Rn
open PySem PySem.Spec L2 RT
theorem k_cntV {X : Cx} (K : PySem.W.Frag) (e : X.K = K) : MtR X "list.count" (rCntV K) := e ▸ mt_countV
theorem k_idx {X : Cx} (K : PySem.W.Frag) (e : X.K = K) : MtR X "list.index" (rIndex K) := e ▸ mt_index
section
variable {σ : St} {H : Hp} {Q : VK}
theorem w_callE {P : Program} {w : World} {K : PySem.W.Frag} {mg : Str → Option Value} {base : Heap} {CX : CXT} {k : Nat} {E : St → XK} {te : TE} {ta : TA}
    (h : te σ H fun v H1 => ∃ (f : Addr) (sp : Sp), v = .ref f ∧ Lb.HeldX P w K mg base CX k f sp ∧ ta σ H1 fun vs H2 => sp vs H2 Q (E σ)) : Lb.tCallE P w K mg base CX k E te ta σ H Q := h
theorem w_act {f c2 : Addr} {q : Str} {W : WX} {tl : XK → Hp → VK → Prop} (E : XK) (hW : ∀ cls d H', E cls d H' → W cls d σ H') (h1 : σ[0]? = some (some (.ref f))) (h2 : H c2 = some (LamX.CodeO c2 q)) (h : tl E H Q) : Lb.tAct f c2 q W tl σ H Q := ⟨E, hW, h1, h2, h⟩
theorem w_cntV {K : PySem.W.Frag} {p : Addr} {ys : List V} {y : V} (hl : SqL K H p ys) (fy : flatV y = true) (fys : ys.all flatV = true) (h : Q (.int (ys.countP (fun z => eqV z y) : Nat)) H) : rCntV K (.ref p) [y] H Q := ⟨p, ys, y, rfl, rfl, hl, fy, fys, h⟩
theorem w_idxV {K : PySem.W.Frag} {p : Addr} {ys : List V} {y z : V} (j : Nat) (hl : SqL K H p ys) (fy : flatV y = true) (fys : ys.all flatV = true) (hz : ys[j]? = some z) (hzy : eqV z y = true) (hno : ∀ (m : Nat) (z' : V), m < j → ys[m]? = some z' → eqV z' y = false) (h : Q (.int (j : Nat)) H) : rIndex K (.ref p) [y] H Q :=
  ⟨p, ys, y, j, z, rfl, rfl, hl, fy, fys, hz, hzy, hno, h⟩
end
end Rn
namespace My
open PySem PySem.Spec L2 RT Rn
def AllM (K : PySem.W.Frag) (H : Hp) (xs : List V) : Prop := ∀ x ∈ xs, ∃ m, x = V.ref m ∧ MachBad K H m
theorem AllM.nil {K : PySem.W.Frag} {H : Hp} : AllM K H [] := fun _ h => nomatch h
theorem AllM.cons {K : PySem.W.Frag} {H : Hp} {m : Addr} {xs : List V} (h : MachBad K H m) (r : AllM K H xs) : AllM K H (V.ref m :: xs) := fun x hx => by
  rcases List.mem_cons.mp hx with e | hx
  · exact ⟨m, e, h⟩
  · exact r x hx
theorem AllM.tn {K : PySem.W.Frag} {A B : Hp} {xs : List V} (h : AllM K A xs) (t : Tn A B) : AllM K B xs := fun x hx => by
  obtain ⟨d, e, k⟩ := h x hx
  exact ⟨d, e, k.tn t⟩
theorem AllM.app {K : PySem.W.Frag} {H : Hp} {xs ys : List V} (h : AllM K H xs) (k : AllM K H ys) : AllM K H (xs ++ ys) := fun x hx => (List.mem_append.mp hx).elim (h x) (k x)
theorem AllM.pick {K : PySem.W.Frag} {H : Hp} {xs : List V} (h : AllM K H xs) {r : Int} (r0 : 0 ≤ r) (r1 : r < (xs.length : Nat)) : ∃ m, atI xs r = some (.ref m) ∧ MachBad K H m := by
  have hl : r.toNat < xs.length := by omega
  have hx : xs[r.toNat]? = some xs[r.toNat] := List.getElem?_eq_getElem hl
  obtain ⟨d, e, k⟩ := h _ (List.mem_of_getElem? hx)
  exact ⟨d, by rw [atI_of r0 hx, e], k⟩
theorem bad4 {K : PySem.W.Frag} {H : Hp} {m : Addr} {b s w c : Int} (h : SqT K H m [.int b, .int s, .int w, .int c]) (n : ¬ (2 ≤ b ∧ b ≤ 12 ∧ 1 ≤ s ∧ s ≤ 6 ∧ s ≤ w ∧ w ≤ 16 ∧ 1 ≤ c ∧ c ≤ 10))
    (hb : -(2 ^ 40) < b ∧ b < 2 ^ 40) (hs : -(2 ^ 40) < s ∧ s < 2 ^ 40) (hw : -(2 ^ 40) < w ∧ w < 2 ^ 40) (hc : -(2 ^ 40) < c ∧ c < 2 ^ 40) : MachBad K H m := by
  refine ⟨[b, s, w, c], h, by simp, ?_, fun x hx => ?_⟩
  · unfold machOk
    refine Bool.eq_false_iff.mpr fun z => n ?_
    simp only [Bool.and_eq_true, decide_eq_true_eq] at z
    omega
  · simp only [List.mem_cons, List.mem_nil_iff, or_false] at hx
    rcases hx with rfl | rfl | rfl | rfl <;> assumption
theorem badN {K : PySem.W.Frag} {H : Hp} {m : Addr} {ms : List Int} (h : SqT K H m (ms.map V.int)) (n : ms.length ≠ 4) (hl : ms.length ≤ 1000) (hx : ∀ x ∈ ms, -(2 ^ 40) < x ∧ x < 2 ^ 40) : MachBad K H m := by
  refine ⟨ms, h, hl, ?_, hx⟩
  match ms, n with
  | [], _ => rfl
  | [_], _ => rfl
  | [_, _], _ => rfl
  | [_, _, _], _ => rfl
  | [_, _, _, _], n => exact absurd rfl n
  | _ :: _ :: _ :: _ :: _ :: _, _ => rfl
/-- a drawn machine that is none -/
def spBadDraw (K : PySem.W.Frag) : Sp := fun vs H Q _ => ∃ (a cl m : Addr) (b s w c : Int), vs = [.ref a, .ref m] ∧ DrawAt H a cl ∧ MachAt K H m b s w c ∧ Mach b s w c ∧ ∀ p H', MachBad K H' p → Drew a cl H H' → Q (.ref p) H'
end My
namespace My
open PySem PySem.Spec L2 RT Rn
/-- each ask of a machine that is none -/
def spAsk (K : PySem.W.Frag) (CM : Addr) : Sp := fun vs H Q E => ∃ (k : Int) (m : Addr), vs = [.int k, .ref m] ∧ 0 ≤ k ∧ k < 13 ∧ MachBad K H m ∧ ∀ H', Same H H' → E (.ref CM) none H'
end My
namespace My
open PySem PySem.Spec L2 RT Rn
/-- what becomes of a refusal that a lambda lets out, by its class -/
def KindT (wds : Value → Str → Prop) : (XK → Hp → VK → Prop) → Hp → VK → Prop := fun tl H Q =>
  tl (fun cls d H' => ∃ w, wds cls w ∧ (d = none ∨ ∃ dd fs, d = some dd ∧ H' dd = some (.xd fs)) ∧ ∀ H'', Same H' H'' → Q (.str w) H'') H (fun _ H' => Q (.str "") H')
def kinds13 (CM CV CB : Addr) : Value → Str → Prop := fun cls w => (cls = .ref CM ∧ w = "machine") ∨ (cls = .ref CV ∧ w = "value") ∨ (cls = .ref CB ∧ w = "book")
end My
namespace Lb
open PySem L2
theorem tabS_smt {H H' : Hp} {P Q : Addr} {q : Str} (h : LamX.TabS H P q) (e : Tg.SmT Q H H') (ne : P ≠ Q) : LamX.TabS H' P q := by
  obtain ⟨ps, h1, h2, h3⟩ := h
  refine ⟨ps, e.keep _ _ (.inl ne) h1, h2, fun p cv hc => ?_⟩
  obtain ⟨c, e1, e2⟩ := h3 p cv hc
  exact ⟨c, e1, e.keep _ _ (.inr trivial) e2⟩
theorem tabS_kp {H H' : Hp} {P a c : Addr} {q : Str} (h : LamX.TabS H P q) (k : Rn.Kp a c H H') (hA : My.DrawAt H a c) : LamX.TabS H' P q := by
  obtain ⟨s, i, cells, ha, hc, _⟩ := hA
  have go : ∀ b o, H b = some o → (∀ xs, o ≠ .lst xs) → H' b = some o := fun b o hb no => k b o hb (fun z => by subst z; rw [ha] at hb; cases hb; exact no _ rfl) (fun z => by subst z; rw [hc] at hb; cases hb; exact no _ rfl)
  obtain ⟨ps, h1, h2, h3⟩ := h
  refine ⟨ps, go _ _ h1 (fun xs z => nomatch z), h2, fun p cv hc => ?_⟩
  obtain ⟨d, e1, e2⟩ := h3 p cv hc
  exact ⟨d, e1, go _ _ e2 (fun xs z => nomatch z)⟩
theorem tabS_drew {H H' : Hp} {P a c : Addr} {q : Str} (h : LamX.TabS H P q) (D : My.Drew a c H H') (hA : My.DrawAt H a c) : LamX.TabS H' P q := tabS_kp h D.kp hA
end Lb
namespace Rn
open PySem PySem.Spec L2 RT
theorem w_neStr {K : PySem.W.Frag} {x y : Str} {H : Hp} {Q : VK} (h : Q (.bl (!decide (x = y))) H) : uNe K (.str x) (.str y) H Q := .inl ⟨rfl, by
  have e : decide (V.str x = V.str y) = decide (x = y) := decide_eq_decide.mpr ⟨V.str.inj, congrArg V.str⟩
  rw [e]
  exact h⟩
end Rn
namespace My
open PySem PySem.Spec L2 RT Rn
/-- values that are none, each a dict of its own -/
def AllW (b : Int) (ins : List Inp) (H : Hp) (xs : List V) : Prop := ∀ x ∈ xs, ∃ d kv, x = V.ref d ∧ H d = some (.dK (rvalD kv)) ∧ rvalsOk b ins kv = false ∧ ∀ p ∈ rvalD kv, valV (rvalD kv) p.1 = some p.2
theorem AllW.nil {b : Int} {ins : List Inp} {H : Hp} : AllW b ins H [] := fun _ h => nomatch h
theorem AllW.cons {b : Int} {ins : List Inp} {H : Hp} {d : Addr} {xs : List V} (kv : List (Str × Int)) (h : H d = some (.dK (rvalD kv))) (n : rvalsOk b ins kv = false) (u : ∀ p ∈ rvalD kv, valV (rvalD kv) p.1 = some p.2) (r : AllW b ins H xs) : AllW b ins H (V.ref d :: xs) := fun x hx => by
  rcases List.mem_cons.mp hx with e | hx
  · exact ⟨d, kv, e, h, n, u⟩
  · exact r x hx
theorem AllW.smt {P : Addr} {b : Int} {ins : List Inp} {A B : Hp} {xs : List V} (h : AllW b ins A xs) (e : Tg.SmT P A B) : AllW b ins B xs := fun x hx => by
  obtain ⟨d, kv, e1, e2, e3⟩ := h x hx
  exact ⟨d, kv, e1, e.d e2, e3⟩
theorem flat_rval (kv : List (Str × Int)) : ∀ p ∈ rvalD kv, flatB p.2 = true := fun p hp => by
  obtain ⟨q, _, rfl⟩ := List.mem_map.mp hp
  rfl
def insND : List Inp := [⟨"n", 1, 1⟩, ⟨"d", 1, 0⟩]
def bokND : Bok := ⟨insND, [.one], []⟩
def rbokND : RBok := ⟨insND, [.bad "fly" []], []⟩
theorem nameOk_n : nameOk "n" = true := by decide +kernel
theorem nameOk_d : nameOk "d" = true := by decide +kernel
theorem insND_ok {s : Int} (h : 1 ≤ s) : insOk s insND := by
  refine ⟨by decide, fun k i e => ?_⟩
  rcases k with _ | _ | k
  · cases e
    have e1 : decide ((1 : Int) ≤ s) = true := decide_eq_true h
    unfold inputOk
    rw [nameOk_n, e1]
    rfl
  · cases e
    have e1 : decide ((1 : Int) ≤ s) = true := decide_eq_true h
    unfold inputOk
    rw [nameOk_d, e1]
    decide +kernel
  · cases e
theorem bokND_ok {s : Int} (h : 1 ≤ s) : BokOk s bokND := ⟨insND_ok h, by decide, fun d hd => by rw [List.mem_singleton.mp hd]; rfl, by decide, fun c hc => nomatch hc⟩
theorem rbokND_why {s : Int} (h : 1 ≤ s) : whyNot s rbokND = some (0, ("deed" : Str)) := by
  have e : whyIn s insND = none := by
    unfold whyIn
    rw [if_neg (by decide)]
    exact firstIn_none fun j i e => by rw [Nat.zero_add]; exact (insND_ok h).2 j i e
  unfold whyNot
  rw [show rbokND.ins = insND from rfl, e]
  rfl
end My
namespace Rn
open PySem PySem.Spec L2 RT
/-- a written dict of texts and numbers -/
def DispQ (p : Addr) (Q : VK) (ps : List (V × V)) (H2 : Hp) : Prop := H2 p = some (.dK []) ∧ ∃ kvs : List (Key × V), ps = kvs.map (fun kv => (kV kv.1, kv.2)) ∧ kvs.length ≤ 15 ∧ Q (.ref p) (upd H2 p (.dK (mergeK [] kvs)))
theorem w_dispQ {trs : List (TE × TE)} {σ : St} {H : Hp} {Q : VK} (h : ∀ p, H p = none → tPairs trs σ (upd H p (.dK [])) (DispQ p Q)) : tDisp trs σ H Q := h
theorem w_dispI {p : Addr} {H : Hp} {Q : VK} {ps : List (V × V)} (hp : H p = none) (kv : List (Str × Int)) (e0 : ps = kv.map fun q => (V.str q.1, V.int q.2)) (e : mergeK [] (My.rvalD kv) = My.rvalD kv) (hn : kv.length ≤ 15) (h : ∀ H', Same H H' → H' p = some (.dK (My.rvalD kv)) → Q (.ref p) H') : DispQ p Q ps (upd H p (.dK [])) := by
  subst e0
  refine ⟨upd_same, My.rvalD kv, ?_, by unfold My.rvalD; rw [List.length_map]; exact hn, ?_⟩
  · unfold My.rvalD
    rw [List.map_map]
    rfl
  · rw [upd_upd, e]
    exact h _ (Same.new hp) upd_same
end Rn
namespace Tg
open PySem PySem.Spec L2 RT Rn
/-- all stays but tables -/
def NT (H H' : Hp) : Prop := ∀ b x, NoTab x → H b = some x → H' b = some x
theorem NT.refl (H : Hp) : NT H H := fun _ _ _ h => h
theorem NT.trans {A B C : Hp} (x : NT A B) (y : NT B C) : NT A C := fun b o n h => y b o n (x b o n h)
theorem SmT.nt {P : Addr} {H H' : Hp} (e : SmT P H H') : NT H H' := fun b x n h => e.keep b x (.inr n) h
theorem _root_.L2.Same.nt {H H' : Hp} (e : Same H H') : NT H H' := fun b x _ h => e b x h
theorem NT.tn {H H' : Hp} (e : NT H H') : Tn H H' := fun a xs h => by
  rcases h with h | ⟨o, h⟩
  · exact .inl (e _ _ trivial h)
  · exact .inr ⟨o, e _ _ trivial h⟩
theorem NT.l {H H' : Hp} (e : NT H H') {b : Addr} {xs : List V} (h : H b = some (.lst xs)) : H' b = some (.lst xs) := e _ _ trivial h
theorem NT.d {H H' : Hp} (e : NT H H') {b : Addr} {xs : List (Key × V)} (h : H b = some (.dK xs)) : H' b = some (.dK xs) := e _ _ trivial h
end Tg
namespace My
open PySem PySem.Spec L2 RT Rn
theorem AllW.nt {b : Int} {ins : List Inp} {A B : Hp} {xs : List V} (h : AllW b ins A xs) (e : Tg.NT A B) : AllW b ins B xs := fun x hx => by
  obtain ⟨d, kv, e1, e2, e3⟩ := h x hx
  exact ⟨d, kv, e1, e.d e2, e3⟩
theorem DrawAt.nt {H H' : Hp} {a c : Addr} (h : DrawAt H a c) (e : Tg.NT H H') : DrawAt H' a c := by
  obtain ⟨s, i, cells, ha, hc, r⟩ := h
  exact ⟨s, i, cells, e.l ha, e.l hc, r⟩
theorem rvalND {b x y : Int} : rvalsOk b insND [("n", x), ("d", y)] = ((decide (1 ≤ x) && decide (x < b ^ 1)) && (decide (0 ≤ y) && decide (y < b ^ 1))) := by
  have e1 : rvalOf [("n", x), ("d", y)] "n" = some x := by rfl
  have e2 : rvalOf [("n", x), ("d", y)] "d" = some y := by rfl
  unfold rvalsOk insND
  rw [List.all_cons, List.all_cons, List.all_nil]
  unfold rvalIn
  rw [e1, e2, Bool.and_true]
  rfl
end My
set_option Elab.async false
set_option linter.all false
set_option maxRecDepth 100000
set_option maxHeartbeats 4000000
/-! drawn handbooks, told more closely; what is wrong with others -/
namespace My
open PySem PySem.Spec L2 RT Rn
def farN : List Str := ["zz", "zx", "zy"]
def NamesZ (ns : List Str) : Prop := NamesOk ns ∧ ∀ n ∈ ns, n ∉ farN
theorem NamesZ.take {ns : List Str} (h : NamesZ ns) (k : Nat) : NamesZ (ns.take k) := ⟨h.1.take k, fun n hn => h.2 n (List.mem_of_mem_take hn)⟩
theorem NamesZ.rot {ns : List Str} (h : NamesZ ns) (k : Nat) : NamesZ (ns.drop k ++ ns.take k) := ⟨h.1.rot k, fun n hn => by
  rcases List.mem_append.mp hn with z | z
  · exact h.2 n (List.mem_of_mem_drop z)
  · exact h.2 n (List.mem_of_mem_take z)⟩
def farB (ns : List Str) : Bool := ns.all fun n => !decide (n ∈ farN)
theorem farB_ok {ns : List Str} (h : farB ns = true) : ∀ n ∈ ns, n ∉ farN := fun n hn => by
  unfold farB at h
  have := List.all_eq_true.mp h n hn
  simpa using this
theorem names_wordZ {r : Int} (r0 : 0 ≤ r) (r1 : r < 7) : NamesZ [cutS "abcdefg" (some r) none, cutS "abcdefg" (some r) none ++ "x", cutS "abcdefg" (some r) none ++ "y", "x" ++ cutS "abcdefg" (some r) none] ∧ (cutS "abcdefg" (some r) none).length ≤ 7 := by
  obtain ⟨h1, h2⟩ := names_word r0 r1
  refine ⟨⟨h1, farB_ok ?_⟩, h2⟩
  rcases (show r = 0 ∨ r = 1 ∨ r = 2 ∨ r = 3 ∨ r = 4 ∨ r = 5 ∨ r = 6 by omega) with rfl | rfl | rfl | rfl | rfl | rfl | rfl <;> decide +kernel
theorem names_ndZ : NamesZ ["n", "d", "nd", "dn"] := ⟨names_nd, farB_ok (by decide +kernel)⟩
def spInputsZ (K : PySem.W.Frag) : Sp := fun vs H Q _ => ∃ (a cl : Addr) (most : Int), vs = [.ref a, .int most] ∧ DrawAt H a cl ∧ 1 ≤ most ∧ most ≤ 6 ∧
  ∀ (li : Addr) (xs : List Addr) (ins : List Inp) (H' : Hp), H li = none → insOk most ins → ins ≠ [] → (∀ n ∈ names ins, n ∉ farN) → InsL K H' li xs ins → Drew a cl H H' → Q (.ref li) H'
def spBookZ (K : PySem.W.Frag) : Sp := fun vs H Q _ => ∃ (a cl : Addr) (most : Int), vs = [.ref a, .int most] ∧ DrawAt H a cl ∧ 1 ≤ most ∧ most ≤ 6 ∧
  ∀ (bk : Addr) (B : Bok) (H' : Hp), BokAt K H' bk B → BokOk most B → B.ins ≠ [] → (∀ n ∈ names B.ins, n ∉ farN) → B.dds.length ≤ 38 → B.cls.length ≤ 7 → Drew a cl H H' → Q (.ref bk) H'
end My
namespace My
open PySem PySem.Spec L2 RT Rn
def spWorkedB (K : PySem.W.Frag) (TP CB : Addr) : Sp := fun vs H Q E => ∃ (m bk : Addr) (v : V) (b s w c : Int) (R : RBok) (k : Nat) (z : Str), vs = [.ref m, .ref bk, v] ∧ MachAt K H m b s w c ∧ Mach b s w c ∧ RBokAt K H bk R ∧ R.ins.length ≤ 1000 ∧ R.dds.length ≤ 1000 ∧ R.cls.length ≤ 1000 ∧ GxR.TabG H TP ∧ whyNot s R = some (k, z) ∧ OutBad TP CB H E k z
/-- asked in each of three ways, what a handbook is refused with -/
def spRefusal (K : PySem.W.Frag) (TP : Addr) : Sp := fun vs H Q _ => ∃ (y : Int) (m bk : Addr) (b s w c : Int) (R : RBok) (k : Nat) (z : Str), vs = [.int y, .ref m, .ref bk] ∧ 0 ≤ y ∧ y < 3 ∧ MachAt K H m b s w c ∧ Mach b s w c ∧ RBokAt K H bk R ∧ R.ins.length ≤ 1000 ∧ R.dds.length ≤ 1000 ∧ R.cls.length ≤ 1000 ∧ GxR.TabG H TP ∧ whyNot s R = some (k, z) ∧
  ∀ p H', Tg.SmT TP H H' → SqT K H' p [.int (k : Nat), .str z] → Q (.ref p) H'
end My
namespace My
open PySem PySem.Spec L2 RT Rn
def sgnOf (k : Nat) : Str := ⟨#[([65, 49, 32, 95] : List Nat).getD k 65]⟩
def spoil (r a : Int) (k : Nat) : Str := (cutS (cutS "qwertyui" (some r) none) none (some a) ++ sgnOf k) ++ cutS (cutS "qwertyui" (some r) none) (some (a + 1)) none
def poor (n : Str) : Bool := !nameOk n && decide (n.length ≤ 20)
theorem spoil_fin : ∀ r : Fin 8, ∀ a : Fin 8, ∀ k : Fin 4, poor (spoil (r.val : Int) (a.val : Int) k.val) = true := by decide +kernel
theorem spoil_poor {r a k : Int} (r0 : 0 ≤ r) (r1 : r < 8) (a0 : 0 ≤ a) (a1 : a < 8) (k0 : 0 ≤ k) (k1 : k < 4) : poor (spoil r a k.toNat) = true := by
  have := spoil_fin ⟨r.toNat, by omega⟩ ⟨a.toNat, by omega⟩ ⟨k.toNat, by omega⟩
  dsimp only at this
  rw [Int.toNat_of_nonneg r0, Int.toNat_of_nonneg a0] at this
  exact this
theorem sgn_at {k : Int} (k0 : 0 ≤ k) (k1 : k < 4) : ∃ c, atI ("A1 _" : Str).cps.toList k = some c ∧ (⟨#[c]⟩ : Str) = sgnOf k.toNat := by
  rcases (show k = 0 ∨ k = 1 ∨ k = 2 ∨ k = 3 by omega) with rfl | rfl | rfl | rfl
  · exact ⟨65, by decide +kernel, rfl⟩
  · exact ⟨49, by decide +kernel, rfl⟩
  · exact ⟨32, by decide +kernel, rfl⟩
  · exact ⟨95, by decide +kernel, rfl⟩
theorem word_len {r : Int} (r0 : 0 ≤ r) (r1 : r < 8) : (((cutS "qwertyui" (some r) none).length : Nat) : Int) = 8 - r := by
  rcases (show r = 0 ∨ r = 1 ∨ r = 2 ∨ r = 3 ∨ r = 4 ∨ r = 5 ∨ r = 6 ∨ r = 7 by omega) with rfl | rfl | rfl | rfl | rfl | rfl | rfl | rfl <;> decide +kernel
theorem pickStr {ns : List Str} {r : Int} (r0 : 0 ≤ r) (r1 : r < (ns.length : Nat)) : ∃ n, atI (ns.map V.str) r = some (.str n) ∧ n ∈ ns := by
  have hl : r.toNat < ns.length := by omega
  have hx : ns[r.toNat]? = some ns[r.toNat] := List.getElem?_eq_getElem hl
  exact ⟨_, atI_of r0 (by rw [List.getElem?_map, hx]; rfl), List.mem_of_getElem? hx⟩
/-- rows that are none behind those names -/
def AllI (K : PySem.W.Frag) (s : Int) (ns : List Str) (H : Hp) (xs : List V) : Prop := ∀ x ∈ xs, ∃ d i, x = V.ref d ∧ InpAt K H d i ∧ inputOk s ns i = false ∧ i.nm.length ≤ 1000
theorem AllI.nil {K : PySem.W.Frag} {s : Int} {ns : List Str} {H : Hp} : AllI K s ns H [] := fun _ h => nomatch h
theorem AllI.cons {K : PySem.W.Frag} {s : Int} {ns : List Str} {H : Hp} {d : Addr} {xs : List V} (i : Inp) (h : InpAt K H d i) (n : inputOk s ns i = false) (l : i.nm.length ≤ 1000) (r : AllI K s ns H xs) : AllI K s ns H (V.ref d :: xs) := fun x hx => by
  rcases List.mem_cons.mp hx with e | hx
  · exact ⟨d, i, e, h, n, l⟩
  · exact r x hx
theorem AllI.tn {K : PySem.W.Frag} {s : Int} {ns : List Str} {A B : Hp} {xs : List V} (h : AllI K s ns A xs) (t : Tn A B) : AllI K s ns B xs := fun x hx => by
  obtain ⟨d, i, e, k, r⟩ := h x hx
  exact ⟨d, i, e, k.tn t, r⟩
theorem AllI.pick {K : PySem.W.Frag} {s : Int} {ns : List Str} {H : Hp} {xs : List V} (h : AllI K s ns H xs) {r : Int} (r0 : 0 ≤ r) (r1 : r < (xs.length : Nat)) : ∃ d i, atI xs r = some (.ref d) ∧ InpAt K H d i ∧ inputOk s ns i = false ∧ i.nm.length ≤ 1000 := by
  have hl : r.toNat < xs.length := by omega
  have hx : xs[r.toNat]? = some xs[r.toNat] := List.getElem?_eq_getElem hl
  obtain ⟨d, i, e, k⟩ := h _ (List.mem_of_getElem? hx)
  exact ⟨d, i, by rw [atI_of r0 hx, e], k⟩
theorem inp_name {s : Int} {ns : List Str} {i : Inp} (h : nameOk i.nm = false) : inputOk s ns i = false := by
  unfold inputOk
  rw [h]
  simp
theorem inp_twice {s : Int} {ns : List Str} {i : Inp} (h : i.nm ∈ ns) : inputOk s ns i = false := by
  unfold inputOk
  rw [decide_eq_true h]
  simp
theorem inp_figs {s : Int} {ns : List Str} {i : Inp} (h : ¬ (1 ≤ i.fg ∧ i.fg ≤ s)) : inputOk s ns i = false := by
  refine Bool.eq_false_iff.mpr fun z => h ?_
  unfold inputOk at z
  simp only [Bool.and_eq_true, decide_eq_true_eq] at z
  exact ⟨z.1.1.2, z.1.2⟩
theorem inp_least {s : Int} {ns : List Str} {i : Inp} (h : ¬ (i.ls = 0 ∨ i.ls = 1)) : inputOk s ns i = false := by
  refine Bool.eq_false_iff.mpr fun z => h ?_
  unfold inputOk at z
  simp only [Bool.and_eq_true, decide_eq_true_eq] at z
  exact z.2
def spBadInput (K : PySem.W.Frag) : Sp := fun vs H Q _ => ∃ (a cl m li : Addr) (b s w c : Int) (xs : List Addr) (ins : List Inp), vs = [.ref a, .ref m, .ref li] ∧ DrawAt H a cl ∧ MachAt K H m b s w c ∧ Mach b s w c ∧ SqT K H li (xs.map V.ref) ∧ Paired (InpAt K H) xs ins ∧ ins ≠ [] ∧ (∀ i ∈ ins, i.nm.length ≤ 1000) ∧
  ∀ d i H', InpAt K H' d i → inputOk s (names ins) i = false → i.nm.length ≤ 1000 → Drew a cl H H' → Q (.ref d) H'
end My
namespace Rn
open PySem PySem.Spec L2 RT
theorem w_ixS {K : PySem.W.Frag} {H : Hp} {Q : VK} {z : Str} {i : Int} {c : Nat} (hz : z.length ≤ 100000) (h1 : atI z.cps.toList i = some c) (h : Q (.str ⟨#[c]⟩) H) : rIx K (.str z) (.int i) H Q := .inr (.inr ⟨z, i, c, rfl, rfl, Nat.le_trans hz (by decide), h1, h⟩)
end Rn
namespace My
open PySem PySem.Spec L2 RT Rn
/-- deeds that are none -/
def AllR (K : PySem.W.Frag) (ins : List Inp) (H : Hp) (xs : List V) : Prop := ∀ x ∈ xs, ∃ d rd, x = V.ref d ∧ RDeeAt K H d rd ∧ rdeeOk ins rd = false
theorem AllR.nil {K : PySem.W.Frag} {ins : List Inp} {H : Hp} : AllR K ins H [] := fun _ h => nomatch h
theorem AllR.snoc {K : PySem.W.Frag} {ins : List Inp} {A B : Hp} {d : Addr} {xs : List V} (h : AllR K ins A xs) (s : Same A B) (rd : RDee) (e : RDeeAt K B d rd) (n : rdeeOk ins rd = false) : AllR K ins B (xs ++ [V.ref d]) := fun x hx => by
  rcases List.mem_append.mp hx with hx | hx
  · obtain ⟨d, r, e1, k, z⟩ := h x hx
    exact ⟨d, r, e1, k.tn s.tn, z⟩
  · rw [List.mem_singleton.mp hx]
    exact ⟨d, rd, rfl, e, n⟩
theorem AllR.tn {K : PySem.W.Frag} {ins : List Inp} {A B : Hp} {xs : List V} (h : AllR K ins A xs) (t : Tn A B) : AllR K ins B xs := fun x hx => by
  obtain ⟨d, i, e, k, r⟩ := h x hx
  exact ⟨d, i, e, k.tn t, r⟩
theorem AllR.app {K : PySem.W.Frag} {ins : List Inp} {H : Hp} {xs ys : List V} (h : AllR K ins H xs) (k : AllR K ins H ys) : AllR K ins H (xs ++ ys) := fun x hx => (List.mem_append.mp hx).elim (h x) (k x)
theorem AllR.pick {K : PySem.W.Frag} {ins : List Inp} {H : Hp} {xs : List V} (h : AllR K ins H xs) {r : Int} (r0 : 0 ≤ r) (r1 : r < (xs.length : Nat)) : ∃ d rd, atI xs r = some (.ref d) ∧ RDeeAt K H d rd ∧ rdeeOk ins rd = false := by
  have hl : r.toNat < xs.length := by omega
  have hx : xs[r.toNat]? = some xs[r.toNat] := List.getElem?_eq_getElem hl
  obtain ⟨d, i, e, k⟩ := h _ (List.mem_of_getElem? hx)
  exact ⟨d, i, by rw [atI_of r0 hx, e], k⟩
theorem no_load {ins : List Inp} {n : Str} (h : n ∉ names ins) : rdeeOk ins (.ok (.load n)) = false := by
  show (figsOf ins n).isSome = false
  rw [figsOf_none h]
  rfl
theorem no_turns {ins : List Inp} {n : Str} {k x y : Int} (h : ∀ f, figsOf ins n = some f → (decide (0 ≤ k) && decide (k < f) && wayOk x && tallyOk y) = false) : rdeeOk ins (.ok (.turns n k x y)) = false := by
  show (match figsOf ins n with
    | some f => decide (0 ≤ k) && decide (k < f) && wayOk x && tallyOk y
    | none => false) = false
  cases e : figsOf ins n with
  | none => rfl
  | some f => exact h f e
def spBadDeed (K : PySem.W.Frag) : Sp := fun vs H Q _ => ∃ (a cl li : Addr) (s : Int) (xs : List Addr) (ins : List Inp), vs = [.ref a, .ref li] ∧ DrawAt H a cl ∧ SqT K H li (xs.map V.ref) ∧ Paired (InpAt K H) xs ins ∧ ins ≠ [] ∧ insOk s ins ∧ s ≤ 6 ∧ (∀ n ∈ names ins, n ∉ farN) ∧
  ∀ d rd H', RDeeAt K H' d rd → rdeeOk ins rd = false → Drew a cl H H' → Q (.ref d) H'
end My
namespace My
open PySem PySem.Spec L2 RT Rn
/-- sides that are none -/
def AllT (K : PySem.W.Frag) (ins : List Inp) (H : Hp) (xs : List V) : Prop := ∀ x ∈ xs, ∃ d p, x = V.ref d ∧ RSidAt K H d p ∧ rsidOk ins p 4 = false
theorem AllT.nil {K : PySem.W.Frag} {ins : List Inp} {H : Hp} : AllT K ins H [] := fun _ h => nomatch h
theorem AllT.snoc {K : PySem.W.Frag} {ins : List Inp} {A B : Hp} {d : Addr} {xs : List V} (h : AllT K ins A xs) (s : Same A B) (p : RSid) (e : RSidAt K B d p) (n : rsidOk ins p 4 = false) : AllT K ins B (xs ++ [V.ref d]) := fun x hx => by
  rcases List.mem_append.mp hx with hx | hx
  · obtain ⟨d, r, e1, k, z⟩ := h x hx
    exact ⟨d, r, e1, k.tn s.tn, z⟩
  · rw [List.mem_singleton.mp hx]
    exact ⟨d, p, rfl, e, n⟩
theorem AllT.tn {K : PySem.W.Frag} {ins : List Inp} {A B : Hp} {xs : List V} (h : AllT K ins A xs) (t : Tn A B) : AllT K ins B xs := fun x hx => by
  obtain ⟨d, i, e, k, r⟩ := h x hx
  exact ⟨d, i, e, k.tn t, r⟩
theorem AllT.app {K : PySem.W.Frag} {ins : List Inp} {H : Hp} {xs ys : List V} (h : AllT K ins H xs) (k : AllT K ins H ys) : AllT K ins H (xs ++ ys) := fun x hx => (List.mem_append.mp hx).elim (h x) (k x)
theorem AllT.pick {K : PySem.W.Frag} {ins : List Inp} {H : Hp} {xs : List V} (h : AllT K ins H xs) {r : Int} (r0 : 0 ≤ r) (r1 : r < (xs.length : Nat)) : ∃ d p, atI xs r = some (.ref d) ∧ RSidAt K H d p ∧ rsidOk ins p 4 = false := by
  have hl : r.toNat < xs.length := by omega
  have hx : xs[r.toNat]? = some xs[r.toNat] := List.getElem?_eq_getElem hl
  obtain ⟨d, i, e, k⟩ := h _ (List.mem_of_getElem? hx)
  exact ⟨d, i, by rw [atI_of r0 hx, e], k⟩
def spBadSide (K : PySem.W.Frag) : Sp := fun vs H Q _ => ∃ (a cl g : Addr) (ins : List Inp), vs = [.ref a, .ref g] ∧ DrawAt H a cl ∧ RSidAt K H g .wheels ∧ (∀ n ∈ names ins, n ∉ farN) ∧
  ∀ d p H', RSidAt K H' d p → rsidOk ins p 4 = false → Drew a cl H H' → Q (.ref d) H'
end My
namespace My
open PySem PySem.Spec L2 RT Rn
theorem insOk_take {s : Int} {ins : List Inp} (h : insOk s ins) (n : Nat) : insOk s (ins.take n) := by
  refine ⟨by rw [List.length_take]; have := h.1; omega, fun k i e => ?_⟩
  rw [List.getElem?_take] at e
  by_cases g : k < n
  · rw [if_pos g] at e
    have := h.2 k i e
    unfold names at this ⊢
    rw [← List.map_take] at this ⊢
    rw [List.take_take, Nat.min_eq_left (by omega)]
    exact this
  · rw [if_neg g] at e
    cases e
theorem insOk_snoc {s : Int} {ins : List Inp} {x : Inp} (h : insOk s ins) (h3 : ins.length ≤ 3) (hx : inputOk s (names ins) x = true) : insOk s (ins ++ [x]) := by
  refine ⟨by rw [List.length_append]; simp; omega, fun k i e => ?_⟩
  have hn : names (ins ++ [x]) = names ins ++ [x.nm] := by simp [names]
  have hl : (names ins).length = ins.length := by simp [names]
  rw [hn]
  by_cases g : k < ins.length
  · rw [List.getElem?_append_left g] at e
    rw [List.take_append_of_le_length (by omega)]
    exact h.2 k i e
  · rw [List.getElem?_append_right (by omega)] at e
    have g2 : k = ins.length := by
      have := (List.getElem?_eq_some_iff.mp e).1
      simp at this
      omega
    subst g2
    rw [Nat.sub_self] at e
    cases e
    rw [List.take_append_of_le_length (by omega), List.take_of_length_le (by omega)]
    exact hx
def zx : Inp := ⟨"zx", 1, 0⟩
def zy : Inp := ⟨"zy", 1, 0⟩
theorem zx_ok {s : Int} (s1 : 1 ≤ s) {ns : List Str} (h : ("zx" : Str) ∉ ns) : inputOk s ns zx = true := by
  have e : nameOk ("zx" : Str) = true := by decide +kernel
  unfold inputOk zx
  dsimp only
  rw [decide_eq_false h, e, decide_eq_true s1]
  decide
theorem zy_ok {s : Int} (s1 : 1 ≤ s) {ns : List Str} (h : ("zy" : Str) ∉ ns) : inputOk s ns zy = true := by
  have e : nameOk ("zy" : Str) = true := by decide +kernel
  unfold inputOk zy
  dsimp only
  rw [decide_eq_false h, e, decide_eq_true s1]
  decide
theorem ins3_ok {s : Int} (s1 : 1 ≤ s) {ins : List Inp} (h : insOk s ins) (far : ∀ n ∈ names ins, n ∉ farN) : insOk s ((ins ++ [zx, zy]).take 3) := by
  have hx : ("zx" : Str) ∉ names ins := fun z => far _ z (by decide +kernel)
  have hy : ("zy" : Str) ∉ names ins := fun z => far _ z (by decide +kernel)
  by_cases g3 : 3 ≤ ins.length
  · rw [List.take_append_of_le_length g3]
    exact insOk_take h 3
  · have h1 := insOk_snoc h (by omega) (zx_ok s1 hx)
    by_cases g2 : ins.length = 2
    · have e : (ins ++ [zx, zy]).take 3 = ins ++ [zx] := by
        rw [List.take_append, g2, List.take_of_length_le (by omega)]
        rfl
      rw [e]
      exact h1
    · have e : (ins ++ [zx, zy]).take 3 = (ins ++ [zx] ++ [zy]).take 3 := by simp
      rw [e]
      refine insOk_take (insOk_snoc h1 (by simp; omega) (zy_ok s1 fun z => ?_)) 3
      have hn : names (ins ++ [zx]) = names ins ++ [("zx" : Str)] := by simp [names, zx]
      rw [hn] at z
      rcases List.mem_append.mp z with z | z
      · exact hy z
      · exact absurd (List.mem_singleton.mp z) (by decide +kernel)
theorem firstIn_at {s : Int} {all : List Inp} {x : Inp} : ∀ {xs zs : List Inp} {k : Nat}, (∀ (j : Nat) (i : Inp), xs[j]? = some i → inputOk s ((names all).take (k + j)) i = true) → inputOk s ((names all).take (k + xs.length)) x = false → firstIn s all (xs ++ x :: zs) k = some (k + xs.length)
  | [], zs, k, _, h => by
    show firstIn s all (x :: zs) k = _
    unfold firstIn
    rw [if_neg (by rw [show (names all).take k = (names all).take (k + ([] : List Inp).length) from rfl, h]; exact Bool.false_ne_true)]
    rfl
  | y :: r, zs, k, h1, h2 => by
    show firstIn s all (y :: (r ++ x :: zs)) k = _
    unfold firstIn
    rw [if_pos (show inputOk s ((names all).take k) y = true from h1 0 y rfl)]
    rw [firstIn_at (k := k + 1) (fun j i e => by rw [show k + 1 + j = k + (j + 1) by omega]; exact h1 (j + 1) i e) (by rw [show k + 1 + r.length = k + (y :: r).length by simp; omega]; exact h2)]
    simp
    omega
theorem whyIn_bad {s : Int} {ins : List Inp} {x : Inp} (h : insOk s ins) (h3 : ins.length ≤ 3) (hx : inputOk s (names ins) x = false) : whyIn s (ins ++ [x]) = some ins.length := by
  have hn : names (ins ++ [x]) = names ins ++ [x.nm] := by simp [names]
  have hl : (names ins).length = ins.length := by simp [names]
  unfold whyIn
  rw [if_neg (by rw [List.length_append]; simp; omega)]
  have a1 : ∀ (j : Nat) (i : Inp), ins[j]? = some i → inputOk s ((names (ins ++ [x])).take (0 + j)) i = true := fun j i e => by
    have := (List.getElem?_eq_some_iff.mp e).1
    rw [hn, Nat.zero_add, List.take_append_of_le_length (by omega)]
    exact h.2 j i e
  have a2 : inputOk s ((names (ins ++ [x])).take (0 + ins.length)) x = false := by
    rw [hn, Nat.zero_add, List.take_append_of_le_length (by omega), List.take_of_length_le (by omega)]
    exact hx
  rw [firstIn_at (k := 0) a1 a2, Nat.zero_add]
theorem firstNo_at {α : Type} {ok : α → Bool} {x : α} : ∀ {xs zs : List α} {k : Nat}, (∀ y ∈ xs, ok y = true) → ok x = false → firstNo ok (xs ++ x :: zs) k = some (k + xs.length)
  | [], zs, k, _, h => by
    show firstNo ok (x :: zs) k = _
    unfold firstNo
    rw [if_neg (by rw [h]; exact Bool.false_ne_true)]
    rfl
  | y :: r, zs, k, h1, h2 => by
    show firstNo ok (y :: (r ++ x :: zs)) k = _
    unfold firstNo
    rw [if_pos (h1 y List.mem_cons_self), firstNo_at (fun z hz => h1 z (List.mem_cons_of_mem _ hz)) h2]
    simp
    omega
theorem whyIn_good {s : Int} {ins : List Inp} (h : insOk s ins) : whyIn s ins = none := by
  unfold whyIn
  rw [if_neg (by have := h.1; omega)]
  exact firstIn_none fun j i e => by rw [Nat.zero_add]; exact h.2 j i e
theorem why_deed {s : Int} {R : RBok} {k : Nat} (h : insOk s R.ins) (h2 : (if R.dds.length > 40 then some 0 else firstNo (rdeeOk R.ins) R.dds 0) = some k) : whyNot s R = some (k, ("deed" : Str)) := by
  unfold whyNot
  rw [whyIn_good h]
  dsimp only
  rw [h2]
theorem why_claim {s : Int} {R : RBok} {k : Nat} (h : insOk s R.ins) (h1 : R.dds.length ≤ 40) (h2 : ∀ d ∈ R.dds, rdeeOk R.ins d = true) (h3 : (if R.cls.length > 8 then some 0 else firstNo (rclaOk R.ins) R.cls 0) = some k) : whyNot s R = some (k, ("claim" : Str)) := by
  unfold whyNot
  rw [whyIn_good h]
  dsimp only
  rw [if_neg (by omega), firstNo_none h2]
  dsimp only
  rw [h3]
theorem why_input {s : Int} {R : RBok} {k : Nat} (h : whyIn s R.ins = some k) : whyNot s R = some (k, ("input" : Str)) := by
  unfold whyNot
  rw [h]
theorem paired_take {α β : Type} {R : α → β → Prop} : ∀ {xs : List α} {us : List β} (n : Nat), Paired R xs us → Paired R (xs.take n) (us.take n)
  | _, _, 0, _ => .nil
  | _, _, n + 1, .nil => .nil
  | _, _, n + 1, .cons a t => .cons a (paired_take n t)
theorem paired_drop {α β : Type} {R : α → β → Prop} : ∀ {xs : List α} {us : List β} (n : Nat), Paired R xs us → Paired R (xs.drop n) (us.drop n)
  | _, _, 0, h => h
  | _, _, n + 1, .nil => .nil
  | _, _, n + 1, .cons a t => paired_drop n t
def spWrong (K : PySem.W.Frag) : Sp := fun vs H Q _ => ∃ (a cl m bk : Addr) (b s w c : Int) (B : Bok), vs = [.ref a, .ref m, .ref bk] ∧ DrawAt H a cl ∧ MachAt K H m b s w c ∧ Mach b s w c ∧ BokAt K H bk B ∧ BokOk s B ∧ B.ins ≠ [] ∧ (∀ n ∈ names B.ins, n ∉ farN) ∧ B.dds.length ≤ 38 ∧ B.cls.length ≤ 7 ∧
  ∀ (p b2 : Addr) (R : RBok) (k : Nat) (z : Str) (H' : Hp), RBokAt K H' b2 R → R.ins.length ≤ 1000 → R.dds.length ≤ 1000 → R.cls.length ≤ 1000 → whyNot s R = some (k, z) → Drew a cl H H' → SqT K H' p [.ref b2, .int (k : Nat), .str z] → Q (.ref p) H'
end My
namespace My
open PySem PySem.Spec L2 RT Rn
def inp5 : List Inp := ([97, 98, 99, 100, 101] : List Nat).map fun c => ⟨⟨#[c]⟩, 1, 0⟩
theorem inp5_len : ∀ i ∈ inp5, i.nm.length ≤ 1000 := by
  intro i hi
  obtain ⟨c, _, rfl⟩ := List.mem_map.mp hi
  show (1 : Nat) ≤ 1000
  decide
theorem abc_at {i : Nat} (h : i < 5) : ∃ c, atI ("abcde" : Str).cps.toList (i : Nat) = some c ∧ inp5[i]? = some ⟨⟨#[c]⟩, 1, 0⟩ := by
  rcases (show i = 0 ∨ i = 1 ∨ i = 2 ∨ i = 3 ∨ i = 4 by omega) with rfl | rfl | rfl | rfl | rfl
  · exact ⟨97, by decide +kernel, rfl⟩
  · exact ⟨98, by decide +kernel, rfl⟩
  · exact ⟨99, by decide +kernel, rfl⟩
  · exact ⟨100, by decide +kernel, rfl⟩
  · exact ⟨101, by decide +kernel, rfl⟩
end My
namespace My
open PySem PySem.Spec L2 RT Rn
theorem pI {K : PySem.W.Frag} {A B : Hp} {xs : List Addr} {us : List Inp} (h : Paired (InpAt K A) xs us) (e : Tn A B) : Paired (InpAt K B) xs us := paired_imp (fun _ _ h => InpAt.tn h e) h
theorem pD {K : PySem.W.Frag} {A B : Hp} {xs : List Addr} {us : List RDee} (h : Paired (RDeeAt K A) xs us) (e : Tn A B) : Paired (RDeeAt K B) xs us := paired_imp (fun _ _ h => RDeeAt.tn h e) h
theorem pC {K : PySem.W.Frag} {A B : Hp} {xs : List Addr} {us : List RCla} (h : Paired (RClaAt K A) xs us) (e : Tn A B) : Paired (RClaAt K B) xs us := paired_imp (fun _ _ h => RClaAt.tn h e) h
end My
namespace My
open PySem PySem.Spec L2 RT Rn
/-- claims that are none -/
def AllX (K : PySem.W.Frag) (ins : List Inp) (H : Hp) (xs : List V) : Prop := ∀ x ∈ xs, ∃ d c, x = V.ref d ∧ RClaAt K H d c ∧ rclaOk ins c = false
theorem AllX.nil {K : PySem.W.Frag} {ins : List Inp} {H : Hp} : AllX K ins H [] := fun _ h => nomatch h
theorem AllX.cons {K : PySem.W.Frag} {ins : List Inp} {H : Hp} {d : Addr} {xs : List V} (c : RCla) (h : RClaAt K H d c) (n : rclaOk ins c = false) (r : AllX K ins H xs) : AllX K ins H (V.ref d :: xs) := fun x hx => by
  rcases List.mem_cons.mp hx with e | hx
  · exact ⟨d, c, e, h, n⟩
  · exact r x hx
theorem AllX.tn {K : PySem.W.Frag} {ins : List Inp} {A B : Hp} {xs : List V} (h : AllX K ins A xs) (t : Tn A B) : AllX K ins B xs := fun x hx => by
  obtain ⟨d, i, e, k, r⟩ := h x hx
  exact ⟨d, i, e, k.tn t, r⟩
theorem AllX.pick {K : PySem.W.Frag} {ins : List Inp} {H : Hp} {xs : List V} (h : AllX K ins H xs) {r : Int} (r0 : 0 ≤ r) (r1 : r < (xs.length : Nat)) : ∃ d c, atI xs r = some (.ref d) ∧ RClaAt K H d c ∧ rclaOk ins c = false := by
  have hl : r.toNat < xs.length := by omega
  have hx : xs[r.toNat]? = some xs[r.toNat] := List.getElem?_eq_getElem hl
  obtain ⟨d, i, e, k⟩ := h _ (List.mem_of_getElem? hx)
  exact ⟨d, i, by rw [atI_of r0 hx, e], k⟩
end My
namespace My
open PySem PySem.Spec L2 RT Rn
theorem ins_fg {s : Int} {ins : List Inp} (h : insOk s ins) {i : Inp} (hi : i ∈ ins) : 1 ≤ i.fg ∧ i.fg ≤ s := by
  obtain ⟨k, hk⟩ := List.getElem?_of_mem hi
  have := h.2 k i hk
  unfold inputOk at this
  simp only [Bool.and_eq_true, decide_eq_true_eq] at this
  exact ⟨this.1.1.2, this.1.2⟩
/-- a great handbook, its bounds just met -/
def nm8 (k : Nat) : Str := cutS "abcdefgh" (some (k : Int)) none
def ins8 (s : Int) (n : Nat) : List Inp := (List.range n).map fun k => ⟨nm8 k, s, (k : Int) % 2⟩
theorem ins8_succ (s : Int) (n : Nat) : ins8 s (n + 1) = ins8 s n ++ [⟨nm8 n, s, (n : Int) % 2⟩] := by
  unfold ins8
  rw [List.range_succ, List.map_append]
  rfl
theorem ins8_ok {s : Int} (h : 1 ≤ s) : insOk s (ins8 s 4) := by
  have e : names (ins8 s 4) = [nm8 0, nm8 1, nm8 2, nm8 3] := rfl
  refine ins_of (by rw [e]; exact namesB_ok (by decide +kernel)) (show (4 : Nat) ≤ 4 by decide) fun i hi => ?_
  obtain ⟨k, hk, rfl⟩ := List.mem_map.mp hi
  have := List.mem_range.mp hk
  refine ⟨h, Int.le_refl _, ?_⟩
  show (k : Int) % 2 = 0 ∨ (k : Int) % 2 = 1
  omega
def deep8 : RSid := .add (.add (.add (.num 0) .wheels) (.num (10 ^ 9))) .counts
def great8 (s : Int) : RBok := ⟨ins8 s 4, List.replicate 40 (.ok .one), List.replicate 8 (.two "less" deep8 deep8)⟩
theorem great8_why {s : Int} (h : 1 ≤ s) : whyNot s (great8 s) = none := by
  have e2 : (if (great8 s).dds.length > 40 then some 0 else firstNo (rdeeOk (great8 s).ins) (great8 s).dds 0) = none := by
    rw [if_neg (by show ¬ (List.replicate 40 (RDee.ok .one)).length > 40; rw [List.length_replicate]; omega)]
    exact firstNo_none fun d hd => by rw [(List.mem_replicate.mp hd).2]; rfl
  have e3 : (if (great8 s).cls.length > 8 then some 0 else firstNo (rclaOk (great8 s).ins) (great8 s).cls 0) = none := by
    rw [if_neg (by show ¬ (List.replicate 8 (RCla.two "less" deep8 deep8)).length > 8; rw [List.length_replicate]; omega)]
    refine firstNo_none fun d hd => ?_
    rw [(List.mem_replicate.mp hd).2]
    show (decide (("less" : Str) ∈ (["same", "less"] : List Str)) && rsidOk (great8 s).ins deep8 4 && rsidOk (great8 s).ins deep8 4) = true
    rw [show decide (("less" : Str) ∈ (["same", "less"] : List Str)) = true by decide +kernel]
    rfl
  unfold whyNot
  rw [show (great8 s).ins = ins8 s 4 from rfl, whyIn_good (ins8_ok h)]
  dsimp only
  rw [show (great8 s).ins = ins8 s 4 from rfl] at e2 e3
  rw [e2]
  dsimp only
  rw [e3]
end My
namespace Rn
open PySem PySem.Spec L2 RT
theorem lq_tupG {K : PySem.W.Frag} {σ : St} {H : Hp} {Q : VK} {te : TE} {a : Addr} {xs : List V} {g : TG} {tt : TT} {vs : List Nat} (Pv : Addr → Nat → Hp → Prop) (h0 : ∀ D H1, H D = none → Same H H1 → H1 D = some (.lst []) → Pv D 0 H1) (hl : ∀ D i H1, i ≤ xs.length → Pv D i H1 → SqT K H1 a xs)
    (hs : ∀ D i x H1, H D = none → xs[i]? = some x → Pv D i H1 → g x (wipe σ vs) H1 fun σ2 H2 => wipe σ2 vs = wipe σ vs ∧ tt σ2 H2 fun b H3 => if b = true then te σ2 H3 (Put D (Pv D (i + 1))) else Pv D (i + 1) H3)
    (hd : ∀ D H1, H D = none → Pv D xs.length H1 → Q (.ref D) H1) : Lq (Itt K a) g tt te vs σ H Q := fun D hD =>
  lc_tup (Pv D) (h0 D _ hD (Same.new hD) upd_same) (fun i H1 hi p => hl D i H1 hi p) (fun i x H1 hx p => hs D i x H1 hD hx p) (fun H1 p => hd D H1 hD p)
end Rn
namespace Rn
open PySem PySem.Spec L2 RT
theorem lays.str {z : Str} (h : PyData.strOk z = true) : lays (.str z) 1 := by unfold lays; simp [PyData.canLay0, PyData.depth, h]
end Rn
namespace My
open PySem
theorem why_word {s : Int} {R : RBok} {k : Nat} {z : Str} (h : whyNot s R = some (k, z)) : PyData.strOk z = true := by
  have e1 : PyData.strOk ("input" : Str) = true := by decide +kernel
  have e2 : PyData.strOk ("deed" : Str) = true := by decide +kernel
  have e3 : PyData.strOk ("claim" : Str) = true := by decide +kernel
  unfold whyNot at h
  split at h
  · cases h
    exact e1
  · split at h
    · cases h
      exact e2
    · split at h
      · cases h
        exact e3
      · cases h
end My
set_option Elab.async false
set_option linter.all false
set_option maxRecDepth 100000
set_option maxHeartbeats 4000000
namespace My
open PySem PySem.Spec L2 RT Rn
local macro_rules | `(tactic| walk_at "r1") => `(tactic| first
  | ((with_reducible refine' w_var ?hv ?_); (case hv => exact rfl))
  | with_reducible refine' w_c ?_
  | with_reducible refine' w_op ?_
  | with_reducible refine' w_cons ?_
  | with_reducible refine' w_nil ?_
  | with_reducible refine' w_I0 ?_
  | with_reducible refine' w_addI ?_
  | with_reducible refine' w_seq ?_
  | with_reducible refine' w_match ?_
  | with_reducible refine' w_sl ?_
  | with_reducible refine' w_noPart ?_
  | with_reducible refine' w_part ?_
  | with_reducible refine' w_pint ?_
  | with_reducible refine' w_eqS ?_
  | with_reducible refine' w_tr ?_
  | with_reducible refine' w_trB ?_
  | ((with_reducible refine' w_trL ?hl ?_); (case hl => exact SqL.of (by assumption)))
  | with_reducible refine' w_iU ?_
  | with_reducible refine' w_en ?_
  | with_reducible refine' w_tyes ?_
  | with_reducible refine' w_while ?_
  | ((with_reducible refine' w_gTup ?hS ?hn ?_); (case hS => first | assumption | exact SqT.of (by assumption)); (case hn => exact rfl))
  | with_reducible refine' w_gCons ?_
  | with_reducible refine' w_gNil ?_
  | with_reducible refine' w_gName ?_
  | ((with_reducible refine' w_I (C := fun _ j => 0 < j) ?hc ?_); (case hc => (show (0 : Int) < _; omega)))
  | ((with_reducible refine' w_I (C := CDivW) ?hc ?_); (case hc => exact divW (by omega) (by omega)))
  | ((with_reducible refine' w_I (C := CPow) ?hc ?_); (case hc => exact ⟨by decide, by decide, by decide⟩))
  | ((with_reducible refine' w_mulI ?hc ?_); (case hc => first | exact .inr ⟨by omega, by omega⟩ | exact .inl ⟨by omega, by omega⟩))
  | with_reducible refine' w_max ?_
  | with_reducible refine' w_isiII ?_
  | with_reducible refine' w_isiIB ?_
  | with_reducible refine' w_isiBB ?_
  | ((with_reducible refine' w_isiTT ?hp ?_); (case hp => assumption))
  | ((with_reducible refine' w_isiLL ?hp ?_); (case hp => assumption))
  | with_reducible refine' w_min ?_
  | with_reducible refine' w_sub ?_
  | ((with_reducible refine' w_ixL ?hl ?ha ?_); (case hl => exact SqL.of (by assumption)); (case ha => exact rfl))
  | ((with_reducible refine' w_ixT ?hl ?ha ?_); (case hl => assumption); (case ha => exact rfl))
  | ((with_reducible refine' w_lenL ?hl ?_); (case hl => exact SqL.of (by assumption)))
  | ((with_reducible refine' w_lenT ?hl ?_); (case hl => assumption))
  | ((with_reducible refine' w_tyL ?hl ?_); (case hl => assumption))
  | with_reducible refine' w_bm ?_
  | with_reducible refine' w_bm0 ?_
  | with_reducible refine' w_pAdd ?_
  | with_reducible refine' w_pSub ?_
  | with_reducible refine' w_asgN ?_
  | with_reducible refine' w_ret ?_
  | with_reducible refine' w_retN ?_
  | with_reducible refine' w_drop ?_
  | with_reducible refine' w_next ?_
  | with_reducible refine' w_brk ?_
  | with_reducible refine' w_cont ?_
  | with_reducible refine' w_ifS ?_
  | with_reducible refine' w_test ?_
  | with_reducible refine' w_bl ?_
  | with_reducible refine' w_tB ?_
  | with_reducible refine' w_iteT ?_
  | with_reducible refine' w_iteF ?_
  | with_reducible refine' w_iteNF ?_
  | with_reducible refine' w_iteNT ?_
  | with_reducible refine' w_and ?_
  | with_reducible refine' w_or ?_
  | with_reducible refine' w_not ?_
  | with_reducible refine' w_andV ?_
  | with_reducible refine' w_orV ?_
  | with_reducible refine' w_notV ?_
  | with_reducible refine' w_eqI ?_
  | with_reducible refine' w_neB ?_
  | with_reducible refine' w_isR ?_
  | with_reducible refine' w_isN ?_
  | with_reducible refine' w_notR ?_
  | with_reducible refine' w_notN ?_
  | with_reducible refine' w_notI ?_
  | with_reducible refine' w_isiTF ?_
  | with_reducible refine' w_lrev ?_
  | with_reducible refine' w_dget ?_
  | with_reducible refine' w_dc ?_
  | with_reducible refine' w_din ?_
  | with_reducible refine' w_rng2 ?_
  | with_reducible refine' w_vei ?_
  | with_reducible refine' w_ost ?_
  | with_reducible refine' w_mko ?_
  | with_reducible refine' w_xby ?_
  | with_reducible refine' w_dni ?_
  | with_reducible refine' w_dput ?_
  | with_reducible refine' Tg.w_allG ?_
  | with_reducible refine' Tg.w_tupE ?_
  | with_reducible refine' w_neI ?_
  | with_reducible refine' w_callE ?_
  | with_reducible refine' w_call ?_
  | with_reducible refine' w_callS ?_
  | with_reducible refine' w_js1 ?_
  | with_reducible refine' w_js0 ?_
  | with_reducible refine' w_fmt ?_
  | ((with_reducible refine' w_jsC ?ha ?hk ?hy ?_); (case ha => first | assumption | exact Sh.nil); (case hk => decide); (case hy => decide +kernel); intro _ _)
  | ((with_reducible refine' w_jfI ?hi ?ha ?hk ?_); (case hi => omega); (case ha => first | assumption | exact Sh.nil); (case hk => decide); intro _ _)
  | ((with_reducible refine' w_jfS ?hy ?ha ?hk ?_); (case hy => first | assumption | decide +kernel); (case ha => first | assumption | exact Sh.nil); (case hk => decide); intro _ _)
  | with_reducible refine' w_cb ?_
  | with_reducible refine' w_for ?_
  | with_reducible refine' w_lc ?_
  | with_reducible refine' w_rngA ?_
  | with_reducible refine' w_rev ?_
  | with_reducible refine' w_tup ?_
  | with_reducible refine' w_lst ?_
  | with_reducible refine' w_un ?_
  | with_reducible refine' w_neg ?_
  | with_reducible refine' w_chain ?_
  | with_reducible refine' w_ifE ?_
  | with_reducible refine' w_par ?_
  | ((with_reducible refine' w_aug ?hx ?_); (case hx => exact rfl))
  | with_reducible refine' w_asg ?_
  | ((with_reducible refine' w_iteD ?hp ?_); (case hp => omega))
  | ((with_reducible refine' w_iteE ?hp ?_); (case hp => omega))
  | ((with_reducible refine' w_iteND ?hp ?_); (case hp => omega))
  | ((with_reducible refine' w_iteNE ?hp ?_); (case hp => omega)))
local macro_rules | `(tactic| walk_at "rs") => `(tactic| ((repeat walk_at "r1"); (try dsimp only [List.set, List.cons_append, List.nil_append, List.length, List.map, List.replicate]); (repeat walk_at "r1"); (try dsimp only [List.set, List.cons_append, List.nil_append, List.length, List.map, List.replicate])))
def topS (i : Nat) : Stmt := PySem.Challenge.pw_crankdrum_k12_handbooks_refused.main.body.getD i (.Pass ⟨0, 0, 0, 0⟩)
abbrev s__law_next : Stmt := topS 71
theorem sc__law_next : FnScope ["_law_h", "_law_many", "_law_at", "_law_cell"] ["_law_h", "_law_many"] (defScope s__law_next) := ⟨rfl, rfl, rfl, by decide +kernel, rfl, by decide +kernel, by decide +kernel⟩
abbrev s__law_deed : Stmt := topS 73
theorem sc__law_deed : FnScope ["_law_h", "_law_book_inputs", "_law_name", "_law_figures", "_law_least", "_law_way", "_law_tally", "_law_some"] ["_law_h", "_law_book_inputs"] (defScope s__law_deed) := ⟨rfl, rfl, rfl, by decide +kernel, rfl, by decide +kernel, by decide +kernel⟩
abbrev s__law_inputs : Stmt := topS 76
theorem sc__law_inputs : FnScope ["_law_h", "_law_most", "_law_word", "_law_names", "_law_turn", "_law_name"] ["_law_h", "_law_most"] (defScope s__law_inputs) := ⟨rfl, rfl, rfl, by decide +kernel, rfl, by decide +kernel, by decide +kernel⟩
abbrev s__law_likely : Stmt := topS 75
theorem sc__law_likely : FnScope ["_law_h", "_law_book_inputs", "_law_one", "_law_other", "_law_wheels", "_law_counts", "_law_some"] ["_law_h", "_law_book_inputs"] (defScope s__law_likely) := ⟨rfl, rfl, rfl, by decide +kernel, rfl, by decide +kernel, by decide +kernel⟩
abbrev s__law_long : Stmt := topS 77
theorem sc__law_long : FnScope ["_law_h", "_law_inputs_here", "_law_deeds", "_law_k", "_law_name"] ["_law_h", "_law_inputs_here"] (defScope s__law_long) := ⟨rfl, rfl, rfl, by decide +kernel, rfl, by decide +kernel, by decide +kernel⟩
abbrev s__law_side : Stmt := topS 74
theorem sc__law_side : FnScope ["_law_h", "_law_book_inputs", "_law_deep", "_law_way", "_law_one", "_law_name", "_law_number"] ["_law_h", "_law_book_inputs", "_law_deep"] (defScope s__law_side) := ⟨rfl, rfl, rfl, by decide +kernel, rfl, by decide +kernel, by decide +kernel⟩
abbrev s__law_book : Stmt := topS 78
theorem sc__law_book : FnScope ["_law_h", "_law_most", "_law_inputs_here", "_law_deeds", "_law_way", "_law_k", "_law_at", "_law_claims", "_law_claim", "_law_deep"] ["_law_h", "_law_most"] (defScope s__law_book) := ⟨rfl, rfl, rfl, by decide +kernel, rfl, by decide +kernel, by decide +kernel⟩
abbrev s__law_books_machine : Stmt := topS 72
theorem sc__law_books_machine : FnScope ["_law_h", "_law_base", "_law_slides"] ["_law_h"] (defScope s__law_books_machine) := ⟨rfl, rfl, rfl, by decide +kernel, rfl, by decide +kernel, by decide +kernel⟩
abbrev s_is_side : Stmt := topS 40
theorem sc_is_side : FnScope ["figures", "side", "deep", "number", "name", "one", "other"] ["figures", "side", "deep"] (defScope s_is_side) := ⟨rfl, rfl, rfl, by decide +kernel, rfl, by decide +kernel, by decide +kernel⟩
abbrev s_is_claim : Stmt := topS 39
theorem sc_is_claim : FnScope ["figures", "claim"] ["figures", "claim"] (defScope s_is_claim) := ⟨rfl, rfl, rfl, by decide +kernel, rfl, by decide +kernel, by decide +kernel⟩
abbrev s_need_claims : Stmt := topS 35
theorem sc_need_claims : FnScope ["figures", "claims", "at", "claim"] ["figures", "claims"] (defScope s_need_claims) := ⟨rfl, rfl, rfl, by decide +kernel, rfl, by decide +kernel, by decide +kernel⟩
abbrev s_is_deed : Stmt := topS 38
theorem sc_is_deed : FnScope ["figures", "deed", "name", "by", "way", "tally", "word", "k"] ["figures", "deed"] (defScope s_is_deed) := ⟨rfl, rfl, rfl, by decide +kernel, rfl, by decide +kernel, by decide +kernel⟩
abbrev s_need_deeds : Stmt := topS 34
theorem sc_need_deeds : FnScope ["figures", "deeds", "at", "deed"] ["figures", "deeds"] (defScope s_need_deeds) := ⟨rfl, rfl, rfl, by decide +kernel, rfl, by decide +kernel, by decide +kernel⟩
abbrev s_is_name : Stmt := topS 37
theorem sc_is_name : FnScope ["name"] ["name"] (defScope s_is_name) := ⟨rfl, rfl, rfl, by decide +kernel, rfl, by decide +kernel, by decide +kernel⟩
abbrev s_is_input : Stmt := topS 36
theorem sc_is_input : FnScope ["machine", "row", "names", "name", "many", "least"] ["machine", "row", "names"] (defScope s_is_input) := ⟨rfl, rfl, rfl, by decide +kernel, rfl, by decide +kernel, by decide +kernel⟩
abbrev s_need_inputs : Stmt := topS 33
theorem sc_need_inputs : FnScope ["machine", "inputs", "names", "at", "row"] ["machine", "inputs"] (defScope s_need_inputs) := ⟨rfl, rfl, rfl, by decide +kernel, rfl, by decide +kernel, by decide +kernel⟩
abbrev s_need_machine : Stmt := topS 14
theorem sc_need_machine : FnScope ["machine", "base", "slides", "wheels", "counters"] ["machine"] (defScope s_need_machine) := ⟨rfl, rfl, rfl, by decide +kernel, rfl, by decide +kernel, by decide +kernel⟩
abbrev s_need_book : Stmt := topS 32
theorem sc_need_book : FnScope ["machine", "book", "inputs", "deeds", "claims", "figures", "name", "many", "least"] ["machine", "book"] (defScope s_need_book) := ⟨rfl, rfl, rfl, by decide +kernel, rfl, by decide +kernel, by decide +kernel⟩
abbrev s_looked : Stmt := topS 57
theorem sc_looked : FnScope ["machine", "book", "inputs", "deeds", "claims", "known", "at", "deed", "word", "claim"] ["machine", "book"] (defScope s_looked) := ⟨rfl, rfl, rfl, by decide +kernel, rfl, by decide +kernel, by decide +kernel⟩
abbrev s_worked : Stmt := topS 61
theorem sc_worked : FnScope ["machine", "book", "values", "inputs", "deeds", "claims", "numbers", "at", "deed", "setting", "place", "wheels", "counts"] ["machine", "book", "values"] (defScope s_worked) := ⟨rfl, rfl, rfl, by decide +kernel, rfl, by decide +kernel, by decide +kernel⟩
abbrev s__law_refusal : Stmt := topS 79
theorem sc__law_refusal : FnScope ["_law_way", "_law_machine", "_law_book_here", "e"] ["_law_way", "_law_machine", "_law_book_here"] (defScope s__law_refusal) := ⟨rfl, rfl, rfl, by decide +kernel, rfl, by decide +kernel, by decide +kernel⟩
abbrev s__law_bad_deed : Stmt := topS 81
theorem sc__law_bad_deed : FnScope ["_law_h", "_law_inputs_here", "_law_name", "_law_figures", "_law_least", "_law_some"] ["_law_h", "_law_inputs_here"] (defScope s__law_bad_deed) := ⟨rfl, rfl, rfl, by decide +kernel, rfl, by decide +kernel, by decide +kernel⟩
abbrev s__law_bad_input : Stmt := topS 80
theorem sc__law_bad_input : FnScope ["_law_h", "_law_machine", "_law_inputs_here", "_law_word", "_law_at", "_law_name", "_law_some"] ["_law_h", "_law_machine", "_law_inputs_here"] (defScope s__law_bad_input) := ⟨rfl, rfl, rfl, by decide +kernel, rfl, by decide +kernel, by decide +kernel⟩
abbrev s__law_bad_side : Stmt := topS 82
theorem sc__law_bad_side : FnScope ["_law_h", "_law_good", "_law_deep", "_law_k", "_law_some"] ["_law_h", "_law_good"] (defScope s__law_bad_side) := ⟨rfl, rfl, rfl, by decide +kernel, rfl, by decide +kernel, by decide +kernel⟩
abbrev s__law_wrong : Stmt := topS 83
theorem sc__law_wrong : FnScope ["_law_h", "_law_machine", "_law_book_here", "_law_inputs_here", "_law_deeds", "_law_claims", "_law_way", "_law_some", "_law_bad", "_law_at", "_law_good", "_law_side_here", "_law_k"] ["_law_h", "_law_machine", "_law_book_here"] (defScope s__law_wrong) := ⟨rfl, rfl, rfl, by decide +kernel, rfl, by decide +kernel, by decide +kernel⟩
abbrev s_law : Stmt := topS 84
theorem sc_law : FnScope ["_law_script", "_law_h", "_law_machine", "_law_book_here", "_law_inputs_here", "_law_wrong_here", "_law_number", "_law_word", "_law_way", "_law_deep", "_law_names", "_law_great", "_law_name", "_law_figures", "_law_least", "_law_k"] ["_law_script"] (defScope s_law) := ⟨rfl, rfl, rfl, by decide +kernel, rfl, by decide +kernel, by decide +kernel⟩
abbrev s_BadBook__init : Stmt := clsB (topS 4) 0
theorem sc_BadBook__init : FnScope ["self", "at", "word"] ["self", "at", "word"] (defScope s_BadBook__init) := ⟨rfl, rfl, rfl, by decide +kernel, rfl, by decide +kernel, by decide +kernel⟩
structure Txt (K : PySem.W.Frag) (mg : Str → Option Value) (base : Heap) where
  f__law_next : Addr
  fd__law_next : FuncData
  F__law_next : Fun K "_law_next" "_law_next" s__law_next f__law_next fd__law_next
  g__law_next : mg "_law_next" = some (.ref f__law_next)
  b__law_next : Binds K fd__law_next ["_law_h", "_law_many"] []
  f__law_deed : Addr
  fd__law_deed : FuncData
  F__law_deed : Fun K "_law_deed" "_law_deed" s__law_deed f__law_deed fd__law_deed
  g__law_deed : mg "_law_deed" = some (.ref f__law_deed)
  b__law_deed : Binds K fd__law_deed ["_law_h", "_law_book_inputs"] []
  f__law_inputs : Addr
  fd__law_inputs : FuncData
  F__law_inputs : Fun K "_law_inputs" "_law_inputs" s__law_inputs f__law_inputs fd__law_inputs
  g__law_inputs : mg "_law_inputs" = some (.ref f__law_inputs)
  b__law_inputs : Binds K fd__law_inputs ["_law_h", "_law_most"] []
  f__law_likely : Addr
  fd__law_likely : FuncData
  F__law_likely : Fun K "_law_likely" "_law_likely" s__law_likely f__law_likely fd__law_likely
  g__law_likely : mg "_law_likely" = some (.ref f__law_likely)
  b__law_likely : Binds K fd__law_likely ["_law_h", "_law_book_inputs"] []
  f__law_long : Addr
  fd__law_long : FuncData
  F__law_long : Fun K "_law_long" "_law_long" s__law_long f__law_long fd__law_long
  g__law_long : mg "_law_long" = some (.ref f__law_long)
  b__law_long : Binds K fd__law_long ["_law_h", "_law_inputs_here"] []
  f__law_side : Addr
  fd__law_side : FuncData
  F__law_side : Fun K "_law_side" "_law_side" s__law_side f__law_side fd__law_side
  g__law_side : mg "_law_side" = some (.ref f__law_side)
  b__law_side : Binds K fd__law_side ["_law_h", "_law_book_inputs", "_law_deep"] []
  f__law_book : Addr
  fd__law_book : FuncData
  F__law_book : Fun K "_law_book" "_law_book" s__law_book f__law_book fd__law_book
  g__law_book : mg "_law_book" = some (.ref f__law_book)
  b__law_book : Binds K fd__law_book ["_law_h", "_law_most"] []
  f__law_books_machine : Addr
  fd__law_books_machine : FuncData
  F__law_books_machine : Fun K "_law_books_machine" "_law_books_machine" s__law_books_machine f__law_books_machine fd__law_books_machine
  g__law_books_machine : mg "_law_books_machine" = some (.ref f__law_books_machine)
  b__law_books_machine : Binds K fd__law_books_machine ["_law_h"] []
  f_is_side : Addr
  fd_is_side : FuncData
  F_is_side : Fun K "is_side" "is_side" s_is_side f_is_side fd_is_side
  g_is_side : mg "is_side" = some (.ref f_is_side)
  b_is_side : Binds K fd_is_side ["figures", "side", "deep"] []
  f_is_claim : Addr
  fd_is_claim : FuncData
  F_is_claim : Fun K "is_claim" "is_claim" s_is_claim f_is_claim fd_is_claim
  g_is_claim : mg "is_claim" = some (.ref f_is_claim)
  b_is_claim : Binds K fd_is_claim ["figures", "claim"] []
  f_need_claims : Addr
  fd_need_claims : FuncData
  F_need_claims : Fun K "need_claims" "need_claims" s_need_claims f_need_claims fd_need_claims
  g_need_claims : mg "need_claims" = some (.ref f_need_claims)
  b_need_claims : Binds K fd_need_claims ["figures", "claims"] []
  f_is_deed : Addr
  fd_is_deed : FuncData
  F_is_deed : Fun K "is_deed" "is_deed" s_is_deed f_is_deed fd_is_deed
  g_is_deed : mg "is_deed" = some (.ref f_is_deed)
  b_is_deed : Binds K fd_is_deed ["figures", "deed"] []
  f_need_deeds : Addr
  fd_need_deeds : FuncData
  F_need_deeds : Fun K "need_deeds" "need_deeds" s_need_deeds f_need_deeds fd_need_deeds
  g_need_deeds : mg "need_deeds" = some (.ref f_need_deeds)
  b_need_deeds : Binds K fd_need_deeds ["figures", "deeds"] []
  f_is_name : Addr
  fd_is_name : FuncData
  F_is_name : Fun K "is_name" "is_name" s_is_name f_is_name fd_is_name
  g_is_name : mg "is_name" = some (.ref f_is_name)
  b_is_name : Binds K fd_is_name ["name"] []
  f_is_input : Addr
  fd_is_input : FuncData
  F_is_input : Fun K "is_input" "is_input" s_is_input f_is_input fd_is_input
  g_is_input : mg "is_input" = some (.ref f_is_input)
  b_is_input : Binds K fd_is_input ["machine", "row", "names"] []
  f_need_inputs : Addr
  fd_need_inputs : FuncData
  F_need_inputs : Fun K "need_inputs" "need_inputs" s_need_inputs f_need_inputs fd_need_inputs
  g_need_inputs : mg "need_inputs" = some (.ref f_need_inputs)
  b_need_inputs : Binds K fd_need_inputs ["machine", "inputs"] []
  f_need_machine : Addr
  fd_need_machine : FuncData
  F_need_machine : Fun K "need_machine" "need_machine" s_need_machine f_need_machine fd_need_machine
  g_need_machine : mg "need_machine" = some (.ref f_need_machine)
  b_need_machine : Binds K fd_need_machine ["machine"] []
  f_need_book : Addr
  fd_need_book : FuncData
  F_need_book : Fun K "need_book" "need_book" s_need_book f_need_book fd_need_book
  g_need_book : mg "need_book" = some (.ref f_need_book)
  b_need_book : Binds K fd_need_book ["machine", "book"] []
  f_looked : Addr
  fd_looked : FuncData
  F_looked : Fun K "looked" "looked" s_looked f_looked fd_looked
  g_looked : mg "looked" = some (.ref f_looked)
  b_looked : Binds K fd_looked ["machine", "book"] []
  f_worked : Addr
  fd_worked : FuncData
  F_worked : Fun K "worked" "worked" s_worked f_worked fd_worked
  g_worked : mg "worked" = some (.ref f_worked)
  b_worked : Binds K fd_worked ["machine", "book", "values"] []
  f__law_refusal : Addr
  fd__law_refusal : FuncData
  F__law_refusal : Fun K "_law_refusal" "_law_refusal" s__law_refusal f__law_refusal fd__law_refusal
  g__law_refusal : mg "_law_refusal" = some (.ref f__law_refusal)
  b__law_refusal : Binds K fd__law_refusal ["_law_way", "_law_machine", "_law_book_here"] []
  f__law_bad_deed : Addr
  fd__law_bad_deed : FuncData
  F__law_bad_deed : Fun K "_law_bad_deed" "_law_bad_deed" s__law_bad_deed f__law_bad_deed fd__law_bad_deed
  g__law_bad_deed : mg "_law_bad_deed" = some (.ref f__law_bad_deed)
  b__law_bad_deed : Binds K fd__law_bad_deed ["_law_h", "_law_inputs_here"] []
  f__law_bad_input : Addr
  fd__law_bad_input : FuncData
  F__law_bad_input : Fun K "_law_bad_input" "_law_bad_input" s__law_bad_input f__law_bad_input fd__law_bad_input
  g__law_bad_input : mg "_law_bad_input" = some (.ref f__law_bad_input)
  b__law_bad_input : Binds K fd__law_bad_input ["_law_h", "_law_machine", "_law_inputs_here"] []
  f__law_bad_side : Addr
  fd__law_bad_side : FuncData
  F__law_bad_side : Fun K "_law_bad_side" "_law_bad_side" s__law_bad_side f__law_bad_side fd__law_bad_side
  g__law_bad_side : mg "_law_bad_side" = some (.ref f__law_bad_side)
  b__law_bad_side : Binds K fd__law_bad_side ["_law_h", "_law_good"] []
  f__law_wrong : Addr
  fd__law_wrong : FuncData
  F__law_wrong : Fun K "_law_wrong" "_law_wrong" s__law_wrong f__law_wrong fd__law_wrong
  g__law_wrong : mg "_law_wrong" = some (.ref f__law_wrong)
  b__law_wrong : Binds K fd__law_wrong ["_law_h", "_law_machine", "_law_book_here"] []
  f_law : Addr
  fd_law : FuncData
  F_law : Fun K "law" "law" s_law f_law fd_law
  g_law : mg "law" = some (.ref f_law)
  b_law : Binds K fd_law ["_law_script"] []
  f_BadBook__init : Addr
  fd_BadBook__init : FuncData
  F_BadBook__init : Fun K "__init__" "BadBook.__init__" s_BadBook__init f_BadBook__init fd_BadBook__init
  b_BadBook__init : Binds K fd_BadBook__init ["self", "at", "word"] []
  tc_is_name : Addr
  tp_is_name : Addr
  cd_is_name : fd_is_name.code = .ref tc_is_name
  tb_is_name : GxR.TabB base mg tc_is_name tp_is_name
  n_ValueError : mg "ValueError" = none
  n_all : mg "all" = none
  n_bool : mg "bool" = none
  n_enumerate : mg "enumerate" = none
  n_int : mg "int" = none
  n_isinstance : mg "isinstance" = none
  n_len : mg "len" = none
  n_list : mg "list" = none
  n_max : mg "max" = none
  n_min : mg "min" = none
  n_range : mg "range" = none
  n_tuple : mg "tuple" = none
  C_BadBook : Addr
  gC_BadBook : mg "BadBook" = some (.ref C_BadBook)
  C_BadDeed : Addr
  gC_BadDeed : mg "BadDeed" = some (.ref C_BadDeed)
  C_BadMachine : Addr
  gC_BadMachine : mg "BadMachine" = some (.ref C_BadMachine)
  C_BadValue : Addr
  gC_BadValue : mg "BadValue" = some (.ref C_BadValue)
  C_DrumError : Addr
  gC_DrumError : mg "DrumError" = some (.ref C_DrumError)
  C_Stuck : Addr
  gC_Stuck : mg "Stuck" = some (.ref C_Stuck)
  C_TooSmall : Addr
  gC_TooSmall : mg "TooSmall" = some (.ref C_TooSmall)
  mC_BadBook_DrumError : PySem.W.exmOne K (.ref C_BadBook) (.ref C_DrumError) = some true
  iC_BadBook_BadBook : PySem.W.kitOne K (.ref C_BadBook) (.ref C_BadBook) = some true
  iC_BadBook_ValueError : PySem.W.kitOne K (.ref C_BadBook) (.type "ValueError") = some true
  jC_BadBook_BadDeed_BadMachine_BadValue_Stuck_TooSmall : PySem.W.kitAny K (.ref C_BadBook) [.ref C_BadDeed, .ref C_BadMachine, .ref C_BadValue, .ref C_Stuck, .ref C_TooSmall] = some false
  xC_BadMachine : PySem.W.excIn K C_BadMachine [.type "ValueError", .type "Exception", .type "BaseException", .type "object"] "ValueError.__new__" = true
  kC_BadMachine : PySem.W.keepIn K (.ref C_BadMachine) = true
  bC_BadMachine : PySem.W.subIn K (.ref C_BadMachine) (.type "BaseException") = some true
  tC_BadMachine : PySem.W.typeIn K (.ref C_BadMachine) = some (.type "type")
  o_BadBook : OexC K C_BadBook
  y_BadBook : ExcC K C_BadBook
  iC_BadBook : PySem.W.findIn K (.ref C_BadBook) "__init__" = some (some (.ref f_BadBook__init))
  tI_BadBook : PySem.W.typeIn K (.ref f_BadBook__init) = some (.type "function")
  no_BadBook_at : PySem.W.findIn K (.ref C_BadBook) "at" = some none
  no_BadBook_word : PySem.W.findIn K (.ref C_BadBook) "word" = some none
  ga_DrumError : PySem.W.specialIn K (.ref C_DrumError) "__getattribute__" = some (some (.builtin "type.__getattribute__"))
  ra_DrumError : PySem.W.readsIn K C_DrumError (.type "type") = true
  va_DrumError : PySem.W.findCls K (.ref C_DrumError) (.type "type") "__init__" = some (.val (.builtin "ValueError.__init__"))
  a_CLAIM_WORDS : Addr
  c_CLAIM_WORDS : mg "CLAIM_WORDS" = some (.ref a_CLAIM_WORDS)
  s_CLAIM_WORDS : ∀ H : Hp, SqT K H a_CLAIM_WORDS [.str "same", .str "less"]
  a_LEASTS : Addr
  c_LEASTS : mg "LEASTS" = some (.ref a_LEASTS)
  s_LEASTS : ∀ H : Hp, SqT K H a_LEASTS [.int (0), .int (1)]
  t_LEAST_BASE : Tok
  c_LEAST_BASE : mg "LEAST_BASE" = some (.int (2) t_LEAST_BASE)
  t_LONGEST_NAME : Tok
  c_LONGEST_NAME : mg "LONGEST_NAME" = some (.int (8) t_LONGEST_NAME)
  t_MOST_BASE : Tok
  c_MOST_BASE : mg "MOST_BASE" = some (.int (12) t_MOST_BASE)
  t_MOST_CLAIMS : Tok
  c_MOST_CLAIMS : mg "MOST_CLAIMS" = some (.int (8) t_MOST_CLAIMS)
  t_MOST_COUNTERS : Tok
  c_MOST_COUNTERS : mg "MOST_COUNTERS" = some (.int (10) t_MOST_COUNTERS)
  t_MOST_DEEDS : Tok
  c_MOST_DEEDS : mg "MOST_DEEDS" = some (.int (40) t_MOST_DEEDS)
  t_MOST_DEEP : Tok
  c_MOST_DEEP : mg "MOST_DEEP" = some (.int (4) t_MOST_DEEP)
  t_MOST_INPUTS : Tok
  c_MOST_INPUTS : mg "MOST_INPUTS" = some (.int (4) t_MOST_INPUTS)
  t_MOST_NUMBER : Tok
  c_MOST_NUMBER : mg "MOST_NUMBER" = some (.int (1000000000) t_MOST_NUMBER)
  t_MOST_SLIDES : Tok
  c_MOST_SLIDES : mg "MOST_SLIDES" = some (.int (6) t_MOST_SLIDES)
  t_MOST_WHEELS : Tok
  c_MOST_WHEELS : mg "MOST_WHEELS" = some (.int (16) t_MOST_WHEELS)
  a_NO_NAMES : Addr
  c_NO_NAMES : mg "NO_NAMES" = some (.ref a_NO_NAMES)
  s_NO_NAMES : ∀ H : Hp, SqT K H a_NO_NAMES [.str "wheels", .str "counts"]
  t_SMALL_LETTERS : Tok
  c_SMALL_LETTERS : mg "SMALL_LETTERS" = some (.str "abcdefghijklmnopqrstuvwxyz" t_SMALL_LETTERS)
  a_TALLIES : Addr
  c_TALLIES : mg "TALLIES" = some (.ref a_TALLIES)
  s_TALLIES : ∀ H : Hp, SqT K H a_TALLIES [.int (-1), .int (0), .int (1)]
  a_WAYS : Addr
  c_WAYS : mg "WAYS" = some (.ref a_WAYS)
  s_WAYS : ∀ H : Hp, SqT K H a_WAYS [.int (1), .int (-1)]
  a_WIPED : Addr
  c_WIPED : mg "WIPED" = some (.ref a_WIPED)
  s_WIPED : ∀ H : Hp, SqT K H a_WIPED [.str "wheels", .str "counts"]
section
variable {P : Program} {wd : World} {K : PySem.W.Frag} {mg : Str → Option Value} {base : Heap}
theorem ok_BadBook__init (T : Txt K mg base) : FnOk P wd K mg base CX0 1 T.f_BadBook__init T.fd_BadBook__init ["self", "at", "word"] (spInit2 T.C_BadBook) := by
  refine T.F_BadBook__init.ok sc_BadBook__init (fun vs H Q E h => ?_) (fun cdv A outer s H vs Q E hr h => ?_)
  · obtain ⟨a, n, w, rfl, n0, n1, hw, ha, q⟩ := h
    rfl
  · have hu := hu_of hr
    obtain ⟨a, n, w, rfl, n0, n1, hw, ha, q⟩ := h
    refine ⟨_, (pss_cons (ps_expr (pe_dinit K rfl (by rfl) T.gC_DrumError T.ga_DrumError T.ra_DrumError T.va_DrumError (pa_cons (pv 0) (pa_cons (pe_joined (.cons (pe_fmt (pv 2)) (.cons pe_str (.cons (pe_fmt (pv 1)) (.cons pe_str .nil))))) pa_nil)))) (pss_cons (ps_ost (pv 0) (pv 1)) (pss_one (ps_ost (pv 0) (pv 2))))), ?_⟩
    dsimp only [cxOf, L2.start, List.map_cons, List.map_nil, List.length_cons, List.length_nil, List.replicate, List.cons_append, List.nil_append, Nat.reduceAdd, Nat.reduceSub]
    have hw2 : w.length ≤ 2000 := by omega
    walk_at "rs"
    refine ⟨a, T.C_BadBook, _, rfl, by simp, T.o_BadBook, ha, ?_⟩
    walk_at "rs"
    refine ⟨a, T.C_BadBook, rfl, T.o_BadBook, T.no_BadBook_at, .inl ⟨ha, fun dx hd ne => ?_⟩⟩
    walk_at "rs"
    refine ⟨a, T.C_BadBook, rfl, T.o_BadBook, T.no_BadBook_word, .inr ⟨dx, _, upd_same, by rw [upd_ne ne, upd_same], by simp, ?_⟩⟩
    refine q dx _ hd ne ?_
    funext b
    unfold upd
    by_cases e1 : b = a <;> by_cases e2 : b = dx <;> simp_all

theorem ok__law_next (T : Txt K mg base) : FnOk P wd K mg base CX0 1 T.f__law_next T.fd__law_next ["_law_h", "_law_many"] (spNext) := by
  refine T.F__law_next.ok sc__law_next (fun vs H Q E h => ?_) (fun cdv A outer s H vs Q E hr h => ?_)
  · obtain ⟨a, c, m, rfl, hd, hm, hm2, q⟩ := h
    rfl
  · have hu := hu_of hr
    obtain ⟨a, c, m, rfl, hd, hm, hm2, q⟩ := h
    refine ⟨_, (pss_cons (ps_set (i := 2) sc__law_next.nd rfl (Or.inl rfl) (pe_op op_mod (pe_ix (k_ix K rfl) (pv 0) pe_int (fun _ _ => rfl)) (pe_callB (call_maxQ rfl) (by rfl) T.n_max (by decide +kernel) (pa_cons pe_int (pa_cons (pe_callB (k_len K rfl) (by rfl) T.n_len (by decide +kernel) (pa_cons (pe_ix (k_ix K rfl) (pv 0) pe_int (fun _ _ => rfl)) pa_nil)) pa_nil))))) (pss_cons (ps_set (i := 3) sc__law_next.nd rfl (Or.inl rfl) (pe_ifExp (pt_cmpR (k_ne K rfl hr.units) (pe_ix (k_ix K rfl) (pv 0) pe_int (fun _ _ => rfl)) (pe_lst pa_nil) (nomark _)) (pe_ix (k_ix K rfl) (pe_ix (k_ix K rfl) (pv 0) pe_int (fun _ _ => rfl)) (pv 2) (fun _ _ => rfl)) pe_int)) (pss_cons (ps_if (pt_cmpR (op_ge) (pv 3) (pe_op op_pow pe_int pe_int) (nomark _)) (pss_cons (ps_asg (pe_op op_fdivW (pv 3) (pv 1)) (pg_sub (pe_ix (k_ix K rfl) (pv 0) pe_int (fun _ _ => rfl)) (pv 2) set_list)) (pss_one (ps_ret (pe_op op_mod (pv 3) (pv 1))))) pss_nil) (pss_cons (ps_asg (pe_op op_mod (pe_op (k_add K rfl) (pe_op (k_add K rfl) (pe_op (k_mul K rfl) (pe_ix (k_ix K rfl) (pv 0) pe_int (fun _ _ => rfl)) pe_int) (pe_op (k_mul K rfl) (pv 3) pe_int)) pe_int) pe_int) (pg_sub (pv 0) pe_int set_list)) (pss_cons (ps_asg (pe_op (k_add K rfl) (pe_ix (k_ix K rfl) (pv 0) pe_int (fun _ _ => rfl)) pe_int) (pg_sub (pv 0) pe_int set_list)) (pss_one (ps_ret (pe_op op_mod (pe_op op_fdivW (pe_ix (k_ix K rfl) (pv 0) pe_int (fun _ _ => rfl)) pe_int) (pv 1))))))))), ?_⟩
    dsimp only [cxOf, L2.start, List.map_cons, List.map_nil, List.length_cons, List.length_nil, List.replicate, List.cons_append, List.nil_append, Nat.reduceAdd, Nat.reduceSub]
    have hac : a ≠ c := hd.ne
    obtain ⟨s, i, cells, ha, hc, hs0, hi0, hl⟩ := id hd
    walk_at "rs"
    refine w_new (Nat.zero_le _) fun p H2 hp sm hp2 => ?_
    have ha2 := sm a _ ha
    have hc2 := sm c _ hc
    refine w_neLI (xs := cells) (ys := []) (SqL.of hc2) (SqL.of hp2) ?_
    walk_at "rs"
    have hj0 : 0 ≤ i % max 1 ((cells.map V.int).length : Int) := Int.emod_nonneg _ (by omega)
    have hj1 : i % max 1 ((cells.map V.int).length : Int) < max 1 ((cells.map V.int).length : Int) := Int.emod_lt_of_pos _ (by omega)
    generalize i % max 1 ((cells.map V.int).length : Int) = j at hj0 hj1 ⊢
    rw [List.length_map] at hj1
    have fin : ∀ (y : Int) (H3 H4 : Hp), 0 ≤ y → H3 = upd H2 a (.lst [.int y, .ref c, .int i]) → H4 = upd H3 a (.lst [.int y, .ref c, .int (i + 1)]) → Q (.int (y / 7 % m)) H4 := fun y H3 H4 hy e3 e4 => by
      subst e4 e3
      refine q _ _ (Int.emod_nonneg _ (by omega)) (Int.emod_lt_of_pos _ hm) ⟨y, i + 1, cells, upd_same, by rw [upd_ne hac.symm, upd_ne hac.symm]; exact hc2, hy, by omega, hl⟩ (fun b o hb nb nc => by rw [upd_ne nb, upd_ne nb]; exact sm b o hb) (DrawAt.tn hd fun b o hb nb nc => by rw [upd_ne nb, upd_ne nb]; exact sm b o hb)
    refine w_iteN (fun hne => ?_) (fun he => ?_)
    · have hlen : 0 < cells.length := List.length_pos_iff.mpr hne
      obtain ⟨x, hx⟩ : ∃ x, cells[j.toNat]? = some x := ⟨_, List.getElem?_eq_getElem (by omega)⟩
      walk_at "rs"
      refine w_ixL (SqL.of hc2) (atI_of hj0 (map_get hx)) ?_
      walk_at "rs"
      refine w_ite (fun hbig => ?_) (fun hsm => ?_)
      · walk_at "rs"
        refine w_setL hc2 (ixN_of hj0 (by rw [List.length_map]; omega)) fun H3 hH3 hc3 => ?_
        walk_at "rs"
        subst hH3
        refine q _ _ (Int.emod_nonneg _ (by omega)) (Int.emod_lt_of_pos _ hm) ⟨s, i, cells.set j.toNat (x / m), by rw [upd_ne hac]; exact ha2, by rw [upd_same, List.map_set], hs0, hi0, by rw [List.length_set]; exact hl⟩ (fun b o hb nb nc => by rw [upd_ne nc]; exact sm b o hb) (DrawAt.tn hd fun b o hb nb nc => by rw [upd_ne nc]; exact sm b o hb)
      · walk_at "rs"
        have hy := Int.emod_nonneg (s * 48271 + x * 69621 + 11) (show (2147483647 : Int) ≠ 0 by decide)
        generalize (s * 48271 + x * 69621 + 11) % 2147483647 = y at hy ⊢
        refine w_setL ha2 rfl fun H3 hH3 ha3 => ?_
        walk_at "rs"
        refine w_setL ha3 rfl fun H4 hH4 ha4 => ?_
        walk_at "rs"
        exact fin y H3 H4 hy hH3 hH4
    · walk_at "rs"
      refine w_ite (fun hbig => absurd hbig (by decide)) (fun hsm => ?_)
      walk_at "rs"
      have hy := Int.emod_nonneg (s * 48271 + 0 * 69621 + 11) (show (2147483647 : Int) ≠ 0 by decide)
      generalize (s * 48271 + 0 * 69621 + 11) % 2147483647 = y at hy ⊢
      refine w_setL ha2 rfl fun H3 hH3 ha3 => ?_
      walk_at "rs"
      refine w_setL ha3 rfl fun H4 hH4 ha4 => ?_
      walk_at "rs"
      exact fin y H3 H4 hy hH3 hH4

theorem ok__law_deed (T : Txt K mg base) : FnOk P wd K mg base CX0 2 T.f__law_deed T.fd__law_deed ["_law_h", "_law_book_inputs"] (spDeedL K) := by
  refine T.F__law_deed.ok sc__law_deed (fun vs H Q E h => ?_) (fun cdv A outer s H vs Q E hr h => ?_)
  · obtain ⟨a, cl, li, xs, ins, s, rfl, hd, hli, off, hio, hs6, hne, q⟩ := h
    rfl
  · have hu := hu_of hr
    obtain ⟨a, cl, li, xs, ins, s, rfl, hd, hli, off, hio, hs6, hne, q⟩ := h
    refine ⟨_, (pss_cons (ps_asg (pe_ix (k_ix K rfl) (pv 1) (pe_call (ok__law_next T) (hr.mono (by decide)) (by rfl) T.g__law_next T.F__law_next.kp T.b__law_next .nil pass0 (pa_cons (pv 0) (pa_cons (pe_callB (k_len K rfl) (by rfl) T.n_len (by decide +kernel) (pa_cons (pv 1) pa_nil)) pa_nil))) (fun _ _ => rfl)) (pg_tup (n := 3) rfl (pgs_cons (pg_name (i := 2) sc__law_deed.nd rfl (Or.inl rfl)) (pgs_cons (pg_name (i := 3) sc__law_deed.nd rfl (Or.inl rfl)) (pgs_cons (pg_name (i := 4) sc__law_deed.nd rfl (Or.inl rfl)) pgs_nil))))) (pss_cons (ps_set (i := 5) sc__law_deed.nd rfl (Or.inl rfl) (pe_ix (k_ix K rfl) (pe_lst (pa_cons pe_int (pa_cons pe_int (pa_cons pe_int (pa_cons (pe_un un_neg pe_int) pa_nil))))) (pe_call (ok__law_next T) (hr.mono (by decide)) (by rfl) T.g__law_next T.F__law_next.kp T.b__law_next .nil pass0 (pa_cons (pv 0) (pa_cons pe_int pa_nil))) (fun _ _ => rfl))) (pss_cons (ps_set (i := 6) sc__law_deed.nd rfl (Or.inl rfl) (pe_ix (k_ix K rfl) (pe_lst (pa_cons pe_int (pa_cons pe_int (pa_cons pe_int (pa_cons (pe_un un_neg pe_int) pa_nil))))) (pe_call (ok__law_next T) (hr.mono (by decide)) (by rfl) T.g__law_next T.F__law_next.kp T.b__law_next .nil pass0 (pa_cons (pv 0) (pa_cons pe_int pa_nil))) (fun _ _ => rfl))) (pss_cons (ps_set (i := 7) sc__law_deed.nd rfl (Or.inl rfl) (pe_lst (pa_cons (pe_tup (pa_cons pe_str (pa_cons (pv 2) pa_nil))) (pa_cons (pe_tup (pa_cons pe_str (pa_cons (pv 2) pa_nil))) (pa_cons (pe_tup (pa_cons pe_str (pa_cons (pv 5) (pa_cons (pv 6) pa_nil)))) (pa_cons (pe_tup (pa_cons pe_str (pa_cons (pv 2) (pa_cons (pe_call (ok__law_next T) (hr.mono (by decide)) (by rfl) T.g__law_next T.F__law_next.kp T.b__law_next .nil pass0 (pa_cons (pv 0) (pa_cons (pv 3) pa_nil))) (pa_cons (pv 5) (pa_cons (pv 6) pa_nil)))))) pa_nil)))))) (pss_cons (ps_set (i := 7) sc__law_deed.nd rfl (Or.inl rfl) (pe_op (k_add K rfl) (pv 7) (pe_lst (pa_cons (pe_tup (pa_cons pe_str (pa_cons (pv 2) (pa_cons (pe_call (ok__law_next T) (hr.mono (by decide)) (by rfl) T.g__law_next T.F__law_next.kp T.b__law_next .nil pass0 (pa_cons (pv 0) (pa_cons (pv 3) pa_nil))) (pa_cons pe_int (pa_cons (pv 6) pa_nil)))))) (pa_cons (pe_tup (pa_cons pe_str (pa_cons (pe_ix (k_ix K rfl) (pe_lst (pa_cons pe_int (pa_cons pe_int (pa_cons (pe_un un_neg pe_int) (pa_cons pe_int pa_nil))))) (pe_call (ok__law_next T) (hr.mono (by decide)) (by rfl) T.g__law_next T.F__law_next.kp T.b__law_next .nil pass0 (pa_cons (pv 0) (pa_cons pe_int pa_nil))) (fun _ _ => rfl)) pa_nil))) pa_nil))))) (pss_cons (ps_set (i := 7) sc__law_deed.nd rfl (Or.inl rfl) (pe_op (k_add K rfl) (pv 7) (pe_lst (pa_cons (pe_tup (pa_cons pe_str (pa_cons (pv 6) pa_nil))) (pa_cons (pe_tup (pa_cons pe_str (pa_cons (pv 6) pa_nil))) (pa_cons (pe_tup (pa_cons pe_str pa_nil)) (pa_cons (pe_tup (pa_cons pe_str (pa_cons (pv 6) pa_nil))) pa_nil))))))) (pss_one (ps_ret (pe_ix (k_ix K rfl) (pe_op (k_add K rfl) (pv 7) (pe_lst (pa_cons (pe_tup (pa_cons pe_str (pa_cons (pe_ix (k_ix K rfl) (pe_lst (pa_cons pe_str (pa_cons pe_str pa_nil))) (pe_call (ok__law_next T) (hr.mono (by decide)) (by rfl) T.g__law_next T.F__law_next.kp T.b__law_next .nil pass0 (pa_cons (pv 0) (pa_cons pe_int pa_nil))) (fun _ _ => rfl)) pa_nil))) pa_nil))) (pe_call (ok__law_next T) (hr.mono (by decide)) (by rfl) T.g__law_next T.F__law_next.kp T.b__law_next .nil pass0 (pa_cons (pv 0) (pa_cons pe_int pa_nil))) (fun _ _ => rfl)))))))))), ?_⟩
    dsimp only [cxOf, L2.start, List.map_cons, List.map_nil, List.length_cons, List.length_nil, List.replicate, List.cons_append, List.nil_append, Nat.reduceAdd, Nat.reduceSub]
    have hli0 := hli.at_
    have hxl : xs.length = ins.length := paired_len hli.each
    have hn : 0 < xs.length := by
      rw [hxl]
      exact List.length_pos_iff.mpr hne
    have hn4 := hio.1
    walk_at "rs"
    refine w_nx hd (by rw [List.length_map]; omega) (by rw [List.length_map]; omega) fun r1 H1 r10 r11 D1 => ?_
    obtain ⟨xr, i, ex, hi, hxi⟩ := (hli.drew off D1).pick r10 r11
    have hxi' : SqT K H1 xr [.str i.nm, .int i.fg, .int i.ls] := hxi
    refine w_ixL (SqL.of (D1.at off hli0)) ex ?_
    have hfg : 1 ≤ i.fg ∧ i.fg ≤ s := figs_bound hio (figs_of_mem hio hi)
    walk_at "rs"
    refine w_new (by decide) fun p1 H2 hp1 s2 h2 => ?_
    walk_at "rs"
    refine w_nx (D1.dr.same s2) (by omega) (by omega) fun r2 H3 r20 r21 D3 => ?_
    have o1 := off_new D1.dr hp1
    obtain ⟨way, ew, hw⟩ := pick4I (x := 1) (y := 1) (z := 1) (u := -1) r20 r21
    refine w_ixL (SqL.of (D3.at o1 h2)) ew ?_
    have D13 := (D1.same s2).trans D3
    walk_at "rs"
    refine w_new (by decide) fun p2 H4 hp2 s4 h4 => ?_
    walk_at "rs"
    refine w_nx (D13.dr.same s4) (by omega) (by omega) fun r3 H5 r30 r31 D5 => ?_
    have o2 := off_new D13.dr hp2
    obtain ⟨tally, et, ht⟩ := pick4I (x := 1) (y := 1) (z := 0) (u := -1) r30 r31
    refine w_ixL (SqL.of (D5.at o2 h4)) et ?_
    have D15 := (D13.same s4).trans D5
    have hway : way = 1 ∨ way = -1 := by omega
    have htal : -1 ≤ tally ∧ tally ≤ 1 := by omega
    walk_at "rs"
    refine w_new (by decide) fun d1 H6 hd1 s6 e1 => ?_
    walk_at "rs"
    refine w_new (by decide) fun d2 H7 hd2 s7 e2 => ?_
    walk_at "rs"
    refine w_new (by decide) fun d3 H8 hd3 s8 e3 => ?_
    walk_at "rs"
    have s68 := (s6.trans s7).trans s8
    refine w_nx (D15.dr.same s68) (by omega) (by omega) fun k1 H9 k10 k11 D9 => ?_
    have D19 := (D15.same s68).trans D9
    walk_at "rs"
    refine w_new (by decide) fun d4 H10 hd4 s10 e4 => ?_
    walk_at "rs"
    refine w_new (by decide) fun l1 H11 hl1 s11 f1 => ?_
    have o3 := off_new (D19.dr.same s10) hl1
    have A1 : AllD K ins H11 [.ref d1, .ref d2, .ref d3, .ref d4] := by
      have t8 : Tn H8 H11 := D9.tn.trans (s10.trans s11).tn
      exact .cons (.load i.nm) (ok_load hi) (SqT.tn ((s7.trans s8).tn.trans t8) (SqT.of e1)) (.cons (.load i.nm) (ok_load hi) (SqT.tn (s8.tn.trans t8) (SqT.of e2)) (.cons (.turn way tally) (ok_turn hway htal) (SqT.tn t8 (SqT.of e3)) (.cons (.turns i.nm k1 way tally) (ok_turns hio hi k10 k11 hway htal) (SqT.tn s11.tn (SqT.of e4)) .nil)))
    have D111 := D19.same (s10.trans s11)
    walk_at "rs"
    refine w_nx D111.dr (by omega) (by omega) fun k2 H12 k20 k21 D12 => ?_
    have D112 := D111.trans D12
    have f1b := D12.at o3 f1
    walk_at "rs"
    refine w_new (by decide) fun d5 H13 hd5 s13 e5 => ?_
    walk_at "rs"
    refine w_new (by decide) fun p3 H14 hp3 s14 h14 => ?_
    have o4 := off_new (D112.dr.same s13) hp3
    have s1314 := s13.trans s14
    walk_at "rs"
    refine w_nx (D112.dr.same s1314) (by omega) (by omega) fun r5 H15 r50 r51 D15' => ?_
    obtain ⟨y, ey, hy⟩ := pick4I (x := 1) (y := 1) (z := -1) (u := 2) r50 r51
    refine w_ixL (SqL.of (D15'.at o4 h14)) ey ?_
    have D115 := (D112.same s1314).trans D15'
    have f1c := D15'.at o3 (s1314 _ _ f1b)
    walk_at "rs"
    refine w_new (by decide) fun d6 H16 hd6 s16 e6 => ?_
    walk_at "rs"
    refine w_new (by decide) fun l2 H17 hl2 s17 f2 => ?_
    walk_at "rs"
    have s1617 := s16.trans s17
    refine w_catL (s1617 _ _ f1c) f2 (by simp) fun l3 H18 hl3 s18 f3 => ?_
    have A3 : AllD K ins H18 ([.ref d1, .ref d2, .ref d3, .ref d4] ++ [.ref d5, .ref d6]) := by
      have t13 : Tn H13 H18 := s14.tn.trans (D15'.tn.trans (s1617.trans s18).tn)
      exact (A1.tn (D12.tn.trans (s13.tn.trans t13))).app (.cons (.turns i.nm k2 1 tally) (ok_turns hio hi k20 k21 (.inl rfl) htal) (SqT.tn t13 (SqT.of e5)) (.cons (.shift y) rfl (SqT.tn (s17.trans s18).tn (SqT.of e6)) .nil))
    walk_at "rs"
    refine w_new (by decide) fun d7 H19 hd7 s19 e7 => ?_
    walk_at "rs"
    refine w_new (by decide) fun d8 H20 hd8 s20 e8 => ?_
    walk_at "rs"
    refine w_new (by decide) fun d9 H21 hd9 s21 e9 => ?_
    walk_at "rs"
    refine w_new (by decide) fun d10 H22 hd10 s22 e10 => ?_
    walk_at "rs"
    refine w_new (by decide) fun l4 H23 hl4 s23 f4 => ?_
    walk_at "rs"
    have s1923 := ((s19.trans s20).trans (s21.trans s22)).trans s23
    refine w_catL (s1923 _ _ f3) f4 (by simp) fun l5 H24 hl5 s24 f5 => ?_
    have D124 := D115.same ((s1617.trans s18).trans (s1923.trans s24))
    have A5 : AllD K ins H24 (([.ref d1, .ref d2, .ref d3, .ref d4] ++ [.ref d5, .ref d6]) ++ [.ref d7, .ref d8, .ref d9, .ref d10]) := by
      have t23 : Tn H22 H24 := (s23.trans s24).tn
      exact (A3.tn (s1923.trans s24).tn).app (.cons (.bell tally) (ok_bell htal) (SqT.tn (((s20.trans s21).trans s22).tn.trans t23) (SqT.of e7)) (.cons (.bell tally) (ok_bell htal) (SqT.tn ((s21.trans s22).tn.trans t23) (SqT.of e8)) (.cons .one rfl (SqT.tn (s22.tn.trans t23) (SqT.of e9)) (.cons (.odds tally) (ok_odds htal) (SqT.tn t23 (SqT.of e10)) .nil))))
    have o5 : Off a cl l5 := off_new (D115.dr.same ((s1617.trans s18).trans s1923)) hl5
    walk_at "rs"
    refine w_new (by decide) fun p4 H25 hp4 s25 h25 => ?_
    walk_at "rs"
    refine w_nx (D124.dr.same s25) (by omega) (by omega) fun r6 H26 r60 r61 D26 => ?_
    have o6 := off_new D124.dr hp4
    have hcase : ∃ cc, atI [V.str "wheels", V.str "counts"] r6 = some (.str (wipeW cc)) := by
      rcases (show r6 = 0 ∨ r6 = 1 by omega) with rfl | rfl
      · exact ⟨false, rfl⟩
      · exact ⟨true, rfl⟩
    obtain ⟨cc, ec⟩ := hcase
    refine w_ixL (SqL.of (D26.at o6 h25)) ec ?_
    have D126 := (D124.same s25).trans D26
    have f5b := D26.at o5 (s25 _ _ f5)
    walk_at "rs"
    refine w_new (by decide) fun d11 H27 hd11 s27 e11 => ?_
    walk_at "rs"
    refine w_new (by decide) fun l6 H28 hl6 s28 f6 => ?_
    walk_at "rs"
    have s2728 := s27.trans s28
    refine w_catL (s2728 _ _ f5b) f6 (by simp) fun l7 H29 hl7 s29 f7 => ?_
    have A7 : AllD K ins H29 ((([.ref d1, .ref d2, .ref d3, .ref d4] ++ [.ref d5, .ref d6]) ++ [.ref d7, .ref d8, .ref d9, .ref d10]) ++ [.ref d11]) :=
      (A5.tn (s25.tn.trans (D26.tn.trans (s2728.trans s29).tn))).app (.cons (.wipe cc) rfl (SqT.tn (s28.trans s29).tn (SqT.of e11)) .nil)
    have D129 := D126.same (s2728.trans s29)
    have o7 : Off a cl l7 := off_new (D126.dr.same s2728) hl7
    walk_at "rs"
    refine w_nx D129.dr (by omega) (by omega) fun r7 H30 r70 r71 D30 => ?_
    obtain ⟨d, dd, ed, gd, hdd⟩ := (A7.tn D30.tn).pick r70 (by simp; omega)
    refine w_ixL (SqL.of (D30.at o7 f7)) ed ?_
    exact q d dd H30 gd hdd (D129.trans D30)

theorem ok__law_inputs (T : Txt K mg base) : FnOk P wd K mg base CX0 2 T.f__law_inputs T.fd__law_inputs ["_law_h", "_law_most"] (spInputsZ K) := by
  refine T.F__law_inputs.ok sc__law_inputs (fun vs H Q E h => ?_) (fun cdv A outer s H vs Q E hr h => ?_)
  · obtain ⟨a, cl, most, rfl, hd, hm1, hm6, q⟩ := h
    rfl
  · have hu := hu_of hr
    obtain ⟨a, cl, most, rfl, hd, hm1, hm6, q⟩ := h
    refine ⟨_, (pss_cons (ps_set (i := 2) sc__law_inputs.nd rfl (Or.inl rfl) (pe_slice sl_str pe_str (po_some (pe_call (ok__law_next T) (hr.mono (by decide)) (by rfl) T.g__law_next T.F__law_next.kp T.b__law_next .nil pass0 (pa_cons (pv 0) (pa_cons pe_int pa_nil)))) po_none)) (pss_cons (ps_set (i := 3) sc__law_inputs.nd rfl (Or.inl rfl) (pe_ix (k_ix K rfl) (pe_lst (pa_cons (pe_lst (pa_cons pe_str (pa_cons pe_str (pa_cons pe_str (pa_cons pe_str pa_nil))))) (pa_cons (pe_lst (pa_cons (pv 2) (pa_cons (pe_op (k_add K rfl) (pv 2) pe_str) (pa_cons (pe_op (k_add K rfl) (pv 2) pe_str) (pa_cons (pe_op (k_add K rfl) pe_str (pv 2)) pa_nil))))) pa_nil))) (pe_call (ok__law_next T) (hr.mono (by decide)) (by rfl) T.g__law_next T.F__law_next.kp T.b__law_next .nil pass0 (pa_cons (pv 0) (pa_cons pe_int pa_nil))) (fun _ _ => rfl))) (pss_cons (ps_set (i := 4) sc__law_inputs.nd rfl (Or.inl rfl) (pe_call (ok__law_next T) (hr.mono (by decide)) (by rfl) T.g__law_next T.F__law_next.kp T.b__law_next .nil pass0 (pa_cons (pv 0) (pa_cons pe_int pa_nil)))) (pss_cons (ps_set (i := 3) sc__law_inputs.nd rfl (Or.inl rfl) (pe_op (k_add K rfl) (pe_slice (k_sl K rfl) (pv 3) (po_some (pv 4)) po_none) (pe_slice (k_sl K rfl) (pv 3) po_none (po_some (pv 4))))) (pss_cons (ps_if (pt_cmpR (k_eq K rfl hr.units) (pe_call (ok__law_next T) (hr.mono (by decide)) (by rfl) T.g__law_next T.F__law_next.kp T.b__law_next .nil pass0 (pa_cons (pv 0) (pa_cons pe_int pa_nil))) pe_int (nomark _)) (pss_one (ps_ret (pe_lc (own := [("_law_name", 5)]) rfl sc__law_inputs.nd (k_U K rfl (pe_slice (k_sl K rfl) (pv 3) po_none (po_some (pe_op (k_add K rfl) pe_int (pe_call (ok__law_next T) (hr.mono (by decide)) (by rfl) T.g__law_next T.F__law_next.kp T.b__law_next .nil pass0 (pa_cons (pv 0) (pa_cons pe_int pa_nil))))))) (blkOk_by (own := [("_law_name", 5)]) (N := ["_law_h", "_law_most", "_law_word", "_law_names", "_law_turn", "_law_name"]) (sc := defScope s__law_inputs) (by decide +kernel)) (fun _ _ _ _ _ => (pg_name (i := 5) sc__law_inputs.nd rfl (Or.inl rfl))) (fun _ _ _ _ _ => pts_nil) (fun _ _ _ _ _ => (pe_tup (pa_cons (pv 5) (pa_cons pe_int (pa_cons (pe_call (ok__law_next T) (hr.mono (by decide)) (by rfl) T.g__law_next T.F__law_next.kp T.b__law_next .nil pass0 (pa_cons (pv 0) (pa_cons pe_int pa_nil))) pa_nil)))))))) pss_nil) (pss_one (ps_ret (pe_lc (own := [("_law_name", 5)]) rfl sc__law_inputs.nd (k_U K rfl (pe_slice (k_sl K rfl) (pv 3) po_none (po_some (pe_op (k_add K rfl) pe_int (pe_call (ok__law_next T) (hr.mono (by decide)) (by rfl) T.g__law_next T.F__law_next.kp T.b__law_next .nil pass0 (pa_cons (pv 0) (pa_cons pe_int pa_nil))))))) (blkOk_by (own := [("_law_name", 5)]) (N := ["_law_h", "_law_most", "_law_word", "_law_names", "_law_turn", "_law_name"]) (sc := defScope s__law_inputs) (by decide +kernel)) (fun _ _ _ _ _ => (pg_name (i := 5) sc__law_inputs.nd rfl (Or.inl rfl))) (fun _ _ _ _ _ => pts_nil) (fun _ _ _ _ _ => (pe_tup (pa_cons (pv 5) (pa_cons (pe_op (k_add K rfl) pe_int (pe_call (ok__law_next T) (hr.mono (by decide)) (by rfl) T.g__law_next T.F__law_next.kp T.b__law_next .nil pass0 (pa_cons (pv 0) (pa_cons (pv 1) pa_nil)))) (pa_cons (pe_call (ok__law_next T) (hr.mono (by decide)) (by rfl) T.g__law_next T.F__law_next.kp T.b__law_next .nil pass0 (pa_cons (pv 0) (pa_cons pe_int pa_nil))) pa_nil))))))))))))), ?_⟩
    dsimp only [cxOf, L2.start, List.map_cons, List.map_nil, List.length_cons, List.length_nil, List.replicate, List.cons_append, List.nil_append, Nat.reduceAdd, Nat.reduceSub]
    walk_at "rs"
    refine w_nx hd (by omega) (by omega) fun r1 H1 r10 r11 D1 => ?_
    obtain ⟨hw, hwl⟩ := names_wordZ r10 r11
    walk_at "rs"
    refine w_slS (by decide +kernel) ?_
    generalize cutS "abcdefg" (some r1) none = word at hw hwl
    have lx : ("x" : Str).length = 1 := by decide +kernel
    have ly : ("y" : Str).length = 1 := by decide +kernel
    walk_at "rs"
    refine w_new (by decide) fun p1 H2 hp1 s2 h2 => ?_
    walk_at "rs"
    refine w_catS (by omega) ?_
    walk_at "rs"
    refine w_catS (by omega) ?_
    walk_at "rs"
    refine w_catS (by omega) ?_
    walk_at "rs"
    refine w_new (by decide) fun p2 H3 hp2 s3 h3 => ?_
    walk_at "rs"
    refine w_new (by decide) fun p3 H4 hp3 s4 h4 => ?_
    walk_at "rs"
    have s24 := (s2.trans s3).trans s4
    refine w_nx (D1.dr.same s24) (by omega) (by omega) fun r2 H5 r20 r21 D5 => ?_
    have D15 := (D1.same s24).trans D5
    have o3 := off_new (D1.dr.same (s2.trans s3)) hp3
    have o2 := off_new (D1.dr.same s2) hp2
    have o1 := off_new D1.dr hp1
    obtain ⟨pn, ns, epn, hpn, hns, hl4⟩ : ∃ (pn : Addr) (ns : List Str), atI [V.ref p1, V.ref p2] r2 = some (.ref pn) ∧ H5 pn = some (.lst (ns.map V.str)) ∧ NamesZ ns ∧ ns.length = 4 := by
      rcases (show r2 = 0 ∨ r2 = 1 by omega) with rfl | rfl
      · exact ⟨p1, ["n", "d", "nd", "dn"], rfl, D5.at o1 (s4 _ _ (s3 _ _ h2)), names_ndZ, rfl⟩
      · exact ⟨p2, [word, word ++ "x", word ++ "y", "x" ++ word], rfl, D5.at o2 (s4 _ _ h3), hw, rfl⟩
    have opn : Off a cl pn := by
      rcases (show r2 = 0 ∨ r2 = 1 by omega) with rfl | rfl
      · cases epn; exact o1
      · cases epn; exact o2
    refine w_ixL (SqL.of (D5.at o3 h4)) epn ?_
    walk_at "rs"
    refine w_nx D15.dr (by omega) (by omega) fun tn H6 tn0 tn1 D6 => ?_
    have D16 := D15.trans D6
    have hpn6 := D6.at opn hpn
    walk_at "rs"
    refine w_slL (SqL.of hpn6) fun p4 H7 hp4 s7 h7 => ?_
    walk_at "rs"
    refine w_slL (SqL.of (s7 _ _ hpn6)) fun p5 H8 hp5 s8 h8 => ?_
    rw [cut_drop tn0] at h7
    rw [cut_take tn0] at h8
    walk_at "rs"
    refine w_catL (s8 _ _ h7) h8 (by simp; omega) fun p6 H9 hp6 s9 h9 => ?_
    have D19 := D16.same ((s7.trans s8).trans s9)
    have o6 := off_new (D16.dr.same (s7.trans s8)) hp6
    have hr := hns.rot tn.toNat
    rw [← List.map_drop, ← List.map_take, ← List.map_append] at h9
    have hrl : (ns.drop tn.toNat ++ ns.take tn.toNat).length = 4 := by simp; omega
    generalize ns.drop tn.toNat ++ ns.take tn.toNat = nn at hr h9 hrl
    walk_at "rs"
    refine w_nx D19.dr (by omega) (by omega) fun r4 H10 r40 r41 D10 => ?_
    have D110 := D19.trans D10
    have h10 := D10.at o6 h9
    walk_at "rs"
    refine w_ite (fun g1 => ?_) (fun g1 => ?_)
    · walk_at "rs"
      refine w_nx D110.dr (by omega) (by omega) fun r5 H11 r50 r51 D11 => ?_
      walk_at "rs"
      refine w_slL (SqL.of (D11.at o6 h10)) fun p7 H12 hp7 s12 h12 => ?_
      have D112 := (D110.trans D11).same s12
      have o7 := off_new (D110.trans D11).dr hp7
      rw [cut_take (by omega), ← List.map_take] at h12
      have hs := hr.take (3 + r5).toNat
      have hsl : (nn.take (3 + r5).toNat).length ≤ 4 ∧ 0 < (nn.take (3 + r5).toNat).length := by rw [List.length_take]; omega
      generalize nn.take (3 + r5).toNat = src at hs h12 hsl
      refine w_UL (SqL.of h12) ?_
      refine lq_list (fun D i H' => InsP K a cl most src H12 D i H') (fun D H13 _ s13 h13 => InsP.start D112.dr s13 h13) (fun D i H13 _ hp => SqL.of (hp.1.at o7 h12)) ?_ ?_
      · rintro D i x H13 hD hx hP
        obtain ⟨nm, hnm, rfl⟩ := map_str hx
        refine ⟨rfl, ?_⟩
        dsimp only [wipe]
        walk_at "rs"
        refine w_nx hP.1.dr (by omega) (by omega) fun l1 H14 l10 l11 D14 => ?_
        walk_at "rs"
        refine w_new (by decide) fun tp H15 htp s15 h15 => ?_
        exact hP.put D112.dr hD D14 s15 h15 hnm (by omega) (by omega) (by omega) (by omega)
      · rintro D H13 hD ⟨D13, ads, ins, hl, hp, hn, hf⟩
        rw [List.length_map, List.take_of_length_le (Nat.le_refl _)] at hn
        have hil : ins.length = src.length := by
          rw [← hn]
          simp [names]
        exact q D ads ins H13 (D112.free hD) (ins_of (by rw [hn]; exact hs.1) (by omega) hf) (fun z => by rw [z] at hil; simp at hil; omega) (by rw [hn]; exact hs.2) ⟨hl, hp⟩ (D112.trans D13)
    · walk_at "rs"
      refine w_nx D110.dr (by omega) (by omega) fun r5 H11 r50 r51 D11 => ?_
      walk_at "rs"
      refine w_slL (SqL.of (D11.at o6 h10)) fun p7 H12 hp7 s12 h12 => ?_
      have D112 := (D110.trans D11).same s12
      have o7 := off_new (D110.trans D11).dr hp7
      rw [cut_take (by omega), ← List.map_take] at h12
      have hs := hr.take (1 + r5).toNat
      have hsl : (nn.take (1 + r5).toNat).length ≤ 4 ∧ 0 < (nn.take (1 + r5).toNat).length := by rw [List.length_take]; omega
      generalize nn.take (1 + r5).toNat = src at hs h12 hsl
      refine w_UL (SqL.of h12) ?_
      refine lq_list (fun D i H' => InsP K a cl most src H12 D i H') (fun D H13 _ s13 h13 => InsP.start D112.dr s13 h13) (fun D i H13 _ hp => SqL.of (hp.1.at o7 h12)) ?_ ?_
      · rintro D i x H13 hD hx hP
        obtain ⟨nm, hnm, rfl⟩ := map_str hx
        refine ⟨rfl, ?_⟩
        dsimp only [wipe]
        walk_at "rs"
        refine w_nx hP.1.dr (by omega) (by omega) fun fg1 H14 fg10 fg11 D14 => ?_
        walk_at "rs"
        refine w_nx D14.dr (by omega) (by omega) fun l1 H15 l10 l11 D15' => ?_
        walk_at "rs"
        refine w_new (by decide) fun tp H16 htp s16 h16 => ?_
        exact hP.put D112.dr hD (D14.trans D15') s16 h16 hnm (by omega) (by omega) (by omega) (by omega)
      · rintro D H13 hD ⟨D13, ads, ins, hl, hp, hn, hf⟩
        rw [List.length_map, List.take_of_length_le (Nat.le_refl _)] at hn
        have hil : ins.length = src.length := by
          rw [← hn]
          simp [names]
        exact q D ads ins H13 (D112.free hD) (ins_of (by rw [hn]; exact hs.1) (by omega) hf) (fun z => by rw [z] at hil; simp at hil; omega) (by rw [hn]; exact hs.2) ⟨hl, hp⟩ (D112.trans D13)

theorem ok__law_likely (T : Txt K mg base) : FnOk P wd K mg base CX0 2 T.f__law_likely T.fd__law_likely ["_law_h", "_law_book_inputs"] (spLikely K) := by
  refine T.F__law_likely.ok sc__law_likely (fun vs H Q E h => ?_) (fun cdv A outer s H vs Q E hr h => ?_)
  · obtain ⟨a, cl, li, xs, ins, s, rfl, hd, hli, off, hio, hne, q⟩ := h
    rfl
  · have hu := hu_of hr
    obtain ⟨a, cl, li, xs, ins, s, rfl, hd, hli, off, hio, hne, q⟩ := h
    refine ⟨_, (pss_cons (ps_set (i := 2) sc__law_likely.nd rfl (Or.inl rfl) (pe_tup (pa_cons pe_str (pa_cons (pe_ix (k_ix K rfl) (pe_ix (k_ix K rfl) (pv 1) pe_int (fun _ _ => rfl)) pe_int (fun _ _ => rfl)) pa_nil)))) (pss_cons (ps_set (i := 3) sc__law_likely.nd rfl (Or.inl rfl) (pe_tup (pa_cons pe_str (pa_cons (pe_ix (k_ix K rfl) (pe_ix (k_ix K rfl) (pv 1) (pe_un un_neg pe_int) (fun _ _ => rfl)) pe_int (fun _ _ => rfl)) pa_nil)))) (pss_cons (ps_set (i := 4) sc__law_likely.nd rfl (Or.inl rfl) (pe_tup (pa_cons pe_str pa_nil))) (pss_cons (ps_set (i := 5) sc__law_likely.nd rfl (Or.inl rfl) (pe_tup (pa_cons pe_str pa_nil))) (pss_cons (ps_set (i := 6) sc__law_likely.nd rfl (Or.inl rfl) (pe_lst (pa_cons (pe_tup (pa_cons pe_str (pa_cons (pe_tup (pa_cons pe_str (pa_cons (pv 4) (pa_cons (pe_tup (pa_cons pe_str (pa_cons (pv 5) (pa_cons (pv 3) pa_nil)))) pa_nil)))) (pa_cons (pv 2) pa_nil)))) (pa_cons (pe_tup (pa_cons pe_str (pa_cons (pv 4) (pa_cons (pv 3) pa_nil)))) pa_nil)))) (pss_cons (ps_set (i := 6) sc__law_likely.nd rfl (Or.inl rfl) (pe_op (k_add K rfl) (pv 6) (pe_lst (pa_cons (pe_tup (pa_cons pe_str (pa_cons (pv 4) (pa_cons (pe_tup (pa_cons pe_str (pa_cons (pv 2) (pa_cons (pv 3) pa_nil)))) pa_nil)))) (pa_cons (pe_tup (pa_cons pe_str (pa_cons (pv 5) (pa_cons (pv 3) pa_nil)))) (pa_cons (pe_tup (pa_cons pe_str (pa_cons (pv 4) (pa_cons (pv 2) pa_nil)))) pa_nil)))))) (pss_cons (ps_set (i := 6) sc__law_likely.nd rfl (Or.inl rfl) (pe_op (k_add K rfl) (pv 6) (pe_lst (pa_cons (pe_tup (pa_cons pe_str (pa_cons (pv 4) (pa_cons (pe_tup (pa_cons pe_str (pa_cons pe_int pa_nil))) pa_nil)))) (pa_cons (pe_tup (pa_cons pe_str (pa_cons (pv 5) (pa_cons (pe_tup (pa_cons pe_str (pa_cons (pv 2) (pa_cons (pe_tup (pa_cons pe_str (pa_cons pe_int pa_nil))) pa_nil)))) pa_nil)))) pa_nil))))) (pss_cons (ps_set (i := 6) sc__law_likely.nd rfl (Or.inl rfl) (pe_op (k_add K rfl) (pv 6) (pe_lst (pa_cons (pe_tup (pa_cons pe_str (pa_cons (pe_tup (pa_cons pe_str (pa_cons (pv 4) (pa_cons (pe_tup (pa_cons pe_str (pa_cons (pv 5) (pa_cons (pv 5) pa_nil)))) pa_nil)))) (pa_cons (pv 2) pa_nil)))) (pa_cons (pe_tup (pa_cons pe_str (pa_cons (pv 2) (pa_cons (pe_tup (pa_cons pe_str (pa_cons pe_int pa_nil))) pa_nil)))) pa_nil))))) (pss_cons (ps_expr (pe_bm PySem.F.plainAttrs_list PySem.F.slot_list_append PySem.F.type_list_append mt_append (pv 6) (pa_cons (pe_tup (pa_cons pe_str (pa_cons (pv 4) (pa_cons (pe_tup (pa_cons pe_str (pa_cons (pe_tup (pa_cons pe_str (pa_cons (pv 5) (pa_cons (pv 5) pa_nil)))) (pa_cons (pe_tup (pa_cons pe_str (pa_cons pe_int pa_nil))) pa_nil)))) pa_nil)))) pa_nil))) (pss_one (ps_ret (pe_ix (k_ix K rfl) (pv 6) (pe_call (ok__law_next T) (hr.mono (by decide)) (by rfl) T.g__law_next T.F__law_next.kp T.b__law_next .nil pass0 (pa_cons (pv 0) (pa_cons pe_int pa_nil))) (fun _ _ => rfl))))))))))))), ?_⟩
    dsimp only [cxOf, L2.start, List.map_cons, List.map_nil, List.length_cons, List.length_nil, List.replicate, List.cons_append, List.nil_append, Nat.reduceAdd, Nat.reduceSub]
    have hli0 := hli.at_
    have hxl : xs.length = ins.length := paired_len hli.each
    have hn : 0 < xs.length := by
      rw [hxl]
      exact List.length_pos_iff.mpr hne
    have hn4 := hio.1
    obtain ⟨x0, i0, ex0, hi0, hx0⟩ := hli.pick (r := 0) (by omega) (by rw [List.length_map]; omega)
    obtain ⟨x9, i9, ex9, hi9, hx9⟩ := hli.last hn
    have hx0' : SqT K H x0 [.str i0.nm, .int i0.fg, .int i0.ls] := hx0
    have f0 := figsOf_some hi0
    have f9 := figsOf_some hi9
    walk_at "rs"
    refine w_ixL (SqL.of hli0) ex0 ?_
    walk_at "rs"
    refine w_new (by decide) fun one H1 n_one s1 e_one => ?_
    walk_at "rs"
    refine w_ixL (SqL.of (s1 _ _ hli0)) ex9 ?_
    have hx9' : SqT K H1 x9 [.str i9.nm, .int i9.fg, .int i9.ls] := SqT.tn s1.tn hx9
    walk_at "rs"
    refine w_new (by decide) fun other H2 n_other s2 e_other => ?_
    walk_at "rs"
    refine w_new (by decide) fun wheels H3 n_wheels s3 e_wheels => ?_
    walk_at "rs"
    refine w_new (by decide) fun counts H4 n_counts s4 e_counts => ?_
    walk_at "rs"
    refine w_new (by decide) fun t1 H5 n_t1 s5 e_t1 => ?_
    walk_at "rs"
    refine w_new (by decide) fun a1 H6 n_a1 s6 e_a1 => ?_
    walk_at "rs"
    refine w_new (by decide) fun c1 H7 n_c1 s7 e_c1 => ?_
    walk_at "rs"
    refine w_new (by decide) fun c2 H8 n_c2 s8 e_c2 => ?_
    walk_at "rs"
    refine w_new (by decide) fun l1 H9 n_l1 s9 e_l1 => ?_
    walk_at "rs"
    refine w_new (by decide) fun t2 H10 n_t2 s10 e_t2 => ?_
    walk_at "rs"
    refine w_new (by decide) fun c3 H11 n_c3 s11 e_c3 => ?_
    walk_at "rs"
    refine w_new (by decide) fun c4 H12 n_c4 s12 e_c4 => ?_
    walk_at "rs"
    refine w_new (by decide) fun c5 H13 n_c5 s13 e_c5 => ?_
    walk_at "rs"
    refine w_new (by decide) fun l2 H14 n_l2 s14 e_l2 => ?_
    walk_at "rs"
    refine w_catL (s14 _ _ (s13 _ _ (s12 _ _ (s11 _ _ (s10 _ _ e_l1))))) e_l2 (by simp) fun m1 H15 n_m1 s15 e_m1 => ?_
    walk_at "rs"
    refine w_new (by decide) fun n1 H16 n_n1 s16 e_n1 => ?_
    walk_at "rs"
    refine w_new (by decide) fun c6 H17 n_c6 s17 e_c6 => ?_
    walk_at "rs"
    refine w_new (by decide) fun n2 H18 n_n2 s18 e_n2 => ?_
    walk_at "rs"
    refine w_new (by decide) fun a2 H19 n_a2 s19 e_a2 => ?_
    walk_at "rs"
    refine w_new (by decide) fun c7 H20 n_c7 s20 e_c7 => ?_
    walk_at "rs"
    refine w_new (by decide) fun l3 H21 n_l3 s21 e_l3 => ?_
    walk_at "rs"
    refine w_catL (s21 _ _ (s20 _ _ (s19 _ _ (s18 _ _ (s17 _ _ (s16 _ _ e_m1)))))) e_l3 (by simp) fun m2 H22 n_m2 s22 e_m2 => ?_
    walk_at "rs"
    refine w_new (by decide) fun t3 H23 n_t3 s23 e_t3 => ?_
    walk_at "rs"
    refine w_new (by decide) fun a3 H24 n_a3 s24 e_a3 => ?_
    walk_at "rs"
    refine w_new (by decide) fun c8 H25 n_c8 s25 e_c8 => ?_
    walk_at "rs"
    refine w_new (by decide) fun n3 H26 n_n3 s26 e_n3 => ?_
    walk_at "rs"
    refine w_new (by decide) fun c9 H27 n_c9 s27 e_c9 => ?_
    walk_at "rs"
    refine w_new (by decide) fun l4 H28 n_l4 s28 e_l4 => ?_
    walk_at "rs"
    refine w_catL (s28 _ _ (s27 _ _ (s26 _ _ (s25 _ _ (s24 _ _ (s23 _ _ e_m2)))))) e_l4 (by simp) fun m3 H29 n_m3 s29 e_m3 => ?_
    walk_at "rs"
    refine w_new (by decide) fun a4 H30 n_a4 s30 e_a4 => ?_
    walk_at "rs"
    refine w_new (by decide) fun n4 H31 n_n4 s31 e_n4 => ?_
    walk_at "rs"
    refine w_new (by decide) fun a5 H32 n_a5 s32 e_a5 => ?_
    walk_at "rs"
    refine w_new (by decide) fun c10 H33 n_c10 s33 e_c10 => ?_
    walk_at "rs"
    have Y1 := s1
    have Y2 := Y1.trans s2
    have Y3 := Y2.trans s3
    have Y4 := Y3.trans s4
    have Y5 := Y4.trans s5
    have Y6 := Y5.trans s6
    have Y7 := Y6.trans s7
    have Y8 := Y7.trans s8
    have Y9 := Y8.trans s9
    have Y10 := Y9.trans s10
    have Y11 := Y10.trans s11
    have Y12 := Y11.trans s12
    have Y13 := Y12.trans s13
    have Y14 := Y13.trans s14
    have Y15 := Y14.trans s15
    have Y16 := Y15.trans s16
    have Y17 := Y16.trans s17
    have Y18 := Y17.trans s18
    have Y19 := Y18.trans s19
    have Y20 := Y19.trans s20
    have Y21 := Y20.trans s21
    have Y22 := Y21.trans s22
    have Y23 := Y22.trans s23
    have Y24 := Y23.trans s24
    have Y25 := Y24.trans s25
    have Y26 := Y25.trans s26
    have Y27 := Y26.trans s27
    have Y28 := Y27.trans s28
    have Y29 := Y28.trans s29
    have Y30 := Y29.trans s30
    have Y31 := Y30.trans s31
    have Y32 := Y31.trans s32
    have Y33 := Y32.trans s33
    have T33 := Same.refl H33
    have T32 := s33.trans T33
    have T31 := s32.trans T32
    have T30 := s31.trans T31
    have T29 := s30.trans T30
    have T28 := s29.trans T29
    have T27 := s28.trans T28
    have T26 := s27.trans T27
    have T25 := s26.trans T26
    have T24 := s25.trans T25
    have T23 := s24.trans T24
    have T22 := s23.trans T23
    have T21 := s22.trans T22
    have T20 := s21.trans T21
    have T19 := s20.trans T20
    have T18 := s19.trans T19
    have T17 := s18.trans T18
    have T16 := s17.trans T17
    have T15 := s16.trans T16
    have T14 := s15.trans T15
    have T13 := s14.trans T14
    have T12 := s13.trans T13
    have T11 := s12.trans T12
    have T10 := s11.trans T11
    have T9 := s10.trans T10
    have T8 := s9.trans T9
    have T7 := s8.trans T8
    have T6 := s7.trans T7
    have T5 := s6.trans T6
    have T4 := s5.trans T5
    have T3 := s4.trans T4
    have T2 := s3.trans T3
    have T1 := s2.trans T2
    have T0 := s1.trans T1
    have w_ : SidAt K H33 wheels .wheels := .wheels (SqT.of (T3 _ _ e_wheels))
    have c_ : SidAt K H33 counts .counts := .counts (SqT.of (T4 _ _ e_counts))
    have o_ : SidAt K H33 one (.inp i0.nm) := .inp (SqT.of (T1 _ _ e_one))
    have r_ : SidAt K H33 other (.inp i9.nm) := .inp (SqT.of (T2 _ _ e_other))
    have g_c1 : claOk ins (⟨false, .add .wheels (.times .counts (.inp i9.nm)), .inp i0.nm⟩ : Cla) = true := by simp [claOk, sidOk, f0, f9]
    have k_c1 : ClaAt K H33 c1 (⟨false, .add .wheels (.times .counts (.inp i9.nm)), .inp i0.nm⟩ : Cla) := ⟨_, _, SqT.of (T7 _ _ e_c1), .add (SqT.of (T6 _ _ e_a1)) w_ (.times (SqT.of (T5 _ _ e_t1)) c_ r_), o_⟩
    have g_c2 : claOk ins (⟨true, .wheels, .inp i9.nm⟩ : Cla) = true := by simp [claOk, sidOk, f0, f9]
    have k_c2 : ClaAt K H33 c2 (⟨true, .wheels, .inp i9.nm⟩ : Cla) := ⟨_, _, SqT.of (T8 _ _ e_c2), w_, r_⟩
    have g_c3 : claOk ins (⟨false, .wheels, .times (.inp i0.nm) (.inp i9.nm)⟩ : Cla) = true := by simp [claOk, sidOk, f0, f9]
    have k_c3 : ClaAt K H33 c3 (⟨false, .wheels, .times (.inp i0.nm) (.inp i9.nm)⟩ : Cla) := ⟨_, _, SqT.of (T11 _ _ e_c3), w_, .times (SqT.of (T10 _ _ e_t2)) o_ r_⟩
    have g_c4 : claOk ins (⟨false, .counts, .inp i9.nm⟩ : Cla) = true := by simp [claOk, sidOk, f0, f9]
    have k_c4 : ClaAt K H33 c4 (⟨false, .counts, .inp i9.nm⟩ : Cla) := ⟨_, _, SqT.of (T12 _ _ e_c4), c_, r_⟩
    have g_c5 : claOk ins (⟨false, .wheels, .inp i0.nm⟩ : Cla) = true := by simp [claOk, sidOk, f0, f9]
    have k_c5 : ClaAt K H33 c5 (⟨false, .wheels, .inp i0.nm⟩ : Cla) := ⟨_, _, SqT.of (T13 _ _ e_c5), w_, o_⟩
    have g_c6 : claOk ins (⟨true, .wheels, .num 100000⟩ : Cla) = true := by simp [claOk, sidOk, f0, f9]
    have k_c6 : ClaAt K H33 c6 (⟨true, .wheels, .num 100000⟩ : Cla) := ⟨_, _, SqT.of (T17 _ _ e_c6), w_, .num (SqT.of (T16 _ _ e_n1))⟩
    have g_c7 : claOk ins (⟨true, .counts, .add (.inp i0.nm) (.num 5000)⟩ : Cla) = true := by simp [claOk, sidOk, f0, f9]
    have k_c7 : ClaAt K H33 c7 (⟨true, .counts, .add (.inp i0.nm) (.num 5000)⟩ : Cla) := ⟨_, _, SqT.of (T20 _ _ e_c7), c_, .add (SqT.of (T19 _ _ e_a2)) o_ (.num (SqT.of (T18 _ _ e_n2)))⟩
    have g_c8 : claOk ins (⟨false, .add .wheels (.times .counts .counts), .inp i0.nm⟩ : Cla) = true := by simp [claOk, sidOk, f0, f9]
    have k_c8 : ClaAt K H33 c8 (⟨false, .add .wheels (.times .counts .counts), .inp i0.nm⟩ : Cla) := ⟨_, _, SqT.of (T25 _ _ e_c8), .add (SqT.of (T24 _ _ e_a3)) w_ (.times (SqT.of (T23 _ _ e_t3)) c_ c_), o_⟩
    have g_c9 : claOk ins (⟨true, .inp i0.nm, .num 700⟩ : Cla) = true := by simp [claOk, sidOk, f0, f9]
    have k_c9 : ClaAt K H33 c9 (⟨true, .inp i0.nm, .num 700⟩ : Cla) := ⟨_, _, SqT.of (T27 _ _ e_c9), o_, .num (SqT.of (T26 _ _ e_n3))⟩
    have g_c10 : claOk ins (⟨true, .wheels, .add (.add .counts .counts) (.num 1)⟩ : Cla) = true := by simp [claOk, sidOk, f0, f9]
    have k_c10 : ClaAt K H33 c10 (⟨true, .wheels, .add (.add .counts .counts) (.num 1)⟩ : Cla) := ⟨_, _, SqT.of (T33 _ _ e_c10), w_, .add (SqT.of (T32 _ _ e_a5)) (.add (SqT.of (T30 _ _ e_a4)) c_ c_) (.num (SqT.of (T31 _ _ e_n4)))⟩
    have AA : AllC K ins H33 [.ref c1, .ref c2, .ref c3, .ref c4, .ref c5, .ref c6, .ref c7, .ref c8, .ref c9, .ref c10] := (.cons _ g_c1 k_c1 (.cons _ g_c2 k_c2 (.cons _ g_c3 k_c3 (.cons _ g_c4 k_c4 (.cons _ g_c5 k_c5 (.cons _ g_c6 k_c6 (.cons _ g_c7 k_c7 (.cons _ g_c8 k_c8 (.cons _ g_c9 k_c9 (.cons _ g_c10 k_c10 .nil))))))))))
    refine w_append (T29 _ _ e_m3) (by simp) fun HA eA hA => ?_
    have tA : Tn H33 HA := tn_mut eA (T29 _ _ e_m3)
    have offm : Off a cl m3 := off_new (hd.same (Y28)) n_m3
    have DA : Drew a cl H HA := ⟨by rw [eA]; exact (hd.same T0).off offm, fun b o hb na nc => by rw [eA, upd_ne (ne_of_none hb (Y28.free n_m3))]; exact T0 _ _ hb, T0.tn.trans tA⟩
    walk_at "rs"
    refine w_nx DA.dr (by omega) (by omega) fun r HB r0 r1 DB => ?_
    obtain ⟨d, c, ed, gd, hdc⟩ := ((AA.tn tA).tn DB.tn).pick r0 (by simp; omega)
    refine w_ixL (SqL.of (DB.at offm hA)) ed ?_
    exact q d c HB gd hdc (DA.trans DB)

theorem ok__law_long (T : Txt K mg base) : FnOk P wd K mg base CX0 2 T.f__law_long T.fd__law_long ["_law_h", "_law_inputs_here"] (spLongL K) := by
  refine T.F__law_long.ok sc__law_long (fun vs H Q E h => ?_) (fun cdv A outer s H vs Q E hr h => ?_)
  · obtain ⟨a, cl, li, xs, ins, s, rfl, hd, hli, off, hio, hne, q⟩ := h
    rfl
  · have hu := hu_of hr
    obtain ⟨a, cl, li, xs, ins, s, rfl, hd, hli, off, hio, hne, q⟩ := h
    refine ⟨_, (pss_cons (ps_set (i := 2) sc__law_long.nd rfl (Or.inl rfl) (pe_lst pa_nil)) (pss_cons (ps_for PassesOwn.never rfl (pi_range1 rfl T.n_range (pa_cons (pe_ix (k_ix K rfl) (pe_lst (pa_cons (pe_op (k_add K rfl) pe_int (pe_call (ok__law_next T) (hr.mono (by decide)) (by rfl) T.g__law_next T.F__law_next.kp T.b__law_next .nil pass0 (pa_cons (pv 0) (pa_cons pe_int pa_nil)))) (pa_cons (pe_op (k_add K rfl) pe_int (pe_call (ok__law_next T) (hr.mono (by decide)) (by rfl) T.g__law_next T.F__law_next.kp T.b__law_next .nil pass0 (pa_cons (pv 0) (pa_cons pe_int pa_nil)))) pa_nil))) (pe_op op_fdivW (pe_call (ok__law_next T) (hr.mono (by decide)) (by rfl) T.g__law_next T.F__law_next.kp T.b__law_next .nil pass0 (pa_cons (pv 0) (pa_cons pe_int pa_nil))) pe_int) (fun _ _ => rfl)) pa_nil)) (pg_name (i := 3) sc__law_long.nd rfl (Or.inl rfl)) (pss_cons (ps_set (i := 4) sc__law_long.nd rfl (Or.inl rfl) (pe_ix (k_ix K rfl) (pe_ix (k_ix K rfl) (pv 1) (pe_call (ok__law_next T) (hr.mono (by decide)) (by rfl) T.g__law_next T.F__law_next.kp T.b__law_next .nil pass0 (pa_cons (pv 0) (pa_cons (pe_callB (k_len K rfl) (by rfl) T.n_len (by decide +kernel) (pa_cons (pv 1) pa_nil)) pa_nil))) (fun _ _ => rfl)) pe_int (fun _ _ => rfl))) (pss_one (ps_set (i := 2) sc__law_long.nd rfl (Or.inl rfl) (pe_op (k_add K rfl) (pv 2) (pe_lst (pa_cons (pe_tup (pa_cons pe_str (pa_cons (pv 4) pa_nil))) (pa_cons (pe_tup (pa_cons pe_str (pa_cons (pe_ix (k_ix K rfl) (pe_ix (k_ix K rfl) (pv 1) (pe_call (ok__law_next T) (hr.mono (by decide)) (by rfl) T.g__law_next T.F__law_next.kp T.b__law_next .nil pass0 (pa_cons (pv 0) (pa_cons (pe_callB (k_len K rfl) (by rfl) T.n_len (by decide +kernel) (pa_cons (pv 1) pa_nil)) pa_nil))) (fun _ _ => rfl)) pe_int (fun _ _ => rfl)) (pa_cons pe_int (pa_cons pe_int (pa_cons (pe_call (ok__law_next T) (hr.mono (by decide)) (by rfl) T.g__law_next T.F__law_next.kp T.b__law_next .nil pass0 (pa_cons (pv 0) (pa_cons pe_int pa_nil))) pa_nil)))))) pa_nil)))))))) (pss_one (ps_ret (pv 2))))), ?_⟩
    dsimp only [cxOf, L2.start, List.map_cons, List.map_nil, List.length_cons, List.length_nil, List.replicate, List.cons_append, List.nil_append, Nat.reduceAdd, Nat.reduceSub]
    have hli0 := hli.at_
    have hxl : xs.length = ins.length := paired_len hli.each
    have hn : 0 < xs.length := by
      rw [hxl]
      exact List.length_pos_iff.mpr hne
    have hn4 := hio.1
    walk_at "rs"
    refine w_new (Nat.zero_le _) fun l0 H1 hl0 s1 h1 => ?_
    walk_at "rs"
    have Y1 := (Drew.refl hd).same s1
    refine w_nx Y1.dr (by omega) (by omega) fun r1 H2 r10 r11 D2 => ?_
    walk_at "rs"
    refine w_nx D2.dr (by omega) (by omega) fun r2 H3 r20 r21 D3 => ?_
    have D23 := D2.trans D3
    walk_at "rs"
    refine w_new (by decide) fun p1 H4 hp1 s4 h4 => ?_
    have o1 := off_new D23.dr hp1
    walk_at "rs"
    refine w_nx (D23.dr.same s4) (by omega) (by omega) fun r3 H5 r30 r31 D5 => ?_
    walk_at "rs"
    have D25 := (D23.same s4).trans D5
    obtain ⟨cnt, ec, hc⟩ := pick2I (x := 5 + r1) (y := 13 + r2) (r := r3 / 2) (by omega) (by omega)
    refine w_ixL (SqL.of (D5.at o1 h4)) ec ?_
    walk_at "rs"
    refine w_rngI (by omega) ?_
    have D05 := Y1.trans D25
    have o0 := off_new hd hl0
    refine lp_range0 (fun i σ H' => Drew a cl H H' ∧ ∃ dl ds x3 x4, σ = [some (.ref a), some (.ref li), some (.ref dl), x3, x4] ∧ DeesL K a cl ins H H' dl ds ∧ ds.length = 2 * i)
      ⟨D05, l0, [], none, none, rfl, ⟨D25.at o0 h1, o0, hl0, .nil⟩, rfl⟩ ?_ ?_
    · rintro i σ H6 hi ⟨D6, dl, ds, x3, x4, rfl, hdl, hlen⟩
      have hli6 := D6.at off hli0
      walk_at "rs"
      refine w_nx D6.dr (by rw [List.length_map]; omega) (by rw [List.length_map]; omega) fun q1 H7 q10 q11 D7 => ?_
      have D07 := D6.trans D7
      obtain ⟨xr, j, ex, hj, hxj⟩ := (hli.drew off D07).pick q10 q11
      have hxj' : SqT K H7 xr [.str j.nm, .int j.fg, .int j.ls] := hxj
      have hli7 := D07.at off hli0
      refine w_ixL (SqL.of hli7) ex ?_
      walk_at "rs"
      refine w_new (by decide) fun t1 H8 ht1 s8 e1 => ?_
      have hli8 := s8 _ _ hli7
      walk_at "rs"
      refine w_nx (D07.dr.same s8) (by rw [List.length_map]; omega) (by rw [List.length_map]; omega) fun q2 H9 q20 q21 D9 => ?_
      have D09 := (D07.same s8).trans D9
      obtain ⟨xr2, j2, ex2, hj2, hxj2⟩ := (hli.drew off D09).pick q20 q21
      have hxj2' : SqT K H9 xr2 [.str j2.nm, .int j2.fg, .int j2.ls] := hxj2
      refine w_ixL (SqL.of (D09.at off hli0)) ex2 ?_
      walk_at "rs"
      refine w_nx D09.dr (by omega) (by omega) fun y H10 y0 y1 D10 => ?_
      have D010 := D09.trans D10
      walk_at "rs"
      refine w_new (by decide) fun t2 H11 ht2 s11 e2 => ?_
      walk_at "rs"
      refine w_new (by decide) fun l1 H12 hl1 s12 f1 => ?_
      walk_at "rs"
      have hdl12 : DeesL K a cl ins H H12 dl ds := ((((hdl.drew D7).same s8).drew (D9.trans D10)).same s11).same s12
      refine w_catL hdl12.at_ f1 (by simp; omega) fun l2 H13 hl2 s13 f2 => ?_
      have hfg2 : 1 ≤ j2.fg ∧ j2.fg ≤ s := figs_bound hio (figs_of_mem hio hj2)
      have D013 := D010.same ((s11.trans s12).trans s13)
      refine ⟨D013, l2, _, _, _, rfl, ⟨f2, off_new (D010.dr.same (s11.trans s12)) hl2, (D010.same (s11.trans s12)).free hl2, ?_⟩, ?_⟩
      · exact (hdl12.all.tn s13.tn).app (.cons (.load j.nm) (ok_load hj) (SqT.tn ((D9.trans D10).tn.trans ((s11.trans s12).trans s13).tn) (SqT.of e1)) (.cons (.turns j2.nm 0 1 y) (ok_turns hio hj2 (by omega) (by omega) (.inl rfl) (by omega)) (SqT.tn (s12.trans s13).tn (SqT.of e2)) .nil))
      · simp; omega
    · rintro σ H6 ⟨D6, dl, ds, x3, x4, rfl, hdl, hlen⟩
      walk_at "rs"
      exact q dl ds H6 hdl (by omega) D6


theorem ok__law_side_0 (T : Txt K mg base) : FnOk P wd K mg base CX0 2 T.f__law_side T.fd__law_side ["_law_h", "_law_book_inputs", "_law_deep"] (spSideL K 0) := by
  refine T.F__law_side.ok sc__law_side (fun vs H Q E h => ?_) (fun cdv A outer s H vs Q E hr h => ?_)
  · obtain ⟨a, cl, li, xs, ins, s, k, rfl, hk, hk20, hd, hli, off, hio, hne, q⟩ := h
    rfl
  · have hu := hu_of hr
    obtain ⟨a, cl, li, xs, ins, s, k, rfl, hk, hk20, hd, hli, off, hio, hne, q⟩ := h
    refine ⟨_, (pss_cons (ps_set (i := 3) sc__law_side.nd rfl (Or.inl rfl) (pe_call (ok__law_next T) (hr.mono (by decide)) (by rfl) T.g__law_next T.F__law_next.kp T.b__law_next .nil pass0 (pa_cons (pv 0) (pa_cons pe_int pa_nil)))) (pss_cons (ps_if (PW.pt (pw_and (pt_cmpR (op_gt) (pv 2) pe_int (nomark _)) (pw_and1 (pt_cmpR (op_gt) (pv 3) pe_int (nomark _))))) (pss_cons (ps_set (i := 4) sc__law_side.nd rfl (Or.inl rfl) pe_no) (pss_one (ps_ret (pe_tup (pa_cons (pe_ix (k_ix K rfl) (pe_lst (pa_cons pe_str (pa_cons pe_str pa_nil))) (pe_op op_mod (pv 3) pe_int) (fun _ _ => rfl)) (pa_cons (pv 4) (pa_cons pe_no pa_nil))))))) pss_nil) (pss_cons (ps_set (i := 5) sc__law_side.nd rfl (Or.inl rfl) (pe_ix (k_ix K rfl) (pe_ix (k_ix K rfl) (pv 1) (pe_call (ok__law_next T) (hr.mono (by decide)) (by rfl) T.g__law_next T.F__law_next.kp T.b__law_next .nil pass0 (pa_cons (pv 0) (pa_cons (pe_callB (k_len K rfl) (by rfl) T.n_len (by decide +kernel) (pa_cons (pv 1) pa_nil)) pa_nil))) (fun _ _ => rfl)) pe_int (fun _ _ => rfl))) (pss_cons (ps_set (i := 6) sc__law_side.nd rfl (Or.inl rfl) (pe_ix (k_ix K rfl) (pe_lst (pa_cons (pe_call (ok__law_next T) (hr.mono (by decide)) (by rfl) T.g__law_next T.F__law_next.kp T.b__law_next .nil pass0 (pa_cons (pv 0) (pa_cons pe_int pa_nil))) (pa_cons (pe_call (ok__law_next T) (hr.mono (by decide)) (by rfl) T.g__law_next T.F__law_next.kp T.b__law_next .nil pass0 (pa_cons (pv 0) (pa_cons pe_int pa_nil))) (pa_cons (pe_op op_sub (pe_op op_pow pe_int pe_int) (pe_call (ok__law_next T) (hr.mono (by decide)) (by rfl) T.g__law_next T.F__law_next.kp T.b__law_next .nil pass0 (pa_cons (pv 0) (pa_cons (pe_op op_pow pe_int pe_int) pa_nil)))) pa_nil)))) (pe_call (ok__law_next T) (hr.mono (by decide)) (by rfl) T.g__law_next T.F__law_next.kp T.b__law_next .nil pass0 (pa_cons (pv 0) (pa_cons pe_int pa_nil))) (fun _ _ => rfl))) (pss_one (ps_ret (pe_ix (k_ix K rfl) (pe_lst (pa_cons (pe_tup (pa_cons pe_str pa_nil)) (pa_cons (pe_tup (pa_cons pe_str pa_nil)) (pa_cons (pe_tup (pa_cons pe_str (pa_cons (pv 5) pa_nil))) (pa_cons (pe_tup (pa_cons pe_str (pa_cons (pv 6) pa_nil))) pa_nil))))) (pe_op op_mod (pv 3) pe_int) (fun _ _ => rfl)))))))), ?_⟩
    dsimp only [cxOf, L2.start, List.map_cons, List.map_nil, List.length_cons, List.length_nil, List.replicate, List.cons_append, List.nil_append, Nat.reduceAdd, Nat.reduceSub]
    obtain rfl : k = 0 := by omega
    have hli0 := hli.at_
    have hxl : xs.length = ins.length := paired_len hli.each
    have hn : 0 < xs.length := by
      rw [hxl]
      exact List.length_pos_iff.mpr hne
    have hn4 := hio.1
    walk_at "rs"
    refine w_nx hd (by omega) (by omega) fun way H1 w0 w1 D1 => ?_
    walk_at "rs"
    have hli1 := D1.at off hli0
    walk_at "rs"
    refine w_nx D1.dr (by rw [List.length_map]; omega) (by rw [List.length_map]; omega) fun r2 H2 r20 r21 D2 => ?_
    have D02 := D1.trans D2
    obtain ⟨xr, i, ex, hi, hxi⟩ := (hli.drew off D02).pick r20 r21
    have hxi' : SqT K H2 xr [.str i.nm, .int i.fg, .int i.ls] := hxi
    refine w_ixL (SqL.of (D02.at off hli0)) ex ?_
    walk_at "rs"
    refine w_nx D02.dr (by omega) (by omega) fun n1 H3 n10 n11 D3 => ?_
    walk_at "rs"
    refine w_nx D3.dr (by omega) (by omega) fun n2 H4 n20 n21 D4 => ?_
    walk_at "rs"
    refine w_nx D4.dr (by decide) (by decide) fun n3 H5 n30 n31 D5 => ?_
    have D05 := (D02.trans D3).trans (D4.trans D5)
    walk_at "rs"
    refine w_new (by decide) fun p1 H6 hp1 s6 h6 => ?_
    walk_at "rs"
    refine w_nx (D05.dr.same s6) (by omega) (by omega) fun r3 H7 r30 r31 D7 => ?_
    have o1 := off_new D05.dr hp1
    obtain ⟨num, en, hnum⟩ := pick3I r30 r31
    refine w_ixL (SqL.of (D7.at o1 h6)) en ?_
    have D07 := (D05.same s6).trans D7
    have hnb : 0 ≤ num ∧ num ≤ 1000000000 := by
      have e9 : (10 : Int) ^ (9 : Int).toNat = 1000000000 := by decide
      have e8 : (10 : Int) ^ (8 : Int).toNat = 100000000 := by decide
      rw [e9] at hnum
      rw [e8] at n31
      omega
    walk_at "rs"
    refine w_new (by decide) fun d1 H8 hd1 s8 e1 => ?_
    walk_at "rs"
    refine w_new (by decide) fun d2 H9 hd2 s9 e2 => ?_
    walk_at "rs"
    refine w_new (by decide) fun d3 H10 hd3 s10 e3 => ?_
    walk_at "rs"
    refine w_new (by decide) fun d4 H11 hd4 s11 e4 => ?_
    walk_at "rs"
    refine w_new (by decide) fun l1 H12 hl1 s12 f1 => ?_
    have A1 : AllS K ins (0 + 1) H12 [.ref d1, .ref d2, .ref d3, .ref d4] :=
      .cons .wheels rfl (.wheels (SqT.tn (((s9.trans s10).trans s11).trans s12).tn (SqT.of e1))) (.cons .counts rfl (.counts (SqT.tn ((s10.trans s11).trans s12).tn (SqT.of e2))) (.cons (.inp i.nm) (figsOf_some hi) (.inp (SqT.tn (s11.trans s12).tn (SqT.of e3)))
        (.cons (.num num) (by show (decide (0 ≤ num) && decide (num ≤ 1000000000)) = true; rw [decide_eq_true hnb.1, decide_eq_true hnb.2]; rfl) (.num (SqT.tn s12.tn (SqT.of e4))) .nil)))
    walk_at "rs"
    obtain ⟨d, p, ed, gd, hdp⟩ := A1.pick (r := way % 4) (Int.emod_nonneg _ (by decide)) (by have := Int.emod_lt_of_pos way (show (0 : Int) < 4 by decide); simp; omega)
    refine w_ixL (SqL.of f1) ed ?_
    exact q d p H12 gd hdp (D07.same (((s8.trans s9).trans (s10.trans s11)).trans s12))
theorem ok__law_side_S (T : Txt K mg base) {n : Nat} (ih : FnOk P wd K mg base CX0 (2 + n) T.f__law_side T.fd__law_side ["_law_h", "_law_book_inputs", "_law_deep"] (spSideL K n)) : FnOk P wd K mg base CX0 (2 + n + 1) T.f__law_side T.fd__law_side ["_law_h", "_law_book_inputs", "_law_deep"] (spSideL K (n + 1)) := by
  refine T.F__law_side.ok sc__law_side (fun vs H Q E h => ?_) (fun cdv A outer s H vs Q E hr h => ?_)
  · obtain ⟨a, cl, li, xs, ins, s, k, rfl, hk, hk20, hd, hli, off, hio, hne, q⟩ := h
    rfl
  · have hu := hu_of hr
    obtain ⟨a, cl, li, xs, ins, s, k, rfl, hk, hk20, hd, hli, off, hio, hne, q⟩ := h
    refine ⟨_, (pss_cons (ps_set (i := 3) sc__law_side.nd rfl (Or.inl rfl) (pe_call (ok__law_next T) (hr.mono (by omega)) (by rfl) T.g__law_next T.F__law_next.kp T.b__law_next .nil pass0 (pa_cons (pv 0) (pa_cons pe_int pa_nil)))) (pss_cons (ps_if (PW.pt (pw_and (pt_cmpR (op_gt) (pv 2) pe_int (nomark _)) (pw_and1 (pt_cmpR (op_gt) (pv 3) pe_int (nomark _))))) (pss_cons (ps_set (i := 4) sc__law_side.nd rfl (Or.inl rfl) (pe_call ih hr (by rfl) T.g__law_side T.F__law_side.kp T.b__law_side .nil pass0 (pa_cons (pv 0) (pa_cons (pv 1) (pa_cons (pe_op op_sub (pv 2) pe_int) pa_nil))))) (pss_one (ps_ret (pe_tup (pa_cons (pe_ix (k_ix K rfl) (pe_lst (pa_cons pe_str (pa_cons pe_str pa_nil))) (pe_op op_mod (pv 3) pe_int) (fun _ _ => rfl)) (pa_cons (pv 4) (pa_cons (pe_call ih hr (by rfl) T.g__law_side T.F__law_side.kp T.b__law_side .nil pass0 (pa_cons (pv 0) (pa_cons (pv 1) (pa_cons (pe_op op_sub (pv 2) pe_int) pa_nil)))) pa_nil))))))) pss_nil) (pss_cons (ps_set (i := 5) sc__law_side.nd rfl (Or.inl rfl) (pe_ix (k_ix K rfl) (pe_ix (k_ix K rfl) (pv 1) (pe_call (ok__law_next T) (hr.mono (by omega)) (by rfl) T.g__law_next T.F__law_next.kp T.b__law_next .nil pass0 (pa_cons (pv 0) (pa_cons (pe_callB (k_len K rfl) (by rfl) T.n_len (by decide +kernel) (pa_cons (pv 1) pa_nil)) pa_nil))) (fun _ _ => rfl)) pe_int (fun _ _ => rfl))) (pss_cons (ps_set (i := 6) sc__law_side.nd rfl (Or.inl rfl) (pe_ix (k_ix K rfl) (pe_lst (pa_cons (pe_call (ok__law_next T) (hr.mono (by omega)) (by rfl) T.g__law_next T.F__law_next.kp T.b__law_next .nil pass0 (pa_cons (pv 0) (pa_cons pe_int pa_nil))) (pa_cons (pe_call (ok__law_next T) (hr.mono (by omega)) (by rfl) T.g__law_next T.F__law_next.kp T.b__law_next .nil pass0 (pa_cons (pv 0) (pa_cons pe_int pa_nil))) (pa_cons (pe_op op_sub (pe_op op_pow pe_int pe_int) (pe_call (ok__law_next T) (hr.mono (by omega)) (by rfl) T.g__law_next T.F__law_next.kp T.b__law_next .nil pass0 (pa_cons (pv 0) (pa_cons (pe_op op_pow pe_int pe_int) pa_nil)))) pa_nil)))) (pe_call (ok__law_next T) (hr.mono (by omega)) (by rfl) T.g__law_next T.F__law_next.kp T.b__law_next .nil pass0 (pa_cons (pv 0) (pa_cons pe_int pa_nil))) (fun _ _ => rfl))) (pss_one (ps_ret (pe_ix (k_ix K rfl) (pe_lst (pa_cons (pe_tup (pa_cons pe_str pa_nil)) (pa_cons (pe_tup (pa_cons pe_str pa_nil)) (pa_cons (pe_tup (pa_cons pe_str (pa_cons (pv 5) pa_nil))) (pa_cons (pe_tup (pa_cons pe_str (pa_cons (pv 6) pa_nil))) pa_nil))))) (pe_op op_mod (pv 3) pe_int) (fun _ _ => rfl)))))))), ?_⟩
    dsimp only [cxOf, L2.start, List.map_cons, List.map_nil, List.length_cons, List.length_nil, List.replicate, List.cons_append, List.nil_append, Nat.reduceAdd, Nat.reduceSub]
    have hli0 := hli.at_
    have hxl : xs.length = ins.length := paired_len hli.each
    have hn : 0 < xs.length := by
      rw [hxl]
      exact List.length_pos_iff.mpr hne
    have hn4 := hio.1
    walk_at "rs"
    refine w_nx hd (by omega) (by omega) fun way H1 w0 w1 D1 => ?_
    walk_at "rs"
    have hli1 := D1.at off hli0
    have leafs : ∀ (g : Bool), g = false → True := fun _ _ => trivial
    by_cases c1 : 0 < k
    case neg =>
      obtain rfl : k = 0 := by omega
      refine w_iteE (by omega) ?_
      walk_at "rs"
      refine w_nx D1.dr (by rw [List.length_map]; omega) (by rw [List.length_map]; omega) fun r2 H2 r20 r21 D2 => ?_
      have D02 := D1.trans D2
      obtain ⟨xr, i, ex, hi, hxi⟩ := (hli.drew off D02).pick r20 r21
      have hxi' : SqT K H2 xr [.str i.nm, .int i.fg, .int i.ls] := hxi
      refine w_ixL (SqL.of (D02.at off hli0)) ex ?_
      walk_at "rs"
      refine w_nx D02.dr (by omega) (by omega) fun n1 H3 n10 n11 D3 => ?_
      walk_at "rs"
      refine w_nx D3.dr (by omega) (by omega) fun n2 H4 n20 n21 D4 => ?_
      walk_at "rs"
      refine w_nx D4.dr (by decide) (by decide) fun n3 H5 n30 n31 D5 => ?_
      have D05 := (D02.trans D3).trans (D4.trans D5)
      walk_at "rs"
      refine w_new (by decide) fun p1 H6 hp1 s6 h6 => ?_
      walk_at "rs"
      refine w_nx (D05.dr.same s6) (by omega) (by omega) fun r3 H7 r30 r31 D7 => ?_
      have o1 := off_new D05.dr hp1
      obtain ⟨num, en, hnum⟩ := pick3I r30 r31
      refine w_ixL (SqL.of (D7.at o1 h6)) en ?_
      have D07 := (D05.same s6).trans D7
      have hnb : 0 ≤ num ∧ num ≤ 1000000000 := by
        have e9 : (10 : Int) ^ (9 : Int).toNat = 1000000000 := by decide
        have e8 : (10 : Int) ^ (8 : Int).toNat = 100000000 := by decide
        rw [e9] at hnum
        rw [e8] at n31
        omega
      walk_at "rs"
      refine w_new (by decide) fun d1 H8 hd1 s8 e1 => ?_
      walk_at "rs"
      refine w_new (by decide) fun d2 H9 hd2 s9 e2 => ?_
      walk_at "rs"
      refine w_new (by decide) fun d3 H10 hd3 s10 e3 => ?_
      walk_at "rs"
      refine w_new (by decide) fun d4 H11 hd4 s11 e4 => ?_
      walk_at "rs"
      refine w_new (by decide) fun l1 H12 hl1 s12 f1 => ?_
      have A1 : AllS K ins (0 + 1) H12 [.ref d1, .ref d2, .ref d3, .ref d4] :=
        .cons .wheels rfl (.wheels (SqT.tn (((s9.trans s10).trans s11).trans s12).tn (SqT.of e1))) (.cons .counts rfl (.counts (SqT.tn ((s10.trans s11).trans s12).tn (SqT.of e2))) (.cons (.inp i.nm) (figsOf_some hi) (.inp (SqT.tn (s11.trans s12).tn (SqT.of e3)))
          (.cons (.num num) (by show (decide (0 ≤ num) && decide (num ≤ 1000000000)) = true; rw [decide_eq_true hnb.1, decide_eq_true hnb.2]; rfl) (.num (SqT.tn s12.tn (SqT.of e4))) .nil)))
      walk_at "rs"
      obtain ⟨d, p, ed, gd, hdp⟩ := A1.pick (r := way % 4) (Int.emod_nonneg _ (by decide)) (by have := Int.emod_lt_of_pos way (show (0 : Int) < 4 by decide); simp; omega)
      refine w_ixL (SqL.of f1) ed ?_
      exact q d p H12 gd hdp (D07.same (((s8.trans s9).trans (s10.trans s11)).trans s12))
    refine w_iteD (by omega) ?_
    walk_at "rs"
    by_cases c2 : 3 < way
    case neg =>
      refine w_iteE (by omega) ?_
      walk_at "rs"
      refine w_nx D1.dr (by rw [List.length_map]; omega) (by rw [List.length_map]; omega) fun r2 H2 r20 r21 D2 => ?_
      have D02 := D1.trans D2
      obtain ⟨xr, i, ex, hi, hxi⟩ := (hli.drew off D02).pick r20 r21
      have hxi' : SqT K H2 xr [.str i.nm, .int i.fg, .int i.ls] := hxi
      refine w_ixL (SqL.of (D02.at off hli0)) ex ?_
      walk_at "rs"
      refine w_nx D02.dr (by omega) (by omega) fun n1 H3 n10 n11 D3 => ?_
      walk_at "rs"
      refine w_nx D3.dr (by omega) (by omega) fun n2 H4 n20 n21 D4 => ?_
      walk_at "rs"
      refine w_nx D4.dr (by decide) (by decide) fun n3 H5 n30 n31 D5 => ?_
      have D05 := (D02.trans D3).trans (D4.trans D5)
      walk_at "rs"
      refine w_new (by decide) fun p1 H6 hp1 s6 h6 => ?_
      walk_at "rs"
      refine w_nx (D05.dr.same s6) (by omega) (by omega) fun r3 H7 r30 r31 D7 => ?_
      have o1 := off_new D05.dr hp1
      obtain ⟨num, en, hnum⟩ := pick3I r30 r31
      refine w_ixL (SqL.of (D7.at o1 h6)) en ?_
      have D07 := (D05.same s6).trans D7
      have hnb : 0 ≤ num ∧ num ≤ 1000000000 := by
        have e9 : (10 : Int) ^ (9 : Int).toNat = 1000000000 := by decide
        have e8 : (10 : Int) ^ (8 : Int).toNat = 100000000 := by decide
        rw [e9] at hnum
        rw [e8] at n31
        omega
      walk_at "rs"
      refine w_new (by decide) fun d1 H8 hd1 s8 e1 => ?_
      walk_at "rs"
      refine w_new (by decide) fun d2 H9 hd2 s9 e2 => ?_
      walk_at "rs"
      refine w_new (by decide) fun d3 H10 hd3 s10 e3 => ?_
      walk_at "rs"
      refine w_new (by decide) fun d4 H11 hd4 s11 e4 => ?_
      walk_at "rs"
      refine w_new (by decide) fun l1 H12 hl1 s12 f1 => ?_
      have A1 : AllS K ins (k + 1) H12 [.ref d1, .ref d2, .ref d3, .ref d4] :=
        .cons .wheels rfl (.wheels (SqT.tn (((s9.trans s10).trans s11).trans s12).tn (SqT.of e1))) (.cons .counts rfl (.counts (SqT.tn ((s10.trans s11).trans s12).tn (SqT.of e2))) (.cons (.inp i.nm) (figsOf_some hi) (.inp (SqT.tn (s11.trans s12).tn (SqT.of e3)))
          (.cons (.num num) (by show (decide (0 ≤ num) && decide (num ≤ 1000000000)) = true; rw [decide_eq_true hnb.1, decide_eq_true hnb.2]; rfl) (.num (SqT.tn s12.tn (SqT.of e4))) .nil)))
      walk_at "rs"
      obtain ⟨d, p, ed, gd, hdp⟩ := A1.pick (r := way % 4) (Int.emod_nonneg _ (by decide)) (by have := Int.emod_lt_of_pos way (show (0 : Int) < 4 by decide); simp; omega)
      refine w_ixL (SqL.of f1) ed ?_
      exact q d p H12 gd hdp (D07.same (((s8.trans s9).trans (s10.trans s11)).trans s12))
    refine w_iteD (by omega) ?_
    obtain ⟨j, rfl⟩ : ∃ j, k = j + 1 := ⟨k - 1, by omega⟩
    walk_at "rs"
    refine ⟨a, cl, li, xs, ins, s, j, by simp, by omega, by omega, D1.dr, hli.drew off D1, off, hio, hne, fun x1 p1 H2 g1 hp1 D2 => ?_⟩
    have D02 := D1.trans D2
    walk_at "rs"
    refine w_new (by decide) fun pl H3 hpl s3 h3 => ?_
    walk_at "rs"
    have hw : way % 2 = 0 ∨ way % 2 = 1 := by omega
    have fin : ∀ (wd : Str) (mk : Sid → Sid → Sid), (∀ (H : Hp) (z x y : Addr) (p q : Sid), SqT K H z [.str wd, .ref x, .ref y] → SidAt K H x p → SidAt K H y q → SidAt K H z (mk p q)) → (∀ p q, sidOk ins (mk p q) (j + 1 + 1) = (sidOk ins p (j + 1) && sidOk ins q (j + 1))) →
        ∀ (x2 : Addr) (p2 : Sid) (H4 : Hp), sidOk ins p2 (j + 1) = true → SidAt K H4 x2 p2 → Drew a cl H3 H4 → 3 ≤ sizeLine ∧ NewQ H4 (.tup [.str wd, .ref x1, .ref x2]) (fun p H5 => Q (.ref p) H5) := fun wd mk hmk hok x2 p2 H4 g2 hp2 D4 =>
      w_new (by decide) fun z H5 hz s5 h5 => q z (mk p1 p2) H5 (by rw [hok, g1, g2]; rfl) (hmk H5 z x1 x2 p1 p2 (SqT.of h5) (hp1.tn (s3.tn.trans (D4.tn.trans s5.tn))) (hp2.tn s5.tn)) (((D02.same s3).trans D4).same s5)
    rcases hw with hw | hw
    · refine w_ixL (SqL.of h3) (show atI [V.str "add", V.str "times"] (way % 2) = some (.str "add") by rw [hw]; rfl) ?_
      walk_at "rs"
      refine ⟨a, cl, li, xs, ins, s, j, by simp, by omega, by omega, D02.dr.same s3, (hli.drew off D02).same s3, off, hio, hne, fun x2 p2 H4 g2 hp2 D4 => ?_⟩
      walk_at "rs"
      exact fin "add" .add (fun H z x y p q h hx hy => .add h hx hy) (fun p q => rfl) x2 p2 H4 g2 hp2 D4
    · refine w_ixL (SqL.of h3) (show atI [V.str "add", V.str "times"] (way % 2) = some (.str "times") by rw [hw]; rfl) ?_
      walk_at "rs"
      refine ⟨a, cl, li, xs, ins, s, j, by simp, by omega, by omega, D02.dr.same s3, (hli.drew off D02).same s3, off, hio, hne, fun x2 p2 H4 g2 hp2 D4 => ?_⟩
      walk_at "rs"
      exact fin "times" .times (fun H z x y p q h hx hy => .times h hx hy) (fun p q => rfl) x2 p2 H4 g2 hp2 D4
theorem ok__law_side_R (T : Txt K mg base) : ∀ n : Nat, FnOk P wd K mg base CX0 (2 + n) T.f__law_side T.fd__law_side ["_law_h", "_law_book_inputs", "_law_deep"] (spSideL K n)
  | 0 => ok__law_side_0 T
  | n + 1 => ok__law_side_S T (ok__law_side_R T n)
theorem ok__law_side (T : Txt K mg base) : FnOk P wd K mg base CX0 4 T.f__law_side T.fd__law_side ["_law_h", "_law_book_inputs", "_law_deep"] (spSideL K 2) := ok__law_side_R T 2

theorem ok__law_book (T : Txt K mg base) : FnOk P wd K mg base CX0 5 T.f__law_book T.fd__law_book ["_law_h", "_law_most"] (spBookZ K) := by
  refine T.F__law_book.ok sc__law_book (fun vs H Q E h => ?_) (fun cdv A outer s H vs Q E hr h => ?_)
  · obtain ⟨a, cl, most, rfl, hd, hm1, hm6, q⟩ := h
    rfl
  · have hu := hu_of hr
    obtain ⟨a, cl, most, rfl, hd, hm1, hm6, q⟩ := h
    refine ⟨_, (pss_cons (ps_set (i := 2) sc__law_book.nd rfl (Or.inl rfl) (pe_call (ok__law_inputs T) (hr.mono (by decide)) (by rfl) T.g__law_inputs T.F__law_inputs.kp T.b__law_inputs .nil pass0 (pa_cons (pv 0) (pa_cons (pv 1) pa_nil)))) (pss_cons (ps_set (i := 3) sc__law_book.nd rfl (Or.inl rfl) (pe_slice (k_sl K rfl) (pe_lst (pa_cons (pe_tup (pa_cons pe_str (pa_cons (pe_ix (k_ix K rfl) (pe_ix (k_ix K rfl) (pv 2) pe_int (fun _ _ => rfl)) pe_int (fun _ _ => rfl)) pa_nil))) (pa_cons (pe_tup (pa_cons pe_str (pa_cons pe_int (pa_cons (pe_call (ok__law_next T) (hr.mono (by decide)) (by rfl) T.g__law_next T.F__law_next.kp T.b__law_next .nil pass0 (pa_cons (pv 0) (pa_cons pe_int pa_nil))) pa_nil)))) pa_nil))) po_none (po_some (pe_call (ok__law_next T) (hr.mono (by decide)) (by rfl) T.g__law_next T.F__law_next.kp T.b__law_next .nil pass0 (pa_cons (pv 0) (pa_cons pe_int pa_nil)))))) (pss_cons (ps_set (i := 4) sc__law_book.nd rfl (Or.inl rfl) (pe_call (ok__law_next T) (hr.mono (by decide)) (by rfl) T.g__law_next T.F__law_next.kp T.b__law_next .nil pass0 (pa_cons (pv 0) (pa_cons pe_int pa_nil)))) (pss_cons (ps_if (pt_cmpR (k_eq K rfl hr.units) (pv 4) pe_int (nomark _)) (pss_one (ps_set (i := 3) sc__law_book.nd rfl (Or.inl rfl) (pe_call (ok__law_long T) (hr.mono (by decide)) (by rfl) T.g__law_long T.F__law_long.kp T.b__law_long .nil pass0 (pa_cons (pv 0) (pa_cons (pv 2) pa_nil))))) pss_nil) (pss_cons (ps_if (pt_cmpR (k_in K rfl) (pv 4) (pe_lst (pa_cons pe_int (pa_cons pe_int pa_nil))) rfl) (pss_one (ps_set (i := 3) sc__law_book.nd rfl (Or.inl rfl) (pe_op (k_add K rfl) (pv 3) (pe_slice (k_sl K rfl) (pe_lst (pa_cons (pe_tup (pa_cons pe_str (pa_cons pe_str pa_nil))) (pa_cons (pe_tup (pa_cons pe_str (pa_cons (pe_ix (k_ix K rfl) (pe_ix (k_ix K rfl) (pv 2) (pe_un un_neg pe_int) (fun _ _ => rfl)) pe_int (fun _ _ => rfl)) pa_nil))) (pa_cons (pe_tup (pa_cons pe_str (pa_cons pe_int pa_nil))) pa_nil)))) (po_some (pe_call (ok__law_next T) (hr.mono (by decide)) (by rfl) T.g__law_next T.F__law_next.kp T.b__law_next .nil pass0 (pa_cons (pv 0) (pa_cons pe_int pa_nil)))) po_none)))) pss_nil) (pss_cons (ps_if (pt_cmpR (k_eq K rfl hr.units) (pv 4) pe_int (nomark _)) (pss_one (ps_set (i := 3) sc__law_book.nd rfl (Or.inl rfl) (pe_op (k_add K rfl) (pv 3) (pe_lst (pa_cons (pe_tup (pa_cons pe_str pa_nil)) (pa_cons (pe_tup (pa_cons pe_str (pa_cons pe_int pa_nil))) pa_nil)))))) pss_nil) (pss_cons (ps_for PassesOwn.never rfl (pi_range1 rfl T.n_range (pa_cons (pe_call (ok__law_next T) (hr.mono (by decide)) (by rfl) T.g__law_next T.F__law_next.kp T.b__law_next .nil pass0 (pa_cons (pv 0) (pa_cons pe_int pa_nil))) pa_nil)) (pg_name (i := 5) sc__law_book.nd rfl (Or.inl rfl)) (pss_cons (ps_set (i := 6) sc__law_book.nd rfl (Or.inl rfl) (pe_call (ok__law_next T) (hr.mono (by decide)) (by rfl) T.g__law_next T.F__law_next.kp T.b__law_next .nil pass0 (pa_cons (pv 0) (pa_cons (pe_op (k_add K rfl) (pe_callB (k_len K rfl) (by rfl) T.n_len (by decide +kernel) (pa_cons (pv 3) pa_nil)) pe_int) pa_nil)))) (pss_one (ps_set (i := 3) sc__law_book.nd rfl (Or.inl rfl) (pe_op (k_add K rfl) (pe_op (k_add K rfl) (pe_slice (k_sl K rfl) (pv 3) po_none (po_some (pv 6))) (pe_lst (pa_cons (pe_call (ok__law_deed T) (hr.mono (by decide)) (by rfl) T.g__law_deed T.F__law_deed.kp T.b__law_deed .nil pass0 (pa_cons (pv 0) (pa_cons (pv 2) pa_nil))) pa_nil))) (pe_slice (k_sl K rfl) (pv 3) (po_some (pv 6)) po_none)))))) (pss_cons (ps_set (i := 7) sc__law_book.nd rfl (Or.inl rfl) (pe_lst pa_nil)) (pss_cons (ps_for PassesOwn.never rfl (pi_range1 rfl T.n_range (pa_cons (pe_call (ok__law_next T) (hr.mono (by decide)) (by rfl) T.g__law_next T.F__law_next.kp T.b__law_next .nil pass0 (pa_cons (pv 0) (pa_cons (pe_ix (k_ix K rfl) (pe_lst (pa_cons pe_int (pa_cons pe_int (pa_cons pe_int pa_nil)))) (pe_call (ok__law_next T) (hr.mono (by decide)) (by rfl) T.g__law_next T.F__law_next.kp T.b__law_next .nil pass0 (pa_cons (pv 0) (pa_cons pe_int pa_nil))) (fun _ _ => rfl)) pa_nil))) pa_nil)) (pg_name (i := 5) sc__law_book.nd rfl (Or.inl rfl)) (pss_cons (ps_set (i := 8) sc__law_book.nd rfl (Or.inl rfl) (pe_call (ok__law_likely T) (hr.mono (by decide)) (by rfl) T.g__law_likely T.F__law_likely.kp T.b__law_likely .nil pass0 (pa_cons (pv 0) (pa_cons (pv 2) pa_nil)))) (pss_cons (ps_if (pt_cmpR (k_eq K rfl hr.units) (pe_call (ok__law_next T) (hr.mono (by decide)) (by rfl) T.g__law_next T.F__law_next.kp T.b__law_next .nil pass0 (pa_cons (pv 0) (pa_cons pe_int pa_nil))) pe_int (nomark _)) (pss_cons (ps_set (i := 9) sc__law_book.nd rfl (Or.inl rfl) (pe_tup (pa_cons pe_str (pa_cons (pe_tup (pa_cons pe_str (pa_cons (pe_call (ok__law_side T) (hr.mono (by decide)) (by rfl) T.g__law_side T.F__law_side.kp T.b__law_side .nil pass0 (pa_cons (pv 0) (pa_cons (pv 2) (pa_cons pe_int pa_nil)))) (pa_cons (pe_call (ok__law_side T) (hr.mono (by decide)) (by rfl) T.g__law_side T.F__law_side.kp T.b__law_side .nil pass0 (pa_cons (pv 0) (pa_cons (pv 2) (pa_cons pe_int pa_nil)))) pa_nil)))) (pa_cons (pe_call (ok__law_side T) (hr.mono (by decide)) (by rfl) T.g__law_side T.F__law_side.kp T.b__law_side .nil pass0 (pa_cons (pv 0) (pa_cons (pv 2) (pa_cons pe_int pa_nil)))) pa_nil))))) (pss_one (ps_set (i := 8) sc__law_book.nd rfl (Or.inl rfl) (pe_tup (pa_cons (pe_ix (k_ix K rfl) (pe_lst (pa_cons pe_str (pa_cons pe_str pa_nil))) (pe_call (ok__law_next T) (hr.mono (by decide)) (by rfl) T.g__law_next T.F__law_next.kp T.b__law_next .nil pass0 (pa_cons (pv 0) (pa_cons pe_int pa_nil))) (fun _ _ => rfl)) (pa_cons (pe_call (ok__law_side T) (hr.mono (by decide)) (by rfl) T.g__law_side T.F__law_side.kp T.b__law_side .nil pass0 (pa_cons (pv 0) (pa_cons (pv 2) (pa_cons (pe_op (k_add K rfl) pe_int (pe_callTy k_int1 (by rfl) T.n_int (by decide +kernel) (pa_cons (pe_cmpR (op_lt) (pv 1) pe_int (nomark _)) pa_nil))) pa_nil)))) (pa_cons (pv 9) pa_nil))))))) pss_nil) (pss_one (ps_expr (pe_bm PySem.F.plainAttrs_list PySem.F.slot_list_append PySem.F.type_list_append mt_append (pv 7) (pa_cons (pv 8) pa_nil))))))) (pss_one (ps_ret (pe_tup (pa_cons (pe_callTy (k_tuple K rfl) (by rfl) T.n_tuple (by decide +kernel) (pa_cons (pv 2) pa_nil)) (pa_cons (pe_callTy (k_tuple K rfl) (by rfl) T.n_tuple (by decide +kernel) (pa_cons (pv 3) pa_nil)) (pa_cons (pe_callTy (k_tuple K rfl) (by rfl) T.n_tuple (by decide +kernel) (pa_cons (pv 7) pa_nil)) pa_nil))))))))))))))), ?_⟩
    dsimp only [cxOf, L2.start, List.map_cons, List.map_nil, List.length_cons, List.length_nil, List.replicate, List.cons_append, List.nil_append, Nat.reduceAdd, Nat.reduceSub]
    walk_at "rs"
    refine ⟨a, cl, most, rfl, hd, hm1, hm6, fun li xs ins H1 hli0' hio hne hfar hli D1 => ?_⟩
    have hli1 := hli.at_
    have off : Off a cl li := off_new hd hli0'
    have hxl : xs.length = ins.length := paired_len hli.each
    have hn : 0 < xs.length := by
      rw [hxl]
      exact List.length_pos_iff.mpr hne
    have hn4 := hio.1
    obtain ⟨x0, i0, ex0, hi0, hx0⟩ := hli.pick (r := 0) (by omega) (by rw [List.length_map]; omega)
    have hx0' : SqT K H1 x0 [.str i0.nm, .int i0.fg, .int i0.ls] := hx0
    walk_at "rs"
    refine w_ixL (SqL.of hli1) ex0 ?_
    walk_at "rs"
    refine w_new (by decide) fun t1 H2 ht1 s2 e1 => ?_
    walk_at "rs"
    refine w_nx (D1.dr.same s2) (by omega) (by omega) fun y H3 y0 y1 D3 => ?_
    have D13 := (D1.same s2).trans D3
    walk_at "rs"
    refine w_new (by decide) fun t2 H4 ht2 s4 e2 => ?_
    walk_at "rs"
    refine w_new (by decide) fun l1 H5 hl1 s5 f1 => ?_
    walk_at "rs"
    have s45 := s4.trans s5
    refine w_nx (D13.dr.same s45) (by omega) (by omega) fun m1 H6 m10 m11 D6 => ?_
    have o1 := off_new (D13.dr.same s4) hl1
    walk_at "rs"
    refine w_slL (SqL.of (D6.at o1 f1)) fun l2 H7 hl2 s7 f2 => ?_
    have D16 := (D13.same s45).trans D6
    have D17 := D16.same s7
    have A1 : AllD K ins H7 [.ref t1, .ref t2] := .cons (.load i0.nm) (ok_load hi0) (SqT.tn (D3.tn.trans (s45.tn.trans (D6.tn.trans s7.tn))) (SqT.of e1)) (.cons (.turn 1 y) (ok_turn (.inl rfl) (by omega)) (SqT.tn (s5.tn.trans (D6.tn.trans s7.tn)) (SqT.of e2)) .nil)
    rw [cut_take m10] at f2
    have L7 : DeesL K a cl ins H H7 l2 (List.take m1.toNat [.ref t1, .ref t2]) := ⟨f2, off_new D16.dr hl2, D16.free hl2, A1.sub fun _ h => List.mem_of_mem_take h⟩
    have len7 : (List.take m1.toNat [V.ref t1, V.ref t2]).length ≤ 2 := by rw [List.length_take]; simp; omega
    generalize List.take m1.toNat [V.ref t1, V.ref t2] = ds1 at L7 len7
    walk_at "rs"
    refine w_nx D17.dr (by omega) (by omega) fun way H8 w0 w1 D8 => ?_
    have D18 := D17.trans D8
    have L8 := L7.drew D8
    walk_at "r1"
    have D_18 : Drew a cl H1 H8 := ((((Drew.refl D1.dr).same s2).trans D3).same s45).trans ((D6.same s7).trans D8)
    refine w_join (fun σ' H' => ∃ dl ds, σ' = [some (.ref a), some (.int most), some (.ref li), some (.ref dl), some (.int way), none, none, none, none, none] ∧ Drew a cl H1 H' ∧ DeesL K a cl ins H H' dl ds ∧ (way = 0 ∧ ds.length ≤ 34 ∨ way ≠ 0 ∧ ds.length ≤ 2)) (fun N hN => ?_) ?_
    · walk_at "rs"
      refine w_ite (fun g1 => ?_) (fun g1 => ?_)
      · walk_at "rs"
        refine ⟨a, cl, li, xs, ins, most, rfl, D18.dr, hli.drew off D_18, off, hio, hne, fun dl ds H9 L9 hl9 D9 => ?_⟩
        exact hN _ _ ⟨dl, ds, rfl, D_18.trans D9, ⟨L9.at_, L9.off, D18.free L9.new, L9.all⟩, .inl ⟨g1, hl9⟩⟩
      · walk_at "rs"
        exact hN _ _ ⟨l2, ds1, rfl, D_18, L8, .inr ⟨g1, len7⟩⟩
    rintro σ9 H9 ⟨dl9, ds9, rfl, D_19, L9, b9⟩
    walk_at "r1"
    refine w_join (fun σ' H' => ∃ dl ds, σ' = [some (.ref a), some (.int most), some (.ref li), some (.ref dl), some (.int way), none, none, none, none, none] ∧ Drew a cl H1 H' ∧ DeesL K a cl ins H H' dl ds ∧ (ds.length ≤ 34 ∧ (way = 0 ∨ ds.length ≤ 5))) (fun N hN => ?_) ?_
    · walk_at "rs"
      refine w_new (by decide) fun p1 H10 hp1 s10 h10 => ?_
      walk_at "rs"
      refine w_inL (ns := [1, 2]) (SqL.of h10) ?_
      walk_at "rs"
      have D_110 := D_19.same s10
      have L10 := L9.same s10
      refine w_ite (fun g2 => ?_) (fun g2 => ?_)
      · have hw12 : way = 1 ∨ way = 2 := by simpa using g2
        obtain ⟨x9, i9, ex9, hi9, hx9⟩ := (hli.drew off D_110).last hn
        have hx9' : SqT K H10 x9 [.str i9.nm, .int i9.fg, .int i9.ls] := hx9
        have hli10 := D_110.at off hli1
        walk_at "rs"
        refine w_new (by decide) fun u1 H11 hu1 s11 k1 => ?_
        walk_at "rs"
        have hli11 := s11 _ _ hli10
        have hx11 : SqT K H11 x9 [.str i9.nm, .int i9.fg, .int i9.ls] := SqT.tn s11.tn hx9
        refine w_ixL (SqL.of hli11) ex9 ?_
        walk_at "rs"
        refine w_new (by decide) fun u2 H12 hu2 s12 k2 => ?_
        walk_at "rs"
        refine w_new (by decide) fun u3 H13 hu3 s13 k3 => ?_
        walk_at "rs"
        refine w_new (by decide) fun l3 H14 hl3 s14 f3 => ?_
        walk_at "rs"
        have s1114 := (s11.trans s12).trans (s13.trans s14)
        refine w_nx (D_110.dr.same s1114) (by omega) (by omega) fun m2 H15 m20 m21 D15 => ?_
        have o3 := off_new (D_110.dr.same ((s11.trans s12).trans s13)) hl3
        walk_at "rs"
        refine w_slL (SqL.of (D15.at o3 f3)) fun l4 H16 hl4 s16 f4 => ?_
        rw [cut_drop m20] at f4
        have B1 : AllD K ins H16 [.ref u1, .ref u2, .ref u3] := by
          have t14 : Tn H14 H16 := D15.tn.trans s16.tn
          exact .cons (.wipe true) rfl (SqT.tn (((s12.trans s13).trans s14).tn.trans t14) (SqT.of k1)) (.cons (.load i9.nm) (ok_load hi9) (SqT.tn ((s13.trans s14).tn.trans t14) (SqT.of k2)) (.cons (.bell 1) (ok_bell (by omega)) (SqT.tn (s14.tn.trans t14) (SqT.of k3)) .nil))
        have len4 : (List.drop m2.toNat [V.ref u1, V.ref u2, V.ref u3]).length ≤ 3 := by rw [List.length_drop]; simp
        have B2 := B1.sub (ys := List.drop m2.toNat [.ref u1, .ref u2, .ref u3]) fun _ h => List.mem_of_mem_drop h
        generalize List.drop m2.toNat [V.ref u1, V.ref u2, V.ref u3] = ds4 at f4 len4 B2
        have L16 := ((L10.same s1114).drew D15).same s16
        have D_116 := ((D_110.same s1114).trans D15).same s16
        walk_at "rs"
        refine w_catL L16.at_ f4 (by rcases b9 with ⟨z, _⟩ | ⟨_, z⟩ <;> omega) fun l5 H17 hl5 s17 f5 => ?_
        refine hN _ _ ⟨l5, _, rfl, D_116.same s17, ⟨f5, off_new D_116.dr hl5, (D1.trans D_116).free hl5, (L16.all.tn s17.tn).app (B2.tn s17.tn)⟩, ?_⟩
        rw [List.length_append]
        rcases b9 with ⟨z, _⟩ | ⟨_, z⟩ <;> omega
      · walk_at "rs"
        refine hN _ _ ⟨dl9, ds9, rfl, D_110, L10, ?_⟩
        rcases b9 with ⟨z, z2⟩ | ⟨_, z⟩ <;> omega
    rintro σ11 H11 ⟨dl11, ds11, rfl, D_111, L11, b11⟩
    walk_at "r1"
    refine w_join (fun σ' H' => ∃ dl ds, σ' = [some (.ref a), some (.int most), some (.ref li), some (.ref dl), some (.int way), none, none, none, none, none] ∧ Drew a cl H1 H' ∧ DeesL K a cl ins H H' dl ds ∧ ds.length ≤ 34) (fun N hN => ?_) ?_
    · walk_at "rs"
      refine w_ite (fun g3 => ?_) (fun g3 => ?_)
      · walk_at "rs"
        refine w_new (by decide) fun u1 H12 hu1 s12 k1 => ?_
        walk_at "rs"
        refine w_new (by decide) fun u2 H13 hu2 s13 k2 => ?_
        walk_at "rs"
        refine w_new (by decide) fun l3 H14 hl3 s14 f3 => ?_
        walk_at "rs"
        have s1214 := (s12.trans s13).trans s14
        have L14 := L11.same s1214
        refine w_catL L14.at_ f3 (by simp; omega) fun l4 H15 hl4 s15 f4 => ?_
        have D_114 := D_111.same s1214
        refine hN _ _ ⟨l4, _, rfl, D_114.same s15, ⟨f4, off_new D_114.dr hl4, (D1.trans D_114).free hl4, (L14.all.tn s15.tn).app (.cons .one rfl (SqT.tn ((s13.trans s14).trans s15).tn (SqT.of k1)) (.cons (.odds 1) (ok_odds (by omega)) (SqT.tn (s14.trans s15).tn (SqT.of k2)) .nil))⟩, ?_⟩
        simp
        omega
      · walk_at "rs"
        exact hN _ _ ⟨dl11, ds11, rfl, D_111, L11, by omega⟩
    rintro σ12 H12 ⟨dl12, ds12, rfl, D_112, L12, b12⟩
    walk_at "r1"
    refine w_join (fun σ' H' => ∃ dl ds x5 x6, σ' = [some (.ref a), some (.int most), some (.ref li), some (.ref dl), some (.int way), x5, x6, none, none, none] ∧ Drew a cl H1 H' ∧ DeesL K a cl ins H H' dl ds ∧ ds.length ≤ 38) (fun N hN => ?_) ?_
    · walk_at "rs"
      refine w_nx D_112.dr (by omega) (by omega) fun cnt H13 c0 c1 D13' => ?_
      walk_at "rs"
      refine w_rngI (by omega) ?_
      refine lp_range0 (fun i σ H' => ∃ dl ds x5 x6, σ = [some (.ref a), some (.int most), some (.ref li), some (.ref dl), some (.int way), x5, x6, none, none, none] ∧ Drew a cl H1 H' ∧ DeesL K a cl ins H H' dl ds ∧ ds.length ≤ 34 + i)
        ⟨dl12, ds12, none, none, rfl, D_112.trans D13', L12.drew D13', by omega⟩ ?_ ?_
      · rintro i σ H14 hi ⟨dl, ds, x5, x6, rfl, D_114, L14, b14⟩
        have l14 := L14.at_
        walk_at "rs"
        refine w_nx D_114.dr (by omega) (by omega) fun at_ H15 at0 at1 D15 => ?_
        have L15 := L14.drew D15
        walk_at "rs"
        refine w_slL (SqL.of L15.at_) fun l2 H16 hl2 s16 f2 => ?_
        walk_at "rs"
        have D_116 := (D_114.trans D15).same s16
        refine ⟨a, cl, li, xs, ins, most, rfl, D_116.dr, hli.drew off D_116, off, hio, hm6, hne, fun d dd H17 gd hdd D17 => ?_⟩
        have o2 := off_new (D_114.trans D15).dr hl2
        have D_117 := D_116.trans D17
        have L17 := (L15.same s16).drew D17
        have f2b := D17.at o2 f2
        walk_at "rs"
        refine w_new (by decide) fun l3 H18 hl3 s18 f3 => ?_
        walk_at "rs"
        rw [cut_take at0] at f2b
        refine w_catL (s18 _ _ f2b) f3 (by simp; omega) fun l4 H19 hl4 s19 f4 => ?_
        walk_at "rs"
        have L19 := (L17.same s18).same s19
        refine w_slL (SqL.of L19.at_) fun l5 H20 hl5 s20 f5 => ?_
        rw [cut_drop at0] at f5
        walk_at "rs"
        refine w_catL (s20 _ _ f4) f5 (by simp; omega) fun l6 H21 hl6 s21 f6 => ?_
        have D_120 := D_117.same ((s18.trans s19).trans s20)
        have L21 := (L19.same s20).same s21
        refine ⟨l6, _, _, _, rfl, D_120.same s21, ⟨f6, off_new D_120.dr hl6, (D1.trans D_120).free hl6, ?_⟩, ?_⟩
        · exact ((L21.all.sub fun _ h => List.mem_of_mem_take h).app (.cons dd gd (hdd.tn ((s18.trans s19).trans (s20.trans s21)).tn) .nil)).app (L21.all.sub fun _ h => List.mem_of_mem_drop h)
        · simp
          omega
      · rintro σ H14 ⟨dl, ds, x5, x6, rfl, D_114, L14, b14⟩
        exact hN _ _ ⟨dl, ds, x5, x6, rfl, D_114, L14, by omega⟩
    rintro σ13 H13 ⟨dl, ds, x5, x6, rfl, D_113, L13, b13⟩
    walk_at "rs"
    refine w_new (Nat.zero_le _) fun lc H14 hlc s14 hc14 => ?_
    have D_114 := D_113.same s14
    have L14 := L13.same s14
    have oc := off_new D_113.dr hlc
    walk_at "rs"
    refine w_new (by decide) fun p3 H15 hp3 s15 h15 => ?_
    walk_at "rs"
    refine w_nx (D_114.dr.same s15) (by omega) (by omega) fun r3 H16 r30 r31 D16' => ?_
    have o3 := off_new D_114.dr hp3
    obtain ⟨mc, emc, hmc⟩ := pick3I (x := 4) (y := 4) (z := 8) r30 r31
    refine w_ixL (SqL.of (D16'.at o3 h15)) emc ?_
    walk_at "rs"
    refine w_nx D16'.dr (by omega) (by omega) fun nc H17 nc0 nc1 D17' => ?_
    have E17 : Drew a cl H13 H17 := ((((Drew.refl D_113.dr).same s14).same s15).trans D16').trans D17'
    walk_at "rs"
    refine w_rngI (by omega) ?_
    refine lp_range0 (fun i σ H' => ∃ (cs : List V) (x5 x6 x8 x9 : Option V), σ = [some (.ref a), some (.int most), some (.ref li), some (.ref dl), some (.int way), x5, x6, some (.ref lc), x8, x9] ∧ Drew a cl H13 H' ∧ H' lc = some (.lst cs) ∧ AllC K ins H' cs ∧ cs.length = i)
      ⟨[], _, _, none, none, rfl, E17, (D16'.trans D17').at oc (s15 _ _ hc14), .nil, rfl⟩ ?_ ?_
    · rintro i σ H18 hi ⟨cs, x5, x6, x8, x9, rfl, E18, hcs, hac, hcl⟩
      have D_118 := D_113.trans E18
      walk_at "rs"
      refine ⟨a, cl, li, xs, ins, most, rfl, D_118.dr, hli.drew off D_118, off, hio, hne, fun d c H19 gc hdc D19' => ?_⟩
      have E19 := E18.trans D19'
      walk_at "r1"
      refine w_join (fun σ' H' => ∃ d c x9, σ' = [some (.ref a), some (.int most), some (.ref li), some (.ref dl), some (.int way), some (.int (i : Nat)), x6, some (.ref lc), some (.ref d), x9] ∧ Drew a cl H13 H' ∧ H' lc = some (.lst cs) ∧ AllC K ins H' cs ∧ claOk ins c = true ∧ ClaAt K H' d c) (fun N hN => ?_) ?_
      · walk_at "rs"
        refine w_nx E19.dr (by omega) (by omega) fun r4 H20 r40 r41 D20 => ?_
        have E20 := E19.trans D20
        walk_at "rs"
        refine w_ite (fun g4 => ?_) (fun g4 => ?_)
        · have side : ∀ {H : Hp}, Drew a cl H13 H → ∀ (k : Nat), k ≤ 2 → ∀ {Q : VK} {E : XK}, (∀ d p H', sidOk ins p (k + 1) = true → SidAt K H' d p → Drew a cl H H' → Q (.ref d) H') → spSideL K 2 [.ref a, .ref li, .int (k : Nat)] H Q E := fun {H} e k hk {Q E} q => ⟨a, cl, li, xs, ins, most, k, rfl, hk, by omega, e.dr, hli.drew off (D_113.trans e), off, hio, hne, q⟩
          walk_at "rs"
          refine side E20 1 (by omega) fun z1 q1 H21 g1 hz1 D21 => ?_
          have E21 := E20.trans D21
          walk_at "rs"
          refine side E21 0 (by omega) fun z2 q2 H22 g2 hz2 D22 => ?_
          have E22 := E21.trans D22
          walk_at "rs"
          refine w_new (by decide) fun z3 H23 hz3' s23 k3 => ?_
          have E23 := E22.same s23
          walk_at "rs"
          refine side E23 0 (by omega) fun z4 q4 H24 g4' hz4 D24 => ?_
          have E24 := E23.trans D24
          walk_at "rs"
          refine w_new (by decide) fun z5 H25 hz5' s25 k5 => ?_
          have E25 := E24.same s25
          have hdeep : SidAt K H25 z5 (.add (.add q1 q2) q4) := .add (SqT.of k5) (.add (SqT.tn (D24.tn.trans s25.tn) (SqT.of k3)) (hz1.tn (D22.tn.trans (s23.tn.trans (D24.tn.trans s25.tn)))) (hz2.tn (s23.tn.trans (D24.tn.trans s25.tn)))) (hz4.tn s25.tn)
          have gdeep : sidOk ins (.add (.add q1 q2) q4) 4 = true := by
            show ((sidOk ins q1 2 && sidOk ins q2 2) && sidOk ins q4 3) = true
            rw [g1, sidOk_mono g2, sidOk_mono (sidOk_mono g4')]
            rfl
          walk_at "rs"
          refine w_new (by decide) fun p6 H26 hp6 s26 k6 => ?_
          have E26 := E25.same s26
          walk_at "rs"
          refine w_nx E26.dr (by omega) (by omega) fun r6 H27 r60 r61 D27 => ?_
          have E27 := E26.trans D27
          have o6 := off_new E25.dr hp6
          obtain ⟨less, el⟩ : ∃ less, atI [V.str "same", V.str "less"] r6 = some (.str (claW less)) := by
            rcases (show r6 = 0 ∨ r6 = 1 by omega) with rfl | rfl
            · exact ⟨false, rfl⟩
            · exact ⟨true, rfl⟩
          refine w_ixL (SqL.of (D27.at o6 k6)) el ?_
          walk_at "rs"
          refine w_intB ?_
          walk_at "rs"
          have fin : ∀ (z6 : Addr) (q6 : Sid) (H28 : Hp), sidOk ins q6 4 = true → SidAt K H28 z6 q6 → Drew a cl H27 H28 → 3 ≤ sizeLine ∧ NewQ H28 (.tup [.str (claW less), .ref z6, .ref z5]) (fun p H2 => gName 8 (.ref p) [some (.ref a), some (.int most), some (.ref li), some (.ref dl), some (.int way), some (.int (i : Nat)), x6, some (.ref lc), some (.ref d), some (.ref z5)] H2 N) := fun z6 q6 H28 g6 hz6 D28 => by
            refine w_new (by decide) fun z7 H29 hz7' s29 k7 => ?_
            have E29 := (E27.trans D28).same s29
            have t19 : Tn H19 H29 := D20.tn.trans (D21.tn.trans (D22.tn.trans (s23.tn.trans (D24.tn.trans (s25.tn.trans (s26.tn.trans (D27.tn.trans (D28.tn.trans s29.tn))))))))
            have dr19 : Drew a cl H18 H29 := by
              have v1 := (D19'.trans D20).trans D21
              have v2 := (v1.trans D22).same s23
              have v3 := (v2.trans D24).same s25
              have v4 := (v3.same s26).trans D27
              exact (v4.trans D28).same s29
            have gcl : claOk ins ⟨less, q6, .add (.add q1 q2) q4⟩ = true := by
              unfold claOk
              rw [g6, gdeep]
              rfl
            exact hN _ _ ⟨z7, ⟨less, q6, .add (.add q1 q2) q4⟩, _, rfl, E29, dr19.at oc hcs, hac.tn dr19.tn, gcl, z6, z5, SqT.of k7, hz6.tn s29.tn, hdeep.tn (s26.tn.trans (D27.tn.trans (D28.tn.trans s29.tn)))⟩
          by_cases gm : most < 3
          · rw [decide_eq_true gm]
            refine side E27 2 (by omega) fun z6 q6 H28 g6 hz6 D28 => ?_
            walk_at "rs"
            exact fin z6 q6 H28 (sidOk_mono g6) hz6 D28
          · rw [decide_eq_false gm]
            refine side E27 1 (by omega) fun z6 q6 H28 g6 hz6 D28 => ?_
            walk_at "rs"
            exact fin z6 q6 H28 (sidOk_mono (sidOk_mono g6)) hz6 D28
        · walk_at "rs"
          have dr := D19'.trans D20
          exact hN _ _ ⟨d, c, _, rfl, E20, dr.at oc hcs, hac.tn dr.tn, gc, hdc.tn D20.tn⟩
      rintro σ30 H30 ⟨d, c, x9, rfl, E30, hcs30, hac30, gc, hdc⟩
      walk_at "rs"
      refine w_append hcs30 (by omega) fun H31 e31 h31 => ?_
      have t31 : Tn H30 H31 := tn_mut e31 hcs30
      refine ⟨_, _, _, _, _, rfl, e31 ▸ E30.mut D_113.dr hlc hcs30, h31, ?_, by simp; omega⟩
      intro x hx
      rcases List.mem_append.mp hx with z | z
      · exact (hac30.tn t31) x z
      · rw [List.mem_singleton.mp z]
        exact ⟨d, c, rfl, gc, hdc.tn t31⟩
    · rintro σ H18 ⟨cs, x5, x6, x8, x9, rfl, E18, hcs, hac, hcl⟩
      have D_118 := D_113.trans E18
      have hli18 := hli.drew off D_118
      have L18 := L13.drew E18
      walk_at "rs"
      refine w_tupL (SqL.of hli18.at_) fun tx H19 htx s19 k1 => ?_
      walk_at "rs"
      refine w_tupL (SqL.of (s19 _ _ L18.at_)) fun ty H20 hty s20 k2 => ?_
      walk_at "rs"
      refine w_tupL (SqL.of (s20 _ _ (s19 _ _ hcs))) fun tz H21 htz s21 k3 => ?_
      walk_at "rs"
      refine w_new (by decide) fun bk H22 hbk s22 k4 => ?_
      have s1922 := ((s19.trans s20).trans s21).trans s22
      obtain ⟨ads, dds, rfl, pd, od⟩ := (L18.all.tn s1922.tn).data
      obtain ⟨zads, cls, rfl, pc, oc2⟩ := (hac.tn s1922.tn).data
      refine q bk ⟨ins, dds, cls⟩ H22 ⟨tx, ty, tz, xs, ads, zads, SqT.of k4, SqT.tn ((s20.trans s21).trans s22).tn (SqT.of k1), paired_imp (fun _ _ h => InpAt.tn h s1922.tn) hli18.each, SqT.tn (s21.trans s22).tn (SqT.of k2), pd, SqT.tn s22.tn (SqT.of k3), pc⟩ ⟨hio, ?_, od, ?_, oc2⟩ hne hfar ?_ ?_ ((D1.trans D_118).same s1922)
      · have := paired_len pd
        rw [List.length_map] at b13
        show dds.length ≤ 40
        omega
      · have := paired_len pc
        rw [List.length_map] at hcl
        show cls.length ≤ 8
        omega
      · have := paired_len pd
        rw [List.length_map] at b13
        show dds.length ≤ 38
        omega
      · have := paired_len pc
        rw [List.length_map] at hcl
        show cls.length ≤ 7
        omega

theorem ok__law_books_machine (T : Txt K mg base) : FnOk P wd K mg base CX0 2 T.f__law_books_machine T.fd__law_books_machine ["_law_h"] (spBooksMachine) := by
  refine T.F__law_books_machine.ok sc__law_books_machine (fun vs H Q E h => ?_) (fun cdv A outer s H vs Q E hr h => ?_)
  · obtain ⟨a, cl, rfl, hd, q⟩ := h
    rfl
  · have hu := hu_of hr
    obtain ⟨a, cl, rfl, hd, q⟩ := h
    refine ⟨_, (pss_cons (ps_set (i := 1) sc__law_books_machine.nd rfl (Or.inl rfl) (pe_op (k_add K rfl) pe_int (pe_call (ok__law_next T) (hr.mono (by decide)) (by rfl) T.g__law_next T.F__law_next.kp T.b__law_next .nil pass0 (pa_cons (pv 0) (pa_cons pe_int pa_nil))))) (pss_cons (ps_set (i := 2) sc__law_books_machine.nd rfl (Or.inl rfl) (pe_op (k_add K rfl) pe_int (pe_call (ok__law_next T) (hr.mono (by decide)) (by rfl) T.g__law_next T.F__law_next.kp T.b__law_next .nil pass0 (pa_cons (pv 0) (pa_cons pe_int pa_nil))))) (pss_one (ps_ret (pe_tup (pa_cons (pv 1) (pa_cons (pv 2) (pa_cons (pe_callB (call_minQ rfl) (by rfl) T.n_min (by decide +kernel) (pa_cons pe_int (pa_cons (pe_op (k_add K rfl) (pe_op (k_add K rfl) (pv 2) pe_int) (pe_call (ok__law_next T) (hr.mono (by decide)) (by rfl) T.g__law_next T.F__law_next.kp T.b__law_next .nil pass0 (pa_cons (pv 0) (pa_cons pe_int pa_nil)))) pa_nil))) (pa_cons (pe_op (k_add K rfl) pe_int (pe_call (ok__law_next T) (hr.mono (by decide)) (by rfl) T.g__law_next T.F__law_next.kp T.b__law_next .nil pass0 (pa_cons (pv 0) (pa_cons pe_int pa_nil)))) pa_nil))))))))), ?_⟩
    dsimp only [cxOf, L2.start, List.map_cons, List.map_nil, List.length_cons, List.length_nil, List.replicate, List.cons_append, List.nil_append, Nat.reduceAdd, Nat.reduceSub]
    walk_at "rs"
    refine w_nx hd (by omega) (by omega) fun r1 H1 r10 r11 D1 => ?_
    walk_at "rs"
    refine w_nx D1.dr (by omega) (by omega) fun r2 H2 r20 r21 D2 => ?_
    walk_at "rs"
    refine w_nx D2.dr (by omega) (by omega) fun r3 H3 r30 r31 D3 => ?_
    walk_at "rs"
    refine w_nx D3.dr (by omega) (by omega) fun r4 H4 r40 r41 D4 => ?_
    walk_at "rs"
    refine w_new (by decide) fun p H5 hp s5 h5 => ?_
    exact q _ _ _ _ p H5 ⟨by omega, by omega, by omega, by omega, by omega, by omega, by omega, by omega⟩ (by omega) (by omega) (((D1.trans D2).trans (D3.trans D4)).same s5) h5


theorem ok_is_side_0 (T : Txt K mg base) : FnOk P wd K mg base CX0 1 T.f_is_side T.fd_is_side ["figures", "side", "deep"] (spIsSideX K 0) := by
  refine T.F_is_side.ok sc_is_side (fun vs H Q E h => ?_) (fun cdv A outer s H vs Q E hr h => ?_)
  · obtain ⟨f, a, ins, p, k, rfl, hk, hf, hp, q⟩ := h
    rfl
  · have hu := hu_of hr
    obtain ⟨f, a, ins, p, k, rfl, hk, hf, hp, q⟩ := h
    refine ⟨_, (pss_cons (ps_if (pt_cmpR (k_eq K rfl hr.units) (pv 2) pe_int (nomark _)) (pss_one (ps_ret pe_bl)) pss_nil) (pss_cons (ps_matchQ (pv 1) (pm_case K rfl (is := [3]) rfl sc_is_side.nd (.cons .nil) (.cons rfl (Or.inl rfl) (.inr rfl) .nil) (pss_one (ps_ret (pe_chain (op_le) (op_le) pe_int (pv 3) (pe_glob (v := .int 1000000000) (by rfl) T.c_MOST_NUMBER ⟨_, rfl⟩)))) (pm_case K rfl (is := []) rfl sc_is_side.nd .nil .nil (pss_one (ps_ret pe_bl)) (pm_case K rfl (is := []) rfl sc_is_side.nd .nil .nil (pss_one (ps_ret pe_bl)) (pm_case K rfl (is := [4]) rfl sc_is_side.nd (.cons .nil) (.cons rfl (Or.inl rfl) (.inr rfl) .nil) (pss_one (ps_ret (pe_cmp (pc_din hu (pv 4) (pv 0))))) (pm_case K rfl (is := [5, 6]) rfl sc_is_side.nd (.cons (.cons .nil)) (.cons rfl (Or.inl rfl) (.inr rfl) (.cons rfl (Or.inl rfl) (.inr rfl) .nil)) (pss_one (ps_ret (pe_and pe_no (pe_one pe_no)))) (pm_case K rfl (is := [5, 6]) rfl sc_is_side.nd (.cons (.cons .nil)) (.cons rfl (Or.inl rfl) (.inr rfl) (.cons rfl (Or.inl rfl) (.inr rfl) .nil)) (pss_one (ps_ret (pe_and pe_no (pe_one pe_no)))) pm_nil rfl) rfl) rfl) rfl) rfl) rfl)) (pss_one (ps_ret pe_bl)))), ?_⟩
    dsimp only [cxOf, L2.start, List.map_cons, List.map_nil, List.length_cons, List.length_nil, List.replicate, List.cons_append, List.nil_append, Nat.reduceAdd, Nat.reduceSub]
    obtain rfl : k = 0 := by omega
    walk_at "rs"
    have e : rsidOk ins p 0 = false := by cases p <;> rfl
    exact e ▸ q
theorem ok_is_side_S (T : Txt K mg base) {n : Nat} (ih : FnOk P wd K mg base CX0 (1 + n) T.f_is_side T.fd_is_side ["figures", "side", "deep"] (spIsSideX K n)) : FnOk P wd K mg base CX0 (1 + n + 1) T.f_is_side T.fd_is_side ["figures", "side", "deep"] (spIsSideX K (n + 1)) := by
  refine T.F_is_side.ok sc_is_side (fun vs H Q E h => ?_) (fun cdv A outer s H vs Q E hr h => ?_)
  · obtain ⟨f, a, ins, p, k, rfl, hk, hf, hp, q⟩ := h
    rfl
  · have hu := hu_of hr
    obtain ⟨f, a, ins, p, k, rfl, hk, hf, hp, q⟩ := h
    refine ⟨_, (pss_cons (ps_if (pt_cmpR (k_eq K rfl hr.units) (pv 2) pe_int (nomark _)) (pss_one (ps_ret pe_bl)) pss_nil) (pss_cons (ps_matchQ (pv 1) (pm_case K rfl (is := [3]) rfl sc_is_side.nd (.cons .nil) (.cons rfl (Or.inl rfl) (.inr rfl) .nil) (pss_one (ps_ret (pe_chain (op_le) (op_le) pe_int (pv 3) (pe_glob (v := .int 1000000000) (by rfl) T.c_MOST_NUMBER ⟨_, rfl⟩)))) (pm_case K rfl (is := []) rfl sc_is_side.nd .nil .nil (pss_one (ps_ret pe_bl)) (pm_case K rfl (is := []) rfl sc_is_side.nd .nil .nil (pss_one (ps_ret pe_bl)) (pm_case K rfl (is := [4]) rfl sc_is_side.nd (.cons .nil) (.cons rfl (Or.inl rfl) (.inr rfl) .nil) (pss_one (ps_ret (pe_cmp (pc_din hu (pv 4) (pv 0))))) (pm_case K rfl (is := [5, 6]) rfl sc_is_side.nd (.cons (.cons .nil)) (.cons rfl (Or.inl rfl) (.inr rfl) (.cons rfl (Or.inl rfl) (.inr rfl) .nil)) (pss_one (ps_ret (pe_and (pe_call ih hr (by rfl) T.g_is_side T.F_is_side.kp T.b_is_side .nil pass0 (pa_cons (pv 0) (pa_cons (pv 5) (pa_cons (pe_op op_sub (pv 2) pe_int) pa_nil)))) (pe_one (pe_call ih hr (by rfl) T.g_is_side T.F_is_side.kp T.b_is_side .nil pass0 (pa_cons (pv 0) (pa_cons (pv 6) (pa_cons (pe_op op_sub (pv 2) pe_int) pa_nil)))))))) (pm_case K rfl (is := [5, 6]) rfl sc_is_side.nd (.cons (.cons .nil)) (.cons rfl (Or.inl rfl) (.inr rfl) (.cons rfl (Or.inl rfl) (.inr rfl) .nil)) (pss_one (ps_ret (pe_and (pe_call ih hr (by rfl) T.g_is_side T.F_is_side.kp T.b_is_side .nil pass0 (pa_cons (pv 0) (pa_cons (pv 5) (pa_cons (pe_op op_sub (pv 2) pe_int) pa_nil)))) (pe_one (pe_call ih hr (by rfl) T.g_is_side T.F_is_side.kp T.b_is_side .nil pass0 (pa_cons (pv 0) (pa_cons (pv 6) (pa_cons (pe_op op_sub (pv 2) pe_int) pa_nil)))))))) pm_nil rfl) rfl) rfl) rfl) rfl) rfl)) (pss_one (ps_ret pe_bl)))), ?_⟩
    dsimp only [cxOf, L2.start, List.map_cons, List.map_nil, List.length_cons, List.length_nil, List.replicate, List.cons_append, List.nil_append, Nat.reduceAdd, Nat.reduceSub]
    walk_at "rs"
    have nx : ∀ {k : Str} {z : Str} {ys : List V} {is : List Nat} {tb : TS} {tr : V → TS} {D : Ends} {σ : St}, SqT K H a (.str z :: ys) → ys.length ≤ 1000 → z ≠ k → tr (.ref a) D σ H → tCase K k is tb tr (.ref a) D σ H := fun h1 h2 h3 h4 => w_caseN h1 (fun e => h3 e.1) h2 h4
    cases k with
    | zero =>
      walk_at "rs"
      have e : rsidOk ins p 0 = false := by cases p <;> rfl
      exact e ▸ q
    | succ k =>
    refine w_iteE (by omega) ?_
    walk_at "rs"
    have two : ∀ (r1 r2 : Bool) (p1 p2 : RSid), rsidOk ins p (k + 1) = (rsidOk ins p1 k && rsidOk ins p2 k) → rsidOk ins p1 k = r1 → (r1 = true → rsidOk ins p2 k = r2) → Q (.bl (if r1 = true then r2 else false)) H := fun r1 r2 p1 p2 e e1 e2 => by
      rw [e, e1] at q
      cases r1 with
      | true => rw [e2 rfl] at q; exact q
      | false => exact q
    cases hp with
    | @num _ n h =>
      refine w_caseY h rfl (by simp) ?_
      dsimp only [setAll]
      walk_at "rs"
      have e : rsidOk ins (.num n) (k + 1) = (decide (0 ≤ n) && decide (n ≤ 1000000000)) := rfl
      refine w_ite (fun g1 => ?_) (fun g1 => ?_)
      · walk_at "rs"
        rw [e, decide_eq_true g1] at q
        exact q
      · rw [e, decide_eq_false g1] at q
        exact q
    | wheels h =>
      refine nx h (by simp) (by decide +kernel) ?_
      refine w_caseY h rfl (by simp) ?_
      dsimp only [setAll]
      walk_at "rs"
      exact q
    | counts h =>
      refine nx h (by simp) (by decide +kernel) ?_
      refine nx h (by simp) (by decide +kernel) ?_
      refine w_caseY h rfl (by simp) ?_
      dsimp only [setAll]
      walk_at "rs"
      exact q
    | @inp _ n h =>
      refine nx h (by simp) (by decide +kernel) ?_
      refine nx h (by simp) (by decide +kernel) ?_
      refine nx h (by simp) (by decide +kernel) ?_
      refine w_caseY h rfl (by simp) ?_
      dsimp only [setAll]
      walk_at "rs"
      refine w_dinS hf ?_
      rw [figsD_val]
      have e : rsidOk ins (.inp n) (k + 1) = (figsOf ins n).isSome := rfl
      rw [e] at q
      cases ef : figsOf ins n <;> (rw [ef] at q; exact q)
    | @add _ x y p1 p2 h hx hy =>
      refine nx h (by simp) (by decide +kernel) ?_
      refine nx h (by simp) (by decide +kernel) ?_
      refine nx h (by simp) (by decide +kernel) ?_
      refine nx h (by simp) (by decide +kernel) ?_
      refine w_caseY h rfl (by simp) ?_
      dsimp only [setAll]
      walk_at "rs"
      refine ⟨f, x, ins, p1, k, by simp, by omega, hf, hx, ?_⟩
      refine ⟨_, rfl, ?_⟩
      cases e1 : rsidOk ins p1 k with
      | true =>
        walk_at "rs"
        refine ⟨f, y, ins, p2, k, by simp, by omega, hf, hy, ?_⟩
        exact two true _ p1 p2 rfl e1 fun _ => rfl
      | false =>
        walk_at "rs"
        exact two false false p1 p2 rfl e1 fun z => Bool.noConfusion z
    | @times _ x y p1 p2 h hx hy =>
      refine nx h (by simp) (by decide +kernel) ?_
      refine nx h (by simp) (by decide +kernel) ?_
      refine nx h (by simp) (by decide +kernel) ?_
      refine nx h (by simp) (by decide +kernel) ?_
      refine nx h (by simp) (by decide +kernel) ?_
      refine w_caseY h rfl (by simp) ?_
      dsimp only [setAll]
      walk_at "rs"
      refine ⟨f, x, ins, p1, k, by simp, by omega, hf, hx, ?_⟩
      refine ⟨_, rfl, ?_⟩
      cases e1 : rsidOk ins p1 k with
      | true =>
        walk_at "rs"
        refine ⟨f, y, ins, p2, k, by simp, by omega, hf, hy, ?_⟩
        exact two true _ p1 p2 rfl e1 fun _ => rfl
      | false =>
        walk_at "rs"
        exact two false false p1 p2 rfl e1 fun z => Bool.noConfusion z
    | @bad _ w r h hn hl =>
      have ns : ∀ (k : Str) (n : Nat), (k, n) ∈ ([("num", 1), ("wheels", 0), ("counts", 0), ("input", 1), ("add", 2), ("times", 2)] : List (Str × Nat)) → ¬ (w = k ∧ r.length = n) := fun k n hm z => by
        unfold shapeS at hn
        rw [z.1, z.2] at hn
        exact (of_decide_eq_false hn) hm
      refine w_caseN h (ns "num" 1 (by simp)) hl ?_
      refine w_caseN h (ns "wheels" 0 (by simp)) hl ?_
      refine w_caseN h (ns "counts" 0 (by simp)) hl ?_
      refine w_caseN h (ns "input" 1 (by simp)) hl ?_
      refine w_caseN h (ns "add" 2 (by simp)) hl ?_
      refine w_caseN h (ns "times" 2 (by simp)) hl ?_
      walk_at "rs"
      exact q
theorem ok_is_side_R (T : Txt K mg base) : ∀ n : Nat, FnOk P wd K mg base CX0 (1 + n) T.f_is_side T.fd_is_side ["figures", "side", "deep"] (spIsSideX K n)
  | 0 => ok_is_side_0 T
  | n + 1 => ok_is_side_S T (ok_is_side_R T n)
theorem ok_is_side (T : Txt K mg base) : FnOk P wd K mg base CX0 5 T.f_is_side T.fd_is_side ["figures", "side", "deep"] (spIsSideX K 4) := ok_is_side_R T 4

theorem ok_is_claim (T : Txt K mg base) : FnOk P wd K mg base CX0 6 T.f_is_claim T.fd_is_claim ["figures", "claim"] (spIsClaimX K) := by
  refine T.F_is_claim.ok sc_is_claim (fun vs H Q E h => ?_) (fun cdv A outer s H vs Q E hr h => ?_)
  · obtain ⟨f, a, ins, c, rfl, hf, hc, q⟩ := h
    rfl
  · have hu := hu_of hr
    obtain ⟨f, a, ins, c, rfl, hf, hc, q⟩ := h
    refine ⟨_, (pss_cons (ps_if (PW.pt (pw_or (pt_cmpR (k_ne K rfl hr.units) (pe_callB (k_len K rfl) (by rfl) T.n_len (by decide +kernel) (pa_cons (pv 1) pa_nil)) pe_int (nomark _)) (pw_or1 (pt_cmpR (k_ni K rfl) (pe_ix (k_ix K rfl) (pv 1) pe_int (fun _ _ => rfl)) (pe_glob (v := .ref T.a_CLAIM_WORDS) (by rfl) T.c_CLAIM_WORDS rfl) rfl)))) (pss_one (ps_ret pe_bl)) pss_nil) (pss_one (ps_ret (pe_and (pe_call (ok_is_side T) (hr.mono (by decide)) (by rfl) T.g_is_side T.F_is_side.kp T.b_is_side .nil pass0 (pa_cons (pv 0) (pa_cons (pe_ix (k_ix K rfl) (pv 1) pe_int (fun _ _ => rfl)) (pa_cons (pe_glob (v := .int 4) (by rfl) T.c_MOST_DEEP ⟨_, rfl⟩) pa_nil)))) (pe_one (pe_call (ok_is_side T) (hr.mono (by decide)) (by rfl) T.g_is_side T.F_is_side.kp T.b_is_side .nil pass0 (pa_cons (pv 0) (pa_cons (pe_ix (k_ix K rfl) (pv 1) pe_int (fun _ _ => rfl)) (pa_cons (pe_glob (v := .int 4) (by rfl) T.c_MOST_DEEP ⟨_, rfl⟩) pa_nil))))))))), ?_⟩
    dsimp only [cxOf, L2.start, List.map_cons, List.map_nil, List.length_cons, List.length_nil, List.replicate, List.cons_append, List.nil_append, Nat.reduceAdd, Nat.reduceSub]
    cases hc with
    | @bad vs h hn hl =>
      walk_at "rs"
      exact q
    | @two x y z p1 p2 h0 h1 h2 =>
      walk_at "rs"
      refine w_niST (ns := ["same", "less"]) (T.s_CLAIM_WORDS H) ?_
      have e2 : rclaOk ins (.two z p1 p2) = (decide (z ∈ (["same", "less"] : List Str)) && rsidOk ins p1 4 && rsidOk ins p2 4) := rfl
      cases ez : decide (z ∈ (["same", "less"] : List Str)) with
      | false =>
        rw [ez] at e2
        walk_at "rs"
        rw [e2] at q
        exact q
      | true =>
        rw [ez] at e2
        walk_at "rs"
        refine ⟨f, x, ins, p1, 4, rfl, by omega, hf, h1, ?_⟩
        walk_at "rs"
        cases e1 : rsidOk ins p1 4 with
        | true =>
          walk_at "rs"
          refine ⟨f, y, ins, p2, 4, rfl, by omega, hf, h2, ?_⟩
          rw [e1] at e2
          rw [show rclaOk ins (.two z p1 p2) = rsidOk ins p2 4 from e2] at q
          exact q
        | false =>
          walk_at "rs"
          rw [e1] at e2
          rw [show rclaOk ins (.two z p1 p2) = false from e2] at q
          exact q

theorem ok_need_claims (T : Txt K mg base) : FnOk P wd K mg base (L2.CX P wd) 7 T.f_need_claims T.fd_need_claims ["figures", "claims"] (spNeedClaimsX K T.tp_is_name T.C_BadBook) := by
  refine T.F_need_claims.okX sc_need_claims (fun vs H Q E h => ?_) (fun cdv A outer s H vs Q E hr h => ?_)
  · obtain ⟨f, x, ins, xs, ds, rfl, hf, hx, hp, hlen, q, qe⟩ := h
    rfl
  · have hu := hu_of hr
    obtain ⟨f, x, ins, xs, ds, rfl, hf, hx, hp, hlen, q, qe⟩ := h
    refine ⟨_, (pss_cons (ps_if (pt_cmpR (op_gt) (pe_callB (k_len K rfl) (by rfl) T.n_len (by decide +kernel) (pa_cons (pv 1) pa_nil)) (pe_glob (v := .int 8) (by rfl) T.c_MOST_CLAIMS ⟨_, rfl⟩) (nomark _)) (pss_one (ps_raise rfl (takes_of rfl rfl rfl rfl) (pmk_oex T.o_BadBook T.iC_BadBook T.tI_BadBook (ok_BadBook__init T) (hr.mono (by decide)) T.b_BadBook__init .nil pass0 (by rfl) T.gC_BadBook (pa_cons pe_int (pa_cons pe_str pa_nil))))) pss_nil) (pss_one (ps_for (passes_of rfl) rfl (pi_en K rfl (by rfl) T.n_enumerate (pa_cons (pv 1) pa_nil)) (pg_tup (n := 2) rfl (pgs_cons (pg_name (i := 2) sc_need_claims.nd rfl (Or.inl rfl)) (pgs_cons (pg_name (i := 3) sc_need_claims.nd rfl (Or.inl rfl)) pgs_nil))) (pss_one (ps_if (pt_not (pt_val (pe_call (ok_is_claim T) (hr.mono (by decide)) (by rfl) T.g_is_claim T.F_is_claim.kp T.b_is_claim .nil pass0 (pa_cons (pv 0) (pa_cons (pv 3) pa_nil))))) (pss_one (ps_raise rfl (takes_of rfl rfl rfl rfl) (pmk_oex T.o_BadBook T.iC_BadBook T.tI_BadBook (ok_BadBook__init T) (hr.mono (by decide)) T.b_BadBook__init .nil pass0 (by rfl) T.gC_BadBook (pa_cons (pv 2) (pa_cons pe_str pa_nil))))) pss_nil))))), ?_⟩
    dsimp only [cxOf, L2.start, List.map_cons, List.map_nil, List.length_cons, List.length_nil, List.replicate, List.cons_append, List.nil_append, Nat.reduceAdd, Nat.reduceSub]
    have hxl : xs.length = ds.length := paired_len hp
    walk_at "rs"
    refine w_ite (fun g => ?_) (fun g => ?_)
    · have g' : ds.length > 8 := by rw [List.length_map] at g; omega
      walk_at "rs"
      refine w_mk2 (by decide) (by decide) (by decide +kernel) fun d H1 s1 hd h1 => ?_
      exact qe 0 (if_pos g') d H1 s1.smt h1
    · have g' : ¬ ds.length > 8 := by rw [List.length_map] at g; omega
      rw [if_neg g'] at q
      have qe : ∀ k, firstNo (rclaOk ins) ds 0 = some k → OutBad T.tp_is_name T.C_BadBook H E k "claim" := fun k e => qe k (by rw [if_neg g']; exact e)
      walk_at "rs"
      refine w_enT hx ?_
      refine lp_en (fun i σ H' => Same H H' ∧ firstNo (rclaOk ins) ds 0 = firstNo (rclaOk ins) (ds.drop i) i ∧ ∃ x1 x2, σ = [some (.ref f), some (.ref x), x1, x2]) ⟨Same.refl _, by rw [List.drop_zero], none, none, rfl⟩ (fun i σ H' _ hp => SqT.tn hp.1.tn hx) ?_ ?_
      · rintro i v σ H2 P0 H3 hv ⟨s2, hfi, x1, x2, rfl⟩ hP0 s3 h3
        obtain ⟨r, hr, rfl⟩ := map_ref hv
        obtain ⟨d, hd, hr0⟩ := paired_getL hp hr
        have hil := (List.getElem?_eq_some_iff.mp hd).1
        rw [firstNo_drop hd] at hfi
        have s23 := s2.trans s3
        walk_at "rs"
        refine ⟨f, r, ins, d, rfl, s23 _ _ hf, hr0.tn s23.tn, ?_⟩
        cases eo : rclaOk ins d with
        | true =>
          rw [eo, if_pos rfl] at hfi
          walk_at "rs"
          exact ⟨s23, hfi, _, _, rfl⟩
        | false =>
          rw [eo, if_neg Bool.false_ne_true] at hfi
          walk_at "rs"
          refine w_mk2 (by omega) (by omega) (by decide +kernel) fun d2 H4 s4 hd2 h4 => ?_
          exact qe i hfi d2 H4 (s23.trans s4).smt h4
      · rintro σ H2 ⟨s2, hfi, x1, x2, rfl⟩
        rw [List.length_map, hxl, List.drop_length] at hfi
        exact q hfi H2 s2

theorem ok_is_deed (T : Txt K mg base) : FnOk P wd K mg base CX0 1 T.f_is_deed T.fd_is_deed ["figures", "deed"] (spIsDeedX K) := by
  refine T.F_is_deed.ok sc_is_deed (fun vs H Q E h => ?_) (fun cdv A outer s H vs Q E hr h => ?_)
  · obtain ⟨f, a, ins, rd, rfl, hf, ⟨hd, wf⟩, q⟩ := h
    rfl
  · have hu := hu_of hr
    obtain ⟨f, a, ins, rd, rfl, hf, ⟨hd, wf⟩, q⟩ := h
    refine ⟨_, (pss_cons (ps_matchQ (pv 1) (pm_case K rfl (is := [2]) rfl sc_is_deed.nd (.cons .nil) (.cons rfl (Or.inl rfl) (.inr rfl) .nil) (pss_one (ps_ret (pe_cmp (pc_din hu (pv 2) (pv 0))))) (pm_case K rfl (is := []) rfl sc_is_deed.nd .nil .nil (pss_one (ps_ret pe_bl)) (pm_case K rfl (is := [3]) rfl sc_is_deed.nd (.cons .nil) (.cons rfl (Or.inl rfl) (.inr rfl) .nil) (pss_one (ps_ret pe_bl)) (pm_case K rfl (is := [4, 5]) rfl sc_is_deed.nd (.cons (.cons .nil)) (.cons rfl (Or.inl rfl) (.inr rfl) (.cons rfl (Or.inl rfl) (.inr rfl) .nil)) (pss_one (ps_ret (pe_and (pe_cmpR (k_in K rfl) (pv 4) (pe_glob (v := .ref T.a_WAYS) (by rfl) T.c_WAYS rfl) rfl) (pe_one (pe_cmpR (k_in K rfl) (pv 5) (pe_glob (v := .ref T.a_TALLIES) (by rfl) T.c_TALLIES rfl) rfl))))) (pm_case K rfl (is := [6]) rfl sc_is_deed.nd (.cons .nil) (.cons rfl (Or.inl rfl) (.inr rfl) .nil) (pss_one (ps_ret (pe_cmpR (k_in K rfl) (pv 6) (pe_glob (v := .ref T.a_WIPED) (by rfl) T.c_WIPED rfl) rfl))) (pm_case K rfl (is := [2, 7, 4, 5]) rfl sc_is_deed.nd (.cons (.cons (.cons (.cons .nil)))) (.cons rfl (Or.inl rfl) (.inr rfl) (.cons rfl (Or.inl rfl) (.inr rfl) (.cons rfl (Or.inl rfl) (.inr rfl) (.cons rfl (Or.inl rfl) (.inr rfl) .nil)))) (pss_one (ps_ret (pe_and (pe_cmp (pc_din hu (pv 2) (pv 0))) (pe_and (pe_chain (op_le) (op_lt) pe_int (pv 7) (pe_dget hu (pv 0) (pv 2) (fun _ _ => rfl))) (pe_and (pe_cmpR (k_in K rfl) (pv 4) (pe_glob (v := .ref T.a_WAYS) (by rfl) T.c_WAYS rfl) rfl) (pe_one (pe_cmpR (k_in K rfl) (pv 5) (pe_glob (v := .ref T.a_TALLIES) (by rfl) T.c_TALLIES rfl) rfl))))))) (pm_case K rfl (is := [5]) rfl sc_is_deed.nd (.cons .nil) (.cons rfl (Or.inl rfl) (.inr rfl) .nil) (pss_one (ps_ret (pe_cmpR (k_in K rfl) (pv 5) (pe_glob (v := .ref T.a_TALLIES) (by rfl) T.c_TALLIES rfl) rfl))) (pm_case K rfl (is := [5]) rfl sc_is_deed.nd (.cons .nil) (.cons rfl (Or.inl rfl) (.inr rfl) .nil) (pss_one (ps_ret (pe_cmpR (k_in K rfl) (pv 5) (pe_glob (v := .ref T.a_TALLIES) (by rfl) T.c_TALLIES rfl) rfl))) pm_nil rfl) rfl) rfl) rfl) rfl) rfl) rfl) rfl)) (pss_one (ps_ret pe_bl))), ?_⟩
    dsimp only [cxOf, L2.start, List.map_cons, List.map_nil, List.length_cons, List.length_nil, List.replicate, List.cons_append, List.nil_append, Nat.reduceAdd, Nat.reduceSub]
    have no0 : ∀ r : Bool, rdeeOk ins rd = r → Q (.bl r) H := fun r e => e ▸ q
    walk_at "rs"
    have nx : ∀ {k : Str} {z : Str} {ys : List V} {is : List Nat} {tb : TS} {tr : V → TS} {D : Ends} {σ : St}, SqT K H a (.str z :: ys) → ys.length ≤ 1000 → z ≠ k → tr (.ref a) D σ H → tCase K k is tb tr (.ref a) D σ H := fun h1 h2 h3 h4 => w_caseN h1 (fun e => h3 e.1) h2 h4
    cases rd with
    | ok d =>
      have hd : SqT K H a d.vs := hd
      have no : ∀ r : Bool, deeOk ins d = r → Q (.bl r) H := fun r e => no0 r e
      cases d with
      | load n =>
        refine w_caseY hd rfl (by simp) ?_
        dsimp only [setAll]
        walk_at "rs"
        refine w_dinS hf (no _ ?_)
        show (figsOf ins n).isSome = _
        rw [figsD_val]
        cases figsOf ins n <;> rfl
      | one =>
        refine nx hd (by simp) (by decide +kernel) ?_
        refine w_caseY hd rfl (by simp) ?_
        dsimp only [setAll]
        walk_at "rs"
        exact no _ rfl
      | shift y =>
        refine nx hd (by simp) (by decide +kernel) ?_
        refine nx hd (by simp) (by decide +kernel) ?_
        refine w_caseY hd rfl (by simp) ?_
        dsimp only [setAll]
        walk_at "rs"
        exact no _ rfl
      | turn x y =>
        refine nx hd (by simp) (by decide +kernel) ?_
        refine nx hd (by simp) (by decide +kernel) ?_
        refine nx hd (by simp) (by decide +kernel) ?_
        refine w_caseY hd rfl (by simp) ?_
        dsimp only [setAll]
        walk_at "rs"
        refine w_inT (ns := [1, -1]) (T.s_WAYS H) ?_
        walk_at "rs"
        refine w_ite (fun g1 => ?_) (fun g1 => ?_)
        · walk_at "rs"
          refine w_inT (ns := [-1, 0, 1]) (T.s_TALLIES H) ?_
          refine no _ ?_
          show (wayOk x && tallyOk y) = _
          rw [way_in, decide_eq_true g1, tally_in]
          rfl
        · refine no _ ?_
          show (wayOk x && tallyOk y) = _
          rw [way_in, decide_eq_false g1]
          rfl
      | wipe c =>
        refine nx hd (by simp) (by decide +kernel) ?_
        refine nx hd (by simp) (by decide +kernel) ?_
        refine nx hd (by simp) (by decide +kernel) ?_
        refine nx hd (by simp) (by decide +kernel) ?_
        refine w_caseY hd rfl (by simp) ?_
        dsimp only [setAll]
        walk_at "rs"
        refine w_inST (ns := ["wheels", "counts"]) (T.s_WIPED H) ?_
        have e : decide (wipeW c ∈ (["wheels", "counts"] : List Str)) = true := by cases c <;> decide +kernel
        rw [e]
        exact no _ rfl
      | turns n k x y =>
        refine nx hd (by simp) (by decide +kernel) ?_
        refine nx hd (by simp) (by decide +kernel) ?_
        refine nx hd (by simp) (by decide +kernel) ?_
        refine nx hd (by simp) (by decide +kernel) ?_
        refine nx hd (by simp) (by decide +kernel) ?_
        refine w_caseY hd rfl (by simp) ?_
        dsimp only [setAll]
        walk_at "rs"
        refine w_dinS hf ?_
        rw [figsD_val]
        cases ef : figsOf ins n with
        | none =>
          walk_at "rs"
          refine no _ ?_
          unfold deeOk
          simp only [ef]
        | some fg =>
          have e0 : deeOk ins (.turns n k x y) = (decide (0 ≤ k) && decide (k < fg) && wayOk x && tallyOk y) := by
            unfold deeOk
            simp only [ef]
          dsimp only [Option.map_some, Option.isSome_some]
          walk_at "rs"
          refine w_ite (fun g1 => ?_) (fun g1 => ?_)
          · walk_at "rs"
            refine w_dgetS (v := .int fg) hf (by rw [figsD_val, ef]; rfl) ?_
            walk_at "rs"
            refine w_ite (fun g2 => ?_) (fun g2 => ?_)
            · walk_at "rs"
              refine w_inT (ns := [1, -1]) (T.s_WAYS H) ?_
              walk_at "rs"
              refine w_ite (fun g3 => ?_) (fun g3 => ?_)
              · walk_at "rs"
                refine w_inT (ns := [-1, 0, 1]) (T.s_TALLIES H) ?_
                refine no _ ?_
                rw [e0, way_in, decide_eq_true g3, tally_in, decide_eq_true g1, decide_eq_true g2]
                rfl
              · refine no _ ?_
                rw [e0, way_in, decide_eq_false g3]
                simp
            · walk_at "rs"
              refine no _ ?_
              rw [e0, decide_eq_false g2]
              simp
          · walk_at "rs"
            refine no _ ?_
            rw [e0, decide_eq_false g1]
            simp
      | bell y =>
        refine nx hd (by simp) (by decide +kernel) ?_
        refine nx hd (by simp) (by decide +kernel) ?_
        refine nx hd (by simp) (by decide +kernel) ?_
        refine nx hd (by simp) (by decide +kernel) ?_
        refine nx hd (by simp) (by decide +kernel) ?_
        refine nx hd (by simp) (by decide +kernel) ?_
        refine w_caseY hd rfl (by simp) ?_
        dsimp only [setAll]
        walk_at "rs"
        refine w_inT (ns := [-1, 0, 1]) (T.s_TALLIES H) ?_
        exact no _ (tally_in y)
      | odds y =>
        refine nx hd (by simp) (by decide +kernel) ?_
        refine nx hd (by simp) (by decide +kernel) ?_
        refine nx hd (by simp) (by decide +kernel) ?_
        refine nx hd (by simp) (by decide +kernel) ?_
        refine nx hd (by simp) (by decide +kernel) ?_
        refine nx hd (by simp) (by decide +kernel) ?_
        refine nx hd (by simp) (by decide +kernel) ?_
        refine w_caseY hd rfl (by simp) ?_
        dsimp only [setAll]
        walk_at "rs"
        refine w_inT (ns := [-1, 0, 1]) (T.s_TALLIES H) ?_
        exact no _ (tally_in y)
    | wip z =>
      have hd : SqT K H a [.str "wipe", .str z] := hd
      refine nx hd (by simp) (by decide +kernel) ?_
      refine nx hd (by simp) (by decide +kernel) ?_
      refine nx hd (by simp) (by decide +kernel) ?_
      refine nx hd (by simp) (by decide +kernel) ?_
      refine w_caseY hd rfl (by simp) ?_
      dsimp only [setAll]
      walk_at "rs"
      refine w_inST (ns := ["wheels", "counts"]) (T.s_WIPED H) ?_
      exact no0 _ rfl
    | bad w r =>
      have hd : SqT K H a (.str w :: r) := hd
      obtain ⟨wf1, wf2⟩ := wf
      have ns : ∀ (k : Str) (n : Nat), (k, n) ∈ ([("load", 1), ("one", 0), ("shift", 1), ("turn", 2), ("wipe", 1), ("turns", 4), ("bell", 1), ("odds", 1)] : List (Str × Nat)) → ¬ (w = k ∧ r.length = n) := fun k n hm z => by
        unfold shapeD at wf1
        rw [z.1, z.2] at wf1
        exact (of_decide_eq_false wf1) hm
      refine w_caseN hd (ns "load" 1 (by simp)) wf2 ?_
      refine w_caseN hd (ns "one" 0 (by simp)) wf2 ?_
      refine w_caseN hd (ns "shift" 1 (by simp)) wf2 ?_
      refine w_caseN hd (ns "turn" 2 (by simp)) wf2 ?_
      refine w_caseN hd (ns "wipe" 1 (by simp)) wf2 ?_
      refine w_caseN hd (ns "turns" 4 (by simp)) wf2 ?_
      refine w_caseN hd (ns "bell" 1 (by simp)) wf2 ?_
      refine w_caseN hd (ns "odds" 1 (by simp)) wf2 ?_
      walk_at "rs"
      exact no0 _ rfl

theorem ok_need_deeds (T : Txt K mg base) : FnOk P wd K mg base (L2.CX P wd) 3 T.f_need_deeds T.fd_need_deeds ["figures", "deeds"] (spNeedDeedsX K T.tp_is_name T.C_BadBook) := by
  refine T.F_need_deeds.okX sc_need_deeds (fun vs H Q E h => ?_) (fun cdv A outer s H vs Q E hr h => ?_)
  · obtain ⟨f, x, ins, xs, ds, rfl, hf, hx, hp, hlen, q, qe⟩ := h
    rfl
  · have hu := hu_of hr
    obtain ⟨f, x, ins, xs, ds, rfl, hf, hx, hp, hlen, q, qe⟩ := h
    refine ⟨_, (pss_cons (ps_if (pt_cmpR (op_gt) (pe_callB (k_len K rfl) (by rfl) T.n_len (by decide +kernel) (pa_cons (pv 1) pa_nil)) (pe_glob (v := .int 40) (by rfl) T.c_MOST_DEEDS ⟨_, rfl⟩) (nomark _)) (pss_one (ps_raise rfl (takes_of rfl rfl rfl rfl) (pmk_oex T.o_BadBook T.iC_BadBook T.tI_BadBook (ok_BadBook__init T) (hr.mono (by decide)) T.b_BadBook__init .nil pass0 (by rfl) T.gC_BadBook (pa_cons pe_int (pa_cons pe_str pa_nil))))) pss_nil) (pss_one (ps_for (passes_of rfl) rfl (pi_en K rfl (by rfl) T.n_enumerate (pa_cons (pv 1) pa_nil)) (pg_tup (n := 2) rfl (pgs_cons (pg_name (i := 2) sc_need_deeds.nd rfl (Or.inl rfl)) (pgs_cons (pg_name (i := 3) sc_need_deeds.nd rfl (Or.inl rfl)) pgs_nil))) (pss_one (ps_if (pt_not (pt_val (pe_call (ok_is_deed T) (hr.mono (by decide)) (by rfl) T.g_is_deed T.F_is_deed.kp T.b_is_deed .nil pass0 (pa_cons (pv 0) (pa_cons (pv 3) pa_nil))))) (pss_one (ps_raise rfl (takes_of rfl rfl rfl rfl) (pmk_oex T.o_BadBook T.iC_BadBook T.tI_BadBook (ok_BadBook__init T) (hr.mono (by decide)) T.b_BadBook__init .nil pass0 (by rfl) T.gC_BadBook (pa_cons (pv 2) (pa_cons pe_str pa_nil))))) pss_nil))))), ?_⟩
    dsimp only [cxOf, L2.start, List.map_cons, List.map_nil, List.length_cons, List.length_nil, List.replicate, List.cons_append, List.nil_append, Nat.reduceAdd, Nat.reduceSub]
    have hxl : xs.length = ds.length := paired_len hp
    walk_at "rs"
    refine w_ite (fun g => ?_) (fun g => ?_)
    · have g' : ds.length > 40 := by rw [List.length_map] at g; omega
      walk_at "rs"
      refine w_mk2 (by decide) (by decide) (by decide +kernel) fun d H1 s1 hd h1 => ?_
      exact qe 0 (if_pos g') d H1 s1.smt h1
    · have g' : ¬ ds.length > 40 := by rw [List.length_map] at g; omega
      rw [if_neg g'] at q
      have qe : ∀ k, firstNo (rdeeOk ins) ds 0 = some k → OutBad T.tp_is_name T.C_BadBook H E k "deed" := fun k e => qe k (by rw [if_neg g']; exact e)
      walk_at "rs"
      refine w_enT hx ?_
      refine lp_en (fun i σ H' => Same H H' ∧ firstNo (rdeeOk ins) ds 0 = firstNo (rdeeOk ins) (ds.drop i) i ∧ ∃ x1 x2, σ = [some (.ref f), some (.ref x), x1, x2]) ⟨Same.refl _, by rw [List.drop_zero], none, none, rfl⟩ (fun i σ H' _ hp => SqT.tn hp.1.tn hx) ?_ ?_
      · rintro i v σ H2 P0 H3 hv ⟨s2, hfi, x1, x2, rfl⟩ hP0 s3 h3
        obtain ⟨r, hr, rfl⟩ := map_ref hv
        obtain ⟨d, hd, hr0⟩ := paired_getL hp hr
        have hil := (List.getElem?_eq_some_iff.mp hd).1
        rw [firstNo_drop hd] at hfi
        have s23 := s2.trans s3
        walk_at "rs"
        refine ⟨f, r, ins, d, rfl, s23 _ _ hf, hr0.tn s23.tn, ?_⟩
        cases eo : rdeeOk ins d with
        | true =>
          rw [eo, if_pos rfl] at hfi
          walk_at "rs"
          exact ⟨s23, hfi, _, _, rfl⟩
        | false =>
          rw [eo, if_neg Bool.false_ne_true] at hfi
          walk_at "rs"
          refine w_mk2 (by omega) (by omega) (by decide +kernel) fun d2 H4 s4 hd2 h4 => ?_
          exact qe i hfi d2 H4 (s23.trans s4).smt h4
      · rintro σ H2 ⟨s2, hfi, x1, x2, rfl⟩
        rw [List.length_map, hxl, List.drop_length] at hfi
        exact q hfi H2 s2

theorem ok_is_name (T : Txt K mg base) : FnOk P wd K mg base CX0 1 T.f_is_name T.fd_is_name ["name"] (spIsName T.tp_is_name) := by
  refine T.F_is_name.okC sc_is_name (fun vs H Q E h => ?_) (fun cdv hc A outer s H vs Q E hr h => ?_)
  · obtain ⟨n, rfl, hn, htab, q⟩ := h
    rfl
  · have hu := hu_of hr
    obtain ⟨n, rfl, hn, htab, q⟩ := h
    refine ⟨_, (pss_cons (ps_if (PW.pt (pw_or (pt_not (pt_chain (op_le) (op_le) pe_int (pe_callB (k_len K rfl) (by rfl) T.n_len (by decide +kernel) (pa_cons (pv 0) pa_nil)) (pe_glob (v := .int 8) (by rfl) T.c_LONGEST_NAME ⟨_, rfl⟩))) (pw_or1 (pt_cmpR (k_in K rfl) (pv 0) (pe_glob (v := .ref T.a_NO_NAMES) (by rfl) T.c_NO_NAMES rfl) rfl)))) (pss_one (ps_ret pe_bl)) pss_nil) (pss_one (ps_ret (Tg.pe_allG hr (by rfl) T.n_all T.tb_is_name (hc.symm.trans T.cd_is_name) (Tg.genS_by rfl rfl rfl rfl rfl rfl) (pv 0) (Tg.elt_inG rfl rfl (by rfl) T.c_SMALL_LETTERS))))), ?_⟩
    dsimp only [cxOf, L2.start, List.map_cons, List.map_nil, List.length_cons, List.length_nil, List.replicate, List.cons_append, List.nil_append, Nat.reduceAdd, Nat.reduceSub]
    have no : ∀ r : Bool, nameOk n = r → ∀ H', Tg.SmT T.tp_is_name H H' → Q (.bl r) H' := fun r e H' s => e ▸ q H' s
    walk_at "rs"
    refine w_lenS (z := n) (by omega) ?_
    walk_at "rs"
    refine w_ite (fun g1 => ?_) (fun g1 => ?_)
    · walk_at "rs"
      refine w_iteN (fun g2 => ?_) (fun g2 => ?_)
      · walk_at "rs"
        exact no false (by unfold nameOk; rw [decide_eq_false (p := n.length ≤ 8) (by omega)]; simp) _ (Tg.SmT.refl _)
      · walk_at "rs"
        refine w_inST (ns := ["wheels", "counts"]) (T.s_NO_NAMES H) ?_
        walk_at "rs"
        refine w_ite (fun g3 => ?_) (fun g3 => ?_)
        · walk_at "rs"
          exact no false (by unfold nameOk; rw [decide_eq_true (p := n ∈ _) g3]; simp) _ (Tg.SmT.refl _)
        · walk_at "rs"
          refine ⟨n, rfl, htab, fun H2 h2 => no _ ?_ _ (Tg.SmT.of_tabbed htab h2)⟩
          unfold nameOk
          rw [decide_eq_true (p := 1 ≤ n.length) (by omega), decide_eq_true (p := n.length ≤ 8) (by omega), decide_eq_false (p := n ∈ _) g3]
          rfl
    · walk_at "rs"
      exact no false (by unfold nameOk; rw [decide_eq_false (p := 1 ≤ n.length) (by omega)]; simp) _ (Tg.SmT.refl _)

theorem ok_is_input (T : Txt K mg base) : FnOk P wd K mg base CX0 2 T.f_is_input T.fd_is_input ["machine", "row", "names"] (spIsInput K T.tp_is_name) := by
  refine T.F_is_input.ok sc_is_input (fun vs H Q E h => ?_) (fun cdv A outer s H vs Q E hr h => ?_)
  · obtain ⟨m, r, l, b, s, w, c, i, ns, rfl, hM, hr0, hl, hi, htab, q⟩ := h
    rfl
  · have hu := hu_of hr
    obtain ⟨m, r, l, b, s, w, c, i, ns, rfl, hM, hr0, hl, hi, htab, q⟩ := h
    refine ⟨_, (pss_cons (ps_if (pt_cmpR (k_ne K rfl hr.units) (pe_callB (k_len K rfl) (by rfl) T.n_len (by decide +kernel) (pa_cons (pv 1) pa_nil)) pe_int (nomark _)) (pss_one (ps_ret pe_bl)) pss_nil) (pss_cons (ps_asg (pv 1) (pg_tup (n := 3) rfl (pgs_cons (pg_name (i := 3) sc_is_input.nd rfl (Or.inl rfl)) (pgs_cons (pg_name (i := 4) sc_is_input.nd rfl (Or.inl rfl)) (pgs_cons (pg_name (i := 5) sc_is_input.nd rfl (Or.inl rfl)) pgs_nil))))) (pss_cons (ps_if (PW.pt (pw_or (pt_cmpR (k_in K rfl) (pv 3) (pv 2) rfl) (pw_or1 (pt_not (pt_val (pe_call (ok_is_name T) (hr.mono (by decide)) (by rfl) T.g_is_name T.F_is_name.kp T.b_is_name .nil pass0 (pa_cons (pv 3) pa_nil))))))) (pss_one (ps_ret pe_bl)) pss_nil) (pss_one (ps_ret (pe_and (pe_chain (op_le) (op_le) pe_int (pv 4) (pe_ix (k_ix K rfl) (pv 0) pe_int (fun _ _ => rfl))) (pe_one (pe_cmpR (k_in K rfl) (pv 5) (pe_glob (v := .ref T.a_LEASTS) (by rfl) T.c_LEASTS rfl) rfl)))))))), ?_⟩
    dsimp only [cxOf, L2.start, List.map_cons, List.map_nil, List.length_cons, List.length_nil, List.replicate, List.cons_append, List.nil_append, Nat.reduceAdd, Nat.reduceSub]
    have hM' : SqT K H m [.int b, .int s, .int w, .int c] := hM
    have hr' : SqT K H r [.str i.nm, .int i.fg, .int i.ls] := hr0
    have no : ∀ r : Bool, inputOk s ns i = r → ∀ H', Tg.SmT T.tp_is_name H H' → Q (.bl r) H' := fun r e H' s => e ▸ q H' s
    walk_at "rs"
    refine w_inS (ns := ns) hl ?_
    walk_at "rs"
    refine w_ite (fun g1 => ?_) (fun g1 => ?_)
    · walk_at "rs"
      exact no false (by unfold inputOk; rw [decide_eq_true g1]; simp) _ (Tg.SmT.refl _)
    · walk_at "rs"
      refine ⟨i.nm, rfl, hi, htab, fun H1 s1 => ?_⟩
      walk_at "rs"
      cases e2 : nameOk i.nm with
      | false =>
        walk_at "rs"
        exact no false (by unfold inputOk; rw [e2]; simp) _ s1
      | true =>
        have hM1 := SqT.tn s1.tn hM'
        walk_at "rs"
        refine w_ite (fun g3 => ?_) (fun g3 => ?_)
        · walk_at "rs"
          refine w_ite (fun g4 => ?_) (fun g4 => ?_)
          · walk_at "rs"
            refine w_inT (ns := [0, 1]) (T.s_LEASTS H1) ?_
            refine no _ ?_ _ s1
            unfold inputOk
            rw [e2, decide_eq_false g1, decide_eq_true (p := 1 ≤ i.fg) g3, decide_eq_true (p := i.fg ≤ s) g4]
            simp
          · walk_at "rs"
            exact no false (by unfold inputOk; rw [e2, decide_eq_false (p := i.fg ≤ s) g4]; simp) _ s1
        · walk_at "rs"
          exact no false (by unfold inputOk; rw [e2, decide_eq_false (p := 1 ≤ i.fg) (by omega)]; simp) _ s1

theorem ok_need_inputs (T : Txt K mg base) : FnOk P wd K mg base (L2.CX P wd) 3 T.f_need_inputs T.fd_need_inputs ["machine", "inputs"] (spNeedInputsX K T.tp_is_name T.C_BadBook) := by
  refine T.F_need_inputs.okX sc_need_inputs (fun vs H Q E h => ?_) (fun cdv A outer s H vs Q E hr h => ?_)
  · obtain ⟨m, x, b, s, w, c, xs, ins, rfl, hM, hx, hp, hlen, hnm, htab, q, qe⟩ := h
    rfl
  · have hu := hu_of hr
    obtain ⟨m, x, b, s, w, c, xs, ins, rfl, hM, hx, hp, hlen, hnm, htab, q, qe⟩ := h
    refine ⟨_, (pss_cons (ps_if (pt_cmpR (op_gt) (pe_callB (k_len K rfl) (by rfl) T.n_len (by decide +kernel) (pa_cons (pv 1) pa_nil)) (pe_glob (v := .int 4) (by rfl) T.c_MOST_INPUTS ⟨_, rfl⟩) (nomark _)) (pss_one (ps_raise rfl (takes_of rfl rfl rfl rfl) (pmk_oex T.o_BadBook T.iC_BadBook T.tI_BadBook (ok_BadBook__init T) (hr.mono (by decide)) T.b_BadBook__init .nil pass0 (by rfl) T.gC_BadBook (pa_cons pe_int (pa_cons pe_str pa_nil))))) pss_nil) (pss_cons (ps_set (i := 2) sc_need_inputs.nd rfl (Or.inl rfl) (pe_lst pa_nil)) (pss_one (ps_for (passes_of rfl) rfl (pi_en K rfl (by rfl) T.n_enumerate (pa_cons (pv 1) pa_nil)) (pg_tup (n := 2) rfl (pgs_cons (pg_name (i := 3) sc_need_inputs.nd rfl (Or.inl rfl)) (pgs_cons (pg_name (i := 4) sc_need_inputs.nd rfl (Or.inl rfl)) pgs_nil))) (pss_cons (ps_if (pt_not (pt_val (pe_call (ok_is_input T) (hr.mono (by decide)) (by rfl) T.g_is_input T.F_is_input.kp T.b_is_input .nil pass0 (pa_cons (pv 0) (pa_cons (pv 4) (pa_cons (pv 2) pa_nil)))))) (pss_one (ps_raise rfl (takes_of rfl rfl rfl rfl) (pmk_oex T.o_BadBook T.iC_BadBook T.tI_BadBook (ok_BadBook__init T) (hr.mono (by decide)) T.b_BadBook__init .nil pass0 (by rfl) T.gC_BadBook (pa_cons (pv 3) (pa_cons pe_str pa_nil))))) pss_nil) (pss_one (ps_expr (pe_bm PySem.F.plainAttrs_list PySem.F.slot_list_append PySem.F.type_list_append mt_append (pv 2) (pa_cons (pe_ix (k_ix K rfl) (pv 4) pe_int (fun _ _ => rfl)) pa_nil))))))))), ?_⟩
    dsimp only [cxOf, L2.start, List.map_cons, List.map_nil, List.length_cons, List.length_nil, List.replicate, List.cons_append, List.nil_append, Nat.reduceAdd, Nat.reduceSub]
    have hxl : xs.length = ins.length := paired_len hp
    have hnl : (names ins).length = ins.length := by simp [names]
    walk_at "rs"
    refine w_ite (fun g => ?_) (fun g => ?_)
    · have g' : ins.length > 4 := by rw [List.length_map] at g; omega
      walk_at "rs"
      refine w_mk2 (by decide) (by decide) (by decide +kernel) fun d H1 s1 hd h1 => ?_
      exact qe 0 (if_pos g') d H1 s1.smt h1
    have g' : ¬ ins.length > 4 := by rw [List.length_map] at g; omega
    unfold whyIn at q qe
    rw [if_neg g'] at q
    have qe : ∀ k, firstIn s ins ins 0 = some k → OutBad T.tp_is_name T.C_BadBook H E k "input" := fun k e => qe k (by rw [if_neg g']; exact e)
    walk_at "rs"
    refine w_new (Nat.zero_le _) fun l H1 hl s1 h1 => ?_
    have hl' : H l = none := hl
    walk_at "rs"
    refine w_enT (SqT.tn s1.tn hx) ?_
    refine lp_en (fun i σ H' => Tg.SmT T.tp_is_name H H' ∧ firstIn s ins ins 0 = firstIn s ins (ins.drop i) i ∧ ∃ x1 x2, σ = [some (.ref m), some (.ref x), some (.ref l), x1, x2] ∧ H' l = some (.lst (((names ins).take i).map V.str)))
      ⟨s1.smt, by rw [List.drop_zero], none, none, rfl, h1⟩ (fun i σ H' _ hp => SqT.tn hp.1.tn hx) ?_ ?_
    · rintro i v σ H2 P0 H3 hv ⟨s2, hfi, x1, x2, rfl, h2⟩ hP0 s3 h3
      obtain ⟨r, hr, rfl⟩ := map_ref hv
      obtain ⟨inp, hi, hr0⟩ := paired_getL hp hr
      have hil := (List.getElem?_eq_some_iff.mp hi).1
      rw [firstIn_drop hi] at hfi
      have s23 := s2.trans s3.smt
      have l3 := s3 _ _ h2
      walk_at "rs"
      refine ⟨m, r, l, b, s, w, c, inp, (names ins).take i, rfl, SqT.tn s23.tn hM, hr0.tn s23.tn, SqL.of l3, hnm _ (List.mem_of_getElem? hi), s23.tabG htab, fun H4 s4 => ?_⟩
      have s24 := s23.trans s4
      cases eo : inputOk s ((names ins).take i) inp with
      | true =>
        rw [eo, if_pos rfl] at hfi
        have r4 : SqT K H4 r [.str inp.nm, .int inp.fg, .int inp.ls] := SqT.tn s24.tn hr0
        have l4 := s4.l l3
        walk_at "rs"
        refine w_append l4 (by rw [List.length_map, List.length_take]; omega) fun H5 e5 h5 => ?_
        refine ⟨e5 ▸ s24.mut hl', hfi, _, _, rfl, ?_⟩
        rw [h5, take_names hi, List.map_append]
        rfl
      | false =>
        rw [eo, if_neg Bool.false_ne_true] at hfi
        walk_at "rs"
        refine w_mk2 (by omega) (by omega) (by decide +kernel) fun d2 H5 s5 hd2 h5 => ?_
        exact qe i hfi d2 H5 (s24.trans s5.smt) h5
    · rintro σ H2 ⟨s2, hfi, x1, x2, rfl, h2⟩
      rw [List.length_map, hxl, List.drop_length] at hfi
      exact q hfi H2 s2

theorem ok_need_machine (T : Txt K mg base) : FnOk P wd K mg base (L2.CX P wd) 1 T.f_need_machine T.fd_need_machine ["machine"] (spNeedX K T.C_BadMachine) := by
  refine T.F_need_machine.okX sc_need_machine (fun vs H Q E h => ?_) (fun cdv A outer s H vs Q E hr h => ?_)
  · rcases h with ⟨m, b, s, w, c, rfl, hS, ⟨b0, b1, s0, s1, w0, w1, c0, c1⟩, q⟩ | ⟨m, rfl, ⟨ms, hS, hl, hb, hx⟩, q⟩ <;> rfl
  · have hu := hu_of hr
    refine ⟨_, (pss_cons (ps_if (pt_cmpR (k_ne K rfl hr.units) (pe_callB (k_len K rfl) (by rfl) T.n_len (by decide +kernel) (pa_cons (pv 0) pa_nil)) pe_int (nomark _)) (pss_one (ps_raise rfl (takes_of rfl rfl rfl rfl) (pmk_own PySem.F.excBase_ValueError T.xC_BadMachine T.gC_BadMachine T.kC_BadMachine (raises_own T.bC_BadMachine T.tC_BadMachine) rfl))) pss_nil) (pss_cons (ps_asg (pv 0) (pg_tup (n := 4) rfl (pgs_cons (pg_name (i := 1) sc_need_machine.nd rfl (Or.inl rfl)) (pgs_cons (pg_name (i := 2) sc_need_machine.nd rfl (Or.inl rfl)) (pgs_cons (pg_name (i := 3) sc_need_machine.nd rfl (Or.inl rfl)) (pgs_cons (pg_name (i := 4) sc_need_machine.nd rfl (Or.inl rfl)) pgs_nil)))))) (pss_cons (ps_if (pt_not (pt_chain (op_le) (op_le) (pe_glob (v := .int 2) (by rfl) T.c_LEAST_BASE ⟨_, rfl⟩) (pv 1) (pe_glob (v := .int 12) (by rfl) T.c_MOST_BASE ⟨_, rfl⟩))) (pss_one (ps_raise rfl (takes_of rfl rfl rfl rfl) (SkE.pmk_own1 PySem.F.excBase_ValueError T.xC_BadMachine T.gC_BadMachine T.kC_BadMachine (raises_own T.bC_BadMachine T.tC_BadMachine) rfl (pe_joined (.cons pe_str (.cons (pe_fmt (pv 1)) .nil)))))) pss_nil) (pss_cons (ps_if (pt_not (pt_chain (op_le) (op_le) pe_int (pv 2) (pe_glob (v := .int 6) (by rfl) T.c_MOST_SLIDES ⟨_, rfl⟩))) (pss_one (ps_raise rfl (takes_of rfl rfl rfl rfl) (SkE.pmk_own1 PySem.F.excBase_ValueError T.xC_BadMachine T.gC_BadMachine T.kC_BadMachine (raises_own T.bC_BadMachine T.tC_BadMachine) rfl (pe_joined (.cons pe_str (.cons (pe_fmt (pv 2)) (.cons pe_str .nil))))))) pss_nil) (pss_cons (ps_if (pt_not (pt_chain (op_le) (op_le) (pv 2) (pv 3) (pe_glob (v := .int 16) (by rfl) T.c_MOST_WHEELS ⟨_, rfl⟩))) (pss_one (ps_raise rfl (takes_of rfl rfl rfl rfl) (SkE.pmk_own1 PySem.F.excBase_ValueError T.xC_BadMachine T.gC_BadMachine T.kC_BadMachine (raises_own T.bC_BadMachine T.tC_BadMachine) rfl (pe_joined (.cons pe_str (.cons (pe_fmt (pv 2)) (.cons pe_str (.cons (pe_fmt (pv 3)) (.cons pe_str .nil))))))))) pss_nil) (pss_one (ps_if (pt_not (pt_chain (op_le) (op_le) pe_int (pv 4) (pe_glob (v := .int 10) (by rfl) T.c_MOST_COUNTERS ⟨_, rfl⟩))) (pss_one (ps_raise rfl (takes_of rfl rfl rfl rfl) (SkE.pmk_own1 PySem.F.excBase_ValueError T.xC_BadMachine T.gC_BadMachine T.kC_BadMachine (raises_own T.bC_BadMachine T.tC_BadMachine) rfl (pe_joined (.cons pe_str (.cons (pe_fmt (pv 4)) (.cons pe_str .nil))))))) pss_nil))))))), ?_⟩
    rcases h with ⟨m, b, s, w, c, rfl, hS, ⟨b0, b1, s0, s1, w0, w1, c0, c1⟩, q⟩ | ⟨m, rfl, ⟨ms, hS, hl, hb, hx⟩, q⟩
    all_goals dsimp only [cxOf, L2.start, List.map_cons, List.map_nil, List.length_cons, List.length_nil, List.replicate, List.cons_append, List.nil_append, Nat.reduceAdd, Nat.reduceSub]
    · unfold MachAt at hS
      walk_at "rs"
      exact q
    · by_cases h4 : ms.length = 4
      · obtain ⟨b, s, w, c, rfl⟩ : ∃ b s w c : Int, ms = [b, s, w, c] := by
          match ms, h4 with
          | [b, s, w, c], _ => exact ⟨b, s, w, c, rfl⟩
        have xb := hx b (by simp)
        have xs := hx s (by simp)
        have xw := hx w (by simp)
        have xc := hx c (by simp)
        have hS' : SqT K H m [.int b, .int s, .int w, .int c] := hS
        simp only [machOk, Bool.and_eq_false_iff, decide_eq_false_iff_not] at hb
        walk_at "rs"
        by_cases g1 : 2 ≤ b
        · by_cases g2 : b ≤ 12
          · by_cases g3 : 1 ≤ s
            · by_cases g4 : s ≤ 6
              · by_cases g5 : s ≤ w
                · by_cases g6 : w ≤ 16
                  · by_cases g7 : 1 ≤ c
                    · have g8 : ¬ c ≤ 10 := by omega
                      walk_at "rs"
                      exact q
                    · walk_at "rs"
                      exact q
                  · walk_at "rs"
                    exact q
                · walk_at "rs"
                  exact q
              · walk_at "rs"
                exact q
            · walk_at "rs"
              exact q
          · walk_at "rs"
            exact q
        · walk_at "rs"
          exact q
      · walk_at "rs"
        refine w_iteNE (p := ((ms.map V.int).length : Int) = 4) (by rw [List.length_map]; omega) ?_
        walk_at "rs"
        exact q

theorem ok_need_book (T : Txt K mg base) : FnOk P wd K mg base (L2.CX P wd) 8 T.f_need_book T.fd_need_book ["machine", "book"] (spNeedBookX K T.tp_is_name T.C_BadMachine T.C_BadBook) := by
  refine T.F_need_book.okX sc_need_book (fun vs H Q E h => ?_) (fun cdv A outer s H vs Q E hr h => ?_)
  · rcases h with ⟨m, bk, b, s, w, c, R, rfl, hM, hm, hB, il, dl, cl, htab, q, qe⟩ | ⟨m, x, rfl, hb, q⟩ <;> rfl
  · have hu := hu_of hr
    refine ⟨_, (pss_cons (ps_expr (pe_callS (ok_need_machine T) (hr.mono (by decide)) (by rfl) T.g_need_machine T.F_need_machine.kp T.b_need_machine (fun σ => passAt (takes_of rfl rfl rfl rfl) σ) (pa_cons (pv 0) pa_nil))) (pss_cons (ps_asg (pv 1) (pg_tup (n := 3) rfl (pgs_cons (pg_name (i := 2) sc_need_book.nd rfl (Or.inl rfl)) (pgs_cons (pg_name (i := 3) sc_need_book.nd rfl (Or.inl rfl)) (pgs_cons (pg_name (i := 4) sc_need_book.nd rfl (Or.inl rfl)) pgs_nil))))) (pss_cons (ps_expr (pe_callS (ok_need_inputs T) (hr.mono (by decide)) (by rfl) T.g_need_inputs T.F_need_inputs.kp T.b_need_inputs (fun σ => passAt (takes_of rfl rfl rfl rfl) σ) (pa_cons (pv 0) (pa_cons (pv 2) pa_nil)))) (pss_cons (ps_setDc (i := 5) (own := [("name", 6), ("many", 7), ("least", 8)]) rfl sc_need_book.nd rfl rfl (sw_trueD rfl rfl rfl (by decide +kernel)) (k_U K rfl (pv 2)) (blkOk_by (own := [("name", 6), ("many", 7), ("least", 8)]) (N := ["machine", "book", "inputs", "deeds", "claims", "figures", "name", "many", "least"]) (sc := defScope s_need_book) (by decide +kernel)) (fun _ _ _ _ _ => (pg_tupK K rfl (n := 3) rfl (pgs_cons (pg_name (i := 6) sc_need_book.nd rfl (Or.inl rfl) (.inr rfl)) (pgs_cons (pg_name (i := 7) sc_need_book.nd rfl (Or.inl rfl) (.inr rfl)) (pgs_cons (pg_name (i := 8) sc_need_book.nd rfl (Or.inl rfl) (.inr rfl)) pgs_nil))))) (fun _ _ _ _ _ => pts_nil) (fun _ _ _ _ _ => (pv 6)) (fun _ _ _ _ _ => (pv 7))) (pss_cons (ps_expr (pe_callS (ok_need_deeds T) (hr.mono (by decide)) (by rfl) T.g_need_deeds T.F_need_deeds.kp T.b_need_deeds (fun σ => passAt (takes_of rfl rfl rfl rfl) σ) (pa_cons (pv 5) (pa_cons (pv 3) pa_nil)))) (pss_one (ps_expr (pe_callS (ok_need_claims T) (hr.mono (by decide)) (by rfl) T.g_need_claims T.F_need_claims.kp T.b_need_claims (fun σ => passAt (takes_of rfl rfl rfl rfl) σ) (pa_cons (pv 5) (pa_cons (pv 4) pa_nil)))))))))), ?_⟩
    rcases h with ⟨m, bk, b, s, w, c, R, rfl, hM, hm, hB, il, dl, cl, htab, q, qe⟩ | ⟨m, x, rfl, hb, q⟩
    all_goals dsimp only [cxOf, L2.start, List.map_cons, List.map_nil, List.length_cons, List.length_nil, List.replicate, List.cons_append, List.nil_append, Nat.reduceAdd, Nat.reduceSub]
    · obtain ⟨x, y, z, xs, ys, zs, h0, h1, p1, h2', p2, h3, p3, hnm⟩ := id hB
      walk_at "rs"
      refine .inl ⟨m, b, s, w, c, rfl, hM, hm, ?_⟩
      walk_at "rs"
      refine ⟨m, x, b, s, w, c, xs, R.ins, rfl, hM, h1, p1, il, hnm, htab, fun ei H1 s1 => ?_, fun k ek d H1 s1 hd => qe k "input" (by unfold whyNot; rw [ek]) d H1 s1 hd⟩
      walk_at "rs"
      have h1' := SqT.tn s1.tn h1
      have hxl : xs.length = R.ins.length := paired_len p1
      have hl4 : R.ins.length ≤ 4 := by
        unfold whyIn at ei
        by_cases g : R.ins.length > 4
        · rw [if_pos g] at ei
          cases ei
        · omega
      have hio : ∀ (k : Nat) (i : Inp), R.ins[k]? = some i → inputOk s ((names R.ins).take k) i = true := by
        unfold whyIn at ei
        rw [if_neg (by omega)] at ei
        intro k i e
        have := firstIn_all ei k i e
        rw [Nat.zero_add] at this
        exact this
      refine w_UT h1' ?_
      refine dq_tup (fun D i H2 => Same H1 H2 ∧ H2 D = some (.dK (figsD (R.ins.take i)))) (fun D H2 _ s2 h2 => ⟨s2, h2⟩) (fun D i H2 _ hp => SqT.tn hp.1.tn h1') ?_ ?_
      · rintro D i v H2 hD hv ⟨s2, h2⟩
        obtain ⟨r, hr, rfl⟩ := map_ref hv
        obtain ⟨inp, hi, hr0⟩ := paired_getL p1 hr
        have hr2 : SqT K H2 r [.str inp.nm, .int inp.fg, .int inp.ls] := SqT.tn (s1.tn.trans s2.tn) hr0
        dsimp only [wipe, List.set, List.foldl]
        walk_at "rs"
        refine ⟨rfl, ?_⟩
        walk_at "rs"
        refine ⟨_, .inr inp.nm, rfl, h2, Nat.lt_of_le_of_lt (show _ ≤ 4 by rw [figsD_len, List.length_take]; omega) (by decide), ?_, ?_⟩
        · exact s2.mut hD
        · rw [upd_same, figsD_snoc hi (hio i inp hi)]
      · rintro D H2 hD ⟨s2, h2⟩
        rw [List.length_map, hxl, List.take_of_length_le (Nat.le_refl _)] at h2
        have s12 := s1.trans s2.smt
        walk_at "rs"
        refine ⟨D, y, R.ins, ys, R.dds, rfl, h2, SqT.tn s12.tn h2', paired_imp (fun _ _ h => h.tn s12.tn) p2, dl, fun ed H3 s3 => ?_, fun k ek d H3 s3 hd => qe k "deed" (by unfold whyNot; rw [ei]; dsimp only; rw [ek]) d H3 (s12.trans s3) hd⟩
        walk_at "rs"
        have s13 := s12.trans s3.smt
        refine ⟨D, z, R.ins, zs, R.cls, rfl, s3 _ _ h2, SqT.tn s13.tn h3, paired_imp (fun _ _ h => h.tn s13.tn) p3, cl, fun ec H4 s4 => ?_, fun k ek d H4 s4 hd => qe k "claim" (by unfold whyNot; rw [ei]; dsimp only; rw [ed]; dsimp only; rw [ek]) d H4 (s13.trans s4) hd⟩
        exact q (by unfold whyNot; rw [ei]; dsimp only; rw [ed]; dsimp only; rw [ec]) H4 (s13.trans s4.smt)
    · walk_at "rs"
      exact .inr ⟨m, rfl, hb, q⟩

theorem ok_looked (T : Txt K mg base) : FnOk P wd K mg base (L2.CX P wd) 9 T.f_looked T.fd_looked ["machine", "book"] (spLookedB K T.tp_is_name T.C_BadMachine T.C_BadBook) := by
  refine T.F_looked.okX sc_looked (fun vs H Q E h => ?_) (fun cdv A outer s H vs Q E hr h => ?_)
  · rcases h with ⟨m, bk, b, s, w, c, R, k, z, rfl, hM, hm, hB, il, dl, cl, htab, ek, qe⟩ | ⟨m, x, rfl, hb, q⟩ <;> rfl
  · have hu := hu_of hr
    refine ⟨_, (pss_cons (ps_expr (pe_callS (ok_need_book T) (hr.mono (by decide)) (by rfl) T.g_need_book T.F_need_book.kp T.b_need_book (fun σ => passAt (takes_of rfl rfl rfl rfl) σ) (pa_cons (pv 0) (pa_cons (pv 1) pa_nil)))) pss_never), ?_⟩
    rcases h with ⟨m, bk, b, s, w, c, R, k, z, rfl, hM, hm, hB, il, dl, cl, htab, ek, qe⟩ | ⟨m, x, rfl, hb, q⟩
    all_goals dsimp only [cxOf, L2.start, List.map_cons, List.map_nil, List.length_cons, List.length_nil, List.replicate, List.cons_append, List.nil_append, Nat.reduceAdd, Nat.reduceSub]
    · walk_at "rs"
      refine .inl ⟨m, bk, b, s, w, c, R, rfl, hM, hm, hB, il, dl, cl, htab, fun e => (by rw [ek] at e; cases e), fun k2 z2 e d H1 s1 h1 => ?_⟩
      rw [ek] at e
      cases e
      exact qe d H1 s1 h1
    · walk_at "rs"
      exact .inr ⟨m, x, rfl, hb, q⟩

theorem ok_worked (T : Txt K mg base) : FnOk P wd K mg base (L2.CX P wd) 9 T.f_worked T.fd_worked ["machine", "book", "values"] (spWorkedB K T.tp_is_name T.C_BadBook) := by
  refine T.F_worked.okX sc_worked (fun vs H Q E h => ?_) (fun cdv A outer s H vs Q E hr h => ?_)
  · obtain ⟨m, bk, v, b, s, w, c, R, k, z, rfl, hM, hm, hB, il, dl, cl, htab, ek, qe⟩ := h
    rfl
  · have hu := hu_of hr
    obtain ⟨m, bk, v, b, s, w, c, R, k, z, rfl, hM, hm, hB, il, dl, cl, htab, ek, qe⟩ := h
    refine ⟨_, (pss_cons (ps_expr (pe_callS (ok_need_book T) (hr.mono (by decide)) (by rfl) T.g_need_book T.F_need_book.kp T.b_need_book (fun σ => passAt (takes_of rfl rfl rfl rfl) σ) (pa_cons (pv 0) (pa_cons (pv 1) pa_nil)))) pss_never), ?_⟩
    dsimp only [cxOf, L2.start, List.map_cons, List.map_nil, List.length_cons, List.length_nil, List.replicate, List.cons_append, List.nil_append, Nat.reduceAdd, Nat.reduceSub]
    walk_at "rs"
    refine .inl ⟨m, bk, b, s, w, c, R, rfl, hM, hm, hB, il, dl, cl, htab, fun e => (by rw [ek] at e; cases e), fun k2 z2 e d H1 s1 h1 => ?_⟩
    rw [ek] at e
    cases e
    exact qe d H1 s1 h1

theorem ok__law_refusal (T : Txt K mg base) : FnOk P wd K mg base CX0 10 T.f__law_refusal T.fd__law_refusal ["_law_way", "_law_machine", "_law_book_here"] (spRefusal K T.tp_is_name) := by
  refine T.F__law_refusal.ok sc__law_refusal (fun vs H Q E h => ?_) (fun cdv A outer s H vs Q E hr h => ?_)
  · obtain ⟨y, m, bk, b, s, w, c, R, k, z, rfl, y0, y1, hM, hm, hB, il, dl, cl, htab, ek, q⟩ := h
    rfl
  · have hu := hu_of hr
    obtain ⟨y, m, bk, b, s, w, c, R, k, z, rfl, y0, y1, hM, hm, hB, il, dl, cl, htab, ek, q⟩ := h
    refine ⟨_, (pss_cons (ps_try_as (i := 3) rfl rfl sc__law_refusal.nd rfl rfl ⟨rfl, by decide, .inl T.gC_DrumError⟩ takes0 (fun W pn xe tk _ => (pss_one (ps_if (pt_cmpR (k_eq K rfl hr.units) (pv 0) pe_int (nomark _)) (pss_one (ps_expr (pe_callS (ok_worked T) (hr.mono (by decide)) (by rfl) T.g_worked T.F_worked.kp T.b_worked (fun σ => passAt tk σ) (pa_cons (pv 1) (pa_cons (pv 2) (pa_cons (pe_disp (pps_cons pe_str (pe_un un_neg pe_int) pps_nil) (by rfl) (by rfl) (fun z => by cases z) (by decide)) pa_nil)))))) (pss_one (ps_if (pt_cmpR (k_eq K rfl hr.units) (pv 0) pe_int (nomark _)) (pss_one (ps_expr (pe_callS (ok_looked T) (hr.mono (by decide)) (by rfl) T.g_looked T.F_looked.kp T.b_looked (fun σ => passAt tk σ) (pa_cons (pv 1) (pa_cons (pv 2) pa_nil))))) (pss_one (ps_expr (pe_callS (ok_need_book T) (hr.mono (by decide)) (by rfl) T.g_need_book T.F_need_book.kp T.b_need_book (fun σ => passAt tk σ) (pa_cons (pv 1) (pa_cons (pv 2) pa_nil)))))))))) (fun a oe cls d pn hz hf => (pss_cons (ps_if (PW.pt (pw_or (pt_val (pe_callB (call_isY K rfl hz hf) (by rfl) T.n_isinstance (by decide +kernel) (pa_cons (pv 3) (pa_cons (pe_tup (pa_cons (pe_glob (v := .ref T.C_BadDeed) (by rfl) T.gC_BadDeed rfl) (pa_cons (pe_glob (v := .ref T.C_BadMachine) (by rfl) T.gC_BadMachine rfl) (pa_cons (pe_glob (v := .ref T.C_BadValue) (by rfl) T.gC_BadValue rfl) (pa_cons (pe_glob (v := .ref T.C_Stuck) (by rfl) T.gC_Stuck rfl) (pa_cons (pe_glob (v := .ref T.C_TooSmall) (by rfl) T.gC_TooSmall rfl) pa_nil)))))) pa_nil)))) (pw_or1 (pt_not (pt_val (pe_callB (call_isY K rfl hz hf) (by rfl) T.n_isinstance (by decide +kernel) (pa_cons (pv 3) (pa_cons (pe_bltn (v := .ty "ValueError") (by rfl) T.n_ValueError (by decide +kernel) rfl) pa_nil)))))))) (pss_one (ps_ret pe_non)) pss_nil) (pss_one (ps_ret (pe_ifExp (PW.pt (pw_and (pt_val (pe_callB (call_isY K rfl hz hf) (by rfl) T.n_isinstance (by decide +kernel) (pa_cons (pv 3) (pa_cons (pe_glob (v := .ref T.C_BadBook) (by rfl) T.gC_BadBook rfl) pa_nil)))) (pw_and1 (pt_not (pt_val (pe_callB (k_isi K rfl) (by rfl) T.n_isinstance (by decide +kernel) (pa_cons (pe_xby K rfl hz hf (pv 3)) (pa_cons (pe_bltn (v := .ty "bool") (by rfl) T.n_bool (by decide +kernel) rfl) pa_nil)))))))) (pe_tup (pa_cons (pe_xby K rfl hz hf (pv 3)) (pa_cons (pe_xby K rfl hz hf (pv 3)) pa_nil))) pe_non)))))) (pss_one (ps_ret pe_non))), ?_⟩
    dsimp only [cxOf, L2.start, List.map_cons, List.map_nil, List.length_cons, List.length_nil, List.replicate, List.cons_append, List.nil_append, Nat.reduceAdd, Nat.reduceSub]
    rcases (show y = 0 ∨ y = 1 ∨ y = 2 by omega) with rfl | rfl | rfl
    · walk_at "rs"
      refine w_dispQ fun v0 hv0 => ?_
      dsimp only [tPairs]
      walk_at "rs"
      refine w_dispI hv0 [("x", -1)] rfl rfl (by simp) fun H0 s0 kv0 => ?_
      walk_at "rs"
      refine ⟨m, bk, _, b, s, w, c, R, k, z, rfl, SqT.tn s0.tn hM, hm, hB.tn s0.tn, il, dl, cl, (Same.smt (P := T.tp_is_name) s0).tabG htab, ek, fun d H1 s1' h1 => ?_⟩
      have s1 := s0.smt.trans s1'
      · refine ⟨true, T.mC_BadBook_DrumError, fun _ a ha => ?_, fun z => Bool.noConfusion z⟩
        walk_at "rs"
        refine w_new (by decide) fun tp H2 htp s2 h2 => ?_
        have hd2 := s2 _ _ h1
        refine ⟨T.C_BadBook, .ref tp, false, rfl, .inr ⟨d, _, rfl, hd2⟩, T.y_BadBook, rfl, .inr ⟨tp, _, _, rfl, h2, .cons (.own _) (.cons (.own _) (.cons (.own _) (.cons (.own _) (.cons (.own _) .nil)))), T.jC_BadBook_BadDeed_BadMachine_BadValue_Stuck_TooSmall⟩, ?_⟩
        walk_at "rs"
        refine ⟨T.C_BadBook, .ty "ValueError", true, rfl, .inr ⟨d, _, rfl, hd2⟩, T.y_BadBook, rfl, .inl ⟨_, .ty _, T.iC_BadBook_ValueError⟩, ?_⟩
        walk_at "rs"
        refine ⟨T.C_BadBook, .ref T.C_BadBook, true, rfl, .inr ⟨d, _, rfl, hd2⟩, T.y_BadBook, rfl, .inl ⟨_, .own _, T.iC_BadBook_BadBook⟩, ?_⟩
        walk_at "rs"
        refine ⟨rfl, T.C_BadBook, d, _, _, rfl, T.y_BadBook, T.no_BadBook_at, rfl, hd2, rfl, ?_⟩
        walk_at "rs"
        refine ⟨rfl, T.C_BadBook, d, _, _, rfl, T.y_BadBook, T.no_BadBook_at, rfl, hd2, rfl, ?_⟩
        walk_at "rs"
        refine ⟨rfl, T.C_BadBook, d, _, _, rfl, T.y_BadBook, T.no_BadBook_word, rfl, hd2, rfl, ?_⟩
        walk_at "rs"
        refine w_new (by decide) fun p H3 hp s3 h3 => ?_
        exact q p H3 (s1.trans (s2.trans s3).smt) (SqT.of h3)
    · walk_at "rs"
      refine .inl ⟨m, bk, b, s, w, c, R, k, z, rfl, hM, hm, hB, il, dl, cl, htab, ek, fun d H1 s1 h1 => ?_⟩
      · refine ⟨true, T.mC_BadBook_DrumError, fun _ a ha => ?_, fun z => Bool.noConfusion z⟩
        walk_at "rs"
        refine w_new (by decide) fun tp H2 htp s2 h2 => ?_
        have hd2 := s2 _ _ h1
        refine ⟨T.C_BadBook, .ref tp, false, rfl, .inr ⟨d, _, rfl, hd2⟩, T.y_BadBook, rfl, .inr ⟨tp, _, _, rfl, h2, .cons (.own _) (.cons (.own _) (.cons (.own _) (.cons (.own _) (.cons (.own _) .nil)))), T.jC_BadBook_BadDeed_BadMachine_BadValue_Stuck_TooSmall⟩, ?_⟩
        walk_at "rs"
        refine ⟨T.C_BadBook, .ty "ValueError", true, rfl, .inr ⟨d, _, rfl, hd2⟩, T.y_BadBook, rfl, .inl ⟨_, .ty _, T.iC_BadBook_ValueError⟩, ?_⟩
        walk_at "rs"
        refine ⟨T.C_BadBook, .ref T.C_BadBook, true, rfl, .inr ⟨d, _, rfl, hd2⟩, T.y_BadBook, rfl, .inl ⟨_, .own _, T.iC_BadBook_BadBook⟩, ?_⟩
        walk_at "rs"
        refine ⟨rfl, T.C_BadBook, d, _, _, rfl, T.y_BadBook, T.no_BadBook_at, rfl, hd2, rfl, ?_⟩
        walk_at "rs"
        refine ⟨rfl, T.C_BadBook, d, _, _, rfl, T.y_BadBook, T.no_BadBook_at, rfl, hd2, rfl, ?_⟩
        walk_at "rs"
        refine ⟨rfl, T.C_BadBook, d, _, _, rfl, T.y_BadBook, T.no_BadBook_word, rfl, hd2, rfl, ?_⟩
        walk_at "rs"
        refine w_new (by decide) fun p H3 hp s3 h3 => ?_
        exact q p H3 (s1.trans (s2.trans s3).smt) (SqT.of h3)
    · walk_at "rs"
      refine .inl ⟨m, bk, b, s, w, c, R, rfl, hM, hm, hB, il, dl, cl, htab, fun e => (by rw [ek] at e; cases e), fun k2 z2 e d H1 s1 h1 => ?_⟩
      rw [ek] at e
      cases e
      · refine ⟨true, T.mC_BadBook_DrumError, fun _ a ha => ?_, fun z => Bool.noConfusion z⟩
        walk_at "rs"
        refine w_new (by decide) fun tp H2 htp s2 h2 => ?_
        have hd2 := s2 _ _ h1
        refine ⟨T.C_BadBook, .ref tp, false, rfl, .inr ⟨d, _, rfl, hd2⟩, T.y_BadBook, rfl, .inr ⟨tp, _, _, rfl, h2, .cons (.own _) (.cons (.own _) (.cons (.own _) (.cons (.own _) (.cons (.own _) .nil)))), T.jC_BadBook_BadDeed_BadMachine_BadValue_Stuck_TooSmall⟩, ?_⟩
        walk_at "rs"
        refine ⟨T.C_BadBook, .ty "ValueError", true, rfl, .inr ⟨d, _, rfl, hd2⟩, T.y_BadBook, rfl, .inl ⟨_, .ty _, T.iC_BadBook_ValueError⟩, ?_⟩
        walk_at "rs"
        refine ⟨T.C_BadBook, .ref T.C_BadBook, true, rfl, .inr ⟨d, _, rfl, hd2⟩, T.y_BadBook, rfl, .inl ⟨_, .own _, T.iC_BadBook_BadBook⟩, ?_⟩
        walk_at "rs"
        refine ⟨rfl, T.C_BadBook, d, _, _, rfl, T.y_BadBook, T.no_BadBook_at, rfl, hd2, rfl, ?_⟩
        walk_at "rs"
        refine ⟨rfl, T.C_BadBook, d, _, _, rfl, T.y_BadBook, T.no_BadBook_at, rfl, hd2, rfl, ?_⟩
        walk_at "rs"
        refine ⟨rfl, T.C_BadBook, d, _, _, rfl, T.y_BadBook, T.no_BadBook_word, rfl, hd2, rfl, ?_⟩
        walk_at "rs"
        refine w_new (by decide) fun p H3 hp s3 h3 => ?_
        exact q p H3 (s1.trans (s2.trans s3).smt) (SqT.of h3)

theorem ok__law_bad_deed (T : Txt K mg base) : FnOk P wd K mg base CX0 2 T.f__law_bad_deed T.fd__law_bad_deed ["_law_h", "_law_inputs_here"] (spBadDeed K) := by
  refine T.F__law_bad_deed.ok sc__law_bad_deed (fun vs H Q E h => ?_) (fun cdv A outer s H vs Q E hr h => ?_)
  · obtain ⟨a, cl, li, s, xs, ins, rfl, hd, hli, hp, hne, hio, hs6, hfar, q⟩ := h
    rfl
  · have hu := hu_of hr
    obtain ⟨a, cl, li, s, xs, ins, rfl, hd, hli, hp, hne, hio, hs6, hfar, q⟩ := h
    refine ⟨_, (pss_cons (ps_asg (pe_ix (k_ix K rfl) (pv 1) pe_int (fun _ _ => rfl)) (pg_tup (n := 3) rfl (pgs_cons (pg_name (i := 2) sc__law_bad_deed.nd rfl (Or.inl rfl)) (pgs_cons (pg_name (i := 3) sc__law_bad_deed.nd rfl (Or.inl rfl)) (pgs_cons (pg_name (i := 4) sc__law_bad_deed.nd rfl (Or.inl rfl)) pgs_nil))))) (pss_cons (ps_set (i := 5) sc__law_bad_deed.nd rfl (Or.inl rfl) (pe_lst (pa_cons (pe_tup (pa_cons pe_str (pa_cons pe_str pa_nil))) (pa_cons (pe_tup (pa_cons pe_str pa_nil)) (pa_cons (pe_tup (pa_cons pe_str (pa_cons pe_int pa_nil))) (pa_cons (pe_tup (pa_cons pe_str pa_nil)) (pa_cons (pe_tup (pa_cons pe_str (pa_cons pe_int (pa_cons pe_int pa_nil)))) (pa_cons (pe_tup (pa_cons pe_str (pa_cons pe_int (pa_cons pe_int pa_nil)))) (pa_cons (pe_tup (pa_cons pe_str (pa_cons pe_int (pa_cons pe_int pa_nil)))) pa_nil))))))))) (pss_cons (ps_expr (pe_bm PySem.F.plainAttrs_list PySem.F.slot_list_append PySem.F.type_list_append mt_append (pv 5) (pa_cons (pe_tup (pa_cons pe_str (pa_cons pe_int pa_nil))) pa_nil))) (pss_cons (ps_set (i := 5) sc__law_bad_deed.nd rfl (Or.inl rfl) (pe_op (k_add K rfl) (pv 5) (pe_lst (pa_cons (pe_tup (pa_cons pe_str (pa_cons pe_str pa_nil))) (pa_cons (pe_tup (pa_cons pe_str (pa_cons pe_str pa_nil))) (pa_cons (pe_tup (pa_cons pe_str (pa_cons (pv 2) (pa_cons (pv 3) (pa_cons pe_int (pa_cons pe_int pa_nil)))))) (pa_cons (pe_tup (pa_cons pe_str (pa_cons (pv 2) (pa_cons (pe_un un_neg pe_int) (pa_cons pe_int (pa_cons pe_int pa_nil)))))) pa_nil))))))) (pss_cons (ps_set (i := 5) sc__law_bad_deed.nd rfl (Or.inl rfl) (pe_op (k_add K rfl) (pv 5) (pe_lst (pa_cons (pe_tup (pa_cons pe_str (pa_cons pe_str (pa_cons pe_int (pa_cons pe_int (pa_cons pe_int pa_nil)))))) (pa_cons (pe_tup (pa_cons pe_str (pa_cons (pv 2) (pa_cons pe_int (pa_cons pe_int (pa_cons pe_int pa_nil)))))) (pa_cons (pe_tup (pa_cons pe_str (pa_cons (pv 2) (pa_cons pe_int (pa_cons pe_int (pa_cons (pe_un un_neg pe_int) pa_nil)))))) (pa_cons (pe_tup (pa_cons pe_str (pa_cons (pv 2) (pa_cons pe_int (pa_cons pe_int pa_nil))))) pa_nil))))))) (pss_cons (ps_set (i := 5) sc__law_bad_deed.nd rfl (Or.inl rfl) (pe_op (k_add K rfl) (pv 5) (pe_lst (pa_cons (pe_tup (pa_cons pe_str (pa_cons pe_int pa_nil))) (pa_cons (pe_tup (pa_cons pe_str pa_nil)) (pa_cons (pe_tup (pa_cons pe_str (pa_cons (pe_un un_neg pe_int) pa_nil))) (pa_cons (pe_tup (pa_cons pe_str (pa_cons pe_int (pa_cons pe_int pa_nil)))) (pa_cons (pe_tup (pa_cons pe_str (pa_cons pe_int pa_nil))) (pa_cons (pe_tup (pa_cons pe_str (pa_cons pe_int (pa_cons pe_int (pa_cons pe_int pa_nil))))) pa_nil))))))))) (pss_one (ps_ret (pe_ix (k_ix K rfl) (pv 5) (pe_call (ok__law_next T) (hr.mono (by decide)) (by rfl) T.g__law_next T.F__law_next.kp T.b__law_next .nil pass0 (pa_cons (pv 0) (pa_cons (pe_callB (k_len K rfl) (by rfl) T.n_len (by decide +kernel) (pa_cons (pv 5) pa_nil)) pa_nil))) (fun _ _ => rfl)))))))))), ?_⟩
    dsimp only [cxOf, L2.start, List.map_cons, List.map_nil, List.length_cons, List.length_nil, List.replicate, List.cons_append, List.nil_append, Nat.reduceAdd, Nat.reduceSub]
    obtain ⟨x0, i0, rest, hx0, hi0, hm0⟩ : ∃ x0 i0, ∃ rest, xs = x0 :: rest ∧ InpAt K H x0 i0 ∧ i0 ∈ ins := by
      cases hp with
      | nil => exact absurd rfl hne
      | cons h t => exact ⟨_, _, _, rfl, h, List.mem_cons_self⟩
    have hx5 : SqT K H x0 [.str i0.nm, .int i0.fg, .int i0.ls] := hi0
    have hzz : ("zz" : Str) ∉ names ins := fun z => hfar _ z (by decide +kernel)
    have hfg := figs_of_mem hio hm0
    obtain ⟨f1, f2⟩ := figs_bound hio hfg
    have nt : ∀ (k x y : Int), (decide (0 ≤ k) && decide (k < i0.fg) && wayOk x && tallyOk y) = false → rdeeOk ins (.ok (.turns i0.nm k x y)) = false := fun k x y h => no_turns fun f e => by
      rw [hfg] at e
      cases e
      exact h
    have nzz : ∀ (k x y : Int), rdeeOk ins (.ok (.turns "zz" k x y)) = false := fun k x y => no_turns fun f e => by
      rw [figsOf_none hzz] at e
      cases e
    have A0 : AllR K ins H [] := .nil
    walk_at "rs"
    refine w_ixT hli (v := .ref x0) (by rw [hx0]; exact atI_of (k := 0) (by decide) rfl) ?_
    walk_at "rs"
    refine w_new (by decide) fun t1 H1 p1 s1 h1 => ?_
    have A1 := A0.snoc s1 (.ok (.load "zz")) (d := t1) ⟨SqT.of h1, trivial⟩ (no_load hzz)
    walk_at "rs"
    refine w_new (by decide) fun t2 H2 p2 s2 h2 => ?_
    have A2 := A1.snoc s2 (.bad "load" []) (d := t2) ⟨SqT.of h2, by decide +kernel, by simp⟩ (rfl)
    walk_at "rs"
    refine w_new (by decide) fun t3 H3 p3 s3 h3 => ?_
    have A3 := A2.snoc s3 (.bad "one" [.int 1]) (d := t3) ⟨SqT.of h3, by decide +kernel, by simp⟩ (rfl)
    walk_at "rs"
    refine w_new (by decide) fun t4 H4 p4 s4 h4 => ?_
    have A4 := A3.snoc s4 (.bad "shift" []) (d := t4) ⟨SqT.of h4, by decide +kernel, by simp⟩ (rfl)
    walk_at "rs"
    refine w_new (by decide) fun t5 H5 p5 s5 h5 => ?_
    have A5 := A4.snoc s5 (.ok (.turn 0 1)) (d := t5) ⟨SqT.of h5, trivial⟩ rfl
    walk_at "rs"
    refine w_new (by decide) fun t6 H6 p6 s6 h6 => ?_
    have A6 := A5.snoc s6 (.ok (.turn 1 2)) (d := t6) ⟨SqT.of h6, trivial⟩ rfl
    walk_at "rs"
    refine w_new (by decide) fun t7 H7 p7 s7 h7 => ?_
    have A7 := A6.snoc s7 (.ok (.turn 2 0)) (d := t7) ⟨SqT.of h7, trivial⟩ rfl
    walk_at "rs"
    refine w_new (by decide) fun t8 H8 p8 s8 h8 => ?_
    have A8 := A7.tn s8.tn
    walk_at "rs"
    refine w_new (by decide) fun t9 H9 p9 s9 h9 => ?_
    have A9 := A8.snoc s9 (.bad "turn" [.int 1]) (d := t9) ⟨SqT.of h9, by decide +kernel, by simp⟩ (rfl)
    have S0 := s1.trans (s2.trans (s3.trans (s4.trans (s5.trans (s6.trans (s7.trans (s8.trans s9)))))))
    have L1 := s9 _ _ h8
    walk_at "rs"
    refine w_append L1 (show (7 : Nat) ≤ 100000 by decide) fun H10 e10 h10 => ?_
    have t910 : Tn H9 H10 := tn_mut e10 L1
    have A10 := A9.tn t910
    have S7 := s1.trans (s2.trans (s3.trans (s4.trans (s5.trans (s6.trans s7)))))
    have p8' : H t8 = none := S7.free p8
    have D10 : Drew a cl H H10 := e10 ▸ ((Drew.refl hd).same S0).mut hd p8' L1
    walk_at "rs"
    refine w_new (by decide) fun t11 H11 p11 s11 h11 => ?_
    have A11 := (AllR.nil (K := K) (ins := ins) (H := H10)).snoc s11 (.wip "setting") (d := t11) ⟨SqT.of h11, trivial⟩ (show decide (("setting" : Str) ∈ (["wheels", "counts"] : List Str)) = false by decide +kernel)
    walk_at "rs"
    refine w_new (by decide) fun t12 H12 p12 s12 h12 => ?_
    have A12 := A11.snoc s12 (.wip "") (d := t12) ⟨SqT.of h12, trivial⟩ (show decide (("" : Str) ∈ (["wheels", "counts"] : List Str)) = false by decide +kernel)
    walk_at "rs"
    refine w_new (by decide) fun t13 H13 p13 s13 h13 => ?_
    have A13 := A12.snoc s13 (.ok (.turns i0.nm i0.fg 1 1)) (d := t13) ⟨SqT.of h13, trivial⟩ (nt _ _ _ (by simp))
    walk_at "rs"
    refine w_new (by decide) fun t14 H14 p14 s14 h14 => ?_
    have A14 := A13.snoc s14 (.ok (.turns i0.nm (-1) 1 1)) (d := t14) ⟨SqT.of h14, trivial⟩ (nt _ _ _ (by simp))
    walk_at "rs"
    refine w_new (by decide) fun t15 H15 p15 s15 h15 => ?_
    have A15 := A14.tn s15.tn
    have S15 := ((((s11).trans s12).trans s13).trans s14).trans s15
    walk_at "rs"
    refine w_catL (S15 _ _ h10) h15 (by simp) fun t16 H16 p16 s16 h16 => ?_
    have A16 := ((A10.tn S15.tn).app A15).tn s16.tn
    have D16 := (D10.same S15).same s16
    walk_at "rs"
    refine w_new (by decide) fun t17 H17 p17 s17 h17 => ?_
    have A17 := (AllR.nil (K := K) (ins := ins) (H := H16)).snoc s17 (.ok (.turns "zz" 0 1 1)) (d := t17) ⟨SqT.of h17, trivial⟩ (nzz _ _ _)
    walk_at "rs"
    refine w_new (by decide) fun t18 H18 p18 s18 h18 => ?_
    have A18 := A17.snoc s18 (.ok (.turns i0.nm 0 0 1)) (d := t18) ⟨SqT.of h18, trivial⟩ (nt _ _ _ (by simp [wayOk]))
    walk_at "rs"
    refine w_new (by decide) fun t19 H19 p19 s19 h19 => ?_
    have A19 := A18.snoc s19 (.ok (.turns i0.nm 0 1 (-2))) (d := t19) ⟨SqT.of h19, trivial⟩ (nt _ _ _ (by simp [tallyOk]))
    walk_at "rs"
    refine w_new (by decide) fun t20 H20 p20 s20 h20 => ?_
    have A20 := A19.snoc s20 (.bad "turns" [.str i0.nm, .int 0, .int 1]) (d := t20) ⟨SqT.of h20, (show shapeD "turns" 3 = false by decide +kernel), by simp⟩ (rfl)
    walk_at "rs"
    refine w_new (by decide) fun t21 H21 p21 s21 h21 => ?_
    have A21 := A20.tn s21.tn
    have S21 := ((((s17).trans s18).trans s19).trans s20).trans s21
    walk_at "rs"
    refine w_catL (S21 _ _ h16) h21 (by simp) fun t22 H22 p22 s22 h22 => ?_
    have A22 := ((A16.tn S21.tn).app A21).tn s22.tn
    have D22 := (D16.same S21).same s22
    walk_at "rs"
    refine w_new (by decide) fun t23 H23 p23 s23 h23 => ?_
    have A23 := (AllR.nil (K := K) (ins := ins) (H := H22)).snoc s23 (.ok (.bell 2)) (d := t23) ⟨SqT.of h23, trivial⟩ rfl
    walk_at "rs"
    refine w_new (by decide) fun t24 H24 p24 s24 h24 => ?_
    have A24 := A23.snoc s24 (.bad "bell" []) (d := t24) ⟨SqT.of h24, by decide +kernel, by simp⟩ (rfl)
    walk_at "rs"
    refine w_new (by decide) fun t25 H25 p25 s25 h25 => ?_
    have A25 := A24.snoc s25 (.ok (.odds (-2))) (d := t25) ⟨SqT.of h25, trivial⟩ rfl
    walk_at "rs"
    refine w_new (by decide) fun t26 H26 p26 s26 h26 => ?_
    have A26 := A25.snoc s26 (.bad "set" [.int 0, .int 1]) (d := t26) ⟨SqT.of h26, by decide +kernel, by simp⟩ (rfl)
    walk_at "rs"
    refine w_new (by decide) fun t27 H27 p27 s27 h27 => ?_
    have A27 := A26.snoc s27 (.bad "odd" [.int 1]) (d := t27) ⟨SqT.of h27, by decide +kernel, by simp⟩ (rfl)
    walk_at "rs"
    refine w_new (by decide) fun t28 H28 p28 s28 h28 => ?_
    have A28 := A27.snoc s28 (.bad "turn" [.int 1, .int 0, .int 0]) (d := t28) ⟨SqT.of h28, by decide +kernel, by simp⟩ (rfl)
    walk_at "rs"
    refine w_new (by decide) fun t29 H29 p29 s29 h29 => ?_
    have A29 := A28.tn s29.tn
    have S29 := ((((((s23).trans s24).trans s25).trans s26).trans s27).trans s28).trans s29
    walk_at "rs"
    refine w_catL (S29 _ _ h22) h29 (by simp) fun t30 H30 p30 s30 h30 => ?_
    have A30 := ((A22.tn S29.tn).app A29).tn s30.tn
    have D30 := (D22.same S29).same s30
    walk_at "rs"
    refine w_nx D30.dr (by simp) (by simp) fun r HZ r0 r1 DZ => ?_
    obtain ⟨d, rd, e1, e2, e3⟩ := (A30.tn DZ.tn).pick r0 (by simpa using r1)
    refine w_ixL (SqL.of (DZ.at (off_new (D22.dr.same S29) p30) h30)) e1 ?_
    exact q d rd HZ e2 e3 (D30.trans DZ)

theorem ok__law_bad_input (T : Txt K mg base) : FnOk P wd K mg base CX0 2 T.f__law_bad_input T.fd__law_bad_input ["_law_h", "_law_machine", "_law_inputs_here"] (spBadInput K) := by
  refine T.F__law_bad_input.ok sc__law_bad_input (fun vs H Q E h => ?_) (fun cdv A outer s H vs Q E hr h => ?_)
  · obtain ⟨a, cl, m, li, b, s, w, c, xs, ins, rfl, hd, hM, hm, hli, hp, hne, hnl, q⟩ := h
    rfl
  · have hu := hu_of hr
    obtain ⟨a, cl, m, li, b, s, w, c, xs, ins, rfl, hd, hM, hm, hli, hp, hne, hnl, q⟩ := h
    refine ⟨_, (pss_cons (ps_set (i := 3) sc__law_bad_input.nd rfl (Or.inl rfl) (pe_slice sl_str pe_str (po_some (pe_call (ok__law_next T) (hr.mono (by decide)) (by rfl) T.g__law_next T.F__law_next.kp T.b__law_next .nil pass0 (pa_cons (pv 0) (pa_cons pe_int pa_nil)))) po_none)) (pss_cons (ps_set (i := 4) sc__law_bad_input.nd rfl (Or.inl rfl) (pe_call (ok__law_next T) (hr.mono (by decide)) (by rfl) T.g__law_next T.F__law_next.kp T.b__law_next .nil pass0 (pa_cons (pv 0) (pa_cons (pe_callB (k_len K rfl) (by rfl) T.n_len (by decide +kernel) (pa_cons (pv 3) pa_nil)) pa_nil)))) (pss_cons (ps_set (i := 3) sc__law_bad_input.nd rfl (Or.inl rfl) (pe_op (k_add K rfl) (pe_op (k_add K rfl) (pe_slice sl_str (pv 3) po_none (po_some (pv 4))) (pe_ix (k_ix K rfl) pe_str (pe_call (ok__law_next T) (hr.mono (by decide)) (by rfl) T.g__law_next T.F__law_next.kp T.b__law_next .nil pass0 (pa_cons (pv 0) (pa_cons pe_int pa_nil))) (fun _ _ => rfl))) (pe_slice sl_str (pv 3) (po_some (pe_op (k_add K rfl) (pv 4) pe_int)) po_none))) (pss_cons (ps_set (i := 5) sc__law_bad_input.nd rfl (Or.inl rfl) (pe_ix (k_ix K rfl) (pe_lst (pa_cons pe_str (pa_cons pe_str (pa_cons pe_str (pa_cons pe_str (pa_cons pe_str (pa_cons pe_str (pa_cons pe_str (pa_cons (pv 3) (pa_cons (pv 3) pa_nil)))))))))) (pe_call (ok__law_next T) (hr.mono (by decide)) (by rfl) T.g__law_next T.F__law_next.kp T.b__law_next .nil pass0 (pa_cons (pv 0) (pa_cons pe_int pa_nil))) (fun _ _ => rfl))) (pss_cons (ps_set (i := 6) sc__law_bad_input.nd rfl (Or.inl rfl) (pe_lst (pa_cons (pe_tup (pa_cons (pv 5) (pa_cons pe_int (pa_cons pe_int pa_nil)))) (pa_cons (pe_tup (pa_cons (pe_ix (k_ix K rfl) (pe_ix (k_ix K rfl) (pv 2) pe_int (fun _ _ => rfl)) pe_int (fun _ _ => rfl)) (pa_cons pe_int (pa_cons pe_int pa_nil)))) (pa_cons (pe_tup (pa_cons pe_str (pa_cons pe_int (pa_cons pe_int pa_nil)))) (pa_cons (pe_tup (pa_cons pe_str (pa_cons (pe_op (k_add K rfl) (pe_ix (k_ix K rfl) (pv 1) pe_int (fun _ _ => rfl)) pe_int) (pa_cons pe_int pa_nil)))) (pa_cons (pe_tup (pa_cons pe_str (pa_cons pe_int (pa_cons pe_int pa_nil)))) (pa_cons (pe_tup (pa_cons pe_str (pa_cons pe_int (pa_cons (pe_un un_neg pe_int) pa_nil)))) pa_nil)))))))) (pss_one (ps_ret (pe_ix (k_ix K rfl) (pv 6) (pe_call (ok__law_next T) (hr.mono (by decide)) (by rfl) T.g__law_next T.F__law_next.kp T.b__law_next .nil pass0 (pa_cons (pv 0) (pa_cons pe_int pa_nil))) (fun _ _ => rfl))))))))), ?_⟩
    dsimp only [cxOf, L2.start, List.map_cons, List.map_nil, List.length_cons, List.length_nil, List.replicate, List.cons_append, List.nil_append, Nat.reduceAdd, Nat.reduceSub]
    obtain ⟨b0, b1, s0, s1, w0, w1, c0, c1⟩ := id hm
    have hM' : SqT K H m [.int b, .int s, .int w, .int c] := hM
    walk_at "rs"
    refine w_nx hd (by omega) (by omega) fun r1 H1 r10 r11 D1 => ?_
    walk_at "rs"
    refine w_slS (by decide +kernel) ?_
    have wl := word_len r10 r11
    walk_at "rs"
    refine w_lenS (by omega) ?_
    walk_at "rs"
    refine w_nx D1.dr (by omega) (by omega) fun at_ H2 a0 a1 D2 => ?_
    walk_at "rs"
    refine w_slS (by omega) ?_
    walk_at "rs"
    refine w_nx D2.dr (by omega) (by omega) fun k H3 k0 k1 D3 => ?_
    obtain ⟨sg, esg, hsg⟩ := sgn_at k0 k1
    walk_at "rs"
    refine w_ixS (by decide +kernel) esg ?_
    rw [hsg]
    have l1 := cutS_length (cutS "qwertyui" (some r1) none) none (some at_)
    have l2 := cutS_length (cutS "qwertyui" (some r1) none) (some (at_ + 1)) none
    have ls : (sgnOf k.toNat).length = 1 := rfl
    walk_at "rs"
    refine w_catS (by omega) ?_
    walk_at "rs"
    refine w_slS (by omega) ?_
    walk_at "rs"
    refine w_catS (by rw [len_app]; omega) ?_
    have hpo : poor (spoil r1 at_ k.toNat) = true := spoil_poor r10 (by omega) a0 (by omega) k0 (by omega)
    rw [show (cutS (cutS "qwertyui" (some r1) none) none (some at_) ++ sgnOf k.toNat) ++ cutS (cutS "qwertyui" (some r1) none) (some (at_ + 1)) none = spoil r1 at_ k.toNat from rfl]
    generalize spoil r1 at_ k.toNat = word at hpo
    have D03 := (D1.trans D2).trans D3
    walk_at "rs"
    refine w_new (by decide) fun p1 H4 hp1 s4 h4 => ?_
    walk_at "rs"
    refine w_nx (D03.dr.same s4) (by omega) (by omega) fun r5 H5 r50 r51 D5 => ?_
    have D05 := (D03.same s4).trans D5
    have o1 := off_new D03.dr hp1
    obtain ⟨nm, enm, hnm⟩ := pickStr (ns := ["", "ninesigns", "A", "a b", "wheels", "counts", "a1", word, word]) r50 (by simp; omega)
    have hpo2 : poor nm = true := by
      simp only [List.mem_cons, List.mem_nil_iff, or_false] at hnm
      rcases hnm with rfl | rfl | rfl | rfl | rfl | rfl | rfl | rfl | rfl
      · decide +kernel
      · decide +kernel
      · decide +kernel
      · decide +kernel
      · decide +kernel
      · decide +kernel
      · decide +kernel
      · exact hpo
      · exact hpo
    have hpo3 : nameOk nm = false ∧ nm.length ≤ 20 := by
      unfold poor at hpo2
      simpa using hpo2
    refine w_ixL (SqL.of (D5.at o1 h4)) enm ?_
    obtain ⟨x0, i0, rest, hx0, hi0, hm0⟩ : ∃ x0 i0, ∃ rest, xs = x0 :: rest ∧ InpAt K H x0 i0 ∧ i0 ∈ ins := by
      cases hp with
      | nil => exact absurd rfl hne
      | cons h t => exact ⟨_, _, _, rfl, h, List.mem_cons_self⟩
    have li5 : SqT K H5 li (xs.map V.ref) := SqT.tn D05.tn hli
    have hx5 : SqT K H5 x0 [.str i0.nm, .int i0.fg, .int i0.ls] := SqT.tn D05.tn hi0
    walk_at "rs"
    refine w_new (by decide) fun t1 H6 ht1 s6 h6 => ?_
    walk_at "rs"
    refine w_ixT (SqT.tn s6.tn li5) (v := .ref x0) (by rw [hx0]; exact atI_of (k := 0) (by decide) rfl) ?_
    walk_at "rs"
    refine w_ixT (SqT.tn s6.tn hx5) rfl ?_
    walk_at "rs"
    refine w_new (by decide) fun t2 H7 ht2 s7 h7 => ?_
    walk_at "rs"
    refine w_new (by decide) fun t3 H8 ht3 s8 h8 => ?_
    walk_at "rs"
    have hM8 : SqT K H8 m [.int b, .int s, .int w, .int c] := SqT.tn (((D05.tn.trans s6.tn).trans s7.tn).trans s8.tn) hM'
    walk_at "rs"
    refine w_new (by decide) fun t4 H9 ht4 s9 h9 => ?_
    walk_at "rs"
    refine w_new (by decide) fun t5 H10 ht5 s10 h10 => ?_
    walk_at "rs"
    refine w_new (by decide) fun t6 H11 ht6 s11 h11 => ?_
    walk_at "rs"
    refine w_new (by decide) fun t7 H12 ht7 s12 h12 => ?_
    walk_at "rs"
    have e712 := (((s8.trans s9).trans s10).trans s11).trans s12
    have z2 : ("zz" : Str).length ≤ 1000 := by decide +kernel
    have al : AllI K s (names ins) H12 [.ref t1, .ref t2, .ref t3, .ref t4, .ref t5, .ref t6] :=
      .cons ⟨nm, 1, 0⟩ (SqT.tn (s7.trans e712).tn (SqT.of h6)) (inp_name hpo3.1) (by show nm.length ≤ 1000; omega)
      (.cons ⟨i0.nm, 1, 0⟩ (SqT.tn e712.tn (SqT.of h7)) (inp_twice (show i0.nm ∈ names ins from List.mem_map_of_mem (f := (·.nm)) hm0)) (hnl i0 hm0)
      (.cons ⟨"zz", 0, 0⟩ (SqT.tn (((s9.trans s10).trans s11).trans s12).tn (SqT.of h8)) (inp_figs (by show ¬ ((1 : Int) ≤ 0 ∧ (0 : Int) ≤ s); omega)) z2
      (.cons ⟨"zz", s + 1, 0⟩ (SqT.tn ((s10.trans s11).trans s12).tn (SqT.of h9)) (inp_figs (by show ¬ ((1 : Int) ≤ s + 1 ∧ s + 1 ≤ s); omega)) z2
      (.cons ⟨"zz", 1, 2⟩ (SqT.tn (s11.trans s12).tn (SqT.of h10)) (inp_least (by show ¬ ((2 : Int) = 0 ∨ (2 : Int) = 1); omega)) z2
      (.cons ⟨"zz", 1, -1⟩ (SqT.tn s12.tn (SqT.of h11)) (inp_least (by show ¬ ((-1 : Int) = 0 ∨ (-1 : Int) = 1); omega)) z2 .nil)))))
    have S := (s6.trans s7).trans e712
    refine w_nx (D05.dr.same S) (by omega) (by omega) fun r13 H13 r130 r131 D13 => ?_
    obtain ⟨d, i, e1, e2, e3, e4⟩ := (al.tn D13.tn).pick r130 (by simp; omega)
    refine w_ixL (SqL.of (D13.at (off_new (D05.dr.same ((s6.trans s7).trans (((s8.trans s9).trans s10).trans s11))) ht7) h12)) e1 ?_
    exact q d i H13 e2 e3 e4 ((D05.same S).trans D13)

theorem ok__law_bad_side (T : Txt K mg base) : FnOk P wd K mg base CX0 2 T.f__law_bad_side T.fd__law_bad_side ["_law_h", "_law_good"] (spBadSide K) := by
  refine T.F__law_bad_side.ok sc__law_bad_side (fun vs H Q E h => ?_) (fun cdv A outer s H vs Q E hr h => ?_)
  · obtain ⟨a, cl, g, ins, rfl, hd, hg, hfar, q⟩ := h
    rfl
  · have hu := hu_of hr
    obtain ⟨a, cl, g, ins, rfl, hd, hg, hfar, q⟩ := h
    refine ⟨_, (pss_cons (ps_set (i := 2) sc__law_bad_side.nd rfl (Or.inl rfl) (pv 1)) (pss_cons (ps_for PassesOwn.never rfl (pi_range1 rfl T.n_range (pa_cons pe_int pa_nil)) (pg_name (i := 3) sc__law_bad_side.nd rfl (Or.inl rfl)) (pss_one (ps_set (i := 2) sc__law_bad_side.nd rfl (Or.inl rfl) (pe_ifExp (pt_cmpR (k_eq K rfl hr.units) (pe_call (ok__law_next T) (hr.mono (by decide)) (by rfl) T.g__law_next T.F__law_next.kp T.b__law_next .nil pass0 (pa_cons (pv 0) (pa_cons pe_int pa_nil))) pe_int (nomark _)) (pe_tup (pa_cons pe_str (pa_cons (pv 2) (pa_cons (pe_tup (pa_cons pe_str (pa_cons pe_int pa_nil))) pa_nil)))) (pe_tup (pa_cons pe_str (pa_cons (pe_tup (pa_cons pe_str (pa_cons pe_int pa_nil))) (pa_cons (pv 2) pa_nil)))))))) (pss_cons (ps_set (i := 4) sc__law_bad_side.nd rfl (Or.inl rfl) (pe_lst (pa_cons (pv 2) (pa_cons (pe_tup (pa_cons pe_str (pa_cons (pe_un un_neg pe_int) pa_nil))) (pa_cons (pe_tup (pa_cons pe_str (pa_cons (pe_op (k_add K rfl) (pe_op op_pow pe_int pe_int) pe_int) pa_nil))) (pa_cons (pe_tup (pa_cons pe_str pa_nil)) (pa_cons (pe_tup (pa_cons pe_str (pa_cons pe_str pa_nil))) (pa_cons (pe_tup (pa_cons pe_str pa_nil)) (pa_cons (pe_tup (pa_cons pe_str (pa_cons pe_int pa_nil))) (pa_cons (pe_tup (pa_cons pe_str pa_nil)) pa_nil)))))))))) (pss_cons (ps_set (i := 4) sc__law_bad_side.nd rfl (Or.inl rfl) (pe_op (k_add K rfl) (pv 4) (pe_lst (pa_cons (pe_tup (pa_cons pe_str (pa_cons (pv 1) pa_nil))) (pa_cons (pe_tup (pa_cons pe_str (pa_cons (pv 1) (pa_cons (pv 1) (pa_cons (pv 1) pa_nil))))) (pa_cons (pe_tup (pa_cons pe_str (pa_cons (pv 1) (pa_cons (pv 1) pa_nil)))) (pa_cons (pe_tup (pa_cons pe_str (pa_cons (pv 1) (pa_cons (pe_tup (pa_cons pe_str (pa_cons (pe_un un_neg pe_int) pa_nil))) pa_nil)))) pa_nil))))))) (pss_one (ps_ret (pe_ix (k_ix K rfl) (pv 4) (pe_call (ok__law_next T) (hr.mono (by decide)) (by rfl) T.g__law_next T.F__law_next.kp T.b__law_next .nil pass0 (pa_cons (pv 0) (pa_cons pe_int pa_nil))) (fun _ _ => rfl)))))))), ?_⟩
    dsimp only [cxOf, L2.start, List.map_cons, List.map_nil, List.length_cons, List.length_nil, List.replicate, List.cons_append, List.nil_append, Nat.reduceAdd, Nat.reduceSub]
    have hzz : ("zz" : Str) ∉ names ins := fun z => hfar _ z (by decide +kernel)
    walk_at "rs"
    refine w_rngI (by decide) ?_
    refine lp_range0 (fun i σ H' => ∃ (x : Addr) (p : RSid) (x3 x4 : Option V), σ = [some (.ref a), some (.ref g), some (.ref x), x3, x4] ∧ RSidAt K H' x p ∧ rsidOk ins p i = false ∧ Drew a cl H H') ⟨g, .wheels, none, none, rfl, hg, rfl, Drew.refl hd⟩ ?_ ?_
    · rintro i σ H1 hi ⟨x, p, x3, x4, rfl, hx, hno, D1⟩
      walk_at "rs"
      refine w_nx D1.dr (by omega) (by omega) fun r H2 r0 r1 D2 => ?_
      have D12 := D1.trans D2
      walk_at "rs"
      refine w_ite (fun g1 => ?_) (fun g1 => ?_)
      · walk_at "rs"
        refine w_new (by decide) fun t1 H3 p1 s3 h3 => ?_
        walk_at "rs"
        refine w_new (by decide) fun t2 H4 p2 s4 h4 => ?_
        refine ⟨t2, .add p (.num 1), _, _, rfl, .add (SqT.of h4) (hx.tn (D2.tn.trans (s3.trans s4).tn)) (.num (SqT.tn s4.tn (SqT.of h3))), ?_, D12.same (s3.trans s4)⟩
        show (rsidOk ins p i && rsidOk ins (.num 1) i) = false
        rw [hno]
        rfl
      · walk_at "rs"
        refine w_new (by decide) fun t1 H3 p1 s3 h3 => ?_
        walk_at "rs"
        refine w_new (by decide) fun t2 H4 p2 s4 h4 => ?_
        refine ⟨t2, .times (.num 1) p, _, _, rfl, .times (SqT.of h4) (.num (SqT.tn s4.tn (SqT.of h3))) (hx.tn (D2.tn.trans (s3.trans s4).tn)), ?_, D12.same (s3.trans s4)⟩
        show (rsidOk ins (.num 1) i && rsidOk ins p i) = false
        rw [hno, Bool.and_false]
    · rintro σ H0 ⟨x, p, x3, x4, rfl, hx, hno, D0⟩
      have hg0 := hg.tn D0.tn
      have A0 : AllT K ins H0 [.ref x] := (AllT.nil (K := K) (ins := ins) (H := H0)).snoc (Same.refl H0) p hx hno
      walk_at "rs"
      refine w_new (by decide) fun t1 H1 p1 s1 h1 => ?_
      have A1 := A0.snoc s1 (.num (-1)) (d := t1) (.num (SqT.of h1)) (rfl)
      walk_at "rs"
      refine w_new (by decide) fun t2 H2 p2 s2 h2 => ?_
      have A2 := A1.snoc s2 (.num (10 ^ 9 + 1)) (d := t2) (.num (SqT.of h2)) (rfl)
      walk_at "rs"
      refine w_new (by decide) fun t3 H3 p3 s3 h3 => ?_
      have A3 := A2.snoc s3 (.bad) (d := t3) (.bad (w := "num") (SqT.of h3) (show shapeS "num" 0 = false by decide +kernel) (by simp)) (rfl)
      walk_at "rs"
      refine w_new (by decide) fun t4 H4 p4 s4 h4 => ?_
      have A4 := A3.snoc s4 (.inp "zz") (d := t4) (.inp (SqT.of h4)) (show (figsOf ins "zz").isSome = false by rw [figsOf_none hzz]; rfl)
      walk_at "rs"
      refine w_new (by decide) fun t5 H5 p5 s5 h5 => ?_
      have A5 := A4.snoc s5 (.bad) (d := t5) (.bad (w := "input") (SqT.of h5) (show shapeS "input" 0 = false by decide +kernel) (by simp)) (rfl)
      walk_at "rs"
      refine w_new (by decide) fun t6 H6 p6 s6 h6 => ?_
      have A6 := A5.snoc s6 (.bad) (d := t6) (.bad (w := "wheels") (SqT.of h6) (show shapeS "wheels" 1 = false by decide +kernel) (by simp)) (rfl)
      walk_at "rs"
      refine w_new (by decide) fun t7 H7 p7 s7 h7 => ?_
      have A7 := A6.snoc s7 (.bad) (d := t7) (.bad (w := "wheel") (SqT.of h7) (show shapeS "wheel" 0 = false by decide +kernel) (by simp)) (rfl)
      walk_at "rs"
      refine w_new (by decide) fun t8 H8 p8 s8 h8 => ?_
      have A8 := A7.tn s8.tn
      walk_at "rs"
      refine w_new (by decide) fun t9 H9 p9 s9 h9 => ?_
      have A9 := (AllT.nil (K := K) (ins := ins) (H := H8)).snoc s9 (.bad) (d := t9) (.bad (w := "add") (SqT.of h9) (show shapeS "add" 1 = false by decide +kernel) (by simp)) (rfl)
      walk_at "rs"
      refine w_new (by decide) fun t10 H10 p10 s10 h10 => ?_
      have A10 := A9.snoc s10 (.bad) (d := t10) (.bad (w := "times") (SqT.of h10) (show shapeS "times" 3 = false by decide +kernel) (by simp)) (rfl)
      walk_at "rs"
      refine w_new (by decide) fun t11 H11 p11 s11 h11 => ?_
      have A11 := A10.snoc s11 (.bad) (d := t11) (.bad (w := "sub") (SqT.of h11) (show shapeS "sub" 2 = false by decide +kernel) (by simp)) (rfl)
      walk_at "rs"
      refine w_new (by decide) fun t12 H12 p12 s12 h12 => ?_
      have A12 := A11.tn s12.tn
      walk_at "rs"
      refine w_new (by decide) fun t13 H13 p13 s13 h13 => ?_
      have S13 := ((((((((((((s1).trans s2).trans s3).trans s4).trans s5).trans s6).trans s7).trans s8).trans s9).trans s10).trans s11).trans s12).trans s13
      have A13 := A12.snoc s13 (.add .wheels (.num (-1))) (d := t13) (.add (SqT.of h13) (hg0.tn S13.tn) (.num (SqT.tn s13.tn (SqT.of h12)))) rfl
      walk_at "rs"
      refine w_new (by decide) fun t14 H14 p14 s14 h14 => ?_
      have A14 := A13.tn s14.tn
      have S14 := S13.trans s14
      have R14 := (((((s9).trans s10).trans s11).trans s12).trans s13).trans s14
      walk_at "rs"
      refine w_catL (R14 _ _ h8) h14 (by simp) fun t15 H15 p15 s15 h15 => ?_
      have B := ((A8.tn R14.tn).app A14).tn s15.tn
      have D := (D0.same S14).same s15
      walk_at "rs"
      refine w_nx D.dr (by decide) (by decide) fun r HZ r0 r1 DZ => ?_
      obtain ⟨d, pp, e1, e2, e3⟩ := (B.tn DZ.tn).pick r0 (by simpa using r1)
      refine w_ixL (SqL.of (DZ.at (off_new (D0.same S14).dr p15) h15)) e1 ?_
      exact q d pp HZ e2 e3 (D.trans DZ)

theorem ok__law_wrong (T : Txt K mg base) : FnOk P wd K mg base CX0 3 T.f__law_wrong T.fd__law_wrong ["_law_h", "_law_machine", "_law_book_here"] (spWrong K) := by
  refine T.F__law_wrong.ok sc__law_wrong (fun vs H Q E h => ?_) (fun cdv A outer s H vs Q E hr h => ?_)
  · obtain ⟨a, cl, m, bk, b, s, w, c, B, rfl, hd, hM, hm, hB, hok, hne, hfar, hdl, hcl, q⟩ := h
    rfl
  · have hu := hu_of hr
    obtain ⟨a, cl, m, bk, b, s, w, c, B, rfl, hd, hM, hm, hB, hok, hne, hfar, hdl, hcl, q⟩ := h
    refine ⟨_, (pss_cons (ps_asg (pv 2) (pg_tup (n := 3) rfl (pgs_cons (pg_name (i := 3) sc__law_wrong.nd rfl (Or.inl rfl)) (pgs_cons (pg_name (i := 4) sc__law_wrong.nd rfl (Or.inl rfl)) (pgs_cons (pg_name (i := 5) sc__law_wrong.nd rfl (Or.inl rfl)) pgs_nil))))) (pss_cons (ps_set (i := 6) sc__law_wrong.nd rfl (Or.inl rfl) (pe_call (ok__law_next T) (hr.mono (by decide)) (by rfl) T.g__law_next T.F__law_next.kp T.b__law_next .nil pass0 (pa_cons (pv 0) (pa_cons pe_int pa_nil)))) (pss_cons (ps_if (pt_cmpR (k_eq K rfl hr.units) (pv 6) pe_int (nomark _)) (pss_one (ps_ret (pe_tup (pa_cons (pe_tup (pa_cons (pe_callTy (k_tuple K rfl) (by rfl) T.n_tuple (by decide +kernel) (pa_cons (pe_lc (own := [("_law_k", 12)]) rfl sc__law_wrong.nd (pi_range1 rfl T.n_range (pa_cons pe_int pa_nil)) (blkOk_by (own := [("_law_k", 12)]) (N := ["_law_h", "_law_machine", "_law_book_here", "_law_inputs_here", "_law_deeds", "_law_claims", "_law_way", "_law_some", "_law_bad", "_law_at", "_law_good", "_law_side_here", "_law_k"]) (sc := defScope s__law_wrong) (by decide +kernel)) (fun _ _ _ _ _ => (pg_name (i := 12) sc__law_wrong.nd rfl (Or.inl rfl))) (fun _ _ _ _ _ => pts_nil) (fun _ _ _ _ _ => (pe_tup (pa_cons (pe_ix (k_ix K rfl) pe_str (pv 12) (fun _ _ => rfl)) (pa_cons pe_int (pa_cons pe_int pa_nil)))))) pa_nil)) (pa_cons (pe_tup (pa_cons (pe_tup (pa_cons pe_str pa_nil)) pa_nil)) (pa_cons (pv 5) pa_nil)))) (pa_cons pe_int (pa_cons pe_str pa_nil)))))) pss_nil) (pss_cons (ps_if (pt_cmpR (op_lt) (pv 6) pe_int (nomark _)) (pss_cons (ps_set (i := 7) sc__law_wrong.nd rfl (Or.inl rfl) (pe_op (k_add K rfl) (pv 3) (pe_tup (pa_cons (pe_tup (pa_cons pe_str (pa_cons pe_int (pa_cons pe_int pa_nil)))) (pa_cons (pe_tup (pa_cons pe_str (pa_cons pe_int (pa_cons pe_int pa_nil)))) pa_nil))))) (pss_cons (ps_set (i := 7) sc__law_wrong.nd rfl (Or.inl rfl) (pe_slice (k_sl K rfl) (pe_ix (k_ix K rfl) (pe_lst (pa_cons (pv 3) (pa_cons (pv 7) pa_nil))) (pe_call (ok__law_next T) (hr.mono (by decide)) (by rfl) T.g__law_next T.F__law_next.kp T.b__law_next .nil pass0 (pa_cons (pv 0) (pa_cons pe_int pa_nil))) (fun _ _ => rfl)) po_none (po_some pe_int))) (pss_cons (ps_set (i := 8) sc__law_wrong.nd rfl (Or.inl rfl) (pe_op (k_add K rfl) (pv 7) (pe_tup (pa_cons (pe_call (ok__law_bad_input T) (hr.mono (by decide)) (by rfl) T.g__law_bad_input T.F__law_bad_input.kp T.b__law_bad_input .nil pass0 (pa_cons (pv 0) (pa_cons (pv 1) (pa_cons (pv 7) pa_nil)))) pa_nil)))) (pss_one (ps_ret (pe_tup (pa_cons (pe_tup (pa_cons (pv 8) (pa_cons (pe_op (k_add K rfl) (pv 4) (pe_op (k_rep K rfl) (pe_tup (pa_cons (pe_tup (pa_cons pe_str pa_nil)) pa_nil)) (pe_op op_sub (pv 6) pe_int))) (pa_cons (pv 5) pa_nil)))) (pa_cons (pe_op op_sub (pe_callB (k_len K rfl) (by rfl) T.n_len (by decide +kernel) (pa_cons (pv 8) pa_nil)) pe_int) (pa_cons pe_str pa_nil))))))))) pss_nil) (pss_cons (ps_if (pt_cmpR (k_eq K rfl hr.units) (pv 6) pe_int (nomark _)) (pss_one (ps_ret (pe_tup (pa_cons (pe_tup (pa_cons (pv 3) (pa_cons (pe_op (k_rep K rfl) (pe_tup (pa_cons (pe_tup (pa_cons pe_str pa_nil)) pa_nil)) pe_int) (pa_cons (pe_tup (pa_cons (pe_tup (pa_cons pe_str pa_nil)) pa_nil)) pa_nil)))) (pa_cons pe_int (pa_cons pe_str pa_nil)))))) pss_nil) (pss_cons (ps_set (i := 9) sc__law_wrong.nd rfl (Or.inl rfl) (pe_call (ok__law_next T) (hr.mono (by decide)) (by rfl) T.g__law_next T.F__law_next.kp T.b__law_next .nil pass0 (pa_cons (pv 0) (pa_cons (pe_op (k_add K rfl) (pe_callB (k_len K rfl) (by rfl) T.n_len (by decide +kernel) (pa_cons (pv 4) pa_nil)) pe_int) pa_nil)))) (pss_cons (ps_if (pt_cmpR (op_lt) (pv 6) pe_int (nomark _)) (pss_cons (ps_set (i := 8) sc__law_wrong.nd rfl (Or.inl rfl) (pe_op (k_add K rfl) (pe_op (k_add K rfl) (pe_slice (k_sl K rfl) (pv 4) po_none (po_some (pv 9))) (pe_tup (pa_cons (pe_call (ok__law_bad_deed T) (hr.mono (by decide)) (by rfl) T.g__law_bad_deed T.F__law_bad_deed.kp T.b__law_bad_deed .nil pass0 (pa_cons (pv 0) (pa_cons (pv 3) pa_nil))) pa_nil))) (pe_slice (k_sl K rfl) (pv 4) (po_some (pv 9)) po_none))) (pss_one (ps_ret (pe_tup (pa_cons (pe_tup (pa_cons (pv 3) (pa_cons (pv 8) (pa_cons (pe_op (k_add K rfl) (pv 5) (pe_op (k_rep K rfl) (pe_tup (pa_cons (pe_tup (pa_cons pe_str pa_nil)) pa_nil)) (pe_op op_sub (pv 6) pe_int))) pa_nil)))) (pa_cons (pv 9) (pa_cons pe_str pa_nil))))))) pss_nil) (pss_cons (ps_set (i := 10) sc__law_wrong.nd rfl (Or.inl rfl) (pe_tup (pa_cons pe_str (pa_cons (pe_tup (pa_cons pe_str pa_nil)) (pa_cons (pe_tup (pa_cons pe_str (pa_cons (pe_op op_pow pe_int pe_int) pa_nil))) pa_nil))))) (pss_cons (ps_if (pt_cmpR (k_eq K rfl hr.units) (pv 6) pe_int (nomark _)) (pss_one (ps_ret (pe_tup (pa_cons (pe_tup (pa_cons (pv 3) (pa_cons (pv 4) (pa_cons (pe_op (k_rep K rfl) (pe_tup (pa_cons (pv 10) pa_nil)) pe_int) pa_nil)))) (pa_cons pe_int (pa_cons pe_str pa_nil)))))) pss_nil) (pss_cons (ps_set (i := 11) sc__law_wrong.nd rfl (Or.inl rfl) (pe_call (ok__law_bad_side T) (hr.mono (by decide)) (by rfl) T.g__law_bad_side T.F__law_bad_side.kp T.b__law_bad_side .nil pass0 (pa_cons (pv 0) (pa_cons (pe_tup (pa_cons pe_str pa_nil)) pa_nil)))) (pss_cons (ps_set (i := 8) sc__law_wrong.nd rfl (Or.inl rfl) (pe_lst (pa_cons (pe_tup (pa_cons pe_str (pa_cons (pv 11) (pa_cons (pe_tup (pa_cons pe_str pa_nil)) pa_nil)))) (pa_cons (pe_tup (pa_cons pe_str (pa_cons (pe_tup (pa_cons pe_str (pa_cons pe_int pa_nil))) (pa_cons (pv 11) pa_nil)))) (pa_cons (pe_tup (pa_cons pe_str (pa_cons (pe_tup (pa_cons pe_str pa_nil)) (pa_cons (pe_tup (pa_cons pe_str pa_nil)) pa_nil)))) pa_nil))))) (pss_cons (ps_expr (pe_bm PySem.F.plainAttrs_list PySem.F.slot_list_append PySem.F.type_list_append mt_append (pv 8) (pa_cons (pe_tup (pa_cons pe_str (pa_cons (pe_tup (pa_cons pe_str pa_nil)) pa_nil))) pa_nil))) (pss_one (ps_ret (pe_tup (pa_cons (pe_tup (pa_cons (pv 3) (pa_cons (pv 4) (pa_cons (pe_op (k_add K rfl) (pv 5) (pe_tup (pa_cons (pe_ix (k_ix K rfl) (pv 8) (pe_call (ok__law_next T) (hr.mono (by decide)) (by rfl) T.g__law_next T.F__law_next.kp T.b__law_next .nil pass0 (pa_cons (pv 0) (pa_cons pe_int pa_nil))) (fun _ _ => rfl)) pa_nil))) pa_nil)))) (pa_cons (pe_callB (k_len K rfl) (by rfl) T.n_len (by decide +kernel) (pa_cons (pv 5) pa_nil)) (pa_cons pe_str pa_nil)))))))))))))))))), ?_⟩
    dsimp only [cxOf, L2.start, List.map_cons, List.map_nil, List.length_cons, List.length_nil, List.replicate, List.cons_append, List.nil_append, Nat.reduceAdd, Nat.reduceSub]
    obtain ⟨b0, b1, s0, s1, w0, w1, c0, c1⟩ := id hm
    have hM' : SqT K H m [.int b, .int s, .int w, .int c] := hM
    obtain ⟨x, y, z, xs, ys, zs, h0, h1, p1, h2, p2, h3, p3⟩ := id hB
    have hxl := paired_len p1
    have hyl := paired_len p2
    have hzl := paired_len p3
    have hi4 := hok.ins.1
    have nml : ∀ i ∈ B.ins, i.nm.length ≤ 1000 := fun i hi => by
      obtain ⟨k, hk⟩ := List.getElem?_of_mem hi
      have := nameOk_len (inputOk_name (hok.ins.2 k i hk))
      omega
    have hdr : ∀ d ∈ B.dds.map RDee.ok, rdeeOk B.ins d = true := fun d hd2 => by
      obtain ⟨d0, h5, rfl⟩ := List.mem_map.mp hd2
      exact hok.dds d0 h5
    have hcr : ∀ d ∈ B.cls.map Cla.r, rclaOk B.ins d = true := fun d hd2 => by
      obtain ⟨d0, h5, rfl⟩ := List.mem_map.mp hd2
      rw [rcla_r]
      exact hok.cls d0 h5
    have hlr : (B.cls.map Cla.r).length = B.cls.length := List.length_map _
    have hlo : (B.dds.map RDee.ok).length = B.dds.length := List.length_map _
    walk_at "rs"
    refine w_nx hd (by omega) (by omega) fun way H1 w00 w01 D1 => ?_
    have h1' := SqT.tn D1.tn h1
    have h2' := SqT.tn D1.tn h2
    have h3' := SqT.tn D1.tn h3
    have q1 : Paired (InpAt K H1) xs B.ins := paired_imp (fun _ _ h => h.tn D1.tn) p1
    have q2 : Paired (RDeeAt K H1) ys (B.dds.map .ok) := paired_map (R := DeeAt K H) (S := RDeeAt K H1) (f := RDee.ok) (fun _ _ h => (DeeAt.tn h D1.tn).r) p2
    have q3 : Paired (RClaAt K H1) zs (B.cls.map Cla.r) := paired_map (R := ClaAt K H) (S := RClaAt K H1) (f := Cla.r) (fun _ _ h => (ClaAt.tn h D1.tn).r) p3
    walk_at "rs"
    refine w_ite (fun g0 => ?_) (fun g0 => ?_)
    · walk_at "rs"
      refine w_rngI (by decide) ?_
      refine lq_range0 (fun D i H' => Same H1 H' ∧ ∃ ads : List Addr, H' D = some (.lst (ads.map V.ref)) ∧ Paired (InpAt K H') ads (inp5.take i)) (fun D H2 _ s2 e2 => ⟨s2, [], e2, .nil⟩) ?_ ?_
      · rintro D i H2 hD hi ⟨s2, ads, e2, pa⟩
        obtain ⟨cc, ec, hi5⟩ := abc_at hi
        have hal := paired_len pa
        rw [List.length_take] at hal
        refine ⟨rfl, ?_⟩
        dsimp only [wipe]
        walk_at "rs"
        refine w_ixS (by decide +kernel) ec ?_
        walk_at "rs"
        refine w_new (by decide) fun tp H3 htp s3 h3 => ?_
        refine w_put (s3 _ _ e2) (by rw [List.length_map]; omega) fun H4 e4 h4 => ?_
        have t34 : Tn H3 H4 := tn_mut e4 (s3 _ _ e2)
        refine ⟨e4 ▸ (s2.trans s3).mut hD, ads ++ [tp], by rw [h4, List.map_append]; rfl, ?_⟩
        rw [List.take_add_one, hi5]
        exact paired_snoc (show InpAt K H4 tp ⟨⟨#[cc]⟩, 1, 0⟩ from SqT.tn t34 (SqT.of h3)) (pI pa (s3.tn.trans t34))
      · rintro D H2 hD ⟨s2, ads, e2, pa⟩
        walk_at "rs"
        refine w_tupL (SqL.of e2) fun t1 H3 ht1 s3 k1 => ?_
        walk_at "rs"
        refine w_new (by decide) fun t2 H4 ht2 s4 k2 => ?_
        walk_at "rs"
        refine w_new (by decide) fun t3 H5 ht3 s5 k3 => ?_
        walk_at "rs"
        refine w_new (by decide) fun t4 H6 ht4 s6 k4 => ?_
        walk_at "rs"
        refine w_new (by decide) fun t5 H7 ht5 s7 k5 => ?_
        have S3 := ((s3.trans s4).trans s5).trans s6
        have S := s2.trans S3
        refine q t5 t4 ⟨inp5, [.bad "fly" []], B.cls.map Cla.r⟩ 0 "input" H7 ⟨t1, t3, z, ads, [t2], zs, SqT.tn s7.tn (SqT.of k4), SqT.tn (((s4.trans s5).trans s6).trans s7).tn (SqT.of k1), pI pa (S3.trans s7).tn, SqT.tn (s6.trans s7).tn (SqT.of k3),
          .cons ⟨SqT.tn ((s5.trans s6).trans s7).tn (SqT.of k2), by decide +kernel, by simp⟩ .nil, SqT.tn (S.trans s7).tn h3', pC q3 (S.trans s7).tn, inp5_len⟩ (show (5 : Nat) ≤ 1000 by decide) (show (1 : Nat) ≤ 1000 by decide) (by show (B.cls.map Cla.r).length ≤ 1000; omega) (why_input rfl) (D1.same (S.trans s7)) (SqT.of k5)
    walk_at "rs"
    refine w_ite (fun g3 => ?_) (fun g3 => ?_)
    · walk_at "rs"
      refine w_new (by decide) fun t1 H2 ht1 s2 k1 => ?_
      walk_at "rs"
      refine w_new (by decide) fun t2 H3 ht2 s3 k2 => ?_
      walk_at "rs"
      refine w_new (by decide) fun t3 H4 ht3 s4 k3 => ?_
      have S14 := (s2.trans s3).trans s4
      refine w_catT (SqT.tn S14.tn h1') (SqT.of k3) (by rw [List.length_map]; simp; omega) fun t4 H5 s5 k4 => ?_
      have k4' : SqT K H5 t4 ((xs ++ [t1, t2]).map V.ref) := by rw [List.map_append]; exact k4
      have p5 : Paired (InpAt K H5) (xs ++ [t1, t2]) (B.ins ++ [zx, zy]) := paired_app (R := InpAt K H5) (.cons (show InpAt K H5 t1 zx from SqT.tn ((s3.trans s4).trans s5).tn (SqT.of k1)) (.cons (show InpAt K H5 t2 zy from SqT.tn (s4.trans s5).tn (SqT.of k2)) .nil)) (pI q1 (S14.trans s5).tn)
      walk_at "rs"
      refine w_new (by decide) fun l1 H6 hl1 s6 k6 => ?_
      have S16 := (S14.trans s5).trans s6
      walk_at "rs"
      refine w_nx (D1.dr.same S16) (by omega) (by omega) fun r1 H7 r10 r11 D7 => ?_
      have D17 := (D1.same S16).trans D7
      have T17 : Tn H1 H7 := S16.tn.trans D7.tn
      obtain ⟨pu, us, ei, epu, hus, pus, ius⟩ : ∃ (pu : Addr) (us : List Addr) (ei : List Inp), atI [V.ref x, V.ref t4] r1 = some (.ref pu) ∧ SqT K H7 pu (us.map V.ref) ∧ Paired (InpAt K H7) us ei ∧ insOk s (ei.take 3) ∧ ei ≠ [] ∧ ∀ i ∈ ei, i.nm.length ≤ 1000 := by
        rcases (show r1 = 0 ∨ r1 = 1 by omega) with rfl | rfl
        · exact ⟨x, xs, B.ins, rfl, SqT.tn T17 h1', pI q1 T17, insOk_take hok.ins 3, hne, nml⟩
        · refine ⟨t4, _, _, rfl, SqT.tn (s6.tn.trans D7.tn) k4', pI p5 (s6.tn.trans D7.tn), ins3_ok s0 hok.ins hfar, by simp, fun i hi => ?_⟩
          rcases List.mem_append.mp hi with hi | hi
          · exact nml i hi
          · rcases List.mem_cons.mp hi with rfl | hi
            · decide +kernel
            · rw [List.mem_singleton.mp hi]
              decide +kernel
      obtain ⟨io3, ine, inl⟩ := ius
      refine w_ixL (SqL.of (D7.at (off_new (D1.dr.same (S14.trans s5)) hl1) k6)) epu ?_
      walk_at "rs"
      refine w_slT hus fun pv H8 s8 k8 => ?_
      rw [cut_take (by decide), ← List.map_take, show Int.toNat 3 = 3 from rfl] at k8
      have pv8 : Paired (InpAt K H8) (us.take 3) (ei.take 3) := pI (paired_take 3 pus) s8.tn
      have D18 := D17.same s8
      have in3 : ∀ i ∈ ei.take 3, i.nm.length ≤ 1000 := fun i hi => inl i (List.mem_of_mem_take hi)
      have nv : ei.take 3 ≠ [] := fun zz => by
        cases ei with
        | nil => exact ine rfl
        | cons _ _ => cases zz
      have l3 : (ei.take 3).length ≤ 3 := by rw [List.length_take]; omega
      have lu3 := paired_len pv8
      generalize us.take 3 = vs3 at k8 pv8 lu3
      generalize ei.take 3 = e3 at io3 pv8 in3 nv l3 lu3
      walk_at "rs"
      refine ⟨a, cl, m, pv, b, s, w, c, vs3, e3, rfl, D18.dr, SqT.tn D18.tn hM', hm, k8, pv8, nv, in3, fun di ii H9 hdi nii lii D9 => ?_⟩
      have D19 := D18.trans D9
      walk_at "rs"
      refine w_new (by decide) fun t5 H10 ht5 s10 k10 => ?_
      refine w_catT (SqT.tn (D9.tn.trans s10.tn) k8) (SqT.of k10) (by rw [List.length_map]; simp; omega) fun t6 H11 s11 k11 => ?_
      have k11' : SqT K H11 t6 ((vs3 ++ [di]).map V.ref) := by rw [List.map_append]; exact k11
      have p11 : Paired (InpAt K H11) (vs3 ++ [di]) (e3 ++ [ii]) := paired_snoc (hdi.tn (s10.trans s11).tn) (pI pv8 (D9.tn.trans (s10.trans s11).tn))
      walk_at "rs"
      refine w_new (by decide) fun t7 H12 ht7 s12 k12 => ?_
      walk_at "rs"
      refine w_new (by decide) fun t8 H13 ht8 s13 k13 => ?_
      walk_at "rs"
      refine w_repU0 (SqT.of k13) (by omega) (by omega) fun t9 H14 s14 k14 => ?_
      have T114 : Tn H1 H14 := T17.trans (s8.tn.trans (D9.tn.trans (((s10.trans s11).trans (s12.trans s13)).trans s14).tn))
      refine w_catT (SqT.tn T114 h2') k14 (by rw [List.length_map, List.length_replicate]; omega) fun t10 H15 s15 k15 => ?_
      walk_at "rs"
      refine w_new (by decide) fun t11 H16 ht11 s16 k16 => ?_
      walk_at "rs"
      refine w_lenT (SqT.tn (((s12.trans s13).trans s14).trans (s15.trans s16)).tn k11') ?_
      walk_at "rs"
      refine w_new (by decide) fun t12 H17 ht12 s17 k17 => ?_
      have T117 : Tn H1 H17 := T114.trans ((s15.trans s16).trans s17).tn
      have S1217 := ((s12.trans s13).trans s14).trans ((s15.trans s16).trans s17)
      have k15' : SqT K H15 t10 ((ys ++ List.replicate (way - 1).toNat t7).map V.ref) := by rw [List.map_append, List.map_replicate]; exact k15
      have e17 : ((((vs3 ++ [di]).map V.ref).length : Nat) : Int) - 1 = (e3.length : Nat) := by rw [List.length_map, List.length_append, lu3]; simp
      rw [e17] at k17
      refine q t12 t11 ⟨e3 ++ [ii], B.dds.map .ok ++ List.replicate (way - 1).toNat (.bad "fly" []), B.cls.map Cla.r⟩ e3.length "input" H17 ⟨t6, t10, z, _, _, zs, SqT.tn s17.tn (SqT.of k16), SqT.tn S1217.tn k11', pI p11 S1217.tn, SqT.tn (s16.trans s17).tn k15',
        paired_app (R := RDeeAt K H17) (paired_rep (show RDeeAt K H17 t7 (.bad "fly" []) from ⟨SqT.tn (((s13.trans s14).trans s15).trans (s16.trans s17)).tn (SqT.of k12), by decide +kernel, by simp⟩) _) (pD q2 T117), SqT.tn T117 h3', pC q3 T117, fun i hi => ?_⟩ ?_ ?_ ?_ (why_input (whyIn_bad io3 l3 nii)) ?_ (SqT.of k17)
      · rcases List.mem_append.mp hi with hi | hi
        · exact in3 i hi
        · rw [List.mem_singleton.mp hi]
          exact lii
      · show (e3 ++ [ii]).length ≤ 1000
        rw [List.length_append]
        simp
        omega
      · show (B.dds.map RDee.ok ++ List.replicate _ _).length ≤ 1000
        rw [List.length_append, List.length_replicate]
        omega
      · show (B.cls.map Cla.r).length ≤ 1000
        omega
      · exact D19.same (((s10.trans s11).trans (s12.trans s13)).trans ((s14.trans s15).trans (s16.trans s17)))
    walk_at "rs"
    refine w_ite (fun g4 => ?_) (fun g4 => ?_)
    · walk_at "rs"
      refine w_new (by decide) fun t1 H2 ht1 s2 k1 => ?_
      walk_at "rs"
      refine w_new (by decide) fun t2 H3 ht2 s3 k2 => ?_
      walk_at "rs"
      refine w_repU0 (SqT.of k2) (by decide) (by decide) fun t3 H4 s4 k3 => ?_
      walk_at "rs"
      refine w_new (by decide) fun t4 H5 ht4 s5 k4 => ?_
      walk_at "rs"
      refine w_new (by decide) fun t5 H6 ht5 s6 k5 => ?_
      walk_at "rs"
      refine w_new (by decide) fun t6 H7 ht6 s7 k6 => ?_
      walk_at "rs"
      refine w_new (by decide) fun t7 H8 ht7 s8 k7 => ?_
      have S := ((s2.trans s3).trans s4).trans ((s5.trans s6).trans (s7.trans s8))
      have k3' : SqT K H4 t3 ((List.replicate 41 t1).map V.ref) := by rw [List.map_replicate]; exact k3
      refine q t7 t6 ⟨B.ins, List.replicate 41 (.ok .one), [.bad]⟩ 0 "deed" H8 ⟨x, t3, t5, xs, _, [t4], SqT.tn s8.tn (SqT.of k6), SqT.tn S.tn h1', pI q1 S.tn, SqT.tn ((s5.trans s6).trans (s7.trans s8)).tn k3',
        paired_rep (show RDeeAt K H8 t1 (.ok .one) from ⟨SqT.tn ((s3.trans s4).trans ((s5.trans s6).trans (s7.trans s8))).tn (SqT.of k1), trivial⟩) 41, SqT.tn (s7.trans s8).tn (SqT.of k5), .cons (.bad (SqT.tn (s6.trans (s7.trans s8)).tn (SqT.of k4)) (by decide) (by decide)) .nil, nml⟩ (by show B.ins.length ≤ 1000; omega) (by show (List.replicate 41 (RDee.ok .one)).length ≤ 1000; rw [List.length_replicate]; omega) (by show (1 : Nat) ≤ 1000; omega)
        (why_deed hok.ins (if_pos (by show (List.replicate 41 (RDee.ok .one)).length > 40; rw [List.length_replicate]; omega))) (D1.same S) (SqT.of k7)
    walk_at "rs"
    refine w_nx D1.dr (by rw [List.length_map]; omega) (by rw [List.length_map]; omega) fun at_ H2 a0 a1 D2 => ?_
    rw [List.length_map] at a1
    have D12 := D1.trans D2
    have h12 := SqT.tn D2.tn h1'
    have h22 := SqT.tn D2.tn h2'
    have h32 := SqT.tn D2.tn h3'
    have q12 := pI q1 D2.tn
    have q22 := pD q2 D2.tn
    have q32 := pC q3 D2.tn
    walk_at "rs"
    refine w_ite (fun g5 => ?_) (fun g5 => ?_)
    · walk_at "rs"
      refine w_slT h22 fun t1 H3 s3 k1 => ?_
      rw [cut_take a0, ← List.map_take] at k1
      walk_at "rs"
      refine ⟨a, cl, x, s, xs, B.ins, rfl, D12.dr.same s3, SqT.tn s3.tn h12, pI q12 s3.tn, hne, hok.ins, s1, hfar, fun d rd H4 hrd nrd D4 => ?_⟩
      have D14 := (D12.same s3).trans D4
      walk_at "rs"
      refine w_new (by decide) fun t2 H5 ht2 s5 k2 => ?_
      refine w_catT (SqT.tn (D4.tn.trans s5.tn) k1) (SqT.of k2) (by rw [List.length_map, List.length_take]; simp; omega) fun t3 H6 s6 k3 => ?_
      walk_at "rs"
      have T26 : Tn H2 H6 := s3.tn.trans (D4.tn.trans (s5.trans s6).tn)
      refine w_slT (SqT.tn T26 h22) fun t4 H7 s7 k4 => ?_
      rw [cut_drop a0, ← List.map_drop] at k4
      refine w_catT (SqT.tn s7.tn k3) k4 (by simp; omega) fun t5 H8 s8 k5 => ?_
      have k5' : SqT K H8 t5 ((ys.take at_.toNat ++ d :: ys.drop at_.toNat).map V.ref) := by
        have e : (ys.take at_.toNat).map V.ref ++ [V.ref d] ++ (ys.drop at_.toNat).map V.ref = (ys.take at_.toNat ++ d :: ys.drop at_.toNat).map V.ref := by simp
        rw [← e]
        exact k5
      have T28 : Tn H2 H8 := T26.trans (s7.trans s8).tn
      walk_at "rs"
      refine w_new (by decide) fun t6 H9 ht6 s9 k6 => ?_
      walk_at "rs"
      refine w_new (by decide) fun t7 H10 ht7 s10 k7 => ?_
      walk_at "rs"
      refine w_repU0 (SqT.of k7) (by omega) (by omega) fun t8 H11 s11 k8 => ?_
      have T211 : Tn H2 H11 := T28.trans ((s9.trans s10).trans s11).tn
      refine w_catT (SqT.tn T211 h32) k8 (by rw [List.length_map, List.length_replicate]; omega) fun t9 H12 s12 k9 => ?_
      have k9' : SqT K H12 t9 ((zs ++ List.replicate (way - 4).toNat t6).map V.ref) := by rw [List.map_append, List.map_replicate]; exact k9
      walk_at "rs"
      refine w_new (by decide) fun t10 H13 ht10 s13 k10 => ?_
      walk_at "rs"
      refine w_new (by decide) fun t11 H14 ht11 s14 k11 => ?_
      have S814 := ((s9.trans s10).trans s11).trans ((s12.trans s13).trans s14)
      have T214 : Tn H2 H14 := T28.trans S814.tn
      have hta : ((B.dds.map RDee.ok).take at_.toNat).length = at_.toNat := by rw [List.length_take]; omega
      have eat : (at_.toNat : Int) = at_ := Int.toNat_of_nonneg a0
      have pd : Paired (RDeeAt K H14) (ys.take at_.toNat ++ d :: ys.drop at_.toNat) ((B.dds.map RDee.ok).take at_.toNat ++ rd :: (B.dds.map RDee.ok).drop at_.toNat) :=
        paired_app (.cons (hrd.tn (((s5.trans s6).trans (s7.trans s8)).trans S814).tn) (paired_drop _ (pD q22 T214))) (paired_take _ (pD q22 T214))
      have hdl2 : ((B.dds.map RDee.ok).take at_.toNat ++ rd :: (B.dds.map RDee.ok).drop at_.toNat).length = B.dds.length + 1 := by simp; omega
      refine q t11 t10 ⟨B.ins, (B.dds.map RDee.ok).take at_.toNat ++ rd :: (B.dds.map RDee.ok).drop at_.toNat, B.cls.map Cla.r ++ List.replicate (way - 4).toNat .bad⟩ at_.toNat "deed" H14 ⟨x, t5, t9, xs, _, _, SqT.tn s14.tn (SqT.of k10), SqT.tn T214 h12, pI q12 T214, SqT.tn S814.tn k5', pd, SqT.tn (s13.trans s14).tn k9',
        paired_app (R := RClaAt K H14) (paired_rep (.bad (SqT.tn ((s10.trans s11).trans ((s12.trans s13).trans s14)).tn (SqT.of k6)) (by decide) (by decide)) _) (pC q32 T214), nml⟩ (by show B.ins.length ≤ 1000; omega) (by show (_ : List RDee).length ≤ 1000; rw [hdl2]; omega) ?_ (why_deed hok.ins ?_) ?_ (by rw [eat]; exact SqT.of k11)
      · show (B.cls.map Cla.r ++ List.replicate (way - 4).toNat RCla.bad).length ≤ 1000
        rw [List.length_append, List.length_replicate]
        omega
      · show (if ((B.dds.map RDee.ok).take at_.toNat ++ rd :: (B.dds.map RDee.ok).drop at_.toNat).length > 40 then some 0 else firstNo (rdeeOk B.ins) ((B.dds.map RDee.ok).take at_.toNat ++ rd :: (B.dds.map RDee.ok).drop at_.toNat) 0) = some at_.toNat
        rw [if_neg (by rw [hdl2]; omega), firstNo_at (fun y hy => hdr y (List.mem_of_mem_take hy)) nrd, hta, Nat.zero_add]
      · exact D14.same (((s5.trans s6).trans (s7.trans s8)).trans S814)
    walk_at "rs"
    refine w_new (by decide) fun t1 H3 ht1 s3 k1 => ?_
    walk_at "rs"
    refine w_new (by decide) fun t2 H4 ht2 s4 k2 => ?_
    walk_at "rs"
    refine w_new (by decide) fun t3 H5 ht3 s5 k3 => ?_
    have S25 := (s3.trans s4).trans s5
    walk_at "rs"
    refine w_ite (fun g6 => ?_) (fun g6 => ?_)
    · walk_at "rs"
      refine w_new (by decide) fun t4 H6 ht4 s6 k4 => ?_
      walk_at "rs"
      refine w_repU0 (SqT.of k4) (by decide) (by decide) fun t5 H7 s7 k5 => ?_
      have k5' : SqT K H7 t5 ((List.replicate 9 t3).map V.ref) := by rw [List.map_replicate]; exact k5
      walk_at "rs"
      refine w_new (by decide) fun t6 H8 ht6 s8 k6 => ?_
      walk_at "rs"
      refine w_new (by decide) fun t7 H9 ht7 s9 k7 => ?_
      have S59 := (s6.trans s7).trans (s8.trans s9)
      have S29 := S25.trans S59
      refine q t7 t6 ⟨B.ins, B.dds.map .ok, List.replicate 9 (.two "less" .counts (.num (10 ^ 9)))⟩ 0 "claim" H9 ⟨x, y, t5, xs, ys, _, SqT.tn s9.tn (SqT.of k6), SqT.tn S29.tn h12, pI q12 S29.tn, SqT.tn S29.tn h22, pD q22 S29.tn, SqT.tn (s8.trans s9).tn k5',
        paired_rep (show RClaAt K H9 t3 (.two "less" .counts (.num (10 ^ 9))) from .two (SqT.tn S59.tn (SqT.of k3)) (.counts (SqT.tn ((s4.trans s5).trans S59).tn (SqT.of k1))) (.num (SqT.tn (s5.trans S59).tn (SqT.of k2)))) 9, nml⟩ (by show B.ins.length ≤ 1000; omega) (by show (B.dds.map RDee.ok).length ≤ 1000; omega) (by show (List.replicate 9 (RCla.two "less" .counts (.num (10 ^ 9)))).length ≤ 1000; rw [List.length_replicate]; omega)
        (why_claim hok.ins (by show (B.dds.map RDee.ok).length ≤ 40; omega) hdr (if_pos (by show (List.replicate 9 (RCla.two "less" .counts (.num (10 ^ 9)))).length > 8; rw [List.length_replicate]; omega))) (D12.same S29) (SqT.of k7)
    walk_at "rs"
    refine w_new (by decide) fun t4 H6 ht4 s6 k4 => ?_
    walk_at "rs"
    refine ⟨a, cl, t4, B.ins, rfl, (D12.same S25).dr.same s6, .wheels (SqT.of k4), hfar, fun sd p H7 hp7 np D7 => ?_⟩
    have S26 := S25.trans s6
    have D17 := (D12.same S26).trans D7
    have T27 : Tn H2 H7 := S26.tn.trans D7.tn
    walk_at "rs"
    refine w_new (by decide) fun u1 H8 hu1 s8 e1 => ?_
    walk_at "rs"
    refine w_new (by decide) fun u2 H9 hu2 s9 e2 => ?_
    walk_at "rs"
    refine w_new (by decide) fun u3 H10 hu3 s10 e3 => ?_
    walk_at "rs"
    refine w_new (by decide) fun u4 H11 hu4 s11 e4 => ?_
    walk_at "rs"
    refine w_new (by decide) fun u5 H12 hu5 s12 e5 => ?_
    walk_at "rs"
    refine w_new (by decide) fun u6 H13 hu6 s13 e6 => ?_
    walk_at "rs"
    refine w_new (by decide) fun u7 H14 hu7 s14 e7 => ?_
    walk_at "rs"
    refine w_new (by decide) fun u8 H15 hu8 s15 e8 => ?_
    walk_at "rs"
    refine w_new (by decide) fun u9 H16 hu9 s16 e9 => ?_
    walk_at "rs"
    refine w_new (by decide) fun u10 H17 hu10 s17 e10 => ?_
    have S1517 := s16.trans s17
    have S715 := ((s8.trans s9).trans (s10.trans s11)).trans ((s12.trans s13).trans (s14.trans s15))
    have l8 := S1517 _ _ e8
    have hu8' : H7 u8 = none := (((s8.trans s9).trans (s10.trans s11)).trans ((s12.trans s13).trans s14)).free hu8
    walk_at "rs"
    refine w_append l8 (show (3 : Nat) ≤ 100000 by decide) fun H18 e18 k18 => ?_
    have t1718 : Tn H17 H18 := tn_mut e18 l8
    have D18 : Drew a cl H7 H18 := e18 ▸ ((Drew.refl D17.dr).same (S715.trans S1517)).mut D17.dr hu8' l8
    have tn_ : ∀ {A : Hp}, Same A H17 → Tn A H18 := fun ss => ss.tn.trans t1718
    have r17 := s17
    have r16 := s16.trans r17
    have r15 := s15.trans r16
    have r14 := s14.trans r15
    have r13 := s13.trans r14
    have r12 := s12.trans r13
    have r11 := s11.trans r12
    have r10 := s10.trans r11
    have r9 := s9.trans r10
    have r8 := s8.trans r9
    have AC : AllX K B.ins H18 [.ref u2, .ref u4, .ref u7, .ref u10] := by
      refine .cons (.two "less" p .counts) (.two (SqT.tn (tn_ r10) (SqT.of e2)) (hp7.tn (tn_ r8)) (.counts (SqT.tn (tn_ r9) (SqT.of e1)))) ?_ (.cons (.two "same" (.num 0) p) (.two (SqT.tn (tn_ r12) (SqT.of e4)) (.num (SqT.tn (tn_ r11) (SqT.of e3))) (hp7.tn (tn_ r8))) ?_
        (.cons (.two "more" .counts .wheels) (.two (SqT.tn (tn_ r15) (SqT.of e7)) (.counts (SqT.tn (tn_ r13) (SqT.of e5))) (.wheels (SqT.tn (tn_ r14) (SqT.of e6)))) ?_ (.cons .bad (.bad (SqT.tn t1718 (SqT.of e10)) (show (2 : Nat) ≠ 3 by decide) (show (2 : Nat) ≤ 1000 by decide)) rfl .nil)))
      · show (decide (("less" : Str) ∈ (["same", "less"] : List Str)) && rsidOk B.ins p 4 && rsidOk B.ins .counts 4) = false
        rw [np, Bool.and_false, Bool.false_and]
      · show (decide (("same" : Str) ∈ (["same", "less"] : List Str)) && rsidOk B.ins (.num 0) 4 && rsidOk B.ins p 4) = false
        rw [np, Bool.and_false]
      · show (decide (("more" : Str) ∈ (["same", "less"] : List Str)) && rsidOk B.ins .counts 4 && rsidOk B.ins .wheels 4) = false
        rw [show decide (("more" : Str) ∈ (["same", "less"] : List Str)) = false by decide +kernel]
        rfl
    walk_at "rs"
    refine w_nx D18.dr (by decide) (by decide) fun r H19 r0 r1 D19 => ?_
    obtain ⟨dc, rc, ec, hdc, ndc⟩ := (AC.tn D19.tn).pick r0 (by simpa using r1)
    refine w_ixL (SqL.of (D19.at (off_new D17.dr hu8') k18)) ec ?_
    walk_at "rs"
    refine w_new (by decide) fun v1 H20 hv1 s20 f1 => ?_
    have T220 : Tn H2 H20 := T27.trans (D18.tn.trans (D19.tn.trans s20.tn))
    refine w_catT (SqT.tn T220 h32) (SqT.of f1) (by rw [List.length_map]; simp; omega) fun v2 H21 s21 f2 => ?_
    have f2' : SqT K H21 v2 ((zs ++ [dc]).map V.ref) := by rw [List.map_append]; exact f2
    walk_at "rs"
    refine w_new (by decide) fun v3 H22 hv3 s22 f3 => ?_
    walk_at "rs"
    refine w_lenT (SqT.tn (T220.trans (s21.trans s22).tn) h32) ?_
    walk_at "rs"
    refine w_new (by decide) fun v4 H23 hv4 s23 f4 => ?_
    have T223 : Tn H2 H23 := T220.trans ((s21.trans s22).trans s23).tn
    have ez : (((zs.map V.ref).length : Nat) : Int) = (B.cls.length : Nat) := by rw [List.length_map, hzl]
    rw [ez] at f4
    have hcl2 : (B.cls.map Cla.r ++ [rc]).length = B.cls.length + 1 := by simp
    refine q v4 v3 ⟨B.ins, B.dds.map .ok, B.cls.map Cla.r ++ [rc]⟩ B.cls.length "claim" H23 ⟨x, y, v2, xs, ys, _, SqT.tn s23.tn (SqT.of f3), SqT.tn T223 h12, pI q12 T223, SqT.tn T223 h22, pD q22 T223, SqT.tn (s22.trans s23).tn f2',
      paired_snoc (hdc.tn ((s20.trans s21).trans (s22.trans s23)).tn) (pC q32 T223), nml⟩ (by show B.ins.length ≤ 1000; omega) (by show (B.dds.map RDee.ok).length ≤ 1000; omega) (by show (_ : List RCla).length ≤ 1000; rw [hcl2]; omega) (why_claim hok.ins (by show (B.dds.map RDee.ok).length ≤ 40; omega) hdr ?_) (((D17.trans D18).trans D19).same ((s20.trans s21).trans (s22.trans s23))) (SqT.of f4)
    show (if (B.cls.map Cla.r ++ [rc]).length > 8 then some 0 else firstNo (rclaOk B.ins) (B.cls.map Cla.r ++ [rc]) 0) = some B.cls.length
    rw [if_neg (by rw [hcl2]; omega), firstNo_at (fun y hy => hcr y hy) ndc, hlr, Nat.zero_add]

theorem ok_law (T : Txt K mg base) : FnOk P wd K mg base CX0 11 T.f_law T.fd_law ["_law_script"] (spLawT K [T.tp_is_name]) := by
  refine T.F_law.ok sc_law (fun vs H Q E h => ?_) (fun cdv A outer s H vs Q E hr h => ?_)
  · obtain ⟨a, ns, rfl, hS, hn, q, hP⟩ := h
    rfl
  · have hu := hu_of hr
    obtain ⟨a, ns, rfl, hS, hn, q, hP⟩ := h
    refine ⟨_, (pss_cons (ps_set (i := 1) sc_law.nd rfl (Or.inl rfl) (pe_lst (pa_cons pe_int (pa_cons (pe_callTy (k_list K rfl) (by rfl) T.n_list (by decide +kernel) (pa_cons (pv 0) pa_nil)) (pa_cons pe_int pa_nil))))) (pss_cons (ps_set (i := 2) sc_law.nd rfl (Or.inr rfl) (pe_call (ok__law_books_machine T) (hr.mono (by decide)) (by rfl) T.g__law_books_machine T.F__law_books_machine.kp T.b__law_books_machine .nil pass0 (pa_cons (pv 1) pa_nil))) (pss_cons (ps_set (i := 3) sc_law.nd rfl (Or.inl rfl) (pe_call (ok__law_book T) (hr.mono (by decide)) (by rfl) T.g__law_book T.F__law_book.kp T.b__law_book .nil pass0 (pa_cons (pv 1) (pa_cons pe_int pa_nil)))) (pss_cons (ps_set (i := 4) sc_law.nd rfl (Or.inl rfl) (pe_callTy (k_tuple K rfl) (by rfl) T.n_tuple (by decide +kernel) (pa_cons (pe_lc (own := [("_law_name", 12), ("_law_figures", 13), ("_law_least", 14)]) rfl sc_law.nd (k_U K rfl (pe_ix (k_ix K rfl) (pv 3) pe_int (fun _ _ => rfl))) (blkOk_by (own := [("_law_name", 12), ("_law_figures", 13), ("_law_least", 14)]) (N := ["_law_script", "_law_h", "_law_machine", "_law_book_here", "_law_inputs_here", "_law_wrong_here", "_law_number", "_law_word", "_law_way", "_law_deep", "_law_names", "_law_great", "_law_name", "_law_figures", "_law_least", "_law_k"]) (sc := defScope s_law) (by decide +kernel)) (fun _ _ _ _ _ => (pg_tupK K rfl (n := 3) rfl (pgs_cons (pg_name (i := 12) sc_law.nd rfl (Or.inl rfl) (.inr rfl)) (pgs_cons (pg_name (i := 13) sc_law.nd rfl (Or.inl rfl) (.inr rfl)) (pgs_cons (pg_name (i := 14) sc_law.nd rfl (Or.inl rfl) (.inr rfl)) pgs_nil))))) (fun _ _ _ _ _ => pts_nil) (fun _ _ _ _ _ => (pe_tup (pa_cons (pv 12) (pa_cons (pe_callB (call_minQ rfl) (by rfl) T.n_min (by decide +kernel) (pa_cons (pv 13) (pa_cons (pe_ix (k_ix K rfl) (pv 2) pe_int (fun _ _ => rfl)) pa_nil))) (pa_cons (pv 14) pa_nil)))))) pa_nil))) (pss_cons (ps_if (pt_cmpR (k_notN) (pe_call (ok_need_book T) (hr.mono (by decide)) (by rfl) T.g_need_book T.F_need_book.kp T.b_need_book .nil passX0 (pa_cons (pv 2) (pa_cons (pe_tup (pa_cons (pv 4) (pa_cons (pe_ix (k_ix K rfl) (pv 3) pe_int (fun _ _ => rfl)) (pa_cons (pe_ix (k_ix K rfl) (pv 3) pe_int (fun _ _ => rfl)) pa_nil)))) pa_nil))) pe_non (nomark _)) (pss_one (ps_ret pe_bl)) pss_nil) (pss_cons (ps_asg (pe_call (ok__law_wrong T) (hr.mono (by decide)) (by rfl) T.g__law_wrong T.F__law_wrong.kp T.b__law_wrong .nil pass0 (pa_cons (pv 1) (pa_cons (pv 2) (pa_cons (pe_tup (pa_cons (pv 4) (pa_cons (pe_ix (k_ix K rfl) (pv 3) pe_int (fun _ _ => rfl)) (pa_cons (pe_ix (k_ix K rfl) (pv 3) pe_int (fun _ _ => rfl)) pa_nil)))) pa_nil)))) (pg_tup (n := 3) rfl (pgs_cons (pg_name (i := 5) sc_law.nd rfl (Or.inl rfl)) (pgs_cons (pg_name (i := 6) sc_law.nd rfl (Or.inl rfl)) (pgs_cons (pg_name (i := 7) sc_law.nd rfl (Or.inl rfl)) pgs_nil))))) (pss_cons (ps_for PassesOwn.never rfl (pi_range1 rfl T.n_range (pa_cons pe_int pa_nil)) (pg_name (i := 8) sc_law.nd rfl (Or.inl rfl)) (pss_one (ps_if (pt_cmpR (k_ne K rfl hr.units) (pe_call (ok__law_refusal T) (hr.mono (by decide)) (by rfl) T.g__law_refusal T.F__law_refusal.kp T.b__law_refusal .nil pass0 (pa_cons (pv 8) (pa_cons (pv 2) (pa_cons (pv 5) pa_nil)))) (pe_tup (pa_cons (pv 6) (pa_cons (pv 7) pa_nil))) (nomark _)) (pss_one (ps_ret pe_bl)) pss_nil))) (pss_cons (ps_set (i := 9) sc_law.nd rfl (Or.inl rfl) (pe_tup (pa_cons pe_str (pa_cons (pe_tup (pa_cons pe_str (pa_cons (pe_tup (pa_cons pe_str (pa_cons (pe_tup (pa_cons pe_str (pa_cons pe_int pa_nil))) (pa_cons (pe_tup (pa_cons pe_str pa_nil)) pa_nil)))) (pa_cons (pe_tup (pa_cons pe_str (pa_cons (pe_op op_pow pe_int pe_int) pa_nil))) pa_nil)))) (pa_cons (pe_tup (pa_cons pe_str pa_nil)) pa_nil))))) (pss_cons (ps_set (i := 10) sc_law.nd rfl (Or.inl rfl) (pe_callTy (k_tuple K rfl) (by rfl) T.n_tuple (by decide +kernel) (pa_cons (pe_lc (own := [("_law_k", 15)]) rfl sc_law.nd (pi_range1 rfl T.n_range (pa_cons pe_int pa_nil)) (blkOk_by (own := [("_law_k", 15)]) (N := ["_law_script", "_law_h", "_law_machine", "_law_book_here", "_law_inputs_here", "_law_wrong_here", "_law_number", "_law_word", "_law_way", "_law_deep", "_law_names", "_law_great", "_law_name", "_law_figures", "_law_least", "_law_k"]) (sc := defScope s_law) (by decide +kernel)) (fun _ _ _ _ _ => (pg_name (i := 15) sc_law.nd rfl (Or.inl rfl))) (fun _ _ _ _ _ => pts_nil) (fun _ _ _ _ _ => (pe_tup (pa_cons (pe_slice sl_str pe_str (po_some (pv 15)) po_none) (pa_cons (pe_ix (k_ix K rfl) (pv 2) pe_int (fun _ _ => rfl)) (pa_cons (pe_op op_mod (pv 15) pe_int) pa_nil)))))) pa_nil))) (pss_cons (ps_set (i := 11) sc_law.nd rfl (Or.inl rfl) (pe_tup (pa_cons (pv 10) (pa_cons (pe_op (k_rep K rfl) (pe_tup (pa_cons (pe_tup (pa_cons pe_str pa_nil)) pa_nil)) pe_int) (pa_cons (pe_op (k_rep K rfl) (pe_tup (pa_cons (pe_tup (pa_cons pe_str (pa_cons (pv 9) (pa_cons (pv 9) pa_nil)))) pa_nil)) pe_int) pa_nil))))) (pss_one (ps_ret (pe_and (pe_cmpR (k_isN) (pe_call (ok_need_book T) (hr.mono (by decide)) (by rfl) T.g_need_book T.F_need_book.kp T.b_need_book .nil passX0 (pa_cons (pv 2) (pa_cons (pv 11) pa_nil))) pe_non (nomark _)) (pe_one (pe_cmpR (k_isN) (pe_call (ok_need_book T) (hr.mono (by decide)) (by rfl) T.g_need_book T.F_need_book.kp T.b_need_book .nil passX0 (pa_cons (pv 2) (pa_cons (pe_tup (pa_cons (pe_tup pa_nil) (pa_cons (pe_tup pa_nil) (pa_cons (pe_tup pa_nil) pa_nil)))) pa_nil))) pe_non (nomark _)))))))))))))))), ?_⟩
    dsimp only [cxOf, L2.start, List.map_cons, List.map_nil, List.length_cons, List.length_nil, List.replicate, List.cons_append, List.nil_append, Nat.reduceAdd, Nat.reduceSub]
    have htb := hP _ List.mem_cons_self
    walk_at "rs"
    refine w_lstL hS fun l H1 hl s1 h1 => ?_
    walk_at "rs"
    refine w_new (by decide) fun h H2 hh s2 h2 => ?_
    have hd : DrawAt H2 h l := ⟨53, 0, ns, h2, s2 l _ h1, by decide, by decide, hn⟩
    have htb2 := s2.tabG (s1.tabG htb)
    walk_at "rs"
    refine ⟨h, l, rfl, hd, fun b s w c m H3 hm b5 s2' D3 h3 => ?_⟩
    have hM3 : MachAt K H3 m b s w c := SqT.of h3
    obtain ⟨b0, b1, s0, s1', w0, w1, c0, c1⟩ := id hm
    walk_at "rs"
    refine ⟨h, l, 2, rfl, D3.dr, by decide, by decide, fun bk B H4 hB hok hne hfar hdl hcl D4 => ?_⟩
    have D24 := D3.trans D4
    have hM4 : SqT K H4 m [.int b, .int s, .int w, .int c] := SqT.tn D4.tn hM3
    obtain ⟨x, y, z, xs, ys, zs, k0, k1, p1, k2, p2, k3, p3⟩ := id hB
    have hxl := paired_len p1
    have hi4 := hok.ins.1
    have hok2 : BokOk s B := hok.mono s2'
    walk_at "rs"
    refine w_UT k1 ?_
    refine lq_tupG (fun D i H' => Same H4 H' ∧ ∃ ads : List Addr, H' D = some (.lst (ads.map V.ref)) ∧ Paired (InpAt K H') ads (B.ins.take i)) (fun D H5 _ s5 e5 => ⟨s5, [], e5, .nil⟩) (fun D i H5 _ hp => SqT.tn hp.1.tn k1) ?_ ?_
    · rintro D i v H5 hD hv ⟨s5, ads, e5, pa⟩
      obtain ⟨r, hr, rfl⟩ := map_ref hv
      obtain ⟨inp, hi, hr0⟩ := paired_getL p1 hr
      have hil := (List.getElem?_eq_some_iff.mp hi).1
      have hal := paired_len pa
      rw [List.length_take] at hal
      have fg := ins_fg hok.ins (List.mem_of_getElem? hi)
      have r5 : SqT K H5 r [.str inp.nm, .int inp.fg, .int inp.ls] := SqT.tn s5.tn hr0
      have M5 : SqT K H5 m [.int b, .int s, .int w, .int c] := SqT.tn s5.tn hM4
      dsimp only [wipe, List.set, List.foldl]
      walk_at "rs"
      refine ⟨rfl, ?_⟩
      walk_at "rs"
      refine w_new (by decide) fun tp H6 htp s6 h6 => ?_
      have emin : min inp.fg s = inp.fg := by omega
      rw [emin] at h6
      refine w_put (s6 _ _ e5) (by rw [List.length_map]; omega) fun H7 e7 h7 => ?_
      have t67 : Tn H6 H7 := tn_mut e7 (s6 _ _ e5)
      refine ⟨e7 ▸ (s5.trans s6).mut hD, ads ++ [tp], by rw [h7, List.map_append]; rfl, ?_⟩
      rw [List.take_add_one, hi]
      exact paired_snoc (show InpAt K H7 tp ⟨inp.nm, inp.fg, inp.ls⟩ from SqT.tn t67 (SqT.of h6)) (pI pa (s6.tn.trans t67))
    rintro D H5 hD ⟨s5, ads, e5, pa⟩
    rw [List.length_map, hxl, List.take_of_length_le (Nat.le_refl _)] at pa
    walk_at "rs"
    refine w_tupL (SqL.of e5) fun x2 H6 hx2 s6 j1 => ?_
    have S46 := s5.trans s6
    walk_at "rs"
    refine w_ixT (SqT.tn S46.tn k0) rfl ?_
    walk_at "rs"
    refine w_ixT (SqT.tn S46.tn k0) rfl ?_
    walk_at "rs"
    refine w_new (by decide) fun bk2 H7 hbk2 s7 j2 => ?_
    have S47 := S46.trans s7
    have hB7 : BokAt K H7 bk2 B := ⟨x2, y, z, ads, ys, zs, SqT.of j2, SqT.tn s7.tn (SqT.of j1), pI pa (s6.trans s7).tn, SqT.tn S47.tn k2, paired_imp (fun _ _ h => DeeAt.tn h S47.tn) p2, SqT.tn S47.tn k3, paired_imp (fun _ _ h => ClaAt.tn h S47.tn) p3⟩
    have hM7 : MachAt K H7 m b s w c := SqT.tn S47.tn hM4
    have htb7 : GxR.TabG H7 T.tp_is_name := (Same.smt (P := T.tp_is_name) S47).tabG (D24.tab hd htb2)
    have hd7 := D24.dr.same S47
    walk_at "rs"
    refine .inl ⟨m, bk2, b, s, w, c, B.r, rfl, hM7, hm, hB7.r hok2, (by show B.ins.length ≤ 1000; omega), (by show (B.dds.map RDee.ok).length ≤ 1000; rw [List.length_map]; omega), (by show (B.cls.map Cla.r).length ≤ 1000; rw [List.length_map]; omega), htb7, fun _ H8 s8 => ?_, fun k z e => (by rw [whyNot_good hok2] at e; cases e)⟩
    walk_at "rs"
    have T48 : Tn H4 H8 := S47.tn.trans s8.tn
    refine w_ixT (SqT.tn T48 k0) rfl ?_
    walk_at "rs"
    refine w_ixT (SqT.tn T48 k0) rfl ?_
    walk_at "rs"
    refine w_new (by decide) fun bk3 H9 hbk3 s9 j3 => ?_
    have T49 : Tn H4 H9 := T48.trans s9.tn
    have hB9 : BokAt K H9 bk3 B := ⟨x2, y, z, ads, ys, zs, SqT.of j3, SqT.tn (s7.tn.trans (s8.tn.trans s9.tn)) (SqT.of j1), pI pa ((s6.trans s7).tn.trans (s8.tn.trans s9.tn)), SqT.tn T49 k2, paired_imp (fun _ _ h => DeeAt.tn h T49) p2, SqT.tn T49 k3, paired_imp (fun _ _ h => ClaAt.tn h T49) p3⟩
    have htb9 := (Same.smt (P := T.tp_is_name) s9).tabG (s8.tabG htb7)
    have hd9 := (hd7.smt s8).same s9
    walk_at "rs"
    refine ⟨h, l, m, bk3, b, s, w, c, B, rfl, hd9, SqT.tn T49 hM4, hm, hB9, hok2, hne, hfar, hdl, hcl, fun p b2 R k wd2 H10 hR il dl cl2 ek D10 hp => ?_⟩
    have htb10 := D10.tab hd9 htb9
    have hM10 : MachAt K H10 m b s w c := SqT.tn (T49.trans D10.tn) hM4
    walk_at "rs"
    refine w_rngI (by decide) ?_
    refine lp_range0 (fun i σ H' => ∃ x8, σ = [some (.ref a), some (.ref h), some (.ref m), some (.ref bk), some (.ref x2), some (.ref b2), some (.int (k : Nat)), some (.str wd2), x8, none, none, none, none, none, none, none] ∧ Tn H10 H' ∧ GxR.TabG H' T.tp_is_name) ⟨none, rfl, Tn.refl _, htb10⟩ ?_ ?_
    · rintro i σ H11 hi ⟨x8, rfl, t11, htb11⟩
      walk_at "rs"
      refine ⟨i, m, b2, b, s, w, c, R, k, wd2, rfl, by omega, by omega, SqT.tn t11 hM10, hm, hR.tn t11, il, dl, cl2, htb11, ek, fun pr H12 s12 hpr => ?_⟩
      walk_at "rs"
      refine w_new (by decide) fun pr2 H13 hpr2 s13 h13 => ?_
      refine w_neSame (d := .tuple [.int (k : Nat), .str wd2]) (n := 2) (.tup (SqT.tn s13.tn hpr) (.cons (.int _) (.cons (.str _) .nil))) (.tup (SqT.of h13) (.cons (.int _) (.cons (.str _) .nil))) (lays.tup (laysAll.cons (lays.int _) (laysAll.cons (lays.str (why_word ek)) laysAll.nil))) (by decide) ?_
      walk_at "rs"
      exact ⟨_, rfl, t11.trans (s12.tn.trans s13.tn), (Same.smt (P := T.tp_is_name) s13).tabG (s12.tabG htb11)⟩
    rintro σ H11 ⟨x8, rfl, t11, htb11⟩
    walk_at "rs"
    refine w_new (by decide) fun t1 I1 z1 j1 e1 => ?_
    walk_at "rs"
    refine w_new (by decide) fun t2 I2 z2 j2 e2 => ?_
    walk_at "rs"
    refine w_new (by decide) fun t3 I3 z3 j3 e3 => ?_
    walk_at "rs"
    refine w_new (by decide) fun t4 I4 z4 j4 e4 => ?_
    walk_at "rs"
    refine w_new (by decide) fun t5 I5 z5 j5 e5 => ?_
    walk_at "rs"
    refine w_new (by decide) fun t6 I6 z6 j6 e6 => ?_
    walk_at "rs"
    refine w_new (by decide) fun t7 I7 z7 j7 e7 => ?_
    have J27 := (((((j2.trans j3).trans j4).trans j5).trans j6).trans j7)
    have J17 := j1.trans J27
    have hde : RSidAt K I7 t7 deep8 := .add (SqT.of e7) (.add (SqT.tn (j6.trans j7).tn (SqT.of e5)) (.add (SqT.tn (((j4.trans j5).trans j6).trans j7).tn (SqT.of e3)) (.num (SqT.tn J27.tn (SqT.of e1))) (.wheels (SqT.tn ((((j3.trans j4).trans j5).trans j6).trans j7).tn (SqT.of e2)))) (.num (SqT.tn (((j5.trans j6).trans j7)).tn (SqT.of e4)))) (.counts (SqT.tn j7.tn (SqT.of e6)))
    walk_at "rs"
    refine w_rngI (by decide) ?_
    have hM11 : SqT K H11 m [.int b, .int s, .int w, .int c] := SqT.tn t11 hM10
    refine lq_range0 (fun D i H' => Same I7 H' ∧ ∃ ads : List Addr, H' D = some (.lst (ads.map V.ref)) ∧ Paired (InpAt K H') ads (ins8 s i)) (fun D H2 _ s2 e2 => ⟨s2, [], e2, .nil⟩) ?_ ?_
    · rintro D i I8 hD hi ⟨j8, ads, e8, pa⟩
      have hal := paired_len pa
      have hl8 : (ins8 s i).length = i := by unfold ins8; rw [List.length_map, List.length_range]
      have M8 : SqT K I8 m [.int b, .int s, .int w, .int c] := SqT.tn (J17.trans j8).tn hM11
      refine ⟨rfl, ?_⟩
      dsimp only [wipe]
      walk_at "rs"
      refine w_slS (by decide +kernel) ?_
      walk_at "rs"
      refine w_new (by decide) fun tp I9 htp j9 e9 => ?_
      refine w_put (j9 _ _ e8) (by rw [List.length_map]; omega) fun I10 e10 k10 => ?_
      have t910 : Tn I9 I10 := tn_mut e10 (j9 _ _ e8)
      refine ⟨e10 ▸ (j8.trans j9).mut hD, ads ++ [tp], by rw [k10, List.map_append]; rfl, ?_⟩
      rw [ins8_succ]
      exact paired_snoc (show InpAt K I10 tp ⟨nm8 i, s, (i : Int) % 2⟩ from SqT.tn t910 (SqT.of e9)) (pI pa (j9.tn.trans t910))
    rintro D I8 hD ⟨j8, ads, e8, pa⟩
    walk_at "rs"
    refine w_tupL (SqL.of e8) fun u1 I9 hu1 j9 f1 => ?_
    walk_at "rs"
    refine w_new (by decide) fun u2 I10 y2 j10 f2 => ?_
    walk_at "rs"
    refine w_new (by decide) fun u3 I11 y3 j11 f3 => ?_
    walk_at "rs"
    refine w_repU0 (SqT.of f3) (by decide) (by decide) fun u4 I12 j12 f4 => ?_
    have f4' : SqT K I12 u4 ((List.replicate 40 u2).map V.ref) := by rw [List.map_replicate]; exact f4
    walk_at "rs"
    refine w_new (by decide) fun u5 I13 y5 j13 f5 => ?_
    walk_at "rs"
    refine w_new (by decide) fun u6 I14 y6 j14 f6 => ?_
    walk_at "rs"
    refine w_repU0 (SqT.of f6) (by decide) (by decide) fun u7 I15 j15 f7 => ?_
    have f7' : SqT K I15 u7 ((List.replicate 8 u5).map V.ref) := by rw [List.map_replicate]; exact f7
    walk_at "rs"
    refine w_new (by decide) fun u8 I16 y8 j16 f8 => ?_
    have K1516 := j15.trans j16
    have K1316 := (j13.trans j14).trans K1516
    have K1016 := ((j10.trans j11).trans j12).trans K1316
    have hgr : RBokAt K I16 u8 (great8 s) := ⟨u1, u4, u7, ads, _, _, SqT.of f8, SqT.tn K1016.tn (SqT.of f1), pI pa (j9.trans K1016).tn, SqT.tn K1316.tn f4',
      paired_rep (show RDeeAt K I16 u2 (.ok .one) from ⟨SqT.tn ((j11.trans j12).trans K1316).tn (SqT.of f2), trivial⟩) 40, SqT.tn j16.tn f7', paired_rep (show RClaAt K I16 u5 (.two "less" deep8 deep8) from .two (SqT.tn (j14.trans K1516).tn (SqT.of f5)) (hde.tn ((j8.trans j9).trans K1016).tn) (hde.tn ((j8.trans j9).trans K1016).tn)) 8, fun i hi => ?_⟩
    · have KS := ((J17.trans j8).trans j9).trans K1016
      have htb16 := (Same.smt (P := T.tp_is_name) KS).tabG htb11
      have hM16 : MachAt K I16 m b s w c := SqT.tn KS.tn hM11
      walk_at "rs"
      refine .inl ⟨m, u8, b, s, w, c, great8 s, rfl, hM16, hm, hgr, (show (4 : Nat) ≤ 1000 by decide), (by show (List.replicate 40 (RDee.ok .one)).length ≤ 1000; rw [List.length_replicate]; omega), (by show (List.replicate 8 (RCla.two "less" deep8 deep8)).length ≤ 1000; rw [List.length_replicate]; omega), htb16, fun _ I17 j17 => ?_, fun k z e => (by rw [great8_why s0] at e; cases e)⟩
      walk_at "rs"
      refine w_new (by decide) fun v1 I18 yv1 j18 g1 => ?_
      walk_at "rs"
      refine w_new (by decide) fun v2 I19 yv2 j19 g2 => ?_
      walk_at "rs"
      refine w_new (by decide) fun v3 I20 yv3 j20 g3 => ?_
      walk_at "rs"
      refine w_new (by decide) fun v4 I21 yv4 j21 g4 => ?_
      walk_at "rs"
      have KL := (j18.trans j19).trans (j20.trans j21)
      refine .inl ⟨m, v4, b, s, w, c, ⟨[], [], []⟩, rfl, SqT.tn (j17.tn.trans KL.tn) hM16, hm, ⟨v1, v2, v3, [], [], [], SqT.of g4, SqT.tn ((j19.trans j20).trans j21).tn (SqT.of g1), .nil, SqT.tn (j20.trans j21).tn (SqT.of g2), .nil, SqT.tn j21.tn (SqT.of g3), .nil, fun i hi => nomatch hi⟩, (show (0 : Nat) ≤ 1000 by decide), (show (0 : Nat) ≤ 1000 by decide), (show (0 : Nat) ≤ 1000 by decide), (Same.smt (P := T.tp_is_name) KL).tabG (j17.tabG htb16), fun _ I22 j22 => ?_, fun k z e => nomatch e⟩
      walk_at "rs"
      exact q _
    · have hi' : i ∈ ins8 s 4 := hi
      obtain ⟨kk, hk⟩ := List.getElem?_of_mem hi'
      have := nameOk_len (inputOk_name ((ins8_ok s0).2 kk i hk))
      omega
end
theorem all_mk {l : PySem.W.OpenLaw} {w : World} {K : PySem.W.Frag} {h : Heap} {mg : Str → Option Value} {fa : Addr} (X : K.In h) (G : h.Ns mainGlobals mg) (hfa : mg "law" = some (.ref fa))
    {od1 an1 : Option Addr} {sl1 : Array (Option Value)} {oc1 kV1 dc1 pm1 cd1 ct1 : Value} {f1 : Addr}
    {od2 an2 : Option Addr} {sl2 : Array (Option Value)} {oc2 kV2 dc2 pm2 cd2 ct2 : Value} {f2 : Addr}
    {od3 an3 : Option Addr} {sl3 : Array (Option Value)} {oc3 kV3 dc3 pm3 cd3 ct3 : Value} {f3 : Addr}
    {od4 an4 : Option Addr} {sl4 : Array (Option Value)} {oc4 kV4 dc4 pm4 cd4 ct4 : Value} {f4 : Addr}
    {od5 an5 : Option Addr} {sl5 : Array (Option Value)} {oc5 kV5 dc5 pm5 cd5 ct5 : Value} {f5 : Addr}
    {od6 an6 : Option Addr} {sl6 : Array (Option Value)} {oc6 kV6 dc6 pm6 cd6 ct6 : Value} {f6 : Addr}
    {od7 an7 : Option Addr} {sl7 : Array (Option Value)} {oc7 kV7 dc7 pm7 cd7 ct7 : Value} {f7 : Addr}
    {od8 an8 : Option Addr} {sl8 : Array (Option Value)} {oc8 kV8 dc8 pm8 cd8 ct8 : Value} {f8 : Addr}
    {od9 an9 : Option Addr} {sl9 : Array (Option Value)} {oc9 kV9 dc9 pm9 cd9 ct9 : Value} {f9 : Addr}
    {od10 an10 : Option Addr} {sl10 : Array (Option Value)} {oc10 kV10 dc10 pm10 cd10 ct10 : Value} {f10 : Addr}
    {od11 an11 : Option Addr} {sl11 : Array (Option Value)} {oc11 kV11 dc11 pm11 cd11 ct11 : Value} {f11 : Addr}
    {od12 an12 : Option Addr} {sl12 : Array (Option Value)} {oc12 kV12 dc12 pm12 cd12 ct12 : Value} {f12 : Addr}
    {od13 an13 : Option Addr} {sl13 : Array (Option Value)} {oc13 kV13 dc13 pm13 cd13 ct13 : Value} {f13 : Addr}
    {od14 an14 : Option Addr} {sl14 : Array (Option Value)} {oc14 kV14 dc14 pm14 cd14 ct14 : Value} {f14 : Addr}
    {od15 an15 : Option Addr} {sl15 : Array (Option Value)} {oc15 kV15 dc15 pm15 cd15 ct15 : Value} {f15 : Addr}
    {od16 an16 : Option Addr} {sl16 : Array (Option Value)} {oc16 kV16 dc16 pm16 cd16 ct16 : Value} {f16 : Addr}
    {od17 an17 : Option Addr} {sl17 : Array (Option Value)} {oc17 kV17 dc17 pm17 cd17 ct17 : Value} {f17 : Addr}
    {od18 an18 : Option Addr} {sl18 : Array (Option Value)} {oc18 kV18 dc18 pm18 cd18 ct18 : Value} {f18 : Addr}
    {od19 an19 : Option Addr} {sl19 : Array (Option Value)} {oc19 kV19 dc19 pm19 cd19 ct19 : Value} {f19 : Addr}
    {od20 an20 : Option Addr} {sl20 : Array (Option Value)} {oc20 kV20 dc20 pm20 cd20 ct20 : Value} {f20 : Addr}
    {od21 an21 : Option Addr} {sl21 : Array (Option Value)} {oc21 kV21 dc21 pm21 cd21 ct21 : Value} {f21 : Addr}
    {od22 an22 : Option Addr} {sl22 : Array (Option Value)} {oc22 kV22 dc22 pm22 cd22 ct22 : Value} {f22 : Addr}
    {od23 an23 : Option Addr} {sl23 : Array (Option Value)} {oc23 kV23 dc23 pm23 cd23 ct23 : Value} {f23 : Addr}
    {od24 an24 : Option Addr} {sl24 : Array (Option Value)} {oc24 kV24 dc24 pm24 cd24 ct24 : Value} {f24 : Addr}
    {od25 an25 : Option Addr} {sl25 : Array (Option Value)} {oc25 kV25 dc25 pm25 cd25 ct25 : Value} {f25 : Addr}
    {od26 an26 : Option Addr} {sl26 : Array (Option Value)} {oc26 kV26 dc26 pm26 cd26 ct26 : Value} {f26 : Addr}
    {ac1 : Addr} {ic1 : Option Addr} {jc1 : Nat} {kc1 : Array (Option Value)} {u1_0 u1_1 : Tok}
    {ac2 : Addr} {ic2 : Option Addr} {jc2 : Nat} {kc2 : Array (Option Value)} {u2_0 u2_1 : Tok}
    {tk3 : Tok}
    {tk4 : Tok}
    {tk5 : Tok}
    {tk6 : Tok}
    {tk7 : Tok}
    {tk8 : Tok}
    {tk9 : Tok}
    {tk10 : Tok}
    {tk11 : Tok}
    {tk12 : Tok}
    {tk13 : Tok}
    {ac14 : Addr} {ic14 : Option Addr} {jc14 : Nat} {kc14 : Array (Option Value)} {u14_0 u14_1 : Tok}
    {tk15 : Tok}
    {ac16 : Addr} {ic16 : Option Addr} {jc16 : Nat} {kc16 : Array (Option Value)} {u16_0 u16_1 u16_2 : Tok}
    {ac17 : Addr} {ic17 : Option Addr} {jc17 : Nat} {kc17 : Array (Option Value)} {u17_0 u17_1 : Tok}
    {ac18 : Addr} {ic18 : Option Addr} {jc18 : Nat} {kc18 : Array (Option Value)} {u18_0 u18_1 : Tok}
    {ad_BadBook : Addr}
    {ad_BadDeed : Addr}
    {ad_BadMachine : Addr}
    {ad_BadValue : Addr}
    {ad_DrumError : Addr}
    {ad_Stuck : Addr}
    {ad_TooSmall : Addr}
    {od27 an27 : Option Addr} {sl27 : Array (Option Value)} {oc27 kV27 dc27 pm27 cd27 ct27 : Value} {f27 : Addr}
    {tc14 tp14 : Addr} {te14 : Value} {td14 : Option Addr} {tv14 : Array Value} {ts14 : Array (Option Value)}
    (a1 : PySem.W.nsIn K mainGlobals "_law_next" = some (some (.ref f1))) (l1 : K.lookup f1 = some ⟨oc1, od1, .func (PySem.W.fnOf "_law_next" "_law_next" (defArgs s__law_next) (defBody s__law_next) (defScope s__law_next) .none kV1 dc1 pm1 an1 cd1 ct1), sl1⟩) (c1 : PySem.W.codeIn K cd1 "_law_next" = true) (k1 : PySem.W.keepIn K (.ref f1) = true)
    (a2 : PySem.W.nsIn K mainGlobals "_law_deed" = some (some (.ref f2))) (l2 : K.lookup f2 = some ⟨oc2, od2, .func (PySem.W.fnOf "_law_deed" "_law_deed" (defArgs s__law_deed) (defBody s__law_deed) (defScope s__law_deed) .none kV2 dc2 pm2 an2 cd2 ct2), sl2⟩) (c2 : PySem.W.codeIn K cd2 "_law_deed" = true) (k2 : PySem.W.keepIn K (.ref f2) = true)
    (a3 : PySem.W.nsIn K mainGlobals "_law_inputs" = some (some (.ref f3))) (l3 : K.lookup f3 = some ⟨oc3, od3, .func (PySem.W.fnOf "_law_inputs" "_law_inputs" (defArgs s__law_inputs) (defBody s__law_inputs) (defScope s__law_inputs) .none kV3 dc3 pm3 an3 cd3 ct3), sl3⟩) (c3 : PySem.W.codeIn K cd3 "_law_inputs" = true) (k3 : PySem.W.keepIn K (.ref f3) = true)
    (a4 : PySem.W.nsIn K mainGlobals "_law_likely" = some (some (.ref f4))) (l4 : K.lookup f4 = some ⟨oc4, od4, .func (PySem.W.fnOf "_law_likely" "_law_likely" (defArgs s__law_likely) (defBody s__law_likely) (defScope s__law_likely) .none kV4 dc4 pm4 an4 cd4 ct4), sl4⟩) (c4 : PySem.W.codeIn K cd4 "_law_likely" = true) (k4 : PySem.W.keepIn K (.ref f4) = true)
    (a5 : PySem.W.nsIn K mainGlobals "_law_long" = some (some (.ref f5))) (l5 : K.lookup f5 = some ⟨oc5, od5, .func (PySem.W.fnOf "_law_long" "_law_long" (defArgs s__law_long) (defBody s__law_long) (defScope s__law_long) .none kV5 dc5 pm5 an5 cd5 ct5), sl5⟩) (c5 : PySem.W.codeIn K cd5 "_law_long" = true) (k5 : PySem.W.keepIn K (.ref f5) = true)
    (a6 : PySem.W.nsIn K mainGlobals "_law_side" = some (some (.ref f6))) (l6 : K.lookup f6 = some ⟨oc6, od6, .func (PySem.W.fnOf "_law_side" "_law_side" (defArgs s__law_side) (defBody s__law_side) (defScope s__law_side) .none kV6 dc6 pm6 an6 cd6 ct6), sl6⟩) (c6 : PySem.W.codeIn K cd6 "_law_side" = true) (k6 : PySem.W.keepIn K (.ref f6) = true)
    (a7 : PySem.W.nsIn K mainGlobals "_law_book" = some (some (.ref f7))) (l7 : K.lookup f7 = some ⟨oc7, od7, .func (PySem.W.fnOf "_law_book" "_law_book" (defArgs s__law_book) (defBody s__law_book) (defScope s__law_book) .none kV7 dc7 pm7 an7 cd7 ct7), sl7⟩) (c7 : PySem.W.codeIn K cd7 "_law_book" = true) (k7 : PySem.W.keepIn K (.ref f7) = true)
    (a8 : PySem.W.nsIn K mainGlobals "_law_books_machine" = some (some (.ref f8))) (l8 : K.lookup f8 = some ⟨oc8, od8, .func (PySem.W.fnOf "_law_books_machine" "_law_books_machine" (defArgs s__law_books_machine) (defBody s__law_books_machine) (defScope s__law_books_machine) .none kV8 dc8 pm8 an8 cd8 ct8), sl8⟩) (c8 : PySem.W.codeIn K cd8 "_law_books_machine" = true) (k8 : PySem.W.keepIn K (.ref f8) = true)
    (a9 : PySem.W.nsIn K mainGlobals "is_side" = some (some (.ref f9))) (l9 : K.lookup f9 = some ⟨oc9, od9, .func (PySem.W.fnOf "is_side" "is_side" (defArgs s_is_side) (defBody s_is_side) (defScope s_is_side) .none kV9 dc9 pm9 an9 cd9 ct9), sl9⟩) (c9 : PySem.W.codeIn K cd9 "is_side" = true) (k9 : PySem.W.keepIn K (.ref f9) = true)
    (a10 : PySem.W.nsIn K mainGlobals "is_claim" = some (some (.ref f10))) (l10 : K.lookup f10 = some ⟨oc10, od10, .func (PySem.W.fnOf "is_claim" "is_claim" (defArgs s_is_claim) (defBody s_is_claim) (defScope s_is_claim) .none kV10 dc10 pm10 an10 cd10 ct10), sl10⟩) (c10 : PySem.W.codeIn K cd10 "is_claim" = true) (k10 : PySem.W.keepIn K (.ref f10) = true)
    (a11 : PySem.W.nsIn K mainGlobals "need_claims" = some (some (.ref f11))) (l11 : K.lookup f11 = some ⟨oc11, od11, .func (PySem.W.fnOf "need_claims" "need_claims" (defArgs s_need_claims) (defBody s_need_claims) (defScope s_need_claims) .none kV11 dc11 pm11 an11 cd11 ct11), sl11⟩) (c11 : PySem.W.codeIn K cd11 "need_claims" = true) (k11 : PySem.W.keepIn K (.ref f11) = true)
    (a12 : PySem.W.nsIn K mainGlobals "is_deed" = some (some (.ref f12))) (l12 : K.lookup f12 = some ⟨oc12, od12, .func (PySem.W.fnOf "is_deed" "is_deed" (defArgs s_is_deed) (defBody s_is_deed) (defScope s_is_deed) .none kV12 dc12 pm12 an12 cd12 ct12), sl12⟩) (c12 : PySem.W.codeIn K cd12 "is_deed" = true) (k12 : PySem.W.keepIn K (.ref f12) = true)
    (a13 : PySem.W.nsIn K mainGlobals "need_deeds" = some (some (.ref f13))) (l13 : K.lookup f13 = some ⟨oc13, od13, .func (PySem.W.fnOf "need_deeds" "need_deeds" (defArgs s_need_deeds) (defBody s_need_deeds) (defScope s_need_deeds) .none kV13 dc13 pm13 an13 cd13 ct13), sl13⟩) (c13 : PySem.W.codeIn K cd13 "need_deeds" = true) (k13 : PySem.W.keepIn K (.ref f13) = true)
    (a14 : PySem.W.nsIn K mainGlobals "is_name" = some (some (.ref f14))) (l14 : K.lookup f14 = some ⟨oc14, od14, .func (PySem.W.fnOf "is_name" "is_name" (defArgs s_is_name) (defBody s_is_name) (defScope s_is_name) .none kV14 dc14 pm14 an14 cd14 ct14), sl14⟩) (c14 : PySem.W.codeIn K cd14 "is_name" = true) (k14 : PySem.W.keepIn K (.ref f14) = true)
    (a15 : PySem.W.nsIn K mainGlobals "is_input" = some (some (.ref f15))) (l15 : K.lookup f15 = some ⟨oc15, od15, .func (PySem.W.fnOf "is_input" "is_input" (defArgs s_is_input) (defBody s_is_input) (defScope s_is_input) .none kV15 dc15 pm15 an15 cd15 ct15), sl15⟩) (c15 : PySem.W.codeIn K cd15 "is_input" = true) (k15 : PySem.W.keepIn K (.ref f15) = true)
    (a16 : PySem.W.nsIn K mainGlobals "need_inputs" = some (some (.ref f16))) (l16 : K.lookup f16 = some ⟨oc16, od16, .func (PySem.W.fnOf "need_inputs" "need_inputs" (defArgs s_need_inputs) (defBody s_need_inputs) (defScope s_need_inputs) .none kV16 dc16 pm16 an16 cd16 ct16), sl16⟩) (c16 : PySem.W.codeIn K cd16 "need_inputs" = true) (k16 : PySem.W.keepIn K (.ref f16) = true)
    (a17 : PySem.W.nsIn K mainGlobals "need_machine" = some (some (.ref f17))) (l17 : K.lookup f17 = some ⟨oc17, od17, .func (PySem.W.fnOf "need_machine" "need_machine" (defArgs s_need_machine) (defBody s_need_machine) (defScope s_need_machine) .none kV17 dc17 pm17 an17 cd17 ct17), sl17⟩) (c17 : PySem.W.codeIn K cd17 "need_machine" = true) (k17 : PySem.W.keepIn K (.ref f17) = true)
    (a18 : PySem.W.nsIn K mainGlobals "need_book" = some (some (.ref f18))) (l18 : K.lookup f18 = some ⟨oc18, od18, .func (PySem.W.fnOf "need_book" "need_book" (defArgs s_need_book) (defBody s_need_book) (defScope s_need_book) .none kV18 dc18 pm18 an18 cd18 ct18), sl18⟩) (c18 : PySem.W.codeIn K cd18 "need_book" = true) (k18 : PySem.W.keepIn K (.ref f18) = true)
    (a19 : PySem.W.nsIn K mainGlobals "looked" = some (some (.ref f19))) (l19 : K.lookup f19 = some ⟨oc19, od19, .func (PySem.W.fnOf "looked" "looked" (defArgs s_looked) (defBody s_looked) (defScope s_looked) .none kV19 dc19 pm19 an19 cd19 ct19), sl19⟩) (c19 : PySem.W.codeIn K cd19 "looked" = true) (k19 : PySem.W.keepIn K (.ref f19) = true)
    (a20 : PySem.W.nsIn K mainGlobals "worked" = some (some (.ref f20))) (l20 : K.lookup f20 = some ⟨oc20, od20, .func (PySem.W.fnOf "worked" "worked" (defArgs s_worked) (defBody s_worked) (defScope s_worked) .none kV20 dc20 pm20 an20 cd20 ct20), sl20⟩) (c20 : PySem.W.codeIn K cd20 "worked" = true) (k20 : PySem.W.keepIn K (.ref f20) = true)
    (a21 : PySem.W.nsIn K mainGlobals "_law_refusal" = some (some (.ref f21))) (l21 : K.lookup f21 = some ⟨oc21, od21, .func (PySem.W.fnOf "_law_refusal" "_law_refusal" (defArgs s__law_refusal) (defBody s__law_refusal) (defScope s__law_refusal) .none kV21 dc21 pm21 an21 cd21 ct21), sl21⟩) (c21 : PySem.W.codeIn K cd21 "_law_refusal" = true) (k21 : PySem.W.keepIn K (.ref f21) = true)
    (a22 : PySem.W.nsIn K mainGlobals "_law_bad_deed" = some (some (.ref f22))) (l22 : K.lookup f22 = some ⟨oc22, od22, .func (PySem.W.fnOf "_law_bad_deed" "_law_bad_deed" (defArgs s__law_bad_deed) (defBody s__law_bad_deed) (defScope s__law_bad_deed) .none kV22 dc22 pm22 an22 cd22 ct22), sl22⟩) (c22 : PySem.W.codeIn K cd22 "_law_bad_deed" = true) (k22 : PySem.W.keepIn K (.ref f22) = true)
    (a23 : PySem.W.nsIn K mainGlobals "_law_bad_input" = some (some (.ref f23))) (l23 : K.lookup f23 = some ⟨oc23, od23, .func (PySem.W.fnOf "_law_bad_input" "_law_bad_input" (defArgs s__law_bad_input) (defBody s__law_bad_input) (defScope s__law_bad_input) .none kV23 dc23 pm23 an23 cd23 ct23), sl23⟩) (c23 : PySem.W.codeIn K cd23 "_law_bad_input" = true) (k23 : PySem.W.keepIn K (.ref f23) = true)
    (a24 : PySem.W.nsIn K mainGlobals "_law_bad_side" = some (some (.ref f24))) (l24 : K.lookup f24 = some ⟨oc24, od24, .func (PySem.W.fnOf "_law_bad_side" "_law_bad_side" (defArgs s__law_bad_side) (defBody s__law_bad_side) (defScope s__law_bad_side) .none kV24 dc24 pm24 an24 cd24 ct24), sl24⟩) (c24 : PySem.W.codeIn K cd24 "_law_bad_side" = true) (k24 : PySem.W.keepIn K (.ref f24) = true)
    (a25 : PySem.W.nsIn K mainGlobals "_law_wrong" = some (some (.ref f25))) (l25 : K.lookup f25 = some ⟨oc25, od25, .func (PySem.W.fnOf "_law_wrong" "_law_wrong" (defArgs s__law_wrong) (defBody s__law_wrong) (defScope s__law_wrong) .none kV25 dc25 pm25 an25 cd25 ct25), sl25⟩) (c25 : PySem.W.codeIn K cd25 "_law_wrong" = true) (k25 : PySem.W.keepIn K (.ref f25) = true)
    (a26 : PySem.W.nsIn K mainGlobals "law" = some (some (.ref f26))) (l26 : K.lookup f26 = some ⟨oc26, od26, .func (PySem.W.fnOf "law" "law" (defArgs s_law) (defBody s_law) (defScope s_law) .none kV26 dc26 pm26 an26 cd26 ct26), sl26⟩) (c26 : PySem.W.codeIn K cd26 "law" = true) (k26 : PySem.W.keepIn K (.ref f26) = true)
    (z1 : PySem.W.nsIn K mainGlobals "ValueError" = some none) (z2 : PySem.W.nsIn K mainGlobals "all" = some none) (z3 : PySem.W.nsIn K mainGlobals "bool" = some none) (z4 : PySem.W.nsIn K mainGlobals "enumerate" = some none) (z5 : PySem.W.nsIn K mainGlobals "int" = some none) (z6 : PySem.W.nsIn K mainGlobals "isinstance" = some none) (z7 : PySem.W.nsIn K mainGlobals "len" = some none) (z8 : PySem.W.nsIn K mainGlobals "list" = some none) (z9 : PySem.W.nsIn K mainGlobals "max" = some none) (z10 : PySem.W.nsIn K mainGlobals "min" = some none) (z11 : PySem.W.nsIn K mainGlobals "range" = some none) (z12 : PySem.W.nsIn K mainGlobals "tuple" = some none) (y1 : PySem.W.nsIn K mainGlobals "CLAIM_WORDS" = some (some (.ref ac1))) (x1 : K.lookup ac1 = some ⟨.type "tuple", ic1, .seq #[.str "same" u1_0, .str "less" u1_1] jc1, kc1⟩) (y2 : PySem.W.nsIn K mainGlobals "LEASTS" = some (some (.ref ac2))) (x2 : K.lookup ac2 = some ⟨.type "tuple", ic2, .seq #[.int (0) u2_0, .int (1) u2_1] jc2, kc2⟩) (y3 : PySem.W.nsIn K mainGlobals "LEAST_BASE" = some (some (.int (2) tk3))) (y4 : PySem.W.nsIn K mainGlobals "LONGEST_NAME" = some (some (.int (8) tk4))) (y5 : PySem.W.nsIn K mainGlobals "MOST_BASE" = some (some (.int (12) tk5))) (y6 : PySem.W.nsIn K mainGlobals "MOST_CLAIMS" = some (some (.int (8) tk6))) (y7 : PySem.W.nsIn K mainGlobals "MOST_COUNTERS" = some (some (.int (10) tk7))) (y8 : PySem.W.nsIn K mainGlobals "MOST_DEEDS" = some (some (.int (40) tk8))) (y9 : PySem.W.nsIn K mainGlobals "MOST_DEEP" = some (some (.int (4) tk9))) (y10 : PySem.W.nsIn K mainGlobals "MOST_INPUTS" = some (some (.int (4) tk10))) (y11 : PySem.W.nsIn K mainGlobals "MOST_NUMBER" = some (some (.int (1000000000) tk11))) (y12 : PySem.W.nsIn K mainGlobals "MOST_SLIDES" = some (some (.int (6) tk12))) (y13 : PySem.W.nsIn K mainGlobals "MOST_WHEELS" = some (some (.int (16) tk13))) (y14 : PySem.W.nsIn K mainGlobals "NO_NAMES" = some (some (.ref ac14))) (x14 : K.lookup ac14 = some ⟨.type "tuple", ic14, .seq #[.str "wheels" u14_0, .str "counts" u14_1] jc14, kc14⟩) (y15 : PySem.W.nsIn K mainGlobals "SMALL_LETTERS" = some (some (.str "abcdefghijklmnopqrstuvwxyz" tk15))) (y16 : PySem.W.nsIn K mainGlobals "TALLIES" = some (some (.ref ac16))) (x16 : K.lookup ac16 = some ⟨.type "tuple", ic16, .seq #[.int (-1) u16_0, .int (0) u16_1, .int (1) u16_2] jc16, kc16⟩) (y17 : PySem.W.nsIn K mainGlobals "WAYS" = some (some (.ref ac17))) (x17 : K.lookup ac17 = some ⟨.type "tuple", ic17, .seq #[.int (1) u17_0, .int (-1) u17_1] jc17, kc17⟩) (y18 : PySem.W.nsIn K mainGlobals "WIPED" = some (some (.ref ac18))) (x18 : K.lookup ac18 = some ⟨.type "tuple", ic18, .seq #[.str "wheels" u18_0, .str "counts" u18_1] jc18, kc18⟩) (gg_BadBook : PySem.W.nsIn K mainGlobals "BadBook" = some (some (.ref ad_BadBook))) (gg_BadDeed : PySem.W.nsIn K mainGlobals "BadDeed" = some (some (.ref ad_BadDeed))) (gg_BadMachine : PySem.W.nsIn K mainGlobals "BadMachine" = some (some (.ref ad_BadMachine))) (gg_BadValue : PySem.W.nsIn K mainGlobals "BadValue" = some (some (.ref ad_BadValue))) (gg_DrumError : PySem.W.nsIn K mainGlobals "DrumError" = some (some (.ref ad_DrumError))) (gg_Stuck : PySem.W.nsIn K mainGlobals "Stuck" = some (some (.ref ad_Stuck))) (gg_TooSmall : PySem.W.nsIn K mainGlobals "TooSmall" = some (some (.ref ad_TooSmall))) (hb_DrumError : PySem.W.subIn K (.ref ad_DrumError) (.type "BaseException") = some true) (hd_DrumError : PySem.W.hasDictIn K ad_DrumError = true) (ht_DrumError : PySem.W.typeIn K (.ref ad_DrumError) = some (.type "type")) (hs_BadBook_DrumError : PySem.W.subIn K (.ref ad_BadBook) (.ref ad_DrumError) = some true) (hs_BadBook_ValueError : PySem.W.subIn K (.ref ad_BadBook) (.type "ValueError") = some true) (hd_TooSmall : PySem.W.hasDictIn K ad_TooSmall = true) (ht_TooSmall : PySem.W.typeIn K (.ref ad_TooSmall) = some (.type "type")) (hn_BadBook_TooSmall : (Value.ref ad_BadBook == Value.ref ad_TooSmall) = false) (hs_BadBook_TooSmall : PySem.W.subIn K (.ref ad_BadBook) (.ref ad_TooSmall) = some false) (hd_Stuck : PySem.W.hasDictIn K ad_Stuck = true) (ht_Stuck : PySem.W.typeIn K (.ref ad_Stuck) = some (.type "type")) (hn_BadBook_Stuck : (Value.ref ad_BadBook == Value.ref ad_Stuck) = false) (hs_BadBook_Stuck : PySem.W.subIn K (.ref ad_BadBook) (.ref ad_Stuck) = some false) (hd_BadValue : PySem.W.hasDictIn K ad_BadValue = true) (ht_BadValue : PySem.W.typeIn K (.ref ad_BadValue) = some (.type "type")) (hn_BadBook_BadValue : (Value.ref ad_BadBook == Value.ref ad_BadValue) = false) (hs_BadBook_BadValue : PySem.W.subIn K (.ref ad_BadBook) (.ref ad_BadValue) = some false) (hd_BadMachine : PySem.W.hasDictIn K ad_BadMachine = true) (ht_BadMachine : PySem.W.typeIn K (.ref ad_BadMachine) = some (.type "type")) (hn_BadBook_BadMachine : (Value.ref ad_BadBook == Value.ref ad_BadMachine) = false) (hs_BadBook_BadMachine : PySem.W.subIn K (.ref ad_BadBook) (.ref ad_BadMachine) = some false) (hd_BadDeed : PySem.W.hasDictIn K ad_BadDeed = true) (ht_BadDeed : PySem.W.typeIn K (.ref ad_BadDeed) = some (.type "type")) (hn_BadBook_BadDeed : (Value.ref ad_BadBook == Value.ref ad_BadDeed) = false) (hs_BadBook_BadDeed : PySem.W.subIn K (.ref ad_BadBook) (.ref ad_BadDeed) = some false) (hxC_BadMachine : PySem.W.excIn K ad_BadMachine [.type "ValueError", .type "Exception", .type "BaseException", .type "object"] "ValueError.__new__" = true) (hkC_BadMachine : PySem.W.keepIn K (.ref ad_BadMachine) = true) (hbC_BadMachine : PySem.W.subIn K (.ref ad_BadMachine) (.type "BaseException") = some true) (htC_BadMachine : PySem.W.typeIn K (.ref ad_BadMachine) = some (.type "type")) (ii_BadBook : PySem.W.findIn K (.ref ad_BadBook) "__init__" = some (some (.ref f27))) (l27 : K.lookup f27 = some ⟨oc27, od27, .func (PySem.W.fnOf "__init__" "BadBook.__init__" (defArgs s_BadBook__init) (defBody s_BadBook__init) (defScope s_BadBook__init) .none kV27 dc27 pm27 an27 cd27 ct27), sl27⟩) (c27 : PySem.W.codeIn K cd27 "BadBook.__init__" = true) (k27 : PySem.W.keepIn K (.ref f27) = true) (oo_BadBook : L2.OexC K ad_BadBook) (yy_BadBook : ExcC K ad_BadBook) (ti_BadBook : PySem.W.typeIn K (.ref f27) = some (.type "function")) (nn_BadBook_at : PySem.W.findIn K (.ref ad_BadBook) "at" = some none) (nn_BadBook_word : PySem.W.findIn K (.ref ad_BadBook) "word" = some none) (hga_DrumError : PySem.W.specialIn K (.ref ad_DrumError) "__getattribute__" = some (some (.builtin "type.__getattribute__"))) (hra_DrumError : PySem.W.readsIn K ad_DrumError (.type "type") = true) (hva_DrumError : PySem.W.findCls K (.ref ad_DrumError) (.type "type") "__init__" = some (.val (.builtin "ValueError.__init__"))) (j14 : cd14 = .ref tc14) (w14 : K.lookup tc14 = some ⟨te14, td14, .fields tv14, ts14⟩) (u14 : tv14[11]? = some (.ref tp14)) (v14 : K.lookup tp14 = none) (hTab : ∀ x ∈ (["is_name"] : List Str), ∀ c P : Addr, PySem.W.tabIn K x = some (c, P) → PySem.W.CodeHd h c P ∧ h.get? P = some { cls := .none, data := .fields #[] }) :
    LamX.LawAtS l w K CX0 11 63 "_law_script" mg fa h := by
  have e := hfa.symm.trans (PySem.W.mg_of X G a26)
  cases e
  have b1 := (fun_mk (st := s__law_next) l1 c1 k1).binds (ps := ["_law_h", "_law_many"]) fun _ _ _ _ _ _ us hl => match us, hl with | [_, _], _ => rfl
  have b2 := (fun_mk (st := s__law_deed) l2 c2 k2).binds (ps := ["_law_h", "_law_book_inputs"]) fun _ _ _ _ _ _ us hl => match us, hl with | [_, _], _ => rfl
  have b3 := (fun_mk (st := s__law_inputs) l3 c3 k3).binds (ps := ["_law_h", "_law_most"]) fun _ _ _ _ _ _ us hl => match us, hl with | [_, _], _ => rfl
  have b4 := (fun_mk (st := s__law_likely) l4 c4 k4).binds (ps := ["_law_h", "_law_book_inputs"]) fun _ _ _ _ _ _ us hl => match us, hl with | [_, _], _ => rfl
  have b5 := (fun_mk (st := s__law_long) l5 c5 k5).binds (ps := ["_law_h", "_law_inputs_here"]) fun _ _ _ _ _ _ us hl => match us, hl with | [_, _], _ => rfl
  have b6 := (fun_mk (st := s__law_side) l6 c6 k6).binds (ps := ["_law_h", "_law_book_inputs", "_law_deep"]) fun _ _ _ _ _ _ us hl => match us, hl with | [_, _, _], _ => rfl
  have b7 := (fun_mk (st := s__law_book) l7 c7 k7).binds (ps := ["_law_h", "_law_most"]) fun _ _ _ _ _ _ us hl => match us, hl with | [_, _], _ => rfl
  have b8 := (fun_mk (st := s__law_books_machine) l8 c8 k8).binds (ps := ["_law_h"]) fun _ _ _ _ _ _ us hl => match us, hl with | [_], _ => rfl
  have b9 := (fun_mk (st := s_is_side) l9 c9 k9).binds (ps := ["figures", "side", "deep"]) fun _ _ _ _ _ _ us hl => match us, hl with | [_, _, _], _ => rfl
  have b10 := (fun_mk (st := s_is_claim) l10 c10 k10).binds (ps := ["figures", "claim"]) fun _ _ _ _ _ _ us hl => match us, hl with | [_, _], _ => rfl
  have b11 := (fun_mk (st := s_need_claims) l11 c11 k11).binds (ps := ["figures", "claims"]) fun _ _ _ _ _ _ us hl => match us, hl with | [_, _], _ => rfl
  have b12 := (fun_mk (st := s_is_deed) l12 c12 k12).binds (ps := ["figures", "deed"]) fun _ _ _ _ _ _ us hl => match us, hl with | [_, _], _ => rfl
  have b13 := (fun_mk (st := s_need_deeds) l13 c13 k13).binds (ps := ["figures", "deeds"]) fun _ _ _ _ _ _ us hl => match us, hl with | [_, _], _ => rfl
  have b14 := (fun_mk (st := s_is_name) l14 c14 k14).binds (ps := ["name"]) fun _ _ _ _ _ _ us hl => match us, hl with | [_], _ => rfl
  have b15 := (fun_mk (st := s_is_input) l15 c15 k15).binds (ps := ["machine", "row", "names"]) fun _ _ _ _ _ _ us hl => match us, hl with | [_, _, _], _ => rfl
  have b16 := (fun_mk (st := s_need_inputs) l16 c16 k16).binds (ps := ["machine", "inputs"]) fun _ _ _ _ _ _ us hl => match us, hl with | [_, _], _ => rfl
  have b17 := (fun_mk (st := s_need_machine) l17 c17 k17).binds (ps := ["machine"]) fun _ _ _ _ _ _ us hl => match us, hl with | [_], _ => rfl
  have b18 := (fun_mk (st := s_need_book) l18 c18 k18).binds (ps := ["machine", "book"]) fun _ _ _ _ _ _ us hl => match us, hl with | [_, _], _ => rfl
  have b19 := (fun_mk (st := s_looked) l19 c19 k19).binds (ps := ["machine", "book"]) fun _ _ _ _ _ _ us hl => match us, hl with | [_, _], _ => rfl
  have b20 := (fun_mk (st := s_worked) l20 c20 k20).binds (ps := ["machine", "book", "values"]) fun _ _ _ _ _ _ us hl => match us, hl with | [_, _, _], _ => rfl
  have b21 := (fun_mk (st := s__law_refusal) l21 c21 k21).binds (ps := ["_law_way", "_law_machine", "_law_book_here"]) fun _ _ _ _ _ _ us hl => match us, hl with | [_, _, _], _ => rfl
  have b22 := (fun_mk (st := s__law_bad_deed) l22 c22 k22).binds (ps := ["_law_h", "_law_inputs_here"]) fun _ _ _ _ _ _ us hl => match us, hl with | [_, _], _ => rfl
  have b23 := (fun_mk (st := s__law_bad_input) l23 c23 k23).binds (ps := ["_law_h", "_law_machine", "_law_inputs_here"]) fun _ _ _ _ _ _ us hl => match us, hl with | [_, _, _], _ => rfl
  have b24 := (fun_mk (st := s__law_bad_side) l24 c24 k24).binds (ps := ["_law_h", "_law_good"]) fun _ _ _ _ _ _ us hl => match us, hl with | [_, _], _ => rfl
  have b25 := (fun_mk (st := s__law_wrong) l25 c25 k25).binds (ps := ["_law_h", "_law_machine", "_law_book_here"]) fun _ _ _ _ _ _ us hl => match us, hl with | [_, _, _], _ => rfl
  have b26 := (fun_mk (st := s_law) l26 c26 k26).binds (ps := ["_law_script"]) fun _ _ _ _ _ _ us hl => match us, hl with | [_], _ => rfl
  have b27 := (fun_mk (st := s_BadBook__init) l27 c27 k27).binds (ps := ["self", "at", "word"]) fun _ _ _ _ _ _ us hl => match us, hl with | [_, _, _], _ => rfl
  refine ⟨PySem.W.fnOf "law" "law" (defArgs s_law) (defBody s_law) (defScope s_law) .none kV26 dc26 pm26 an26 cd26 ct26, [(tc14, tp14)], spLawT K [tp14], (Tg.each_cons ((hTab _ List.mem_cons_self _ _ (Tg.tabIn_of a14 l14 j14 w14 u14)).2) Tg.each_nil), (Tg.each_cons (v14) Tg.each_nil), (Tg.each_cons ((hTab _ List.mem_cons_self _ _ (Tg.tabIn_of a14 l14 j14 w14 u14)).1) Tg.each_nil), fun s v => .of_eq rfl, fun H a ns hl _ hH hS => ⟨a, ns, rfl, hS, hl, fun _ => rfl, (Tg.each_cons (Tg.tabG0 (hH _ List.mem_cons_self)) Tg.each_nil)⟩, fun base _ _ hTB => ?_⟩
  let T : Txt K mg base := {
    f__law_next := f1, fd__law_next := _, F__law_next := fun_mk (st := s__law_next) l1 c1 k1, g__law_next := PySem.W.mg_of X G a1, b__law_next := b1,
    f__law_deed := f2, fd__law_deed := _, F__law_deed := fun_mk (st := s__law_deed) l2 c2 k2, g__law_deed := PySem.W.mg_of X G a2, b__law_deed := b2,
    f__law_inputs := f3, fd__law_inputs := _, F__law_inputs := fun_mk (st := s__law_inputs) l3 c3 k3, g__law_inputs := PySem.W.mg_of X G a3, b__law_inputs := b3,
    f__law_likely := f4, fd__law_likely := _, F__law_likely := fun_mk (st := s__law_likely) l4 c4 k4, g__law_likely := PySem.W.mg_of X G a4, b__law_likely := b4,
    f__law_long := f5, fd__law_long := _, F__law_long := fun_mk (st := s__law_long) l5 c5 k5, g__law_long := PySem.W.mg_of X G a5, b__law_long := b5,
    f__law_side := f6, fd__law_side := _, F__law_side := fun_mk (st := s__law_side) l6 c6 k6, g__law_side := PySem.W.mg_of X G a6, b__law_side := b6,
    f__law_book := f7, fd__law_book := _, F__law_book := fun_mk (st := s__law_book) l7 c7 k7, g__law_book := PySem.W.mg_of X G a7, b__law_book := b7,
    f__law_books_machine := f8, fd__law_books_machine := _, F__law_books_machine := fun_mk (st := s__law_books_machine) l8 c8 k8, g__law_books_machine := PySem.W.mg_of X G a8, b__law_books_machine := b8,
    f_is_side := f9, fd_is_side := _, F_is_side := fun_mk (st := s_is_side) l9 c9 k9, g_is_side := PySem.W.mg_of X G a9, b_is_side := b9,
    f_is_claim := f10, fd_is_claim := _, F_is_claim := fun_mk (st := s_is_claim) l10 c10 k10, g_is_claim := PySem.W.mg_of X G a10, b_is_claim := b10,
    f_need_claims := f11, fd_need_claims := _, F_need_claims := fun_mk (st := s_need_claims) l11 c11 k11, g_need_claims := PySem.W.mg_of X G a11, b_need_claims := b11,
    f_is_deed := f12, fd_is_deed := _, F_is_deed := fun_mk (st := s_is_deed) l12 c12 k12, g_is_deed := PySem.W.mg_of X G a12, b_is_deed := b12,
    f_need_deeds := f13, fd_need_deeds := _, F_need_deeds := fun_mk (st := s_need_deeds) l13 c13 k13, g_need_deeds := PySem.W.mg_of X G a13, b_need_deeds := b13,
    f_is_name := f14, fd_is_name := _, F_is_name := fun_mk (st := s_is_name) l14 c14 k14, g_is_name := PySem.W.mg_of X G a14, b_is_name := b14,
    f_is_input := f15, fd_is_input := _, F_is_input := fun_mk (st := s_is_input) l15 c15 k15, g_is_input := PySem.W.mg_of X G a15, b_is_input := b15,
    f_need_inputs := f16, fd_need_inputs := _, F_need_inputs := fun_mk (st := s_need_inputs) l16 c16 k16, g_need_inputs := PySem.W.mg_of X G a16, b_need_inputs := b16,
    f_need_machine := f17, fd_need_machine := _, F_need_machine := fun_mk (st := s_need_machine) l17 c17 k17, g_need_machine := PySem.W.mg_of X G a17, b_need_machine := b17,
    f_need_book := f18, fd_need_book := _, F_need_book := fun_mk (st := s_need_book) l18 c18 k18, g_need_book := PySem.W.mg_of X G a18, b_need_book := b18,
    f_looked := f19, fd_looked := _, F_looked := fun_mk (st := s_looked) l19 c19 k19, g_looked := PySem.W.mg_of X G a19, b_looked := b19,
    f_worked := f20, fd_worked := _, F_worked := fun_mk (st := s_worked) l20 c20 k20, g_worked := PySem.W.mg_of X G a20, b_worked := b20,
    f__law_refusal := f21, fd__law_refusal := _, F__law_refusal := fun_mk (st := s__law_refusal) l21 c21 k21, g__law_refusal := PySem.W.mg_of X G a21, b__law_refusal := b21,
    f__law_bad_deed := f22, fd__law_bad_deed := _, F__law_bad_deed := fun_mk (st := s__law_bad_deed) l22 c22 k22, g__law_bad_deed := PySem.W.mg_of X G a22, b__law_bad_deed := b22,
    f__law_bad_input := f23, fd__law_bad_input := _, F__law_bad_input := fun_mk (st := s__law_bad_input) l23 c23 k23, g__law_bad_input := PySem.W.mg_of X G a23, b__law_bad_input := b23,
    f__law_bad_side := f24, fd__law_bad_side := _, F__law_bad_side := fun_mk (st := s__law_bad_side) l24 c24 k24, g__law_bad_side := PySem.W.mg_of X G a24, b__law_bad_side := b24,
    f__law_wrong := f25, fd__law_wrong := _, F__law_wrong := fun_mk (st := s__law_wrong) l25 c25 k25, g__law_wrong := PySem.W.mg_of X G a25, b__law_wrong := b25,
    f_law := fa, fd_law := _, F_law := fun_mk (st := s_law) l26 c26 k26, g_law := PySem.W.mg_of X G a26, b_law := b26,
    n_ValueError := PySem.W.mg_none_of X G z1,
    n_all := PySem.W.mg_none_of X G z2,
    n_bool := PySem.W.mg_none_of X G z3,
    n_enumerate := PySem.W.mg_none_of X G z4,
    n_int := PySem.W.mg_none_of X G z5,
    n_isinstance := PySem.W.mg_none_of X G z6,
    n_len := PySem.W.mg_none_of X G z7,
    n_list := PySem.W.mg_none_of X G z8,
    n_max := PySem.W.mg_none_of X G z9,
    n_min := PySem.W.mg_none_of X G z10,
    n_range := PySem.W.mg_none_of X G z11,
    n_tuple := PySem.W.mg_none_of X G z12,
    a_CLAIM_WORDS := ac1, c_CLAIM_WORDS := PySem.W.mg_of X G y1, s_CLAIM_WORDS := fun H => sqT_K H x1 (show 2 ≤ sizeLine by decide) (.cons ⟨_, rfl⟩ (.cons ⟨_, rfl⟩ .nil)),
    a_LEASTS := ac2, c_LEASTS := PySem.W.mg_of X G y2, s_LEASTS := fun H => sqT_K H x2 (show 2 ≤ sizeLine by decide) (.cons ⟨_, rfl⟩ (.cons ⟨_, rfl⟩ .nil)),
    t_LEAST_BASE := tk3, c_LEAST_BASE := PySem.W.mg_of X G y3,
    t_LONGEST_NAME := tk4, c_LONGEST_NAME := PySem.W.mg_of X G y4,
    t_MOST_BASE := tk5, c_MOST_BASE := PySem.W.mg_of X G y5,
    t_MOST_CLAIMS := tk6, c_MOST_CLAIMS := PySem.W.mg_of X G y6,
    t_MOST_COUNTERS := tk7, c_MOST_COUNTERS := PySem.W.mg_of X G y7,
    t_MOST_DEEDS := tk8, c_MOST_DEEDS := PySem.W.mg_of X G y8,
    t_MOST_DEEP := tk9, c_MOST_DEEP := PySem.W.mg_of X G y9,
    t_MOST_INPUTS := tk10, c_MOST_INPUTS := PySem.W.mg_of X G y10,
    t_MOST_NUMBER := tk11, c_MOST_NUMBER := PySem.W.mg_of X G y11,
    t_MOST_SLIDES := tk12, c_MOST_SLIDES := PySem.W.mg_of X G y12,
    t_MOST_WHEELS := tk13, c_MOST_WHEELS := PySem.W.mg_of X G y13,
    a_NO_NAMES := ac14, c_NO_NAMES := PySem.W.mg_of X G y14, s_NO_NAMES := fun H => sqT_K H x14 (show 2 ≤ sizeLine by decide) (.cons ⟨_, rfl⟩ (.cons ⟨_, rfl⟩ .nil)),
    t_SMALL_LETTERS := tk15, c_SMALL_LETTERS := PySem.W.mg_of X G y15,
    a_TALLIES := ac16, c_TALLIES := PySem.W.mg_of X G y16, s_TALLIES := fun H => sqT_K H x16 (show 3 ≤ sizeLine by decide) (.cons ⟨_, rfl⟩ (.cons ⟨_, rfl⟩ (.cons ⟨_, rfl⟩ .nil))),
    a_WAYS := ac17, c_WAYS := PySem.W.mg_of X G y17, s_WAYS := fun H => sqT_K H x17 (show 2 ≤ sizeLine by decide) (.cons ⟨_, rfl⟩ (.cons ⟨_, rfl⟩ .nil)),
    a_WIPED := ac18, c_WIPED := PySem.W.mg_of X G y18, s_WIPED := fun H => sqT_K H x18 (show 2 ≤ sizeLine by decide) (.cons ⟨_, rfl⟩ (.cons ⟨_, rfl⟩ .nil)),
    C_BadBook := ad_BadBook, gC_BadBook := PySem.W.mg_of X G gg_BadBook,
    mC_BadBook_DrumError := PySem.W.exm_ref hb_DrumError hd_DrumError ht_DrumError hs_BadBook_DrumError,
    iC_BadBook_BadBook := L2.kit_self,
    iC_BadBook_ValueError := (L2.kit_blt (by decide +kernel) hs_BadBook_ValueError),
    jC_BadBook_BadDeed_BadMachine_BadValue_Stuck_TooSmall := (L2.kitAny_cons (L2.kit_own hd_BadDeed ht_BadDeed hn_BadBook_BadDeed hs_BadBook_BadDeed) (fun _ => (L2.kitAny_cons (L2.kit_own hd_BadMachine ht_BadMachine hn_BadBook_BadMachine hs_BadBook_BadMachine) (fun _ => (L2.kitAny_cons (L2.kit_own hd_BadValue ht_BadValue hn_BadBook_BadValue hs_BadBook_BadValue) (fun _ => (L2.kitAny_cons (L2.kit_own hd_Stuck ht_Stuck hn_BadBook_Stuck hs_BadBook_Stuck) (fun _ => (L2.kitAny_cons (L2.kit_own hd_TooSmall ht_TooSmall hn_BadBook_TooSmall hs_BadBook_TooSmall) (fun _ => L2.kitAny_nil) (fun z => nomatch z))) (fun z => nomatch z))) (fun z => nomatch z))) (fun z => nomatch z))) (fun z => nomatch z)),
    C_BadDeed := ad_BadDeed, gC_BadDeed := PySem.W.mg_of X G gg_BadDeed,
    C_BadMachine := ad_BadMachine, gC_BadMachine := PySem.W.mg_of X G gg_BadMachine,
    xC_BadMachine := hxC_BadMachine,
    kC_BadMachine := hkC_BadMachine,
    bC_BadMachine := hbC_BadMachine,
    tC_BadMachine := htC_BadMachine,
    C_BadValue := ad_BadValue, gC_BadValue := PySem.W.mg_of X G gg_BadValue,
    C_DrumError := ad_DrumError, gC_DrumError := PySem.W.mg_of X G gg_DrumError,
    C_Stuck := ad_Stuck, gC_Stuck := PySem.W.mg_of X G gg_Stuck,
    C_TooSmall := ad_TooSmall, gC_TooSmall := PySem.W.mg_of X G gg_TooSmall,
    f_BadBook__init := f27, fd_BadBook__init := _, F_BadBook__init := fun_mk (st := s_BadBook__init) l27 c27 k27, b_BadBook__init := b27,
    o_BadBook := oo_BadBook, y_BadBook := yy_BadBook, iC_BadBook := ii_BadBook, tI_BadBook := ti_BadBook, no_BadBook_at := nn_BadBook_at, no_BadBook_word := nn_BadBook_word,
    ga_DrumError := hga_DrumError, ra_DrumError := hra_DrumError, va_DrumError := hva_DrumError,
    tc_is_name := tc14, tp_is_name := tp14, cd_is_name := j14, tb_is_name := Tg.tab_of (hTB _ List.mem_cons_self) }
  exact ok_law T
end My
open PySem PySem.W PyProof.Rows
set_option maxRecDepth 100000 in
set_option maxHeartbeats 0 in
theorem PySem.Challenge.cw_crankdrum_k12_handbooks_refused_holds : PySem.Challenge.rw_crankdrum_k12_handbooks_refused.Holds := by
  w_on; o_law; k_head; (case hw => w_witness2)
  k_fill
  refine Tg.walk_ofTab (l := PySem.Challenge.rw_crankdrum_k12_handbooks_refused) (n := 63) (k := 11) (x := "_law_script") (CX := fun _ => L2.CX0) ["is_name"] rfl (by decide) rfl ⟨rfl, by decide, by decide⟩ (by decide +kernel) (fun w h Y => PySem.W.kIn_of Y) ?F (fun _ _ _ _ _ h => h)
  case F =>
    intro w mg fa h KX G hmg hTab
    refine' My.all_mk KX G hmg ?a1 ?l1 ?c1 ?k1 ?a2 ?l2 ?c2 ?k2 ?a3 ?l3 ?c3 ?k3 ?a4 ?l4 ?c4 ?k4 ?a5 ?l5 ?c5 ?k5 ?a6 ?l6 ?c6 ?k6 ?a7 ?l7 ?c7 ?k7 ?a8 ?l8 ?c8 ?k8 ?a9 ?l9 ?c9 ?k9 ?a10 ?l10 ?c10 ?k10 ?a11 ?l11 ?c11 ?k11 ?a12 ?l12 ?c12 ?k12 ?a13 ?l13 ?c13 ?k13 ?a14 ?l14 ?c14 ?k14 ?a15 ?l15 ?c15 ?k15 ?a16 ?l16 ?c16 ?k16 ?a17 ?l17 ?c17 ?k17 ?a18 ?l18 ?c18 ?k18 ?a19 ?l19 ?c19 ?k19 ?a20 ?l20 ?c20 ?k20 ?a21 ?l21 ?c21 ?k21 ?a22 ?l22 ?c22 ?k22 ?a23 ?l23 ?c23 ?k23 ?a24 ?l24 ?c24 ?k24 ?a25 ?l25 ?c25 ?k25 ?a26 ?l26 ?c26 ?k26 ?z1 ?z2 ?z3 ?z4 ?z5 ?z6 ?z7 ?z8 ?z9 ?z10 ?z11 ?z12 ?y1 ?x1 ?y2 ?x2 ?y3 ?y4 ?y5 ?y6 ?y7 ?y8 ?y9 ?y10 ?y11 ?y12 ?y13 ?y14 ?x14 ?y15 ?y16 ?x16 ?y17 ?x17 ?y18 ?x18 ?gg_BadBook ?gg_BadDeed ?gg_BadMachine ?gg_BadValue ?gg_DrumError ?gg_Stuck ?gg_TooSmall ?hb_DrumError ?hd_DrumError ?ht_DrumError ?hs_BadBook_DrumError ?hs_BadBook_ValueError ?hd_TooSmall ?ht_TooSmall ?hn_BadBook_TooSmall ?hs_BadBook_TooSmall ?hd_Stuck ?ht_Stuck ?hn_BadBook_Stuck ?hs_BadBook_Stuck ?hd_BadValue ?ht_BadValue ?hn_BadBook_BadValue ?hs_BadBook_BadValue ?hd_BadMachine ?ht_BadMachine ?hn_BadBook_BadMachine ?hs_BadBook_BadMachine ?hd_BadDeed ?ht_BadDeed ?hn_BadBook_BadDeed ?hs_BadBook_BadDeed ?hxC_BadMachine ?hkC_BadMachine ?hbC_BadMachine ?htC_BadMachine ?ii_BadBook ?l27 ?c27 ?k27 ?oo_BadBook ?yy_BadBook ?ti_BadBook ?nn_BadBook_at ?nn_BadBook_word ?hga_DrumError ?hra_DrumError ?hva_DrumError ?j14 ?w14 ?u14 ?v14 ?hTb
    (case a1 => k_is); (case l1 => k_is); (case c1 => k_is); (case k1 => k_is); (case a2 => k_is); (case l2 => k_is); (case c2 => k_is); (case k2 => k_is); (case a3 => k_is); (case l3 => k_is); (case c3 => k_is); (case k3 => k_is); (case a4 => k_is); (case l4 => k_is); (case c4 => k_is); (case k4 => k_is); (case a5 => k_is); (case l5 => k_is); (case c5 => k_is); (case k5 => k_is); (case a6 => k_is); (case l6 => k_is); (case c6 => k_is); (case k6 => k_is); (case a7 => k_is); (case l7 => k_is); (case c7 => k_is); (case k7 => k_is); (case a8 => k_is); (case l8 => k_is); (case c8 => k_is); (case k8 => k_is); (case a9 => k_is); (case l9 => k_is); (case c9 => k_is); (case k9 => k_is); (case a10 => k_is); (case l10 => k_is); (case c10 => k_is); (case k10 => k_is); (case a11 => k_is); (case l11 => k_is); (case c11 => k_is); (case k11 => k_is); (case a12 => k_is); (case l12 => k_is); (case c12 => k_is); (case k12 => k_is); (case a13 => k_is); (case l13 => k_is); (case c13 => k_is); (case k13 => k_is); (case a14 => k_is); (case l14 => k_is); (case c14 => k_is); (case k14 => k_is); (case a15 => k_is); (case l15 => k_is); (case c15 => k_is); (case k15 => k_is); (case a16 => k_is); (case l16 => k_is); (case c16 => k_is); (case k16 => k_is); (case a17 => k_is); (case l17 => k_is); (case c17 => k_is); (case k17 => k_is); (case a18 => k_is); (case l18 => k_is); (case c18 => k_is); (case k18 => k_is); (case a19 => k_is); (case l19 => k_is); (case c19 => k_is); (case k19 => k_is); (case a20 => k_is); (case l20 => k_is); (case c20 => k_is); (case k20 => k_is); (case a21 => k_is); (case l21 => k_is); (case c21 => k_is); (case k21 => k_is); (case a22 => k_is); (case l22 => k_is); (case c22 => k_is); (case k22 => k_is); (case a23 => k_is); (case l23 => k_is); (case c23 => k_is); (case k23 => k_is); (case a24 => k_is); (case l24 => k_is); (case c24 => k_is); (case k24 => k_is); (case a25 => k_is); (case l25 => k_is); (case c25 => k_is); (case k25 => k_is); (case a26 => k_is); (case l26 => k_is); (case c26 => k_is); (case k26 => k_is); (case z1 => k_is); (case z2 => k_is); (case z3 => k_is); (case z4 => k_is); (case z5 => k_is); (case z6 => k_is); (case z7 => k_is); (case z8 => k_is); (case z9 => k_is); (case z10 => k_is); (case z11 => k_is); (case z12 => k_is); (case y1 => k_is); (case x1 => k_is); (case y2 => k_is); (case x2 => k_is); (case y3 => k_is); (case y4 => k_is); (case y5 => k_is); (case y6 => k_is); (case y7 => k_is); (case y8 => k_is); (case y9 => k_is); (case y10 => k_is); (case y11 => k_is); (case y12 => k_is); (case y13 => k_is); (case y14 => k_is); (case x14 => k_is); (case y15 => k_is); (case y16 => k_is); (case x16 => k_is); (case y17 => k_is); (case x17 => k_is); (case y18 => k_is); (case x18 => k_is); (case gg_BadBook => k_is); (case gg_BadDeed => k_is); (case gg_BadMachine => k_is); (case gg_BadValue => k_is); (case gg_DrumError => k_is); (case gg_Stuck => k_is); (case gg_TooSmall => k_is); (case hb_DrumError => k_is); (case hd_DrumError => k_is); (case ht_DrumError => k_is); (case hs_BadBook_DrumError => k_is); (case hs_BadBook_ValueError => k_is); (case hd_TooSmall => k_is); (case ht_TooSmall => k_is); (case hn_BadBook_TooSmall => rfl); (case hs_BadBook_TooSmall => k_is); (case hd_Stuck => k_is); (case ht_Stuck => k_is); (case hn_BadBook_Stuck => rfl); (case hs_BadBook_Stuck => k_is); (case hd_BadValue => k_is); (case ht_BadValue => k_is); (case hn_BadBook_BadValue => rfl); (case hs_BadBook_BadValue => k_is); (case hd_BadMachine => k_is); (case ht_BadMachine => k_is); (case hn_BadBook_BadMachine => rfl); (case hs_BadBook_BadMachine => k_is); (case hd_BadDeed => k_is); (case ht_BadDeed => k_is); (case hn_BadBook_BadDeed => rfl); (case hs_BadBook_BadDeed => k_is); (case hxC_BadMachine => k_exc); (case hkC_BadMachine => k_is); (case hbC_BadMachine => k_is); (case htC_BadMachine => k_is); (case ii_BadBook => k_is); (case l27 => k_is); (case c27 => k_is); (case k27 => k_is); (case oo_BadBook => exact ⟨⟨_, _, _, _, _, _, _, _, _, _, _, _, _, _, _, by k_is, by decide +kernel⟩, by k_is, by k_is, by k_is, by k_is⟩); (case yy_BadBook => exact ⟨by k_is, by k_is, by k_is, by k_is, by k_is, by k_is, by k_is, by k_is⟩); (case ti_BadBook => k_is); (case nn_BadBook_at => k_is); (case nn_BadBook_word => k_is); (case hga_DrumError => k_is); (case hra_DrumError => k_is); (case hva_DrumError => k_is); (case j14 => rfl); (case w14 => k_is); (case u14 => rfl); (case v14 => rfl); (case hTb => exact hTab)
