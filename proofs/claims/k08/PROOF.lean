import PyProof.Rows.All
import Wide.All
import OpenK.AllK
import Wide.FinOn
import HandS.ForMost
import HandS.Wide
import HandS.WideMore
import HandS.IsInst
import HandS.Rev
import HandS.RevRange
import HandS.TupAny
import HandS.TupMul
import KE.GoesEnum
import HandS.Iter
import PyProof.Rows.MatchSeqLen
import PyProof.RulesMatchSeq
import HandS.Strs
import HandS.SetFor
import PyProof.FactsAll.range_iterator_1
import HandS.Conv
import HandS.ExcIs
import HandS.ForExc
import HandS.RaiseMore
import HandS.FStr
import PyProof.Rows.RegStrFacts
import HandS.AnyAll
import HandS.EndTab
import PyProof.TupleOfGen
import PyProof.GenCompT
import KE.GoesMore
import KE.KNest
import HandS.EndOwn
import HandS.Dict
import HandS.DictComp
import HandS.More
import HandS.WordsDict
import PyProof.StrBlock
import HandS.ExcInit
import HandS.Lambda
import HandS.DictTup
import PyProof.Rows.SortShellAny
import PySem.Challenge.RW_crankdrum_k08_whole_products
set_option Elab.async false
set_option linter.all false
set_option maxRecDepth 100000
set_option maxHeartbeats 4000000
/-! own engine: what stays of tuples, data that never change, unions of rules, steps of readings -/
namespace Rn
open PySem PySem.Spec L2 RT

/-! ### heaps -/
/-- tuples stay -/
def Tn (H H' : Hp) : Prop := ∀ a xs, Rd H a (.tup xs) → Rd H' a (.tup xs)
theorem Tn.refl (H : Hp) : Tn H H := fun _ _ h => h
theorem Tn.trans {A B C : Hp} (x : Tn A B) (y : Tn B C) : Tn A C := fun a xs h => y a xs (x a xs h)
theorem _root_.L2.Same.tn {H H' : Hp} (e : Same H H') : Tn H H' := fun a xs h => by
  rcases h with h | ⟨o, h⟩
  · exact .inl (e _ _ h)
  · exact .inr ⟨o, e _ _ h⟩
theorem _root_.L2.Same.new {H : Hp} {p : Addr} {o : HO} (h : H p = none) : Same H (upd H p o) := fun b x e => by
  rw [upd_ne (ne_of_none e h)]
  exact e
/-- what H does not know may change behind -/
theorem _root_.L2.Same.mut {H H' : Hp} {p : Addr} {o : HO} (e : Same H H') (h : H p = none) : Same H (upd H' p o) := fun b x ha => by
  rw [upd_ne (ne_of_none ha h)]
  exact e b x ha
theorem _root_.L2.Same.back {H H' : Hp} {p : Addr} (e : Same H H') (h : H' p = none) : H p = none := e.free h
theorem SqT.tn {K : PySem.W.Frag} {H H' : Hp} {a : Addr} {xs : List V} (e : Tn H H') (h : SqT K H a xs) : SqT K H' a xs := by
  rcases h with h | h
  · exact .inl (e _ _ h)
  · exact .inr h
/-- all stays but what stands at the two -/
def Kp (a c : Addr) (H H' : Hp) : Prop := ∀ b o, H b = some o → b ≠ a → b ≠ c → H' b = some o
theorem Kp.refl (a c : Addr) (H : Hp) : Kp a c H H := fun _ _ h _ _ => h
theorem Kp.trans {a c : Addr} {A B C : Hp} (x : Kp a c A B) (y : Kp a c B C) : Kp a c A C := fun b o h n m => y b o (x b o h n m) n m
theorem _root_.L2.Same.kp {a c : Addr} {H H' : Hp} (e : Same H H') : Kp a c H H' := fun b o h _ _ => e b o h
theorem Kp.mut {a c D : Addr} {H H' : Hp} {o : HO} (k : Kp a c H H') (hD : H D = none) : Kp a c H (upd H' D o) := fun b o hb na nc => by
  rw [upd_ne (ne_of_none hb hD)]
  exact k b o hb na nc
theorem Kp.tn {a c : Addr} {H H' : Hp} {xs ys : List V} (k : Kp a c H H') (ha : H a = some (.lst xs)) (hc : H c = some (.lst ys)) : Tn H H' := fun b zs h => by
  rcases h with h | ⟨o, h⟩
  · exact .inl (k _ _ h (ne_of h ha (by intro z; cases z)) (ne_of h hc (by intro z; cases z)))
  · exact .inr ⟨o, k _ _ h (ne_of h ha (by intro z; cases z)) (ne_of h hc (by intro z; cases z))⟩

/-! ### data that never change -/
mutual
inductive Fz (K : PySem.W.Frag) (H : Hp) : V → PyData → Prop
  | non : Fz K H .non .none
  | bl (b : Bool) : Fz K H (.bl b) (.bool b)
  | int (i : Int) : Fz K H (.int i) (.int i)
  | str (x : Str) : Fz K H (.str x) (.str x)
  | tup {a : Addr} {xs : List V} {ds : List PyData} : SqT K H a xs → Fzs K H xs ds → Fz K H (.ref a) (.tuple ds)
inductive Fzs (K : PySem.W.Frag) (H : Hp) : List V → List PyData → Prop
  | nil : Fzs K H [] []
  | cons {v : V} {vs : List V} {d : PyData} {ds : List PyData} : Fz K H v d → Fzs K H vs ds → Fzs K H (v :: vs) (d :: ds)
end
mutual
theorem Fz.tn {K : PySem.W.Frag} {H H' : Hp} (e : Tn H H') : ∀ {v : V} {d : PyData}, Fz K H v d → Fz K H' v d
  | _, _, .non => .non
  | _, _, .bl b => .bl b
  | _, _, .int i => .int i
  | _, _, .str x => .str x
  | _, _, .tup h r => .tup (SqT.tn e h) (Fzs.tn e r)
theorem Fzs.tn {K : PySem.W.Frag} {H H' : Hp} (e : Tn H H') : ∀ {vs : List V} {ds : List PyData}, Fzs K H vs ds → Fzs K H' vs ds
  | _, _, .nil => .nil
  | _, _, .cons h r => .cons (Fz.tn e h) (Fzs.tn e r)
end
mutual
theorem Fz.dp {K : PySem.W.Frag} {H : Hp} : ∀ {v : V} {d : PyData}, Fz K H v d → Dp K H v d
  | _, _, .non => .non
  | _, _, .bl b => .bl b
  | _, _, .int i => .int i
  | _, _, .str x => .str x
  | _, _, .tup h r => .tup h (Fzs.dp r)
theorem Fzs.dp {K : PySem.W.Frag} {H : Hp} : ∀ {vs : List V} {ds : List PyData}, Fzs K H vs ds → DpAll K H vs ds
  | _, _, .nil => .nil
  | _, _, .cons h r => .cons (Fz.dp h) (Fzs.dp r)
end
theorem Fzs.ints {K : PySem.W.Frag} {H : Hp} : ∀ ns : List Int, Fzs K H (ns.map V.int) (ns.map PyData.int)
  | [] => .nil
  | n :: r => .cons (.int n) (Fzs.ints r)
theorem DpAll.ints {K : PySem.W.Frag} {H : Hp} : ∀ ns : List Int, DpAll K H (ns.map V.int) (ns.map PyData.int)
  | [] => .nil
  | n :: r => .cons (.int n) (DpAll.ints r)
theorem Fz.ints {K : PySem.W.Frag} {H : Hp} {a : Addr} {ns : List Int} (h : SqT K H a (ns.map V.int)) : Fz K H (.ref a) (.tuple (ns.map PyData.int)) := .tup h (Fzs.ints ns)

/-! ### unions of rules -/
section
variable {X : Cx}
def rCatS : R2 := fun x y H Q => ∃ i j, x = .str i ∧ y = .str j ∧ i.length + j.length ≤ sizeLine ∧ Q (.str (i ++ j)) H
def uAdd (K : PySem.W.Frag) : R2 := fun x y H Q => rI0 (fun i j => .int (i + j)) x y H Q ∨ rCatA K x y H Q ∨ rCat x y H Q ∨ rCatS x y H Q
theorem op_addU : OpR X (binaryOp .Add) (uAdd X.K) := op_add.or (op_catA.or (op_cat.or op_add_str))
def uMul (K : PySem.W.Frag) : R2 := fun x y H Q => rI CMul (fun i j => .int (i * j)) x y H Q ∨ rRepT K x y H Q ∨ rRep x y H Q ∨ rI CMulW (fun i j => .int (i * j)) x y H Q
theorem op_mulU : OpR X (binaryOp .Mult) (uMul X.K) := op_mul.or (op_repT.or (op_rep.or op_mulW))
def uEq (K : PySem.W.Frag) : R2 := fun x y H Q => rEq x y H Q ∨ rEqD K x y H Q
theorem op_eqU (hu : X.A.units + 64 < cLine) : OpR X (compareOp .Eq) (uEq X.K) := op_eq.or (op_eqD hu)
def uNe (K : PySem.W.Frag) : R2 := fun x y H Q => rNe x y H Q ∨ rNeD K x y H Q
theorem op_neU (hu : X.A.units + 64 < cLine) : OpR X (compareOp .NotEq) (uNe X.K) := op_ne.or (op_neD hu)
def rLenQ (K : PySem.W.Frag) : List V → Hp → VK → Prop := fun xs H Q => ∃ p ys, xs = [.ref p] ∧ (SqL K H p ys ∨ SqT K H p ys) ∧ Q (.int ys.length) H
def rLenT : List V → Hp → VK → Prop := fun xs H Q => ∃ z, xs = [.str z] ∧ z.length ≤ sizeLine ∧ Q (.int z.length) H
def uLen (K : PySem.W.Frag) : List V → Hp → VK → Prop := fun xs H Q => rLenQ K xs H Q ∨ rLenT xs H Q
theorem call_lenU : CallR X (.builtin "len") (uLen X.K) := call_len_seq.or call_len_str
def uSl (K : PySem.W.Frag) : V → Option Int → Option Int → Hp → VK → Prop := fun x lo hi H Q => rSlA K x lo hi H Q ∨ rSlL K x lo hi H Q
theorem sl_U : SlR X (uSl X.K) := SlR.or sl_tupA sl_list
theorem PI.or {tg it : Expr} {w1 w2 : TI} (a : PI X tg it w1) (b : PI X tg it w2) : PI X tg it (fun σ H R => w1 σ H R ∨ w2 σ H R) :=
  ⟨fun pins s σ H R I h => h.elim (fun h => a.run pins s σ H R I h) (fun h => b.run pins s σ H R I h)⟩
def uI (K : PySem.W.Frag) (te : TE) : TI := fun σ H R => iTup K te σ H R ∨ iList K te σ H R
theorem pi_U {tg l : Expr} {tl : TE} (hl : PE X l tl) : PI X tg l (uI X.K tl) := PI.or (pi_tup hl) (pi_list hl)
/-- the operators in place, at a local name -/
theorem ip_of {op : Operator} {r : R2} (h : OpR X (inplaceOp op) r) : PIp X op (fun x y H Q => r x y H Q) := by
  intro pins s σ H x y u v Q I rx ry hh
  exact augR h I rx ry hh
end

/-- tuple(list) -/
def rTupQ (K : PySem.W.Frag) : List V → Hp → VK → Prop := fun xs H Q => ∃ p ys, xs = [.ref p] ∧ ((SqL K H p ys ∧ ∀ l, H l = none → Q (.ref l) (upd H l (.tup ys))) ∨ (SqT K H p ys ∧ Q (.ref p) H))
theorem call_tupleQ {X : Cx} : CallR X (.type "tuple") (rTupQ X.K) := call_tuple_of
def rLstQ (K : PySem.W.Frag) : List V → Hp → VK → Prop := fun xs H Q => ∃ p ys, xs = [.ref p] ∧ (SqL K H p ys ∨ SqT K H p ys) ∧ ∀ l, H l = none → Q (.ref l) (upd H l (.lst ys))
theorem call_listQ {X : Cx} : CallR X (.type "list") (rLstQ X.K) := call_list_of
/-! the same, the written part said -/
section
variable {X : Cx} (K : PySem.W.Frag) (e : X.K = K)
include e
theorem k_add : OpR X (binaryOp .Add) (uAdd K) := e ▸ op_addU
theorem k_mul : OpR X (binaryOp .Mult) (uMul K) := e ▸ op_mulU
theorem k_eq (hu : X.A.units + 64 < cLine) : OpR X (compareOp .Eq) (uEq K) := e ▸ op_eqU hu
theorem k_ne (hu : X.A.units + 64 < cLine) : OpR X (compareOp .NotEq) (uNe K) := e ▸ op_neU hu
theorem k_len : CallR X (.builtin "len") (uLen K) := e ▸ call_lenU
theorem k_sl : SlR X (uSl K) := e ▸ sl_U
theorem k_ix : IxR X (rIx K) := e ▸ ix_seq
theorem k_in : OpR X (compareOp .In) (rIn K false) := e ▸ op_in_seq
theorem k_ni : OpR X (compareOp .NotIn) (rIn K true) := e ▸ op_notIn_seq
theorem k_isi : CallR X (.builtin "isinstance") (rIsi K) := e ▸ call_isi
theorem k_tuple : CallR X (.type "tuple") (rTupQ K) := e ▸ call_tupleQ
theorem k_list : CallR X (.type "list") (rLstQ K) := e ▸ call_listQ
theorem k_I {tg l : Expr} {tl : TE} (hl : PE X l tl) : PI X tg l (uI K tl) := e ▸ pi_U hl
end

/-! ### steps of readings -/
section
variable {K : PySem.W.Frag} {σ : St} {H : Hp} {D : Ends} {t u : TS} {te ta tb tc : TE} {tr : TA} {c c1 c2 : TT} {Q : VK} {QB : Bool → Hp → Prop} {QL : List V → Hp → Prop} {v x y : V} {i : Nat} {g : TG} {r r' : R2}
theorem w_seq (h : t { D with nx := u D } σ H) : tSeq t u D σ H := h
theorem w_asgN (h : te σ H fun x H1 => D.nx (σ.set i (some x)) H1) : tAsg te (gName i) D σ H := h
theorem w_asg (h : te σ H fun x H1 => g x σ H1 D.nx) : tAsg te g D σ H := h
theorem w_ret (h : te σ H D.rt) : tRet te D σ H := h
theorem w_retN (h : D.rt .non H) : tRetN D σ H := h
theorem w_drop (h : te σ H fun _ H1 => D.nx σ H1) : tDrop te D σ H := h
theorem w_next (h : D.nx σ H) : tNext D σ H := h
theorem w_brk (h : D.bk σ H) : tBreak D σ H := h
theorem w_cont (h : D.ct σ H) : tCont D σ H := h
theorem w_ifS (h : c σ H fun b H1 => if b = true then t D σ H1 else u D σ H1) : tIfS c t u D σ H := h
theorem w_par {i j : Nat} {ta : TA} (h : ta σ H fun vs H1 => ∃ v w, vs = [v, w] ∧ D.nx ((σ.set i (some v)).set j (some w)) H1) : tPar i j ta D σ H := h
theorem w_aug {ti : TIp} (hx : σ[i]? = some (some x)) (h : te σ H fun y H1 => ti x y H1 fun z H2 => D.nx (σ.set i (some z)) H2) : tAug i te ti D σ H := ⟨x, hx, h⟩
theorem w_var (hv : σ[i]? = some (some v)) (h : Q v H) : tVar i σ H Q := ⟨v, hv, h⟩
theorem w_c (h : Q v H) : tC v σ H Q := h
theorem w_op (h : ta σ H fun x H1 => tb σ H1 fun y H2 => r x y H2 Q) : tOp r ta tb σ H Q := h
theorem w_un {ru : V → Hp → VK → Prop} (h : ta σ H fun x H1 => ru x H1 Q) : tUn ru ta σ H Q := h
theorem w_neg {a : Int} (h : Q (.int (-a)) H) : rU (fun i => .int (-i)) (.int a) H Q := ⟨a, rfl, h⟩
theorem w_ifE (h : c σ H fun b H1 => if b = true then ta σ H1 Q else tb σ H1 Q) : tIf c ta tb σ H Q := h
theorem w_nil (h : QL [] H) : tNil σ H QL := h
theorem w_cons (h : ta σ H fun x H1 => tr σ H1 fun xs H2 => QL (x :: xs) H2) : tCons ta tr σ H QL := h
/-- a new object at p -/
def NewQ (H : Hp) (o : HO) (R : Addr → Hp → Prop) : Prop := ∀ p, H p = none → R p (upd H p o)
theorem w_tup (h : tr σ H fun xs H1 => xs.length ≤ sizeLine ∧ NewQ H1 (.tup xs) fun p H2 => Q (.ref p) H2) : tTup tr σ H Q := h
theorem w_lst (h : tr σ H fun xs H1 => xs.length ≤ sizeLine ∧ NewQ H1 (.lst xs) fun p H2 => Q (.ref p) H2) : tLst tr σ H Q := h
theorem w_new {n : Nat} {o : HO} {R : Addr → Hp → Prop} (hz : n ≤ 100000) (h : ∀ p H', H p = none → Same H H' → H' p = some o → R p H') : n ≤ sizeLine ∧ NewQ H o R := ⟨Nat.le_trans hz (by decide), fun p hp => h p _ hp (Same.new hp) upd_same⟩
theorem w_call {sp : Sp} {dvs : List V} {E : XK} (h : tr σ H fun vs H1 => sp (vs ++ dvs) H1 Q E) : tCall sp dvs E tr σ H Q := h
theorem w_cb {rc : List V → Hp → VK → Prop} (h : tr σ H fun vs H1 => rc vs H1 Q) : tCB rc tr σ H Q := h
theorem w_test (h : te σ H fun x H' => ∃ k, x = .bl k ∧ QB k H') : tTest te σ H QB := h
theorem w_tB (h : te σ H fun x H1 => ∃ c, x = .bl c ∧ QB c H1) : tB te σ H QB := h
theorem w_bl {b : Bool} {P : Bool → Prop} (h : P b) : ∃ k, V.bl b = .bl k ∧ P k := ⟨b, rfl, h⟩
theorem w_and (h : c1 σ H fun b H1 => if b = true then c2 σ H1 QB else QB false H1) : tAnd c1 c2 σ H QB := h
theorem w_or (h : c1 σ H fun b H1 => if b = true then QB true H1 else c2 σ H1 QB) : tOr c1 c2 σ H QB := h
theorem w_not (h : c1 σ H fun b H1 => QB (!b) H1) : tNot c1 σ H QB := h
theorem w_andV (h : ta σ H fun x H1 => ∃ c, x = .bl c ∧ if c = true then tb σ H1 Q else Q (.bl false) H1) : tAndV ta tb σ H Q := h
theorem w_orV (h : ta σ H fun x H1 => ∃ c, x = .bl c ∧ if c = true then Q (.bl true) H1 else tb σ H1 Q) : tOrV ta tb σ H Q := h
theorem w_notV (h : ta σ H fun x H1 => ∃ c, x = .bl c ∧ Q (.bl (!c)) H1) : tNotV ta σ H Q := h
theorem w_chain (h : ta σ H fun x H1 => tb σ H1 fun y H2 => r x y H2 fun z H3 => ∃ k, z = .bl k ∧ if k = true then tc σ H3 fun z2 H4 => r' y z2 H4 Q else Q (.bl false) H3) : tChain r r' ta tb tc σ H Q := h
/-! by values -/
theorem w_addI {a b : Int} (h : Q (.int (a + b)) H) : uAdd K (.int a) (.int b) H Q := .inl ⟨a, b, rfl, rfl, h⟩
theorem w_I0 {f : Int → Int → V} {a b : Int} (h : Q (f a b) H) : rI0 f (.int a) (.int b) H Q := ⟨a, b, rfl, rfl, h⟩
theorem w_I {C : Int → Int → Prop} {f : Int → Int → V} {a b : Int} (hc : C a b) (h : Q (f a b) H) : rI C f (.int a) (.int b) H Q := ⟨a, b, rfl, rfl, hc, h⟩
theorem w_mulI {a b : Int} (hc : CMul a b) (h : Q (.int (a * b)) H) : uMul K (.int a) (.int b) H Q := .inl ⟨a, b, rfl, rfl, hc, h⟩
theorem w_eqI {a b : Int} (h : Q (.bl (decide (a = b))) H) : uEq K (.int a) (.int b) H Q := .inl ⟨rfl, by
  have e : decide (V.int a = V.int b) = decide (a = b) := decide_eq_decide.mpr ⟨fun z => V.int.inj z, fun z => by rw [z]⟩
  rw [e]
  exact h⟩
theorem w_neI {a b : Int} (h : Q (.bl (!decide (a = b))) H) : uNe K (.int a) (.int b) H Q := .inl ⟨rfl, by
  have e : decide (V.int a = V.int b) = decide (a = b) := decide_eq_decide.mpr ⟨fun z => V.int.inj z, fun z => by rw [z]⟩
  rw [e]
  exact h⟩
theorem w_eqS {a b : Str} (h : Q (.bl (decide (a = b))) H) : uEq K (.str a) (.str b) H Q := .inl ⟨rfl, by
  have e : decide (V.str a = V.str b) = decide (a = b) := decide_eq_decide.mpr ⟨fun z => V.str.inj z, fun z => by rw [z]⟩
  rw [e]
  exact h⟩
theorem w_eqD {d e : PyData} (hd : Dp K H x d) (he : Dp K H y e) (sd : SeqAt.shaped d = true) (se : SeqAt.shaped e = true) (h : Q (.bl (PyData.eqv d e)) H) : uEq K x y H Q := .inr ⟨d, e, hd, he, sd, se, h⟩
theorem w_neD {d e : PyData} (hd : Dp K H x d) (he : Dp K H y e) (sd : SeqAt.shaped d = true) (se : SeqAt.shaped e = true) (h : Q (.bl (!PyData.eqv d e)) H) : uNe K x y H Q := .inr ⟨d, e, hd, he, sd, se, h⟩
theorem w_ixL {p : Addr} {xs : List V} {a : Int} (hl : SqL K H p xs) (ha : atI xs a = some v) (h : Q v H) : rIx K (.ref p) (.int a) H Q := .inl ⟨p, xs, a, v, rfl, rfl, hl, ha, h⟩
theorem w_ixT {p : Addr} {xs : List V} {a : Int} (hl : SqT K H p xs) (ha : atI xs a = some v) (h : Q v H) : rIx K (.ref p) (.int a) H Q := .inr (.inl ⟨p, xs, a, v, rfl, rfl, hl, ha, h⟩)
theorem w_lenL {p : Addr} {xs : List V} (hl : SqL K H p xs) (h : Q (.int xs.length) H) : uLen K [.ref p] H Q := .inl ⟨p, xs, rfl, .inl hl, h⟩
theorem w_lenT {p : Addr} {xs : List V} (hl : SqT K H p xs) (h : Q (.int xs.length) H) : uLen K [.ref p] H Q := .inl ⟨p, xs, rfl, .inr hl, h⟩
theorem w_iteT {A B : Prop} (h : A) : if true = true then A else B := by
  rw [if_pos rfl]
  exact h
theorem w_iteF {A B : Prop} (h : B) : if false = true then A else B := by
  rw [if_neg Bool.false_ne_true]
  exact h
theorem w_iteNF {A B : Prop} (h : A) : if (!false) = true then A else B := w_iteT h
theorem w_iteNT {A B : Prop} (h : B) : if (!true) = true then A else B := w_iteF h
theorem w_ite {p : Prop} [Decidable p] {A B : Prop} (h1 : p → A) (h2 : ¬ p → B) : if decide p = true then A else B := by
  by_cases h : p
  · rw [decide_eq_true h]
    exact w_iteT (h1 h)
  · rw [decide_eq_false h]
    exact w_iteF (h2 h)
theorem w_iteN {p : Prop} [Decidable p] {A B : Prop} (h1 : ¬ p → A) (h2 : p → B) : if (!decide p) = true then A else B := by
  by_cases h : p
  · rw [decide_eq_true h]
    exact w_iteF (h2 h)
  · rw [decide_eq_false h]
    exact w_iteT (h1 h)
theorem w_iteB {b : Bool} {A B : Prop} (h1 : b = true → A) (h2 : b = false → B) : if b = true then A else B := by
  cases b with
  | true => exact w_iteT (h1 rfl)
  | false => exact w_iteF (h2 rfl)
/-! loops -/
def Lp (J : It) (g : TG) (tb : TS) (D : Ends) (σ : St) (H : Hp) : Prop := ∃ W : Nat → Nat → St → Hp → Prop, (∃ m, W 0 m σ H) ∧ ∀ i m σ H, W i m σ H →
  (J.stop i H ∧ D.nx σ H) ∨ (J.go i H ∧ ∃ N : St → Hp → Prop, (∀ σ' H', N σ' H' → ∃ m', m' < m ∧ W (i + 1) m' σ' H') ∧ ∀ x H', J.yld i H x H' → g x σ H' fun σ2 H2 => tb { D with nx := N, ct := N, bk := D.nx } σ2 H2)
theorem w_for {wi : TI} {g : TG} {tb : TS} (h : wi σ H fun J H1 => Lp J g tb D σ H1) : tFor wi g tb D σ H := h
theorem w_rng1 {ta : TA} {R : It → Hp → Prop} (h : ta σ H fun vs H1 => ∃ j : Int, vs = [.int j] ∧ -(2 ^ 62) ≤ j ∧ j < 2 ^ 62 ∧ R (Itr 0 j.toNat) H1) : iRng1 ta σ H R := h
theorem w_rng1' {j : Int} {R : It → Hp → Prop} (h1 : -(2 ^ 62) ≤ j) (h2 : j < 2 ^ 62) (h : R (Itr 0 j.toNat) H) : ∃ i : Int, [V.int j] = [.int i] ∧ -(2 ^ 62) ≤ i ∧ i < 2 ^ 62 ∧ R (Itr 0 i.toNat) H := ⟨j, rfl, h1, h2, h⟩
theorem lp_range {lo : Int} {n : Nat} {g : TG} {tb : TS} (Pv : Nat → St → Hp → Prop) (h0 : Pv 0 σ H)
    (hs : ∀ i σ H, i < n → Pv i σ H → g (.int (lo + i)) σ H fun σ2 H2 => tb { D with nx := Pv (i + 1), ct := Pv (i + 1), bk := D.nx } σ2 H2) (hd : ∀ σ H, Pv n σ H → D.nx σ H) : Lp (Itr lo n) g tb D σ H := for_range Pv h0 hs hd
/-- a range from 0, its target a name -/
theorem lp_range0 {n : Nat} {j : Nat} {tb : TS} (Pv : Nat → St → Hp → Prop) (h0 : Pv 0 σ H)
    (hs : ∀ (i : Nat) σ H, i < n → Pv i σ H → tb { D with nx := Pv (i + 1), ct := Pv (i + 1), bk := D.nx } (σ.set j (some (.int (i : Int)))) H) (hd : ∀ σ H, Pv n σ H → D.nx σ H) : Lp (Itr 0 n) (gName j) tb D σ H :=
  for_range Pv h0 (fun i σ H hi p => by
    show tb _ (σ.set j (some (.int (0 + (i : Int))))) H
    rw [Int.zero_add]
    exact hs i σ H hi p) hd
/-- comprehensions -/
def Lq (J : It) (g : TG) (tt : TT) (te : TE) (vs : List Nat) (σ : St) (H1 : Hp) (Q : VK) : Prop := ∀ D, H1 D = none → ∃ W : Nat → Nat → Hp → Prop, (∃ m, W 0 m (upd H1 D (.lst []))) ∧ ∀ i m H, W i m H →
  (J.stop i H ∧ Q (.ref D) H) ∨ (J.go i H ∧ ∃ Nx : Hp → Prop, (∀ H', Nx H' → ∃ m', m' < m ∧ W (i + 1) m' H') ∧ ∀ x H', J.yld i H x H' → g x (wipe σ vs) H' fun σ2 H2 => wipe σ2 vs = wipe σ vs ∧ tt σ2 H2 fun b H3 =>
    if b = true then te σ2 H3 fun y H4 => ∃ acc, H4 D = some (.lst acc) ∧ acc.length < sizeLine ∧ Nx (upd H4 D (.lst (acc ++ [y]))) else Nx H3)
theorem w_lc {wi : TI} {tt : TT} {vs : List Nat} (h : wi σ H fun J H1 => Lq J g tt te vs σ H1 Q) : tLc wi g tt te vs σ H Q := h
/-- what a turn of a comprehension hands on: an item y more at D -/
def Put (D : Addr) (Nx : Hp → Prop) (y : V) (H4 : Hp) : Prop := ∃ acc, H4 D = some (.lst acc) ∧ acc.length < sizeLine ∧ Nx (upd H4 D (.lst (acc ++ [y])))
theorem w_put {D : Addr} {Nx : Hp → Prop} {acc : List V} (h1 : H D = some (.lst acc)) (h2 : acc.length < 100000) (h : ∀ H', H' = upd H D (.lst (acc ++ [y])) → H' D = some (.lst (acc ++ [y])) → Nx H') : Put D Nx y H := ⟨acc, h1, Nat.lt_of_lt_of_le h2 (by decide), h _ rfl upd_same⟩
/-- a comprehension without tests over a range from 0: Pv by the turn, the list's place, the heap -/
theorem lq_range0 {n : Nat} {j : Nat} {vs : List Nat} (Pv : Addr → Nat → Hp → Prop) (h0 : ∀ D H1, H D = none → Same H H1 → H1 D = some (.lst []) → Pv D 0 H1)
    (hs : ∀ D (i : Nat) H1, H D = none → i < n → Pv D i H1 → wipe ((wipe σ vs).set j (some (.int (i : Int)))) vs = wipe σ vs ∧ te ((wipe σ vs).set j (some (.int (i : Int)))) H1 (Put D (Pv D (i + 1)))) (hd : ∀ D H1, H D = none → Pv D n H1 → Q (.ref D) H1) : Lq (Itr 0 n) (gName j) tYes te vs σ H Q := fun D hD =>
  lc_range (Pv D) (h0 D _ hD (Same.new hD) upd_same) (fun i H1 hi p => by
    have e : (0 : Int) + (i : Int) = (i : Int) := Int.zero_add _
    have h := hs D i H1 hD hi p
    rw [← e] at h
    exact ⟨h.1, w_iteT (B := Pv D (i + 1) H1) h.2⟩) (fun H1 p => hd D H1 hD p)
/-- reversed over a tuple, its target a name -/
theorem lp_revT {a : Addr} {xs : List V} {j : Nat} {tb : TS} (Pv : Nat → St → Hp → Prop) (h0 : Pv 0 σ H) (hq : ∀ i σ H, Pv i σ H → SqT K H a xs)
    (hs : ∀ (i : Nat) (x : V) (σ : St) (H : Hp), i < xs.length → xs[xs.length - 1 - i]? = some x → Pv i σ H → tb { D with nx := Pv (i + 1), ct := Pv (i + 1), bk := D.nx } (σ.set j (some x)) H) (hd : ∀ σ H, Pv xs.length σ H → D.nx σ H) :
    Lp (ItvT K a xs.length) (gName j) tb D σ H := for_ItvT Pv h0 hq hs hd
theorem lp_tup {a : Addr} {xs : List V} {tb : TS} (Pv : Nat → St → Hp → Prop) (h0 : Pv 0 σ H) (hl : ∀ i σ H, i ≤ xs.length → Pv i σ H → SqT K H a xs)
    (hs : ∀ i x σ H, xs[i]? = some x → Pv i σ H → g x σ H fun σ2 H2 => tb { D with nx := Pv (i + 1), ct := Pv (i + 1), bk := D.nx } σ2 H2) (hd : ∀ σ H, Pv xs.length σ H → D.nx σ H) : Lp (Itt K a) g tb D σ H := for_tup Pv h0 hl hs hd
theorem lp_list {a : Addr} {xs : List V} {tb : TS} (Pv : Nat → St → Hp → Prop) (h0 : Pv 0 σ H) (hl : ∀ i σ H, i ≤ xs.length → Pv i σ H → SqL K H a xs)
    (hs : ∀ i x σ H, xs[i]? = some x → Pv i σ H → g x σ H fun σ2 H2 => tb { D with nx := Pv (i + 1), ct := Pv (i + 1), bk := D.nx } σ2 H2) (hd : ∀ σ H, Pv xs.length σ H → D.nx σ H) : Lp (Itl K a) g tb D σ H := for_list Pv h0 hl hs hd
theorem w_uIT {tl : TE} {a : Addr} {xs : List V} {R : It → Hp → Prop} (h : tl σ H fun x H1 => x = .ref a ∧ SqT K H1 a xs ∧ R (Itt K a) H1) (mono : ∀ Q Q' : VK, (∀ x H, Q x H → Q' x H) → tl σ H Q → tl σ H Q') : uI K tl σ H R :=
  .inl (mono _ _ (fun x H1 ⟨e, s, r⟩ => ⟨a, e, ⟨xs, s⟩, r⟩) h)
def RevQ (K : PySem.W.Frag) (R : It → Hp → Prop) (v : V) (H1 : Hp) : Prop := ∃ (a : Addr) (xs : List V), v = .ref a ∧ ((SqL K H1 a xs ∧ R (Itv K a xs.length) H1) ∨ (SqT K H1 a xs ∧ R (ItvT K a xs.length) H1))
theorem w_rev {R : It → Hp → Prop} (h : te σ H fun v H1 => RevQ K R v H1) : iRevA K te σ H R := h
theorem w_revT {R : It → Hp → Prop} {a : Addr} {xs : List V} (hS : SqT K H a xs) (h : R (ItvT K a xs.length) H) : RevQ K R (.ref a) H := ⟨a, xs, rfl, .inr ⟨hS, h⟩⟩
def RngQ (R : It → Hp → Prop) (vs : List V) (H1 : Hp) : Prop := ∃ j : Int, vs = [.int j] ∧ -(2 ^ 62) ≤ j ∧ j < 2 ^ 62 ∧ R (Itr 0 j.toNat) H1
theorem w_rngA {ta : TA} {R : It → Hp → Prop} (h : ta σ H fun vs H1 => RngQ R vs H1) : iRng1 ta σ H R := h
theorem w_rngI {j : Int} {R : It → Hp → Prop} (h1 : -(2 ^ 62) ≤ j ∧ j < 2 ^ 62) (h : R (Itr 0 j.toNat) H) : RngQ R [V.int j] H := ⟨j, rfl, h1.1, h1.2, h⟩
theorem w_bm {T : String} {rm : V → List V → Hp → VK → Prop} {to : TE} {tr : TA} (h : to σ H fun x H1 => tyV K T x H1 ∧ tr σ H1 fun xs H2 => rm x xs H2 Q) : tBM K T rm to tr σ H Q := h
theorem w_bm0 {T : String} {rm : V → List V → Hp → VK → Prop} {to : TE} (h : to σ H fun x H1 => tyV K T x H1 ∧ rm x [] H1 Q) : tBM0 K T rm to σ H Q := h
theorem w_tyL {l : Addr} {xs : List V} {P : Prop} (hl : H l = some (.lst xs)) (h : P) : tyV K "list" (.ref l) H ∧ P := ⟨.inl ⟨rfl, _, SqL.of hl⟩, h⟩
theorem w_append {l : Addr} {xs : List V} {y : V} (hl : H l = some (.lst xs)) (hz : xs.length ≤ 100000) (h : ∀ H', H' = upd H l (.lst (xs ++ [y])) → H' l = some (.lst (xs ++ [y])) → Q .non H') : rAppend (.ref l) [y] H Q := ⟨l, xs, y, rfl, rfl, hl, Nat.lt_of_le_of_lt hz (by decide), h _ rfl upd_same⟩
theorem w_tupL {p : Addr} {xs : List V} (hl : SqL K H p xs) (h : ∀ l H', H l = none → Same H H' → H' l = some (.tup xs) → Q (.ref l) H') : rTupQ K [.ref p] H Q := ⟨p, xs, rfl, .inl ⟨hl, fun l hl => h l _ hl (Same.new hl) upd_same⟩⟩
theorem w_tupT {p : Addr} {xs : List V} (hl : SqT K H p xs) (h : Q (.ref p) H) : rTupQ K [.ref p] H Q := ⟨p, xs, rfl, .inr ⟨hl, h⟩⟩
theorem w_lstL {p : Addr} {xs : List V} (hl : SqL K H p xs) (h : ∀ l H', H l = none → Same H H' → H' l = some (.lst xs) → Q (.ref l) H') : rLstQ K [.ref p] H Q := ⟨p, xs, rfl, .inl hl, fun l hl => h l _ hl (Same.new hl) upd_same⟩
theorem w_lstT {p : Addr} {xs : List V} (hl : SqT K H p xs) (h : ∀ l H', H l = none → Same H H' → H' l = some (.lst xs) → Q (.ref l) H') : rLstQ K [.ref p] H Q := ⟨p, xs, rfl, .inr hl, fun l hl => h l _ hl (Same.new hl) upd_same⟩
end
section
variable {X : Cx}
def pAdd : TIp := rI0 fun i j => .int (i + j)
def pSub : TIp := rI0 fun i j => .int (i - j)
def pDiv : TIp := rI CDivW fun i j => .int (i / j)
def pMod : TIp := rI (fun _ j => 0 < j) fun i j => .int (i % j)
def pMul : TIp := rI CMul fun i j => .int (i * j)
theorem ip_addI : PIp X .Add pAdd := ip_of iop_add
theorem ip_subI : PIp X .Sub pSub := ip_of iop_sub
theorem ip_fdivW : PIp X .FloorDiv pDiv := ip_of iop_fdivW
theorem ip_modI : PIp X .Mod pMod := ip_of iop_mod
theorem ip_mulI : PIp X .Mult pMul := ip_of iop_mul
end
section
variable {H : Hp} {Q : VK} {a b : Int}
theorem w_pAdd (h : Q (.int (a + b)) H) : pAdd (.int a) (.int b) H Q := w_I0 h
theorem w_pSub (h : Q (.int (a - b)) H) : pSub (.int a) (.int b) H Q := w_I0 h
theorem w_pDiv (hc : CDivW a b) (h : Q (.int (a / b)) H) : pDiv (.int a) (.int b) H Q := w_I hc h
theorem w_pMod (hc : 0 < b) (h : Q (.int (a % b)) H) : pMod (.int a) (.int b) H Q := w_I hc h
theorem w_pMul (hc : CMul a b) (h : Q (.int (a * b)) H) : pMul (.int a) (.int b) H Q := w_I hc h
end
theorem divW {a b : Int} (h : 0 < b) (h2 : b < 2 ^ 30) : CDivW a b := wide_div (b := 30) h (by omega) (by decide) (by decide)
/-! data compared -/
theorem lay_ints : ∀ ns : List Int, PyData.canLayAll0 (ns.map PyData.int) = true ∧ PyData.depthAll (ns.map PyData.int) ≤ 1
  | [] => by simp [PyData.canLayAll0, PyData.depthAll]
  | n :: r => by
    have h := lay_ints r
    simp only [List.map_cons, PyData.canLayAll0, PyData.depthAll, PyData.canLay0, PyData.depth, h.1, Bool.and_self, true_and]
    omega
theorem shaped_list {ns : List Int} : SeqAt.shaped (.list (ns.map PyData.int)) = true := by
  have h := lay_ints ns
  exact Bool.and_eq_true_iff.mpr ⟨by simp only [PyData.canLay0]; exact h.1, decide_eq_true (by simp only [PyData.depth]; have := h.2; omega)⟩
theorem shaped_tuple {ns : List Int} : SeqAt.shaped (.tuple (ns.map PyData.int)) = true := by
  have h := lay_ints ns
  exact Bool.and_eq_true_iff.mpr ⟨by simp only [PyData.canLay0]; exact h.1, decide_eq_true (by simp only [PyData.depth]; have := h.2; omega)⟩
theorem eqvAll_ints : ∀ xs ys : List Int, PyData.eqvAll (xs.map PyData.int) (ys.map PyData.int) = decide (xs = ys)
  | [], [] => by simp [PyData.eqvAll]
  | [], _ :: _ => by simp [PyData.eqvAll]
  | _ :: _, [] => by simp [PyData.eqvAll]
  | x :: xs, y :: ys => by
    have h := eqvAll_ints xs ys
    rw [List.map_cons, List.map_cons, PyData.eqvAll, h]
    simp [PyData.eqv, Bool.beq_eq_decide_eq]
theorem eqv_listI (xs ys : List Int) : PyData.eqv (.list (xs.map PyData.int)) (.list (ys.map PyData.int)) = decide (xs = ys) := by
  rw [PyData.eqv]
  exact eqvAll_ints xs ys
theorem eqv_tupI (xs ys : List Int) : PyData.eqv (.tuple (xs.map PyData.int)) (.tuple (ys.map PyData.int)) = decide (xs = ys) := by
  rw [PyData.eqv]
  exact eqvAll_ints xs ys
section
variable {K : PySem.W.Frag} {H : Hp} {Q : VK}
theorem w_neLI {a b : Addr} {xs ys : List Int} (ha : SqL K H a (xs.map V.int)) (hb : SqL K H b (ys.map V.int)) (h : Q (.bl (!decide (xs = ys))) H) : uNe K (.ref a) (.ref b) H Q :=
  w_neD (.lst ha (DpAll.ints xs)) (.lst hb (DpAll.ints ys)) shaped_list shaped_list (by rw [eqv_listI]; exact h)
theorem w_neTI {a b : Addr} {xs ys : List Int} (ha : SqT K H a (xs.map V.int)) (hb : SqT K H b (ys.map V.int)) (h : Q (.bl (!decide (xs = ys))) H) : uNe K (.ref a) (.ref b) H Q :=
  w_neD (.tup ha (DpAll.ints xs)) (.tup hb (DpAll.ints ys)) shaped_tuple shaped_tuple (by rw [eqv_tupI]; exact h)
theorem w_eqTI {a b : Addr} {xs ys : List Int} (ha : SqT K H a (xs.map V.int)) (hb : SqT K H b (ys.map V.int)) (h : Q (.bl (decide (xs = ys))) H) : uEq K (.ref a) (.ref b) H Q :=
  w_eqD (.tup ha (DpAll.ints xs)) (.tup hb (DpAll.ints ys)) shaped_tuple shaped_tuple (by rw [eqv_tupI]; exact h)
def rMaxQ : List V → Hp → VK → Prop := fun xs H Q => ∃ i j, xs = [.int i, .int j] ∧ Q (.int (if j > i then j else i)) H
def rMinQ : List V → Hp → VK → Prop := fun xs H Q => ∃ i j, xs = [.int i, .int j] ∧ Q (.int (if j < i then j else i)) H
theorem call_maxQ {X : Cx} (hc : X.calm = true) : CallR X (.builtin "max") rMaxQ := call_max2 hc
theorem call_minQ {X : Cx} (hc : X.calm = true) : CallR X (.builtin "min") rMinQ := call_min2 hc
theorem w_max {a b : Int} (h : Q (.int (max a b)) H) : rMaxQ [.int a, .int b] H Q := ⟨a, b, rfl, by
  have e : (if b > a then b else a) = max a b := by
    rw [Int.max_def]
    split <;> split <;> omega
  rw [e]
  exact h⟩
theorem w_min {a b : Int} (h : Q (.int (min a b)) H) : rMinQ [.int a, .int b] H Q := ⟨a, b, rfl, by
  have e : (if b < a then b else a) = min a b := by
    rw [Int.min_def]
    split <;> split <;> omega
  rw [e]
  exact h⟩
theorem w_sub {to ti : TE} {ts : TSet} {σ : St} {v : V} {R : St → Hp → Prop} (h : to σ H fun o H1 => ti σ H1 fun i H2 => ts o i v H2 fun H3 => R σ H3) : gSub to ti ts v σ H R := h
theorem w_setL {p : Addr} {xs : List V} {k : Int} {j : Nat} {v : V} {R : Hp → Prop} (hl : H p = some (.lst xs)) (hk : ixN xs.length k = some j) (h : ∀ H', H' = upd H p (.lst (xs.set j v)) → H' p = some (.lst (xs.set j v)) → R H') : rSetL (.ref p) (.int k) v H R := ⟨p, xs, k, j, rfl, rfl, hl, hk, h _ rfl upd_same⟩
end
section
variable {K : PySem.W.Frag} {H : Hp} {Q : VK}
theorem w_isi {x : V} {a b : String} {r : Bool} (ht : TyX K H x (.type a)) (hk : kitB a b = some r) (h : Q (.bl r) H) : rIsi K [x, .ty b] H Q := ⟨x, .ty b, .type a, .type b, r, rfl, .ty b, ht, kit_ty hk, h⟩
theorem w_isiII {n : Int} (h : Q (.bl true) H) : rIsi K [.int n, .ty "int"] H Q := w_isi (.base (.int n)) (by decide +kernel) h
theorem w_isiIB {n : Int} (h : Q (.bl false) H) : rIsi K [.int n, .ty "bool"] H Q := w_isi (.base (.int n)) (by decide +kernel) h
theorem w_isiBB {n : Bool} (h : Q (.bl true) H) : rIsi K [.bl n, .ty "bool"] H Q := w_isi (.base (.bl n)) (by decide +kernel) h
theorem w_isiTT {p : Addr} {xs : List V} (hp : H p = some (.tup xs)) (h : Q (.bl true) H) : rIsi K [.ref p, .ty "tuple"] H Q := w_isi (.base (.tup hp)) (by decide +kernel) h
theorem w_isiLL {p : Addr} {xs : List V} (hp : H p = some (.lst xs)) (h : Q (.bl true) H) : rIsi K [.ref p, .ty "list"] H Q := w_isi (.base (.lst hp)) (by decide +kernel) h
theorem w_catT {a b : Addr} {xs ys : List V} (ha : SqT K H a xs) (hb : SqT K H b ys) (hz : xs.length + ys.length ≤ 100000) (h : ∀ p H', Same H H' → SqT K H' p (xs ++ ys) → Q (.ref p) H') : uAdd K (.ref a) (.ref b) H Q := .inr (.inl ⟨a, b, xs, ys, rfl, rfl, ha, hb, Nat.le_trans hz (by decide), fun e => h b H (Same.refl H) (by rw [e]; exact hb), fun _ e => h a H (Same.refl H) (by rw [e, List.append_nil]; exact ha), fun _ _ p hp => h p _ (Same.new hp) (SqT.of upd_same)⟩)
end
theorem ixN_of {n : Nat} {k : Int} (h0 : 0 ≤ k) (h : k < n) : ixN n k = some k.toNat := by
  unfold ixN
  rw [if_pos h0, if_pos h]
theorem atI_of {α : Type} {xs : List α} {k : Int} {x : α} (h0 : 0 ≤ k) (h : xs[k.toNat]? = some x) : atI xs k = some x := by
  have hl := (List.getElem?_eq_some_iff.mp h).1
  unfold atI
  rw [ixN_of h0 (by omega)]
  exact h
theorem length_mapI {α β : Type} {f : α → β} {l : List α} : (l.map f).length = l.length := List.length_map f
/-! ints in lists -/
theorem map_get {ns : List Int} {i : Nat} {n : Int} (h : ns[i]? = some n) : (ns.map V.int)[i]? = some (.int n) := by
  rw [List.getElem?_map, h]
  rfl
theorem map_at {ns : List Int} {i : Nat} {x : V} (h : (ns.map V.int)[i]? = some x) : ∃ n, ns[i]? = some n ∧ x = .int n := by
  rw [List.getElem?_map] at h
  cases e : ns[i]? with
  | none =>
    rw [e] at h
    cases h
  | some n =>
    rw [e] at h
    exact ⟨n, rfl, (Option.some.inj h).symm⟩
end Rn
set_option Elab.async false
set_option linter.all false
set_option maxRecDepth 100000
set_option maxHeartbeats 4000000
/-! enumerate of a tuple -/
namespace PySem
/-- the enumerate object over the iterator at i -/
def enumRec (i : Addr) : Obj := { cls := .type "enumerate", data := .fields #[.none, .bool false, .ref i, rawInt 0, .none, .none] }
theorem enum1_meets {v : Value} {ob : Obj} {Hs : Heap → Prop} (bg : Begins v ob Hs) : Meets (Builtin.«enumerate.__new__» ⟨[.type "enumerate", v], []⟩)
    (fun _ R s => Hs s.heap ∧ R (.ok (.ret (.ref (s.heap.push ob).objs.size))) { s with heap := (s.heap.push ob).push (enumRec s.heap.objs.size) }) :=
  .of_wp fun pr wo ar res st hyp => by
    obtain ⟨hh, g, d, tk, os⟩ := st
    obtain ⟨hv, hyp⟩ := hyp
    have sub := sub_enumerate
    have goes : ∀ {A2 : Around} {E2 : Value → Shared → Prop} {Q2 : Value → Shared → Prop}, Q2 (.ref hh.objs.size) ⟨hh.push ob, g, d, tk, os⟩ → wpAny (model pr wo) A2 (pyIter v) Q2 E2 ⟨hh, g, d, tk, os⟩ :=
      fun z => bg.iter pr wo _ _ ⟨hh, g, d, tk, os⟩ _ hv z
    wp_walk using goes
    refine wpAny_stack_any fun stk => wpAny_pure ?_
    split
    · rename_i cc _ _ _ _ _
      cases (cc == Value.type "enumerate") <;> (wp_walk using goes; exact ⟨_, rfl, hyp⟩)
    · wp_walk using goes; exact ⟨_, rfl, hyp⟩
theorem enum1_call {prog : Program} {w : World} {A : Around} {E : Value → Shared → Prop} {s : Shared} {v : Value} {ob : Obj} {Hs : Heap → Prop} {Q : Value → Shared → Prop} (bg : Begins v ob Hs) (hv : Hs s.heap)
    (fin : ∀ g, IsEnum g (s.heap.objs.size + 1) s.heap.objs.size 0 .none → g.get? s.heap.objs.size = some ob → (∀ b o, s.heap.get? b = some o → g.get? b = some o) → Q (.ref (s.heap.objs.size + 1)) { s with heap := g }) :
    wpAny (model prog w) A (call (.type "enumerate") [v]) Q E s := by
  refine callType_new F.called_enumerate (by decide) (F.typeCall_enumerate_1 v) (F.newCall_enumerate_1 v) (fun obj => F.args_object_init_2 obj v) F.entry_enumerate_new (enum1_meets bg) ⟨hv, ?_⟩
  have sz : (s.heap.push ob).objs.size = s.heap.objs.size + 1 := Heap.size_push ..
  show _ ∧ _
  rw [sz]
  have e1 : ((s.heap.push ob).push (enumRec s.heap.objs.size)).get? (s.heap.objs.size + 1) = some (enumRec s.heap.objs.size) := by
    have z := Heap.get?_push_size (s.heap.push ob) (o := enumRec s.heap.objs.size) rfl
    rw [sz] at z
    exact z
  exact ⟨⟨_, e1, rfl⟩, fin _ e1 (Heap.get?_push_of_some _ (Heap.get?_push_size _ bg.free)) fun b o z => Heap.get?_push_of_some _ (Heap.get?_push_of_some _ z)⟩
end PySem
namespace Rn
open PySem PySem.Spec L2 RT
/-- the tuple at a, each item in a new pair with its number -/
def ItEn (K : PySem.W.Frag) (a : Addr) : It where
  go i H := ∃ (xs : List V) (x : V), SqT K H a xs ∧ xs[i]? = some x
  yld i H v H' := ∃ T x, v = .ref T ∧ H T = none ∧ H' = upd H T (.tup [.int (i : Nat), x]) ∧ ∀ xs, SqT K H a xs → xs[i]? = some x
  stop i H := ∃ xs : List V, SqT K H a xs ∧ xs.length = i
theorem turn_en {P : Program} {w : World} {K : PySem.W.Frag} {es : List Expr} {k1 : Nat} {tp : Pos} (a e it : Addr) :
    Turn P w K (.Tuple es k1 tp) (ItEn K a) [e, it] e (fun i g => (∃ o1, IsEnum g e it ((i : Nat) : Int) o1) ∧ g.IsTupleIter it a i ∧ e ≠ it) where
  mem := by simp
  obj := fun i g st b hb => by
    obtain ⟨⟨o1, h1⟩, ⟨o2, h2, _, h3⟩, _⟩ := st
    rcases (show b = e ∨ b = it by simpa using hb) with z | z
    · rw [z]; exact ⟨_, h1, (fun _ q => nomatch q)⟩
    · rw [z]; exact ⟨o2, h2, fun _ q => by rw [h3] at q; cases q⟩
  keep := fun i g g' st k => let ⟨⟨o1, h1⟩, h2, h3⟩ := st; ⟨⟨o1, k e (by simp) _ h1⟩, h2.at fun o q => k it (by simp) o q, h3⟩
  item := by
    intro X hP hw hK hc i pins s σ H E I fp st hg
    subst hP hw hK
    obtain ⟨⟨o1, h1⟩, h2, h3⟩ := st
    obtain ⟨xs, x, hx1, hx2⟩ := hg
    obtain ⟨us, rel, tu, _⟩ := I.tuple hx1
    obtain ⟨u, hu, ru⟩ := rel.get hx2
    have le : e < s.heap.objs.size := Heap.lt_size h1
    have li : it < s.heap.objs.size := by obtain ⟨_, q, _⟩ := h2; exact Heap.lt_size q
    have na : a ≠ it := fun z => by
      obtain ⟨o2, q, c2, _⟩ := h2
      obtain ⟨o3, q3, c3, _⟩ := tu
      rw [z, q] at q3
      cases q3
      exact absurd (Value.type.inj (c2.symm.trans c3)) (by decide)
    have ne : a ≠ e := fun z => by
      obtain ⟨o3, q3, c3, _⟩ := tu
      rw [z, show s.heap.get? e = _ from h1] at q3
      cases q3
      exact absurd (Value.type.inj c3) (by decide)
    have hlt : i < us.toArray.size := by
      have := (List.getElem?_eq_some_iff.mp hu).1
      simpa using this
    have hh := I.ok.hd hc
    refine wpAny_pyNext_enum_itemD (Draws.tuple (A := X.A.in1) hh it a na us.toArray) h1 ⟨h2, tu⟩ hlt h3 (by simp [h3, Ne.symm ne]) fun v g tk hv ho hit hT hsz hk => ?_
    have ev : v = u := by
      have q : us.toArray[i]? = some u := by simpa using hu
      exact Option.some.inj (hv.symm.trans q)
    subst ev
    refine ⟨_, rfl, wpAny_letOwnedTupleGo_enum (s := { s with heap := g, toks := tk + 1 }) ho fun g2 he2 sb => ?_⟩
    have hT2 : g2.get? s.heap.objs.size = some { cls := .type "tuple", data := .seq #[.int i tk, v] } := (sb.2 _ (Nat.ne_of_gt le)).trans hT
    have new : ObjOk X.prog X.w (upd H s.heap.objs.size (.tup [.int (i : Nat), x])) g2 s.heap.objs.size (.tup [.int (i : Nat), x]) :=
      ⟨by show 2 ≤ sizeLine; decide, [.int i tk, v], .cons ⟨_, rfl⟩ (.cons ru .nil), ⟨_, hT2, rfl, _, rfl⟩⟩
    have I2 : Inv X pins σ (upd H s.heap.objs.size (.tup [.int (i : Nat), x])) { s with heap := g2, toks := tk + 1 } :=
      I.turnedNew (ch := [e, it]) (fun b ob hb q => (sb.2 b (fun z => hb (by simp [z]))).trans (hk b ob (fun z => hb (by simp [z])) (fun z => hb (by simp [z])) q)) fp (Nat.le_refl _) new
    refine ⟨.ref s.heap.objs.size, _, I2, rfl, ⟨_, x, rfl, I.hok.fresh (Nat.le_refl _), rfl, fun ys hy => by rw [I.tuple_inj hy hx1]; exact hx2⟩, ⟨⟨v, ?_⟩, hit.1.at fun o q => (sb.2 it (Ne.symm h3)).trans q, h3⟩, fun b hb => ?_⟩
    · rw [show ((i + 1 : Nat) : Int) = (i : Int) + 1 by omega]
      exact he2
    · have lb : b < s.heap.objs.size := by
        rcases (show b = e ∨ b = it by simpa using hb) with z | z
        · exact z ▸ le
        · exact z ▸ li
      rw [upd_ne (Nat.ne_of_lt lb)]
      exact (fp b hb).1
  done := by
    intro X hP hw hK hc i pins s σ H E I fp st hg
    subst hP hw hK
    obtain ⟨⟨o1, h1⟩, h2, h3⟩ := st
    obtain ⟨xs, hx1, hx2⟩ := hg
    obtain ⟨us, rel, tu, _⟩ := I.tuple hx1
    obtain ⟨g0, g1, g2, g3, g4, g5⟩ := fp it (by simp)
    have hl := rel.length
    have na : a ≠ it := fun z => by
      obtain ⟨o2, q, c2, _⟩ := h2
      obtain ⟨o3, q3, c3, _⟩ := tu
      rw [z, q] at q3
      cases q3
      exact absurd (Value.type.inj (c2.symm.trans c3)) (by decide)
    have hz : us.toArray.size = i := by
      rw [← hx2, hl]
      simp
    refine wpAny_pyNext_enum_endD (Draws.tuple (A := X.A.in1) (I.ok.hd hc) it a na us.toArray) h1 (hz ▸ ⟨h2, tu⟩) fun g eb => ⟨rfl, I.turned (t' := s.toks) (fun b o hb q => eb b o hb q) g0 g1 g3 g4 g5⟩
  self := fun A i s Q E st q => let ⟨⟨_, h1⟩, _⟩ := st; wpAny_pyIter_enum h1 q
/-- what enumerate walks: a tuple, a list -/
def EnQ (K : PySem.W.Frag) (R : It → Hp → Prop) (vs : List V) (H1 : Hp) : Prop := ∃ a, vs = [.ref a] ∧ ((∃ xs, SqT K H1 a xs ∧ R (ItEn K a) H1) ∨ (∃ xs, SqL K H1 a xs ∧ R (Ite K a) H1))
def iEn (K : PySem.W.Frag) (ta : TA) : TI := fun σ H R => ta σ H fun vs H1 => EnQ K R vs H1
theorem pi_en {X : Cx} (K : PySem.W.Frag) (eK : X.K = K) {e : Expr} {ta : TA} {p pos tp : Pos} {es : List Expr} {k1 : Nat} (hg : Gl X "enumerate") (hm : X.mg "enumerate" = none) (ha : PA X [e] ta) (hs : starEach [e] X.env = [(false, eval e X.env)] := by rfl) :
    PI X (.Tuple es k1 tp) (.Call (.Name "enumerate" p) [e] [] pos) (iEn K ta) := by
  subst eK
  refine ⟨fun pins s σ H R I h => ?_⟩
  have bo : bootBuiltins ("enumerate" : Str) = some (.type "enumerate") := by decide +kernel
  refine PyProof.Rows.Call_ (ld_blt I hg hm bo (PyProof.Rows.callWith_type1 (thn (ha.run pos pins s σ H _ I h) fun us s1 w1 => ?_) hs rfl))
  obtain ⟨vs, H1, I1, r1, q1⟩ := w1
  obtain ⟨a, ex, q⟩ := q1
  subst ex
  obtain ⟨u, eu, ru⟩ := vals1 r1
  subst eu
  obtain rfl : u = .ref a := ru
  have fresh : ∀ {H' : Hp} {g : Heap} (_ : ∀ b o, s1.heap.get? b = some o → g.get? b = some o), H' = H1 → ∀ b ∈ [s1.heap.objs.size + 1, s1.heap.objs.size], FpOk X pins H1 b := fun _ _ b hb => by
    have hle : s1.heap.objs.size ≤ b := by
      rcases (show b = s1.heap.objs.size + 1 ∨ b = s1.heap.objs.size by simpa using hb) with z | z <;> omega
    exact I1.fpOk hle (I1.hok.fresh hle)
  rcases q with ⟨xs, hx, q⟩ | ⟨xs, hx, q⟩
  · obtain ⟨its, rv, tu, hz⟩ := I1.tuple hx
    refine enum1_call (begins_tuple a its.toArray) tu fun g he hit hk => wpAny_pyIter_enum he ?_
    refine ⟨s1.heap.objs.size + 1, [s1.heap.objs.size + 1, s1.heap.objs.size], _, _, H1, rfl, I1.kept (t' := s1.toks) hk, turn_en a (s1.heap.objs.size + 1) s1.heap.objs.size, ⟨⟨.none, he⟩, ⟨_, hit, rfl, rfl⟩, Nat.succ_ne_self _⟩, fresh hk rfl, q⟩
  · obtain ⟨its, rv, pl, hz⟩ := I1.list hx
    refine enum1_call (begins_list a its.toArray) pl.isList fun g he hit hk => wpAny_pyIter_enum he ?_
    refine ⟨s1.heap.objs.size + 1, [s1.heap.objs.size + 1, s1.heap.objs.size], _, _, H1, rfl, I1.kept (t' := s1.toks) hk, turn_enum a (s1.heap.objs.size + 1) s1.heap.objs.size, ⟨⟨.none, he⟩, ⟨_, hit, rfl, rfl⟩, Nat.succ_ne_self _⟩, fresh hk rfl, q⟩
section
variable {K : PySem.W.Frag} {σ : St} {H : Hp} {D : Ends}
theorem w_en {ta : TA} {R : It → Hp → Prop} (h : ta σ H fun vs H1 => EnQ K R vs H1) : iEn K ta σ H R := h
theorem w_enT {a : Addr} {xs : List V} {R : It → Hp → Prop} (hS : SqT K H a xs) (h : R (ItEn K a) H) : EnQ K R [.ref a] H := ⟨a, rfl, .inl ⟨xs, hS, h⟩⟩
theorem w_gTup {n : Nat} {t : TGs} {a : Addr} {xs : List V} {R : St → Hp → Prop} (hS : SqT K H a xs) (hn : xs.length = n) (h : t xs σ H R) : gTup K n t (.ref a) σ H R := ⟨a, xs, rfl, hS, hn, h⟩
theorem w_gCons {t : TG} {u : TGs} {x : V} {r : List V} {R : St → Hp → Prop} (h : t x σ H fun σ' H' => u r σ' H' R) : gCons t u (x :: r) σ H R := ⟨x, r, rfl, h⟩
theorem w_gNil {R : St → Hp → Prop} (h : R σ H) : gNil [] σ H R := ⟨rfl, h⟩
theorem w_gName {i : Nat} {x : V} {R : St → Hp → Prop} (h : R (σ.set i (some x)) H) : gName i x σ H R := h
/-- enumerate over a tuple, its targets two names -/
theorem lp_en {a : Addr} {xs : List V} {g : TG} {tb : TS} (Pv : Nat → St → Hp → Prop) (h0 : Pv 0 σ H) (hl : ∀ i σ H, i ≤ xs.length → Pv i σ H → SqT K H a xs)
    (hs : ∀ i x σ H T H', xs[i]? = some x → Pv i σ H → H T = none → Same H H' → H' T = some (.tup [.int (i : Nat), x]) → g (.ref T) σ H' fun σ2 H2 => tb { D with nx := Pv (i + 1), ct := Pv (i + 1), bk := D.nx } σ2 H2) (hd : ∀ σ H, Pv xs.length σ H → D.nx σ H) :
    Lp (ItEn K a) g tb D σ H := by
  refine ⟨fun i m σ H => m = xs.length - i ∧ i ≤ xs.length ∧ Pv i σ H, ⟨xs.length, by simp, Nat.zero_le _, h0⟩, ?_⟩
  rintro i m σ1 H1 ⟨em, hi, p⟩
  have q := hl i σ1 H1 hi p
  by_cases lt : i < xs.length
  · have hx : xs[i]? = some xs[i] := List.getElem?_eq_getElem lt
    refine .inr ⟨⟨xs, xs[i], q, hx⟩, Pv (i + 1), fun σ' H' p' => ⟨xs.length - (i + 1), by omega, rfl, lt, p'⟩, fun v H' y => ?_⟩
    obtain ⟨T, x, ev, hT, eH, hxx⟩ := y
    have ex : xs[i] = x := Option.some.inj (hx.symm.trans (hxx xs q))
    subst ev eH ex
    exact hs i _ σ1 H1 T _ hx p hT (Same.new hT) upd_same
  · have e : i = xs.length := by omega
    subst e
    exact .inl ⟨⟨xs, q, rfl⟩, hd σ1 H1 p⟩
end
end Rn
set_option Elab.async false
set_option linter.all false
set_option maxRecDepth 100000
set_option maxHeartbeats 4000000
/-! more steps: truth, in, sorted, least, loops and comprehensions over what may be a list or a tuple -/
namespace Rn
open PySem PySem.Spec L2 RT
def TrQ (K : PySem.W.Frag) (QB : Bool → Hp → Prop) (x : V) (H : Hp) : Prop := ∃ k, TruV K x H k ∧ QB k H
def tTr (K : PySem.W.Frag) (ta : TE) : TT := fun σ H QB => ta σ H fun x H1 => TrQ K QB x H1
def UQ (K : PySem.W.Frag) (R : It → Hp → Prop) (x : V) (H1 : Hp) : Prop := ∃ a, x = .ref a ∧ ((∃ xs, SqT K H1 a xs ∧ R (Itt K a) H1) ∨ (∃ xs, SqL K H1 a xs ∧ R (Itl K a) H1))
def iU (K : PySem.W.Frag) (tl : TE) : TI := fun σ H R => tl σ H fun x H1 => UQ K R x H1
section
variable {X : Cx} (K : PySem.W.Frag) (eK : X.K = K)
include eK
theorem k_tr {a : Expr} {ta : TE} (ha : PE X a ta) (he : ∀ whole, isTrue a X.env whole = (do let v ← whole; standAt a.pos; holding [v] (truthy v))) : PT X a (tTr K ta) := by
  subst eK
  exact pt_truth ha he
theorem k_sorted : CallR X (.builtin "sorted") (rSorted K) := by
  subst eK
  exact cr_sorted
theorem k_minL (hc : X.calm = true) : CallR X (.builtin "min") (rMin K) := by
  subst eK
  exact cr_min hc
theorem k_maxL (hc : X.calm = true) : CallR X (.builtin "max") (rMax K) := by
  subst eK
  exact cr_max hc
theorem k_U {tg l : Expr} {tl : TE} (hl : PE X l tl) : PI X tg l (iU K tl) := by
  subst eK
  refine ⟨fun pins s σ H R I h => ?_⟩
  refine thn (hl.run pins s σ H _ I h) fun v s1 w1 => ?_
  obtain ⟨x, H1, I1, r1, a, ex, q⟩ := w1
  subst ex
  obtain rfl : v = .ref a := r1
  have one : ∀ b ∈ [s1.heap.objs.size], FpOk X pins H1 b := fun b hb => by
    rw [List.mem_singleton.mp hb]
    exact I1.fpOk (Nat.le_refl _) (I1.hok.fresh (Nat.le_refl _))
  have kp : ∀ o : Obj, Inv X pins σ H1 { s1 with heap := s1.heap.push o } := fun o => I1.kept (t' := s1.toks) fun b u z => Heap.get?_push_of_some _ z
  rcases q with ⟨xs, hx, q⟩ | ⟨xs, hx, q⟩
  · obtain ⟨us, rel, tu, _⟩ := I1.tuple hx
    refine wpAny_pyIter_tuple (show s1.heap.IsTuple a us.toArray from tu) ?_
    exact ⟨_, [s1.heap.objs.size], _, _, H1, rfl, kp _, turn_tuple a _, ⟨_, Heap.get?_push_size _ rfl, rfl, rfl⟩, one, q⟩
  · obtain ⟨us, rel, pl, _⟩ := I1.list hx
    refine wpAny_pyIter_list pl.isList ?_
    exact ⟨_, [s1.heap.objs.size], _, _, H1, rfl, kp _, turn_list a _, ⟨_, Heap.get?_push_size _ rfl, rfl, rfl⟩, one, q⟩
end
section
variable {K : PySem.W.Frag} {σ : St} {H : Hp} {D : Ends} {te ta : TE} {Q : VK} {QB : Bool → Hp → Prop} {R : It → Hp → Prop}
theorem w_tr (h : ta σ H fun x H1 => TrQ K QB x H1) : tTr K ta σ H QB := h
theorem w_trB {b : Bool} (h : QB b H) : TrQ K QB (.bl b) H := ⟨b, rfl, h⟩
theorem w_trL {p : Addr} {xs : List V} (hl : SqL K H p xs) (h : QB (!xs.isEmpty) H) : TrQ K QB (.ref p) H := ⟨_, .inl ⟨xs, hl, rfl⟩, h⟩
theorem w_iU (h : ta σ H fun x H1 => UQ K R x H1) : iU K ta σ H R := h
theorem w_UT {a : Addr} {xs : List V} (hS : SqT K H a xs) (h : R (Itt K a) H) : UQ K R (.ref a) H := ⟨a, rfl, .inl ⟨xs, hS, h⟩⟩
theorem w_UL {a : Addr} {xs : List V} (hS : SqL K H a xs) (h : R (Itl K a) H) : UQ K R (.ref a) H := ⟨a, rfl, .inr ⟨xs, hS, h⟩⟩
theorem flat_ints (ns : List Int) : (ns.map V.int).all flatV = true := by
  rw [List.all_eq_true]
  intro x hx
  obtain ⟨n, _, rfl⟩ := List.mem_map.mp hx
  rfl
theorem in_ints (n : Int) (ns : List Int) : inV (.int n) (ns.map V.int) = decide (n ∈ ns) := by
  unfold inV
  rw [List.any_map]
  induction ns with
  | nil => rfl
  | cons x r ih =>
    rw [List.any_cons, ih]
    have e : ((fun y => eqV y (V.int n)) ∘ V.int) x = decide (n = x) := by
      show eqV (.int x) (.int n) = _
      unfold eqV
      by_cases h : n = x
      · subst h; simp
      · simp [h, Ne.symm h]
    rw [e, ← Bool.decide_or]
    exact decide_eq_decide.mpr List.mem_cons.symm
theorem w_inL {p : Addr} {ns : List Int} {n : Int} (hl : SqL K H p (ns.map V.int)) (h : Q (.bl (decide (n ∈ ns))) H) : rIn K false (.int n) (.ref p) H Q := ⟨p, _, rfl, .inl hl, rfl, flat_ints ns, by rw [in_ints]; exact h⟩
theorem w_niL {p : Addr} {ns : List Int} {n : Int} (hl : SqL K H p (ns.map V.int)) (h : Q (.bl (!decide (n ∈ ns))) H) : rIn K true (.int n) (.ref p) H Q := ⟨p, _, rfl, .inl hl, rfl, flat_ints ns, by rw [in_ints]; exact h⟩
theorem w_inT {p : Addr} {ns : List Int} {n : Int} (hl : SqT K H p (ns.map V.int)) (h : Q (.bl (decide (n ∈ ns))) H) : rIn K false (.int n) (.ref p) H Q := ⟨p, _, rfl, .inr hl, rfl, flat_ints ns, by rw [in_ints]; exact h⟩
theorem w_niT {p : Addr} {ns : List Int} {n : Int} (hl : SqT K H p (ns.map V.int)) (h : Q (.bl (!decide (n ∈ ns))) H) : rIn K true (.int n) (.ref p) H Q := ⟨p, _, rfl, .inr hl, rfl, flat_ints ns, by rw [in_ints]; exact h⟩
theorem w_sorted {a : Addr} {ns : List Int} (hl : SqL K H a (ns.map V.int)) (hn : ns.length < 64) (h : ∀ (ms : List Int) p H', ms.Perm ns → ms.Pairwise (· ≤ ·) → H p = none → Same H H' → H' p = some (.lst (ms.map V.int)) → Q (.ref p) H') : rSorted K [.ref a] H Q :=
  ⟨a, ns, rfl, hl, hn, fun ms p e1 e2 e3 => h ms p _ e1 e2 e3 (Same.new e3) upd_same⟩
theorem w_minL {a : Addr} {ns : List Int} (hl : SqL K H a (ns.map V.int)) (hn : 0 < ns.length) (h : ∀ m, m ∈ ns → (∀ y, y ∈ ns → m ≤ y) → Q (.int m) H) : rMin K [.ref a] H Q := ⟨a, ns, rfl, hl, hn, h⟩
theorem w_iteD {p : Prop} {ip : Decidable p} {A B : Prop} (hp : p) (h : A) : if decide p = true then A else B := by
  rw [decide_eq_true hp]
  exact w_iteT h
theorem w_iteE {p : Prop} {ip : Decidable p} {A B : Prop} (hp : ¬ p) (h : B) : if decide p = true then A else B := by
  rw [decide_eq_false hp]
  exact w_iteF h
theorem w_iteND {p : Prop} {ip : Decidable p} {A B : Prop} (hp : p) (h : B) : if (!decide p) = true then A else B := by
  rw [decide_eq_true hp]
  exact w_iteF h
theorem w_iteNE {p : Prop} {ip : Decidable p} {A B : Prop} (hp : ¬ p) (h : A) : if (!decide p) = true then A else B := by
  rw [decide_eq_false hp]
  exact w_iteT h
theorem lp_tupN {a : Addr} {xs : List V} {j : Nat} {tb : TS} (Pv : Nat → St → Hp → Prop) (h0 : Pv 0 σ H) (hl : ∀ i σ H, i ≤ xs.length → Pv i σ H → SqT K H a xs)
    (hs : ∀ i x σ H, xs[i]? = some x → Pv i σ H → tb { D with nx := Pv (i + 1), ct := Pv (i + 1), bk := D.nx } (σ.set j (some x)) H) (hd : ∀ σ H, Pv xs.length σ H → D.nx σ H) : Lp (Itt K a) (gName j) tb D σ H := for_tup Pv h0 hl hs hd
theorem lp_listN {a : Addr} {xs : List V} {j : Nat} {tb : TS} (Pv : Nat → St → Hp → Prop) (h0 : Pv 0 σ H) (hl : ∀ i σ H, i ≤ xs.length → Pv i σ H → SqL K H a xs)
    (hs : ∀ i x σ H, xs[i]? = some x → Pv i σ H → tb { D with nx := Pv (i + 1), ct := Pv (i + 1), bk := D.nx } (σ.set j (some x)) H) (hd : ∀ σ H, Pv xs.length σ H → D.nx σ H) : Lp (Itl K a) (gName j) tb D σ H := for_list Pv h0 hl hs hd
theorem lq_list {a : Addr} {xs : List V} {j : Nat} {tt : TT} {vs : List Nat} (Pv : Addr → Nat → Hp → Prop) (h0 : ∀ D H1, H D = none → Same H H1 → H1 D = some (.lst []) → Pv D 0 H1) (hl : ∀ D i H1, i ≤ xs.length → Pv D i H1 → SqL K H1 a xs)
    (hs : ∀ D i x H1, H D = none → xs[i]? = some x → Pv D i H1 → wipe ((wipe σ vs).set j (some x)) vs = wipe σ vs ∧ tt ((wipe σ vs).set j (some x)) H1 fun b H3 => if b = true then te ((wipe σ vs).set j (some x)) H3 (Put D (Pv D (i + 1))) else Pv D (i + 1) H3)
    (hd : ∀ D H1, H D = none → Pv D xs.length H1 → Q (.ref D) H1) : Lq (Itl K a) (gName j) tt te vs σ H Q := fun D hD =>
  lc_list (Pv D) (h0 D _ hD (Same.new hD) upd_same) (fun i H1 hi p => hl D i H1 hi p) (fun i x H1 hx p => hs D i x H1 hD hx p) (fun H1 p => hd D H1 hD p)
theorem lq_tup {a : Addr} {xs : List V} {j : Nat} {tt : TT} {vs : List Nat} (Pv : Addr → Nat → Hp → Prop) (h0 : ∀ D H1, H D = none → Same H H1 → H1 D = some (.lst []) → Pv D 0 H1) (hl : ∀ D i H1, i ≤ xs.length → Pv D i H1 → SqT K H1 a xs)
    (hs : ∀ D i x H1, H D = none → xs[i]? = some x → Pv D i H1 → wipe ((wipe σ vs).set j (some x)) vs = wipe σ vs ∧ tt ((wipe σ vs).set j (some x)) H1 fun b H3 => if b = true then te ((wipe σ vs).set j (some x)) H3 (Put D (Pv D (i + 1))) else Pv D (i + 1) H3)
    (hd : ∀ D H1, H D = none → Pv D xs.length H1 → Q (.ref D) H1) : Lq (Itt K a) (gName j) tt te vs σ H Q := fun D hD =>
  lc_tup (Pv D) (h0 D _ hD (Same.new hD) upd_same) (fun i H1 hi p => hl D i H1 hi p) (fun i x H1 hx p => hs D i x H1 hD hx p) (fun H1 p => hd D H1 hD p)
/-- while, by a word with a number that falls -/
def Wq (c : TT) (tb : TS) (D : Ends) (σ : St) (H : Hp) : Prop := tWhile c tb D σ H
theorem w_while {c : TT} {tb : TS} (h : Wq c tb D σ H) : tWhile c tb D σ H := h
theorem wq_by {c : TT} {tb : TS} (W : Nat → St → Hp → Prop) (m0 : Nat) (h0 : W m0 σ H)
    (hs : ∀ m σ H, W m σ H → c σ H fun b H1 => if b = true then ∃ N : St → Hp → Prop, (∀ σ' H', N σ' H' → ∃ m', m' < m ∧ W m' σ' H') ∧ tb { D with nx := N, ct := N, bk := D.nx } σ H1 else D.nx σ H1) : Wq c tb D σ H := ⟨W, ⟨m0, h0⟩, hs⟩
theorem w_tyes {QB : Bool → Hp → Prop} (h : QB true H) : tYes σ H QB := h
end
end Rn
set_option Elab.async false
set_option linter.all false
set_option maxRecDepth 100000
set_option maxHeartbeats 4000000
/-! match over tuples that begin with a text -/
namespace Rn
open PySem PySem.Spec L2 RT
/-- patterns that are names -/
inductive Caps : List Pattern → List Str → Prop
  | nil : Caps [] []
  | cons {x : Str} {pos : Pos} {ps : List Pattern} {xs : List Str} (h : Caps ps xs) : Caps (.MatchAs none (some x) pos :: ps) (x :: xs)
theorem Caps.len : ∀ {ps : List Pattern} {xs : List Str}, Caps ps xs → ps.length = xs.length
  | _, _, .nil => rfl
  | _, _, .cons h => by simp [h.len]
theorem Caps.each {M : Model} {A : Around} {E : Value → Shared → Prop} {s : Shared} {env : Env} : ∀ {ps : List Pattern} {xs : List Str} {us : List Value} {Q : Option (List (Str × Value)) → Shared → Prop}, Caps ps xs → us.length = xs.length → Q (some (xs.zip us)) s → wpAny M A (matchEach ps env us) Q E s
  | _, _, us, Q, .nil, hl, h => by
    cases us with
    | nil => exact wpAny_matchEach_nil h
    | cons u us => cases hl
  | _, _, us, Q, .cons (x := x) (xs := xs) c, hl, h => by
    cases us with
    | nil => cases hl
    | cons u us =>
      refine wpAny_matchEach_cons (wpAny_matchPattern_Capture ?_)
      exact c.each (Nat.succ.inj hl) h
/-- slots of names -/
inductive Slots (X : Cx) : List Str → List Nat → Prop
  | nil : Slots X [] []
  | cons {x : Str} {i : Nat} {xs : List Str} {is : List Nat} (hi : X.N[i]? = some x) (hx : Loc X.env.scope x) (hf : X.fn x = true ∨ X.env.scope.names.lookup x = some .local) (h : Slots X xs is) : Slots X (x :: xs) (i :: is)
def setAll : St → List Nat → List V → St
  | σ, i :: is, v :: vs => setAll (σ.set i (some v)) is vs
  | σ, _, _ => σ
theorem Slots.store {X : Cx} {pins : List (Addr × Obj)} {Q : Unit → Shared → Prop} (hN : X.N.Nodup) : ∀ {xs : List Str} {is : List Nat} {vs : List V} {us : List Value} {σ : St} {H : Hp} {s : Shared}, Slots X xs is → Vals vs us → us.length = xs.length → Inv X pins σ H s → (∀ s', Inv X pins (setAll σ is vs) H s' → Q () s') →
    wpAny (model X.prog X.w) X.A (assignInOrder ((xs.zip us).map fun p => bindName X.env p.1) ((xs.zip us).map (·.2))) Q X.xe s
  | _, _, vs, us, σ, H, s, .nil, r, hl, I, h => by
    have e : setAll σ [] vs = σ := by cases vs <;> rfl
    rw [e] at h
    exact wpAny_assignInOrder_none (h s I)
  | _, _, vs, us, σ, H, s, .cons (x := x) hi hx hf c, r, hl, I, h => by
    cases r with
    | nil => cases hl
    | cons r1 rr => exact wpAny_assignInOrder_more (wpAny_bindName (store_ok I hN hi hx r1 (fun s' I' => c.store hN rr (Nat.succ.inj hl) I' h) hf))
def PMs (X : Cx) (cs : List MatchCase) (t : V → TS) : Prop := ∀ (pins : List (Addr × Obj)) (s : Shared) (σ : St) (H : Hp) (D : Ends) (x : V) (v : Value) (first : Bool), Inv X pins σ H s → RelV x v → t x D σ H →
  wpAny (model X.prog X.w) X.A (matchCases cs X.env v first) (SP X pins D) X.xe s
theorem pm_nil {X : Cx} : PMs X [] fun _ => tNext := fun _ _ σ H _ _ _ _ I _ h => wpAny_matchCases_nil ⟨σ, H, I, h⟩
/-- case (k, names..) over a tuple that begins with a text -/
def tCase (K : PySem.W.Frag) (k : Str) (is : List Nat) (tb : TS) (tr : V → TS) : V → TS := fun x D σ H => ∃ (a : Addr) (z : Str) (ys : List V), x = .ref a ∧ SqT K H a (.str z :: ys) ∧ ys.length ≤ 1000 ∧ if z = k ∧ ys.length = is.length then tb D (setAll σ is ys) H else tr x D σ H
theorem pm_case {X : Cx} (K : PySem.W.Frag) (eK : X.K = K) {k : Str} {j : Nat} {p1 p2 pos : Pos} {ps : List Pattern} {xs : List Str} {is : List Nat} {body : List Stmt} {rest : List MatchCase} {tb : TS} {tr : V → TS} (hc : X.calm = true) (hN : X.N.Nodup) (cp : Caps ps xs) (sl : Slots X xs is)
    (hb : PSs X body tb) (hr : PMs X rest tr) (hlen : xs.length = is.length) (hstar : ((Pattern.MatchValue (.Constant (.str k) j p1) p2) :: ps).findIdx? (·.isStar) = none := by rfl)
    (hwild : (((Pattern.MatchValue (.Constant (.str k) j p1) p2) :: ps).all fun p => p.isWildcard || (p.isStar && p.names.isEmpty)) = false := by rfl) :
    PMs X (⟨.MatchSequence (.MatchValue (.Constant (.str k) j p1) p2 :: ps) pos, none, body⟩ :: rest) (tCase K k is tb tr) := by
  subst eK
  intro pins s σ H D x v first I rx h
  obtain ⟨a, z, ys, ex, hS, hy, h⟩ := h
  subst ex
  obtain rfl : v = .ref a := rx
  obtain ⟨us, rel, tu, _⟩ := I.tuple hS
  cases rel with
  | @cons _ u _ ws r1 rr =>
    obtain ⟨tk, rfl⟩ := r1
    have hl := rr.length
    have hfit : (((Value.str z tk :: ws).toArray.size : Nat) : Int) < 2 ^ 63 := by
      simp only [List.size_toArray, List.length_cons]
      omega
    refine wpAny_matchCases_cons ?_
    by_cases hn : ws.length = ps.length
    · refine PyProof.Rows.matchSeq_tuple_hit tu hfit (by simp [hn]) ?_ hstar hwild
      have el : (Pattern.MatchValue (.Constant (.str k) j p1) p2 :: ps).length = (Value.str z tk :: ws).toArray.size := by simp [hn]
      rw [el]
      refine wpAny_unpackItems_tuple (I.ok.hd hc) (show Heap.IsTuple s.heap a _ from tu) fun g hx => ?_
      have I1 : Inv X pins σ H { s with heap := g, toks := s.toks + 1 + 1 } := I.kept (t' := s.toks + 1 + 1) fun b o q => hx b o (Nat.ne_of_lt (Heap.lt_size q)) q
      refine wpAny_matchEach_cons (wpAny_matchPattern_Value (Calls.Constant_str ?_))
      have I2 := I1.tok (s.toks + 1 + 1 + 1)
      refine thn (op_eq pins _ σ H (.str z) (.str k) _ _ (fun v' H' => v' = .bl (decide (z = k)) ∧ H' = H) I2 ⟨tk, rfl⟩ ⟨_, rfl⟩ ⟨rfl, ?_, rfl⟩) fun cv s2 w2 => ?_
      · congr 1
        exact decide_eq_decide.mpr ⟨fun q => V.str.inj q, fun q => by rw [q]⟩
      · obtain ⟨v2, H2, I3, r2, e2, e3⟩ := w2
        subst e2 e3
        obtain rfl : cv = .bool (decide (z = k)) := r2
        refine wpAny_truthy_bool ?_
        have hlen2 : ys.length = is.length := by rw [hl, hn, cp.len, hlen]
        by_cases hz : z = k
        · rw [decide_eq_true hz]
          rw [if_pos ⟨hz, hlen2⟩] at h
          show wpAny _ _ (matchEach ps X.env ws) _ _ _
          refine cp.each (by rw [hn, cp.len]) ?_
          show wpAny _ _ (assignInOrder _ _) _ _ _
          have em : (List.map (fun (q : Str × Value) => bindName X.env q.1) ([] ++ xs.zip ws)) = (xs.zip ws).map fun p => bindName X.env p.1 := rfl
          refine sl.store hN rr (by rw [hn, cp.len]) I3 fun s4 I4 => ?_
          exact hb.run pins s4 _ _ D I4 h
        · rw [decide_eq_false hz]
          rw [if_neg fun q => hz q.1] at h
          exact hr pins _ σ _ D (.ref a) (.ref a) false I3 rfl h
    · refine PyProof.Rows.matchSeq_tuple_miss tu hfit (by simp; omega) ?_ hstar hwild
      have hne : ¬ (z = k ∧ ys.length = is.length) := fun q => hn (by rw [← hl, q.2, ← hlen, cp.len])
      rw [if_neg hne] at h
      exact hr pins _ σ H D (.ref a) (.ref a) false (I.tok _) rfl h
theorem ps_match {X : Cx} {e : Expr} {cs : List MatchCase} {pos : Pos} {te : TE} {t : V → TS} (he : PE X e te) (hm : PMs X cs t) : PS X (.Match e cs pos) (fun D σ H => te σ H fun x H1 => t x D σ H1) := by
  refine ⟨fun pins s σ H D I h => ?_⟩
  exact wpAny_Match (thn (he.run pins s σ H _ I h) fun v s1 w1 => by
    obtain ⟨x, H1, I1, r1, q⟩ := w1
    exact hm pins s1 σ H1 D x v true I1 r1 q)
/-- the reading of a match -/
def tMatch (te : TE) (t : V → TS) : TS := fun D σ H => te σ H fun x H1 => t x D σ H1
theorem ps_matchQ {X : Cx} {e : Expr} {cs : List MatchCase} {pos : Pos} {te : TE} {t : V → TS} (he : PE X e te) (hm : PMs X cs t) : PS X (.Match e cs pos) (tMatch te t) := ps_match he hm
section
variable {K : PySem.W.Frag} {σ : St} {H : Hp} {D : Ends} {te : TE} {t tr : V → TS} {tb : TS}
theorem w_match (h : te σ H fun x H1 => t x D σ H1) : tMatch te t D σ H := h
theorem w_caseY {a : Addr} {k : Str} {is : List Nat} {ys : List V} (hS : SqT K H a (.str k :: ys)) (hl : ys.length = is.length) (h1 : ys.length ≤ 1000) (h : tb D (setAll σ is ys) H) : tCase K k is tb tr (.ref a) D σ H := ⟨a, k, ys, rfl, hS, h1, by rw [if_pos ⟨rfl, hl⟩]; exact h⟩
theorem w_caseN {a : Addr} {k z : Str} {is : List Nat} {ys : List V} (hS : SqT K H a (.str z :: ys)) (hne : ¬ (z = k ∧ ys.length = is.length)) (h1 : ys.length ≤ 1000) (h : tr (.ref a) D σ H) : tCase K k is tb tr (.ref a) D σ H := ⟨a, z, ys, rfl, hS, h1, by rw [if_neg hne]; exact h⟩
end
end Rn
set_option Elab.async false
set_option linter.all false
set_option maxRecDepth 100000
set_option maxHeartbeats 4000000
/-! slices of tuples, tuples of the top, data compared -/
namespace Rn
open PySem PySem.Spec L2 RT
section
variable {K : PySem.W.Frag} {σ : St} {H : Hp} {te : TE} {Q : VK} {QO : Option Int → Hp → Prop}
theorem w_sl {rs : V → Option Int → Option Int → Hp → VK → Prop} {tl th : TO} (h : te σ H fun x H1 => tl σ H1 fun l H2 => th σ H2 fun u H3 => rs x l u H3 Q) : tSl rs te tl th σ H Q := h
theorem w_noPart (h : QO none H) : tNoPart σ H QO := h
theorem w_part (h : te σ H fun x H1 => ∃ i, x = .int i ∧ QO (some i) H1) : tPart te σ H QO := h
theorem w_pint {a : Int} {P : Int → Prop} (h : P a) : ∃ i, V.int a = .int i ∧ P i := ⟨a, rfl, h⟩
theorem w_slT {a : Addr} {xs : List V} {lo hi : Option Int} (hS : SqT K H a xs) (h : ∀ p H', Same H H' → SqT K H' p (cutV xs lo hi) → Q (.ref p) H') : uSl K (.ref a) lo hi H Q := by
  refine .inl ⟨a, xs, rfl, hS, ?_⟩
  constructor
  · intro e
    refine h a H (Same.refl H) ?_
    unfold cutV
    rw [e.1, e.2, List.drop_zero, Nat.sub_zero, List.take_length]
    exact hS
  · intro _ p hp
    exact h p _ (Same.new hp) (SqT.of upd_same)
end
theorem sqT_K {K : PySem.W.Frag} {a : Addr} {d : Option Addr} {its : Array Value} {n : Nat} {sl : Array (Option Value)} {xs : List V} (H : Hp) (h : K.lookup a = some ⟨.type "tuple", d, .seq its n, sl⟩) (hz : its.size ≤ sizeLine) (v : Vals xs its.toList) : SqT K H a xs := .inr ⟨_, its, n, h, rfl, rfl, hz, v⟩
/-- data that may be laid, not deep -/
def lays (d : PyData) (n : Nat) : Prop := d.canLay0 = true ∧ d.depth ≤ n
def laysAll (ds : List PyData) (n : Nat) : Prop := PyData.canLayAll0 ds = true ∧ PyData.depthAll ds ≤ n
theorem lays.shaped {d : PyData} {n : Nat} (h : lays d n) (hn : n ≤ 64) : SeqAt.shaped d = true := Bool.and_eq_true_iff.mpr ⟨h.1, decide_eq_true (Nat.le_trans h.2 hn)⟩
theorem lays.int (i : Int) : lays (.int i) 1 := by unfold lays; simp [PyData.canLay0, PyData.depth]
theorem lays.bool (i : Bool) : lays (.bool i) 1 := by unfold lays; simp [PyData.canLay0, PyData.depth]
theorem laysAll.nil {n : Nat} : laysAll [] n := by unfold laysAll; simp [PyData.canLayAll0, PyData.depthAll]
theorem laysAll.cons {d : PyData} {ds : List PyData} {n : Nat} (h : lays d n) (r : laysAll ds n) : laysAll (d :: ds) n := by
  unfold laysAll
  simp only [PyData.canLayAll0, PyData.depthAll, h.1, r.1, Bool.and_self, true_and]
  have h1 := h.2
  have h2 := r.2
  omega
theorem laysAll.ints (ns : List Int) : laysAll (ns.map PyData.int) 1 := lay_ints ns
theorem lays.mono {d : PyData} {n m : Nat} (h : lays d n) (e : n ≤ m) : lays d m := ⟨h.1, Nat.le_trans h.2 e⟩
theorem lays.tup {ds : List PyData} {n : Nat} (h : laysAll ds n) : lays (.tuple ds) (n + 1) := by
  unfold lays
  simp only [PyData.canLay0, PyData.depth, h.1, true_and]
  have := h.2
  omega
theorem lays.lst {ds : List PyData} {n : Nat} (h : laysAll ds n) : lays (.list ds) (n + 1) := by
  unfold lays
  simp only [PyData.canLay0, PyData.depth, h.1, true_and]
  have := h.2
  omega
theorem w_neSame {K : PySem.W.Frag} {H : Hp} {Q : VK} {x y : V} {d : PyData} {n : Nat} (hx : Dp K H x d) (hy : Dp K H y d) (hl : lays d n) (hn : n ≤ 64) (h : Q (.bl false) H) : uNe K x y H Q :=
  w_neD hx hy (hl.shaped hn) (hl.shaped hn) (by rw [SeqAt.eqv_refl d hl.1]; exact h)
theorem w_eqSame {K : PySem.W.Frag} {H : Hp} {Q : VK} {x y : V} {d : PyData} {n : Nat} (hx : Dp K H x d) (hy : Dp K H y d) (hl : lays d n) (hn : n ≤ 64) (h : Q (.bl true) H) : uEq K x y H Q :=
  w_eqD hx hy (hl.shaped hn) (hl.shaped hn) (by rw [SeqAt.eqv_refl d hl.1]; exact h)
theorem dp_ints {K : PySem.W.Frag} {H : Hp} {a : Addr} {ns : List Int} (h : SqT K H a (ns.map V.int)) : Dp K H (.ref a) (.tuple (ns.map PyData.int)) := .tup h (DpAll.ints ns)
end Rn
set_option Elab.async false
set_option linter.all false
set_option maxRecDepth 100000
set_option maxHeartbeats 4000000
/-! the mathematics and the promises -/
namespace My
open PySem PySem.Spec L2 RT Rn
/-- the number that figures tell, the lowest first -/
def val (b : Int) : List Int → Int
  | [] => 0
  | d :: r => d + b * val b r
theorem val_drop {b : Int} {ds : List Int} {j : Nat} {d : Int} (h : ds[j]? = some d) : val b (ds.drop j) = val b (ds.drop (j + 1)) * b + d := by
  have hj := (List.getElem?_eq_some_iff.mp h).1
  have e : ds.drop j = d :: ds.drop (j + 1) := by
    rw [List.drop_eq_getElem_cons hj]
    congr 1
    exact (List.getElem?_eq_some_iff.mp h).2
  rw [e]
  show d + b * val b (ds.drop (j + 1)) = _
  rw [Int.mul_comm, Int.add_comm]
def spTold (K : PySem.W.Frag) : Sp := fun vs H Q _ => ∃ (b : Int) (a : Addr) (ds : List Int), vs = [.int b, .ref a] ∧ SqT K H a (ds.map V.int) ∧ -(2 ^ 64) < b ∧ b < 2 ^ 64 ∧ Q (.int (val b ds)) H
/-- so many figures of a number -/
def digs (b : Int) (n : Int) : Nat → List Int
  | 0 => []
  | k + 1 => n % b :: digs b (n / b) k
/-- n by the base, so many times -/
def shr (b : Int) (n : Int) : Nat → Int
  | 0 => n
  | k + 1 => shr b n k / b
theorem digs_end (b n : Int) : ∀ k, digs b n (k + 1) = digs b n k ++ [shr b n k % b] := by
  have shr_in : ∀ k n, shr b n (k + 1) = shr b (n / b) k := by
    intro k
    induction k with
    | zero => intro n; rfl
    | succ k ih =>
      intro n
      show shr b n (k + 1) / b = shr b (n / b) k / b
      rw [ih n]
  intro k
  induction k generalizing n with
  | zero => rfl
  | succ k ih =>
    show n % b :: digs b (n / b) (k + 1) = (n % b :: digs b (n / b) k) ++ [shr b n (k + 1) % b]
    rw [ih, shr_in k n]
    rfl
theorem digs_len (b n : Int) (k : Nat) : (digs b n k).length = k := by
  induction k generalizing n with
  | zero => rfl
  | succ k ih =>
    show (digs b (n / b) k).length + 1 = k + 1
    rw [ih]
/-- a new tuple of these ints -/
def NewT (H : Hp) (Q : VK) (ns : List Int) : Prop := ∀ p H', Same H H' → H p = none → H' p = some (.tup (ns.map V.int)) → Q (.ref p) H'
def spFigures_of : Sp := fun vs H Q _ => ∃ (b n m : Int), vs = [.int b, .int n, .int m] ∧ 0 < b ∧ b < 2 ^ 20 ∧ 0 ≤ m ∧ m ≤ 1000 ∧ NewT H Q (digs b n m.toNat)
def spPower : Sp := fun vs H Q _ => ∃ (b m : Int), vs = [.int b, .int m] ∧ -(2 ^ 64) < b ∧ b < 2 ^ 64 ∧ 0 ≤ m ∧ m < 2 ^ 62 ∧ Q (.int (b ^ m.toNat)) H
/-- the drawing state: a list of a number, the cells' list, a number -/
def DrawAt (H : Hp) (a c : Addr) : Prop := ∃ (s i : Int) (cells : List Int), H a = some (.lst [.int s, .ref c, .int i]) ∧ H c = some (.lst (cells.map V.int)) ∧ 0 ≤ s ∧ 0 ≤ i ∧ cells.length ≤ 63
theorem DrawAt.ne {H : Hp} {a c : Addr} (h : DrawAt H a c) : a ≠ c := by
  obtain ⟨s, i, cells, ha, hc, _⟩ := h
  refine ne_of ha hc fun z => ?_
  have e := HO.lst.inj z
  match cells, e with
  | [], e => cases e
  | [_], e => cases e
  | _ :: y :: r, e =>
    have e2 := (List.cons.inj (List.cons.inj e).2).1
    cases e2
theorem DrawAt.tn {H H' : Hp} {a c : Addr} (h : DrawAt H a c) (k : Kp a c H H') : Tn H H' := by
  obtain ⟨s, i, cells, ha, hc, _⟩ := h
  exact k.tn ha hc
theorem DrawAt.same {H H' : Hp} {a c : Addr} (h : DrawAt H a c) (k : Same H H') : DrawAt H' a c := by
  obtain ⟨s, i, cells, ha, hc, h0⟩ := h
  exact ⟨s, i, cells, k _ _ ha, k _ _ hc, h0⟩
def spNext : Sp := fun vs H Q _ => ∃ (a c : Addr) (m : Int), vs = [.ref a, .int m] ∧ DrawAt H a c ∧ 0 < m ∧ m < 2 ^ 30 ∧ ∀ (r : Int) (H' : Hp), 0 ≤ r → r < m → DrawAt H' a c → Kp a c H H' → Tn H H' → Q (.int r) H'
theorem val_append (b : Int) (xs ys : List Int) : val b (xs ++ ys) = val b xs + b ^ xs.length * val b ys := by
  induction xs with
  | nil =>
    show val b ys = 0 + b ^ 0 * val b ys
    rw [Int.pow_zero, Int.one_mul, Int.zero_add]
  | cons x r ih =>
    show x + b * val b (r ++ ys) = x + b * val b r + b ^ (r.length + 1) * val b ys
    rw [ih, Int.mul_add, Int.pow_succ, Int.add_assoc, Int.mul_comm (b ^ r.length) b, Int.mul_assoc]
theorem val_take {b : Int} {ds : List Int} {i : Nat} {d : Int} (h : ds[i]? = some d) : val b (ds.take (i + 1)) = val b (ds.take i) + d * b ^ i := by
  have hi := (List.getElem?_eq_some_iff.mp h).1
  rw [List.take_add_one, h]
  show val b (ds.take i ++ [d]) = _
  rw [val_append, List.length_take, Nat.min_eq_left (Nat.le_of_lt hi)]
  show val b (ds.take i) + b ^ i * (d + b * 0) = _
  rw [Int.mul_zero, Int.add_zero, Int.mul_comm]
def spNumber (K : PySem.W.Frag) : Sp := fun vs H Q _ => ∃ (b : Int) (a : Addr) (ds : List Int), vs = [.int b, .ref a] ∧ SqT K H a (ds.map V.int) ∧ ds.length ≤ 1000 ∧ (∀ d ∈ ds, 0 ≤ d ∧ d < 2 ^ 60) ∧ -(2 ^ 64) < b ∧ b < 2 ^ 64 ∧ Q (.int (val b ds)) H
def rowOf (b n : Int) (m : Nat) : List Int := (List.range m).map fun k => n / b ^ k % b
theorem pow_pos {b : Int} (h : 0 < b) : ∀ k : Nat, 0 < b ^ k
  | 0 => by rw [Int.pow_zero]; decide
  | k + 1 => by rw [Int.pow_succ]; exact Int.mul_pos (pow_pos h k) h
theorem pow_bits {b : Int} (h : 0 < b) (h2 : b ≤ 16) : ∀ k : Nat, (b ^ k).natAbs < 2 ^ (4 * k + 1)
  | 0 => by rw [Int.pow_zero]; decide
  | k + 1 => by
    have ih := pow_bits h h2 k
    rw [Int.pow_succ, Int.natAbs_mul]
    have e : 2 ^ (4 * (k + 1) + 1) = 2 ^ (4 * k + 1) * 16 := by rw [show 4 * (k + 1) + 1 = 4 * k + 1 + 4 by omega, Nat.pow_add]
    rw [e]
    have hb : b.natAbs ≤ 16 := by omega
    have h1 : (b ^ k).natAbs * b.natAbs ≤ (b ^ k).natAbs * 16 := Nat.mul_le_mul_left _ hb
    omega
def spRow : Sp := fun vs H Q _ => ∃ (b n m : Int), vs = [.int b, .int n, .int m] ∧ 0 < b ∧ b ≤ 16 ∧ 0 ≤ m ∧ m ≤ 1000 ∧ NewT H Q (rowOf b n m.toNat)
def spFigures : Sp := fun vs H Q _ => ∃ (a c : Addr) (b m : Int), vs = [.ref a, .int b, .int m] ∧ DrawAt H a c ∧ 0 < b ∧ b < 2 ^ 30 ∧ 0 ≤ m ∧ m ≤ 1000 ∧
  ∀ (ds : List Int) p H', ds.length = m.toNat → (∀ d ∈ ds, 0 ≤ d ∧ d < b) → DrawAt H' a c → Kp a c H H' → Tn H H' → H' p = some (.tup (ds.map V.int)) → Q (.ref p) H'
def spLaw (K : PySem.W.Frag) : Sp := fun vs H Q _ => ∃ (a : Addr) (ns : List Int), vs = [.ref a] ∧ SqL K H a (ns.map V.int) ∧ ns.length ≤ 63 ∧ ∀ H', Q (.bl true) H'
/-! figures and numbers -/
theorem digs_val {b : Int} (hb : 0 < b) (t : Int) : ∀ ds : List Int, (∀ d ∈ ds, 0 ≤ d ∧ d < b) → digs b (val b ds + b ^ ds.length * t) ds.length = ds
  | [], _ => rfl
  | d :: r, h => by
    obtain ⟨h0, h1⟩ := h d List.mem_cons_self
    have ih := digs_val hb t r fun x hx => h x (List.mem_cons_of_mem _ hx)
    have e : val b (d :: r) + b ^ (d :: r).length * t = d + b * (val b r + b ^ r.length * t) := by
      show d + b * val b r + b ^ (r.length + 1) * t = _
      rw [Int.pow_succ, Int.mul_add, Int.mul_comm (b ^ r.length) b, Int.mul_assoc, Int.add_assoc]
    rw [e]
    show (d + b * (val b r + b ^ r.length * t)) % b :: digs b ((d + b * (val b r + b ^ r.length * t)) / b) r.length = d :: r
    rw [Int.add_mul_emod_self_left, Int.emod_eq_of_lt h0 h1, Int.add_mul_ediv_left _ _ (by omega), Int.ediv_eq_zero_of_lt h0 h1, Int.zero_add, ih]
theorem digs_row {b : Int} (hb : 0 < b) (n : Int) (m : Nat) : digs b n m = rowOf b n m := by
  have shr_eq : ∀ k, shr b n k = n / b ^ k := by
    intro k
    induction k with
    | zero => rw [Int.pow_zero, Int.ediv_one]; rfl
    | succ k ih =>
      show shr b n k / b = _
      rw [ih, Int.pow_succ, Int.ediv_ediv_of_nonneg (Int.le_of_lt (pow_pos hb k))]
  induction m with
  | zero => rfl
  | succ m ih =>
    rw [digs_end, ih, shr_eq]
    unfold rowOf
    rw [List.range_succ, List.map_append]
    rfl
theorem val_zeros (b : Int) (ds : List Int) : val b (ds ++ [0, 0]) = val b ds := by
  rw [val_append]
  show val b ds + b ^ ds.length * (0 + b * (0 + b * 0)) = _
  rw [Int.mul_zero, Int.add_zero, Int.mul_zero, Int.add_zero, Int.mul_zero, Int.add_zero]
end My
set_option Elab.async false
set_option linter.all false
set_option maxRecDepth 100000
set_option maxHeartbeats 4000000
/-! carries: what stays true while levers are done -/
namespace My
open PySem PySem.Spec L2 RT Rn
/-- one if true -/
def one (x : Bool) : Int := if x then 1 else 0
/-- the carry that came to wheel k -/
def cin (d : Nat → Bool) : Nat → Int
  | 0 => 0
  | k + 1 => one (d k)
theorem one_01 (x : Bool) : one x = 0 ∨ one x = 1 := by cases x <;> simp [one]
theorem cin_01 (d : Nat → Bool) (k : Nat) : cin d k = 0 ∨ cin d k = 1 := by
  cases k with
  | zero => exact .inl rfl
  | succ k => exact one_01 _
def vk (way : Int) (w F : Nat → Int) (d : Nat → Bool) (k : Nat) : Int := w k + way * (F k + cin d k)
def InR (b v : Int) : Prop := 0 ≤ v ∧ v < b
structure Wn (b way : Int) (n : Nat) (w F : Nat → Int) : Prop where
  b2 : 2 ≤ b
  way1 : way = 1 ∨ way = -1
  w0 : ∀ k, k < n → 0 ≤ w k ∧ w k < b
  F0 : ∀ k, k < n → 0 ≤ F k ∧ F k < b
/-- the wheels and levers behind the carries of d -/
structure Cs (b way : Int) (n : Nat) (w F : Nat → Int) (d : Nat → Bool) (row L : List Int) : Prop where
  len : row.length = n
  eq : ∀ k, k < n → row[k]? = some (vk way w F d k % b)
  lev : ∀ l : Int, l ∈ L ↔ ∃ k : Nat, k < n ∧ l = (k : Int) ∧ ¬ InR b (vk way w F d k) ∧ d k = false
  dle : ∀ k, k < n → d k = true → ¬ InR b (vk way w F d k)
  up : L.Pairwise (· < ·)
def setD (d : Nat → Bool) (k : Nat) : Nat → Bool := fun j => if j = k then true else d j
theorem setD_same (d : Nat → Bool) (k : Nat) : setD d k k = true := by simp [setD]
theorem setD_ne (d : Nat → Bool) {k j : Nat} (h : j ≠ k) : setD d k j = d j := by simp [setD, h]
theorem vk_ne {way : Int} {w F : Nat → Int} {d : Nat → Bool} {k j : Nat} (h : j ≠ k + 1) : vk way w F (setD d k) j = vk way w F d j := by
  unfold vk
  cases j with
  | zero => rfl
  | succ j =>
    show w (j + 1) + way * (F (j + 1) + one (setD d k j)) = _
    rw [setD_ne d (by omega)]
    rfl
theorem vk_next {way : Int} {w F : Nat → Int} {d : Nat → Bool} {k : Nat} (h : d k = false) : vk way w F (setD d k) (k + 1) = vk way w F d (k + 1) + way := by
  unfold vk
  show w (k + 1) + way * (F (k + 1) + one (setD d k k)) = w (k + 1) + way * (F (k + 1) + one (d k)) + way
  rw [setD_same, h]
  show w (k + 1) + way * (F (k + 1) + 1) = w (k + 1) + way * (F (k + 1) + 0) + way
  rw [Int.add_zero, Int.mul_add, Int.mul_one, Int.add_assoc]
theorem mod_in {b v : Int} (h : InR b v) : v % b = v := Int.emod_eq_of_lt h.1 h.2
/-- one wheel: what it shows and whether it went round -/
theorem wheel_eq {b way w F c : Int} (hb : 2 ≤ b) (hw : way = 1 ∨ way = -1) (h1 : 0 ≤ w ∧ w < b) (h2 : 0 ≤ F ∧ F < b) (hc : c = 0 ∨ c = 1) :
    (InR b (w + way * (F + c)) ∧ (w + way * (F + c)) % b = w + way * (F + c)) ∨ (¬ InR b (w + way * (F + c)) ∧ (w + way * (F + c)) % b = w + way * (F + c) - way * b) := by
  by_cases h : InR b (w + way * (F + c))
  · exact .inl ⟨h, mod_in h⟩
  · refine .inr ⟨h, ?_⟩
    have h' : ¬ (0 ≤ w + way * (F + c) ∧ w + way * (F + c) < b) := h
    rcases hw with e | e <;> subst e
    · rw [Int.one_mul] at h' ⊢
      have e : (w + (F + c)) % b = (w + (F + c) - b) % b := by rw [Int.sub_emod_right]
      rw [e, Int.one_mul]
      exact Int.emod_eq_of_lt (by omega) (by omega)
    · have e : (w + -1 * (F + c)) % b = (w + -1 * (F + c) + b) % b := by rw [Int.add_emod_right]
      rw [e, show w + -1 * (F + c) - -1 * b = w + -1 * (F + c) + b by omega]
      exact Int.emod_eq_of_lt (by omega) (by omega)
/-- the next wheel, gone on by one more -/
theorem wheel_next {b way w F : Int} (hb : 2 ≤ b) (hw : way = 1 ∨ way = -1) (h1 : 0 ≤ w ∧ w < b) (h2 : 0 ≤ F ∧ F < b) :
    (InR b (w + way * (F + 0)) ∧ (InR b (w + way * (F + 0) + way) ↔ InR b ((w + way * (F + 0)) % b + way))) ∨ (¬ InR b (w + way * (F + 0)) ∧ ¬ InR b (w + way * (F + 0) + way) ∧ InR b ((w + way * (F + 0)) % b + way)) := by
  rcases wheel_eq hb hw h1 h2 (.inl rfl : (0 : Int) = 0 ∨ (0 : Int) = 1) with ⟨h, e⟩ | ⟨h, e⟩
  · exact .inl ⟨h, by rw [e]⟩
  · refine .inr ⟨h, ?_⟩
    rw [e]
    unfold InR at h ⊢
    rcases hw with e | e <;> subst e <;> omega
theorem Cs.step {b way : Int} {n : Nat} {w F : Nat → Int} {d : Nat → Bool} {row L L' : List Int} {k : Nat} {x : Int} (N : Wn b way n w F) (C : Cs b way n w F d row L) (hk : (k : Int) ∈ L) (hk1 : k + 1 < n) (hx : row[k + 1]? = some x)
    (hL : ∀ l, l ∈ L' ↔ (l ∈ L ∧ l ≠ (k : Int)) ∨ (l = (k : Int) + 1 ∧ ¬ InR b (x + way))) (up : L'.Pairwise (· < ·)) : Cs b way n w F (setD d k) (row.set (k + 1) ((x + way) % b)) L' := by
  obtain ⟨k', hk', ek, hr, hd⟩ := (C.lev _).mp hk
  have ekk : k' = k := by omega
  subst ekk
  have ex : x = vk way w F d (k' + 1) % b := Option.some.inj (hx.symm.trans (C.eq (k' + 1) hk1))
  have hc : cin d (k' + 1) = 0 := by show one (d k') = 0; rw [hd]; rfl
  have hv : vk way w F d (k' + 1) = w (k' + 1) + way * (F (k' + 1) + 0) := by unfold vk; rw [hc]
  have nx := wheel_next N.b2 N.way1 (N.w0 _ hk1) (N.F0 _ hk1)
  rw [← hv, ← ex] at nx
  have hv' := vk_next (way := way) (w := w) (F := F) hd
  refine ⟨by rw [List.length_set]; exact C.len, fun j hj => ?_, fun l => ?_, fun j hj hdj => ?_, up⟩
  · by_cases ej : j = k' + 1
    · subst ej
      rw [List.getElem?_set_self (by rw [C.len]; exact hj), hv', ex, Int.emod_add_emod]
    · rw [List.getElem?_set_ne (Ne.symm ej), C.eq j hj, vk_ne ej]
  · rw [hL l, C.lev l]
    constructor
    · rintro (⟨⟨j, hj, e, hr', hd'⟩, hne⟩ | ⟨e, hr'⟩)
      · have hjk : j ≠ k' := fun z => hne (by rw [e, z])
        refine ⟨j, hj, e, ?_, by rw [setD_ne d hjk]; exact hd'⟩
        by_cases ej : j = k' + 1
        · subst ej
          rw [hv']
          rcases nx with ⟨a, _⟩ | ⟨_, a, _⟩
          · exact absurd a hr'
          · exact a
        · rw [vk_ne ej]
          exact hr'
      · refine ⟨k' + 1, hk1, by omega, ?_, ?_⟩
        · rw [hv']
          rcases nx with ⟨_, a⟩ | ⟨_, a, _⟩
          · exact fun z => hr' (a.mp z)
          · exact a
        · rw [setD_ne d (by omega)]
          cases e2 : d (k' + 1) with
          | false => rfl
          | true =>
            have := C.dle _ hk1 e2
            rcases nx with ⟨a, _⟩ | ⟨_, _, a⟩
            · exact absurd a this
            · exact absurd a hr'
    · rintro ⟨j, hj, e, hr', hd'⟩
      have hjk : j ≠ k' := fun z => by rw [z, setD_same] at hd'; cases hd'
      rw [setD_ne d hjk] at hd'
      by_cases ej : j = k' + 1
      · subst ej
        rw [hv'] at hr'
        rcases nx with ⟨a, a2⟩ | ⟨a, _, _⟩
        · exact .inr ⟨by omega, fun z => hr' (a2.mpr z)⟩
        · exact .inl ⟨⟨_, hj, e, a, hd'⟩, by omega⟩
      · rw [vk_ne ej] at hr'
        exact .inl ⟨⟨j, hj, e, hr', hd'⟩, by omega⟩
  · by_cases ej : j = k' + 1
    · subst ej
      rw [hv']
      rw [setD_ne d (by omega)] at hdj
      have := C.dle _ hj hdj
      rcases nx with ⟨a, _⟩ | ⟨_, a, _⟩
      · exact absurd a this
      · exact a
    · rw [vk_ne ej]
      by_cases ek : j = k'
      · rw [ek]; exact hr
      · rw [setD_ne d ek] at hdj
        exact C.dle j hj hdj
theorem Cs.last {b way : Int} {n : Nat} {w F : Nat → Int} {d : Nat → Bool} {row L L' : List Int} {k : Nat} (C : Cs b way n w F d row L) (hk : (k : Int) ∈ L) (hk1 : n ≤ k + 1)
    (hL : ∀ l, l ∈ L' ↔ l ∈ L ∧ l ≠ (k : Int)) (up : L'.Pairwise (· < ·)) : Cs b way n w F (setD d k) row L' := by
  obtain ⟨k', hk', ek, hr, hd⟩ := (C.lev _).mp hk
  have ekk : k' = k := by omega
  subst ekk
  refine ⟨C.len, fun j hj => by rw [C.eq j hj, vk_ne (by omega)], fun l => ?_, fun j hj hdj => ?_, up⟩
  · rw [hL l, C.lev l]
    constructor
    · rintro ⟨⟨j, hj, e, hr', hd'⟩, hne⟩
      exact ⟨j, hj, e, by rw [vk_ne (by omega)]; exact hr', by rw [setD_ne d (fun z => hne (by rw [e, z]))]; exact hd'⟩
    · rintro ⟨j, hj, e, hr', hd'⟩
      have hjk : j ≠ k' := fun z => by rw [z, setD_same] at hd'; cases hd'
      rw [setD_ne d hjk] at hd'
      rw [vk_ne (by omega)] at hr'
      exact ⟨⟨j, hj, e, hr', hd'⟩, by omega⟩
  · rw [vk_ne (by omega)]
    by_cases ek : j = k'
    · rw [ek]; exact hr
    · rw [setD_ne d ek] at hdj
      exact C.dle j hj hdj
/-- sums of figures -/
def sumN (b : Int) (f : Nat → Int) : Nat → Int
  | 0 => 0
  | k + 1 => sumN b f k + f k * b ^ k
theorem val_sum (b : Int) (ds : List Int) : ∀ i, i ≤ ds.length → val b (ds.take i) = sumN b (fun k => ds.getD k 0) i
  | 0, _ => by rw [List.take_zero]; rfl
  | i + 1, h => by
    have hx : ds[i]? = some ds[i] := List.getElem?_eq_getElem h
    rw [val_take hx, val_sum b ds i (by omega)]
    show _ = sumN b _ i + ds.getD i 0 * b ^ i
    rw [List.getD_eq_getElem?_getD, hx]
    rfl
theorem val_all (b : Int) (ds : List Int) : val b ds = sumN b (fun k => ds.getD k 0) ds.length := by
  have h := val_sum b ds ds.length (Nat.le_refl _)
  rw [List.take_length] at h
  exact h
theorem sum_congr {b : Int} {f g : Nat → Int} : ∀ {n : Nat}, (∀ k, k < n → f k = g k) → sumN b f n = sumN b g n
  | 0, _ => rfl
  | n + 1, h => by
    show sumN b f n + f n * b ^ n = sumN b g n + g n * b ^ n
    rw [sum_congr fun k hk => h k (by omega), h n (by omega)]
theorem sum_way {b way : Int} {f g : Nat → Int} : ∀ n : Nat, sumN b (fun k => f k + way * g k) n = sumN b f n + way * sumN b g n
  | 0 => by show (0 : Int) = 0 + way * 0; rw [Int.mul_zero]; rfl
  | n + 1 => by
    show sumN b (fun k => f k + way * g k) n + (f n + way * g n) * b ^ n = sumN b f n + f n * b ^ n + way * (sumN b g n + g n * b ^ n)
    rw [sum_way n, Int.add_mul, Int.mul_add, Int.mul_assoc]
    omega
theorem val_bounds {b : Int} (hb : 0 < b) : ∀ ds : List Int, (∀ d ∈ ds, 0 ≤ d ∧ d < b) → 0 ≤ val b ds ∧ val b ds < b ^ ds.length
  | [], _ => by
    show (0 : Int) ≤ 0 ∧ (0 : Int) < b ^ 0
    rw [Int.pow_zero]
    decide
  | d :: r, h => by
    obtain ⟨h0, h1⟩ := h d List.mem_cons_self
    obtain ⟨i0, i1⟩ := val_bounds hb r fun x hx => h x (List.mem_cons_of_mem _ hx)
    show 0 ≤ d + b * val b r ∧ d + b * val b r < b ^ (r.length + 1)
    rw [Int.pow_succ]
    have e : b * val b r ≤ b * (b ^ r.length - 1) := Int.mul_le_mul_of_nonneg_left (by omega) (by omega)
    have e2 : 0 ≤ b * val b r := Int.mul_nonneg (by omega) i0
    rw [Int.mul_sub, Int.mul_one, Int.mul_comm b (b ^ r.length)] at e
    omega
/-- all levers done: the number -/
theorem Cs.done {b way : Int} {n : Nat} {w F : Nat → Int} {d : Nat → Bool} {row : List Int} (N : Wn b way n w F) (C : Cs b way n w F d row []) :
    (∀ x ∈ row, 0 ≤ x ∧ x < b) ∧ val b row = (sumN b w n + way * sumN b F n) % b ^ n ∧ (cin d n = 1 ↔ ¬ InR (b ^ n) (sumN b w n + way * sumN b F n)) := by
  have hb : 0 < b := by have := N.b2; omega
  have rowb : ∀ x ∈ row, 0 ≤ x ∧ x < b := fun x hx => by
    obtain ⟨k, hk, e⟩ := List.getElem_of_mem hx
    have q := C.eq k (by rw [← C.len]; exact hk)
    rw [List.getElem?_eq_getElem hk, e] at q
    rw [Option.some.inj q]
    exact ⟨Int.emod_nonneg _ (by omega), Int.emod_lt_of_pos _ hb⟩
  have full : ∀ k, k < n → vk way w F d k = vk way w F d k % b + way * b * one (d k) := fun k hk => by
    have we := wheel_eq N.b2 N.way1 (N.w0 k hk) (N.F0 k hk) (cin_01 d k)
    rw [show w k + way * (F k + cin d k) = vk way w F d k from rfl] at we
    cases e : d k with
    | true =>
      have := C.dle k hk e
      rcases we with ⟨a, _⟩ | ⟨_, a⟩
      · exact absurd a this
      · show _ = _ + way * b * 1
        rw [a]
        omega
    | false =>
      rcases we with ⟨_, a⟩ | ⟨a, _⟩
      · show _ = _ + way * b * 0
        rw [a]
        omega
      · exact absurd ((C.lev k).mpr ⟨k, hk, rfl, a, e⟩) (List.not_mem_nil)
  have sums : ∀ m, m ≤ n → sumN b w m + way * sumN b F m = sumN b (fun k => vk way w F d k % b) m + way * b ^ m * cin d m := by
    intro m
    induction m with
    | zero => intro _; show (0 : Int) + way * 0 = 0 + way * b ^ 0 * 0; omega
    | succ m ih =>
      intro hm
      have h1 := ih (by omega)
      have h2 := full m (by omega)
      have hv : vk way w F d m = w m + way * F m + way * cin d m := by unfold vk; rw [Int.mul_add, Int.add_assoc]
      show sumN b w m + w m * b ^ m + way * (sumN b F m + F m * b ^ m) = sumN b (fun k => vk way w F d k % b) m + vk way w F d m % b * b ^ m + way * b ^ (m + 1) * one (d m)
      have e1 : vk way w F d m % b = w m + way * F m + way * cin d m - way * b * one (d m) := by omega
      rw [e1, Int.pow_succ, Int.mul_add]
      have e2 : (w m + way * F m + way * cin d m - way * b * one (d m)) * b ^ m = w m * b ^ m + way * (F m * b ^ m) + way * b ^ m * cin d m - way * (b ^ m * b) * one (d m) := by
        rw [Int.sub_mul, Int.add_mul, Int.add_mul]
        congr 1
        · congr 1
          · rw [Int.mul_assoc]
          · rw [Int.mul_assoc, Int.mul_assoc, Int.mul_comm (cin d m)]
        · simp only [Int.mul_comm, Int.mul_left_comm, Int.mul_assoc]
      rw [e2]
      omega
  have hs := sums n (Nat.le_refl _)
  have er : val b row = sumN b (fun k => vk way w F d k % b) n := by
    rw [val_all, C.len]
    refine sum_congr fun k hk => ?_
    rw [List.getD_eq_getElem?_getD, C.eq k hk]
    rfl
  obtain ⟨v0, v1⟩ := val_bounds hb row rowb
  rw [C.len] at v1
  rw [← er] at hs
  refine ⟨rowb, ?_, ?_⟩
  · rw [hs, show way * b ^ n * cin d n = b ^ n * (way * cin d n) by rw [Int.mul_comm way, Int.mul_assoc], Int.add_mul_emod_self_left, Int.emod_eq_of_lt v0 v1]
  · rw [hs]
    unfold InR
    rcases cin_01 d n with e | e <;> rw [e] <;> rcases N.way1 with z | z <;> subst z <;> omega
end My
set_option Elab.async false
set_option linter.all false
set_option maxRecDepth 100000
set_option maxHeartbeats 4000000
/-! machines, stands: promises of the wheels' defs -/
namespace My
open PySem PySem.Spec L2 RT Rn
structure Mach (b s w c : Int) : Prop where
  b0 : 2 ≤ b
  b1 : b ≤ 12
  s0 : 1 ≤ s
  s1 : s ≤ 6
  w0 : s ≤ w
  w1 : w ≤ 16
  c0 : 1 ≤ c
  c1 : c ≤ 10
/-- a machine stands at m -/
def MachAt (K : PySem.W.Frag) (H : Hp) (m : Addr) (b s w c : Int) : Prop := SqT K H m [.int b, .int s, .int w, .int c]
def spNeed (K : PySem.W.Frag) : Sp := fun vs H Q _ => ∃ (m : Addr) (b s w c : Int), vs = [.ref m] ∧ MachAt K H m b s w c ∧ Mach b s w c ∧ Q .non H
def spGone : Sp := fun vs H Q _ => ∃ (b f y : Int), vs = [.int b, .int f, .int y] ∧ 0 < b ∧ ∀ (r : Bool) p H', (r = true ↔ ¬ InR b (f + y)) → H p = none → Same H H' → H' p = some (.tup [.int ((f + y) % b), .bl r]) → Q (.ref p) H'
/-- a stand stands at t: the setting, the place, the wheels, what stands for the counts -/
structure StAt (K : PySem.W.Frag) (H : Hp) (t : Addr) (S W C : List Int) (p : Int) : Prop where
  ex : ∃ a1 a2 a3 : Addr, SqT K H t [.ref a1, .int p, .ref a2, .ref a3] ∧ SqT K H a1 (S.map V.int) ∧ SqT K H a2 (W.map V.int) ∧ SqT K H a3 (C.map V.int)
theorem StAt.tn {K : PySem.W.Frag} {H H' : Hp} {t : Addr} {S W C : List Int} {p : Int} (h : StAt K H t S W C p) (e : Tn H H') : StAt K H' t S W C p := by
  obtain ⟨a1, a2, a3, h0, h1, h2, h3⟩ := h
  exact ⟨a1, a2, a3, SqT.tn e h0, SqT.tn e h1, SqT.tn e h2, SqT.tn e h3⟩
def Figs (b : Int) (ds : List Int) : Prop := ∀ d ∈ ds, 0 ≤ d ∧ d < b
structure Stand (b s w c : Int) (S W C : List Int) (p : Int) : Prop where
  ls : S.length = s.toNat
  lw : W.length = w.toNat
  lc : C.length = c.toNat
  fs : Figs b S
  fw : Figs b W
  fc : Figs b C
  p0 : 0 ≤ p
  p1 : p + s ≤ w
  p2 : p < c
def wN (W : List Int) : Nat → Int := fun k => W.getD k 0
def fN (p : Int) (S : List Int) : Nat → Int := fun k => if p.toNat ≤ k then S.getD (k - p.toNat) 0 else 0
theorem Figs.getD {b : Int} {ds : List Int} (h : Figs b ds) (hb : 0 < b) (k : Nat) : 0 ≤ ds.getD k 0 ∧ ds.getD k 0 < b := by
  rw [List.getD_eq_getElem?_getD]
  cases e : ds[k]? with
  | none => exact ⟨Int.le_refl _, hb⟩
  | some x => exact h x (List.mem_of_getElem? e)
theorem Stand.wn {b s w c p way : Int} {S W C : List Int} (hb : 2 ≤ b) (hw : way = 1 ∨ way = -1) (T : Stand b s w c S W C p) : Wn b way w.toNat (wN W) (fN p S) :=
  ⟨hb, hw, fun k _ => T.fw.getD (by omega) k, fun k _ => by
    unfold fN
    split
    · exact T.fs.getD (by omega) _
    · omega⟩
instance (b v : Int) : Decidable (InR b v) := inferInstanceAs (Decidable (0 ≤ v ∧ v < b))
/-- some first slides done -/
structure Ps (b way : Int) (P : Nat) (w F : Nat → Int) (n i : Nat) (row L : List Int) : Prop where
  len : row.length = n
  eq : ∀ k, k < n → row[k]? = some (if P ≤ k ∧ k < P + i then (w k + way * F k) % b else w k)
  lev : ∀ l : Int, l ∈ L ↔ ∃ k : Nat, P ≤ k ∧ k < P + i ∧ l = (k : Int) ∧ ¬ InR b (w k + way * F k)
  up : L.Pairwise (· < ·)
theorem Ps.step {b way : Int} {P : Nat} {w F : Nat → Int} {n i : Nat} {row L L' : List Int} (C : Ps b way P w F n i row L) (hi : P + i < n)
    (hL : L' = if InR b (w (P + i) + way * F (P + i)) then L else L ++ [((P + i : Nat) : Int)]) : Ps b way P w F n (i + 1) (row.set (P + i) ((w (P + i) + way * F (P + i)) % b)) L' := by
  refine ⟨by rw [List.length_set]; exact C.len, fun k hk => ?_, fun l => ?_, ?_⟩
  · by_cases e : k = P + i
    · subst e
      rw [List.getElem?_set_self (by rw [C.len]; exact hk), if_pos ⟨by omega, by omega⟩]
    · rw [List.getElem?_set_ne (Ne.symm e), C.eq k hk]
      congr 1
      by_cases h : P ≤ k ∧ k < P + i
      · rw [if_pos h, if_pos ⟨h.1, by omega⟩]
      · rw [if_neg h, if_neg (by omega)]
  · rw [hL]
    by_cases h : InR b (w (P + i) + way * F (P + i))
    · rw [if_pos h, C.lev l]
      constructor
      · rintro ⟨k, h1, h2, e, h3⟩
        exact ⟨k, h1, by omega, e, h3⟩
      · rintro ⟨k, h1, h2, e, h3⟩
        have : k ≠ P + i := fun z => h3 (by rw [z]; exact h)
        exact ⟨k, h1, by omega, e, h3⟩
    · rw [if_neg h, List.mem_append, List.mem_singleton, C.lev l]
      constructor
      · rintro (⟨k, h1, h2, e, h3⟩ | e)
        · exact ⟨k, h1, by omega, e, h3⟩
        · exact ⟨P + i, by omega, by omega, e, h⟩
      · rintro ⟨k, h1, h2, e, h3⟩
        by_cases z : k = P + i
        · exact .inr (by rw [e, z])
        · exact .inl ⟨k, h1, by omega, e, h3⟩
  · rw [hL]
    split
    · exact C.up
    · rw [List.pairwise_append]
      refine ⟨C.up, List.pairwise_singleton _ _, fun a ha c hc => ?_⟩
      rw [List.mem_singleton.mp hc]
      obtain ⟨k, _, h2, e, _⟩ := (C.lev a).mp ha
      omega
theorem Ps.done {b s w c p way : Int} {S W C L row : List Int} (hb : 2 ≤ b) (hw : way = 1 ∨ way = -1) (hs : 0 ≤ s) (T : Stand b s w c S W C p) (Z : Ps b way p.toNat (wN W) (fN p S) w.toNat S.length row L) : Cs b way w.toNat (wN W) (fN p S) (fun _ => false) row L := by
  have hv : ∀ k, vk way (wN W) (fN p S) (fun _ => false) k = wN W k + way * fN p S k := fun k => by
    unfold vk
    have : cin (fun _ => false) k = 0 := by cases k <;> rfl
    rw [this, Int.add_zero]
  have out : ∀ k, ¬ (p.toNat ≤ k ∧ k < p.toNat + S.length) → fN p S k = 0 := fun k h => by
    unfold fN
    split
    · rw [List.getD_eq_getElem?_getD, List.getElem?_eq_none (by omega)]
      rfl
    · rfl
  have win : ∀ k, InR b (wN W k) := fun k => T.fw.getD (by omega) k
  have p0 := T.p0
  have p1 := T.p1
  have ls := T.ls
  refine ⟨Z.len, fun k hk => ?_, fun l => ?_, fun k _ h => (by cases h), Z.up⟩
  · rw [Z.eq k hk, hv]
    split
    · rfl
    · next h => rw [out k h, Int.mul_zero, Int.add_zero, mod_in (win k)]
  · rw [Z.lev l]
    constructor
    · rintro ⟨k, h1, h2, e, h3⟩
      exact ⟨k, by omega, e, by rw [hv]; exact h3, rfl⟩
    · rintro ⟨k, h1, e, h3, _⟩
      rw [hv] at h3
      by_cases h : p.toNat ≤ k ∧ k < p.toNat + S.length
      · exact ⟨k, h.1, h.2, e, h3⟩
      · rw [out k h, Int.mul_zero, Int.add_zero] at h3
        exact absurd (win k) h3
def spSpun (K : PySem.W.Frag) : Sp := fun vs H Q _ => ∃ (m t : Addr) (b s w c way p : Int) (S W C : List Int), vs = [.ref m, .ref t, .int way] ∧ MachAt K H m b s w c ∧ Mach b s w c ∧ StAt K H t S W C p ∧ Stand b s w c S W C p ∧ (way = 1 ∨ way = -1) ∧
  ∀ (z r l : Addr) (row L : List Int) (H' : Hp), Same H H' → H' z = some (.tup [.ref r, .ref l]) → H' r = some (.tup (row.map V.int)) → H l = none → H' l = some (.lst (L.map V.int)) → Ps b way p.toNat (wN W) (fN p S) w.toNat S.length row L → Q (.ref z) H'
/-- strictly rising numbers within bounds are few -/
theorem rising_few : ∀ {L : List Int} {lo hi : Int}, L.Pairwise (· < ·) → (∀ x ∈ L, lo ≤ x ∧ x < hi) → (L.length : Int) ≤ max 0 (hi - lo)
  | [], _, _, _, _ => by simp; omega
  | x :: r, lo, hi, hp, hx => by
    obtain ⟨h1, h2⟩ := List.pairwise_cons.mp hp
    have hx0 := hx x List.mem_cons_self
    have ih := rising_few (lo := x + 1) (hi := hi) h2 fun y hy => ⟨by have := h1 y hy; omega, (hx y (List.mem_cons_of_mem _ hy)).2⟩
    rw [List.length_cons]
    omega
theorem Cs.few {b way : Int} {n : Nat} {w F : Nat → Int} {d : Nat → Bool} {row L : List Int} (C : Cs b way n w F d row L) : L.length ≤ n := by
  have h := rising_few (lo := 0) (hi := n) C.up fun x hx => by
    obtain ⟨k, hk, e, _⟩ := (C.lev x).mp hx
    omega
  omega
def spCarried (K : PySem.W.Frag) : Sp := fun vs H Q _ => ∃ (m t l : Addr) (b s w c way : Int) (fw fF : Nat → Int) (d : Nat → Bool) (row L : List Int) (k : Nat), vs = [.ref m, .ref t, .ref l, .int (k : Int), .int way] ∧ MachAt K H m b s w c ∧ Mach b s w c ∧
  SqT K H t (row.map V.int) ∧ SqL K H l (L.map V.int) ∧ Wn b way w.toNat fw fF ∧ Cs b way w.toNat fw fF d row L ∧ (k : Int) ∈ L ∧
  ∀ (z r' l' : Addr) (row' L' : List Int) (H' : Hp), Same H H' → H' z = some (.tup [.ref r', .ref l', .bl (decide (w.toNat ≤ k + 1))]) → H' r' = some (.tup (row'.map V.int)) → H l' = none → H' l' = some (.lst (L'.map V.int)) → Cs b way w.toNat fw fF (setD d k) row' L' → Q (.ref z) H'
def spSettled (K : PySem.W.Frag) : Sp := fun vs H Q _ => ∃ (m t l o : Addr) (b s w c way : Int) (fw fF : Nat → Int) (row L os : List Int), vs = [.ref m, .ref t, .ref l, .ref o, .int way] ∧ MachAt K H m b s w c ∧ Mach b s w c ∧
  SqT K H t (row.map V.int) ∧ SqL K H l (L.map V.int) ∧ SqL K H o (os.map V.int) ∧ Wn b way w.toNat fw fF ∧ Cs b way w.toNat fw fF (fun _ => false) row L ∧
  ∀ (z r' : Addr) (row' : List Int) (d : Nat → Bool) (g : Bool) (H' : Hp), Same H H' → H' z = some (.tup [.ref r', .bl g]) → SqT K H' r' (row'.map V.int) → Cs b way w.toNat fw fF d row' [] → (g = true ↔ cin d w.toNat = 1) → Q (.ref z) H'
/-- how many levers are not done yet -/
def undone (d : Nat → Bool) : Nat → Nat
  | 0 => 0
  | n + 1 => undone d n + (if d n = true then 0 else 1)
theorem undone_far {d : Nat → Bool} {k : Nat} : ∀ {n : Nat}, n ≤ k → undone (setD d k) n = undone d n
  | 0, _ => rfl
  | n + 1, h => by
    show undone (setD d k) n + (if setD d k n = true then 0 else 1) = _
    rw [undone_far (by omega), setD_ne d (by omega)]
    rfl
theorem undone_step {d : Nat → Bool} {k : Nat} (hd : d k = false) : ∀ {n : Nat}, k < n → undone (setD d k) n + 1 = undone d n
  | n + 1, h => by
    show undone (setD d k) n + (if setD d k n = true then 0 else 1) + 1 = undone d n + (if d n = true then 0 else 1)
    by_cases e : k = n
    · subst e
      rw [undone_far (Nat.le_refl _), setD_same, hd]
      simp
    · have ih := undone_step hd (n := n) (by omega)
      rw [setD_ne d (Ne.symm e)]
      omega
theorem cin_set {d : Nat → Bool} {k n : Nat} (hk : k < n) : cin (setD d k) n = 1 ↔ (cin d n = 1 ∨ n ≤ k + 1) := by
  cases n with
  | zero => omega
  | succ n =>
    show one (setD d k n) = 1 ↔ (one (d n) = 1 ∨ n + 1 ≤ k + 1)
    by_cases e : n = k
    · subst e
      rw [setD_same]
      exact ⟨fun _ => .inr (Nat.le_refl _), fun _ => rfl⟩
    · rw [setD_ne d e]
      exact ⟨.inl, fun h => h.elim id fun z => by omega⟩
end My
set_option Elab.async false
set_option linter.all false
set_option maxRecDepth 100000
set_option maxHeartbeats 4000000
/-! what the laws draw -/
namespace My
open PySem PySem.Spec L2 RT Rn
theorem pick2 {x y : V} {r : Int} (h0 : 0 ≤ r) (h1 : r < 2) : atI [x, y] r = some (if r = 0 then x else y) := by
  rcases (show r = 0 ∨ r = 1 by omega) with rfl | rfl <;> rfl
theorem pick3 {x y z : V} {r : Int} (h0 : 0 ≤ r) (h1 : r < 3) : atI [x, y, z] r = some (if r = 0 then x else if r = 1 then y else z) := by
  rcases (show r = 0 ∨ r = 1 ∨ r = 2 by omega) with rfl | rfl | rfl <;> rfl
theorem pick4 {x y z u : V} {r : Int} (h0 : 0 ≤ r) (h1 : r < 4) : atI [x, y, z, u] r = some (if r = 0 then x else if r = 1 then y else if r = 2 then z else u) := by
  rcases (show r = 0 ∨ r = 1 ∨ r = 2 ∨ r = 3 by omega) with rfl | rfl | rfl | rfl <;> rfl
theorem pick2I {x y r : Int} (h0 : 0 ≤ r) (h1 : r < 2) : ∃ v, atI [V.int x, V.int y] r = some (.int v) ∧ (v = x ∨ v = y) := by
  rcases (show r = 0 ∨ r = 1 by omega) with rfl | rfl
  · exact ⟨x, rfl, .inl rfl⟩
  · exact ⟨y, rfl, .inr rfl⟩
theorem pick4I {x y z u r : Int} (h0 : 0 ≤ r) (h1 : r < 4) : ∃ v, atI [V.int x, V.int y, V.int z, V.int u] r = some (.int v) ∧ (v = x ∨ v = y ∨ v = z ∨ v = u) := by
  rcases (show r = 0 ∨ r = 1 ∨ r = 2 ∨ r = 3 by omega) with rfl | rfl | rfl | rfl
  · exact ⟨x, rfl, .inl rfl⟩
  · exact ⟨y, rfl, .inr (.inl rfl)⟩
  · exact ⟨z, rfl, .inr (.inr (.inl rfl))⟩
  · exact ⟨u, rfl, .inr (.inr (.inr rfl))⟩
/-- a draw leaves this behind -/
structure Drew (a c : Addr) (H H' : Hp) : Prop where
  dr : DrawAt H' a c
  kp : Kp a c H H'
  tn : Tn H H'
theorem Drew.trans {a c : Addr} {A B C : Hp} (x : Drew a c A B) (y : Drew a c B C) : Drew a c A C := ⟨y.dr, x.kp.trans y.kp, x.tn.trans y.tn⟩
theorem Drew.same {a c : Addr} {A B C : Hp} (x : Drew a c A B) (y : Same B C) : Drew a c A C := ⟨x.dr.same y, x.kp.trans y.kp, x.tn.trans y.tn⟩
theorem Drew.refl {a c : Addr} {H : Hp} (h : DrawAt H a c) : Drew a c H H := ⟨h, Kp.refl a c H, Tn.refl H⟩
/-- a new object stays through a draw -/
theorem Drew.keep {a c p : Addr} {A B C : Hp} {o : HO} (hA : DrawAt A a c) (hp : A p = none) (hB : B p = some o) (y : Drew a c B C) : C p = some o := by
  obtain ⟨s, i, cells, ha, hc, _⟩ := hA
  exact y.kp p _ hB (ne_of_none ha hp).symm (ne_of_none hc hp).symm
def spMachine : Sp := fun vs H Q _ => ∃ (a c : Addr) (n : Int), vs = [.ref a, .int n] ∧ DrawAt H a c ∧ 3 ≤ n ∧ n ≤ 12 ∧
  ∀ (b s w cc : Int) p H', Mach b s w cc → b ≤ n → Drew a c H H' → H' p = some (.tup [.int b, .int s, .int w, .int cc]) → Q (.ref p) H'
def spLTop (K : PySem.W.Frag) : Sp := fun vs H Q _ => ∃ (m : Addr) (b s w c : Int), vs = [.ref m] ∧ MachAt K H m b s w c ∧ Q (.int (min (w - s) (c - 1))) H
def spStand (K : PySem.W.Frag) : Sp := fun vs H Q _ => ∃ (a c m : Addr) (b s w cc : Int), vs = [.ref a, .ref m] ∧ DrawAt H a c ∧ MachAt K H m b s w cc ∧ Mach b s w cc ∧
  ∀ (S W C : List Int) (p : Int) t H', Stand b s w cc S W C p → Drew a c H H' → StAt K H' t S W C p → Q (.ref t) H'
end My
set_option Elab.async false
set_option linter.all false
set_option maxRecDepth 100000
set_option maxHeartbeats 4000000
/-! turns: the number that comes out -/
namespace My
open PySem PySem.Spec L2 RT Rn
theorem sum_zero {b : Int} {f : Nat → Int} : ∀ {n : Nat}, (∀ k, k < n → f k = 0) → sumN b f n = 0
  | 0, _ => rfl
  | n + 1, h => by
    show sumN b f n + f n * b ^ n = 0
    rw [sum_zero fun k hk => h k (by omega), h n (by omega), Int.zero_mul]
    rfl
theorem sum_add {b : Int} {f : Nat → Int} (P : Nat) : ∀ i : Nat, sumN b f (P + i) = sumN b f P + b ^ P * sumN b (fun k => f (P + k)) i
  | 0 => by show sumN b f P = sumN b f P + b ^ P * 0; rw [Int.mul_zero, Int.add_zero]
  | i + 1 => by
    show sumN b f (P + i) + f (P + i) * b ^ (P + i) = sumN b f P + b ^ P * (sumN b (fun k => f (P + k)) i + f (P + i) * b ^ i)
    rw [sum_add P i, Int.mul_add, Int.pow_add]
    have e : f (P + i) * (b ^ P * b ^ i) = b ^ P * (f (P + i) * b ^ i) := by simp only [Int.mul_comm, Int.mul_left_comm]
    rw [e]
    omega
theorem sum_fN {b p : Int} {S : List Int} {n : Nat} (hn : p.toNat + S.length ≤ n) : sumN b (fN p S) n = val b S * b ^ p.toNat := by
  obtain ⟨r, rfl⟩ : ∃ r, n = p.toNat + (S.length + r) := ⟨n - p.toNat - S.length, by omega⟩
  rw [sum_add, sum_zero (fun k hk => by unfold fN; rw [if_neg (by omega)]), sum_add, Int.zero_add]
  have e1 : sumN b (fun k => fN p S (p.toNat + k)) S.length = val b S := by
    rw [val_all]
    refine sum_congr fun k hk => ?_
    unfold fN
    rw [if_pos (by omega), show p.toNat + k - p.toNat = k by omega]
  have e2 : sumN b (fun k => fN p S (p.toNat + (S.length + k))) r = 0 := sum_zero fun k _ => by
    unfold fN
    rw [if_pos (by omega), List.getD_eq_getElem?_getD, List.getElem?_eq_none (by omega)]
    rfl
  rw [e1, e2, Int.mul_zero, Int.add_zero, Int.mul_comm]
theorem sum_wN (b : Int) (W : List Int) : sumN b (wN W) W.length = val b W := (val_all b W).symm
/-- the wheels' number behind a turn, not cut -/
def whole (b way p : Int) (S W : List Int) : Int := val b W + way * (val b S * b ^ p.toNat)
def wheelsOf (b way p w : Int) (S W : List Int) : List Int := digs b (whole b way p S W % b ^ w.toNat) w.toNat
def countsOf (b tally p c : Int) (C : List Int) : List Int := digs b ((val b C + tally * b ^ p.toNat) % b ^ c.toNat) c.toNat
theorem digs_figs {b : Int} (hb : 0 < b) : ∀ (n : Int) (k : Nat), Figs b (digs b n k)
  | n, 0 => fun d h => (List.not_mem_nil h).elim
  | n, k + 1 => fun d h => by
    rcases List.mem_cons.mp h with e | h
    · rw [e]
      exact ⟨Int.emod_nonneg _ (by omega), Int.emod_lt_of_pos _ hb⟩
    · exact digs_figs hb _ k d h
theorem digs_of_val {b : Int} (hb : 0 < b) {ds : List Int} (h : Figs b ds) : digs b (val b ds) ds.length = ds := by
  have e := digs_val hb 0 ds h
  rw [Int.mul_zero, Int.add_zero] at e
  exact e
theorem val_digs {b : Int} (hb : 0 < b) : ∀ (k : Nat) (n : Int), val b (digs b n k) = n % b ^ k
  | 0, n => by show (0 : Int) = n % b ^ 0; rw [Int.pow_zero, Int.emod_one]
  | k + 1, n => by
    show n % b + b * val b (digs b (n / b) k) = n % b ^ (k + 1)
    have hp := pow_pos hb k
    rw [val_digs hb k, Int.pow_succ]
    have h1 := Int.emod_nonneg (n / b) (show b ^ k ≠ 0 by omega)
    have h2 := Int.emod_lt_of_pos (n / b) hp
    have h3 := Int.emod_nonneg n (show b ≠ 0 by omega)
    have h4 := Int.emod_lt_of_pos n hb
    have e : n = n % b + b * ((n / b) % b ^ k) + (b ^ k * b) * (n / b / b ^ k) := by
      have a1 := Int.emod_add_mul_ediv n b
      have a2 := Int.emod_add_mul_ediv (n / b) (b ^ k)
      have a3 : b * (n / b) = b * ((n / b) % b ^ k) + b * (b ^ k * (n / b / b ^ k)) := by rw [← Int.mul_add, a2]
      have a4 : b * (b ^ k * (n / b / b ^ k)) = (b ^ k * b) * (n / b / b ^ k) := by simp only [Int.mul_comm, Int.mul_left_comm, Int.mul_assoc]
      omega
    have lo : 0 ≤ n % b + b * ((n / b) % b ^ k) := Int.add_nonneg h3 (Int.mul_nonneg (by omega) h1)
    have hi : n % b + b * ((n / b) % b ^ k) < b ^ k * b := by
      have z : b * ((n / b) % b ^ k) ≤ b * (b ^ k - 1) := Int.mul_le_mul_of_nonneg_left (by omega) (by omega)
      rw [Int.mul_sub, Int.mul_one, Int.mul_comm b (b ^ k)] at z
      omega
    generalize hX : n % b + b * ((n / b) % b ^ k) = x at e lo hi ⊢
    rw [e, Int.add_mul_emod_self_left, Int.emod_eq_of_lt lo hi]
/-- the end of a turn's carries, told by the whole number -/
theorem turn_end {b s w c p way : Int} {S W C row : List Int} {d : Nat → Bool} {g : Bool} (hm : Mach b s w c) (hst : Stand b s w c S W C p) (hw : way = 1 ∨ way = -1) (Z : Cs b way w.toNat (wN W) (fN p S) d row []) (hg : g = true ↔ cin d w.toNat = 1) :
    row = wheelsOf b way p w S W ∧ g = decide (¬ InR (b ^ w.toNat) (whole b way p S W)) := by
  have b2 := hm.b0
  have hb : 0 < b := by omega
  have p0 := hst.p0
  have p1 := hst.p1
  have ls := hst.ls
  have lw := hst.lw
  obtain ⟨h1, h2, h3⟩ := Z.done (hst.wn b2 hw)
  have e1 : sumN b (wN W) w.toNat = val b W := by rw [← lw]; exact sum_wN b W
  have s0 := hm.s0
  have e2 : sumN b (fN p S) w.toNat = val b S * b ^ p.toNat := sum_fN (by omega)
  rw [e1, e2] at h2 h3
  refine ⟨?_, ?_⟩
  · have z := digs_of_val hb h1
    rw [Z.len, h2] at z
    exact z.symm
  · cases g with
    | true => exact (decide_eq_true (h3.mp (hg.mp rfl))).symm
    | false =>
      refine (decide_eq_false fun hn => ?_).symm
      have := hg.mpr (h3.mpr hn)
      cases this
theorem Stand.turned {b s w c p way tally : Int} {S W C : List Int} (hm : Mach b s w c) (T : Stand b s w c S W C p) : Stand b s w c S (wheelsOf b way p w S W) (countsOf b tally p c C) p := by
  have b2 := hm.b0
  exact ⟨T.ls, digs_len _ _ _, digs_len _ _ _, T.fs, digs_figs (by omega) _ _, digs_figs (by omega) _ _, T.p0, T.p1, T.p2⟩
theorem pow_small {b : Int} (h : 0 < b) (h2 : b ≤ 16) {k : Nat} (hk : k ≤ 15) : 0 < b ^ k ∧ b ^ k < 2 ^ 61 := by
  have h1 := pow_pos h k
  have h3 := pow_bits h h2 k
  have h4 : (2 : Nat) ^ (4 * k + 1) ≤ 2 ^ 61 := Nat.pow_le_pow_right (by decide) (by omega)
  exact ⟨h1, by omega⟩
def spPPower : Sp := spPower
def spCounted (K : PySem.W.Frag) : Sp := fun vs H Q _ => ∃ (m t : Addr) (b s w c p tally : Int) (S W C : List Int), vs = [.ref m, .ref t, .int tally] ∧ MachAt K H m b s w c ∧ Mach b s w c ∧ StAt K H t S W C p ∧ Stand b s w c S W C p ∧ -1 ≤ tally ∧ tally ≤ 1 ∧ NewT H Q (countsOf b tally p c C)
/-- a stand and whether the bell rang, new at z -/
def Told2 (K : PySem.W.Frag) (H : Hp) (z : Addr) (S W C : List Int) (p : Int) (g : Bool) : Prop := ∃ t, H z = some (.tup [.ref t, .bl g]) ∧ StAt K H t S W C p
def spTurned (K : PySem.W.Frag) : Sp := fun vs H Q _ => ∃ (m t : Addr) (b s w c p way tally : Int) (S W C : List Int), vs = [.ref m, .ref t, .int way, .int tally] ∧ MachAt K H m b s w c ∧ Mach b s w c ∧ StAt K H t S W C p ∧ Stand b s w c S W C p ∧ (way = 1 ∨ way = -1) ∧ -1 ≤ tally ∧ tally ≤ 1 ∧
  ∀ z H', Same H H' → Told2 K H' z S (wheelsOf b way p w S W) (countsOf b tally p c C) p (decide (¬ InR (b ^ w.toNat) (whole b way p S W))) → Q (.ref z) H'
def spDone2 (K : PySem.W.Frag) : Sp := fun vs H Q _ => ∃ (m t d : Addr) (b s w c p way tally : Int) (S W C : List Int), vs = [.ref m, .ref t, .ref d] ∧ SqT K H d [.str "turn", .int way, .int tally] ∧ MachAt K H m b s w c ∧ Mach b s w c ∧ StAt K H t S W C p ∧ Stand b s w c S W C p ∧ (way = 1 ∨ way = -1) ∧ -1 ≤ tally ∧ tally ≤ 1 ∧
  ∀ z H', Same H H' → Told2 K H' z S (wheelsOf b way p w S W) (countsOf b tally p c C) p (decide (¬ InR (b ^ w.toNat) (whole b way p S W))) → Q (.ref z) H'
def spDue2 (K : PySem.W.Frag) : Sp := fun vs H Q _ => ∃ (m t : Addr) (b s w c p way tally : Int) (S W C : List Int), vs = [.ref m, .ref t, .int way, .int tally] ∧ MachAt K H m b s w c ∧ Mach b s w c ∧ StAt K H t S W C p ∧ Stand b s w c S W C p ∧ (way = 1 ∨ way = -1) ∧ -1 ≤ tally ∧ tally ≤ 1 ∧
  ∀ z H', Same H H' → Told2 K H' z S (wheelsOf b way p w S W) (countsOf b tally p c C) p (decide (¬ InR (b ^ w.toNat) (whole b way p S W))) → Q (.ref z) H'
/-- a stand as data -/
def stD (S W C : List Int) (p : Int) : PyData := .tuple [.tuple (S.map .int), .int p, .tuple (W.map .int), .tuple (C.map .int)]
def toldD (S W C : List Int) (p : Int) (g : Bool) : PyData := .tuple [stD S W C p, .bool g]
theorem stD_lays (S W C : List Int) (p : Int) : lays (stD S W C p) 3 := lays.tup (.cons (lays.tup (laysAll.ints S)) (.cons ((lays.int p).mono (by decide)) (.cons (lays.tup (laysAll.ints W)) (.cons (lays.tup (laysAll.ints C)) .nil))))
theorem toldD_lays (S W C : List Int) (p : Int) (g : Bool) : lays (toldD S W C p g) 4 := lays.tup (.cons (stD_lays S W C p) (.cons ((lays.bool g).mono (by decide)) .nil))
theorem StAt.dp {K : PySem.W.Frag} {H : Hp} {t : Addr} {S W C : List Int} {p : Int} (h : StAt K H t S W C p) : Dp K H (.ref t) (stD S W C p) := by
  obtain ⟨a1, a2, a3, h0, h1, h2, h3⟩ := h
  exact .tup h0 (.cons (dp_ints h1) (.cons (.int p) (.cons (dp_ints h2) (.cons (dp_ints h3) .nil))))
theorem Told2.dp {K : PySem.W.Frag} {H : Hp} {z : Addr} {S W C : List Int} {p : Int} {g : Bool} (h : Told2 K H z S W C p g) : Dp K H (.ref z) (toldD S W C p g) := by
  obtain ⟨t, h0, h1⟩ := h
  exact .tup (SqT.of h0) (.cons h1.dp (.cons (.bl g) .nil))
theorem Told2.same {K : PySem.W.Frag} {H H' : Hp} {z : Addr} {S W C : List Int} {p : Int} {g : Bool} (h : Told2 K H z S W C p g) (e : Same H H') : Told2 K H' z S W C p g := by
  obtain ⟨t, h0, h1⟩ := h
  exact ⟨t, e _ _ h0, h1.tn e.tn⟩
theorem whole_back {b way p w : Int} {S W : List Int} (hb : 0 < b) (lw : W.length = w.toNat) (fw : Figs b W) :
    wheelsOf b (0 - way) p w S (wheelsOf b way p w S W) = W ∧ (InR (b ^ w.toNat) (whole b (0 - way) p S (wheelsOf b way p w S W)) ↔ InR (b ^ w.toNat) (whole b way p S W)) := by
  have hp := pow_pos hb w.toNat
  obtain ⟨v0, v1⟩ := val_bounds hb W fw
  rw [lw] at v1
  have e1 : val b (wheelsOf b way p w S W) = whole b way p S W % b ^ w.toNat := by
    unfold wheelsOf
    rw [val_digs hb, Int.emod_emod_of_dvd _ (Int.dvd_refl _)]
  have hd := Int.emod_add_mul_ediv (whole b way p S W) (b ^ w.toNat)
  have e2 : whole b (0 - way) p S (wheelsOf b way p w S W) = val b W - b ^ w.toNat * (whole b way p S W / b ^ w.toNat) := by
    have z : whole b (0 - way) p S (wheelsOf b way p w S W) = val b (wheelsOf b way p w S W) + (0 - way) * (val b S * b ^ p.toNat) := rfl
    have z2 : whole b way p S W = val b W + way * (val b S * b ^ p.toNat) := rfl
    rw [z, e1, Int.sub_mul, Int.zero_mul]
    omega
  refine ⟨?_, ?_⟩
  · show digs b (whole b (0 - way) p S (wheelsOf b way p w S W) % b ^ w.toNat) w.toNat = W
    rw [e2, Int.sub_mul_emod_self_left, Int.emod_eq_of_lt v0 v1, ← lw]
    exact digs_of_val hb fw
  · rw [e2]
    have h1 := Int.emod_nonneg (whole b way p S W) (show b ^ w.toNat ≠ 0 by omega)
    have h2 := Int.emod_lt_of_pos (whole b way p S W) hp
    generalize hx : whole b way p S W = x at hd h1 h2 ⊢
    generalize hy : b ^ w.toNat = y at hp v1 hd h1 h2 ⊢
    generalize hq : x / y = q at hd ⊢
    have hq0 : q = 0 ∨ y ≤ y * q ∨ y * q ≤ -y := by
      rcases Int.lt_trichotomy q 0 with h | h | h
      · right; right
        have := Int.mul_le_mul_of_nonneg_left (show q ≤ -1 by omega) (Int.le_of_lt hp)
        rw [Int.mul_neg, Int.mul_one] at this
        exact this
      · exact .inl h
      · right; left
        have := Int.mul_le_mul_of_nonneg_left (show 1 ≤ q by omega) (Int.le_of_lt hp)
        rw [Int.mul_one] at this
        exact this
    unfold InR
    rcases hq0 with h | h | h
    · subst h
      rw [Int.mul_zero] at hd ⊢
      omega
    · omega
    · omega
theorem counts_back {b tally p c : Int} {C : List Int} (hb : 0 < b) (lc : C.length = c.toNat) (fc : Figs b C) : countsOf b (0 - tally) p c (countsOf b tally p c C) = C := by
  have hp := pow_pos hb c.toNat
  obtain ⟨v0, v1⟩ := val_bounds hb C fc
  rw [lc] at v1
  have e1 : val b (countsOf b tally p c C) = (val b C + tally * b ^ p.toNat) % b ^ c.toNat := by
    unfold countsOf
    rw [val_digs hb, Int.emod_emod_of_dvd _ (Int.dvd_refl _)]
  show digs b ((val b (countsOf b tally p c C) + (0 - tally) * b ^ p.toNat) % b ^ c.toNat) c.toNat = C
  rw [e1, Int.emod_add_emod, Int.sub_mul, Int.zero_mul, show val b C + tally * b ^ p.toNat + (0 - tally * b ^ p.toNat) = val b C by omega, Int.emod_eq_of_lt v0 v1, ← lc]
  exact digs_of_val hb fc
end My
set_option Elab.async false
set_option linter.all false
set_option maxRecDepth 100000
set_option maxHeartbeats 8000000
/-! set(list of ints), its sorted list; list(reversed(range)) -/
namespace L2
open PySem PySem.Spec PyProof.Rows
/-- a set just made -/
def bareSet (w : World) : Obj := { cls := .type "set", dict := none, data := .set #[] 0 (.fresh 0 0 (!w.params.followText "set-order")) }
theorem set_of_list {P : Program} {w : World} {A : Around} {E : Value → Shared → Prop} {s : Shared} {q : Addr} {vs : Array Value} (ms : List Int) {Q : Value → Shared → Prop} (calm : A.handled = none) (hq : s.heap.IsList q vs) (nums : IntsAre vs.toList ms) (few : ms.length + 1 < scanBound)
    (fin : ∀ (g : Heap) (tk c : Nat), SetR w g s.heap.objs.size (fun j => decide (j ∈ ms)) c → c ≤ ms.length → (∀ b o, s.heap.get? b = some o → g.get? b = some o) → Q (.ref s.heap.objs.size) { s with heap := g, toks := tk }) :
    wpAny (model P w) A (call (.type "set") [.ref q]) Q E s := by
  have size : vs.size = ms.length := by have z := IntsAre.length nums; rw [Array.length_toList] at z; exact z
  obtain ⟨c0, tl0, mro0⟩ := F.called_set.mro
  have made0 := F.called_set.made
  have sub0 := F.called_set.sub
  refine wpAny_call (codeAny_of_tree ?_); show wpAny _ _ (callAny (.type "set") _) _ _ _
  refine wpAny_pure ⟨Code.quiet_builtin _ (by decide +kernel), codeAny_builtin F.entry_type_call ?_⟩; rw [Around.under_plain (weight_type_call_type "set" [.ref q] []) rfl]
  have t1 := F.called_set.notType
  have t2 := F.called_set.canCreate
  have t3 := F.typeCall_set_1 (.ref q)
  repeat (any_goals (first | assumption | wp_step))
  refine codeAny_mono (code_set_led1 (.ref q) (E := E) (Q₁ := fun ob s1 => ob = .ref s.heap.objs.size ∧ s1 = { s with heap := s.heap.push (bareSet w) }) ⟨rfl, rfl⟩) fun r s1 hr => ?_
  match r, hr with
  | .error e, hr => exact hr
  | .ok (.ret ob), hr =>
    obtain ⟨rfl, rfl⟩ := hr
    have there : (s.heap.push (bareSet w)).get? s.heap.objs.size = some (bareSet w) := Heap.get?_push_size _ rfl
    have isSet : Shared.TypeIs { s with heap := s.heap.push (bareSet w) } (.ref s.heap.objs.size) "set" := ⟨_, there, rfl⟩
    have t4 := F.called_set.init.lookup
    have t5 := F.called_set.init.bind (.ref s.heap.objs.size)
    repeat (any_goals (first | assumption | wp_step))
    refine codeAny_mono (codeAny_call_builtin (R := wants (fun r s2 => r = .none ∧ ∃ g tk c, s2 = { s with heap := g, toks := tk } ∧ SetR w g s.heap.objs.size (fun j => decide (j ∈ ms)) c ∧ c ≤ ms.length ∧ ∀ b o, s.heap.get? b = some o → g.get? b = some o) E)
      F.called_set.init.plain F.entry_set_init (check_set_init_1 isSet ?_)) fun r2 s2 hr2 => ?_
    · obtain ⟨⟨oc, od, odt, osl⟩, ho, hcl, n1, hdt⟩ := hq
      simp only at hcl hdt
      subst hcl; subst hdt
      have ho2 : (s.heap.push (bareSet w)).get? q = some { cls := .type "list", dict := od, data := .seq vs n1, slots := osl } := Heap.get?_push_of_some _ ho
      have u1 := F.sub_list_set
      have u2 := F.sub_list_frozenset
      have u3 : (Value.type "list" == Value.type "dict") = false := by decide
      have lst1 : (s.heap.push (bareSet w)).IsList q vs := ⟨_, ho2, rfl, n1, rfl⟩
      unfold Builtin.«set.__init__» noKeywords Builtin.Frozenset.updateFrom
      generalize ePI : pyIter = PI
      wp_walk
      subst ePI
      refine wpAny_pyIter_list lst1 (wpAny_bind (wpAny_runValue ?_))
      have qs : q < s.heap.objs.size := Heap.lt_size ho
      have calm3 : A.in1.in1.in1.handled = none := by simp [calm]
      have sz1 : (s.heap.push (bareSet w)).objs.size = s.heap.objs.size + 1 := Heap.size_push ..
      have qI : q ≠ (s.heap.push (bareSet w)).objs.size := by rw [sz1]; exact Nat.ne_of_lt (Nat.lt_succ_of_lt qs)
      have out : s.heap.objs.size ∉ [(s.heap.push (bareSet w)).objs.size, q] := by
        rw [sz1]
        intro z
        rcases List.mem_cons.mp z with z | z
        · exact Nat.ne_of_lt (Nat.lt_succ_self _) z
        · exact Nat.ne_of_gt qs (List.mem_singleton.mp z)
      have each : ∀ (i : Nat) (v : Value), vs[i]? = some v → ∃ k t, ms[i]? = some k ∧ v = .int k t := fun i v hv => by
        have li : i < ms.length := by rw [← size]; exact (Array.getElem?_eq_some_iff.mp hv).1
        obtain ⟨t, e⟩ := PyProof.Rows.IntsAre.int_at nums i v (by rw [Array.getElem?_toList]; exact hv)
        exact ⟨ms[i], t, List.getElem?_eq_getElem li, by rw [e, List.getD_eq_getElem?_getD, List.getElem?_eq_getElem li] <;> rfl⟩
      refine set_update_ints ((Walks.list calm3 _ q qI vs).toS) s.heap.objs.size out ms size few each (vs.size - 0) 0 _ (by omega) (Nat.zero_le _) ⟨⟨_, Heap.get?_push_size _ rfl, rfl, rfl⟩, (lst1.push _)⟩ ?start ?stop
      case start => exact ⟨0, Nat.le_refl 0, setR_new_at (Heap.get?_push_of_some _ there)⟩
      case stop =>
        intro s3 c3 mv lc set3
        obtain ⟨g3, ge3, dr3, tk3, os3⟩ := s3
        obtain rfl : ge3 = s.gens := mv.gens
        obtain rfl : dr3 = s.drawn := mv.drawn
        obtain rfl : os3 = s.os := mv.os
        show wpAny _ _ _ _ _ _
        refine wpAny_pure ?_
        show wpAny _ _ (ret Value.none) _ _ _
        rw [size] at lc
        refine wpAny_pure ⟨rfl, g3, tk3, c3, rfl, set3, lc, fun b o e => mv.heap b o (fun z => ?_) (Heap.get?_push_of_some _ (Heap.get?_push_of_some _ e))⟩
        have lb : b < s.heap.objs.size := Heap.lt_size e
        rcases List.mem_cons.mp z with z | z
        · exact Nat.ne_of_lt lb z
        · have z2 := List.mem_singleton.mp z
          rw [sz1] at z2
          exact Nat.ne_of_lt (Nat.lt_succ_of_lt lb) z2
    · match r2, hr2 with
      | .error e, hr2 => exact hr2
      | .ok (.ret r), hr2 =>
        obtain ⟨rfl, g3, tk3, c3, rfl, set3, lc, kp3⟩ := hr2
        repeat (any_goals (first | assumption | wp_step))
        exact fin _ _ _ set3 lc kp3
      | .ok .next, hr2 => exact hr2.elim
      | .ok .brk, hr2 => exact hr2.elim
      | .ok .cont, hr2 => exact hr2.elim
  | .ok .next, hr => exact hr.elim
  | .ok .brk, hr => exact hr.elim
  | .ok .cont, hr => exact hr.elim
def rSetL1 (K : PySem.W.Frag) (w : World) : List V → Hp → VK → Prop := fun xs H Q => ∃ (p : Addr) (ns : List Int), xs = [.ref p] ∧ SqL K H p (ns.map V.int) ∧ ns.length ≤ 1000 ∧ ∀ (a : Addr) (n : Nat), n ≤ ns.length → H a = none → Q (.ref a) (upd H a (SetO w a (fun j => decide (j ∈ ns)) n))
theorem call_setL {X : Cx} (K : PySem.W.Frag) (eK : X.K = K) (w : World) (ew : X.w = w) (hc : X.calm = true) : CallR X (.type "set") (rSetL1 K w) := by
  subst eK ew
  intro pins s σ H xs us Q I r h
  obtain ⟨p, ns, rfl, hl, hn, q⟩ := h
  obtain ⟨u, rfl, ru⟩ := vals1 r
  obtain rfl : u = .ref p := ru
  obtain ⟨its, rv, pl, hz⟩ := I.list hl
  refine set_of_list ns (I.ok.hd hc) pl.isList (by simpa using Vals.ints rv) (Nat.lt_of_le_of_lt (Nat.succ_le_succ hn) (by decide)) fun g tk c hS hcn kp => ?_
  have J : Inv X pins σ (upd H s.heap.objs.size (SetO X.w s.heap.objs.size (fun j => decide (j ∈ ns)) c)) { s with heap := g, toks := tk } :=
    I.laid kp (Nat.le_refl _) (setO_new hS)
  exact ⟨.ref _, _, J, rfl, q _ c hcn (I.hok.fresh (Nat.le_refl _))⟩
end L2
set_option Elab.async false
set_option linter.all false
set_option maxRecDepth 100000
set_option maxHeartbeats 8000000
/-! list(reversed(range(..))) -/
namespace PySem
open Sem (wp)
section
variable {prog : Program} {w : World} {A : Around} {E : Value → Shared → Prop} {s : Shared}
theorem ri_nolen : typeLookup (.type "range_iterator") "__len__" = pure none := by rw [typeLookup_type, builtinLookup_eq_fast]; kernel_rfl
theorem ri_hint_call {it : Addr} {x n c : Int} {Q : Value → Shared → Prop} (hit : IsRangeIter s.heap it x n c) (h : Q (.int n s.toks) { s with toks := s.toks + 1 }) : wpAny (model prog w) A (call (.builtin "range_iterator.__length_hint__") [.ref it]) Q E s := by
  have ty : s.TypeIs (.ref it) "range_iterator" := ⟨_, hit, rfl⟩
  refine wpAny_call_entry F.slot_range_iterator_length_hint ty F.entry_range_iterator_length_hint ?_ (F.args_range_iterator_length_hint_1 _)
  obtain ⟨hp, g, d, tk, os⟩ := s
  unfold Builtin.«range_iterator.__length_hint__»
  refine wpAny_bind (wpAny_of_eq (a := Value.ref it) (by first | rfl | kernel_rfl) ?_)
  refine wpAny_bind (wpAny_field hit rfl (x := rawInt n) rfl ?_)
  show wpAny _ _ (retInt n) _ _ _
  wp_walk
  exact ⟨_, rfl, h⟩
theorem ri_hint {it : Addr} {x c : Int} {n : Nat} {Q : Bool → Shared → Prop} (hit : IsRangeIter s.heap it x n c) (hn : n ≤ 2 ^ 24) (h : Q false { s with toks := s.toks + 1 }) : wpAny (model prog w) A (Builtin.List.listLengthHint (.ref it)) Q E s := by
  have ty : s.TypeIs (.ref it) "range_iterator" := ⟨_, hit, rfl⟩
  unfold Builtin.List.listLengthHint
  refine wpAny_bind (wpAny_specialOf ty ri_nolen ?_)
  show wpAny _ A (specialOf (Value.ref it) (Str.ofString "__length_hint__") >>= _) _ _ _
  refine wpAny_bind (wpAny_specialOf ty F.slot_range_iterator_length_hint.lookup ?_)
  generalize eid : ("range_iterator.__length_hint__" : String) = id0
  wp_delta
  rw [show splitId id0 = some ("range_iterator", "__length_hint__") from by subst eid; decide +kernel]
  subst eid
  refine wpAny_bind (wpAny_isInstance (b := true) ty (by rw [isSubtype_type]; kernel_rfl) ?_)
  refine wpAny_ite_split (fun z => absurd z (by decide)) (fun _ => ?_)
  refine wpAny_ite_split (fun _ => ?_) (fun z => absurd (show _ from by decide +kernel) z)
  refine wpAny_ite_split (fun _ => ?_) (fun z => absurd (show _ from by decide +kernel) z)
  refine wpAny_bind (ri_hint_call hit ?_)
  have small : Builtin.List.listTooLong ((n : Int).toNat) = false := by simp [Builtin.List.listTooLong, sizeLine]; omega
  refine wpAny_bind (m := asInt? _) (wpAny_pure ?_)
  exact wpAny_ite_split (fun z => absurd z (by rw [small]; decide)) (fun _ => wpAny_pure h)
theorem list_init_ri {R : Result → Shared → Prop} {it S : Addr} {x c : Int} {n : Nat} (calm : A.handled = none) (hit : IsRangeIter s.heap it x n c) (hn : n ≤ 2 ^ 24) (hS : s.heap.get? S = some { cls := .type "list", data := .seq #[] }) (hne : S ≠ it)
    (fin : ∀ g tk acc c1, (∀ b o, b ≠ S → b ≠ it → s.heap.get? b = some o → g.get? b = some o) → g.get? S = some { cls := .type "list", dict := none, data := .seq acc c1, slots := #[] } → ItemsOf (fun i v => ∃ t, v = .int (x + i * c) t) acc n → R (.ok (.ret .none)) { s with heap := g, toks := tk }) :
    wpAny (model prog w) A.in1 (Builtin.«list.__init__» ⟨[.ref S, .ref it], []⟩)
      (fun f s' => match f with | .done f => R (.ok f) s' | .again c' => c'.quiet = true ∧ codeAny (model prog w) A c' R s') (fun e s' => R (.error e) s') s := by
  show wpAny _ _ (do let old ← Builtin.List.listItems (.ref S); Builtin.List.listUpdate (.ref S) (fun _ => #[]); letGo old.toList.reverse; Builtin.List.listExtendWith (.ref S) (.ref it) .none) _ _ s
  refine wpAny_bind ?_
  unfold Builtin.List.listItems
  refine wpAny_bind (wpAny_seqItems hS rfl (wpAny_pure ?_)); show wpAny _ _ (updateSeq S (fun _ => #[]) >>= fun _ => letGo (#[] : Array Value).toList.reverse >>= fun _ => Builtin.List.listExtendWith (.ref S) (.ref it) .none) _ _ s
  refine wpAny_bind (wpAny_updateSeq hS rfl ?_)
  have S2 := Heap.get?_update_self (Obj.mapSeq (fun _ => (#[] : Array Value))) hS rfl
  have oth : ∀ b o, b ≠ S → s.heap.get? b = some o → (s.heap.update S (Obj.mapSeq (fun _ => (#[] : Array Value)))).get? b = some o := fun b o hb e => (Heap.get?_update_other _ _ (Ne.symm hb)).trans e
  have it2 : IsRangeIter (s.heap.update S (Obj.mapSeq (fun _ => (#[] : Array Value)))) it x n c := oth it _ (Ne.symm hne) hit
  refine wpAny_bind (wpAny_letGo ?_)
  generalize s.heap.update S (Obj.mapSeq (fun _ => (#[] : Array Value))) = h2 at S2 oth it2 ⊢
  unfold Builtin.List.listExtendWith
  have ty : ({ s with heap := h2 } : Shared).TypeIs (.ref it) "range_iterator" := ⟨_, it2, rfl⟩
  refine wpAny_bind (wpAny_typeOf ty ?_)
  have e1 : Builtin.List.listSameRef (.ref S) (.ref it) = false := by simp [Builtin.List.listSameRef, hne]
  rw [if_neg (by rw [e1]; decide)]
  refine wpAny_bind (wpAny_pyIter_rangeiter (s := { s with heap := h2 }) it2 ?_)
  refine wpAny_bind (wpAny_holding (ri_hint (s := { s with heap := h2 }) it2 hn ?_))
  rw [if_neg (by decide)]
  have out : S ∉ [it] := fun z => hne (List.mem_singleton.mp z)
  have W := (Walks.range (prog := prog) (w := w) (A := A.in1) calm it x c n).toS
  refine wpAny_pure ⟨plainId_quiet F.plain_extend_loop _, codeAny_extend_loopS W (by rw [sizeLine_eq]; omega) S out .none n 0 _ #[] _ rfl (Nat.zero_le _) ?_ S2 (ItemsOf.nil _) fun s3 acc c3 mv S3 its => ?_⟩
  · show IsRangeIter h2 it (x + ((0 : Nat) : Int) * c) ((n : Int) - ((0 : Nat) : Int)) c
    have z1 : x + ((0 : Nat) : Int) * c = x := by rw [show ((0 : Nat) : Int) = 0 from rfl, Int.zero_mul, Int.add_zero]
    have z2 : (n : Int) - ((0 : Nat) : Int) = n := by omega
    rw [z1, z2]
    exact it2
  · rw [Moved.eq_with mv]
    refine fin s3.heap s3.toks acc c3 (fun b o h1 h2 e => mv.heap b o (fun z => ?_) (oth b o h1 e)) S3 its
    rcases List.mem_cons.mp z with z | z
    · exact h1 z
    · exact h2 (List.mem_singleton.mp z)
theorem list_of_ri {Q : Value → Shared → Prop} {it : Addr} {x c : Int} {n : Nat} (calm : A.handled = none) (hit : IsRangeIter s.heap it x n c) (hn : n ≤ 2 ^ 24)
    (fin : ∀ g tk acc c1, (∀ b o, b ≠ it → s.heap.get? b = some o → g.get? b = some o) → g.get? s.heap.objs.size = some { cls := .type "list", dict := none, data := .seq acc c1, slots := #[] } → ItemsOf (fun i v => ∃ t, v = .int (x + i * c) t) acc n → Q (.ref s.heap.objs.size) { s with heap := g, toks := tk }) :
    wpAny (model prog w) A (call (.type "list") [.ref it]) Q E s := by
  refine callType_codes (Q₁ := fun ob s1 => ob = .ref s.heap.objs.size ∧ s1 = { s with heap := s.heap.push { cls := .type "list", data := .seq #[] } }) F.called_list (F.typeCall_list_1 _) F.entry_list_init (code_list_new _ ⟨rfl, rfl⟩) fun ob s1 h1 => ?_
  obtain ⟨rfl, rfl⟩ := h1
  have S1 : (s.heap.push { cls := .type "list", data := .seq #[] }).get? s.heap.objs.size = some { cls := .type "list", data := .seq #[] } := Heap.get?_push_size _ rfl
  have lt : it < s.heap.objs.size := Heap.lt_size hit
  refine ⟨⟨_, S1, rfl⟩, F.args_list_init_2 _ _, list_init_ri (A := A.in1) (x := x) (c := c) (n := n) calm (Heap.get?_push_of_some _ hit) hn S1 (Nat.ne_of_gt lt) fun g tk acc c1 kp S2 its => ?_⟩
  exact ⟨rfl, fin g tk acc c1 (fun b o h1 e => kp b o (Nat.ne_of_lt (Heap.lt_size e)) h1 (Heap.get?_push_of_some _ e)) S2 its⟩
end
end PySem

namespace L2
open PySem PySem.Spec PyProof.Rows
/-- the numbers of a range from its end -/
def rgDown (n : Nat) : List Int := (List.range n).map fun i => ((n : Int) - 1 + (i : Nat) * (-1))
def tLstRev (tr : St → Hp → (Int → Int → Hp → Prop) → Prop) : TE := fun σ H Q => tr σ H fun a b H1 => a = 0 ∧ 0 ≤ b ∧ b ≤ 1000 ∧ ∀ q, H1 q = none → Q (.ref q) (upd H1 q (.lst ((rgDown b.toNat).map V.int)))
theorem pe_lstRev {X : Cx} {e : Expr} {tr : St → Hp → (Int → Int → Hp → Prop) → Prop} {p p2 pos pos2 : Pos} (hc : X.calm = true) (hg : Gl X "list") (hm : X.mg "list" = none) (hg2 : Gl X "reversed") (hm2 : X.mg "reversed" = none) (he : PRg X e tr)
    (na : starEach [e] X.env = (false, eval e X.env) :: starEach [] X.env := by rfl) (na2 : starEach [Expr.Call (.Name "reversed" p2) [e] [] pos2] X.env = (false, eval (.Call (.Name "reversed" p2) [e] [] pos2) X.env) :: starEach [] X.env := by rfl) :
    PE X (.Call (.Name "list" p) [.Call (.Name "reversed" p2) [e] [] pos2] [] pos) (tLstRev tr) := by
  refine ⟨fun pins s σ H Q I h => ?_⟩
  have b1 : bootBuiltins ("list" : Str) = some (.type "list") := by decide +kernel
  have b2 : bootBuiltins ("reversed" : Str) = some (.type "reversed") := by decide +kernel
  refine Call_ (ld_blt I hg hm b1 (PyProof.Rows.callWith_type1 (args_cons (Call_ (ld_blt I hg2 hm2 b2 (PyProof.Rows.callWith_type1 (args_cons (thn (he pins s σ H _ I h) fun u s1 hx => args_nil ?_) na) na rfl))) na2) na2 rfl))
  obtain ⟨r, a, b, t, w1, v, H1, eu, hr, I1, ea, h0, h1, q⟩ := hx
  subst eu ea
  have hn : Builtin.Range.rangeSize 0 b 1 = ((b.toNat : Nat) : Int) := by rw [rangeSize_nat 0 b, Int.sub_zero]
  refine call_reversed_range hr (smallRev_one (by decide) (by decide) (by omega) (by omega)) ?_
  refine args_nil ?_
  have hit : IsRangeIter (s1.heap.push (rngRevObj 0 b 1)) s1.heap.objs.size ((b.toNat : Int) - 1) (b.toNat : Nat) (-1) := by
    have e1 : ((b.toNat : Nat) : Int) - 1 = 0 + (Builtin.Range.rangeSize 0 b 1 - 1) * 1 := by rw [hn]; omega
    show IsRangeIter _ _ (((b.toNat : Nat) : Int) - 1) ((b.toNat : Nat) : Int) (-1)
    rw [e1, ← hn]
    exact Heap.get?_push_size _ rfl
  refine list_of_ri (s := { s1 with heap := s1.heap.push (rngRevObj 0 b 1) }) (I1.ok.hd hc) hit (by omega) fun g tk acc c1 kp hS its => ?_
  have kp2 : ∀ b' o, s1.heap.get? b' = some o → g.get? b' = some o := fun b' o e => kp b' o (Nat.ne_of_lt (Heap.lt_size e)) (Heap.get?_push_of_some _ e)
  have lenA : acc.toList.length = b.toNat := by rw [Array.length_toList]; exact its.1
  have eqV : (rgDown b.toNat).map V.int = (List.range acc.toList.length).map fun i => V.int ((b.toNat : Int) - 1 + (i : Nat) * (-1)) := by
    unfold rgDown
    rw [lenA, List.map_map]
    rfl
  have rv : Vals ((rgDown b.toNat).map V.int) acc.toList := by
    rw [eqV]
    refine vals_of_get _ _ fun j u hu => ?_
    rw [Array.getElem?_toList] at hu
    exact its.2 j u hu
  have hlen : ((rgDown b.toNat).map V.int).length ≤ sizeLine := by rw [eqV, List.length_map, List.length_range, lenA, sizeLine_eq]; omega
  refine ⟨.ref _, upd H1 _ (.lst ((rgDown b.toNat).map V.int)), I1.laid kp2 (Nat.le_of_lt (by rw [Heap.size_push]; exact Nat.lt_succ_self _)) (show ObjOk X.prog X.w _ _ _ (.lst _) from ⟨hlen, acc.toList, c1, rv, ?_⟩), rfl, q _ (I1.hok.fresh (Nat.le_of_lt (by rw [Heap.size_push]; exact Nat.lt_succ_self _)))⟩
  rw [Array.toArray_toList]
  exact hS
end L2
set_option Elab.async false
set_option linter.all false
set_option maxRecDepth 100000
set_option maxHeartbeats 4000000
/-! k01: carries in any order -/
namespace Rn
open PySem PySem.Spec L2
section
variable {K : PySem.W.Frag} {H : Hp} {Q : VK} {w : World}
theorem w_neB {a b : Bool} (h : Q (.bl (a != b)) H) : uNe K (.bl a) (.bl b) H Q := .inl ⟨rfl, by
  have e : (!decide (V.bl a = V.bl b)) = (a != b) := by cases a <;> cases b <;> rfl
  rw [e]
  exact h⟩
theorem w_eqLI {a b : Addr} {xs ys : List Int} (ha : SqL K H a (xs.map V.int)) (hb : SqL K H b (ys.map V.int)) (h : Q (.bl (decide (xs = ys))) H) : uEq K (.ref a) (.ref b) H Q :=
  w_eqD (.lst ha (DpAll.ints xs)) (.lst hb (DpAll.ints ys)) shaped_list shaped_list (by rw [eqv_listI]; exact h)
theorem w_setOf {p : Addr} {ns : List Int} (hl : SqL K H p (ns.map V.int)) (hn : ns.length ≤ 63) (h : ∀ a n H', n ≤ ns.length → Same H H' → H' a = some (SetO w a (fun j => decide (j ∈ ns)) n) → Q (.ref a) H') : rSetL1 K w [.ref p] H Q :=
  ⟨p, ns, rfl, hl, by omega, fun a n hn' e => h a n _ hn' (Same.new e) upd_same⟩
theorem w_srtS {a : Addr} {ns : List Int} {n : Nat} (ha : H a = some (SetO w a (fun j => decide (j ∈ ns)) n)) (hn : n < 64) (h : ∀ (ms : List Int) p H', ms.Pairwise (· < ·) → (∀ k : Int, k ∈ ms ↔ k ∈ ns) → Same H H' → H' p = some (.lst (ms.map V.int)) → Q (.ref p) H') : rSortedSet w [.ref a] H Q :=
  ⟨a, _, n, rfl, ha, hn, fun ms p e1 e2 _ e3 => h ms p _ e1 (fun k => by rw [e2 k, decide_eq_true_eq]) (Same.new e3) upd_same⟩
theorem w_notIn {σ : St} {i j : Nat} {x y : Int} (hi : σ[i]? = some (some (.int x))) (hj : σ[j]? = some (some (.int y))) (h : Q (.bl (decide (¬ (0 ≤ x ∧ x < y)))) H) :
    tNotV (tChain (rI0 fun i j => V.bl (decide (i ≤ j))) (rI0 fun i j => V.bl (decide (i < j))) (tC (V.int 0)) (tVar i) (tVar j)) σ H Q := by
  refine w_notV (w_chain (w_c (w_var hi (w_I0 (w_bl ?_)))))
  by_cases h1 : 0 ≤ x
  · refine w_iteD h1 (w_var hj (w_I0 (w_bl ?_)))
    have e : (!decide (x < y)) = decide (¬ (0 ≤ x ∧ x < y)) := by
      by_cases h2 : x < y
      · simp [h1, h2]
      · simp [h1, h2]
    rw [e]
    exact h
  · refine w_iteE h1 (w_bl ?_)
    have e : (!false) = decide (¬ (0 ≤ x ∧ x < y)) := by simp [h1]
    rw [e]
    exact h
def LRevQ (Q : VK) : VK := fun x H1 => ∃ n, x = .int n ∧ (0 : Int) = 0 ∧ 0 ≤ n ∧ n ≤ 1000 ∧ ∀ q, H1 q = none → Q (.ref q) (upd H1 q (.lst ((rgDown n.toNat).map V.int)))
theorem w_lrev {ta : TE} {σ : St} (h : ta σ H (LRevQ Q)) : tLstRev (tRg1 ta) σ H Q := h
theorem w_lrevI {n : Int} (h0 : 0 ≤ n ∧ n ≤ 1000) (h : ∀ p H', H p = none → Same H H' → H' p = some (.lst ((rgDown n.toNat).map V.int)) → Q (.ref p) H') : LRevQ Q (.int n) H := ⟨n, rfl, rfl, h0.1, h0.2, fun q hq => h q _ hq (Same.new hq) upd_same⟩
end
end Rn
namespace My
open PySem PySem.Spec L2 RT Rn
theorem Drew.free {a c q : Addr} {A B : Hp} (D : Drew a c A B) (h : B q = none) : A q = none := by
  cases e : A q with
  | none => rfl
  | some o =>
    obtain ⟨s', i', cells', ha', hc', _⟩ := D.dr
    by_cases e1 : q = a
    · rw [e1, ha'] at h; cases h
    by_cases e2 : q = c
    · rw [e2, hc'] at h; cases h
    rw [D.kp q o e e1 e2] at h
    cases h
theorem rising_ext : ∀ {xs ys : List Int}, xs.Pairwise (· < ·) → ys.Pairwise (· < ·) → (∀ k, k ∈ xs ↔ k ∈ ys) → xs = ys
  | [], [], _, _, _ => rfl
  | [], y :: ys, _, _, h => by have := (h y).mpr List.mem_cons_self; simp at this
  | x :: xs, [], _, _, h => by have := (h x).mp List.mem_cons_self; simp at this
  | x :: xs, y :: ys, hx, hy, h => by
    obtain ⟨x1, x2⟩ := List.pairwise_cons.mp hx
    obtain ⟨y1, y2⟩ := List.pairwise_cons.mp hy
    have e : x = y := by
      have a := (h x).mp List.mem_cons_self
      have c := (h y).mpr List.mem_cons_self
      rcases List.mem_cons.mp a with a | a
      · exact a
      · rcases List.mem_cons.mp c with c | c
        · exact c.symm
        · have := y1 x a
          have := x1 y c
          omega
    subst e
    have r := rising_ext x2 y2 fun k => ⟨fun hk => by
      rcases List.mem_cons.mp ((h k).mp (List.mem_cons_of_mem _ hk)) with e | h2
      · have := x1 k hk; omega
      · exact h2, fun hk => by
      rcases List.mem_cons.mp ((h k).mpr (List.mem_cons_of_mem _ hk)) with e | h2
      · have := y1 k hk; omega
      · exact h2⟩
    rw [r]
theorem Ps.same {b way : Int} {P : Nat} {w F : Nat → Int} {n i : Nat} {row L row' L' : List Int} (C : Ps b way P w F n i row L) (D : Ps b way P w F n i row' L') : row = row' ∧ L = L' := by
  refine ⟨List.ext_getElem? fun k => ?_, rising_ext C.up D.up fun k => by rw [C.lev, D.lev]⟩
  by_cases h : k < n
  · rw [C.eq k h, D.eq k h]
  · rw [List.getElem?_eq_none (by rw [C.len]; omega), List.getElem?_eq_none (by rw [D.len]; omega)]
theorem sub_len : ∀ {xs ys : List Int}, xs.Nodup → (∀ x ∈ xs, x ∈ ys) → xs.length ≤ ys.length
  | [], _, _, _ => Nat.zero_le _
  | x :: xs, ys, hn, h => by
    obtain ⟨n1, n2⟩ := List.nodup_cons.mp hn
    have hx := h x List.mem_cons_self
    have r := sub_len (xs := xs) (ys := ys.erase x) n2 fun z hz => (List.mem_erase_of_ne (fun e => n1 (by rw [← e]; exact hz))).mpr (h z (List.mem_cons_of_mem _ hz))
    rw [List.length_erase_of_mem hx] at r
    have := List.length_pos_of_mem hx
    rw [List.length_cons]
    omega
/-- one carry leaves no more levers -/
theorem Cs.fewer {b way : Int} {n : Nat} {w F : Nat → Int} {d : Nat → Bool} {row L row' L' : List Int} {k : Nat} (C : Cs b way n w F d row L) (D : Cs b way n w F (setD d k) row' L') (hk : (k : Int) ∈ L) : (k : Int) ∉ L' ∧ L'.length ≤ L.length := by
  have ndL : L.Nodup := C.up.imp fun h => by omega
  have ndL' : L'.Nodup := D.up.imp fun h => by omega
  have out : (k : Int) ∉ L' := fun z => by
    obtain ⟨j, _, e, _, hd⟩ := (D.lev _).mp z
    have : j = k := by omega
    subst this
    rw [setD_same] at hd
    cases hd
  refine ⟨out, ?_⟩
  have h := sub_len (xs := L') (ys := ((k : Int) + 1) :: L.erase (k : Int)) ndL' fun y hy => by
    obtain ⟨j, j1, e, j2, j3⟩ := (D.lev y).mp hy
    by_cases e1 : j = k + 1
    · subst e1
      rw [e]
      exact List.mem_cons.mpr (.inl (by omega))
    · refine List.mem_cons_of_mem _ ?_
      have ne : j ≠ k := fun e2 => by rw [e2, setD_same] at j3; cases j3
      refine (List.mem_erase_of_ne (by omega)).mpr ((C.lev y).mpr ⟨j, j1, e, ?_, ?_⟩)
      · rw [vk_ne e1] at j2
        exact j2
      · rw [setD_ne d ne] at j3
        exact j3
  rw [List.length_cons, List.length_erase_of_mem hk] at h
  have := List.length_pos_of_mem hk
  omega
theorem undone_le (d : Nat → Bool) : ∀ n : Nat, undone d n ≤ n
  | 0 => Nat.le_refl _
  | n + 1 => by
    have := undone_le d n
    show undone d n + (if d n = true then 0 else 1) ≤ n + 1
    split <;> omega
theorem mod_ne {b v : Int} (hb : 0 < b) : v ≠ v % b ↔ ¬ InR b v := by
  constructor
  · intro h z
    exact h (mod_in z).symm
  · intro h e
    exact h ⟨by rw [e]; exact Int.emod_nonneg _ (by omega), by rw [e]; exact Int.emod_lt_of_pos _ hb⟩
/-- the carries one by one, each lever drawn -/
def spOne (K : PySem.W.Frag) : Sp := fun vs H Q _ => ∃ (a cl m t l : Addr) (b s w c way : Int) (fw fF : Nat → Int) (row L : List Int), vs = [.ref a, .ref m, .ref t, .ref l, .int way] ∧ DrawAt H a cl ∧ l ≠ cl ∧ MachAt K H m b s w c ∧ Mach b s w c ∧
  SqT K H t (row.map V.int) ∧ H l = some (.lst (L.map V.int)) ∧ Wn b way w.toNat fw fF ∧ Cs b way w.toNat fw fF (fun _ => false) row L ∧
  ∀ (z r' : Addr) (row' : List Int) (d : Nat → Bool) (g : Bool) (H' : Hp), Drew a cl H H' → H' z = some (.tup [.ref r', .bl g]) → SqT K H' r' (row'.map V.int) → Cs b way w.toNat fw fF d row' [] → (g = true ↔ cin d w.toNat = 1) → Q (.ref z) H'
end My
set_option Elab.async false
set_option linter.all false
set_option maxRecDepth 100000
set_option maxHeartbeats 4000000
/-! exceptions that are asked by isinstance: a class or a tuple of classes -/
namespace L2
open PySem PySem.Spec PyProof.Rows
/-- isinstance(e, c) or isinstance(e, (c1, c2, ..)), e the exception that the suite holds -/
def rIsX (K : PySem.W.Frag) (a : Addr) (cls : Value) (d : Option Addr) : List V → Hp → VK → Prop := fun xs H Q => ∃ (D : Addr) (c : V) (b : Bool), cls = .ref D ∧ d = none ∧ ExcC K D ∧ xs = [.ref a, c] ∧
  ((∃ u, ClsV c u ∧ PySem.W.kitOne K (.ref D) u = some b) ∨ ∃ (tp : Addr) (cs : List V) (us : List Value), c = .ref tp ∧ H tp = some (.tup cs) ∧ Paired ClsV cs us ∧ PySem.W.kitAny K (.ref D) us = some b) ∧ Q (.bl b) H
theorem call_isX {X : Cx} {a : Addr} {oe : Obj} {cls : Value} {d : Option Addr} {pn : List (Addr × Obj)} (K : PySem.W.Frag) (eK : X.K = K) (hz : Zc cls d oe) (hf : ∃ vs, oe.data = .fields vs) : CallR (X.suite a ((a, oe) :: pn)) (.builtin "isinstance") (rIsX K a cls d) := by
  subst eK
  intro pins s σ H xs us Q I r h
  obtain ⟨D, c, b, rfl, rfl, C, rfl, hc, q⟩ := h
  obtain ⟨u1, u2, rfl, r1, r2⟩ := vals2 r
  cases (show u1 = Value.ref a from r1)
  obtain ⟨hget, _⟩ := I.pin (a, oe) (List.mem_append.mpr (.inl List.mem_cons_self))
  obtain ⟨vs, hv⟩ := hf
  have J : PySem.W.InstAt s.heap a oe D none := by
    obtain ⟨oc, od, oda, osl⟩ := oe
    obtain ⟨h1, h2⟩ := hz
    dsimp only at h1 h2 hv
    subst h1 h2 hv
    exact ⟨hget, rfl, rfl, trivial⟩
  rcases hc with ⟨u, k, e⟩ | ⟨tp, cs, ws, rfl, hT, k, e⟩
  · have ec := k.eq r2
    subst ec
    exact PySem.W.kia_one (PySem.W.handS_kitx_exc C.hg C.hk C.hs C.hd C.ha C.hn C.ht C.hm) I.kIn J e (fun z => nomatch z) fun tk => ⟨.bl b, H, I.kept (t' := tk) fun _ _ z => z, rfl, q⟩
  · cases (show u2 = Value.ref tp from r2)
    obtain ⟨_, its, rv, o, h1, h2, n, h3⟩ := (show ObjOk X.prog X.w H s.heap tp (.tup cs) from I.hok tp _ hT)
    have e3 := ClsV.all k rv
    subst e3
    obtain ⟨oc, od, dt, sl⟩ := o
    simp only at h2 h3
    subst h2 h3
    exact PySem.W.kia_tup (PySem.W.handS_kitx_exc C.hg C.hk C.hs C.hd C.ha C.hn C.ht C.hm) I.kIn J h1 e (fun z => nomatch z) fun tk => ⟨.bl b, H, I.tok tk, rfl, q⟩
end L2
namespace Rn
open PySem PySem.Spec L2 RT
section
variable {K : PySem.W.Frag} {σ : St} {H : Hp} {te : TE} {tr : TA} {Q : VK} {ts : List TE} {acc : Str} {QS : Str → Hp → Prop}
theorem w_callS {sp : Sp} {E : St → XK} (h : tr σ H fun vs H1 => sp vs H1 Q (E σ)) : tCallS sp E tr σ H Q := h
/-- a text of parts, not long -/
def JsQ (ts : List TE) (acc : Str) (σ : St) (QS : Str → Hp → Prop) : VK := fun x H1 => ∃ y : Str, x = .str y ∧ (acc ++ y).length ≤ sizeLine ∧ tJs ts (acc ++ y) σ H1 QS
def JfQ (ts : List TE) (acc : Str) (σ : St) (QS : Str → Hp → Prop) : VK := fun x H1 => (∃ y : Str, x = .str y ∧ y.length ≤ sizeLine ∧ JsQ ts acc σ QS (.str y) H1) ∨ ∃ i : Int, x = .int i ∧ i.natAbs.log2 < 1920 ∧ JsQ ts acc σ QS (.str (toString i)) H1
theorem w_js0 (h : QS acc H) : tJs [] acc σ H QS := h
theorem w_js1 {t : TE} (h : t σ H (JsQ ts acc σ QS)) : tJs (t :: ts) acc σ H QS := h
theorem w_fmt (h : te σ H (JfQ ts acc σ QS)) : tFmt te σ H (JsQ ts acc σ QS) := h
theorem len_app (a b : Str) : (a ++ b).length = a.length + b.length := by
  exact Str.length_append a b
/-- of no more than k parts -/
def Sh (acc : Str) (k : Nat) : Prop := acc.length ≤ k * 2000
theorem Sh.nil : Sh Str.empty 0 := Nat.zero_le _
theorem w_jsC {y : Str} {n : Nat} (ha : Sh acc n) (hn : n ≤ 40) (hy : y.length ≤ 2000) (h : ∀ acc' : Str, Sh acc' (n + 1) → tJs ts acc' σ H QS) : JsQ ts acc σ QS (.str y) H :=
  ⟨y, rfl, by unfold Sh at ha; rw [len_app, sizeLine_eq]; omega, h _ (by unfold Sh at ha ⊢; rw [len_app]; omega)⟩
theorem log_small {i : Int} (h1 : -(2 ^ 64) < i ∧ i < 2 ^ 64) : i.natAbs.log2 < 1920 := by
  by_cases h : i.natAbs = 0
  · rw [h]; decide
  · exact Nat.lt_of_lt_of_le ((Nat.log2_lt h).mpr (show i.natAbs < 2 ^ 65 by omega)) (by decide)
theorem w_jfI {i : Int} {n : Nat} (h1 : -(2 ^ 64) < i ∧ i < 2 ^ 64) (ha : Sh acc n) (hn : n ≤ 40) (h : ∀ acc' : Str, Sh acc' (n + 1) → tJs ts acc' σ H QS) : JfQ ts acc σ QS (.int i) H :=
  .inr ⟨i, rfl, log_small h1, w_jsC ha hn (Nat.le_trans (PyProof.Rows.int_text_len_1921 (log_small h1)) (by decide)) h⟩
theorem w_jfS {y : Str} {n : Nat} (hy : y.length ≤ 2000) (ha : Sh acc n) (hn : n ≤ 40) (h : ∀ acc' : Str, Sh acc' (n + 1) → tJs ts acc' σ H QS) : JfQ ts acc σ QS (.str y) H :=
  .inl ⟨y, rfl, by rw [sizeLine_eq]; omega, w_jsC ha hn hy h⟩
end
end Rn
namespace L2
open PySem PySem.Spec PyProof.Rows PySem.W
theorem kit_self {K : Frag} {x : Addr} : kitOne K (.ref x) (.ref x) = some true := by
  unfold kitOne
  rw [if_pos (beq_self_eq_true _)]
theorem kit_own {K : Frag} {x c : Addr} {b : Bool} (hdct : hasDictIn K c = true) (ht : typeIn K (.ref c) = some (.type "type")) (ne : ((Value.ref x) == (Value.ref c)) = false) (h : subIn K (.ref x) (.ref c) = some b) : kitOne K (.ref x) (.ref c) = some b := by
  obtain ⟨cd, hc, _⟩ := any_some hdct
  have e2 : ((clsIn K c).isSome && typeIn K (.ref c) == some (.type "type")) = true := by rw [hc, ht] <;> rfl
  unfold kitOne
  rw [if_neg (by rw [ne]; exact Bool.false_ne_true)]
  show (if ((clsIn K c).isSome && typeIn K (.ref c) == some (.type "type")) = true then subIn K (.ref x) (.ref c) else none) = some b
  rw [if_pos e2]
  exact h
theorem kit_blt {K : Frag} {x : Addr} {T : String} {b : Bool} (hm : kitMeta T = true) (h : subIn K (.ref x) (.type T) = some b) : kitOne K (.ref x) (.type T) = some b := by
  unfold kitOne
  rw [if_neg (show ¬ ((Value.ref x == Value.type T) = true) from Bool.false_ne_true)]
  show (if kitMeta T = true then subIn K (.ref x) (.type T) else none) = some b
  rw [if_pos hm]
  exact h
end L2
set_option Elab.async false
set_option linter.all false
set_option maxRecDepth 100000
set_option maxHeartbeats 4000000
/-! a tuple, once: t * 1 -/
namespace L2
open PySem PySem.Spec PyProof.Rows
open Sem (wp)
theorem tuple_mul1 (l : Addr) (items : Array Value) (n : Nat) (dd : Option Addr) (sl : Array (Option Value)) (u : Tok) :
    Meets (Builtin.«tuple.__mul__» ⟨[.ref l, .int 1 u], []⟩) (fun _ R s => s.heap.get? l = some { cls := .type "tuple", dict := dd, data := .seq items n, slots := sl } ∧
      R (.ok (.ret (Value.ref l))) s) :=
  .of_wp fun prog w A R s h => by
    obtain ⟨hp, g, d, tk, os⟩ := s
    obtain ⟨hl, h⟩ := h
    have f1 := AutoSeq1.idx_int
    have c1 : (items.isEmpty || (1 : Int) == 1) = true := by simp
    wp_walk using wpAny_loadPart' hl
    repeat (first
      | (refine wpAny_ite_true (decide_eq_true c1) ?_; wp_walk using wpAny_loadPart' hl)
      | (refine wpAny_ite_false (decide_eq_false (by decide)) ?_; wp_walk using wpAny_loadPart' hl))
    exact ⟨_, rfl, h⟩
theorem tuple_mul0 (l : Addr) (items : Array Value) (n : Nat) (dd : Option Addr) (sl : Array (Option Value)) (u : Tok) (hi : items.isEmpty = false) :
    Meets (Builtin.«tuple.__mul__» ⟨[.ref l, .int 0 u], []⟩) (fun _ R s => s.heap.get? l = some { cls := .type "tuple", dict := dd, data := .seq items n, slots := sl } ∧
      R (.ok (.ret (Value.ref s.heap.objs.size))) { s with heap := s.heap.push { cls := Value.type "tuple", data := Data.seq #[] }, toks := s.toks }) :=
  .of_wp fun prog w A R s h => by
    obtain ⟨hp, g, d, tk, os⟩ := s
    obtain ⟨hl, h⟩ := h
    have f1 := AutoSeq1.idx_int
    have c1 : (items.isEmpty || (0 : Int) == 1) = false := by rw [hi]; rfl
    have c2 : (decide ((0 : Int) ≤ 0) || items.isEmpty) = true := by simp
    wp_walk using wpAny_loadPart' hl
    repeat (first
      | (refine wpAny_ite_false (decide_eq_false (by rw [c1]; exact Bool.false_ne_true)) ?_; wp_walk using wpAny_loadPart' hl)
      | (refine wpAny_ite_true (decide_eq_true c2) ?_; wp_walk using wpAny_loadPart' hl)
      | (refine wpAny_ite_false (decide_eq_false (by decide)) ?_; wp_walk using wpAny_loadPart' hl))
    exact ⟨_, rfl, h⟩
def rRepT0 (K : PySem.W.Frag) : R2 := fun x y H Q => ∃ l xs, x = .ref l ∧ y = .int 0 ∧ SqT K H l xs ∧ xs ≠ [] ∧ ∀ p, H p = none → Q (.ref p) (upd H p (.tup []))
def rRepT1 (K : PySem.W.Frag) : R2 := fun x y H Q => ∃ l xs, x = .ref l ∧ y = .int 1 ∧ SqT K H l xs ∧ Q (.ref l) H
section
variable {X : Cx}
theorem op_repT1 : OpR X (binaryOp .Mult) (rRepT1 X.K) := by
  intro pins s σ H x y v u Q I rx ry h
  obtain ⟨l, xs, rfl, rfl, hT, q⟩ := h
  cases rx
  obtain ⟨t, rfl⟩ := ry
  obtain ⟨its, r, ⟨⟨cls, dd, data, sl⟩, ho, hc, n, hd⟩, hs⟩ := I.tuple hT
  simp only at hc hd
  subst hc hd
  refine wpAny_binaryOp_repeat_ref (T := "tuple") (U := "int") (by decide) ⟨_, ho, rfl⟩ (fun s' => typeIs_int s' 1 t) noFill_tuple_mul F.fills_int_mul F.slot_int_rmul repeat_tuple F.slot_int_index.lookup
    (call_meets F.slot_int_rmul (typeIs_int s 1 t) F.entry_int_rmul (F.args_int_rmul_2 _ _) (int_rmul_tuple 1 t l its.toArray n dd sl)
      ⟨ho, rfl, ⟨_, ho, rfl⟩, call_meets F.slot_tuple_mul ⟨_, ho, rfl⟩ F.entry_tuple_mul (F.args_tuple_mul_2 _ _) (tuple_mul1 l its.toArray n dd sl t) ⟨ho, ?_⟩⟩)
  exact ⟨.ref l, H, I, rfl, q⟩
theorem op_repT0 : OpR X (binaryOp .Mult) (rRepT0 X.K) := by
  intro pins s σ H x y v u Q I rx ry h
  obtain ⟨l, xs, rfl, rfl, hT, hne, q⟩ := h
  cases rx
  obtain ⟨t, rfl⟩ := ry
  obtain ⟨its, r, ⟨⟨cls, dd, data, sl⟩, ho, hc, n, hd⟩, hs⟩ := I.tuple hT
  simp only at hc hd
  subst hc hd
  have hle : its.length = xs.length := r.length.symm
  have hi : its.toArray.isEmpty = false := by
    cases its with
    | nil => exact absurd (List.eq_nil_of_length_eq_zero hle.symm) hne
    | cons a b => rfl
  refine wpAny_binaryOp_repeat_ref (T := "tuple") (U := "int") (by decide) ⟨_, ho, rfl⟩ (fun s' => typeIs_int s' 0 t) noFill_tuple_mul F.fills_int_mul F.slot_int_rmul repeat_tuple F.slot_int_index.lookup
    (call_meets F.slot_int_rmul (typeIs_int s 0 t) F.entry_int_rmul (F.args_int_rmul_2 _ _) (int_rmul_tuple 0 t l its.toArray n dd sl)
      ⟨ho, rfl, ⟨_, ho, rfl⟩, call_meets F.slot_tuple_mul ⟨_, ho, rfl⟩ F.entry_tuple_mul (F.args_tuple_mul_2 _ _) (tuple_mul0 l its.toArray n dd sl t hi) ⟨ho, ?_⟩⟩)
  refine ⟨.ref s.heap.objs.size, _, I.laid (t' := s.toks) (o := .tup []) (fun b ob q => Heap.get?_push_of_some _ q) (Nat.le_refl _) ?_, rfl, q _ (I.hok.fresh (Nat.le_refl _))⟩
  exact ⟨Nat.zero_le _, [], .nil, IsTup.new _ _⟩
def rRepU (K : PySem.W.Frag) : R2 := fun x y H Q => rRepT K x y H Q ∨ rRepT1 K x y H Q ∨ rRepT0 K x y H Q
theorem k_rep (K : PySem.W.Frag) (e : X.K = K) : OpR X (binaryOp .Mult) (rRepU K) := by
  subst e
  exact op_repT.or (op_repT1.or op_repT0)
end
end L2
namespace Rn
open PySem PySem.Spec L2 RT
theorem w_repU {K : PySem.W.Frag} {H : Hp} {Q : VK} {l : Addr} {v : V} {k : Int} (hl : SqT K H l [v]) (h1 : 1 ≤ k) (h2 : k ≤ 1000) (h : ∀ p H', Same H H' → SqT K H' p (List.replicate k.toNat v) → Q (.ref p) H') : rRepU K (.ref l) (.int k) H Q := by
  by_cases e : k = 1
  · subst e
    exact .inr (.inl ⟨l, _, rfl, rfl, hl, h l H (Same.refl H) hl⟩)
  · refine .inl ⟨l, k, _, rfl, rfl, hl, by simp, by omega, h2, by simp, fun p hp => h p _ (Same.new hp) ?_⟩
    have e2 : (List.replicate k.toNat [v]).flatten = List.replicate k.toNat v := by simp
    rw [e2]
    exact SqT.of upd_same
theorem w_repU0 {K : PySem.W.Frag} {H : Hp} {Q : VK} {l : Addr} {v : V} {k : Int} (hl : SqT K H l [v]) (h1 : 0 ≤ k) (h2 : k ≤ 1000) (h : ∀ p H', Same H H' → SqT K H' p (List.replicate k.toNat v) → Q (.ref p) H') : rRepU K (.ref l) (.int k) H Q := by
  by_cases e : k = 0
  · subst e
    exact .inr (.inr ⟨l, _, rfl, rfl, hl, by simp, fun p hp => h p _ (Same.new hp) (SqT.of upd_same)⟩)
  · exact w_repU hl (by omega) h2 h
end Rn
set_option Elab.async false
set_option linter.all false
set_option maxRecDepth 100000
set_option maxHeartbeats 4000000
/-! tuple(element for (number, item) in enumerate(a tuple)), the element's free names known -/
namespace Tg
open PySem PySem.Spec PyProof.Rows L2 Rn
/-- the generator expression's own scope: its two names, the walked thing at «.0», captured names -/
structure GenS2 (env : Env) (scope : Scope) (xa xb : Str) : Prop where
  kind : scope.kind = .function
  co : scope.isCoroutine = false
  cell : ∀ y ∈ scope.names, y.2 ≠ .cell
  dot : scope.names.lookup (".0" : Str) = some NameKind.local
  la : scope.names.lookup xa = some .local
  lb : scope.names.lookup xb = some .local
  ne : xa ≠ xb
  free : ∀ y ∈ scope.names, y.2 = .free → env.kindOf y.1 = some .cell
/-- the captured names' values stand in their cells -/
def FreeAt (cl : List (Str × Addr)) (fr : List (Str × V)) (h : Heap) : Prop := ∀ p ∈ fr, ∃ c u, cl.lookup p.1 = some c ∧ h.IsCell c (some u) ∧ RelV p.2 u
/-- the element, of the number i and the item x -/
def EltE (prog : Program) (w : World) (scope : Scope) (cl : List (Str × Addr)) (fr : List (Str × V)) (xa xb : Str) (elt : Expr) (f : Nat → V → V) : Prop :=
  ∀ (cenv : Env) (A' : Around) (E' : Value → Shared → Prop) (i : Nat) (x : V) (t : Tok) (u : Value) (s₂ : Shared) (m₂ : Str → Option Value), cenv.scope = scope → cenv.cells = cl → RelV x u → s₂.heap.Ns cenv.locals m₂ → m₂ xa = some (.int (i : Nat) t) → m₂ xb = some u → FreeAt cl fr s₂.heap →
    wpAny (model prog w) A' (eval elt cenv) (fun y s₃ => RelV (f i x) y ∧ Keeps s₂ s₃) E' s₂
theorem keeps_refl (s : Shared) : Keeps s s := ⟨s.heap, s.toks, rfl, fun _ _ e => e⟩
/-- fv if at == sl else held -/
theorem elt_put {prog : Program} {w : World} {scope : Scope} {cl : List (Str × Addr)} {xa xb ya yb : Str} {j : Int} {fv : V} {p1 p2 p3 p4 p5 p6 : Pos} (hk : scope.kind = .function) (hla : scope.names.lookup xa = some .local) (hlb : scope.names.lookup xb = some .local)
    (hfa : scope.names.lookup ya = some .free) (hfb : scope.names.lookup yb = some .free) (da : (xa == ("__debug__" : Str)) = false := by decide) (db : (xb == ("__debug__" : Str)) = false := by decide)
    (ea : (ya == ("__debug__" : Str)) = false := by decide) (eb : (yb == ("__debug__" : Str)) = false := by decide) (ca : (ya == ("__classdict__" : Str)) = false := by decide) (cb : (yb == ("__classdict__" : Str)) = false := by decide) :
    EltE prog w scope cl [(ya, .int j), (yb, fv)] xa xb (.IfExp (.Compare (.Name xa p1) [.Eq] [.Name ya p2] p3) (.Name yb p4) (.Name xb p5) p6) (fun i x => if (i : Int) = j then fv else x) := by
  intro cenv A' E' i x t u s₂ m₂ hs hc ru hn hma hmb hfr
  have hk' : cenv.scope.kind = .function := by rw [hs]; exact hk
  have la : cenv.kindOf xa = some .local := by show cenv.scope.names.lookup xa = _; rw [hs]; exact hla
  have lb : cenv.kindOf xb = some .local := by show cenv.scope.names.lookup xb = _; rw [hs]; exact hlb
  have lc : cenv.kindOf ya = some .free := by show cenv.scope.names.lookup ya = _; rw [hs]; exact hfa
  have ld : cenv.kindOf yb = some .free := by show cenv.scope.names.lookup yb = _; rw [hs]; exact hfb
  obtain ⟨c1, u1, k1, k2, k3⟩ := hfr (ya, .int j) (by simp)
  obtain ⟨c2, u2, q1, q2, q3⟩ := hfr (yb, fv) (by simp)
  obtain ⟨t1, rfl⟩ := (show ∃ t, u1 = Value.int j t from k3)
  refine wpAny_IfExp ?_
  refine wpAny_isTrue_Compare1 ?_
  refine wpAny_Name (wpAny_loadName_local hk' la hn hma ?_) da
  refine wpAny_Name (wpAny_loadName_free hk' lc (by rw [hc]; exact k1) k2 ?_ ca) ea
  refine wpAny_eq_int ?_
  refine wpAny_truthy_bool ?_
  by_cases e : (i : Int) = j
  · rw [beq_iff_eq.mpr e, if_pos rfl]
    exact wpAny_Name (wpAny_loadName_free hk' ld (by rw [hc]; exact q1) q2 ⟨by show L2.RelV (if (i : Int) = j then fv else x) _; rw [if_pos e]; exact q3, keeps_refl _⟩ cb) eb
  · rw [beq_eq_false_iff_ne.mpr e, if_neg Bool.false_ne_true]
    exact wpAny_Name (wpAny_loadName_local hk' lb hn hmb ⟨by show L2.RelV (if (i : Int) = j then fv else x) _; rw [if_neg e]; exact ru, keeps_refl _⟩) db
section
variable {X : Cx} {pins : List (Addr × Obj)} {σ : L2.St} {H : Hp} {s : Shared}
/-- the generator g over the tuple's items xs, ready to be walked, in the state s5; H1: what was held before -/
def ReadyE (X : Cx) (pins : List (Addr × Obj)) (σ : L2.St) (H1 : Hp) (P : Addr) (xs : List V) (f : Nat → V → V) (g : Addr) (s5 : Shared) : Prop :=
  ∃ (fp wr : List Addr) (G : Array GenState → Array GenState → Prop) (F : Nat → Value → Prop) (St : Nat → Shared → Prop),
    WalksS X.prog X.w X.A.in1.in1.in1 g fp wr G xs.length F St ∧ St 0 s5 ∧ (∀ b ∈ fp, b < s5.heap.objs.size) ∧ g ∈ fp ∧ (∀ i s9, St i s9 → s9.TypeIs (.ref g) "generator") ∧
    (∀ j v, F j v → ∃ x : V, xs[j]? = some x ∧ RelV (f j x) v) ∧
    ∀ s', Moved wr G s5 s' → ∃ H2, GxR.Tabbed P H1 H2 ∧ Inv X pins σ H2 s'

theorem gen_en {c P : Addr} {elt e : Expr} {xa xb : Str} {pa pb pt pe pc gpos : Pos} {kt : Nat} {scope : Scope} {fr : List (Str × V)} {f : Nat → V → V} {ta : TA} {k : Nat} {Q' : Value → Shared → Prop} {R : List V → Hp → Prop}
    (hr : Room k X.A) (hg : Gl X "enumerate") (hm : X.mg "enumerate" = none) (TB : GxR.TabB X.base X.mg c P) (hcode : X.env.code = .ref c) (S : GenS2 X.env scope xa xb) (ha : PA X [e] ta)
    (hel : EltE X.prog X.w scope (cloFrom X.env.cells scope.names []) fr xa xb elt f)
    (hs : ∀ v, genFold (.Call (.Name "enumerate" pe) [e] [] pc) X.env v = pure v) (hst : starEach [e] X.env = [(false, eval e X.env)]) (I : Inv X pins σ H s)
    (h : ta σ H fun vs H1 => ∃ (a : Addr) (xs : List V), vs = [.ref a] ∧ SqT X.K H1 a xs ∧ GxR.TabG H1 P ∧
      (∀ p ∈ fr, ∃ i : Nat, X.N[i]? = some p.1 ∧ σ[i]? = some (some p.2) ∧ X.env.kindOf p.1 = some .cell ∧ (cloFrom X.env.cells scope.names []).lookup p.1 = some ((X.env.cells.lookup p.1).getD 0)) ∧ R xs H1)
    (hQ : ∀ xs H1 g s5, xs.length ≤ sizeLine → R xs H1 → ReadyE X pins σ H1 P xs f g s5 → Q' (.ref g) s5) :
    wpAny (model X.prog X.w) X.A (eval (.GeneratorExp elt [⟨.Tuple [.Name xa pa, .Name xb pb] kt pt, .Call (.Name "enumerate" pe) [e] [] pc, [], 0⟩] scope gpos) X.env) Q' X.xe s := by
  have bo : bootBuiltins ("enumerate" : Str) = some (.type "enumerate") := by decide +kernel
  refine wpAny_GeneratorExp_walksQT hr.hd S.co (closure_ok fun y hy e => I.ok.has _ (.inl (S.free y hy e))) S.cell S.dot S.la S.lb S.ne S.kind (by have := hr.dp; omega) ?_ hs
  refine PyProof.Rows.Call_ (ld_blt I hg hm bo (PyProof.Rows.callWith_type1 (thn (ha.run pc pins s σ H _ I h) fun us s1 w1 => ?_) hst rfl))
  obtain ⟨vs, H1, I1, r1, a, xs, ex, hxs, ⟨ps, hP, ht⟩, hfr, q1⟩ := w1
  subst ex
  obtain ⟨u0, eu, ru⟩ := vals1 r1
  subst eu
  obtain rfl : u0 = .ref a := ru
  obtain ⟨its, rv, tu, hz⟩ := I1.tuple hxs
  have hlen : its.length = xs.length := rv.length.symm
  refine enum1_call (begins_tuple a its.toArray) tu fun g he hit hk => wpAny_pyIter_enum he ?_
  have he0 : IsEnum g (s1.heap.objs.size + 1) s1.heap.objs.size 0 .none := he
  have hne : s1.heap.objs.size + 1 ≠ s1.heap.objs.size := Nat.succ_ne_self _
  have hal : a < s1.heap.objs.size := by
    obtain ⟨_, q, _⟩ := tu
    exact Heap.lt_size q
  have na : a ≠ s1.heap.objs.size := Nat.ne_of_lt hal
  have nae : a ≠ s1.heap.objs.size + 1 := Nat.ne_of_lt (Nat.lt_succ_of_lt hal)
  have gsz : s1.heap.objs.size + 1 < g.objs.size := Heap.lt_size he
  have hPs : s1.heap.get? P = some { cls := .none, data := .fields ps } := I1.hok P _ hP
  have hPlt : P < s1.heap.objs.size := Heap.lt_size hPs
  have hP2 : g.get? P = some { cls := .none, data := .fields ps } := hk _ _ hPs
  have cd : PySem.W.CodeHd g c P := TB.code.keeps fun b u e => hk _ _ (I1.bk b u e)
  have lim2 : g.NoLimit := I1.nolimit.keeps hk
  have cont : ∀ (code : Value) (h3 : Heap) (tk : Nat) (ps' : Array Value), Heap.ExtBut P g h3 → g.objs.size ≤ h3.objs.size → h3.get? P = some { cls := .none, data := .fields ps' } → (∃ more, ps' = ps ++ more) → TriplesOk ps'.toList →
      wpAny (model X.prog X.w) X.A (builtinsFor X.env.globals X.env.builtins) (fun bi s₄ =>
        ∃ Ia fp wr n₀ Pt St₀ Mid pz F, Value.ref (s1.heap.objs.size + 1) = .ref Ia ∧ (∀ A' : Around, A'.handled = none → WalksU X.prog X.w A' Ia fp wr n₀ Pt St₀ Mid) ∧ (∀ i vals, Pt i vals → ∃ va vb, vals = #[va, vb]) ∧ St₀ 0 s₄.heap ∧ (∀ b ∈ fp, b < s₄.heap.objs.size) ∧ s₄.heap.NoLimit ∧ cStatics ∉ wr ∧
          (∀ href : Heap, (∀ b o, s₄.heap.get? b = some o → href.get? b = some o) →
            QuietGenT X.prog X.w (genEnv scope (cloFrom X.env.cells scope.names []) s₄.heap.objs.size code bi X.env) xa xb [] elt (List.range s₄.heap.objs.size) wr Pt pz F href) ∧
          (∀ a h₅ tk gs, gs.bare = true → s₄.heap.objs.size < a → h₅.objs.size = a + 1 → (∀ b o, s₄.heap.get? b = some o → h₅.get? b = some o) →
            WalksS X.prog X.w X.A.in4 a (a :: s₄.heap.objs.size :: List.range s₄.heap.objs.size) (s₄.heap.objs.size :: wr) (GenOnlyQ s₄.gens.size) (passing pz n₀ 0).length
              (fun j y => ∃ i, (passing pz n₀ 0)[j]? = some i ∧ F i y) (GenAt X.prog X.w X.A.in4 a s₄.gens.size s₄.heap.objs.size (List.range s₄.heap.objs.size) wr pz n₀ F) →
            GenAt X.prog X.w X.A.in4 a s₄.gens.size s₄.heap.objs.size (List.range s₄.heap.objs.size) wr pz n₀ F 0 { s₄ with gens := s₄.gens.push gs, toks := tk, heap := h₅ } →
            Q' (.ref a) { s₄ with gens := s₄.gens.push gs, toks := tk, heap := h₅ })) X.xe { s1 with heap := h3, toks := tk } := by
    intro code h3 tk ps' hx hsz hP3 hmore ht3
    obtain ⟨bm, ob, e1, e2, e3, e4, e5, e6, e7, e8⟩ := TB.bm
    have hcP : cStatics ≠ P := fun e => by
      obtain ⟨_, hns, _⟩ := I1.nolimit
      obtain ⟨o', es, ep, ho, hd, _⟩ := hns
      rw [e, hPs] at ho
      cases ho
      cases hd
    have hcl : cStatics < s1.heap.objs.size := let ⟨_, hns, _⟩ := I1.nolimit; hns.lt
    have keep3 : ∀ b u, b ≠ P → s1.heap.get? b = some u → h3.get? b = some u := fun b u hb e => hx b u hb (hk _ _ e)
    refine wpAny_builtinsFor (m := X.mg) (by rw [I1.ok.glob]; exact ((I1.mod.glob.keeps I1.bk).keeps hk).extBut hx TB.gP) e1 e2 (keep3 _ _ e4 (I1.bk _ _ e5)) e6 e7 e8 ?_
    have haP : a ≠ P := fun z => by
      obtain ⟨_, e, hc1, _, hd1⟩ := _root_.id tu
      rw [z, hPs] at e
      cases e
      cases hd1
    have tu3 : h3.IsTuple a its.toArray := by
      obtain ⟨ob, e, r⟩ := _root_.id tu
      exact ⟨ob, keep3 _ _ haP e, r⟩
    have hit3 : h3.IsTupleIter s1.heap.objs.size a 0 := ⟨_, hx _ _ (Nat.ne_of_gt hPlt) hit, rfl, rfl⟩
    have he3 : IsEnum h3 (s1.heap.objs.size + 1) s1.heap.objs.size 0 .none := hx _ _ (Nat.ne_of_gt (Nat.lt_succ_of_lt hPlt)) he0
    have frAt : ∀ h' : Heap, (∀ b o, b < h3.objs.size → b ∉ [s1.heap.objs.size + 1, s1.heap.objs.size] → h3.get? b = some o → h'.get? b = some o) → FreeAt (cloFrom X.env.cells scope.names []) fr h' := fun h' hk' p hp => by
      obtain ⟨i, n1, n2, n3, n4⟩ := hfr p hp
      obtain ⟨m, _, lo⟩ := I1.loc
      obtain ⟨u, ru, lk⟩ := lo i p.1 p.2 n1 n2 (.inr (.inl n3))
      rcases lk with ⟨z, _⟩ | ⟨_, cc, lc, ob, oc, od⟩
      · rw [n3] at z
        cases z
      · refine ⟨cc, u, by rw [n4, lc] <;> rfl, ⟨ob, ?_, od⟩, ru⟩
        have lt := Heap.lt_size oc
        have ncP : cc ≠ P := fun z => by
          have := I1.freeC _ _ lc
          rw [z, hP] at this
          cases this
        have lt' : (cc : Nat) < s1.heap.objs.size := lt
        refine hk' cc ob (Nat.lt_of_lt_of_le (Nat.lt_trans lt (Nat.lt_of_succ_lt gsz)) hsz) (fun z => ?_) (keep3 _ _ ncP oc)
        rcases List.mem_cons.mp z with z | z
        · exact Nat.ne_of_lt (Nat.lt_succ_of_lt lt) z
        · rcases List.mem_cons.mp z with z | z
          · exact Nat.ne_of_lt lt z
          · cases z
    refine ⟨s1.heap.objs.size + 1, (s1.heap.objs.size + 1) :: [s1.heap.objs.size, a], [s1.heap.objs.size + 1, s1.heap.objs.size], its.toArray.size, _, _, _, (fun _ => true),
      (fun i y => ∃ x : V, xs[i]? = some x ∧ RelV (f i x) y), rfl, (fun A' hA => (WalksT.enumerateD (Draws.tuple (A := A'.in1) hA s1.heap.objs.size a na its.toArray) (s1.heap.objs.size + 1) hne (by simp [Ne.symm nae]) (by simp)).toU), ?_, ⟨⟨_, he3⟩, hit3, tu3⟩, ?_, lim2.extBut hx hcP, ?_, ?_, ?_⟩
    · rintro i vals ⟨t, x, _, e⟩
      exact ⟨_, _, e⟩
    · intro b hb
      show (b : Nat) < h3.objs.size
      have hal' : (a : Nat) < s1.heap.objs.size := hal
      rcases List.mem_cons.mp hb with z | z
      · exact z ▸ Nat.lt_of_lt_of_le gsz hsz
      · rcases List.mem_cons.mp z with z | z
        · exact z ▸ Nat.lt_of_lt_of_le (Nat.lt_of_succ_lt gsz) hsz
        · rcases List.mem_cons.mp z with z | z
          · exact z ▸ Nat.lt_trans hal (Nat.lt_of_lt_of_le (Nat.lt_of_succ_lt gsz) hsz)
          · cases z
    · intro z
      rcases List.mem_cons.mp z with z | z
      · exact Nat.ne_of_lt (Nat.lt_succ_of_lt hcl) z
      · rcases List.mem_cons.mp z with z | z
        · exact Nat.ne_of_lt hcl z
        · cases z
    · intro href hhref
      refine ⟨fun A' E' i va vb s₂ m₂ hA hPv hn hma hmb hkp => ?_, fun A' E' i va vb s₂ m₂ hA hPv hp hn hma hmb hkp => ?_⟩
      · simp only [List.forIn_nil]
        exact wpAny_pure ⟨rfl, keeps_refl _⟩
      · obtain ⟨t, x, hx1, e⟩ := hPv
        obtain ⟨ea, eb⟩ : va = .int i t ∧ vb = x := by simpa using congrArg Array.toList e
        subst ea eb
        have hv2 : its[i]? = some vb := by simpa using hx1
        have hi2 : i < its.length := (List.getElem?_eq_some_iff.mp hv2).1
        obtain ⟨x, hxx⟩ : ∃ x, xs[i]? = some x := ⟨xs[i]'(by omega), List.getElem?_eq_getElem _⟩
        obtain ⟨u, hu, ru⟩ := rv.get hxx
        rw [hv2] at hu
        cases hu
        refine wpAny_mono (hel _ A' E' i x t vb s₂ m₂ rfl rfl ru hn hma hmb (frAt _ fun b o hlt hb e => hkp b (List.mem_range.mpr hlt) hb o (hhref b o e))) (fun y s3 r => ⟨⟨x, hxx, r.1⟩, r.2⟩) fun _ _ e => e
    · intro g0 h5 tk5 gs hgb hag hsz5 hk5 W5 hgat
      simp only [GxR.passing_true, List.length_range] at W5
      have hn5 : its.toArray.size = xs.length := by rw [List.size_toArray, hlen]
      rw [hn5] at W5 hgat
      refine hQ xs H1 g0 _ hz q1 ⟨_, _, _, _, _, W5.in4_3, hgat, ?_, List.mem_cons_self, fun i s9 h9 => ?_, ?_, fun s' hm => ?_⟩
      · intro b hb
        show b < h5.objs.size
        have e5 : h5.objs.size = g0 + 1 := hsz5
        have h8 : h3.objs.size < g0 := hag
        rw [e5]
        rcases List.mem_cons.mp hb with z | z
        · rw [z]
          exact Nat.lt_succ_self g0
        · rcases List.mem_cons.mp z with z | z
          · rw [z]
            exact Nat.lt_succ_of_lt h8
          · have z2 := List.mem_range.mp z
            have h7 : b < h3.objs.size := z2
            exact Nat.lt_succ_of_lt (Nat.lt_trans h7 h8)
      · obtain ⟨hg9, _⟩ := h9
        exact hg9.typeIs
      · intro j v hv
        obtain ⟨i, hij, x, hx1, e⟩ := hv
        obtain ⟨hj, ej⟩ := List.getElem?_eq_some_iff.mp hij
        rw [List.getElem_range] at ej
        subst ej
        exact ⟨x, hx1, e⟩
      · obtain ⟨more, em⟩ := hmore
        have nwr : ∀ b u, s1.heap.get? b = some u → b ∉ h3.objs.size :: [s1.heap.objs.size + 1, s1.heap.objs.size] := fun b u e hb => by
          have hl := Heap.lt_size e
          rcases List.mem_cons.mp hb with z | z
          · rw [z] at hl
            exact Nat.lt_irrefl _ (Nat.lt_trans (Nat.lt_of_lt_of_le (Nat.lt_of_succ_lt gsz) hsz) hl)
          · have hl' : (b : Nat) < s1.heap.objs.size := hl
            rcases List.mem_cons.mp z with z | z
            · exact Nat.ne_of_lt (Nat.lt_succ_of_lt hl) z
            · rcases List.mem_cons.mp z with z | z
              · exact Nat.ne_of_lt hl z
              · cases z
        have J := GxR.inv_tab (more := more) (h' := s'.heap) (g' := s'.gens) (d' := s'.drawn) (t' := s'.toks) I1 hP (fun b u hb e => hm.heap b u (nwr b u e) (hk5 b u (keep3 b u hb e)))
          (by rw [← em]; exact hm.heap P _ (nwr P _ hPs) (hk5 P _ hP3)) (AllBare.movedS (I1.bare.push hgb) hm)
        rw [GxR.sh_eta s1 s' hm.os] at J
        refine ⟨upd H1 P (.tbl (ps ++ more)), ⟨⟨ps ++ more, upd_same, by rw [← em]; exact ht3⟩, fun b hb => upd_ne hb⟩, J⟩
  refine ⟨lim2, ?_⟩
  cases hf : codeAmong gpos ps.toList with
  | none =>
    refine wpAny_genexprCodeX hcode (cd.code hP2 ht) (cd.tab hP2) hf fun c' h' tk hx hge hlt hco' _ htab' _ => ?_
    obtain ⟨o1, vs, f1, tf, fl, tg, inF, tx, tt, op, _, _, _, _, _, _, _, _, _, htr, _⟩ := hco'
    exact cont _ h' tk _ hx (Nat.le_trans hge (Nat.le_of_lt hlt)) htab'.2 ⟨_, rfl⟩ htr
  | some cv =>
    refine wpAny_genexprCode_hit hcode (cd.code hP2 ht) hf ?_
    exact cont cv g s1.toks ps (Heap.ExtBut.refl _ _) (Nat.le_refl _) hP2 ⟨#[], by simp⟩ ht

theorem vals_at : ∀ {xs : List V} {vs : List Value}, xs.length = vs.length → (∀ (i : Nat) (x : V), xs[i]? = some x → ∃ v, vs[i]? = some v ∧ RelV x v) → Vals xs vs
  | [], [], _, _ => .nil
  | x :: xs, v :: vs, h, k => .cons (by
      obtain ⟨u, e, r⟩ := k 0 x rfl
      cases e
      exact r) (vals_at (by simpa using h) fun i y hy => k (i + 1) y hy)
/-- f over the items, by their numbers -/
def mapE (f : Nat → V → V) (xs : List V) : List V := xs.mapIdx f
/-- tuple(elt for xa, xb in enumerate(e)) -/
def tTupE (X : Cx) (P : Addr) (scope : Scope) (fr : List (Str × V)) (f : Nat → V → V) (ta : TA) : TE := fun σ H Q => ta σ H fun vs H1 => ∃ (a : Addr) (xs : List V), vs = [.ref a] ∧ SqT X.K H1 a xs ∧ GxR.TabG H1 P ∧
  (∀ p ∈ fr, ∃ i : Nat, X.N[i]? = some p.1 ∧ σ[i]? = some (some p.2) ∧ X.env.kindOf p.1 = some .cell ∧ (cloFrom X.env.cells scope.names []).lookup p.1 = some ((X.env.cells.lookup p.1).getD 0)) ∧
  ∀ H2 p, GxR.Tabbed P H1 H2 → H2 p = none → Q (.ref p) (upd H2 p (.tup (mapE f xs)))
theorem pe_tupE {c P : Addr} {elt e : Expr} {xa xb : Str} {pa pb pt pe pc gpos pn pos : Pos} {kt : Nat} {scope : Scope} {fr : List (Str × V)} {f : Nat → V → V} {ta : TA} {k : Nat}
    (hr : Room k X.A) (hg : Gl X "enumerate") (hm : X.mg "enumerate" = none) (hgt : Gl X "tuple") (hmt : X.mg "tuple" = none) (TB : GxR.TabB X.base X.mg c P) (hcode : X.env.code = .ref c) (S : GenS2 X.env scope xa xb) (ha : PA X [e] ta)
    (hel : EltE X.prog X.w scope (cloFrom X.env.cells scope.names []) fr xa xb elt f)
    (hs : ∀ v, genFold (.Call (.Name "enumerate" pe) [e] [] pc) X.env v = pure v := by intro v; rfl) (hst : starEach [e] X.env = [(false, eval e X.env)] := by rfl)
    (he : starEach [.GeneratorExp elt [⟨.Tuple [.Name xa pa, .Name xb pb] kt pt, .Call (.Name "enumerate" pe) [e] [] pc, [], 0⟩] scope gpos] X.env = (false, eval (.GeneratorExp elt [⟨.Tuple [.Name xa pa, .Name xb pb] kt pt, .Call (.Name "enumerate" pe) [e] [] pc, [], 0⟩] scope gpos) X.env) :: starEach [] X.env := by rfl) :
    PE X (.Call (.Name "tuple" pn) [.GeneratorExp elt [⟨.Tuple [.Name xa pa, .Name xb pb] kt pt, .Call (.Name "enumerate" pe) [e] [] pc, [], 0⟩] scope gpos] [] pos) (tTupE X P scope fr f ta) := by
  refine ⟨fun pins s σ H Q I h => ?_⟩
  have bo : bootBuiltins ("tuple" : Str) = some (.type "tuple") := by decide +kernel
  refine wpAny_Call_Name_kw (ld_blt I hgt hmt bo ?_)
  refine PyProof.Rows.callWith_type1 ?_ he (by rfl)
  rw [he]
  show wpAny _ _ (spliced ((false, eval (.GeneratorExp elt [⟨.Tuple [.Name xa pa, .Name xb pb] kt pt, .Call (.Name "enumerate" pe) [e] [] pc, [], 0⟩] scope gpos) X.env) :: backTo pos (starEach [] X.env))) _ _ s
  refine Calls.spliced_cons (gen_en (R := fun xs H1 => ∀ H2 p, GxR.Tabbed P H1 H2 → H2 p = none → Q (.ref p) (upd H2 p (.tup (mapE f xs)))) hr hg hm TB hcode S ha hel hs hst I h fun xs H1 g s5 jl jq hG => ?_)
  refine Calls.spliced_nil ?_
  obtain ⟨fp, wr, G, F, St, W, hst0, hfp, hgi, hT, hF, hinv⟩ := hG
  refine call_tuple_gen W hT hst0 hfp hgi (fun s' acc hmv hio => ?_) jl
  obtain ⟨H2, ht, J⟩ := hinv s' hmv
  obtain ⟨its, rfl⟩ : ∃ its : List Value, acc = its.toArray := ⟨acc.toList, by simp⟩
  have hz2 : its.length = xs.length := by simpa using hio.1
  have rel : Vals (mapE f xs) its := vals_at (by unfold mapE; rw [List.length_mapIdx, hz2]) fun i x hx => by
    unfold mapE at hx
    rw [List.getElem?_mapIdx] at hx
    have hi : i < xs.length := by
      refine Nat.lt_of_not_le fun z => ?_
      rw [List.getElem?_eq_none z] at hx
      cases hx
    obtain ⟨v, hv⟩ : ∃ v, its[i]? = some v := ⟨its[i]'(by omega), List.getElem?_eq_getElem _⟩
    obtain ⟨y, hy, r⟩ := hF i v (hio.2 i v (by simpa using hv))
    rw [hy] at hx
    cases hx
    exact ⟨v, hv, r⟩
  have hzz : (mapE f xs).length ≤ sizeLine := by unfold mapE; rw [List.length_mapIdx]; exact jl
  have J2 : Inv X pins σ (upd H2 s'.heap.objs.size (.tup (mapE f xs))) { s' with heap := s'.heap.push { cls := .type "tuple", data := .seq its.toArray } } :=
    J.laid (t' := s'.toks) (fun b o e => Heap.get?_push_of_some _ e) (Nat.le_refl _) (show ObjOk X.prog X.w _ _ _ (.tup (mapE f xs)) from ⟨hzz, its, rel, IsTup.new _ _⟩)
  exact ⟨.ref s'.heap.objs.size, _, J2, rfl, jq H2 _ ht (J.hok.fresh (Nat.le_refl _))⟩
end
/-- all stays but what the table at P holds, and it stays a table -/
def NoTab : HO → Prop
  | .tbl _ => False
  | _ => True
structure SmT (P : Addr) (H H' : Hp) : Prop where
  keep : ∀ b x, (b ≠ P ∨ NoTab x) → H b = some x → H' b = some x
  tab : ∀ ps, H P = some (.tbl ps) → ∃ ps', H' P = some (.tbl ps') ∧ (TriplesOk ps.toList → TriplesOk ps'.toList)
theorem SmT.refl {P : Addr} (H : Hp) : SmT P H H := ⟨fun _ _ _ h => h, fun ps h => ⟨ps, h, id⟩⟩
theorem SmT.trans {P : Addr} {A B C : Hp} (x : SmT P A B) (y : SmT P B C) : SmT P A C := ⟨fun b o n h => y.keep b o n (x.keep b o n h), fun ps h => by
  obtain ⟨p1, h1, k1⟩ := x.tab ps h
  obtain ⟨p2, h2, k2⟩ := y.tab p1 h1
  exact ⟨p2, h2, k2 ∘ k1⟩⟩
theorem _root_.L2.Same.smt {P : Addr} {H H' : Hp} (e : Same H H') : SmT P H H' := ⟨fun b x _ h => e b x h, fun ps h => ⟨ps, e _ _ h, id⟩⟩
theorem SmT.of_tabbed {P : Addr} {H H' : Hp} (hP : GxR.TabG H P) (h : GxR.Tabbed P H H') : SmT P H H' := by
  obtain ⟨ps, e, t⟩ := hP
  obtain ⟨⟨ps', e', t'⟩, k⟩ := h
  refine ⟨fun b x n hb => ?_, fun qs hb => ⟨ps', e', fun _ => t'⟩⟩
  have ne : b ≠ P := fun z => by
    rcases n with n | n
    · exact n z
    · rw [z, e] at hb
      cases hb
      exact n
  rw [k b ne]
  exact hb
theorem SmT.tabG {P Q : Addr} {H H' : Hp} (e : SmT P H H') (h : GxR.TabG H Q) : GxR.TabG H' Q := by
  obtain ⟨ps, a, t⟩ := h
  by_cases z : Q = P
  · subst z
    obtain ⟨ps', b, k⟩ := e.tab ps a
    exact ⟨ps', b, k t⟩
  · exact ⟨ps, e.keep Q _ (.inl z) a, t⟩
theorem SmT.free {P b : Addr} {H H' : Hp} (e : SmT P H H') (h : H' b = none) : H b = none := by
  cases hp : H b with
  | none => rfl
  | some x =>
    by_cases n : b ≠ P ∨ NoTab x
    · rw [e.keep b x n hp] at h
      cases h
    · have z : b = P := Classical.not_not.mp fun z => n (.inl z)
      subst z
      cases x with
      | tbl ps =>
        obtain ⟨ps', c, _⟩ := e.tab ps hp
        rw [c] at h
        cases h
      | _ => exact absurd (.inr trivial) n
theorem SmT.tn {P : Addr} {H H' : Hp} (e : SmT P H H') : Tn H H' := fun a xs h => by
  rcases h with h | ⟨o, h⟩
  · exact .inl (e.keep _ _ (.inr trivial) h)
  · exact .inr ⟨o, e.keep _ _ (.inr trivial) h⟩
theorem SmT.l {P : Addr} {H H' : Hp} (e : SmT P H H') {b : Addr} {xs : List V} (h : H b = some (.lst xs)) : H' b = some (.lst xs) := e.keep _ _ (.inr trivial) h
theorem SmT.t {P : Addr} {H H' : Hp} (e : SmT P H H') {b : Addr} {xs : List V} (h : H b = some (.tup xs)) : H' b = some (.tup xs) := e.keep _ _ (.inr trivial) h
theorem SmT.d {P : Addr} {H H' : Hp} (e : SmT P H H') {b : Addr} {xs : List (Key × V)} (h : H b = some (.dK xs)) : H' b = some (.dK xs) := e.keep _ _ (.inr trivial) h
theorem genS2_by {env : Env} {scope : Scope} {xa xb : Str} (h1 : scope.kind = .function) (h2 : scope.isCoroutine = false) (h3 : (scope.names.all fun y => y.2 != .cell) = true) (h4 : scope.names.lookup (".0" : Str) = some NameKind.local)
    (h5 : scope.names.lookup xa = some .local) (h6 : scope.names.lookup xb = some .local) (h7 : xa ≠ xb) (h8 : (scope.names.all fun y => y.2 != .free || env.scope.names.lookup y.1 == some .cell) = true) : GenS2 env scope xa xb where
  kind := h1
  co := h2
  cell := fun y hy e => by
    have := List.all_eq_true.mp h3 y hy
    rw [e] at this
    cases this
  dot := h4
  la := h5
  lb := h6
  ne := h7
  free := fun y hy e => by
    have := List.all_eq_true.mp h8 y hy
    rw [e] at this
    rcases (Bool.or_eq_true _ _).mp this with z | z
    · cases z
    · exact beq_iff_eq.mp z
section
variable {P : Program} {w : World} {K : PySem.W.Frag} {mg : Str → Option Value} {base : Heap}
/-- Fun.ok, Fun.okX, the code object told -/
theorem _root_.L2.Fun.okC {x qual : Str} {st : Stmt} {f : Addr} {fd : FuncData} {N ps : List Str} {k : Nat} {sp : Sp} (F : Fun K x qual st f fd) (S : FnScope N ps (defScope st)) (len : ∀ vs H Q E, sp vs H Q E → vs.length = ps.length)
    (hbody : ∀ (cdv : Value) (_ : fd.code = cdv) (A : Around) (outer : List Env) (s : Shared) (H : Hp) (vs : List V) (Q : VK) (E : XK), Room k (A.deeper (envOfC qual (defScope st) s.heap.objs.size f cdv)) → sp vs H Q E →
      ∃ t, PSs (cxOf CX0 P w K mg base N qual (defScope st) f cdv A outer s H E).nox (defBody st) t ∧ t { nx := fun _ H' => Q .non H', rt := Q } (start N vs) H) : FnOk P w K mg base CX0 (k + 1) f fd ps sp := by
  obtain ⟨oc, od, kV, doc, pm, an, cdv, ct, osl, rfl, lk, hcd⟩ := F.ex
  refine fn_of lk hcd S len fun A outer s H vs Q E hr hsp => ?_
  obtain ⟨t, h, q⟩ := hbody cdv rfl A outer s H vs Q E hr hsp
  exact ⟨t, h.nox, q⟩
theorem _root_.L2.Fun.okXC {x qual : Str} {st : Stmt} {f : Addr} {fd : FuncData} {N ps : List Str} {k : Nat} {sp : Sp} (F : Fun K x qual st f fd) (S : FnScope N ps (defScope st)) (len : ∀ vs H Q E, sp vs H Q E → vs.length = ps.length)
    (hbody : ∀ (cdv : Value) (_ : fd.code = cdv) (A : Around) (outer : List Env) (s : Shared) (H : Hp) (vs : List V) (Q : VK) (E : XK), Room k (A.deeper (envOfC qual (defScope st) s.heap.objs.size f cdv)) → sp vs H Q E →
      ∃ t, PSs (cxOf (L2.CX P w) P w K mg base N qual (defScope st) f cdv A outer s H E) (defBody st) t ∧ t { nx := fun _ H' => Q .non H', rt := Q } (start N vs) H) : FnOk P w K mg base (L2.CX P w) (k + 1) f fd ps sp := by
  obtain ⟨oc, od, kV, doc, pm, an, cdv, ct, osl, rfl, lk, hcd⟩ := F.ex
  exact fn_of lk hcd S len fun A outer s H vs Q E hr hsp => hbody cdv rfl A outer s H vs Q E hr hsp
end
/-- the reading's question -/
theorem w_tupE {X : Cx} {P : Addr} {scope : Scope} {fr : List (Str × V)} {f : Nat → V → V} {ta : TA} {σ : L2.St} {H : Hp} {Q : VK} (h : ta σ H fun vs H1 => ∃ (a : Addr) (xs : List V), vs = [.ref a] ∧ SqT X.K H1 a xs ∧ GxR.TabG H1 P ∧
  (∀ p ∈ fr, ∃ i : Nat, X.N[i]? = some p.1 ∧ σ[i]? = some (some p.2) ∧ X.env.kindOf p.1 = some .cell ∧ (cloFrom X.env.cells scope.names []).lookup p.1 = some ((X.env.cells.lookup p.1).getD 0)) ∧
  ∀ H2 p, GxR.Tabbed P H1 H2 → H2 p = none → Q (.ref p) (upd H2 p (.tup (mapE f xs)))) : tTupE X P scope fr f ta σ H Q := h
theorem map_put (S : List Int) (i f : Int) (h : 0 ≤ i) : mapE (fun n x => if (n : Int) = i then V.int f else x) (S.map V.int) = (S.set i.toNat f).map V.int := by
  unfold mapE
  apply List.ext_getElem?
  intro n
  rw [List.getElem?_mapIdx, List.getElem?_map, List.getElem?_map, List.getElem?_set]
  by_cases e : i.toNat = n
  · subst e
    rw [if_pos rfl]
    by_cases hl : i.toNat < S.length
    · rw [if_pos hl, List.getElem?_eq_getElem hl]
      show some (if ((i.toNat : Nat) : Int) = i then _ else _) = _
      rw [if_pos (by omega)] <;> rfl
    · rw [if_neg hl, List.getElem?_eq_none (by omega)] <;> rfl
  · rw [if_neg e]
    cases S[n]? with
    | none => rfl
    | some y =>
      show some (if (n : Int) = i then _ else _) = _
      rw [if_neg (by omega)] <;> rfl
theorem each_nil {α : Type} {p : α → Prop} : ∀ x ∈ ([] : List α), p x := fun _ h => nomatch h
theorem each_cons {α : Type} {p : α → Prop} {a : α} {r : List α} (h : p a) (k : ∀ x ∈ r, p x) : ∀ x ∈ a :: r, p x := fun x hx => by
  rcases List.mem_cons.mp hx with e | e
  · rw [e]
    exact h
  · exact k x e
theorem tabG0 {H : Hp} {P : Addr} (h : H P = some (.tbl #[])) : GxR.TabG H P := ⟨#[], h, by trivial⟩
theorem genS_by {env : Env} {scope : Scope} {x : Str} (h1 : scope.kind = .function) (h2 : scope.isCoroutine = false) (h3 : (scope.names.all fun y => y.2 != .cell) = true) (h4 : scope.names.lookup (".0" : Str) = some NameKind.local)
    (h5 : scope.names.lookup x = some .local) (h6 : (scope.names.all fun y => y.2 != .free) = true) : GxR.GenS env scope x where
  kind := h1
  co := h2
  cell := fun y hy e => by
    have := List.all_eq_true.mp h3 y hy
    rw [e] at this
    cases this
  dot := h4
  loc := h5
  free := fun y hy e => by
    have := List.all_eq_true.mp h6 y hy
    rw [e] at this
    cases this
end Tg
set_option Elab.async false
set_option linter.all false
set_option maxRecDepth 100000
set_option maxHeartbeats 4000000
/-! the end where defs of the program hold generator expressions -/
namespace Tg
open PySem PySem.Spec PyProof.Rows L2 Rn LamX
theorem tab_of {base : Heap} {mg : Str → Option Value} {c P : Addr} (h : LamX.TabB base mg c P) : GxR.TabB base mg c P := ⟨h.code, h.bm, h.gP⟩
theorem tabIn_of {K : PySem.W.Frag} {x : Str} {f c P : Addr} {oc : Value} {od : Option Addr} {fd : FuncData} {osl : Array (Option Value)} {e : Value} {dd : Option Addr} {vs : Array Value} {sl : Array (Option Value)} (a : PySem.W.nsIn K mainGlobals x = some (some (.ref f))) (l : K.lookup f = some ⟨oc, od, .func fd, osl⟩)
    (j : fd.code = .ref c) (w : K.lookup c = some ⟨e, dd, .fields vs, sl⟩) (u : vs[11]? = some (.ref P)) : PySem.W.tabIn K x = some (c, P) := by
  unfold PySem.W.tabIn
  rw [a]
  simp only [l, j, w, u]
theorem walk_ofTab {l : PySem.W.OpenLaw} {n k : Nat} {q : Program} {loose : List Str} {XP : (Str → Option Value) → Heap → Prop} {YP : World → Heap → Prop} {d : DefRec} {K : Params → PySem.W.Frag} {CX : World → CXT} {x : Str} (names : List Str)
    (hn : l.most = some n) (hn2 : n ≤ sizeLine) (hdf : d.params.defaults = []) (hr : Room k callerA) (hrec : (names.all fun x => ((recsOf q).find? fun e => e.name == x).isSome) = true) (hY : ∀ (w : World) (h : Heap), YP w h → (K w.params).In h)
    (F : ∀ (w : World) (mg : Str → Option Value) (fa : Addr) (h : Heap), (K w.params).In h → h.Ns mainGlobals mg → mg d.name = some (.ref fa) →
      (∀ x ∈ names, ∀ c P : Addr, PySem.W.tabIn (K w.params) x = some (c, P) → PySem.W.CodeHd h c P ∧ h.get? P = some { cls := .none, data := .fields #[] }) → LawAtS l w (K w.params) (CX w) k n x mg fa h)
    (hCX : ∀ (w : World) (H : Hp) (s : Shared) (e : Value) (s' : Shared), CX w [] H s (fun _ _ _ => False) e s' → False) :
    PySem.W.WalkO q loose XP YP l.row.toRowW d [] (fun f vs => PySem.call f vs) := by
  refine Att.attach_callB hn hdf fun w s₀ s₁ mg mb fa o pm cd doc a vs ns G Y ho hd hcd hmg hobj hints hlen hbits hg => ?_
  have KX := hY w _ Y
  obtain ⟨fd, cs, sp, hT, nT, C, hb, hsp, hF⟩ := F w mg fa _ KX G.T.g hmg fun x hx c P e => by
    have h1 := List.all_eq_true.mp hrec x hx
    obtain ⟨dd, h2⟩ := Option.isSome_iff_exists.mp h1
    exact PySem.W.tab_of G.T KX h2 e
  exact law_callTs KX G.T.g G.T.b G.T.builtins G.T.nolimit hg hT nT C G.T.bmain hobj hints (Nat.le_trans hlen hn2) hr hF hb (fun H hH hS => hsp H a ns hlen hbits hH hS) fun H e s' => hCX w H s₁ e s'
end Tg
set_option Elab.async false
set_option linter.all false
set_option maxRecDepth 100000
set_option maxHeartbeats 4000000
/-! all(a sign's test by a module's text for the sign in a text); dicts, two words in a case, what is never reached -/
namespace Tg
open PySem PySem.Spec PyProof.Rows L2 Rn
/-- the element: a test of the sign c, which may read the module's names -/
def EltG (X : Cx) (scope : Scope) (x : Str) (elt : Expr) (pb : Nat → Bool) : Prop :=
  ∀ (cenv : Env) (A' : Around) (E' : Value → Shared → Prop) (c : Nat) (t : Tok) (s₂ : Shared) (m₂ : Str → Option Value), cenv.scope = scope → cenv.globals = mainGlobals → s₂.heap.Ns mainGlobals X.mg → s₂.heap.Ns cenv.locals m₂ → m₂ x = some (.str ⟨#[c]⟩ t) →
    wpAny (model X.prog X.w) A' (eval elt cenv) (fun y s₃ => y = .bool (pb c) ∧ Keeps s₂ s₃) E' s₂
/-- x in TEXT -/
theorem elt_inG {X : Cx} {scope : Scope} {x g z : Str} {u : Tok} {p1 p2 p3 : Pos} (hk : scope.kind = .function) (hl : scope.names.lookup x = some .local) (hg : (genEnv scope [] 0 .none 0 X.env).kindOf g = some .globalImplicit) (hm : X.mg g = some (.str z u))
    (hd : (x == ("__debug__" : Str)) = false := by decide) (hdg : (g == ("__debug__" : Str)) = false := by decide) :
    EltG X scope x (.Compare (.Name x p1) [.In] [.Name g p2] p3) (fun c => Txt.contains z ⟨#[c]⟩) := by
  intro cenv A' E' c t s₂ m₂ hs hgl hG hn hm2
  refine wpAny_Compare1 ?_ (by rfl)
  refine wpAny_Name (wpAny_loadName_local (by rw [hs]; exact hk) (show cenv.scope.names.lookup x = some .local by rw [hs]; exact hl) hn hm2 ?_) hd
  refine Calls.Name_function_global (by rw [hs]; exact hk) (show cenv.kindOf g = _ by show cenv.scope.names.lookup g = _; rw [hs]; exact hg) (Calls.loadGlobal_global (by rw [hgl]; exact hG) hm ?_) hdg
  exact PySem.SB.contains ⟨rfl, keeps_refl _⟩
section
variable {X : Cx} {pins : List (Addr × Obj)} {σ : L2.St} {H : Hp} {s : Shared}
theorem gen_strG {c P : Addr} {elt iter : Expr} {x : Str} {px gpos : Pos} {scope : Scope} {pb : Nat → Bool} {te : TE} {k : Nat} {Q' : Value → Shared → Prop} {R : Str → Hp → Prop}
    (hr : Room k X.A) (TB : GxR.TabB X.base X.mg c P) (hcode : X.env.code = .ref c) (S : GxR.GenS X.env scope x) (hi : PE X iter te) (hel : EltG X scope x elt pb)
    (hs : ∀ v, genFold iter X.env v = pure v) (I : Inv X pins σ H s) (h : te σ H fun v H1 => ∃ a : Str, v = .str a ∧ GxR.TabG H1 P ∧ R a H1)
    (hQ : ∀ a H1 g s5, R a H1 → GxR.Ready X pins σ H1 P a pb g s5 → Q' (.ref g) s5) :
    wpAny (model X.prog X.w) X.A (eval (.GeneratorExp elt [⟨.Name x px, iter, [], 0⟩] scope gpos) X.env) Q' X.xe s := by
  refine wpAny_GeneratorExp_walksQ hr.hd S.co (closure_ok S.free) S.cell S.dot S.loc S.kind (by have := hr.dp; omega) ?_ hs
  refine thn (hi.run pins s σ H _ I h) fun xv s1 ⟨v, H1, I1, r1, q1⟩ => ?_
  obtain ⟨a, rfl, ⟨ps, hP, ht⟩, q1⟩ := q1
  obtain ⟨t, rfl⟩ := _root_.id r1
  refine wpAny_pyIter_str fun o St W hst => ?_
  have hPs : s1.heap.get? P = some { cls := .none, data := .fields ps } := I1.hok P _ hP
  have hPlt : P < s1.heap.objs.size := Heap.lt_size hPs
  have hP2 : (s1.heap.push o).get? P = some { cls := .none, data := .fields ps } := Heap.get?_push_of_some _ hPs
  have cd : PySem.W.CodeHd (s1.heap.push o) c P := TB.code.keeps fun b u e => Heap.get?_push_of_some _ (I1.bk b u e)
  have lim2 : (s1.heap.push o).NoLimit := I1.nolimit.push o
  have cont : ∀ (code : Value) (h3 : Heap) (tk : Nat) (ps' : Array Value), Heap.ExtBut P (s1.heap.push o) h3 → (s1.heap.push o).objs.size ≤ h3.objs.size → h3.get? P = some { cls := .none, data := .fields ps' } → (∃ more, ps' = ps ++ more) → TriplesOk ps'.toList →
      wpAny (model X.prog X.w) X.A (builtinsFor X.env.globals X.env.builtins) (fun bi s₄ =>
        ∃ Ia fp wr n₀ Pf St₀ pz F, Value.ref s1.heap.objs.size = .ref Ia ∧ (∀ A' : Around, A'.handled = none → Walks X.prog X.w A' Ia fp wr n₀ Pf St₀) ∧ St₀ 0 s₄.heap ∧ (∀ b ∈ fp, b < s₄.heap.objs.size) ∧ s₄.heap.NoLimit ∧ cStatics ∉ wr ∧
          (∀ href : Heap, (∀ b o, s₄.heap.get? b = some o → href.get? b = some o) →
            QuietGen X.prog X.w (genEnv scope (cloFrom X.env.cells scope.names []) s₄.heap.objs.size code bi X.env) x [] elt (List.range s₄.heap.objs.size) wr Pf pz F href) ∧
          (∀ a h₅ tk gs, gs.bare = true → s₄.heap.objs.size < a → h₅.objs.size = a + 1 → (∀ b o, s₄.heap.get? b = some o → h₅.get? b = some o) →
            WalksS X.prog X.w X.A.in4 a (a :: s₄.heap.objs.size :: List.range s₄.heap.objs.size) (s₄.heap.objs.size :: wr) (GenOnlyQ s₄.gens.size) (passing pz n₀ 0).length
              (fun j y => ∃ i, (passing pz n₀ 0)[j]? = some i ∧ F i y) (GenAt X.prog X.w X.A.in4 a s₄.gens.size s₄.heap.objs.size (List.range s₄.heap.objs.size) wr pz n₀ F) →
            GenAt X.prog X.w X.A.in4 a s₄.gens.size s₄.heap.objs.size (List.range s₄.heap.objs.size) wr pz n₀ F 0 { s₄ with gens := s₄.gens.push gs, toks := tk, heap := h₅ } →
            Q' (.ref a) { s₄ with gens := s₄.gens.push gs, toks := tk, heap := h₅ })) X.xe { s1 with heap := h3, toks := tk } := by
    intro code h3 tk ps' hx hsz hP3 hmore ht3
    obtain ⟨bm, ob, e1, e2, e3, e4, e5, e6, e7, e8⟩ := TB.bm
    have hcP : cStatics ≠ P := fun e => by
      obtain ⟨_, hns, _⟩ := I1.nolimit
      obtain ⟨o', es, ep, ho, hd, _⟩ := hns
      rw [e, hPs] at ho
      cases ho
      cases hd
    have hcl : cStatics < s1.heap.objs.size := let ⟨_, hns, _⟩ := I1.nolimit; hns.lt
    have keep3 : ∀ b u, b ≠ P → s1.heap.get? b = some u → h3.get? b = some u := fun b u hb e => hx b u hb (Heap.get?_push_of_some _ e)
    have hG1 : s1.heap.Ns mainGlobals X.mg := I1.mod.glob.keeps I1.bk
    have hG3 : h3.Ns mainGlobals X.mg := (hG1.push o).extBut hx TB.gP
    refine wpAny_builtinsFor (m := X.mg) (by rw [I1.ok.glob]; exact hG3) e1 e2 (keep3 _ _ e4 (I1.bk _ _ e5)) e6 e7 e8 ?_
    refine ⟨s1.heap.objs.size, [s1.heap.objs.size], [s1.heap.objs.size], a.cps.size, SignAt a, St, (fun _ => true), (fun i y => ∃ cc, a.cps[i]? = some cc ∧ y = .bool (pb cc)), rfl, W, ?_, ?_, lim2.extBut hx hcP, ?_, ?_, ?_⟩
    · refine (W X.A hr.hd).frame _ _ _ hst fun b hb u e => hx b u (fun z => ?_) e
      rcases List.mem_cons.mp hb with z2 | z2
      · exact Nat.ne_of_lt hPlt (z.symm.trans z2)
      · cases z2
    · intro b hb
      rcases List.mem_cons.mp hb with z | z
      · rw [z]
        show s1.heap.objs.size < h3.objs.size
        have sz2 : (s1.heap.push o).objs.size = s1.heap.objs.size + 1 := Heap.size_push ..
        omega
      · cases z
    · intro z
      rcases List.mem_cons.mp z with z | z
      · exact Nat.ne_of_lt hcl z
      · cases z
    · intro href hhref
      refine ⟨fun A' E' i v s₂ m₂ hA hPv hn hm hk => ?_, fun A' E' i v s₂ m₂ hA hPv hp hn hm hk => ?_⟩
      · simp only [List.forIn_nil]
        exact wpAny_pure ⟨rfl, keeps_refl _⟩
      · obtain ⟨cc, u, hcc, rfl⟩ := hPv
        refine wpAny_mono (hel _ A' E' cc u s₂ m₂ rfl (show X.env.globals = mainGlobals from I1.ok.glob) (hG3.at' fun o e => hk mainGlobals (List.mem_range.mpr hG3.lt) (fun z => ?_) o (hhref _ _ e)) hn hm) (fun y s3 r => ⟨⟨cc, hcc, r.1⟩, r.2⟩) fun _ _ e => e
        rcases List.mem_cons.mp z with z | z
        · exact Nat.ne_of_lt hG1.lt z
        · cases z
    · intro g h5 tk5 gs hgb hag hsz5 hk5 W5 hat
      simp only [GxR.passing_true, List.length_range] at W5
      refine hQ a H1 g _ q1 ⟨_, _, _, _, _, W5.in4_1, hat, ?_, fun s' hm => ?_⟩
      · intro j y sj Qj Ej hy hQj
        obtain ⟨i, hij, cc, hcc, rfl⟩ := hy
        obtain ⟨hj, ej⟩ := List.getElem?_eq_some_iff.mp hij
        rw [List.getElem_range] at ej
        subst ej
        have e9 : a.cps.toList[j]? = some cc := by rw [Array.getElem?_toList]; exact hcc
        have hQ2 : Qj (GxR.trF pb a.cps.toList j) sj := hQj
        rw [GxR.trF_some e9] at hQ2
        exact wpAny_truthy_bool hQ2
      · obtain ⟨more, em⟩ := hmore
        have nwr : ∀ b u, s1.heap.get? b = some u → b ∉ h3.objs.size :: [s1.heap.objs.size] := fun b u e hb => by
          have hl := Heap.lt_size e
          have sz2 : (s1.heap.push o).objs.size = s1.heap.objs.size + 1 := Heap.size_push ..
          rcases List.mem_cons.mp hb with z | z
          · rw [z] at hl
            have h9 : (h3.objs.size : Nat) < s1.heap.objs.size := hl
            omega
          · rcases List.mem_cons.mp z with z | z
            · rw [z] at hl
              exact Nat.lt_irrefl _ hl
            · cases z
        have J := GxR.inv_tab (more := more) (h' := s'.heap) (g' := s'.gens) (d' := s'.drawn) (t' := s'.toks) I1 hP (fun b u hb e => hm.heap b u (nwr b u e) (hk5 b u (keep3 b u hb e)))
          (by rw [← em]; exact hm.heap P _ (nwr P _ hPs) (hk5 P _ hP3)) (AllBare.movedS (I1.bare.push hgb) hm)
        rw [GxR.sh_eta s1 s' hm.os] at J
        refine ⟨upd H1 P (.tbl (ps ++ more)), ⟨⟨ps ++ more, upd_same, by rw [← em]; exact ht3⟩, fun b hb => upd_ne hb⟩, J⟩
  refine ⟨lim2, ?_⟩
  cases hf : codeAmong gpos ps.toList with
  | none =>
    refine wpAny_genexprCodeX hcode (cd.code hP2 ht) (cd.tab hP2) hf fun c' h' tk hx hge hlt hco' _ htab' _ => ?_
    obtain ⟨o1, vs, f1, tf, fl, tg, inF, tx, tt, op, _, _, _, _, _, _, _, _, _, htr, _⟩ := hco'
    exact cont _ h' tk _ hx (Nat.le_trans hge (Nat.le_of_lt hlt)) htab'.2 ⟨_, rfl⟩ htr
  | some cv =>
    refine wpAny_genexprCode_hit hcode (cd.code hP2 ht) hf ?_
    exact cont cv (s1.heap.push o) s1.toks ps (Heap.ExtBut.refl _ _) (Nat.le_refl _) hP2 ⟨#[], by simp⟩ ht
def tAllG (P : Addr) (pb : Nat → Bool) (te : TE) : TE := fun σ H Q => te σ H fun v H1 => ∃ a : Str, v = .str a ∧ GxR.TabG H1 P ∧ ∀ H2, GxR.Tabbed P H1 H2 → Q (.bl (a.cps.toList.all pb)) H2
theorem w_allG {P : Addr} {pb : Nat → Bool} {te : TE} {Q : VK} (h : te σ H fun v H1 => ∃ a : Str, v = .str a ∧ GxR.TabG H1 P ∧ ∀ H2, GxR.Tabbed P H1 H2 → Q (.bl (a.cps.toList.all pb)) H2) : tAllG P pb te σ H Q := h
theorem pe_allG {c P : Addr} {elt iter : Expr} {x : Str} {px p pos gpos : Pos} {scope : Scope} {pb : Nat → Bool} {te : TE} {k : Nat}
    (hr : Room k X.A) (hg : Gl X "all") (hm : X.mg "all" = none) (TB : GxR.TabB X.base X.mg c P) (hcode : X.env.code = .ref c) (S : GxR.GenS X.env scope x) (hi : PE X iter te) (hel : EltG X scope x elt pb)
    (hs : ∀ v, genFold iter X.env v = pure v := by intro v; rfl)
    (he : starEach [.GeneratorExp elt [⟨.Name x px, iter, [], 0⟩] scope gpos] X.env = (false, eval (.GeneratorExp elt [⟨.Name x px, iter, [], 0⟩] scope gpos) X.env) :: starEach [] X.env := by rfl) :
    PE X (.Call (.Name "all" p) [.GeneratorExp elt [⟨.Name x px, iter, [], 0⟩] scope gpos] [] pos) (tAllG P pb te) := by
  refine ⟨fun pins s σ H Q I h => ?_⟩
  have hb : bootBuiltins "all" = some (.builtin "all") := by decide +kernel
  refine wpAny_Call_Name_kw (ld_blt I hg hm hb ?_)
  refine PyProof.Rows.callWith_builtin1 ?_ he (by rfl)
  rw [he]
  show wpAny _ _ (spliced ((false, eval (.GeneratorExp elt [⟨.Name x px, iter, [], 0⟩] scope gpos) X.env) :: backTo pos (starEach [] X.env))) _ _ s
  refine Calls.spliced_cons (gen_strG (R := fun a H1 => ∀ H2, GxR.Tabbed P H1 H2 → Q (.bl (a.cps.toList.all pb)) H2) hr TB hcode S hi hel hs I h fun a H1 g s5 hR hG => ?_)
  obtain ⟨fp, wr, G, F, St, W, hst, htr, hI⟩ := hG
  refine Calls.spliced_nil ?_
  refine call_all_walkS (W.self 0 _ _ _ hst ⟨g, fp, wr, G, _, F, St, _, rfl, W, hst, htr, fun s' hmv => ?_⟩)
  obtain ⟨H2, hT, J⟩ := hI s' hmv
  refine ⟨.bl _, H2, J, rfl, ?_⟩
  rw [GxR.all_signs a pb]
  exact hR H2 hT
end
end Tg

namespace Rn
open PySem PySem.Spec L2 RT
/-- what is never reached -/
def tNo : TE := fun _ _ _ => False
theorem pe_no {X : Cx} {e : Expr} : PE X e tNo := ⟨fun _ _ _ _ _ _ h => h.elim⟩
/-- case (k1, k2) over a tuple of two texts -/
def tCase2 (K : PySem.W.Frag) (k1 k2 : Str) (tb : TS) (tr : V → TS) : V → TS := fun x D σ H => ∃ (a : Addr) (z y : Str), x = .ref a ∧ SqT K H a [.str z, .str y] ∧ if z = k1 ∧ y = k2 then tb D σ H else tr x D σ H
theorem pm_case2 {X : Cx} (K : PySem.W.Frag) (eK : X.K = K) {k1 k2 : Str} {j1 j2 : Nat} {p1 p2 p3 p4 pos : Pos} {body : List Stmt} {rest : List MatchCase} {tb : TS} {tr : V → TS} (hc : X.calm = true)
    (hb : PSs X body tb) (hr : PMs X rest tr) (hstar : ([Pattern.MatchValue (.Constant (.str k1) j1 p1) p2, Pattern.MatchValue (.Constant (.str k2) j2 p3) p4]).findIdx? (·.isStar) = none := by rfl)
    (hwild : (([Pattern.MatchValue (.Constant (.str k1) j1 p1) p2, Pattern.MatchValue (.Constant (.str k2) j2 p3) p4]).all fun p => p.isWildcard || (p.isStar && p.names.isEmpty)) = false := by rfl) :
    PMs X (⟨.MatchSequence [.MatchValue (.Constant (.str k1) j1 p1) p2, .MatchValue (.Constant (.str k2) j2 p3) p4] pos, none, body⟩ :: rest) (tCase2 K k1 k2 tb tr) := by
  subst eK
  intro pins s σ H D x v first I rx h
  obtain ⟨a, z, y, ex, hS, h⟩ := h
  subst ex
  obtain rfl : v = .ref a := rx
  obtain ⟨us, rel, tu, _⟩ := I.tuple hS
  cases rel with
  | @cons _ u1 _ ws r1 rr =>
    cases rr with
    | @cons _ u2 _ ws2 r2 rr2 =>
      cases rr2
      obtain ⟨t1, rfl⟩ := r1
      obtain ⟨t2, rfl⟩ := r2
      have hfit : (((Value.str z t1 :: [Value.str y t2]).toArray.size : Nat) : Int) < 2 ^ 63 := by
        simp only [List.size_toArray, List.length_cons, List.length_nil]
        omega
      refine wpAny_matchCases_cons ?_
      refine PyProof.Rows.matchSeq_tuple_hit tu hfit (by rfl) ?_ hstar hwild
      have el : [Pattern.MatchValue (.Constant (.str k1) j1 p1) p2, Pattern.MatchValue (.Constant (.str k2) j2 p3) p4].length = ([Value.str z t1, Value.str y t2] : List Value).toArray.size := rfl
      rw [el]
      refine wpAny_unpackItems_tuple (I.ok.hd hc) (show Heap.IsTuple s.heap a _ from tu) fun g hx => ?_
      have I1 : Inv X pins σ H { s with heap := g, toks := s.toks + 1 + 1 } := I.kept (t' := s.toks + 1 + 1) fun b o q => hx b o (Nat.ne_of_lt (Heap.lt_size q)) q
      refine wpAny_matchEach_cons (wpAny_matchPattern_Value (Calls.Constant_str ?_))
      have I2 := I1.tok (s.toks + 1 + 1 + 1)
      refine thn (op_eq pins _ σ H (.str z) (.str k1) _ _ (fun v' H' => v' = .bl (decide (z = k1)) ∧ H' = H) I2 ⟨t1, rfl⟩ ⟨_, rfl⟩ ⟨rfl, ?_, rfl⟩) fun cv s2 w2 => ?_
      · congr 1
        exact decide_eq_decide.mpr ⟨fun q => V.str.inj q, fun q => by rw [q]⟩
      · obtain ⟨v2, H2, I3, rr2, e2, e3⟩ := w2
        subst e2 e3
        obtain rfl : cv = .bool (decide (z = k1)) := rr2
        refine wpAny_truthy_bool ?_
        by_cases hz : z = k1
        · rw [decide_eq_true hz]
          refine wpAny_matchEach_cons (wpAny_matchPattern_Value (Calls.Constant_str ?_))
          have I4 := I3.tok (s2.toks + 1)
          refine thn (op_eq pins _ σ H2 (.str y) (.str k2) _ _ (fun v' H' => v' = .bl (decide (y = k2)) ∧ H' = H2) I4 ⟨t2, rfl⟩ ⟨_, rfl⟩ ⟨rfl, ?_, rfl⟩) fun cv2 s3 w3 => ?_
          · congr 1
            exact decide_eq_decide.mpr ⟨fun q => V.str.inj q, fun q => by rw [q]⟩
          · obtain ⟨v3, H3, I5, rr3, e4, e5⟩ := w3
            subst e4 e5
            obtain rfl : cv2 = .bool (decide (y = k2)) := rr3
            refine wpAny_truthy_bool ?_
            by_cases hy : y = k2
            · rw [decide_eq_true hy]
              rw [if_pos ⟨hz, hy⟩] at h
              refine wpAny_matchEach_nil ?_
              exact wpAny_assignInOrder_none (hb.run pins s3 _ _ D I5 h)
            · rw [decide_eq_false hy]
              rw [if_neg fun q => hy q.2] at h
              exact hr pins _ σ _ D (.ref a) (.ref a) false I5 rfl h
        · rw [decide_eq_false hz]
          rw [if_neg fun q => hz q.1] at h
          exact hr pins _ σ _ D (.ref a) (.ref a) false I3 rfl h
section
variable {K : PySem.W.Frag} {σ : St} {H : Hp} {D : Ends} {tb : TS} {tr : V → TS}
theorem w_case2Y {a : Addr} {k1 k2 : Str} (hS : SqT K H a [.str k1, .str k2]) (h : tb D σ H) : tCase2 K k1 k2 tb tr (.ref a) D σ H := ⟨a, k1, k2, rfl, hS, by rw [if_pos ⟨rfl, rfl⟩]; exact h⟩
theorem w_case2N {a : Addr} {k1 k2 z y : Str} (hS : SqT K H a [.str z, .str y]) (hne : ¬ (z = k1 ∧ y = k2)) (h : tr (.ref a) D σ H) : tCase2 K k1 k2 tb tr (.ref a) D σ H := ⟨a, z, y, rfl, hS, by rw [if_neg hne]; exact h⟩
end
/-! ### dicts -/
section
variable {σ : St} {H : Hp} {Q : VK} {D : Ends} {td ty tv : TE}
def DGetQ (x y : V) (H : Hp) (Q : VK) : Prop := ∃ a v, x = .ref a ∧ DGet H a y (some v) ∧ Q v H
def DInQ (x y : V) (H : Hp) (Q : VK) : Prop := ∃ a o, x = .ref a ∧ DGet H a y o ∧ Q (.bl o.isSome) H
def DPutQ (x y v : V) (H : Hp) (R : Hp → Prop) : Prop := ∃ a H', x = .ref a ∧ DPut H a y v H' ∧ R H'
theorem w_dget (h : td σ H fun x H1 => ty σ H1 fun y H2 => DGetQ x y H2 Q) : tDGet td ty σ H Q := h
theorem w_dgetK {d : Addr} {kvs : List (Key × V)} (k : Key) {v : V} (hd : H d = some (.dK kvs)) (hv : valV kvs k = some v) (h : Q v H) : DGetQ (.ref d) (kV k) H Q := ⟨d, v, rfl, hv ▸ DGet.k hd, h⟩
theorem w_dgetS {d : Addr} {kvs : List (Key × V)} {k : Str} {v : V} (hd : H d = some (.dK kvs)) (hv : valV kvs (.inr k) = some v) (h : Q v H) : DGetQ (.ref d) (.str k) H Q := w_dgetK (.inr k) hd hv h
theorem w_din (h : ty σ H fun y H1 => td σ H1 fun x H2 => DInQ x y H2 Q) : tDIn ty td σ H Q := h
theorem w_dinS {d : Addr} {kvs : List (Key × V)} {k : Str} (hd : H d = some (.dK kvs)) (h : Q (.bl (valV kvs (.inr k)).isSome) H) : DInQ (.ref d) (.str k) H Q := ⟨d, _, rfl, DGet.k (k := .inr k) hd, h⟩
theorem w_dput (h : tv σ H fun v H1 => td σ H1 fun x H2 => ty σ H2 fun y H3 => DPutQ x y v H3 (D.nx σ)) : sDPut td ty tv D σ H := h
theorem w_dputS {d : Addr} {kvs kvs' : List (Key × V)} {k : Str} {v : V} {R : Hp → Prop} (hd : H d = some (.dK kvs)) (hl : kvs.length ≤ 1000) (e : putK kvs (.inr k) v = kvs') (h : ∀ H', H' = upd H d (.dK kvs') → H' d = some (.dK kvs') → R H') : DPutQ (.ref d) (.str k) v H R :=
  ⟨d, _, rfl, DPut.k (k := .inr k) hd (Nat.lt_of_le_of_lt hl (by decide)), by rw [e]; exact h _ rfl upd_same⟩
def rLenD : List V → Hp → VK → Prop := fun xs H Q => ∃ a kvs, xs = [V.ref a] ∧ H a = some (.dK kvs) ∧ Q (.int kvs.length) H
theorem k_lenD {X : Cx} : CallR X (.builtin "len") rLenD := call_lenD
def rDictD : List V → Hp → VK → Prop := fun xs H Q => ∃ (a : Addr) (kvs : List (Key × V)), xs = [.ref a] ∧ Rd H a (.dK kvs) ∧ ∀ p, H p = none → Q (.ref p) (upd H p (.dK kvs))
theorem k_dictD {X : Cx} : CallR X (.type "dict") rDictD := call_dictD
theorem w_dlen {d : Addr} {kvs : List (Key × V)} (hd : H d = some (.dK kvs)) (h : Q (.int kvs.length) H) : rLenD [.ref d] H Q := ⟨d, kvs, rfl, hd, h⟩
theorem w_dcopy {d : Addr} {kvs : List (Key × V)} (hd : H d = some (.dK kvs)) (h : ∀ p H', H p = none → Same H H' → H' p = some (.dK kvs) → Q (.ref p) H') : rDictD [.ref d] H Q :=
  ⟨d, kvs, rfl, .inl hd, fun p hp => h p _ hp (Same.new hp) upd_same⟩
def DNiQ (x y : V) (H : Hp) (Q : VK) : Prop := ∃ a o, x = .ref a ∧ DGet H a y o ∧ Q (.bl (!o.isSome)) H
theorem w_dni (h : ty σ H fun y H1 => td σ H1 fun x H2 => DNiQ x y H2 Q) : tDNotIn ty td σ H Q := h
theorem w_dniS {d : Addr} {kvs : List (Key × V)} {k : Str} (hd : H d = some (.dK kvs)) (h : Q (.bl (!(valV kvs (.inr k)).isSome)) H) : DNiQ (.ref d) (.str k) H Q := ⟨d, _, rfl, DGet.k (k := .inr k) hd, h⟩
theorem w_dnew (h : ∀ p H', H p = none → Same H H' → H' p = some (.dK []) → Q (.ref p) H') : tDNewK σ H Q := fun p hp => h p _ hp (Same.new hp) upd_same
end
end Rn
namespace L2
open PySem PySem.Spec PyProof.Rows
section
variable {X : Cx}
/-- y = {k: v for ..} -/
theorem ps_setDc {i : Nat} {y : Str} {py : Pos} {kx vx tg iter : Expr} {ifs : List Expr} {scope : Scope} {own : List (Str × Nat)} {pos spos : Pos} {wi : TI} {g : TG} {tt : TT} {tk tv : TE} (hc : X.calm = true) (hN : X.N.Nodup) (hy : X.N[i]? = some y) (hyl : X.env.scope.names.lookup y = some .local)
    (hsw : swapsWith (.DictComp kx vx [⟨tg, iter, ifs, 0⟩] scope pos) (some (.Name y py)) spos.line X.env = pure true) (hi : PI X tg iter wi) (ok : BlkOk X.N X.env.scope scope own)
    (hg : ∀ (s : Shared) (H : Hp) (C : Addr) (cl : List (Str × Addr)) (fp : List Addr), PG (X.blk s H scope (compEnvC scope cl C X.env) fp) tg g) (ht : ∀ (s : Shared) (H : Hp) (C : Addr) (cl : List (Str × Addr)) (fp : List Addr), PTs (X.blk s H scope (compEnvC scope cl C X.env) fp) ifs tt)
    (hk : ∀ (s : Shared) (H : Hp) (C : Addr) (cl : List (Str × Addr)) (fp : List Addr), PE (X.blk s H scope (compEnvC scope cl C X.env) fp) kx tk)
    (he : ∀ (s : Shared) (H : Hp) (C : Addr) (cl : List (Str × Addr)) (fp : List Addr), PE (X.blk s H scope (compEnvC scope cl C X.env) fp) vx tv) (hs : ∀ x, foldedSetIterable iter X.env x = pure x := by intro _; rfl) :
    PS X (.Assign [.Name y py] (.DictComp kx vx [⟨tg, iter, ifs, 0⟩] scope pos) spos) (tAsg (tDc wi g tt tk tv (own.map (·.2))) (gName i)) := by
  refine ⟨fun pins s σ H D I h => ?_⟩
  rw [exec_Assign_Name_used _ _ _ _ hsw]
  refine wpAny_bind (wpAny_standAt (wpAny_bind ?_))
  show wpAny _ X.A (do let _ ← comprehension (.DictComp kx vx [⟨tg, iter, ifs, 0⟩] scope pos) scope X.env (firstIterPos [⟨tg, iter, ifs, 0⟩] pos) newDict false (eval iter X.env) (some (assign (.Name y py) X.env))) _ _ s
  have h : tDc wi g tt tk tv (own.map (·.2)) σ H (fun x H1 => gName i x σ H1 D.nx) := h
  refine wpAny_bind (thn (dc_core (Qf := fun _ s' => SP X pins D .next s') hc hN I hi ok hg ht hk he hs h fun L C s' m H' I' q hn f => ?_) fun _ s' hq => wpAny_pure (wpAny_pure hq))
  show wpAny _ _ (assign (.Name y py) X.env (.ref L)) _ _ _
  refine wpAny_assign_Name (store_ok2 (v := V.ref L) I' hN hy (.inl hyl) rfl (fun s2 I2 ⟨a, sb, ha⟩ => ?_) (.inr hyl))
  obtain ⟨f0, f1, f2, f3, f4, f5⟩ := f
  have haC : C ≠ a := by
    rcases ha with z | z
    · rw [z]; exact f1
    · exact fun e => f4 y a z e.symm
  refine ⟨m, hn.sameBut sb haC, fun h3 sb3 => ?_⟩
  exact ⟨_, H', I2.turned (t' := s2.toks) (fun b o hb e => (sb3.2 b hb).trans e) f0 f1 f3 f4 f5, q⟩
theorem sw_trueD {kx vx : Expr} {gs : List Comprehension} {scope : Scope} {pos py : Pos} {y : Str} {l : Nat} {env : Env} (hk : env.scope.kind = .function) (hy : env.scope.names.lookup y = some .local) (hl : (py.line == pos.line) = true)
    (ha : (scope.names.any fun (n, k) => n == y && (k == .local || k == .cell)) = false) : swapsWith (.DictComp kx vx gs scope pos) (some (.Name y py)) l env = pure true := by
  have ky : env.kindOf y = some .local := hy
  have hb : env.blockKind = .function := by unfold Env.blockKind; rw [hk]; rfl
  unfold swapsWith
  simp only [hb, ky, ha, Expr.pos, hl]
  rfl
end
end L2
namespace Rn
open PySem PySem.Spec L2 RT
section
variable {K : PySem.W.Frag} {σ : St} {H : Hp} {Q : VK}
/-- a dict comprehension without tests over a tuple: Pv by the dict's place, the turn, the heap -/
def DcQ (g : TG) (tt : TT) (tk tv : TE) (vs : List Nat) (σ : St) (Q : VK) (J : It) (H1 : Hp) : Prop := ∀ D, H1 D = none → ∃ W : Nat → Nat → Hp → Prop, (∃ m, W 0 m (upd H1 D (.dK []))) ∧ ∀ i m H, W i m H →
  (J.stop i H ∧ Q (.ref D) H) ∨ (J.go i H ∧ ∃ Nx : Hp → Prop, (∀ H', Nx H' → ∃ m', m' < m ∧ W (i + 1) m' H') ∧ ∀ x H', J.yld i H x H' → g x (wipe σ vs) H' fun σ2 H2 => wipe σ2 vs = wipe σ vs ∧ tt σ2 H2 fun b H3 =>
    if b = true then tk σ2 H3 fun y H4 => tv σ2 H4 fun z H5 => ∃ kvs k, y = kV k ∧ H5 D = some (.dK kvs) ∧ kvs.length < sizeLine ∧ Nx (upd H5 D (.dK (putK kvs k z))) else Nx H3)
theorem w_dc {wi : TI} {g : TG} {tt : TT} {tk tv : TE} {vs : List Nat} (h : wi σ H fun J H1 => DcQ g tt tk tv vs σ Q J H1) : tDc wi g tt tk tv vs σ H Q := h
theorem dq_tup {a : Addr} {xs : List V} {g : TG} {tt : TT} {tk tv : TE} {vs : List Nat} {H1 : Hp} (Pv : Addr → Nat → Hp → Prop) (h0 : ∀ D H2, H1 D = none → Same H1 H2 → H2 D = some (.dK []) → Pv D 0 H2) (hl : ∀ D i H, i ≤ xs.length → Pv D i H → SqT K H a xs)
    (hs : ∀ D i x H, H1 D = none → xs[i]? = some x → Pv D i H → g x (wipe σ vs) H fun σ2 H2 => wipe σ2 vs = wipe σ vs ∧ tt σ2 H2 fun b H3 =>
      if b = true then tk σ2 H3 fun y H4 => tv σ2 H4 fun z H5 => ∃ kvs k, y = kV k ∧ H5 D = some (.dK kvs) ∧ kvs.length < sizeLine ∧ Pv D (i + 1) (upd H5 D (.dK (putK kvs k z))) else Pv D (i + 1) H3) (hd : ∀ D H, H1 D = none → Pv D xs.length H → Q (.ref D) H) : DcQ g tt tk tv vs σ Q (Itt K a) H1 :=
  fun D hD => dc_tup (Pv D) (h0 D _ hD (Same.new hD) upd_same) (fun i H hi p => hl D i H hi p) (fun i x H hx p => hs D i x H hD hx p) fun H p => hd D H hD p
theorem w_niST {p : Addr} {ns : List Str} {n : Str} (hl : SqT K H p (ns.map V.str)) (h : Q (.bl (!decide (n ∈ ns))) H) : rIn K true (.str n) (.ref p) H Q := by
  have e1 : ∀ xs : List Str, inV (.str n) (xs.map V.str) = decide (n ∈ xs) := fun xs => by
    induction xs with
    | nil => simp [inV]
    | cons y r ih =>
      unfold inV at ih ⊢
      rw [List.map_cons, List.any_cons, ih]
      by_cases e : y = n
      · subst e
        simp [eqV]
      · have e2 : n ≠ y := fun z => e z.symm
        simp [eqV, e, e2]
  have e2 : (ns.map V.str).all flatV = true := by
    rw [List.all_eq_true]
    intro x hx
    obtain ⟨n, _, rfl⟩ := List.mem_map.mp hx
    rfl
  exact ⟨p, _, rfl, .inr hl, rfl, e2, by rw [e1]; exact h⟩
end
end Rn
namespace L2
open PySem PySem.Spec PyProof.Rows
theorem pg_tupK {X : Cx} (K : PySem.W.Frag) (e : X.K = K) {es : List Expr} {k : Nat} {t : TGs} {n : Nat} {pos : Pos} (hc : X.calm = true) (h : PGs X es t)
    (hn : (assignEach es X.env).length = n := by rfl) (hst : (assignEach es X.env).findIdx? (·.1) = none := by rfl) : PG X (.Tuple es k pos) (gTup K n t) := e ▸ pg_tup hc h hn hst
end L2
namespace Rn
theorem w_iteNF2 {p : Prop} {ip : Decidable p} {A B : Prop} (hp : p) (h : B) : if (!decide p) = true then A else B := by
  rw [decide_eq_true hp]
  exact w_iteF h
end Rn
set_option Elab.async false
set_option linter.all false
set_option maxRecDepth 100000
set_option maxHeartbeats 4000000
/-! k03: deeds -/
namespace My
open PySem PySem.Spec L2 RT Rn
def spTop (K : PySem.W.Frag) : Sp := fun vs H Q _ => ∃ (m : Addr) (b s w c : Int), vs = [.ref m] ∧ MachAt K H m b s w c ∧ Mach b s w c ∧ Q (.int (min (w - s) (c - 1))) H
/-- nothing set, all at 0 -/
def zer (n : Int) : List Int := List.replicate n.toNat 0
theorem zer_map (n : Int) : (zer n).map V.int = List.replicate n.toNat (V.int 0) := by simp [zer]
def spBegin (K : PySem.W.Frag) : Sp := fun vs H Q _ => ∃ (m : Addr) (b s w c : Int), vs = [.ref m] ∧ MachAt K H m b s w c ∧ Mach b s w c ∧
  ∀ z a1 a2 a3 H', Same H H' → H' z = some (.tup [.ref a1, .int 0, .ref a2, .ref a3]) → SqT K H' a1 ((zer s).map V.int) → SqT K H' a2 ((zer w).map V.int) → SqT K H' a3 ((zer c).map V.int) → Q (.ref z) H'
def Bad (E : XK) (BD : Addr) (H : Hp) : Prop := ∀ H', Same H H' → E (.ref BD) none H'
def spShifted (K : PySem.W.Frag) (BD : Addr) : Sp := fun vs H Q E => ∃ (m t : Addr) (b s w c p y : Int) (S W C : List Int), vs = [.ref m, .ref t, .int y] ∧ MachAt K H m b s w c ∧ Mach b s w c ∧ StAt K H t S W C p ∧ Stand b s w c S W C p ∧ -1000 ≤ y ∧ y ≤ 1000 ∧
  (0 ≤ p + y ∧ p + y ≤ min (w - s) (c - 1) → ∀ z H', Same H H' → StAt K H' z S W C (p + y) → Q (.ref z) H') ∧ (¬ (0 ≤ p + y ∧ p + y ≤ min (w - s) (c - 1)) → Bad E BD H)
def spTurned3 (K : PySem.W.Frag) (BD : Addr) : Sp := fun vs H Q E => ∃ (m t : Addr) (b s w c p way tally : Int) (S W C : List Int), vs = [.ref m, .ref t, .int way, .int tally] ∧ MachAt K H m b s w c ∧ Mach b s w c ∧ StAt K H t S W C p ∧ Stand b s w c S W C p ∧ -1000 ≤ way ∧ way ≤ 1000 ∧ -1000 ≤ tally ∧ tally ≤ 1000 ∧
  ((way = 1 ∨ way = -1) ∧ -1 ≤ tally ∧ tally ≤ 1 → ∀ z H', Same H H' → Told2 K H' z S (wheelsOf b way p w S W) (countsOf b tally p c C) p (decide (¬ InR (b ^ w.toNat) (whole b way p S W))) → Q (.ref z) H') ∧
  (¬ ((way = 1 ∨ way = -1) ∧ -1 ≤ tally ∧ tally ≤ 1) → Bad E BD H)
/-- what a wipe leaves -/
def wipeTo (s w c : Int) (S W C : List Int) (x : Str) : Option (List Int × List Int × List Int) :=
  if x = "setting" then some (zer s, W, C) else if x = "wheels" then some (S, zer w, C) else if x = "counts" then some (S, W, zer c) else none
def spWiped (K : PySem.W.Frag) (BD : Addr) : Sp := fun vs H Q E => ∃ (m t : Addr) (b s w c p : Int) (x : Str) (S W C : List Int), vs = [.ref m, .ref t, .str x] ∧ MachAt K H m b s w c ∧ Mach b s w c ∧ StAt K H t S W C p ∧ Stand b s w c S W C p ∧ x.length ≤ 2000 ∧
  (∀ S' W' C', wipeTo s w c S W C x = some (S', W', C') → ∀ z H', Same H H' → StAt K H' z S' W' C' p → Q (.ref z) H') ∧ (wipeTo s w c S W C x = none → Bad E BD H)
def spSlide (K : PySem.W.Frag) (BD TP : Addr) : Sp := fun vs H Q E => ∃ (m t : Addr) (b s w c p i f : Int) (S W C : List Int), vs = [.ref m, .ref t, .int i, .int f] ∧ MachAt K H m b s w c ∧ Mach b s w c ∧ StAt K H t S W C p ∧ Stand b s w c S W C p ∧ -1000 ≤ i ∧ i ≤ 1000 ∧ -1000 ≤ f ∧ f ≤ 1000 ∧ GxR.TabG H TP ∧
  ((0 ≤ i ∧ i < s) ∧ 0 ≤ f ∧ f < b → ∀ z H', Tg.SmT TP H H' → StAt K H' z (S.set i.toNat f) W C p → Q (.ref z) H') ∧ (¬ ((0 ≤ i ∧ i < s) ∧ 0 ≤ f ∧ f < b) → Bad E BD H)
/-- deeds -/
inductive Dd
  | set (i f : Int)
  | shift (y : Int)
  | turn (x y : Int)
  | wipe (x : Str)
  | turns
  | load
def Dd.vs : Dd → List V
  | .set i f => [.str "set", .int i, .int f]
  | .shift y => [.str "shift", .int y]
  | .turn x y => [.str "turn", .int x, .int y]
  | .wipe x => [.str "wipe", .str x]
  | .turns => [.str "turns", .int 1, .int 0]
  | .load => [.str "load", .str "a"]
def Dd.ok : Dd → Prop
  | .set i f => -1000 ≤ i ∧ i ≤ 1000 ∧ -1000 ≤ f ∧ f ≤ 1000
  | .shift y => -1000 ≤ y ∧ y ≤ 1000
  | .turn x y => -1000 ≤ x ∧ x ≤ 1000 ∧ -1000 ≤ y ∧ y ≤ 1000
  | .wipe x => x.length ≤ 2000
  | _ => True
/-- what a deed leaves: setting, wheels, counts, place, bell; none: it can't be done -/
def effect (b s w c p : Int) (S W C : List Int) : Dd → Option (List Int × List Int × List Int × Int × Bool)
  | .set i f => if (0 ≤ i ∧ i < s) ∧ 0 ≤ f ∧ f < b then some (S.set i.toNat f, W, C, p, false) else none
  | .shift y => if 0 ≤ p + y ∧ p + y ≤ min (w - s) (c - 1) then some (S, W, C, p + y, false) else none
  | .turn x y => if (x = 1 ∨ x = -1) ∧ -1 ≤ y ∧ y ≤ 1 then some (S, wheelsOf b x p w S W, countsOf b y p c C, p, decide (¬ InR (b ^ w.toNat) (whole b x p S W))) else none
  | .wipe x => (wipeTo s w c S W C x).map fun r => (r.1, r.2.1, r.2.2, p, false)
  | _ => none
def spDone (K : PySem.W.Frag) (BD TP : Addr) : Sp := fun vs H Q E => ∃ (m t d : Addr) (b s w c p : Int) (S W C : List Int) (dd : Dd), vs = [.ref m, .ref t, .ref d] ∧ SqT K H d dd.vs ∧ dd.ok ∧ MachAt K H m b s w c ∧ Mach b s w c ∧ StAt K H t S W C p ∧ Stand b s w c S W C p ∧ GxR.TabG H TP ∧
  (∀ S' W' C' p' g, effect b s w c p S W C dd = some (S', W', C', p', g) → ∀ z H', Tg.SmT TP H H' → Told2 K H' z S' W' C' p' g → Q (.ref z) H') ∧ (effect b s w c p S W C dd = none → Bad E BD H)
/-- .. or None -/
def spTold3T (K : PySem.W.Frag) (TP : Addr) : Sp := fun vs H Q _ => ∃ (m t d : Addr) (b s w c p : Int) (S W C : List Int) (dd : Dd), vs = [.ref m, .ref t, .ref d] ∧ SqT K H d dd.vs ∧ dd.ok ∧ MachAt K H m b s w c ∧ Mach b s w c ∧ StAt K H t S W C p ∧ Stand b s w c S W C p ∧ GxR.TabG H TP ∧
  (∀ S' W' C' p' g, effect b s w c p S W C dd = some (S', W', C', p', g) → ∀ z H', Tg.SmT TP H H' → Told2 K H' z S' W' C' p' g → Q (.ref z) H') ∧ (effect b s w c p S W C dd = none → ∀ H', Same H H' → Q .non H')
def spTold3 (K : PySem.W.Frag) : Sp := fun vs H Q _ => ∃ (m t d : Addr) (b s w c p : Int) (S W C : List Int) (dd : Dd), vs = [.ref m, .ref t, .ref d] ∧ SqT K H d dd.vs ∧ dd.ok ∧ MachAt K H m b s w c ∧ Mach b s w c ∧ StAt K H t S W C p ∧ Stand b s w c S W C p ∧
  (∀ S' W' C' p' g, effect b s w c p S W C dd = some (S', W', C', p', g) → ∀ z H', Same H H' → Told2 K H' z S' W' C' p' g → Q (.ref z) H') ∧ (effect b s w c p S W C dd = none → ∀ H', Same H H' → Q .non H')
end My
namespace My
open PySem PySem.Spec L2 RT Rn
/-- a drawn deed, new at d -/
def spDeed (K : PySem.W.Frag) : Sp := fun vs H Q _ => ∃ (a cl m : Addr) (b s w c : Int), vs = [.ref a, .ref m] ∧ DrawAt H a cl ∧ MachAt K H m b s w c ∧ Mach b s w c ∧
  ∀ (d : Addr) (dd : Dd) (H' : Hp), dd.ok → SqT K H' d dd.vs → Drew a cl H H' → Q (.ref d) H'
end My
namespace Rn
open PySem PySem.Spec L2 RT
theorem w_catL {K : PySem.W.Frag} {H : Hp} {Q : VK} {a b : Addr} {xs ys : List V} (ha : H a = some (.lst xs)) (hb : H b = some (.lst ys)) (hz : xs.length + ys.length ≤ 100000) (h : ∀ p H', H p = none → Same H H' → H' p = some (.lst (xs ++ ys)) → Q (.ref p) H') : uAdd K (.ref a) (.ref b) H Q :=
  .inr (.inr (.inl ⟨a, b, xs, ys, rfl, rfl, ha, hb, Nat.le_trans hz (by decide), fun p hp => h p _ hp (Same.new hp) upd_same⟩))
end Rn
namespace My
open PySem PySem.Spec L2 RT Rn
theorem cut_set {S : List Int} {i f : Int} (h0 : 0 ≤ i) (h1 : i < S.length) : cutV (S.map V.int) none (some i) ++ [V.int f] ++ cutV (S.map V.int) (some (i + 1)) none = (S.set i.toNat f).map V.int := by
  have e1 : HT.sIx (S.map V.int).length (S.map V.int).length (some i) = i.toNat := by
    show (if i < 0 then _ else min i.toNat _) = _
    rw [if_neg (by omega), List.length_map]
    omega
  have e2 : HT.sIx (S.map V.int).length 0 (some (i + 1)) = i.toNat + 1 := by
    show (if i + 1 < 0 then _ else min (i + 1).toNat _) = _
    rw [if_neg (by omega), List.length_map]
    omega
  have e3 : HT.sIx (S.map V.int).length 0 none = 0 := rfl
  have e4 : HT.sIx (S.map V.int).length (S.map V.int).length none = (S.map V.int).length := rfl
  unfold cutV
  rw [e1, e2, e3, e4, List.drop_zero, Nat.sub_zero, List.set_eq_take_append_cons_drop, if_pos (by omega), List.map_append, List.map_cons, List.map_take, List.map_drop, List.append_assoc]
  congr 1
  show V.int f :: _ = _
  congr 1
  exact List.take_of_length_le (Nat.le_of_eq (by rw [List.length_drop]))
end My
namespace Rn
open PySem PySem.Spec L2 RT
theorem in_strs (x : Str) : ∀ xs : List Str, inV (.str x) (xs.map V.str) = decide (x ∈ xs)
  | [] => by simp [inV]
  | y :: r => by
    have ih := in_strs x r
    unfold inV at ih ⊢
    rw [List.map_cons, List.any_cons, ih]
    by_cases e : y = x
    · subst e
      simp [eqV]
    · have e2 : x ≠ y := fun z => e z.symm
      simp [eqV, e, e2]
theorem flat_strs (ns : List Str) : (ns.map V.str).all flatV = true := by
  rw [List.all_eq_true]
  intro x hx
  obtain ⟨n, _, rfl⟩ := List.mem_map.mp hx
  rfl
theorem w_inS {K : PySem.W.Frag} {H : Hp} {Q : VK} {p : Addr} {ns : List Str} {n : Str} (hl : SqL K H p (ns.map V.str)) (h : Q (.bl (decide (n ∈ ns))) H) : rIn K false (.str n) (.ref p) H Q := ⟨p, _, rfl, .inl hl, rfl, flat_strs ns, by rw [in_strs]; exact h⟩
end Rn
namespace Rn
open PySem PySem.Spec L2 RT
theorem w_indexS {K : PySem.W.Frag} {H : Hp} {Q : VK} {a : Addr} {ns : List Str} {x : Str} {k : Int} (j : Nat) (hl : SqL K H a (ns.map V.str)) (hj : ns[j]? = some x) (hno : ∀ m, m < j → ns[m]? ≠ some x) (hk : k = (j : Int)) (h : Q (.int k) H) : rIndex K (.ref a) [.str x] H Q :=
  ⟨a, _, .str x, j, .str x, rfl, rfl, hl, rfl, flat_strs ns, by rw [List.getElem?_map, hj]; rfl, by simp [eqV], fun m z hm hz => by
    rw [List.getElem?_map] at hz
    cases e : ns[m]? with
    | none => rw [e] at hz; cases hz
    | some y =>
      rw [e] at hz
      obtain rfl := Option.some.inj hz
      have : y ≠ x := fun q => hno m hm (by rw [e, q])
      simp [eqV, this], by rw [← hk]; exact h⟩
end Rn
namespace My
open PySem PySem.Spec L2 RT Rn
theorem tn_mut {H H' : Hp} {l : Addr} {xs ys : List V} (e : H' = upd H l (.lst ys)) (hl : H l = some (.lst xs)) : Tn H H' := by
  subst e
  intro b o hb
  have ne : b ≠ l := fun eb => by
    subst eb
    rcases hb with h | ⟨o', h⟩
    · rw [hl] at h; cases h
    · rw [hl] at h; cases h
  rcases hb with h | ⟨o', h⟩
  · exact .inl (by rw [upd_ne ne]; exact h)
  · exact .inr ⟨o', by rw [upd_ne ne]; exact h⟩
end My
namespace My
theorem effect_wipe {b s w c p : Int} {S W C A B D : List Int} {x : PySem.Str} (h : wipeTo s w c S W C x = some (A, B, D)) : effect b s w c p S W C (.wipe x) = some (A, B, D, p, false) := by
  have e : effect b s w c p S W C (.wipe x) = (wipeTo s w c S W C x).map fun r => (r.1, r.2.1, r.2.2, p, false) := rfl
  rw [e, h]
  rfl
end My
namespace My
open PySem PySem.Spec L2 RT Rn
theorem zer_figs {b : Int} (hb : 0 < b) (n : Int) : Figs b (zer n) := fun d hd => by
  rw [List.eq_of_mem_replicate hd]
  omega
theorem zer_len (n : Int) : (zer n).length = n.toNat := by simp [zer]
theorem Stand.zero {b s w c : Int} (hm : Mach b s w c) : Stand b s w c (zer s) (zer w) (zer c) 0 := by
  obtain ⟨b0, b1, s0, s1, w0, w1, c0, c1⟩ := hm
  exact ⟨zer_len _, zer_len _, zer_len _, zer_figs (by omega) _, zer_figs (by omega) _, zer_figs (by omega) _, by omega, by omega, by omega⟩
theorem Stand.deed {b s w c p p' : Int} {S W C S' W' C' : List Int} {g : Bool} {dd : Dd} (hm : Mach b s w c) (T : Stand b s w c S W C p) (e : effect b s w c p S W C dd = some (S', W', C', p', g)) : Stand b s w c S' W' C' p' := by
  have T0 := T
  obtain ⟨ls, lw, lc, fs, fw, fc, p0, p1, p2⟩ := T
  obtain ⟨b0, b1, s0, s1, w0, w1, c0, c1⟩ := id hm
  cases dd with
  | set i f =>
    by_cases h : (0 ≤ i ∧ i < s) ∧ 0 ≤ f ∧ f < b
    · have e2 : some (S.set i.toNat f, W, C, p, false) = some (S', W', C', p', g) := (if_pos h).symm.trans e
      cases e2
      exact ⟨by rw [List.length_set]; exact ls, lw, lc, fun d hd => by
        rcases List.mem_or_eq_of_mem_set hd with h1 | h1
        · exact fs d h1
        · rw [h1]; exact h.2, fw, fc, p0, p1, p2⟩
    · have e2 : none = some (S', W', C', p', g) := (if_neg h).symm.trans e
      cases e2
  | shift y =>
    by_cases h : 0 ≤ p + y ∧ p + y ≤ min (w - s) (c - 1)
    · have e2 : some (S, W, C, p + y, false) = some (S', W', C', p', g) := (if_pos h).symm.trans e
      cases e2
      exact ⟨ls, lw, lc, fs, fw, fc, h.1, by omega, by omega⟩
    · have e2 : none = some (S', W', C', p', g) := (if_neg h).symm.trans e
      cases e2
  | turn x y =>
    by_cases h : (x = 1 ∨ x = -1) ∧ -1 ≤ y ∧ y ≤ 1
    · have e2 : some (S, wheelsOf b x p w S W, countsOf b y p c C, p, decide (¬ InR (b ^ w.toNat) (whole b x p S W))) = some (S', W', C', p', g) := (if_pos h).symm.trans e
      cases e2
      exact T0.turned hm
    · have e2 : none = some (S', W', C', p', g) := (if_neg h).symm.trans e
      cases e2
  | wipe x =>
    have e2 : (wipeTo s w c S W C x).map (fun r => (r.1, r.2.1, r.2.2, p, false)) = some (S', W', C', p', g) := e
    unfold wipeTo at e2
    split at e2
    · cases e2
      exact ⟨zer_len _, lw, lc, zer_figs (by omega) _, fw, fc, p0, p1, p2⟩
    · split at e2
      · cases e2
        exact ⟨ls, zer_len _, lc, fs, zer_figs (by omega) _, fc, p0, p1, p2⟩
      · split at e2
        · cases e2
          exact ⟨ls, lw, zer_len _, fs, fw, zer_figs (by omega) _, p0, p1, p2⟩
        · cases e2
  | turns => cases e
  | load => cases e
end My
namespace Rn
open PySem PySem.Spec L2 RT
def rIs : R2 := fun x y H Q => y = .non ∧ Q (.bl (decide (x = .non))) H
def rNot : R2 := fun x y H Q => y = .non ∧ Q (.bl (!decide (x = .non))) H
theorem k_isN {X : Cx} : OpR X (compareOp .Is) rIs := op_isN
theorem k_notN {X : Cx} : OpR X (compareOp .IsNot) rNot := op_notN
section
variable {H : Hp} {Q : VK} {a : Addr}
theorem w_isR (h : Q (.bl false) H) : rIs (.ref a) .non H Q := ⟨rfl, by rw [show decide (V.ref a = V.non) = false from decide_eq_false (fun z => nomatch z)]; exact h⟩
theorem w_isN (h : Q (.bl true) H) : rIs .non .non H Q := ⟨rfl, by rw [show decide (V.non = V.non) = true from decide_eq_true rfl]; exact h⟩
theorem w_notR (h : Q (.bl true) H) : rNot (.ref a) .non H Q := ⟨rfl, by rw [show decide (V.ref a = V.non) = false from decide_eq_false (fun z => nomatch z)]; exact h⟩
theorem w_notN (h : Q (.bl false) H) : rNot .non .non H Q := ⟨rfl, by rw [show decide (V.non = V.non) = true from decide_eq_true rfl]; exact h⟩
end
end Rn
namespace My
open PySem PySem.Spec L2 RT Rn
def spLawT (K : PySem.W.Frag) (Ps : List Addr) : Sp := fun vs H Q _ => ∃ (a : Addr) (ns : List Int), vs = [.ref a] ∧ SqL K H a (ns.map V.int) ∧ ns.length ≤ 63 ∧ (∀ H', Q (.bl true) H') ∧ ∀ P ∈ Ps, GxR.TabG H P
theorem DrawAt.smt {TP : Addr} {H H' : Hp} {a c : Addr} (h : DrawAt H a c) (e : Tg.SmT TP H H') : DrawAt H' a c := by
  obtain ⟨s, i, cells, ha, hc, r⟩ := h
  exact ⟨s, i, cells, e.keep _ _ (.inr trivial) ha, e.keep _ _ (.inr trivial) hc, r⟩
theorem Told2.smt {TP : Addr} {K : PySem.W.Frag} {H H' : Hp} {z : Addr} {S W C : List Int} {p : Int} {g : Bool} (h : Told2 K H z S W C p g) (e : Tg.SmT TP H H') : Told2 K H' z S W C p g := by
  obtain ⟨t, h1, h2⟩ := h
  exact ⟨t, e.keep _ _ (.inr trivial) h1, h2.tn e.tn⟩
theorem Kp.tab {a c P : Addr} {A B : Hp} (D : Kp a c A B) (hA : DrawAt A a c) (t : GxR.TabG A P) : GxR.TabG B P := by
  obtain ⟨s, i, cells, ha, hc, _⟩ := hA
  obtain ⟨ps, hp, ht⟩ := t
  exact ⟨ps, D P _ hp (fun z => by rw [z, ha] at hp; cases hp) (fun z => by rw [z, hc] at hp; cases hp), ht⟩
theorem Drew.tab {a c P : Addr} {A B : Hp} (D : Drew a c A B) (hA : DrawAt A a c) (t : GxR.TabG A P) : GxR.TabG B P := Kp.tab D.kp hA t
theorem _root_.L2.Same.tabG {P : Addr} {A B : Hp} (e : Same A B) (t : GxR.TabG A P) : GxR.TabG B P := (Same.smt (P := P) e).tabG t
end My
set_option Elab.async false
set_option linter.all false
set_option maxRecDepth 100000
set_option maxHeartbeats 4000000
/-! handbooks as data -/
namespace My
open PySem PySem.Spec L2 RT Rn
structure Inp where
  nm : Str
  fg : Int
  ls : Int
inductive Dee
  | load (n : Str)
  | one
  | shift (y : Int)
  | turn (x y : Int)
  | wipe (c : Bool)
  | turns (n : Str) (k x y : Int)
  | bell (y : Int)
  | odds (y : Int)
def wipeW (c : Bool) : Str := if c then "counts" else "wheels"
def Dee.vs : Dee → List V
  | .load n => [.str "load", .str n]
  | .one => [.str "one"]
  | .shift y => [.str "shift", .int y]
  | .turn x y => [.str "turn", .int x, .int y]
  | .wipe c => [.str "wipe", .str (wipeW c)]
  | .turns n k x y => [.str "turns", .str n, .int k, .int x, .int y]
  | .bell y => [.str "bell", .int y]
  | .odds y => [.str "odds", .int y]
inductive Sid
  | num (n : Int)
  | wheels
  | counts
  | inp (n : Str)
  | add (p q : Sid)
  | times (p q : Sid)
structure Cla where
  less : Bool
  p : Sid
  q : Sid
structure Bok where
  ins : List Inp
  dds : List Dee
  cls : List Cla
/-! ### what the program holds for good -/
def small : Str := "abcdefghijklmnopqrstuvwxyz"
def nameOk (n : Str) : Bool := decide (1 ≤ n.length) && decide (n.length ≤ 8) && !decide (n ∈ (["wheels", "counts"] : List Str)) && n.cps.toList.all fun c => Txt.contains small ⟨#[c]⟩
def inputOk (s : Int) (ns : List Str) (i : Inp) : Bool := !decide (i.nm ∈ ns) && nameOk i.nm && decide (1 ≤ i.fg) && decide (i.fg ≤ s) && decide (i.ls = 0 ∨ i.ls = 1)
def names (ins : List Inp) : List Str := ins.map (·.nm)
def insOk (s : Int) (ins : List Inp) : Prop := ins.length ≤ 4 ∧ ∀ (k : Nat) (i : Inp), ins[k]? = some i → inputOk s ((names ins).take k) i = true
/-- the figures of the input of that name -/
def figsOf (ins : List Inp) (n : Str) : Option Int := (ins.find? fun i => decide (i.nm = n)).map (·.fg)
def wayOk (x : Int) : Bool := decide (x = 1 ∨ x = -1)
def tallyOk (y : Int) : Bool := decide (-1 ≤ y ∧ y ≤ 1)
def deeOk (ins : List Inp) : Dee → Bool
  | .load n => (figsOf ins n).isSome
  | .one => true
  | .shift _ => true
  | .turn x y => wayOk x && tallyOk y
  | .wipe _ => true
  | .turns n k x y => match figsOf ins n with
    | some f => decide (0 ≤ k) && decide (k < f) && wayOk x && tallyOk y
    | none => false
  | .bell y => tallyOk y
  | .odds y => tallyOk y
def sidOk (ins : List Inp) : Sid → Nat → Bool
  | _, 0 => false
  | .num n, _ + 1 => decide (0 ≤ n) && decide (n ≤ 1000000000)
  | .wheels, _ + 1 => true
  | .counts, _ + 1 => true
  | .inp n, _ + 1 => (figsOf ins n).isSome
  | .add p q, k + 1 => sidOk ins p k && sidOk ins q k
  | .times p q, k + 1 => sidOk ins p k && sidOk ins q k
def claOk (ins : List Inp) (c : Cla) : Bool := sidOk ins c.p 4 && sidOk ins c.q 4
structure BokOk (s : Int) (B : Bok) : Prop where
  ins : insOk s B.ins
  dl : B.dds.length ≤ 40
  dds : ∀ d ∈ B.dds, deeOk B.ins d = true
  cl : B.cls.length ≤ 8
  cls : ∀ c ∈ B.cls, claOk B.ins c = true
/-! ### in the heap -/
section
variable (K : PySem.W.Frag)
def InpAt (H : Hp) (a : Addr) (i : Inp) : Prop := SqT K H a [.str i.nm, .int i.fg, .int i.ls]
def DeeAt (H : Hp) (a : Addr) (d : Dee) : Prop := SqT K H a d.vs
inductive SidAt (H : Hp) : Addr → Sid → Prop
  | num {a : Addr} {n : Int} (h : SqT K H a [.str "num", .int n]) : SidAt H a (.num n)
  | wheels {a : Addr} (h : SqT K H a [.str "wheels"]) : SidAt H a .wheels
  | counts {a : Addr} (h : SqT K H a [.str "counts"]) : SidAt H a .counts
  | inp {a : Addr} {n : Str} (h : SqT K H a [.str "input", .str n]) : SidAt H a (.inp n)
  | add {a x y : Addr} {p q : Sid} (h : SqT K H a [.str "add", .ref x, .ref y]) (hx : SidAt H x p) (hy : SidAt H y q) : SidAt H a (.add p q)
  | times {a x y : Addr} {p q : Sid} (h : SqT K H a [.str "times", .ref x, .ref y]) (hx : SidAt H x p) (hy : SidAt H y q) : SidAt H a (.times p q)
def claW (less : Bool) : Str := if less then "less" else "same"
def ClaAt (H : Hp) (a : Addr) (c : Cla) : Prop := ∃ x y, SqT K H a [.str (claW c.less), .ref x, .ref y] ∧ SidAt K H x c.p ∧ SidAt K H y c.q
def BokAt (H : Hp) (b : Addr) (B : Bok) : Prop := ∃ (x y z : Addr) (xs ys zs : List Addr), SqT K H b [.ref x, .ref y, .ref z] ∧ SqT K H x (xs.map V.ref) ∧ Paired (InpAt K H) xs B.ins ∧
  SqT K H y (ys.map V.ref) ∧ Paired (DeeAt K H) ys B.dds ∧ SqT K H z (zs.map V.ref) ∧ Paired (ClaAt K H) zs B.cls
variable {K} {H H' : Hp}
theorem InpAt.tn {a : Addr} {i : Inp} (h : InpAt K H a i) (e : Tn H H') : InpAt K H' a i := SqT.tn e h
theorem DeeAt.tn {a : Addr} {d : Dee} (h : DeeAt K H a d) (e : Tn H H') : DeeAt K H' a d := SqT.tn e h
theorem SidAt.tn {a : Addr} {p : Sid} (h : SidAt K H a p) (e : Tn H H') : SidAt K H' a p := by
  induction h with
  | num h => exact .num (SqT.tn e h)
  | wheels h => exact .wheels (SqT.tn e h)
  | counts h => exact .counts (SqT.tn e h)
  | inp h => exact .inp (SqT.tn e h)
  | add h _ _ i j => exact .add (SqT.tn e h) i j
  | times h _ _ i j => exact .times (SqT.tn e h) i j
theorem ClaAt.tn {a : Addr} {c : Cla} (h : ClaAt K H a c) (e : Tn H H') : ClaAt K H' a c := by
  obtain ⟨x, y, h1, h2, h3⟩ := h
  exact ⟨x, y, SqT.tn e h1, h2.tn e, h3.tn e⟩
theorem paired_imp {α β : Type} {R S : α → β → Prop} (k : ∀ a b, R a b → S a b) : ∀ {xs : List α} {ys : List β}, Paired R xs ys → Paired S xs ys
  | _, _, .nil => .nil
  | _, _, .cons h t => .cons (k _ _ h) (paired_imp k t)
theorem paired_get {α β : Type} {R : α → β → Prop} {xs : List α} {ys : List β} (r : Paired R xs ys) : ∀ {k : Nat} {y : β}, ys[k]? = some y → ∃ x, xs[k]? = some x ∧ R x y := by
  induction r with
  | nil => intro k y e; cases e
  | cons h t ih =>
    intro k y e
    cases k with
    | zero => cases e; exact ⟨_, rfl, h⟩
    | succ k => exact ih e
theorem paired_getL {α β : Type} {R : α → β → Prop} {xs : List α} {ys : List β} (r : Paired R xs ys) : ∀ {k : Nat} {x : α}, xs[k]? = some x → ∃ y, ys[k]? = some y ∧ R x y := by
  induction r with
  | nil => intro k y e; cases e
  | cons h t ih =>
    intro k y e
    cases k with
    | zero => cases e; exact ⟨_, rfl, h⟩
    | succ k => exact ih e
theorem paired_len {α β : Type} {R : α → β → Prop} : ∀ {xs : List α} {ys : List β}, Paired R xs ys → xs.length = ys.length
  | _, _, .nil => rfl
  | _, _, .cons h t => by simp [paired_len t]
theorem BokAt.tn {b : Addr} {B : Bok} (h : BokAt K H b B) (e : Tn H H') : BokAt K H' b B := by
  obtain ⟨x, y, z, xs, ys, zs, h0, h1, h2, h3, h4, h5, h6⟩ := h
  exact ⟨x, y, z, xs, ys, zs, SqT.tn e h0, SqT.tn e h1, paired_imp (fun _ _ h => h.tn e) h2, SqT.tn e h3, paired_imp (fun _ _ h => h.tn e) h4, SqT.tn e h5, paired_imp (fun _ _ h => h.tn e) h6⟩
end
/-- figures as a dict -/
def figsD (ins : List Inp) : List (Key × V) := ins.map fun i => (.inr i.nm, .int i.fg)
theorem figsD_val (ins : List Inp) (n : Str) : valV (figsD ins) (.inr n) = (figsOf ins n).map V.int := by
  induction ins with
  | nil => rfl
  | cons i r ih =>
    by_cases e : i.nm = n
    · have e2 : ((Sum.inr i.nm : Key)) = .inr n := by rw [e]
      show valV ((.inr i.nm, V.int i.fg) :: figsD r) _ = _
      rw [valV_pos (p := ((Sum.inr i.nm : Key), V.int i.fg)) e2]
      unfold figsOf
      rw [List.find?_cons_of_pos (by simpa using e)]
      rfl
    · have e2 : ¬ ((Sum.inr i.nm : Key)) = .inr n := fun z => e (Sum.inr.inj z)
      show valV ((.inr i.nm, V.int i.fg) :: figsD r) _ = _
      rw [valV_neg (p := ((Sum.inr i.nm : Key), V.int i.fg)) e2, ih]
      unfold figsOf
      rw [List.find?_cons_of_neg (by simpa using e)]
/-! ### promises -/
def spIsName (TP : Addr) : Sp := fun vs H Q _ => ∃ n : Str, vs = [.str n] ∧ n.length ≤ 1000 ∧ GxR.TabG H TP ∧ ∀ H', Tg.SmT TP H H' → Q (.bl (nameOk n)) H'
def spIsInput (K : PySem.W.Frag) (TP : Addr) : Sp := fun vs H Q _ => ∃ (m r l : Addr) (b s w c : Int) (i : Inp) (ns : List Str), vs = [.ref m, .ref r, .ref l] ∧ MachAt K H m b s w c ∧ InpAt K H r i ∧ SqL K H l (ns.map V.str) ∧ i.nm.length ≤ 1000 ∧ GxR.TabG H TP ∧ ∀ H', Tg.SmT TP H H' → Q (.bl (inputOk s ns i)) H'
def spNeedInputs (K : PySem.W.Frag) (TP : Addr) : Sp := fun vs H Q _ => ∃ (m x : Addr) (b s w c : Int) (xs : List Addr) (ins : List Inp), vs = [.ref m, .ref x] ∧ MachAt K H m b s w c ∧ SqT K H x (xs.map V.ref) ∧ Paired (InpAt K H) xs ins ∧ insOk s ins ∧ GxR.TabG H TP ∧ ∀ H', Tg.SmT TP H H' → Q .non H'
def spIsDeed (K : PySem.W.Frag) : Sp := fun vs H Q _ => ∃ (f a : Addr) (ins : List Inp) (d : Dee), vs = [.ref f, .ref a] ∧ H f = some (.dK (figsD ins)) ∧ DeeAt K H a d ∧ Q (.bl (deeOk ins d)) H
def spNeedDeeds (K : PySem.W.Frag) : Sp := fun vs H Q _ => ∃ (f x : Addr) (ins : List Inp) (xs : List Addr) (ds : List Dee), vs = [.ref f, .ref x] ∧ H f = some (.dK (figsD ins)) ∧ SqT K H x (xs.map V.ref) ∧ Paired (DeeAt K H) xs ds ∧ ds.length ≤ 40 ∧ (∀ d ∈ ds, deeOk ins d = true) ∧ ∀ H', Same H H' → Q .non H'
def spIsSide (K : PySem.W.Frag) (n : Nat) : Sp := fun vs H Q _ => ∃ (f a : Addr) (ins : List Inp) (p : Sid) (k : Nat), vs = [.ref f, .ref a, .int k] ∧ k ≤ n ∧ H f = some (.dK (figsD ins)) ∧ SidAt K H a p ∧ Q (.bl (sidOk ins p k)) H
def spIsClaim (K : PySem.W.Frag) : Sp := fun vs H Q _ => ∃ (f a : Addr) (ins : List Inp) (c : Cla), vs = [.ref f, .ref a] ∧ H f = some (.dK (figsD ins)) ∧ ClaAt K H a c ∧ Q (.bl (claOk ins c)) H
def spNeedClaims (K : PySem.W.Frag) : Sp := fun vs H Q _ => ∃ (f x : Addr) (ins : List Inp) (xs : List Addr) (cs : List Cla), vs = [.ref f, .ref x] ∧ H f = some (.dK (figsD ins)) ∧ SqT K H x (xs.map V.ref) ∧ Paired (ClaAt K H) xs cs ∧ cs.length ≤ 8 ∧ (∀ c ∈ cs, claOk ins c = true) ∧ ∀ H', Same H H' → Q .non H'
def spNeedBook (K : PySem.W.Frag) (TP : Addr) : Sp := fun vs H Q _ => ∃ (m bk : Addr) (b s w c : Int) (B : Bok), vs = [.ref m, .ref bk] ∧ MachAt K H m b s w c ∧ Mach b s w c ∧ BokAt K H bk B ∧ BokOk s B ∧ GxR.TabG H TP ∧ ∀ H', Tg.SmT TP H H' → Q .non H'
end My
namespace Rn
open PySem PySem.Spec L2 RT
theorem w_inST {K : PySem.W.Frag} {H : Hp} {Q : VK} {p : Addr} {ns : List Str} {n : Str} (hl : SqT K H p (ns.map V.str)) (h : Q (.bl (decide (n ∈ ns))) H) : rIn K false (.str n) (.ref p) H Q := ⟨p, _, rfl, .inr hl, rfl, flat_strs ns, by rw [in_strs]; exact h⟩
theorem w_lenS {K : PySem.W.Frag} {H : Hp} {Q : VK} {z : Str} (hz : z.length ≤ 100000) (h : Q (.int z.length) H) : uLen K [.str z] H Q := .inr ⟨z, rfl, Nat.le_trans hz (by decide), h⟩
end Rn
namespace Tg
open PySem PySem.Spec L2 RT Rn
theorem SmT.mut {P : Addr} {H H' : Hp} {p : Addr} {o : HO} (e : SmT P H H') (h : H p = none) : SmT P H (upd H' p o) := ⟨fun b x n hb => by
  rw [upd_ne (ne_of_none hb h)]
  exact e.keep b x n hb, fun ps hb => by
  rw [upd_ne (ne_of_none hb h)]
  exact e.tab ps hb⟩
theorem SmT.seqT {P : Addr} {K : PySem.W.Frag} {H H' : Hp} {a : Addr} {xs : List V} (e : SmT P H H') (h : SqT K H a xs) : SqT K H' a xs := SqT.tn e.tn h
end Tg
namespace My
open PySem PySem.Spec L2 RT Rn
theorem map_ref {xs : List Addr} {i : Nat} {v : V} (h : (xs.map V.ref)[i]? = some v) : ∃ r, xs[i]? = some r ∧ v = .ref r := by
  rw [List.getElem?_map] at h
  cases e : xs[i]? with
  | none => rw [e] at h; cases h
  | some r => rw [e] at h; cases h; exact ⟨r, rfl, rfl⟩
theorem nameOk_len {n : Str} (h : nameOk n = true) : n.length ≤ 8 := by
  unfold nameOk at h
  simp only [Bool.and_eq_true, decide_eq_true_eq] at h
  exact h.1.1.2
theorem inputOk_name {s : Int} {ns : List Str} {i : Inp} (h : inputOk s ns i = true) : nameOk i.nm = true := by
  unfold inputOk at h
  simp only [Bool.and_eq_true, decide_eq_true_eq] at h
  exact h.1.1.1.2
theorem take_names {ins : List Inp} {k : Nat} {i : Inp} (h : ins[k]? = some i) : (names ins).take (k + 1) = (names ins).take k ++ [i.nm] := by
  unfold names
  rw [List.take_add_one, List.getElem?_map, h]
  rfl
end My
namespace My
theorem way_in (x : Int) : wayOk x = decide (x ∈ ([1, -1] : List Int)) := by
  unfold wayOk
  exact decide_eq_decide.mpr (by simp)
theorem tally_in (y : Int) : tallyOk y = decide (y ∈ ([-1, 0, 1] : List Int)) := by
  unfold tallyOk
  exact decide_eq_decide.mpr (by simp; omega)
end My
namespace My
open PySem PySem.Spec L2 RT Rn
theorem figsOf_none {ins : List Inp} {n : Str} (h : n ∉ names ins) : figsOf ins n = none := by
  unfold figsOf
  rw [List.find?_eq_none.mpr fun i hi => ?_]
  · rfl
  · simp only [decide_eq_true_eq]
    exact fun e => h (by rw [← e]; exact List.mem_map_of_mem hi)
theorem inputOk_new {s : Int} {ns : List Str} {i : Inp} (h : inputOk s ns i = true) : i.nm ∉ ns := by
  unfold inputOk at h
  simp only [Bool.and_eq_true, Bool.not_eq_true', decide_eq_false_iff_not, decide_eq_true_eq] at h
  exact h.1.1.1.1
theorem figsD_snoc {s : Int} {ins : List Inp} {k : Nat} {i : Inp} (h : ins[k]? = some i) (g : inputOk s ((names ins).take k) i = true) : putK (figsD (ins.take k)) (.inr i.nm) (.int i.fg) = figsD (ins.take (k + 1)) := by
  have e : valV (figsD (ins.take k)) (.inr i.nm) = none := by
    rw [figsD_val, figsOf_none]
    · rfl
    · have := inputOk_new g
      unfold names at this ⊢
      rw [← List.map_take] at this
      exact this
  rw [putK_new _ e]
  unfold figsD
  rw [List.take_add_one, h]
  simp
end My
namespace My
theorem figsD_len (ins : List Inp) : (figsD ins).length = ins.length := by simp [figsD]
end My
set_option Elab.async false
set_option linter.all false
set_option maxRecDepth 100000
set_option maxHeartbeats 4000000
/-! handbooks worked, with numbers -/
namespace My
open PySem PySem.Spec L2 RT Rn
theorem pow_le12 {b : Int} (h0 : 0 < b) (h1 : b ≤ 12) : ∀ {n N : Nat}, n ≤ N → b ^ n ≤ 12 ^ N
  | 0, N, _ => by
    rw [Int.pow_zero]
    have := Int.pow_pos (n := 12) (m := N) (by omega)
    omega
  | n + 1, 0, h => by omega
  | n + 1, N + 1, h => by
    rw [Int.pow_succ, Int.pow_succ]
    have i := pow_le12 h0 h1 (show n ≤ N by omega)
    exact Int.mul_le_mul i h1 (by omega) (Int.le_of_lt (Int.pow_pos (by omega)))
/-! ### roots -/
/-- the greatest number whose square is no more -/
def sqN : Nat → Nat
  | 0 => 0
  | n + 1 => if (sqN n + 1) * (sqN n + 1) ≤ n + 1 then sqN n + 1 else sqN n
theorem sqN_ok : ∀ n, sqN n * sqN n ≤ n ∧ n < (sqN n + 1) * (sqN n + 1)
  | 0 => by decide
  | n + 1 => by
    obtain ⟨h1, h2⟩ := sqN_ok n
    unfold sqN
    by_cases c : (sqN n + 1) * (sqN n + 1) ≤ n + 1
    · rw [if_pos c]
      refine ⟨c, ?_⟩
      have : (sqN n + 1 + 1) * (sqN n + 1 + 1) = (sqN n + 1) * (sqN n + 1) + 2 * sqN n + 3 := by
        simp only [Nat.add_mul, Nat.mul_add]
        omega
      omega
    · rw [if_neg c]
      exact ⟨by omega, by omega⟩
def sqI (n : Int) : Int := (sqN n.toNat : Nat)
theorem sqI_ok {n : Int} (h : 0 ≤ n) : 0 ≤ sqI n ∧ sqI n * sqI n ≤ n ∧ n < (sqI n + 1) * (sqI n + 1) := by
  obtain ⟨h1, h2⟩ := sqN_ok n.toNat
  refine ⟨Int.natCast_nonneg _, ?_, ?_⟩
  · have : ((sqN n.toNat * sqN n.toNat : Nat) : Int) ≤ (n.toNat : Nat) := by exact_mod_cast h1
    rw [Int.natCast_mul] at this
    unfold sqI
    omega
  · have : ((n.toNat : Nat) : Int) < (((sqN n.toNat + 1) * (sqN n.toNat + 1) : Nat) : Int) := by exact_mod_cast h2
    rw [Int.natCast_mul, Int.natCast_add] at this
    unfold sqI
    have e : ((1 : Nat) : Int) = 1 := rfl
    rw [e] at this
    omega
theorem sq_lt {a b : Int} (h0 : 0 ≤ b) (h : a * a < b * b) : a < b := by
  refine Int.not_le.mp fun z => ?_
  have := Int.mul_le_mul z z h0 (Int.le_trans h0 z)
  omega
theorem sqI_uniq {n r : Int} (h0 : 0 ≤ n) (hr : 0 ≤ r) (h1 : r * r ≤ n) (h2 : n < (r + 1) * (r + 1)) : sqI n = r := by
  obtain ⟨k0, k1, k2⟩ := sqI_ok h0
  have a : r < sqI n + 1 := sq_lt (by omega) (by omega)
  have b : sqI n < r + 1 := sq_lt (by omega) (by omega)
  omega
/-- how many of f, f + 2, .. -/
def oddsN (N f : Int) : Int := (sqI (4 * N + (f - 1) * (f - 1)) - (f - 1)) / 2
theorem oddsN_ok {N f : Int} (hN : 0 ≤ N) (hf : 0 ≤ f) : 0 ≤ oddsN N f ∧ oddsN N f * (oddsN N f + f - 1) ≤ N ∧ N < (oddsN N f + 1) * (oddsN N f + f) := by
  generalize hs : f - 1 = s
  have ss : 0 ≤ s * s := by
    rcases Int.le_total 0 s with h | h
    · exact Int.mul_nonneg h h
    · have := Int.mul_nonneg (Int.neg_nonneg_of_nonpos h) (Int.neg_nonneg_of_nonpos h)
      rwa [Int.neg_mul_neg] at this
  obtain ⟨r0, r1, r2⟩ := sqI_ok (n := 4 * N + s * s) (by omega)
  unfold oddsN
  rw [hs]
  generalize sqI (4 * N + s * s) = R at r0 r1 r2
  have rs : s < R + 1 := sq_lt (by omega) (by omega)
  generalize hm : (R - s) / 2 = m
  have m1 : 2 * m ≤ R - s := by omega
  have m2 : R - s < 2 * m + 2 := by omega
  have m0 : 0 ≤ m := by omega
  have e1 : (2 * m + s) * (2 * m + s) = 4 * (m * (m + s)) + s * s := by
    simp only [Int.add_mul, Int.mul_add]
    have a : 2 * m * (2 * m) = 4 * (m * m) := by
      rw [Int.mul_assoc, Int.mul_left_comm m 2 m, ← Int.mul_assoc]
      rfl
    have b : 2 * m * s = 2 * (m * s) := Int.mul_assoc ..
    have c : s * (2 * m) = 2 * (m * s) := by rw [Int.mul_left_comm, Int.mul_comm s m]
    rw [a, b, c]
    omega
  have e2 : (2 * (m + 1) + s) * (2 * (m + 1) + s) = 4 * ((m + 1) * (m + 1 + s)) + s * s := by
    simp only [Int.add_mul, Int.mul_add]
    have a : 2 * m * (2 * m) = 4 * (m * m) := by
      rw [Int.mul_assoc, Int.mul_left_comm m 2 m, ← Int.mul_assoc]
      rfl
    have b : 2 * m * s = 2 * (m * s) := Int.mul_assoc ..
    have c : s * (2 * m) = 2 * (m * s) := by rw [Int.mul_left_comm, Int.mul_comm s m]
    rw [a, b, c]
    omega
  refine ⟨m0, ?_, ?_⟩
  · have : (2 * m + s) * (2 * m + s) ≤ R * R ∨ 2 * m + s < 0 := by
      rcases Int.lt_or_le (2 * m + s) 0 with h | h
      · exact .inr h
      · exact .inl (Int.mul_le_mul (by omega) (by omega) h (by omega))
    have e3 : m + f - 1 = m + s := by omega
    rw [e3]
    rcases this with h | h
    · omega
    · have mz : m = 0 := by omega
      subst mz
      omega
  · have : (R + 1) * (R + 1) ≤ (2 * (m + 1) + s) * (2 * (m + 1) + s) := Int.mul_le_mul (by omega) (by omega) (by omega) (by omega)
    have e3 : m + f = m + 1 + s := by omega
    rw [e3]
    omega
theorem oddsN_uniq {N f m : Int} (hN : 0 ≤ N) (hf : 0 ≤ f) (hm : 0 ≤ m) (h1 : m * (m + f - 1) ≤ N) (h2 : N < (m + 1) * (m + f)) : oddsN N f = m := by
  obtain ⟨k0, k1, k2⟩ := oddsN_ok hN hf
  generalize oddsN N f = q at k0 k1 k2
  have mono : ∀ x y : Int, 0 ≤ x → x + 1 ≤ y → (x + 1) * (x + f) ≤ y * (y + f - 1) := fun x y hx hxy => Int.mul_le_mul (by omega) (by omega) (by omega) (by omega)
  refine Int.le_antisymm (Int.not_lt.mp fun z => ?_) (Int.not_lt.mp fun z => ?_)
  · have := mono m q hm (by omega)
    omega
  · have := mono q m k0 (by omega)
    omega
/-! ### the four numbers -/
structure Num4 where
  S : Int
  P : Int
  W : Int
  C : Int
structure NumOk (b s w c : Int) (x : Num4) : Prop where
  s0 : 0 ≤ x.S
  s1 : x.S < b ^ s.toNat
  p0 : 0 ≤ x.P
  p1 : x.P ≤ w - s
  p2 : x.P ≤ c - 1
  w0 : 0 ≤ x.W
  w1 : x.W < b ^ w.toNat
  c0 : 0 ≤ x.C
  c1 : x.C < b ^ c.toNat
def NumAt (K : PySem.W.Frag) (H : Hp) (a : Addr) (x : Num4) : Prop := SqT K H a [.int x.S, .int x.P, .int x.W, .int x.C]
theorem NumAt.tn {K : PySem.W.Frag} {H H' : Hp} {a : Addr} {x : Num4} (h : NumAt K H a x) (e : Tn H H') : NumAt K H' a x := SqT.tn e h
/-- so many turns of one way -/
def turnedN (b w c : Int) (x : Num4) (many way tally : Int) : Num4 := ⟨x.S, x.P, (x.W + way * many * x.S * b ^ x.P.toNat) % b ^ w.toNat, (x.C + tally * many * b ^ x.P.toNat) % b ^ c.toNat⟩
def rungN (b w c : Int) (x : Num4) (tally : Int) : Option Num4 := if x.S = 0 then none else some (turnedN b w c x (x.W / (x.S * b ^ x.P.toNat)) (-1) tally)
def oddsM (b : Int) (x : Num4) : Int := oddsN (x.W / b ^ x.P.toNat) x.S
def oddsT (b s w c : Int) (x : Num4) (tally : Int) : Option Num4 :=
  let m := oddsM b x
  if x.S + 2 * m ≥ b ^ s.toNat then none else
  let y := turnedN b w c ⟨x.S + m - 1, x.P, x.W, x.C⟩ m (-1) tally
  some ⟨x.S + 2 * m, x.P, y.W, y.C⟩
/-- the inputs' values by their names -/
def valOf (ins : List Inp) (vals : List Int) (n : Str) : Int := ((ins.zip vals).find? fun p => decide (p.1.nm = n)).elim 0 (·.2)
def stepN (b s w c : Int) (val : Str → Int) (x : Num4) : Dee → Option Num4
  | .load n => some ⟨val n, x.P, x.W, x.C⟩
  | .one => some ⟨1, x.P, x.W, x.C⟩
  | .shift y => if 0 ≤ x.P + y ∧ x.P + y ≤ min (w - s) (c - 1) then some ⟨x.S, x.P + y, x.W, x.C⟩ else none
  | .turn way tally => some (turnedN b w c x 1 way tally)
  | .turns n k way tally => some (turnedN b w c x (shr b (val n) k.toNat % b) way tally)
  | .bell tally => rungN b w c x tally
  | .odds tally => oddsT b s w c x tally
  | .wipe false => some ⟨x.S, x.P, 0, x.C⟩
  | .wipe true => some ⟨x.S, x.P, x.W, 0⟩
/-- the deeds in order: the number of the one that can't be done, or the numbers at the end -/
def runN (b s w c : Int) (val : Str → Int) : List Dee → Nat → Num4 → Sum Nat Num4
  | [], _, x => .inr x
  | d :: r, k, x => match stepN b s w c val x d with
    | none => .inl k
    | some y => runN b s w c val r (k + 1) y
/-! ### promises -/
def spRoot : Sp := fun vs H Q _ => ∃ n : Int, vs = [.int n] ∧ 0 ≤ n ∧ n < 2 ^ 62 ∧ ∀ H', Same H H' → Q (.int (sqI n)) H'
def spOddsBefore : Sp := fun vs H Q _ => ∃ N f : Int, vs = [.int N, .int f] ∧ 0 ≤ N ∧ N < 2 ^ 58 ∧ 0 ≤ f ∧ f < 2 ^ 24 ∧ ∀ H', Same H H' → Q (.int (oddsN N f)) H'
def spTurnedW (K : PySem.W.Frag) : Sp := fun vs H Q _ => ∃ (m nu : Addr) (b s w c : Int) (x : Num4) (many way tally : Int), vs = [.ref m, .ref nu, .int many, .int way, .int tally] ∧ MachAt K H m b s w c ∧ Mach b s w c ∧ NumAt K H nu x ∧
  -(2 ^ 60) < x.S ∧ x.S < 2 ^ 60 ∧ 0 ≤ x.P ∧ x.P ≤ c - 1 ∧ -2 ≤ way ∧ way ≤ 2 ∧ -2 ≤ tally ∧ tally ≤ 2 ∧ ∀ z H', Same H H' → NumAt K H' z (turnedN b w c x many way tally) → Q (.ref z) H'
def spShiftedW (K : PySem.W.Frag) : Sp := fun vs H Q _ => ∃ (m nu : Addr) (b s w c y : Int) (x : Num4), vs = [.ref m, .ref nu, .int y] ∧ MachAt K H m b s w c ∧ Mach b s w c ∧ NumAt K H nu x ∧
  (0 ≤ x.P + y ∧ x.P + y ≤ min (w - s) (c - 1) → ∀ z H', Same H H' → NumAt K H' z ⟨x.S, x.P + y, x.W, x.C⟩ → Q (.ref z) H') ∧ (¬ (0 ≤ x.P + y ∧ x.P + y ≤ min (w - s) (c - 1)) → Q .non H)
/-- the numbers behind, or None -/
def OutN (K : PySem.W.Frag) (H : Hp) (Q : VK) (o : Option Num4) : Prop := (∀ y, o = some y → ∀ z H', Same H H' → NumAt K H' z y → Q (.ref z) H') ∧ (o = none → ∀ H', Same H H' → Q .non H')
def spRung (K : PySem.W.Frag) : Sp := fun vs H Q _ => ∃ (m nu : Addr) (b s w c tally : Int) (x : Num4), vs = [.ref m, .ref nu, .int tally] ∧ MachAt K H m b s w c ∧ Mach b s w c ∧ NumAt K H nu x ∧ NumOk b s w c x ∧ -2 ≤ tally ∧ tally ≤ 2 ∧ OutN K H Q (rungN b w c x tally)
def spOddsT (K : PySem.W.Frag) : Sp := fun vs H Q _ => ∃ (m nu : Addr) (b s w c tally : Int) (x : Num4), vs = [.ref m, .ref nu, .int tally] ∧ MachAt K H m b s w c ∧ Mach b s w c ∧ NumAt K H nu x ∧ NumOk b s w c x ∧ -2 ≤ tally ∧ tally ≤ 2 ∧ OutN K H Q (oddsT b s w c x tally)
/-- values as a dict -/
def valsD (ins : List Inp) (vals : List Int) : List (Key × V) := (ins.zip vals).map fun p => (.inr p.1.nm, .int p.2)
structure ValsOk (b : Int) (ins : List Inp) (vals : List Int) : Prop where
  len : vals.length = ins.length
  at_ : ∀ (k : Nat) (i : Inp) (v : Int), ins[k]? = some i → vals[k]? = some v → i.ls ≤ v ∧ v < b ^ i.fg.toNat
end My
namespace My
open PySem PySem.Spec L2 RT Rn
theorem divW66 {a b : Int} (h : 0 < b) (h2 : b < 2 ^ 66) : CDivW a b := wide_div (b := 66) h (by omega) (by decide) (by decide)
end My
namespace My
open PySem PySem.Spec L2 RT Rn
theorem valsD_val {ins : List Inp} {vals : List Int} {n : Str} (hl : vals.length = ins.length) (h : (figsOf ins n).isSome = true) : valV (valsD ins vals) (.inr n) = some (.int (valOf ins vals n)) := by
  induction ins generalizing vals with
  | nil => cases h
  | cons i r ih =>
    cases vals with
    | nil => cases hl
    | cons v vs =>
      by_cases e : i.nm = n
      · have e2 : ((Sum.inr i.nm : Key)) = .inr n := by rw [e]
        show valV (((Sum.inr i.nm : Key), V.int v) :: valsD r vs) _ = _
        rw [valV_pos (p := ((Sum.inr i.nm : Key), V.int v)) e2]
        unfold valOf
        rw [List.zip_cons_cons, List.find?_cons_of_pos (by simpa using e)]
        rfl
      · have e2 : ¬ ((Sum.inr i.nm : Key)) = .inr n := fun z => e (Sum.inr.inj z)
        show valV (((Sum.inr i.nm : Key), V.int v) :: valsD r vs) _ = _
        unfold figsOf at h
        rw [List.find?_cons_of_neg (by simpa using e)] at h
        rw [valV_neg (p := ((Sum.inr i.nm : Key), V.int v)) e2, ih (by simpa using hl) h]
        unfold valOf
        rw [List.zip_cons_cons, List.find?_cons_of_neg (by simpa using e)]
theorem valOf_at {ins : List Inp} {vals : List Int} {n : Str} (hl : vals.length = ins.length) (h : (figsOf ins n).isSome = true) : ∃ (k : Nat) (i : Inp), ins[k]? = some i ∧ vals[k]? = some (valOf ins vals n) ∧ i.nm = n ∧ figsOf ins n = some i.fg := by
  induction ins generalizing vals with
  | nil => cases h
  | cons i r ih =>
    cases vals with
    | nil => cases hl
    | cons v vs =>
      by_cases e : i.nm = n
      · refine ⟨0, i, rfl, ?_, e, ?_⟩
        · unfold valOf
          rw [List.zip_cons_cons, List.find?_cons_of_pos (by simpa using e)]
          rfl
        · unfold figsOf
          rw [List.find?_cons_of_pos (by simpa using e)]
          rfl
      · unfold figsOf at h
        rw [List.find?_cons_of_neg (by simpa using e)] at h
        obtain ⟨k, j, h1, h2, h3, h4⟩ := ih (vals := vs) (by simpa using hl) h
        refine ⟨k + 1, j, h1, ?_, h3, ?_⟩
        · unfold valOf
          rw [List.zip_cons_cons, List.find?_cons_of_neg (by simpa using e)]
          exact h2
        · unfold figsOf
          rw [List.find?_cons_of_neg (by simpa using e)]
          exact h4
theorem digs_at (b n : Int) (k : Nat) : atI ((digs b n (k + 1)).map V.int) (k : Int) = some (.int (shr b n k % b)) := by
  have e : (digs b n (k + 1))[k]? = some (shr b n k % b) := by
    rw [digs_end, List.getElem?_append_right (by rw [digs_len]; omega), digs_len, Nat.sub_self]
    rfl
  exact atI_of (by omega) (by rw [Int.toNat_natCast, List.getElem?_map, e]; rfl)
theorem figs_bound {s : Int} {ins : List Inp} {n : Str} {f : Int} (hi : insOk s ins) (h : figsOf ins n = some f) : 1 ≤ f ∧ f ≤ s := by
  unfold figsOf at h
  cases e : ins.find? fun i => decide (i.nm = n) with
  | none => rw [e] at h; cases h
  | some i =>
    rw [e] at h
    cases h
    have hm := List.mem_of_find?_eq_some e
    obtain ⟨k, hk⟩ := List.getElem?_of_mem hm
    have io := hi.2 k i hk
    unfold inputOk at io
    simp only [Bool.and_eq_true, decide_eq_true_eq] at io
    exact ⟨io.1.1.2, io.1.2⟩
theorem turns_ok {s : Int} {ins : List Inp} {n : Str} {k x y : Int} (hi : insOk s ins) (h : deeOk ins (.turns n k x y) = true) : (figsOf ins n).isSome = true ∧ 0 ≤ k ∧ k < s ∧ wayOk x = true ∧ tallyOk y = true := by
  unfold deeOk at h
  cases e : figsOf ins n with
  | none => simp only [e] at h; cases h
  | some f =>
    simp only [e, Bool.and_eq_true, decide_eq_true_eq] at h
    obtain ⟨⟨⟨h1, h2⟩, h3⟩, h4⟩ := h
    have := figs_bound hi e
    exact ⟨rfl, h1, by omega, h3, h4⟩
def spBehind (K : PySem.W.Frag) : Sp := fun vs H Q _ => ∃ (m v nu d : Addr) (b s w c : Int) (ins : List Inp) (vals : List Int) (x : Num4) (dd : Dee), vs = [.ref m, .ref v, .ref nu, .ref d] ∧ MachAt K H m b s w c ∧ Mach b s w c ∧ H v = some (.dK (valsD ins vals)) ∧ vals.length = ins.length ∧ insOk s ins ∧
  NumAt K H nu x ∧ NumOk b s w c x ∧ DeeAt K H d dd ∧ deeOk ins dd = true ∧ OutN K H Q (stepN b s w c (valOf ins vals) x dd)
/-- numbers stay in bounds -/
theorem NumOk.step {b s w c : Int} {ins : List Inp} {vals : List Int} {x y : Num4} {dd : Dee} (hm : Mach b s w c) (hi : insOk s ins) (hv : ValsOk b ins vals) (h : NumOk b s w c x) (g : deeOk ins dd = true) (e : stepN b s w c (valOf ins vals) x dd = some y) : NumOk b s w c y := by
  obtain ⟨b0, b1, s0, s1, w0, w1, c0, c1⟩ := id hm
  obtain ⟨S0, S1, P0, P1, P2, W0, W1, C0, C1⟩ := id h
  have pw := Int.pow_pos (n := b) (m := w.toNat) (by omega)
  have pc := Int.pow_pos (n := b) (m := c.toNat) (by omega)
  have tu : ∀ (z : Num4) (many way tally : Int), 0 ≤ (turnedN b w c z many way tally).W ∧ (turnedN b w c z many way tally).W < b ^ w.toNat ∧ 0 ≤ (turnedN b w c z many way tally).C ∧ (turnedN b w c z many way tally).C < b ^ c.toNat := fun z many way tally =>
    ⟨Int.emod_nonneg _ (by omega), Int.emod_lt_of_pos _ pw, Int.emod_nonneg _ (by omega), Int.emod_lt_of_pos _ pc⟩
  have tk : ∀ (many way tally : Int), NumOk b s w c (turnedN b w c x many way tally) := fun many way tally => ⟨S0, S1, P0, P1, P2, (tu x many way tally).1, (tu x many way tally).2.1, (tu x many way tally).2.2.1, (tu x many way tally).2.2.2⟩
  cases dd with
  | load n =>
    cases e
    obtain ⟨k, i, h1, h2, h3, h4⟩ := valOf_at hv.len g
    obtain ⟨l1, l2⟩ := hv.at_ k i _ h1 h2
    have io := hi.2 k i h1
    unfold inputOk at io
    simp only [Bool.and_eq_true, decide_eq_true_eq] at io
    obtain ⟨⟨⟨_, f1⟩, f2⟩, f3⟩ := io
    have hp : b ^ i.fg.toNat ≤ b ^ s.toNat := by
      obtain ⟨j, hj⟩ : ∃ j, s.toNat = i.fg.toNat + j := ⟨s.toNat - i.fg.toNat, by omega⟩
      rw [hj, Int.pow_add]
      have a := Int.pow_pos (n := b) (m := i.fg.toNat) (by omega)
      have d := Int.pow_pos (n := b) (m := j) (by omega)
      have := Int.mul_le_mul_of_nonneg_left (show 1 ≤ b ^ j by omega) (Int.le_of_lt a)
      omega
    exact ⟨by show 0 ≤ valOf ins vals n; omega, by show valOf ins vals n < _; omega, P0, P1, P2, W0, W1, C0, C1⟩
  | one =>
    cases e
    have : b ^ 1 ≤ b ^ s.toNat := by
      obtain ⟨j, hj⟩ : ∃ j, s.toNat = 1 + j := ⟨s.toNat - 1, by omega⟩
      rw [hj, Int.pow_add]
      have d := Int.pow_pos (n := b) (m := j) (by omega)
      have := Int.mul_le_mul_of_nonneg_left (show 1 ≤ b ^ j by omega) (show 0 ≤ b ^ 1 by rw [Int.pow_succ, Int.pow_zero]; omega)
      omega
    rw [Int.pow_succ, Int.pow_zero] at this
    exact ⟨by show (0 : Int) ≤ 1; omega, by show (1 : Int) < _; omega, P0, P1, P2, W0, W1, C0, C1⟩
  | shift z =>
    by_cases q : 0 ≤ x.P + z ∧ x.P + z ≤ min (w - s) (c - 1)
    · have e2 : some (⟨x.S, x.P + z, x.W, x.C⟩ : Num4) = some y := (if_pos q).symm.trans e
      cases e2
      exact ⟨S0, S1, q.1, by show x.P + z ≤ _; omega, by show x.P + z ≤ _; omega, W0, W1, C0, C1⟩
    · have e2 : none = some y := (if_neg q).symm.trans e
      cases e2
  | turn way tally =>
    cases e
    exact tk _ _ _
  | wipe cc =>
    cases cc with
    | false => cases e; exact ⟨S0, S1, P0, P1, P2, by show (0 : Int) ≤ 0; omega, pw, C0, C1⟩
    | true => cases e; exact ⟨S0, S1, P0, P1, P2, W0, W1, by show (0 : Int) ≤ 0; omega, pc⟩
  | turns n k way tally =>
    cases e
    exact tk _ _ _
  | bell tally =>
    by_cases q : x.S = 0
    · have e2 : none = some y := (if_pos q).symm.trans e
      cases e2
    · have e2 : some (turnedN b w c x (x.W / (x.S * b ^ x.P.toNat)) (-1) tally) = some y := (if_neg q).symm.trans e
      cases e2
      exact tk _ _ _
  | odds tally =>
    have e0 : oddsT b s w c x tally = some y := e
    unfold oddsT at e0
    have hN0 : 0 ≤ x.W / b ^ x.P.toNat := Int.ediv_nonneg W0 (Int.le_of_lt (Int.pow_pos (by omega)))
    obtain ⟨k0, k1, k2⟩ := oddsN_ok hN0 S0
    have em : oddsN (x.W / b ^ x.P.toNat) x.S = oddsM b x := rfl
    rw [em] at k0
    dsimp only at e0
    by_cases q : x.S + 2 * oddsM b x ≥ b ^ s.toNat
    · rw [if_pos q] at e0
      cases e0
    · rw [if_neg q] at e0
      cases e0
      have t := tu ⟨x.S + oddsM b x - 1, x.P, x.W, x.C⟩ (oddsM b x) (-1) tally
      exact ⟨by show 0 ≤ x.S + 2 * oddsM b x; omega, by show x.S + 2 * oddsM b x < _; omega, P0, P1, P2, t.1, t.2.1, t.2.2.1, t.2.2.2⟩
end My
namespace My
open PySem PySem.Spec L2 RT Rn
def spNeedValues (K : PySem.W.Frag) : Sp := fun vs H Q _ => ∃ (m x v : Addr) (b s w c : Int) (xs : List Addr) (ins : List Inp) (vals : List Int), vs = [.ref m, .ref x, .ref v] ∧ MachAt K H m b s w c ∧ Mach b s w c ∧ SqT K H x (xs.map V.ref) ∧ Paired (InpAt K H) xs ins ∧ insOk s ins ∧
  H v = some (.dK (valsD ins vals)) ∧ ValsOk b ins vals ∧ Q .non H
theorem valsD_len {ins : List Inp} {vals : List Int} (h : vals.length = ins.length) : (valsD ins vals).length = ins.length := by
  unfold valsD
  rw [List.length_map, List.length_zip, h, Nat.min_self]
end My
namespace My
open PySem PySem.Spec L2 RT Rn
theorem names_uniq {s : Int} {ins : List Inp} (h : insOk s ins) {k j : Nat} {a b : Inp} (ha : ins[k]? = some a) (hb : ins[j]? = some b) (e : a.nm = b.nm) : k = j := by
  have lt : ∀ {k j : Nat} {a b : Inp}, ins[k]? = some a → ins[j]? = some b → a.nm = b.nm → ¬ k < j := fun {k j a b} ha hb e hlt => by
    refine inputOk_new (h.2 j b hb) ?_
    rw [← e]
    refine List.mem_of_getElem? (i := k) ?_
    rw [List.getElem?_take_of_lt hlt]
    unfold names
    rw [List.getElem?_map, ha]
    rfl
  have h1 := lt ha hb e
  have h2 := lt hb ha e.symm
  omega
theorem figsOf_some {ins : List Inp} {i : Inp} (h : i ∈ ins) : (figsOf ins i.nm).isSome = true := by
  unfold figsOf
  rw [Option.isSome_map, List.find?_isSome]
  exact ⟨i, h, by simp⟩
theorem valOf_in {s b : Int} {ins : List Inp} {vals : List Int} (h : insOk s ins) (hv : ValsOk b ins vals) {k : Nat} {i : Inp} (hi : ins[k]? = some i) : vals[k]? = some (valOf ins vals i.nm) ∧ i.ls ≤ valOf ins vals i.nm ∧ valOf ins vals i.nm < b ^ i.fg.toNat := by
  obtain ⟨j, i', h1, h2, h3, _⟩ := valOf_at hv.len (figsOf_some (List.mem_of_getElem? hi))
  have e := names_uniq h h1 hi h3
  subst e
  rw [hi] at h1
  cases h1
  exact ⟨h2, hv.at_ _ _ _ hi h2⟩
end My
namespace My
open PySem PySem.Spec L2 RT Rn
theorem runN_step {b s w c : Int} {val : Str → Int} {ds : List Dee} {i : Nat} {d : Dee} (x : Num4) (h : ds[i]? = some d) : runN b s w c val (ds.drop i) i x = (match stepN b s w c val x d with
    | none => .inl i
    | some y => runN b s w c val (ds.drop (i + 1)) (i + 1) y) := by
  have hi := (List.getElem?_eq_some_iff.mp h).1
  have e : ds.drop i = d :: ds.drop (i + 1) := by
    rw [List.drop_eq_getElem_cons hi]
    congr 1
    exact (List.getElem?_eq_some_iff.mp h).2
  rw [e]
  rfl
def num0 : Num4 := ⟨0, 0, 0, 0⟩
theorem num0_ok {b s w c : Int} (hm : Mach b s w c) : NumOk b s w c num0 := by
  obtain ⟨b0, b1, s0, s1, w0, w1, c0, c1⟩ := hm
  exact ⟨Int.le_refl _, Int.pow_pos (by omega), Int.le_refl _, by show (0 : Int) ≤ w - s; omega, by show (0 : Int) ≤ c - 1; omega, Int.le_refl _, Int.pow_pos (by omega), Int.le_refl _, Int.pow_pos (by omega)⟩
def spWorked (K : PySem.W.Frag) (TP CS : Addr) : Sp := fun vs H Q E => ∃ (m bk v : Addr) (b s w c : Int) (B : Bok) (vals : List Int), vs = [.ref m, .ref bk, .ref v] ∧ MachAt K H m b s w c ∧ Mach b s w c ∧ BokAt K H bk B ∧ BokOk s B ∧ H v = some (.dK (valsD B.ins vals)) ∧ ValsOk b B.ins vals ∧ GxR.TabG H TP ∧
  (∀ k, runN b s w c (valOf B.ins vals) B.dds 0 num0 = .inl k → ∀ d H', Tg.SmT TP H H' → H' d = some (.xd [("number", .int (k : Nat))]) → E (.ref CS) (some d) H') ∧
  (∀ y, runN b s w c (valOf B.ins vals) B.dds 0 num0 = .inr y → ∀ z H', Tg.SmT TP H H' → SqT K H' z [.int y.W, .int y.C] → Q (.ref z) H')
end My
set_option Elab.async false
set_option linter.all false
set_option maxRecDepth 100000
set_option maxHeartbeats 4000000
/-! exceptions with an __init__ of their own: raised, asked by isinstance, their fields read -/
namespace PySem.W
open PySem PySem.Spec PySem.Calls PyProof.Rows
section
variable {K : Frag} {prog : Program} {w : World} {A : Around} {E : Value → Shared → Prop} {s : Shared} {x D : Addr} {ox : Obj} {od : Option Obj}
theorem kin_classED {Q : Option Value → Shared → Prop} (hga : findIn K (.ref D) "__getattribute__" = some (some (.builtin "BaseException.__getattribute__"))) (hgt : findIn K (.ref D) "__getattr__" = some none) (hsub : subIn K (.ref D) (.type "BaseException") = some true)
    (hdct : hasDictIn K D = true) (ha : findIn K (.ref D) "__class__" = some (some (.builtin "object.__class__")))
    (hn : specialIn K (.builtin "object.__class__") "__get__" = some (some (.builtin "getset_descriptor.__get__"))) (htk : takesIn K (.builtin "object.__class__") = some true) (hm : mroIn K D (.type "object") = some true)
    (X : K.In s.heap) (I : InstAt s.heap x ox D od) (h : Q (some (.ref D)) { s with toks := s.toks + 1 }) : wpAny (model prog w) A (getAttr? (.ref x) "__class__") Q E s := by
  have hf : findObj K D od "__class__" = some (.bind (.builtin "getset_descriptor.__get__") (.builtin "object.__class__")) := by
    cases od with
    | none => exact findObj_dataN (by obtain ⟨cd, hc, _⟩ := any_some hdct; rw [hc]; rfl) ha hn htk
    | some o => exact findObj_data (by obtain ⟨cd, hc, _⟩ := any_some hdct; rw [hc]; rfl) ha hn htk
  obtain ⟨hp, g, d, t, os⟩ := s
  have L0 := I.type (M := model prog w)
  have L1 := looks_findIn (M := model prog w) X hga
  have L2 := looks_findIn (M := model prog w) X hgt
  have L3 := looks_find (M := model prog w) X I hf
  have sub : Looks (model prog w) hp (isInstance (.ref x) (.type "BaseException")) true := L0.andThen (looks_subIn X hsub)
  have hx0 : (false && onTheHeap (Value.builtin "BaseException.__getattribute__")) = false := rfl
  have hx2 : (Value.builtin "BaseException.__getattribute__" == Value.builtin "object.__getattribute__") = false := by decide +kernel
  have hx1 : (onTheHeap (Value.ref D) && Value.builtin "BaseException.__getattribute__" == Value.builtin "object.__getattribute__") = false := by rw [hx2]; rfl
  unfold getAttr? getAttrBy? getAttrBy
  refine wpAny_bind (wpAny_mkText (wpAny_bind (wpAny_attempt (wpAny_holding (wpAny_bind (L0.at (wpAny_bind (L1.at ?_))))))))
  show wpAny _ _ (if (onTheHeap (Value.ref D) && Value.builtin "BaseException.__getattribute__" == Value.builtin "object.__getattribute__") = true then _ else _) _ _ _
  rw [hx1, if_neg Bool.false_ne_true]
  unfold getAttrByItsOwn hookBefore
  refine wpAny_bind ?_
  rw [if_pos (show onTheHeap (Value.ref D) = true from rfl)]
  refine L2.at ?_
  refine wpAny_bind (wpAny_attempt (wpAny_holding ?_))
  unfold callGetattribute
  rw [hx0, if_neg Bool.false_ne_true]
  unfold boundAndCalled
  rw [PySem.F.excAttr_ValueError.ga.bind (.ref x)]
  refine wpAny_bind (wpAny_pure ?_)
  show wpAny _ _ (call (.builtin "BaseException.__getattribute__") [.ref x, .str "__class__" t]) _ _ _
  refine wpAny_call (codeAny_call_builtin PySem.F.excAttr_ValueError.ga.plain PySem.F.entry_bexc_ga ?_)
  refine @check_slot (model prog w) _ _ ⟨hp, g, d, t + 1, os⟩ "BaseException.__getattribute__" "BaseException" "__getattribute__" (.ref x) [.str "__class__" t] [] _ (by decide +kernel) (by decide +kernel) sub (PySem.F.args_bexc_ga (.ref x) (.str "__class__" t)) ?_
  unfold Builtin.«object.__getattribute__»
  refine wpAny_bind (wpAny_of_eq (a := ((Value.ref x : Value), [Value.str "__class__" t])) (by first | rfl | (simp only [slotArgs]; rfl)) ?_)
  refine wpAny_bind (wpAny_pure (wpAny_bind (L0.at (wpAny_bind (L3.at ?_)))))
  show wpAny _ _ (holding [Value.builtin "object.__class__"] (call (.builtin "getset_descriptor.__get__") [.builtin "object.__class__", .ref x, .ref D]) >>= ret) _ _ _
  refine wpAny_bind (wpAny_holding (wpAny_call (class_get (s := ⟨hp, g, d, t + 1, os⟩) (ox := ox) (od := od) X I hm ?_)))
  refine wpAny_pure ?_
  show wpAny _ _ (handedOut (.ref D)) _ _ _
  rw [handedOut_of (v := .ref D) rfl]
  first
    | exact wpAny_pure (wpAny_pure h)
    | exact wpAny_pure h
    | exact wpAny_pure (wpAny_bind (wpAny_pure (wpAny_pure h)))
theorem kitx_excD (hga : findIn K (.ref D) "__getattribute__" = some (some (.builtin "BaseException.__getattribute__"))) (hgt : findIn K (.ref D) "__getattr__" = some none) (hsub : subIn K (.ref D) (.type "BaseException") = some true) (hdct : hasDictIn K D = true) (ha : findIn K (.ref D) "__class__" = some (some (.builtin "object.__class__")))
    (hn : specialIn K (.builtin "object.__class__") "__get__" = some (some (.builtin "getset_descriptor.__get__"))) (htk : takesIn K (.builtin "object.__class__") = some true) (hm : mroIn K D (.type "object") = some true) :
    KitX K (.ref x) (.ref D) (fun h => InstAt h x ox D od) where
  ty := fun _ _ _ I => I.type
  it := fun _ _ X _ => by
    obtain ⟨cdD, hcD, _⟩ := any_some hdct
    unfold clsIn at hcD
    split at hcD
    · rename_i c' d' cd' sl' ho
      intro A' Q' E' s' k q
      unfold isType loadHead
      exact wpAny_bind (wpAny_loadPart (k _ _ (X _ _ ho)) (wpAny_pure q))
    · cases hcD
  ne := fun h tp dd its n sl X htp => by
    obtain ⟨cdD, hcD, _⟩ := any_some hdct
    refine Bool.eq_false_iff.mpr fun q => ?_
    have e : D = tp := Value.ref.inj (beq_iff_eq.mp q)
    subst e
    unfold clsIn at hcD
    split at hcD
    · rename_i c' d' cd' sl' ho
      have z := (X _ _ ho).symm.trans htp
      cases z
    · cases hcD
  ca := fun X I k => kin_classED hga hgt hsub hdct ha hn htk hm X I k
end
end PySem.W
namespace L2
open PySem PySem.Spec PyProof.Rows
/-- isinstance of the held exception, which may have a dict -/
def rIsY (K : PySem.W.Frag) (a : Addr) (cls : Value) (d : Option Addr) : List V → Hp → VK → Prop := fun xs H Q => ∃ (D : Addr) (c : V) (b : Bool), cls = .ref D ∧ (d = none ∨ ∃ dd fs, d = some dd ∧ H dd = some (.xd fs)) ∧ ExcC K D ∧ xs = [.ref a, c] ∧
  ((∃ u, ClsV c u ∧ PySem.W.kitOne K (.ref D) u = some b) ∨ ∃ (tp : Addr) (cs : List V) (us : List Value), c = .ref tp ∧ H tp = some (.tup cs) ∧ Paired ClsV cs us ∧ PySem.W.kitAny K (.ref D) us = some b) ∧ Q (.bl b) H
theorem call_isY {X : Cx} {a : Addr} {oe : Obj} {cls : Value} {d : Option Addr} {pn : List (Addr × Obj)} (K : PySem.W.Frag) (eK : X.K = K) (hz : Zc cls d oe) (hf : ∃ vs, oe.data = .fields vs) : CallR (X.suite a ((a, oe) :: pn)) (.builtin "isinstance") (rIsY K a cls d) := by
  subst eK
  intro pins s σ H xs us Q I r h
  obtain ⟨D, c, b, rfl, hdd, C, rfl, hc, q⟩ := h
  obtain ⟨u1, u2, rfl, r1, r2⟩ := vals2 r
  cases (show u1 = Value.ref a from r1)
  obtain ⟨hget, _⟩ := I.pin (a, oe) (List.mem_append.mpr (.inl List.mem_cons_self))
  obtain ⟨vs, hv⟩ := hf
  have J : ∃ od, PySem.W.InstAt s.heap a oe D od := by
    rcases hdd with rfl | ⟨dd, fs, rfl, hx⟩
    · refine ⟨none, ?_⟩
      obtain ⟨oc, od, oda, osl⟩ := oe
      obtain ⟨h1, h2⟩ := hz
      dsimp only at h1 h2 hv
      subst h1 h2 hv
      exact ⟨hget, rfl, rfl, trivial⟩
    · have hx : ObjOk X.prog X.w H s.heap dd (.xd fs) := I.hok dd _ hx
      obtain ⟨mA, hns, hr⟩ := hx
      obtain ⟨od, ho, hl⟩ := lookIn_ns hns
      exact ⟨some od, hget, hz.1, by unfold PySem.W.notCls; rw [hv], by rw [hz.2]; exact ho⟩
  obtain ⟨od, J⟩ := J
  rcases hc with ⟨u, k, e⟩ | ⟨tp, cs, ws, rfl, hT, k, e⟩
  · have ec := k.eq r2
    subst ec
    exact PySem.W.kia_one (PySem.W.kitx_excD C.hg C.hk C.hs C.hd C.ha C.hn C.ht C.hm) I.kIn J e (fun z => nomatch z) fun tk => ⟨.bl b, H, I.kept (t' := tk) fun _ _ z => z, rfl, q⟩
  · cases (show u2 = Value.ref tp from r2)
    obtain ⟨_, its, rv, o, h1, h2, n, h3⟩ := (show ObjOk X.prog X.w H s.heap tp (.tup cs) from I.hok tp _ hT)
    have e3 := ClsV.all k rv
    subst e3
    obtain ⟨oc, od, dt, sl⟩ := o
    simp only at h2 h3
    subst h2 h3
    exact PySem.W.kia_tup (PySem.W.kitx_excD C.hg C.hk C.hs C.hd C.ha C.hn C.ht C.hm) I.kIn J h1 e (fun z => nomatch z) fun tk => ⟨.bl b, H, I.tok tk, rfl, q⟩
/-- e.f, e the exception that the suite holds -/
def tXBy (K : PySem.W.Frag) (a : Addr) (cls : Value) (d : Option Addr) (f : Str) (te : TE) : TE := fun σ H Q => te σ H fun x H1 => x = .ref a ∧ ∃ (C dd : Addr) (fs : List (Str × V)) (v : V), cls = .ref C ∧ ExcC K C ∧ PySem.W.findIn K (.ref C) f = some none ∧ d = some dd ∧ H1 dd = some (.xd fs) ∧ fs.lookup f = some v ∧ Q v H1
theorem pe_xby {X : Cx} {a : Addr} {oe : Obj} {cls : Value} {d : Option Addr} {pn : List (Addr × Obj)} (K : PySem.W.Frag) (eK : X.K = K) {f : Str} {e : Expr} {te : TE} {pos : Pos} (hz : Zc cls d oe) (hf : ∃ vs, oe.data = .fields vs) (he : PE (X.suite a ((a, oe) :: pn)) e te)
    (hb : attributeBase e f X.env (eval e X.env) = eval e X.env := by rfl) : PE (X.suite a ((a, oe) :: pn)) (.Attribute e f pos) (tXBy K a cls d f te) := by
  subst eK
  refine ⟨fun pins s σ H Q I h => ?_⟩
  refine attr_of hb (thn (he.run pins s σ H _ I h) fun u s1 hh => ?_)
  obtain ⟨x, H1, I1, rx, ex, C, dd, fs, v, ec, T, noN, ed, ea, el, q⟩ := hh
  subst ex
  obtain rfl : u = Value.ref a := rx
  subst ec
  subst ed
  obtain ⟨ha, _⟩ := I1.pin (a, oe) (List.mem_append_left _ List.mem_cons_self)
  obtain ⟨vs, hd⟩ := hf
  have hx : ObjOk X.prog X.w H1 s1.heap dd (.xd fs) := I1.hok dd _ ea
  obtain ⟨mA, hns, hr⟩ := hx
  obtain ⟨od, ho, hl⟩ := lookIn_ns hns
  obtain ⟨u, hu, ru⟩ := RelO.some_of (v := v) (o := mA f) (by rw [← el]; exact hr f)
  have J : PySem.W.InstAt s1.heap a oe C (some od) := ⟨ha, hz.1, by unfold PySem.W.notCls; rw [hd] <;> rfl, by rw [hz.2]; exact ho⟩
  exact HandSPX.exc_get I1.kIn J T.hg T.hk T.hs (PySem.W.findObj_own T.hd noN rfl (by rw [hl, hu])) (handed_of ru) ⟨v, H1, I1.tok _, ru, q⟩
/-- B.__init__(self, ..), B an own class without an __init__, over ValueError -/
theorem pe_dinit {X : Cx} {x : Str} {B : Addr} {e : Expr} {es : List Expr} {ta : TA} {p1 p2 pos : Pos} {pl : Sem Bool} (K : PySem.W.Frag) (eK : X.K = K) (hg : Gl X x) (hm : X.mg x = some (.ref B)) (ga : PySem.W.specialIn K (.ref B) "__getattribute__" = some (some (.builtin "type.__getattribute__"))) (hr : PySem.W.readsIn K B (.type "type") = true)
    (vV : PySem.W.findCls K (.ref B) (.type "type") "__init__" = some (.val (.builtin "ValueError.__init__"))) (ha : PA X (e :: es) ta)
    (hc : eval (.Call (.Attribute (.Name x p1) "__init__" p2) (e :: es) [] pos) X.env = (do
      let ov ← eval (.Name x p1) X.env
      standAt p2.atName
      let (f, first) ← holding [ov] (getMethod ov "__init__" pl)
      callWith pos f first (backTo pos (starEach (e :: es) X.env)) (backToKw pos (keywordEach [] X.env))) := by rfl)
    (hdb : (x == ("__debug__" : Str)) = false := by decide) (he : starEach (e :: es) X.env = (false, eval e X.env) :: starEach es X.env := by rfl) (hpl : (backTo pos (starEach es X.env)).any (·.1) = false := by rfl) :
    PE X (.Call (.Attribute (.Name x p1) "__init__" p2) (e :: es) [] pos) (tVeI K ta) := by
  subst eK
  refine ⟨fun pins s σ H Q I h => ?_⟩
  refine PySem.W.methodCall_KW (ld_glob I hg hm ?_ hdb) hc
  refine PySem.W.method_cls I.kIn ga ?_
  refine PySem.W.cls_value I.kIn hr vV (by decide +kernel) ?_
  show wpAny _ _ (callWith pos (Value.builtin "ValueError.__init__") [] (backTo pos (starEach (e :: es) X.env)) []) _ _ _
  refine PyProof.Rows.callWith_method1 (thn (ha.run pos pins _ σ H _ (I.tok _) h) fun us s1 ⟨vs, H1, I1, r1, a, C, ws, ev, hl, T, ea, q⟩ => ?_) he hpl
  subst ev
  cases r1 with
  | @cons _ u0 _ ur ra rw' =>
    obtain rfl : u0 = Value.ref a := ra
    have hlen : ur.length ≤ sizeLine := by
      rw [← Paired.length rw', sizeLine_eq]
      omega
    exact oinit_ok T I1 ea hlen fun s' J => ⟨.non, H1, J, rfl, q⟩
end L2
namespace Rn
open PySem PySem.Spec L2 RT
section
variable {K : PySem.W.Frag} {σ : St} {H : Hp} {te to : TE} {ta : TA} {Q : VK} {D : Ends}
theorem w_vei (h : ta σ H fun vs H1 => ∃ (a C : Addr) (ws : List V), vs = .ref a :: ws ∧ ws.length ≤ 1000 ∧ OexC K C ∧ H1 a = some (exo a C none) ∧ Q .non H1) : tVeI K ta σ H Q := h
/-- self.f = y -/
def OstQ (K : PySem.W.Frag) (f : Str) (x y : V) (H2 : Hp) (N : Hp → Prop) : Prop := ∃ a C : Addr, x = .ref a ∧ OexC K C ∧ PySem.W.findIn K (.ref C) f = some none ∧
  ((H2 a = some (exo a C none) ∧ ∀ dx, H2 dx = none → dx ≠ a → N (upd (upd H2 dx (exd dx [(f, y)])) a (exo a C (some dx)))) ∨
    ∃ (dx : Addr) (fs : List (Str × V)), H2 a = some (exo a C (some dx)) ∧ H2 dx = some (exd dx fs) ∧ fs.length ≤ 900 ∧ N (upd H2 dx (exd dx ((f, y) :: fs))))
theorem w_ost {f : Str} (h : te σ H fun y H1 => to σ H1 fun x H2 => OstQ K f x y H2 (D.nx σ)) : tOst K f to te D σ H := h
theorem w_xby {a : Addr} {cls : Value} {d : Option Addr} {f : Str} (h : te σ H fun x H1 => x = .ref a ∧ ∃ (C dd : Addr) (fs : List (Str × V)) (v : V), cls = .ref C ∧ ExcC K C ∧ PySem.W.findIn K (.ref C) f = some none ∧ d = some dd ∧ H1 dd = some (.xd fs) ∧ fs.lookup f = some v ∧ Q v H1) : tXBy K a cls d f te σ H Q := h
end
end Rn
namespace My
open PySem PySem.Spec L2 RT Rn
/-- a statement of a class's body -/
def clsB (st : Stmt) (j : Nat) : Stmt := match st with
  | .ClassDef _ _ _ body _ _ _ _ _ _ _ => body.getD j (.Pass ⟨0, 0, 0, 0⟩)
  | _ => .Pass ⟨0, 0, 0, 0⟩
/-- __init__ that keeps one number -/
def spInit1 (C : Addr) (f : Str) : Sp := fun vs H Q _ => ∃ (a : Addr) (n : Int), vs = [.ref a, .int n] ∧ -(2 ^ 64) < n ∧ n < 2 ^ 64 ∧ H a = some (exo a C none) ∧ ∀ d H', H d = none → d ≠ a → H' = upd (upd H d (exd d [(f, .int n)])) a (exo a C (some d)) → Q .non H'
end My
namespace Rn
open PySem PySem.Spec L2 RT
def MkOQ (C : Addr) (sp : Sp) (dvs : List V) (vs : List V) (H1 : Hp) (Q : XK) : Prop := vs.length ≤ 1000 ∧ ∀ a, H1 a = none → sp (.ref a :: (vs ++ dvs)) (upd H1 a (exo a C none))
  (fun v H2 => v = .non ∧ ∃ (d : Addr) (fs : List (Str × V)), H2 a = some (exo a C (some d)) ∧ H2 d = some (exd d fs) ∧ H1 d = none ∧ Q (.ref C) (some d) (upd (del H2 a) d (.xd fs))) (fun _ _ _ => False)
theorem w_mko {C : Addr} {sp : Sp} {dvs : List V} {ta : TA} {σ : St} {H : Hp} {Q : XK} (h : ta σ H fun vs H1 => MkOQ C sp dvs vs H1 Q) : tMkO C sp dvs ta σ H Q := h
theorem w_mk1 {C : Addr} {f : Str} {n : Int} {H1 : Hp} {Q : XK} (h0 : -(2 ^ 64) < n) (h1 : n < 2 ^ 64) (h : ∀ d H', Same H1 H' → H1 d = none → H' d = some (.xd [(f, .int n)]) → Q (.ref C) (some d) H') : MkOQ C (My.spInit1 C f) [] [.int n] H1 Q := by
  refine ⟨by simp, fun a ha => ⟨a, n, rfl, h0, h1, upd_same, fun d H' hd hda e => ⟨rfl, d, [(f, .int n)], ?_, ?_, ?_, ?_⟩⟩⟩
  · rw [e, upd_same]
  · rw [e, upd_ne hda, upd_same]
  · rw [upd_ne hda] at hd
    exact hd
  · rw [upd_ne hda] at hd
    refine h d _ (fun b x hb => ?_) hd upd_same
    have ba : b ≠ a := ne_of_none hb ha
    have bd : b ≠ d := ne_of_none hb hd
    rw [upd_ne bd, del_ne ba, e, upd_ne ba, upd_ne bd, upd_ne ba]
    exact hb
end Rn
set_option Elab.async false
set_option linter.all false
set_option maxRecDepth 100000
set_option maxHeartbeats 4000000
/-! the law's own reckoning, deed by deed -/
namespace My
open PySem PySem.Spec L2 RT Rn
/-- the law's dict of five numbers -/
def simD (x : Num4) (L : Int) : List (Key × V) := [(.inr "wheels", .int x.W), (.inr "counts", .int x.C), (.inr "set", .int x.S), (.inr "place", .int x.P), (.inr "left", .int L)]
theorem sim_wheels (x : Num4) (L : Int) : valV (simD x L) (.inr "wheels") = some (.int x.W) := by rfl
theorem sim_counts (x : Num4) (L : Int) : valV (simD x L) (.inr "counts") = some (.int x.C) := by rfl
theorem sim_set (x : Num4) (L : Int) : valV (simD x L) (.inr "set") = some (.int x.S) := by rfl
theorem sim_place (x : Num4) (L : Int) : valV (simD x L) (.inr "place") = some (.int x.P) := by rfl
theorem sim_left (x : Num4) (L : Int) : valV (simD x L) (.inr "left") = some (.int L) := by rfl
theorem put_wheels (x : Num4) (L v : Int) : putK (simD x L) (.inr "wheels") (.int v) = simD { x with W := v } L := by rfl
theorem put_counts (x : Num4) (L v : Int) : putK (simD x L) (.inr "counts") (.int v) = simD { x with C := v } L := by rfl
theorem put_set (x : Num4) (L v : Int) : putK (simD x L) (.inr "set") (.int v) = simD { x with S := v } L := by rfl
theorem put_place (x : Num4) (L v : Int) : putK (simD x L) (.inr "place") (.int v) = simD { x with P := v } L := by rfl
theorem put_left (x : Num4) (L v : Int) : putK (simD x L) (.inr "left") (.int v) = simD x v := by rfl
/-- all but s stays -/
def Bt (s : Addr) (H H' : Hp) : Prop := ∀ b x, b ≠ s → H b = some x → H' b = some x
theorem Bt.refl (s : Addr) (H : Hp) : Bt s H H := fun _ _ _ h => h
theorem Bt.trans {s : Addr} {A B C : Hp} (x : Bt s A B) (y : Bt s B C) : Bt s A C := fun b o n h => y b o n (x b o n h)
theorem Bt.put {s : Addr} {H H' : Hp} {o : HO} (x : Bt s H H') : Bt s H (upd H' s o) := fun b u n h => by
  rw [upd_ne n]
  exact x b u n h
theorem Bt.tn {s : Addr} {H H' : Hp} {kvs : List (Key × V)} (x : Bt s H H') (hs : H s = some (.dK kvs)) : Tn H H' := fun a xs h => by
  have ne : a ≠ s := fun z => by
    subst z
    rcases h with h | ⟨o, h⟩ <;> (rw [hs] at h; cases h)
  rcases h with h | ⟨o, h⟩
  · exact .inl (x a _ ne h)
  · exact .inr ⟨o, x a _ ne h⟩
/-- one turn of the law -/
def turnL (b w c : Int) (x : Num4) (way tally : Int) : Num4 := ⟨x.S, x.P, (x.W + way * x.S * b ^ x.P.toNat) % b ^ w.toNat, (x.C + tally * b ^ x.P.toNat) % b ^ c.toNat⟩
def bellL (b w : Int) (x : Num4) (way : Int) : Bool := !decide (x.W + way * x.S * b ^ x.P.toNat = (x.W + way * x.S * b ^ x.P.toNat) % b ^ w.toNat)
def spTurnL (K : PySem.W.Frag) : Sp := fun vs H Q _ => ∃ (m s : Addr) (b sl w c way tally L : Int) (x : Num4), vs = [.ref m, .ref s, .int way, .int tally] ∧ MachAt K H m b sl w c ∧ Mach b sl w c ∧ H s = some (.dK (simD x L)) ∧ -(2 ^ 40) < x.S ∧ x.S < 2 ^ 40 ∧ 0 ≤ x.P ∧ x.P ≤ c - 1 ∧ -2 ≤ way ∧ way ≤ 2 ∧ -2 ≤ tally ∧ tally ≤ 2 ∧
  ∀ H', Bt s H H' → H' s = some (.dK (simD (turnL b w c x way tally) (L - 1))) → Q (.bl (bellL b w x way)) H'
/-! ### turns until the bell rings -/
/-- what so many turns have taken -/
def tri (more S i : Int) : Int := if more = 0 then i * S else i * (S + i - 1)
theorem tri_step {more S i : Int} (h : more = 0 ∨ more = 2) : tri more S (i + 1) = tri more S i + (S + more * i) := by
  unfold tri
  rcases h with rfl | rfl
  · rw [if_pos rfl, if_pos rfl, Int.add_mul]
    omega
  · rw [if_neg (by decide), if_neg (by decide)]
    simp only [Int.add_mul, Int.mul_add, Int.mul_sub, Int.sub_mul]
    omega
/-- behind i turns without the bell -/
structure UntilI (b s w c tally more : Int) (x : Num4) (L : Int) (i : Int) (y : Num4) (L' : Int) : Prop where
  i0 : 0 ≤ i
  S : y.S = x.S + more * i
  P : y.P = x.P
  W : y.W = x.W - tri more x.S i * b ^ x.P.toNat
  W0 : 0 ≤ y.W
  C : y.C = (x.C + tally * i * b ^ x.P.toNat) % b ^ c.toNat
  L : L' = L - i
  S1 : y.S < b ^ s.toNat
theorem UntilI.start {b s w c tally more L : Int} {x : Num4} (h : NumOk b s w c x) : UntilI b s w c tally more x L 0 x L where
  i0 := Int.le_refl _
  S := by rw [Int.mul_zero, Int.add_zero]
  P := rfl
  W := by
    unfold tri
    split <;> simp
  W0 := h.w0
  C := by rw [Int.mul_zero, Int.zero_mul, Int.add_zero, Int.emod_eq_of_lt h.c0 h.c1]
  L := by omega
  S1 := h.s1
theorem bell_iff {b s w c : Int} {y : Num4} (h0 : 0 ≤ y.S) (hw0 : 0 ≤ y.W) (hw1 : y.W < b ^ w.toNat) (hb : 0 < b) : bellL b w y (-1) = decide (y.W < y.S * b ^ y.P.toNat) := by
  have hp := Int.pow_pos (n := b) (m := y.P.toNat) hb
  have hw := Int.pow_pos (n := b) (m := w.toNat) hb
  have hn : 0 ≤ y.S * b ^ y.P.toNat := Int.mul_nonneg h0 (Int.le_of_lt hp)
  have e : y.W + -1 * y.S * b ^ y.P.toNat = y.W - y.S * b ^ y.P.toNat := by
    rw [Int.mul_assoc]
    omega
  unfold bellL
  rw [e]
  by_cases g : y.W < y.S * b ^ y.P.toNat
  · rw [decide_eq_true g]
    have := Int.emod_nonneg (y.W - y.S * b ^ y.P.toNat) (show b ^ w.toNat ≠ 0 by omega)
    rw [decide_eq_false (by omega)]
    rfl
  · rw [decide_eq_false g, decide_eq_true (Int.emod_eq_of_lt (by omega) (by omega)).symm]
    rfl
/-- a turn without the bell -/
theorem UntilI.next {b s w c tally more L L' i : Int} {x y : Num4} (hm : Mach b s w c) (hx : NumOk b s w c x) (hmo : more = 0 ∨ more = 2) (h : UntilI b s w c tally more x L i y L') (g : ¬ y.W < y.S * b ^ y.P.toNat) (hlt : y.S + more < b ^ s.toNat) :
    UntilI b s w c tally more x L (i + 1) { turnL b w c y (-1) tally with S := y.S + more } (L' - 1) := by
  obtain ⟨b0, b1, s0, s1, w0, w1, c0, c1⟩ := id hm
  obtain ⟨i0, eS, eP, eW, W0, eC, eL, S1⟩ := h
  have hp := Int.pow_pos (n := b) (m := x.P.toNat) (by omega)
  have hS : 0 ≤ y.S := by
    have := hx.s0
    have : 0 ≤ more * i := Int.mul_nonneg (by omega) i0
    omega
  have hW1 : y.W < b ^ w.toNat := by
    have : 0 ≤ tri more x.S i * b ^ x.P.toNat := by
      refine Int.mul_nonneg ?_ (Int.le_of_lt hp)
      unfold tri
      split
      · exact Int.mul_nonneg i0 hx.s0
      · rcases Int.lt_or_le 0 i with z | z
        · exact Int.mul_nonneg i0 (by have := hx.s0; omega)
        · have : i = 0 := by omega
          subst this
          simp
    have := hx.w1
    omega
  rw [eP] at g
  have e : y.W + -1 * y.S * b ^ y.P.toNat = y.W - y.S * b ^ x.P.toNat := by
    rw [eP, Int.mul_assoc]
    omega
  have hn : 0 ≤ y.S * b ^ x.P.toNat := Int.mul_nonneg hS (Int.le_of_lt hp)
  have em : (y.W + -1 * y.S * b ^ y.P.toNat) % b ^ w.toNat = y.W - y.S * b ^ x.P.toNat := by
    rw [e]
    exact Int.emod_eq_of_lt (by omega) (by omega)
  refine ⟨by omega, ?_, eP, ?_, ?_, ?_, by omega, hlt⟩
  · show y.S + more = _
    rw [eS, Int.mul_add, Int.mul_one]
    omega
  · show (y.W + -1 * y.S * b ^ y.P.toNat) % b ^ w.toNat = _
    rw [em, tri_step hmo, Int.add_mul, ← eS]
    omega
  · show 0 ≤ (y.W + -1 * y.S * b ^ y.P.toNat) % b ^ w.toNat
    rw [em]
    omega
  · show (y.C + tally * b ^ y.P.toNat) % b ^ c.toNat = _
    rw [eC, eP, Int.emod_add_emod]
    congr 1
    rw [Int.mul_add, Int.mul_one, Int.add_mul]
    omega
/-- the bell, and the turn back -/
theorem turn_back {b s w c tally : Int} {y : Num4} (hb : 0 < b) (W0 : 0 ≤ y.W) (W1 : y.W < b ^ w.toNat) (C0 : 0 ≤ y.C) (C1 : y.C < b ^ c.toNat) : turnL b w c (turnL b w c y (-1) tally) 1 (0 - tally) = y := by
  have hw : 0 < b ^ w.toNat := Int.pow_pos hb
  have hc : 0 < b ^ c.toNat := Int.pow_pos hb
  unfold turnL
  dsimp only
  rw [Int.emod_add_emod, Int.emod_add_emod]
  have e1 : y.W + -1 * y.S * b ^ y.P.toNat + 1 * y.S * b ^ y.P.toNat = y.W := by
    rw [Int.neg_mul, Int.neg_mul]
    omega
  have e2 : y.C + tally * b ^ y.P.toNat + (0 - tally) * b ^ y.P.toNat = y.C := by
    rw [Int.sub_mul, Int.zero_mul]
    omega
  rw [e1, e2, Int.emod_eq_of_lt W0 W1, Int.emod_eq_of_lt C0 C1]
end My
namespace My
open PySem PySem.Spec L2 RT Rn
theorem ediv_of {N u q : Int} (hu : 0 < u) (h1 : q * u ≤ N) (h2 : N < (q + 1) * u) : N / u = q := by
  have a : q ≤ N / u := (Int.le_ediv_iff_mul_le hu).mpr h1
  have b : N / u < q + 1 := (Int.ediv_lt_iff_lt_mul hu).mpr h2
  omega
theorem until_bell0 {b s w c tally L L' i : Int} {x y : Num4} (hm : Mach b s w c) (hx : NumOk b s w c x) (hS : 0 < x.S) (h : UntilI b s w c tally 0 x L i y L') (g : y.W < y.S * b ^ y.P.toNat) : rungN b w c x tally = some y := by
  obtain ⟨b0, b1, s0, s1, w0, w1, c0, c1⟩ := id hm
  obtain ⟨i0, eS, eP, eW, W0, eC, eL, S1⟩ := h
  have hp := Int.pow_pos (n := b) (m := x.P.toNat) (by omega)
  have hsu := Int.mul_pos hS hp
  have eS' : y.S = x.S := by omega
  have et : tri 0 x.S i = i * x.S := by unfold tri; rw [if_pos rfl]
  rw [et, Int.mul_assoc] at eW
  have hi : 0 ≤ i * (x.S * b ^ x.P.toNat) := Int.mul_nonneg i0 (Int.le_of_lt hsu)
  rw [eP, eS'] at g
  have q : x.W / (x.S * b ^ x.P.toNat) = i := by
    refine ediv_of hsu (by omega) ?_
    rw [Int.add_mul, Int.one_mul]
    omega
  unfold rungN
  rw [if_neg (by omega), q]
  have e1 : turnedN b w c x i (-1) tally = y := by
    unfold turnedN
    have e2 : -1 * i * x.S * b ^ x.P.toNat = -(i * (x.S * b ^ x.P.toNat)) := by
      rw [Int.neg_mul, Int.one_mul, Int.neg_mul, Int.neg_mul, Int.mul_assoc]
    rw [e2, Int.emod_eq_of_lt (by omega) (by have := hx.w1; omega), ← eC, show x.W + -(i * (x.S * b ^ x.P.toNat)) = y.W by omega, ← eS', ← eP]
  rw [e1]
theorem until_tri {b s w c tally L L' i : Int} {x y : Num4} (hm : Mach b s w c) (h : UntilI b s w c tally 2 x L i y L') (g : y.W < y.S * b ^ y.P.toNat) (hx : NumOk b s w c x) : oddsM b x = i := by
  obtain ⟨b0, b1, s0, s1, w0, w1, c0, c1⟩ := id hm
  obtain ⟨i0, eS, eP, eW, W0, eC, eL, S1⟩ := h
  have hp := Int.pow_pos (n := b) (m := x.P.toNat) (by omega)
  have et : tri 2 x.S i = i * (x.S + i - 1) := by unfold tri; rw [if_neg (by decide)]
  have e2 := tri_step (S := x.S) (i := i) (show (2 : Int) = 0 ∨ (2 : Int) = 2 from .inr rfl)
  have et2 : tri 2 x.S (i + 1) = (i + 1) * (x.S + i) := by
    unfold tri
    rw [if_neg (by decide)]
    congr 1
    omega
  rw [eP, eS] at g
  have hN : 0 ≤ x.W / b ^ x.P.toNat := Int.ediv_nonneg hx.w0 (Int.le_of_lt hp)
  unfold oddsM
  refine oddsN_uniq hN hx.s0 i0 ?_ ?_
  · rw [Int.le_ediv_iff_mul_le hp, show i + x.S - 1 = x.S + i - 1 by omega, ← et]
    omega
  · rw [Int.ediv_lt_iff_lt_mul hp, show i + x.S = x.S + i by omega, ← et2, e2, Int.add_mul]
    omega
theorem until_bell2 {b s w c tally L L' i : Int} {x y : Num4} (hm : Mach b s w c) (hx : NumOk b s w c x) (h : UntilI b s w c tally 2 x L i y L') (g : y.W < y.S * b ^ y.P.toNat) : oddsT b s w c x tally = some y := by
  have q := until_tri hm h g hx
  obtain ⟨b0, b1, s0, s1, w0, w1, c0, c1⟩ := id hm
  obtain ⟨i0, eS, eP, eW, W0, eC, eL, S1⟩ := h
  have hp := Int.pow_pos (n := b) (m := x.P.toNat) (by omega)
  have et : tri 2 x.S i = i * (x.S + i - 1) := by unfold tri; rw [if_neg (by decide)]
  have hi : 0 ≤ i * (x.S + i - 1) * b ^ x.P.toNat := by
    refine Int.mul_nonneg ?_ (Int.le_of_lt hp)
    rcases Int.lt_or_le 0 i with z | z
    · exact Int.mul_nonneg i0 (by have := hx.s0; omega)
    · have : i = 0 := by omega
      subst this
      simp
  rw [et] at eW
  unfold oddsT
  dsimp only
  rw [q, if_neg (by omega)]
  unfold turnedN
  dsimp only
  have e2 : -1 * i * (x.S + i - 1) * b ^ x.P.toNat = -(i * (x.S + i - 1) * b ^ x.P.toNat) := by
    rw [Int.neg_mul, Int.one_mul, Int.neg_mul, Int.neg_mul]
  rw [e2, Int.emod_eq_of_lt (by omega) (by have := hx.w1; omega), ← eC, show x.W + -(i * (x.S + i - 1) * b ^ x.P.toNat) = y.W by omega, ← eS, ← eP]
theorem until_stuck2 {b s w c tally L L' i : Int} {x y : Num4} (hm : Mach b s w c) (hx : NumOk b s w c x) (h : UntilI b s w c tally 2 x L i y L') (g : ¬ y.W < y.S * b ^ y.P.toNat) (hs : b ^ s.toNat ≤ y.S + 2) : oddsT b s w c x tally = none := by
  obtain ⟨b0, b1, s0, s1, w0, w1, c0, c1⟩ := id hm
  obtain ⟨i0, eS, eP, eW, W0, eC, eL, S1⟩ := h
  have hp := Int.pow_pos (n := b) (m := x.P.toNat) (by omega)
  have hN : 0 ≤ x.W / b ^ x.P.toNat := Int.ediv_nonneg hx.w0 (Int.le_of_lt hp)
  obtain ⟨k0, k1, k2⟩ := oddsN_ok hN hx.s0
  have em : oddsN (x.W / b ^ x.P.toNat) x.S = oddsM b x := rfl
  rw [em] at k0 k1 k2
  have e2 := tri_step (S := x.S) (i := i) (show (2 : Int) = 0 ∨ (2 : Int) = 2 from .inr rfl)
  have et2 : tri 2 x.S (i + 1) = (i + 1) * (x.S + i) := by
    unfold tri
    rw [if_neg (by decide)]
    congr 1
    omega
  rw [eP, eS] at g
  have h1 : (i + 1) * (x.S + i) ≤ x.W / b ^ x.P.toNat := by
    rw [Int.le_ediv_iff_mul_le hp, ← et2, e2, Int.add_mul]
    omega
  have hm2 : i + 1 ≤ oddsM b x := by
    refine Int.not_lt.mp fun z => ?_
    have := Int.mul_le_mul (show oddsM b x + 1 ≤ i + 1 by omega) (show oddsM b x + x.S ≤ x.S + i by omega) (by have := hx.s0; omega) (by omega)
    omega
  unfold oddsT
  dsimp only
  rw [if_pos (by omega)]
/-! ### promises -/
/-- what a deed leaves: the dict of the law, and whether it went well, said only where turns are left -/
def DoneL (s : Addr) (H : Hp) (Q : VK) (o : Option Num4) : Prop := ∀ (good : Bool) (y : Num4) (L' : Int) (H' : Hp), Bt s H H' → H' s = some (.dK (simD y L')) → (0 ≤ L' → o = if good = true then some y else none) → Q (.bl good) H'
def spUntil (K : PySem.W.Frag) : Sp := fun vs H Q _ => ∃ (m s : Addr) (b sl w c tally more L : Int) (x : Num4), vs = [.ref m, .ref s, .int tally, .int more] ∧ MachAt K H m b sl w c ∧ Mach b sl w c ∧ H s = some (.dK (simD x L)) ∧ NumOk b sl w c x ∧ 0 ≤ L ∧ -2 ≤ tally ∧ tally ≤ 2 ∧
  (more = 0 ∧ 0 < x.S ∧ DoneL s H Q (rungN b w c x tally) ∨ more = 2 ∧ DoneL s H Q (oddsT b sl w c x tally))
def spDoL (K : PySem.W.Frag) : Sp := fun vs H Q _ => ∃ (m s d v : Addr) (b sl w c L : Int) (ins : List Inp) (vals : List Int) (x : Num4) (dd : Dee), vs = [.ref m, .ref s, .ref d, .ref v] ∧ MachAt K H m b sl w c ∧ Mach b sl w c ∧ H s = some (.dK (simD x L)) ∧ NumOk b sl w c x ∧ 0 ≤ L ∧
  DeeAt K H d dd ∧ deeOk ins dd = true ∧ insOk sl ins ∧ H v = some (.dK (valsD ins vals)) ∧ v ≠ s ∧ ValsOk b ins vals ∧ DoneL s H Q (stepN b sl w c (valOf ins vals) x dd)
end My
namespace Rn
theorem w_iteNT2 {p : Prop} {ip : Decidable p} {A B : Prop} (hp : ¬ p) (h : A) : if (!decide p) = true then A else B := by
  rw [decide_eq_false hp]
  exact w_iteT h
end Rn
namespace Rn
open PySem PySem.Spec L2 RT
def rInt1 : List V → Hp → VK → Prop := fun xs H Q => (∃ i, xs = [.int i] ∧ Q (.int i) H) ∨ ∃ k, xs = [.bl k] ∧ Q (.int (if k then 1 else 0)) H
theorem k_int1 {X : Cx} : CallR X (.type "int") rInt1 := call_int1
theorem w_intB {k : Bool} {H : Hp} {Q : VK} (h : Q (.int (if k then 1 else 0)) H) : rInt1 [.bl k] H Q := .inr ⟨k, rfl, h⟩
/-- == of two texts -/
theorem w_eqStr {K : PySem.W.Frag} {x y : Str} {H : Hp} {Q : VK} (h : Q (.bl (decide (x = y))) H) : uEq K (.str x) (.str y) H Q := .inl ⟨rfl, by
  have e : decide (V.str x = V.str y) = decide (x = y) := decide_eq_decide.mpr ⟨fun z => V.str.inj z, fun z => by rw [z]⟩
  rw [e]
  exact h⟩
end Rn
namespace My
open PySem PySem.Spec L2 RT Rn
theorem shr_div {b n : Int} (hb : 0 < b) : ∀ k : Nat, shr b n k = n / b ^ k
  | 0 => by
    rw [Int.pow_zero, Int.ediv_one]
    rfl
  | k + 1 => by
    show shr b n k / b = _
    have hp := Int.pow_pos (n := b) (m := k) hb
    rw [shr_div hb k, Int.pow_succ, Int.ediv_ediv, if_neg (fun z => by omega), Int.sub_zero]
theorem turned0 {b s w c way tally : Int} {x : Num4} (h : NumOk b s w c x) : turnedN b w c x 0 way tally = x := by
  unfold turnedN
  rw [Int.mul_zero, Int.zero_mul, Int.zero_mul, Int.add_zero, Int.mul_zero, Int.zero_mul, Int.add_zero, Int.emod_eq_of_lt h.w0 h.w1, Int.emod_eq_of_lt h.c0 h.c1]
theorem turned_next {b w c way tally i : Int} {x : Num4} : turnL b w c (turnedN b w c x i way tally) way tally = turnedN b w c x (i + 1) way tally := by
  unfold turnL turnedN
  dsimp only
  rw [Int.emod_add_emod, Int.emod_add_emod]
  have e1 : x.W + way * i * x.S * b ^ x.P.toNat + way * x.S * b ^ x.P.toNat = x.W + way * (i + 1) * x.S * b ^ x.P.toNat := by
    rw [Int.mul_add, Int.mul_one, Int.add_mul, Int.add_mul]
    omega
  have e2 : x.C + tally * i * b ^ x.P.toNat + tally * b ^ x.P.toNat = x.C + tally * (i + 1) * b ^ x.P.toNat := by
    rw [Int.mul_add, Int.mul_one, Int.add_mul]
    omega
  rw [e1, e2]
theorem turned1 {b w c way tally : Int} {x : Num4} : turnL b w c x way tally = turnedN b w c x 1 way tally := by
  unfold turnL turnedN
  rw [Int.mul_one, Int.mul_one]
end My
namespace Rn
open PySem PySem.Spec L2 RT
theorem w_disp {trs : List (TE × TE)} {σ : St} {H : Hp} {Q : VK} (h : ∀ p, H p = none → tPairs trs σ (upd H p (.dK [])) fun ps H2 => H2 p = some (.dK []) ∧ ∃ kvs : List (Key × V), ps = kvs.map (fun kv => (kV kv.1, kv.2)) ∧ kvs.length ≤ 15 ∧ Q (.ref p) (upd H2 p (.dK (mergeK [] kvs)))) : tDisp trs σ H Q := h
end Rn
namespace My
open PySem PySem.Spec L2 RT Rn
theorem _root_.L2.Same.bt {s : Addr} {H H1 H2 : Hp} (e : Same H H1) (hs : H s = none) (b : Bt s H1 H2) : Same H H2 := fun a x h => b a x (ne_of_none h hs) (e a x h)
theorem upd_upd {H : Hp} {p : Addr} {o u : HO} : upd (upd H p o) p u = upd H p u := by
  funext b
  unfold upd
  split <;> rfl
def spWork (K : PySem.W.Frag) : Sp := fun vs H Q _ => ∃ (m bk v : Addr) (b s w c : Int) (B : Bok) (vals : List Int), vs = [.ref m, .ref bk, .ref v] ∧ MachAt K H m b s w c ∧ Mach b s w c ∧ BokAt K H bk B ∧ BokOk s B ∧ H v = some (.dK (valsD B.ins vals)) ∧ ValsOk b B.ins vals ∧
  (∀ H', Same H H' → Q .non H') ∧ (∀ k, runN b s w c (valOf B.ins vals) B.dds 0 num0 = .inl k → ∀ H', Same H H' → Q (.int (k : Nat)) H') ∧
  (∀ y, runN b s w c (valOf B.ins vals) B.dds 0 num0 = .inr y → ∀ z H', Same H H' → SqT K H' z [.int y.W, .int y.C] → Q (.ref z) H')
end My
set_option Elab.async false
set_option linter.all false
set_option maxRecDepth 100000
set_option maxHeartbeats 4000000
/-! handbooks that the laws draw -/
namespace My
open PySem PySem.Spec L2 RT Rn
theorem w_nx {a cl : Addr} {m : Int} {H : Hp} {Q : VK} {E : XK} (hd : DrawAt H a cl) (h0 : 0 < m) (h1 : m < 2 ^ 30) (h : ∀ (r : Int) (H' : Hp), 0 ≤ r → r < m → Drew a cl H H' → Q (.int r) H') : spNext [.ref a, .int m] H Q E :=
  ⟨a, cl, m, rfl, hd, h0, h1, fun r H' r0 r1 d k t => h r H' r0 r1 ⟨d, k, t⟩⟩
/-- not the drawing state -/
def Off (a cl p : Addr) : Prop := p ≠ a ∧ p ≠ cl
theorem off_new {H : Hp} {a cl p : Addr} (hA : DrawAt H a cl) (hp : H p = none) : Off a cl p := by
  obtain ⟨s, i, cells, ha, hc, _⟩ := hA
  exact ⟨(ne_of_none ha hp).symm, (ne_of_none hc hp).symm⟩
theorem Drew.at {a cl p : Addr} {A B : Hp} {o : HO} (y : Drew a cl A B) (n : Off a cl p) (h : A p = some o) : B p = some o := y.kp p _ h n.1 n.2
/-- the inputs as a list -/
structure InsL (K : PySem.W.Frag) (H : Hp) (li : Addr) (xs : List Addr) (ins : List Inp) : Prop where
  at_ : H li = some (.lst (xs.map V.ref))
  each : Paired (InpAt K H) xs ins
theorem InsL.drew {K : PySem.W.Frag} {A B : Hp} {a cl li : Addr} {xs : List Addr} {ins : List Inp} (h : InsL K A li xs ins) (n : Off a cl li) (y : Drew a cl A B) : InsL K B li xs ins := ⟨y.at n h.at_, paired_imp (fun _ _ h => h.tn y.tn) h.each⟩
theorem InsL.same {K : PySem.W.Frag} {A B : Hp} {li : Addr} {xs : List Addr} {ins : List Inp} (h : InsL K A li xs ins) (y : Same A B) : InsL K B li xs ins := ⟨y _ _ h.at_, paired_imp (fun _ _ h => h.tn y.tn) h.each⟩
theorem InsL.pick {K : PySem.W.Frag} {H : Hp} {li : Addr} {xs : List Addr} {ins : List Inp} (h : InsL K H li xs ins) {r : Int} (r0 : 0 ≤ r) (r1 : r < ((xs.map V.ref).length : Nat)) : ∃ (x : Addr) (i : Inp), atI (xs.map V.ref) r = some (.ref x) ∧ i ∈ ins ∧ InpAt K H x i := by
  have hl : r.toNat < xs.length := by rw [List.length_map] at r1; omega
  have hx : xs[r.toNat]? = some xs[r.toNat] := List.getElem?_eq_getElem hl
  obtain ⟨i, hi, hr⟩ := paired_getL h.each hx
  exact ⟨_, i, atI_of r0 (by rw [List.getElem?_map, hx]; rfl), List.mem_of_getElem? hi, hr⟩
/-- deeds that make sense -/
def AllD (K : PySem.W.Frag) (ins : List Inp) (H : Hp) (xs : List V) : Prop := ∀ x ∈ xs, ∃ d dd, x = V.ref d ∧ deeOk ins dd = true ∧ DeeAt K H d dd
theorem AllD.nil {K : PySem.W.Frag} {ins : List Inp} {H : Hp} : AllD K ins H [] := fun _ h => nomatch h
theorem AllD.cons {K : PySem.W.Frag} {ins : List Inp} {H : Hp} {d : Addr} {xs : List V} (dd : Dee) (g : deeOk ins dd = true) (h : DeeAt K H d dd) (r : AllD K ins H xs) : AllD K ins H (V.ref d :: xs) := fun x hx => by
  rcases List.mem_cons.mp hx with e | hx
  · exact ⟨d, dd, e, g, h⟩
  · exact r x hx
theorem AllD.tn {K : PySem.W.Frag} {ins : List Inp} {A B : Hp} {xs : List V} (h : AllD K ins A xs) (t : Tn A B) : AllD K ins B xs := fun x hx => by
  obtain ⟨d, dd, e, g, k⟩ := h x hx
  exact ⟨d, dd, e, g, k.tn t⟩
theorem AllD.app {K : PySem.W.Frag} {ins : List Inp} {H : Hp} {xs ys : List V} (h : AllD K ins H xs) (k : AllD K ins H ys) : AllD K ins H (xs ++ ys) := fun x hx => (List.mem_append.mp hx).elim (h x) (k x)
theorem AllD.pick {K : PySem.W.Frag} {ins : List Inp} {H : Hp} {xs : List V} (h : AllD K ins H xs) {r : Int} (r0 : 0 ≤ r) (r1 : r < (xs.length : Nat)) : ∃ d dd, atI xs r = some (.ref d) ∧ deeOk ins dd = true ∧ DeeAt K H d dd := by
  have hl : r.toNat < xs.length := by omega
  have hx : xs[r.toNat]? = some xs[r.toNat] := List.getElem?_eq_getElem hl
  obtain ⟨d, dd, e, g, k⟩ := h _ (List.mem_of_getElem? hx)
  exact ⟨d, dd, by rw [atI_of r0 hx, e], g, k⟩
theorem figs_of_mem {s : Int} {ins : List Inp} {i : Inp} (h : insOk s ins) (hi : i ∈ ins) : figsOf ins i.nm = some i.fg := by
  have e := figsOf_some hi
  unfold figsOf at e ⊢
  cases f : ins.find? fun j => decide (j.nm = i.nm) with
  | none => rw [f] at e; cases e
  | some j =>
    have hj := List.mem_of_find?_eq_some f
    have en : j.nm = i.nm := by
      have := List.find?_some f
      simpa using this
    obtain ⟨k1, h1⟩ := List.getElem?_of_mem hj
    obtain ⟨k2, h2⟩ := List.getElem?_of_mem hi
    have := names_uniq h h1 h2 en
    subst this
    rw [h1] at h2
    cases h2
    rfl
theorem ok_load {ins : List Inp} {i : Inp} (hi : i ∈ ins) : deeOk ins (.load i.nm) = true := figsOf_some hi
theorem ok_turns {s : Int} {ins : List Inp} {i : Inp} {k x y : Int} (h : insOk s ins) (hi : i ∈ ins) (k0 : 0 ≤ k) (k1 : k < i.fg) (hx : x = 1 ∨ x = -1) (hy : -1 ≤ y ∧ y ≤ 1) : deeOk ins (.turns i.nm k x y) = true := by
  unfold deeOk
  simp only [figs_of_mem h hi, wayOk, tallyOk, Bool.and_eq_true, decide_eq_true_eq]
  exact ⟨⟨⟨k0, k1⟩, hx⟩, hy⟩
theorem ok_turn {ins : List Inp} {x y : Int} (hx : x = 1 ∨ x = -1) (hy : -1 ≤ y ∧ y ≤ 1) : deeOk ins (.turn x y) = true := by
  unfold deeOk
  simp only [wayOk, tallyOk, Bool.and_eq_true, decide_eq_true_eq]
  exact ⟨hx, hy⟩
theorem ok_bell {ins : List Inp} {y : Int} (hy : -1 ≤ y ∧ y ≤ 1) : deeOk ins (.bell y) = true := by
  unfold deeOk
  simp only [tallyOk, decide_eq_true_eq]
  exact hy
theorem ok_odds {ins : List Inp} {y : Int} (hy : -1 ≤ y ∧ y ≤ 1) : deeOk ins (.odds y) = true := by
  unfold deeOk
  simp only [tallyOk, decide_eq_true_eq]
  exact hy
def spBooksMachine : Sp := fun vs H Q _ => ∃ (a cl : Addr), vs = [.ref a] ∧ DrawAt H a cl ∧ ∀ (b s w c : Int) p H', Mach b s w c → b ≤ 5 → 2 ≤ s → Drew a cl H H' → H' p = some (.tup [.int b, .int s, .int w, .int c]) → Q (.ref p) H'
/-- a drawn deed -/
def spDeedL (K : PySem.W.Frag) : Sp := fun vs H Q _ => ∃ (a cl li : Addr) (xs : List Addr) (ins : List Inp) (s : Int), vs = [.ref a, .ref li] ∧ DrawAt H a cl ∧ InsL K H li xs ins ∧ Off a cl li ∧ insOk s ins ∧ s ≤ 6 ∧ ins ≠ [] ∧
  ∀ d dd H', deeOk ins dd = true → DeeAt K H' d dd → Drew a cl H H' → Q (.ref d) H'
end My
namespace My
open PySem PySem.Spec L2 RT Rn
/-- sides that hold, no deeper than so -/
def AllS (K : PySem.W.Frag) (ins : List Inp) (k : Nat) (H : Hp) (xs : List V) : Prop := ∀ x ∈ xs, ∃ d p, x = V.ref d ∧ sidOk ins p k = true ∧ SidAt K H d p
theorem AllS.nil {K : PySem.W.Frag} {ins : List Inp} {k : Nat} {H : Hp} : AllS K ins k H [] := fun _ h => nomatch h
theorem AllS.cons {K : PySem.W.Frag} {ins : List Inp} {k : Nat} {H : Hp} {d : Addr} {xs : List V} (p : Sid) (g : sidOk ins p k = true) (h : SidAt K H d p) (r : AllS K ins k H xs) : AllS K ins k H (V.ref d :: xs) := fun x hx => by
  rcases List.mem_cons.mp hx with e | hx
  · exact ⟨d, p, e, g, h⟩
  · exact r x hx
theorem AllS.tn {K : PySem.W.Frag} {ins : List Inp} {k : Nat} {A B : Hp} {xs : List V} (h : AllS K ins k A xs) (t : Tn A B) : AllS K ins k B xs := fun x hx => by
  obtain ⟨d, dd, e, g, k⟩ := h x hx
  exact ⟨d, dd, e, g, k.tn t⟩
theorem AllS.pick {K : PySem.W.Frag} {ins : List Inp} {k : Nat} {H : Hp} {xs : List V} (h : AllS K ins k H xs) {r : Int} (r0 : 0 ≤ r) (r1 : r < (xs.length : Nat)) : ∃ d p, atI xs r = some (.ref d) ∧ sidOk ins p k = true ∧ SidAt K H d p := by
  have hl : r.toNat < xs.length := by omega
  have hx : xs[r.toNat]? = some xs[r.toNat] := List.getElem?_eq_getElem hl
  obtain ⟨d, dd, e, g, k⟩ := h _ (List.mem_of_getElem? hx)
  exact ⟨d, dd, by rw [atI_of r0 hx, e], g, k⟩
theorem pick3I {x y z r : Int} (h0 : 0 ≤ r) (h1 : r < 3) : ∃ v, atI [V.int x, V.int y, V.int z] r = some (.int v) ∧ (v = x ∨ v = y ∨ v = z) := by
  rcases (show r = 0 ∨ r = 1 ∨ r = 2 by omega) with rfl | rfl | rfl
  · exact ⟨x, rfl, .inl rfl⟩
  · exact ⟨y, rfl, .inr (.inl rfl)⟩
  · exact ⟨z, rfl, .inr (.inr rfl)⟩
/-- a drawn side -/
def spSideL (K : PySem.W.Frag) (n : Nat) : Sp := fun vs H Q _ => ∃ (a cl li : Addr) (xs : List Addr) (ins : List Inp) (s : Int) (k : Nat), vs = [.ref a, .ref li, .int k] ∧ k ≤ n ∧ k ≤ 20 ∧ DrawAt H a cl ∧ InsL K H li xs ins ∧ Off a cl li ∧ insOk s ins ∧ ins ≠ [] ∧
  ∀ d p H', sidOk ins p (k + 1) = true → SidAt K H' d p → Drew a cl H H' → Q (.ref d) H'
end My
namespace My
open PySem PySem.Spec L2 RT Rn
theorem InsL.last {K : PySem.W.Frag} {H : Hp} {li : Addr} {xs : List Addr} {ins : List Inp} (h : InsL K H li xs ins) (hn : 0 < xs.length) : ∃ (x : Addr) (i : Inp), atI (xs.map V.ref) (-1) = some (.ref x) ∧ i ∈ ins ∧ InpAt K H x i := by
  have hl : xs.length - 1 < xs.length := by omega
  have hx : xs[xs.length - 1]? = some xs[xs.length - 1] := List.getElem?_eq_getElem hl
  obtain ⟨i, hi, hr⟩ := paired_getL h.each hx
  refine ⟨_, i, ?_, List.mem_of_getElem? hi, hr⟩
  unfold atI ixN
  rw [if_neg (by decide), if_pos (by rw [List.length_map]; omega)]
  show ((xs.map V.ref)[(-1 + ((xs.map V.ref).length : Nat) : Int).toNat]?) = _
  rw [List.getElem?_map, show (-1 + ((xs.map V.ref).length : Nat) : Int).toNat = xs.length - 1 by rw [List.length_map]; omega, hx]
  rfl
/-- claims that hold together -/
def AllC (K : PySem.W.Frag) (ins : List Inp) (H : Hp) (xs : List V) : Prop := ∀ x ∈ xs, ∃ d c, x = V.ref d ∧ claOk ins c = true ∧ ClaAt K H d c
theorem AllC.nil {K : PySem.W.Frag} {ins : List Inp} {H : Hp} : AllC K ins H [] := fun _ h => nomatch h
theorem AllC.cons {K : PySem.W.Frag} {ins : List Inp} {H : Hp} {d : Addr} {xs : List V} (c : Cla) (g : claOk ins c = true) (h : ClaAt K H d c) (r : AllC K ins H xs) : AllC K ins H (V.ref d :: xs) := fun x hx => by
  rcases List.mem_cons.mp hx with e | hx
  · exact ⟨d, c, e, g, h⟩
  · exact r x hx
theorem AllC.tn {K : PySem.W.Frag} {ins : List Inp} {A B : Hp} {xs : List V} (h : AllC K ins A xs) (t : Tn A B) : AllC K ins B xs := fun x hx => by
  obtain ⟨d, dd, e, g, k⟩ := h x hx
  exact ⟨d, dd, e, g, k.tn t⟩
theorem AllC.app {K : PySem.W.Frag} {ins : List Inp} {H : Hp} {xs ys : List V} (h : AllC K ins H xs) (k : AllC K ins H ys) : AllC K ins H (xs ++ ys) := fun x hx => (List.mem_append.mp hx).elim (h x) (k x)
theorem AllC.pick {K : PySem.W.Frag} {ins : List Inp} {H : Hp} {xs : List V} (h : AllC K ins H xs) {r : Int} (r0 : 0 ≤ r) (r1 : r < (xs.length : Nat)) : ∃ d c, atI xs r = some (.ref d) ∧ claOk ins c = true ∧ ClaAt K H d c := by
  have hl : r.toNat < xs.length := by omega
  have hx : xs[r.toNat]? = some xs[r.toNat] := List.getElem?_eq_getElem hl
  obtain ⟨d, dd, e, g, k⟩ := h _ (List.mem_of_getElem? hx)
  exact ⟨d, dd, by rw [atI_of r0 hx, e], g, k⟩
def spLikely (K : PySem.W.Frag) : Sp := fun vs H Q _ => ∃ (a cl li : Addr) (xs : List Addr) (ins : List Inp) (s : Int), vs = [.ref a, .ref li] ∧ DrawAt H a cl ∧ InsL K H li xs ins ∧ Off a cl li ∧ insOk s ins ∧ ins ≠ [] ∧
  ∀ d c H', claOk ins c = true → ClaAt K H' d c → Drew a cl H H' → Q (.ref d) H'
end My
namespace My
open PySem PySem.Spec L2 RT Rn
theorem DrawAt.off {H : Hp} {a cl p : Addr} {o : HO} (h : DrawAt H a cl) (n : Off a cl p) : DrawAt (upd H p o) a cl := by
  obtain ⟨s, i, cells, ha, hc, r⟩ := h
  exact ⟨s, i, cells, by rw [upd_ne n.1.symm]; exact ha, by rw [upd_ne n.2.symm]; exact hc, r⟩
end My
namespace Rn
open PySem PySem.Spec L2 RT
section
variable {K : PySem.W.Frag} {H : Hp} {Q : VK}
theorem w_slL {a : Addr} {xs : List V} {lo hi : Option Int} (hl : SqL K H a xs) (h : ∀ p H', H p = none → Same H H' → H' p = some (.lst (cutV xs lo hi)) → Q (.ref p) H') : uSl K (.ref a) lo hi H Q := .inr ⟨a, xs, rfl, hl, fun p hp => h p _ hp (Same.new hp) upd_same⟩
theorem w_slS {z : Str} {lo hi : Option Int} (hz : z.length ≤ 100000) (h : Q (.str (cutS z lo hi)) H) : rSlS (.str z) lo hi H Q := ⟨z, rfl, Nat.le_trans hz (by decide), h⟩
theorem w_catS {x y : Str} (hz : x.length + y.length ≤ 100000) (h : Q (.str (x ++ y)) H) : uAdd K (.str x) (.str y) H Q := .inr (.inr (.inr ⟨x, y, rfl, rfl, Nat.le_trans hz (by decide), h⟩))
theorem cut_drop {xs : List V} {k : Int} (h0 : 0 ≤ k) : cutV xs (some k) none = xs.drop k.toNat := by
  have e2 : HT.sIx xs.length 0 (some k) = min k.toNat xs.length := by
    show (if k < 0 then _ else min k.toNat _) = _
    rw [if_neg (by omega)]
  have e4 : HT.sIx xs.length xs.length none = xs.length := rfl
  unfold cutV
  rw [e2, e4]
  by_cases g : k.toNat ≤ xs.length
  · rw [Nat.min_eq_left g]
    exact List.take_of_length_le (Nat.le_of_eq (by rw [List.length_drop]))
  · rw [Nat.min_eq_right (by omega), List.drop_eq_nil_of_le (Nat.le_refl _), List.drop_eq_nil_of_le (by omega)]
    simp
theorem cut_take {xs : List V} {k : Int} (h0 : 0 ≤ k) : cutV xs none (some k) = xs.take k.toNat := by
  have e1 : HT.sIx xs.length xs.length (some k) = min k.toNat xs.length := by
    show (if k < 0 then _ else min k.toNat _) = _
    rw [if_neg (by omega)]
  have e3 : HT.sIx xs.length 0 none = 0 := rfl
  unfold cutV
  rw [e1, e3, List.drop_zero, Nat.sub_zero]
  by_cases g : k.toNat ≤ xs.length
  · rw [Nat.min_eq_left g]
  · rw [Nat.min_eq_right (by omega), List.take_of_length_le (Nat.le_refl _), List.take_of_length_le (by omega)]
end
end Rn
namespace My
open PySem PySem.Spec L2 RT Rn
/-- names for inputs -/
structure NamesOk (ns : List Str) : Prop where
  nd : ns.Nodup
  ok : ∀ n ∈ ns, nameOk n = true
theorem NamesOk.take {ns : List Str} (h : NamesOk ns) (k : Nat) : NamesOk (ns.take k) := ⟨h.nd.sublist (List.take_sublist k ns), fun n hn => h.ok n (List.mem_of_mem_take hn)⟩
theorem NamesOk.rot {ns : List Str} (h : NamesOk ns) (k : Nat) : NamesOk (ns.drop k ++ ns.take k) := by
  have p : (ns.drop k ++ ns.take k).Perm ns := by
    have := List.perm_append_comm (l₁ := ns.drop k) (l₂ := ns.take k)
    rw [List.take_append_drop] at this
    exact this
  exact ⟨p.nodup_iff.mpr h.nd, fun n hn => h.ok n (p.mem_iff.mp hn)⟩
def namesB (ns : List Str) : Bool := decide ns.Nodup && ns.all nameOk
theorem namesB_ok {ns : List Str} (h : namesB ns = true) : NamesOk ns := by
  unfold namesB at h
  rw [Bool.and_eq_true, decide_eq_true_eq, List.all_eq_true] at h
  exact ⟨h.1, h.2⟩
theorem names_word {r : Int} (r0 : 0 ≤ r) (r1 : r < 7) : NamesOk [cutS "abcdefg" (some r) none, cutS "abcdefg" (some r) none ++ "x", cutS "abcdefg" (some r) none ++ "y", "x" ++ cutS "abcdefg" (some r) none] ∧ (cutS "abcdefg" (some r) none).length ≤ 7 := by
  rcases (show r = 0 ∨ r = 1 ∨ r = 2 ∨ r = 3 ∨ r = 4 ∨ r = 5 ∨ r = 6 by omega) with rfl | rfl | rfl | rfl | rfl | rfl | rfl <;> exact ⟨namesB_ok (by decide +kernel), by decide +kernel⟩
theorem names_nd : NamesOk ["n", "d", "nd", "dn"] := namesB_ok (by decide +kernel)
/-- inputs of such names -/
theorem ins_of {s : Int} {ins : List Inp} (h : NamesOk (names ins)) (h4 : ins.length ≤ 4) (hf : ∀ i ∈ ins, 1 ≤ i.fg ∧ i.fg ≤ s ∧ (i.ls = 0 ∨ i.ls = 1)) : insOk s ins := by
  refine ⟨h4, fun k i hk => ?_⟩
  have hm := List.mem_of_getElem? hk
  obtain ⟨f1, f2, f3⟩ := hf i hm
  unfold inputOk
  simp only [Bool.and_eq_true, Bool.not_eq_true', decide_eq_false_iff_not, decide_eq_true_eq]
  refine ⟨⟨⟨⟨fun z => ?_, h.ok _ (List.mem_map_of_mem hm)⟩, f1⟩, f2⟩, f3⟩
  have hk' : (names ins)[k]? = some i.nm := by
    unfold names
    rw [List.getElem?_map, hk]
    rfl
  have e : names ins = (names ins).take k ++ (names ins).drop k := (List.take_append_drop k _).symm
  have nd := h.nd
  rw [e] at nd
  have hd : i.nm ∈ (names ins).drop k := by
    refine List.mem_of_getElem? (i := 0) ?_
    rw [List.getElem?_drop, Nat.add_zero]
    exact hk'
  exact (List.nodup_append.mp nd).2.2 _ z _ hd rfl
/-- drawn inputs -/
def spInputsL (K : PySem.W.Frag) : Sp := fun vs H Q _ => ∃ (a cl : Addr) (most : Int), vs = [.ref a, .int most] ∧ DrawAt H a cl ∧ 1 ≤ most ∧ most ≤ 6 ∧
  ∀ (li : Addr) (xs : List Addr) (ins : List Inp) (H' : Hp), H li = none → insOk most ins → ins ≠ [] → InsL K H' li xs ins → Drew a cl H H' → Q (.ref li) H'
end My
namespace My
open PySem PySem.Spec L2 RT Rn
theorem Drew.mut {a cl D : Addr} {A B : Hp} {xs ys : List V} (h : Drew a cl A B) (hA : DrawAt A a cl) (hD : A D = none) (hB : B D = some (.lst xs)) : Drew a cl A (upd B D (.lst ys)) :=
  ⟨h.dr.off (off_new hA hD), fun b o hb na nc => by rw [upd_ne (ne_of_none hb hD)]; exact h.kp b o hb na nc, h.tn.trans (tn_mut rfl hB)⟩
/-- a list of inputs under way -/
def InsP (K : PySem.W.Frag) (a cl : Addr) (most : Int) (src : List Str) (H0 : Hp) (D : Addr) (i : Nat) (H' : Hp) : Prop := Drew a cl H0 H' ∧ ∃ (ads : List Addr) (ins : List Inp), H' D = some (.lst (ads.map V.ref)) ∧ Paired (InpAt K H') ads ins ∧ names ins = src.take i ∧ ∀ j ∈ ins, 1 ≤ j.fg ∧ j.fg ≤ most ∧ (j.ls = 0 ∨ j.ls = 1)
theorem paired_snoc {α β : Type} {R : α → β → Prop} {a : α} {b : β} (h : R a b) : ∀ {xs : List α} {ys : List β}, Paired R xs ys → Paired R (xs ++ [a]) (ys ++ [b])
  | _, _, .nil => .cons h .nil
  | _, _, .cons k t => .cons k (paired_snoc h t)
theorem InsP.start {K : PySem.W.Frag} {a cl : Addr} {most : Int} {src : List Str} {H0 H1 : Hp} {D : Addr} (hd : DrawAt H0 a cl) (s : Same H0 H1) (h : H1 D = some (.lst [])) : InsP K a cl most src H0 D 0 H1 :=
  ⟨(Drew.refl hd).same s, [], [], h, .nil, by simp [names], fun _ h => nomatch h⟩
theorem InsP.put {K : PySem.W.Frag} {a cl : Addr} {most : Int} {src : List Str} {H0 H1 H2 H3 : Hp} {D t : Addr} {i : Nat} {nm : Str} {fg ls : Int} (hd : DrawAt H0 a cl) (hD : H0 D = none) (p : InsP K a cl most src H0 D i H1) (d : Drew a cl H1 H2) (s : Same H2 H3) (ht : H3 t = some (.tup [.str nm, .int fg, .int ls]))
    (hn : src[i]? = some nm) (h1 : 1 ≤ fg) (h2 : fg ≤ most) (h3 : ls = 0 ∨ ls = 1) (hz : src.length ≤ 1000) : Put D (InsP K a cl most src H0 D (i + 1)) (.ref t) H3 := by
  obtain ⟨d01, ads, ins, hl, hp, hnm, hf⟩ := p
  have o := off_new hd hD
  have hl3 := s _ _ (d.at o hl)
  have hi : i < src.length := (List.getElem?_eq_some_iff.mp hn).1
  have hlen : ads.length = i := by
    have e1 := paired_len hp
    have e2 : (names ins).length = ins.length := by simp [names]
    rw [hnm, List.length_take] at e2
    omega
  refine w_put hl3 (by rw [List.length_map]; omega) fun H4 e4 h4 => ?_
  have t34 : Tn H3 H4 := tn_mut e4 hl3
  refine ⟨?_, ads ++ [t], ins ++ [⟨nm, fg, ls⟩], ?_, ?_, ?_, ?_⟩
  · rw [e4]
    exact ((d01.trans d).same s).mut hd hD hl3
  · rw [h4, List.map_append]
    rfl
  · exact paired_snoc (R := InpAt K H4) (b := ⟨nm, fg, ls⟩) (SqT.tn t34 (SqT.of ht)) (paired_imp (fun _ _ h => InpAt.tn h (d.tn.trans (s.tn.trans t34))) hp)
  · unfold names at hnm ⊢
    rw [List.map_append, hnm, List.take_add_one, hn]
    rfl
  · intro j hj
    rcases List.mem_append.mp hj with z | z
    · exact hf j z
    · rw [List.mem_singleton.mp z]
      exact ⟨h1, h2, h3⟩
theorem map_str {xs : List Str} {i : Nat} {v : V} (h : (xs.map V.str)[i]? = some v) : ∃ r, xs[i]? = some r ∧ v = .str r := by
  rw [List.getElem?_map] at h
  cases e : xs[i]? with
  | none => rw [e] at h; cases h
  | some r => rw [e] at h; cases h; exact ⟨r, rfl, rfl⟩
end My
namespace My
open PySem PySem.Spec L2 RT Rn
/-- a list of deeds, new since H -/
structure DeesL (K : PySem.W.Frag) (a cl : Addr) (ins : List Inp) (H H' : Hp) (dl : Addr) (ds : List V) : Prop where
  at_ : H' dl = some (.lst ds)
  off : Off a cl dl
  new : H dl = none
  all : AllD K ins H' ds
theorem DeesL.drew {K : PySem.W.Frag} {a cl : Addr} {ins : List Inp} {H A B : Hp} {dl : Addr} {ds : List V} (h : DeesL K a cl ins H A dl ds) (d : Drew a cl A B) : DeesL K a cl ins H B dl ds := ⟨d.at h.off h.at_, h.off, h.new, h.all.tn d.tn⟩
theorem DeesL.same {K : PySem.W.Frag} {a cl : Addr} {ins : List Inp} {H A B : Hp} {dl : Addr} {ds : List V} (h : DeesL K a cl ins H A dl ds) (d : Same A B) : DeesL K a cl ins H B dl ds := ⟨d _ _ h.at_, h.off, h.new, h.all.tn d.tn⟩
def spLongL (K : PySem.W.Frag) : Sp := fun vs H Q _ => ∃ (a cl li : Addr) (xs : List Addr) (ins : List Inp) (s : Int), vs = [.ref a, .ref li] ∧ DrawAt H a cl ∧ InsL K H li xs ins ∧ Off a cl li ∧ insOk s ins ∧ ins ≠ [] ∧
  ∀ dl ds H', DeesL K a cl ins H H' dl ds → ds.length ≤ 34 → Drew a cl H H' → Q (.ref dl) H'
theorem AllD.data {K : PySem.W.Frag} {ins : List Inp} {H : Hp} : ∀ {xs : List V}, AllD K ins H xs → ∃ (ads : List Addr) (dds : List Dee), xs = ads.map V.ref ∧ Paired (DeeAt K H) ads dds ∧ ∀ d ∈ dds, deeOk ins d = true
  | [], _ => ⟨[], [], rfl, .nil, fun _ h => nomatch h⟩
  | x :: xs, h => by
    obtain ⟨d, dd, rfl, g, k⟩ := h x List.mem_cons_self
    obtain ⟨ads, dds, rfl, p, q⟩ := AllD.data (xs := xs) fun y hy => h y (List.mem_cons_of_mem _ hy)
    refine ⟨d :: ads, dd :: dds, rfl, .cons k p, fun z hz => ?_⟩
    rcases List.mem_cons.mp hz with e | e
    · rw [e]; exact g
    · exact q z e
theorem AllC.data {K : PySem.W.Frag} {ins : List Inp} {H : Hp} : ∀ {xs : List V}, AllC K ins H xs → ∃ (ads : List Addr) (cs : List Cla), xs = ads.map V.ref ∧ Paired (ClaAt K H) ads cs ∧ ∀ d ∈ cs, claOk ins d = true
  | [], _ => ⟨[], [], rfl, .nil, fun _ h => nomatch h⟩
  | x :: xs, h => by
    obtain ⟨d, dd, rfl, g, k⟩ := h x List.mem_cons_self
    obtain ⟨ads, dds, rfl, p, q⟩ := AllC.data (xs := xs) fun y hy => h y (List.mem_cons_of_mem _ hy)
    refine ⟨d :: ads, dd :: dds, rfl, .cons k p, fun z hz => ?_⟩
    rcases List.mem_cons.mp hz with e | e
    · rw [e]; exact g
    · exact q z e
theorem AllD.sub {K : PySem.W.Frag} {ins : List Inp} {H : Hp} {xs ys : List V} (h : AllD K ins H xs) (k : ∀ y ∈ ys, y ∈ xs) : AllD K ins H ys := fun y hy => h y (k y hy)
theorem sidOk_mono {ins : List Inp} : ∀ {p : Sid} {k : Nat}, sidOk ins p k = true → sidOk ins p (k + 1) = true
  | .num n, 0, h => by cases h
  | .wheels, 0, h => by cases h
  | .counts, 0, h => by cases h
  | .inp n, 0, h => by cases h
  | .add p q, 0, h => by cases h
  | .times p q, 0, h => by cases h
  | .num n, k + 1, h => h
  | .wheels, k + 1, h => h
  | .counts, k + 1, h => h
  | .inp n, k + 1, h => h
  | .add p q, k + 1, h => by
    have h' : (sidOk ins p k && sidOk ins q k) = true := h
    rw [Bool.and_eq_true] at h'
    show (sidOk ins p (k + 1) && sidOk ins q (k + 1)) = true
    rw [sidOk_mono h'.1, sidOk_mono h'.2]
    rfl
  | .times p q, k + 1, h => by
    have h' : (sidOk ins p k && sidOk ins q k) = true := h
    rw [Bool.and_eq_true] at h'
    show (sidOk ins p (k + 1) && sidOk ins q (k + 1)) = true
    rw [sidOk_mono h'.1, sidOk_mono h'.2]
    rfl
def spBookL (K : PySem.W.Frag) : Sp := fun vs H Q _ => ∃ (a cl : Addr) (most : Int), vs = [.ref a, .int most] ∧ DrawAt H a cl ∧ 1 ≤ most ∧ most ≤ 6 ∧
  ∀ (bk : Addr) (B : Bok) (H' : Hp), BokAt K H' bk B → BokOk most B → B.ins ≠ [] → Drew a cl H H' → Q (.ref bk) H'
end My
namespace Rn
open PySem PySem.Spec L2 RT
/-- what follows a statement is read once -/
theorem w_join {t : TS} {D : Ends} {σ : St} {H : Hp} (R : St → Hp → Prop) (h1 : ∀ N : St → Hp → Prop, (∀ σ' H', R σ' H' → N σ' H') → t { D with nx := N } σ H) (h2 : ∀ σ' H', R σ' H' → D.nx σ' H') : t D σ H := h1 D.nx h2
end Rn
namespace My
open PySem PySem.Spec L2 RT Rn
/-- dicts of values, in a list -/
def AllV (b : Int) (ins : List Inp) (H : Hp) (xs : List V) : Prop := ∀ x ∈ xs, ∃ d vals, x = V.ref d ∧ H d = some (.dK (valsD ins vals)) ∧ ValsOk b ins vals
theorem AllV.same {b : Int} {ins : List Inp} {A B : Hp} {xs : List V} (h : AllV b ins A xs) (e : Same A B) : AllV b ins B xs := fun x hx => by
  obtain ⟨d, v, e1, e2, e3⟩ := h x hx
  exact ⟨d, v, e1, e _ _ e2, e3⟩
theorem valsD_none {ins : List Inp} {vals : List Int} {n : Str} (h : n ∉ names ins) : valV (valsD ins vals) (.inr n) = none := by
  induction ins generalizing vals with
  | nil => rfl
  | cons i r ih =>
    cases vals with
    | nil => rfl
    | cons v vs =>
      have e : ¬ i.nm = n := fun z => h (by rw [← z]; exact List.mem_cons_self)
      have e2 : ¬ ((Sum.inr i.nm : Key)) = .inr n := fun z => e (Sum.inr.inj z)
      show valV (((Sum.inr i.nm : Key), V.int v) :: valsD r vs) _ = _
      rw [valV_neg (p := ((Sum.inr i.nm : Key), V.int v)) e2]
      exact ih fun z => h (List.mem_cons_of_mem _ z)
theorem valsD_snoc {s b : Int} {ins : List Inp} {vals : List Int} {k : Nat} {i : Inp} {n : Int} (hi : insOk s ins) (h : ins[k]? = some i) (hl : ValsOk b (ins.take k) vals) : putK (valsD (ins.take k) vals) (.inr i.nm) (.int n) = valsD (ins.take (k + 1)) (vals ++ [n]) := by
  have g := hi.2 k i h
  have e : valV (valsD (ins.take k) vals) (.inr i.nm) = none := by
    refine valsD_none ?_
    have := inputOk_new g
    unfold names at this ⊢
    rw [← List.map_take] at this
    exact this
  rw [putK_new _ e]
  unfold valsD
  rw [List.take_add_one, h]
  show _ = List.map _ ((ins.take k ++ [i]).zip (vals ++ [n]))
  rw [List.zip_append hl.len.symm, List.map_append]
  rfl
theorem ValsOk.snoc {b : Int} {ins : List Inp} {vals : List Int} {k : Nat} {i : Inp} {n : Int} (h : ins[k]? = some i) (hl : ValsOk b (ins.take k) vals) (h1 : i.ls ≤ n) (h2 : n < b ^ i.fg.toNat) : ValsOk b (ins.take (k + 1)) (vals ++ [n]) := by
  have hk : k < ins.length := (List.getElem?_eq_some_iff.mp h).1
  have e : ins.take (k + 1) = ins.take k ++ [i] := by
    rw [List.take_add_one, h]
    rfl
  have lk : (ins.take k).length = k := by rw [List.length_take]; omega
  refine ⟨by rw [e, List.length_append, List.length_append, hl.len]; rfl, fun j x v hx hv => ?_⟩
  rw [e] at hx
  by_cases z : j < k
  · rw [List.getElem?_append_left (by omega)] at hx
    rw [List.getElem?_append_left (by rw [hl.len]; omega)] at hv
    exact hl.at_ j x v hx hv
  · rw [List.getElem?_append_right (by omega), lk] at hx
    rw [List.getElem?_append_right (by rw [hl.len]; omega), hl.len, lk] at hv
    have jk : j - k = 0 := by
      refine Nat.eq_zero_of_not_pos fun y => ?_
      rw [List.getElem?_eq_none (by simp; omega)] at hx
      cases hx
    rw [jk] at hx hv
    cases hx
    cases hv
    exact ⟨h1, h2⟩
def spAllVals (K : PySem.W.Frag) : Sp := fun vs H Q _ => ∃ (m bk : Addr) (b s w c : Int) (B : Bok), vs = [.ref m, .ref bk] ∧ MachAt K H m b s w c ∧ Mach b s w c ∧ b ≤ 7 ∧ BokAt K H bk B ∧ BokOk s B ∧ (∀ i ∈ B.ins, i.fg ≤ 2) ∧
  ∀ lf vs H', Same H H' → H lf = none → H' lf = some (.lst vs) → AllV b B.ins H' vs → 0 < vs.length → vs.length ≤ 6000000 → Q (.ref lf) H'
end My
namespace Rn
open PySem PySem.Spec L2 RT
theorem w_appendW {l : Addr} {xs : List V} {y : V} {H : Hp} {Q : VK} (hl : H l = some (.lst xs)) (hz : xs.length ≤ 10000000) (h : ∀ H', H' = upd H l (.lst (xs ++ [y])) → H' l = some (.lst (xs ++ [y])) → Q .non H') : rAppend (.ref l) [y] H Q := ⟨l, xs, y, rfl, rfl, hl, Nat.lt_of_le_of_lt hz (by decide), h _ rfl upd_same⟩
end Rn
namespace Rn
open PySem PySem.Spec L2 RT
section
variable {σ : St} {H : Hp} {Q : VK}
theorem w_dnewR (h : ∀ p H', H p = none → Same H H' → H' p = some (.dK []) → Q (.ref p) H') : tDNewK σ H Q := fun p hp => h p _ hp (Same.new hp) upd_same
end
end Rn
namespace Rn
open PySem PySem.Spec L2 RT
def Rng2Q (R : It → Hp → Prop) (vs : List V) (H1 : Hp) : Prop := ∃ i j : Int, vs = [.int i, .int j] ∧ (-(2 ^ 62) ≤ i ∧ i < 2 ^ 62 ∧ -(2 ^ 62) ≤ j ∧ j < 2 ^ 62) ∧ R (Itr i (j - i).toNat) H1
theorem w_rng2 {ta : TA} {σ : St} {H : Hp} {R : It → Hp → Prop} (h : ta σ H fun vs H1 => Rng2Q R vs H1) : iRng2 ta σ H R := h
theorem w_rng2I {i j : Int} {H : Hp} {R : It → Hp → Prop} (hb : -(2 ^ 62) ≤ i ∧ i < 2 ^ 62 ∧ -(2 ^ 62) ≤ j ∧ j < 2 ^ 62) (h : R (Itr i (j - i).toNat) H) : Rng2Q R [.int i, .int j] H := ⟨i, j, rfl, hb, h⟩
/-- a range, its target a name -/
theorem lp_rangeN {K : PySem.W.Frag} {D : Ends} {σ : St} {H : Hp} {lo : Int} {n j : Nat} {tb : TS} (Pv : Nat → St → Hp → Prop) (h0 : Pv 0 σ H)
    (hs : ∀ (i : Nat) σ H, i < n → Pv i σ H → tb { D with nx := Pv (i + 1), ct := Pv (i + 1), bk := D.nx } (σ.set j (some (.int (lo + i)))) H) (hd : ∀ σ H, Pv n σ H → D.nx σ H) : Lp (Itr lo n) (gName j) tb D σ H := for_range Pv h0 hs hd
end Rn
namespace My
open PySem PySem.Spec L2 RT Rn
theorem AllV.app {b : Int} {ins : List Inp} {A : Hp} {l q : Addr} {xs ys zs : List V} {vals : List Int} (h : AllV b ins A xs) (hl : A l = some (.lst ys)) (hq : A q = some (.dK (valsD ins vals))) (hv : ValsOk b ins vals) : AllV b ins (upd A l (.lst zs)) (xs ++ [.ref q]) := by
  have key : ∀ (d : Addr) (kvs : List (Key × V)), A d = some (.dK kvs) → upd A l (.lst zs) d = some (.dK kvs) := fun d kvs e => by
    rw [upd_ne (fun z => by rw [z, hl] at e; cases e)]
    exact e
  intro x hx
  rcases List.mem_append.mp hx with hx | hx
  · obtain ⟨d, v, e1, e2, e3⟩ := h x hx
    exact ⟨d, v, e1, key _ _ e2, e3⟩
  · rw [List.mem_singleton.mp hx]
    exact ⟨q, vals, rfl, key _ _ hq, hv⟩
end My
namespace My
open PySem PySem.Spec L2 RT Rn
def spTold5 (K : PySem.W.Frag) (TP : Addr) : Sp := fun vs H Q _ => ∃ (m bk v : Addr) (b s w c : Int) (B : Bok) (vals : List Int), vs = [.ref m, .ref bk, .ref v] ∧ MachAt K H m b s w c ∧ Mach b s w c ∧ BokAt K H bk B ∧ BokOk s B ∧ H v = some (.dK (valsD B.ins vals)) ∧ ValsOk b B.ins vals ∧ GxR.TabG H TP ∧
  (∀ k, runN b s w c (valOf B.ins vals) B.dds 0 num0 = .inl k → ∀ H', Tg.SmT TP H H' → Q (.int (k : Nat)) H') ∧
  (∀ y, runN b s w c (valOf B.ins vals) B.dds 0 num0 = .inr y → ∀ z H', Tg.SmT TP H H' → SqT K H' z [.int y.W, .int y.C] → Q (.ref z) H')
end My
namespace My
open PySem PySem.Spec L2 RT Rn
def spOddsBook (K : PySem.W.Frag) : Sp := fun vs H Q _ => ∃ (a cl : Addr), vs = [.ref a] ∧ DrawAt H a cl ∧
  ∀ (p m bk : Addr) (b s : Int) (B : Bok) (H' : Hp), Mach b s 8 6 → b ≤ 7 → s ≤ 2 → MachAt K H' m b s 8 6 → BokAt K H' bk B → BokOk s B → Drew a cl H H' → H' p = some (.tup [.ref m, .ref bk]) → Q (.ref p) H'
end My
namespace My
open PySem PySem.Spec L2 RT Rn
theorem paired_app {α β : Type} {R : α → β → Prop} {as : List α} {bs : List β} (h : Paired R as bs) : ∀ {xs : List α} {ys : List β}, Paired R xs ys → Paired R (xs ++ as) (ys ++ bs)
  | _, _, .nil => h
  | _, _, .cons k t => .cons k (paired_app h t)
theorem paired_rep {α β : Type} {R : α → β → Prop} {a : α} {b : β} (h : R a b) : ∀ n, Paired R (List.replicate n a) (List.replicate n b)
  | 0 => .nil
  | n + 1 => .cons h (paired_rep h n)
theorem odds_ok {b s r2 r3 r4 : Int} (h1 : 1 ≤ s) (r20 : 0 ≤ r2) (r21 : r2 < 6) (r30 : 0 ≤ r3) (r31 : r3 < 2) (r40 : 0 ≤ r4) (r41 : r4 < 2) : BokOk s ⟨[⟨"n", s, 0⟩], .load "n" :: (List.replicate (1 + r2).toNat (.turn 1 0) ++ [.one, .odds r3]) ++ List.replicate r4.toNat (.turn 1 0), []⟩ := by
  have hi : insOk s [⟨"n", s, 0⟩] := by
    refine ⟨by simp, fun k i hk => ?_⟩
    cases k with
    | succ k => cases hk
    | zero =>
      cases hk
      have hn : nameOk "n" = true := by decide +kernel
      unfold inputOk
      simp only [hn, Bool.and_eq_true, Bool.not_eq_true', decide_eq_false_iff_not, decide_eq_true_eq]
      exact ⟨⟨⟨⟨by simp, trivial⟩, h1⟩, Int.le_refl _⟩, .inl trivial⟩
  refine ⟨hi, by simp; omega, fun d hd => ?_, by simp, fun c hc => nomatch hc⟩
  have ht : deeOk [⟨"n", s, 0⟩] (.turn 1 0) = true := ok_turn (.inl rfl) ⟨by omega, by omega⟩
  rcases List.mem_append.mp hd with hd | hd
  · rcases List.mem_cons.mp hd with rfl | hd
    · exact ok_load (i := ⟨"n", s, 0⟩) (by simp)
    · rcases List.mem_append.mp hd with hd | hd
      · rw [(List.mem_replicate.mp hd).2]
        exact ht
      · rcases List.mem_cons.mp hd with rfl | hd
        · rfl
        · rw [List.mem_singleton.mp hd]
          exact ok_odds ⟨by omega, by omega⟩
  · rw [(List.mem_replicate.mp hd).2]
    exact ht
end My
namespace My
open PySem PySem.Spec L2 RT Rn
theorem inputOk_mono {s s' : Int} {ns : List Str} {i : Inp} (h : inputOk s ns i = true) (g : s ≤ s') : inputOk s' ns i = true := by
  unfold inputOk at h ⊢
  simp only [Bool.and_eq_true, decide_eq_true_eq] at h ⊢
  exact ⟨⟨h.1.1, by omega⟩, h.2⟩
theorem BokOk.mono {s s' : Int} {B : Bok} (h : BokOk s B) (g : s ≤ s') : BokOk s' B := ⟨⟨h.ins.1, fun k i hk => inputOk_mono (h.ins.2 k i hk) g⟩, h.dl, h.dds, h.cl, h.cls⟩
theorem BokOk.fg {s : Int} {B : Bok} (h : BokOk s B) (g : s ≤ 2) : ∀ i ∈ B.ins, i.fg ≤ 2 := fun i hi => by
  obtain ⟨k, hk⟩ := List.getElem?_of_mem hi
  have io := h.ins.2 k i hk
  unfold inputOk at io
  simp only [Bool.and_eq_true, decide_eq_true_eq] at io
  omega
theorem AllV.drew {b : Int} {ins : List Inp} {A B : Hp} {a cl : Addr} {xs : List V} (h : AllV b ins A xs) (hd : DrawAt A a cl) (y : Drew a cl A B) : AllV b ins B xs := fun x hx => by
  obtain ⟨d, v, e1, e2, e3⟩ := h x hx
  obtain ⟨s, i, cells, ha, hc, _⟩ := hd
  exact ⟨d, v, e1, y.kp d _ e2 (fun z => by rw [z, ha] at e2; cases e2) (fun z => by rw [z, hc] at e2; cases e2), e3⟩
theorem AllV.smt {TP : Addr} {b : Int} {ins : List Inp} {A B : Hp} {xs : List V} (h : AllV b ins A xs) (e : Tg.SmT TP A B) : AllV b ins B xs := fun x hx => by
  obtain ⟨d, v, e1, e2, e3⟩ := h x hx
  exact ⟨d, v, e1, e.d e2, e3⟩
theorem AllV.pick {b : Int} {ins : List Inp} {H : Hp} {xs : List V} (h : AllV b ins H xs) {r : Int} (r0 : 0 ≤ r) (r1 : r < (xs.length : Nat)) : ∃ d vals, atI xs r = some (.ref d) ∧ H d = some (.dK (valsD ins vals)) ∧ ValsOk b ins vals := by
  have hl : r.toNat < xs.length := by omega
  have hx : xs[r.toNat]? = some xs[r.toNat] := List.getElem?_eq_getElem hl
  obtain ⟨d, v, e, g, k⟩ := h _ (List.mem_of_getElem? hx)
  exact ⟨d, v, by rw [atI_of r0 hx, e], g, k⟩
end My
namespace Rn
open PySem PySem.Spec L2 RT
theorem ty_sqT {K : PySem.W.Frag} {H : Hp} {p : Addr} {xs : List V} (h : SqT K H p xs) : TyX K H (.ref p) (.type "tuple") := by
  rcases h with (h | ⟨o, h⟩) | ⟨o, its, n, h, c, _⟩
  · exact .base (.tup h)
  · exact .fTuple h
  · exact .kTuple h c
theorem w_isiT {K : PySem.W.Frag} {H : Hp} {Q : VK} {p : Addr} {xs : List V} (hp : SqT K H p xs) (h : Q (.bl true) H) : rIsi K [.ref p, .ty "tuple"] H Q := w_isi (ty_sqT hp) (by decide +kernel) h
theorem w_isiTF {K : PySem.W.Frag} {H : Hp} {Q : VK} {n : Int} (h : Q (.bl false) H) : rIsi K [.int n, .ty "tuple"] H Q := w_isi (.base (.int n)) (by decide +kernel) h
end Rn
namespace My
open PySem PySem.Spec L2 RT Rn
theorem valsD_refl {s : Int} {ins : List Inp} {vals : List Int} (hi : insOk s ins) (hl : vals.length = ins.length) : ∀ p ∈ valsD ins vals, valV (valsD ins vals) p.1 = some p.2 ∧ flatB p.2 = true := by
  intro p hp
  unfold valsD at hp
  obtain ⟨⟨i, n⟩, hz, rfl⟩ := List.mem_map.mp hp
  obtain ⟨k, hk⟩ := List.getElem?_of_mem hz
  rw [List.getElem?_zip_eq_some] at hk
  have hv := valsD_val hl (figsOf_some (List.mem_of_getElem? hk.1))
  refine ⟨?_, rfl⟩
  rw [hv]
  obtain ⟨j, i', h1, h2, h3, _⟩ := valOf_at hl (figsOf_some (List.mem_of_getElem? hk.1))
  have e := names_uniq hi h1 hk.1 h3
  subst e
  rw [h2] at hk
  exact congrArg (fun z => some (V.int z)) (Option.some.inj hk.2)
end My
namespace Rn
open PySem PySem.Spec L2 RT
theorem w_notI {n : Int} {H : Hp} {Q : VK} (h : Q (.bl true) H) : rNot (.int n) .non H Q := ⟨rfl, by rw [show decide (V.int n = V.non) = false from decide_eq_false (fun z => nomatch z)]; exact h⟩
end Rn
set_option Elab.async false
set_option linter.all false
set_option maxRecDepth 100000
set_option maxHeartbeats 4000000
/-! what is refused: machines, handbooks, values -/
namespace L2
open PySem PySem.Spec PyProof.Rows
theorem passX0 {P : Program} {w : World} {X : Cx} : Passes (L2.CX P w) X (fun _ _ _ => False) := fun _ _ _ _ _ _ _ h => by
  obtain ⟨_, _, _, _, _, _, _, _, _, _, _, _, z⟩ := h
  exact z.elim
/-- list.count of a flat value -/
def rCntV (K : PySem.W.Frag) : V → List V → Hp → VK → Prop := fun x xs H Q => ∃ (p : Addr) (ys : List V) (y : V), x = .ref p ∧ xs = [y] ∧ SqL K H p ys ∧ flatV y = true ∧ ys.all flatV = true ∧ Q (.int (ys.countP (fun z => eqV z y) : Nat)) H
theorem countP_eqU {x : V} : ∀ {xs : List V} {us : List Value}, Vals xs us → xs.all flatV = true → us.countP (eqU x) = xs.countP fun y => eqV y x
  | _, _, .nil, _ => rfl
  | _, _, .cons r t, f => by
    rw [List.all_cons, Bool.and_eq_true] at f
    rw [List.countP_cons, List.countP_cons, countP_eqU t f.2, eqU_of r f.1]
theorem mt_countV {X : Cx} : MtR X "list.count" (rCntV X.K) := by
  intro pins s σ H x xs v us Q I rx rxs h
  obtain ⟨p, ys, y, rfl, rfl, hs, fy, fys, q⟩ := h
  cases rx
  obtain ⟨u, rfl, ru⟩ := rxs.one
  obtain ⟨its, rv, ⟨⟨cls, dd, data, sl⟩, n, ho, hc, hdn, hd⟩, hlen⟩ := I.list hs
  simp only at hc hd
  subst hc hd
  refine call_meets PySem.F.slot_list_count ⟨_, ho, rfl⟩ PySem.F.entry_list_count (PySem.F.args_list_count_2 _ _)
    (SeqAt.list_countAt p its.toArray n dd sl u (eqU y)) ⟨ho, fun u' hu' => mem_eqAt ru fy rv fys u' (by simpa using hu'), ?_⟩
  have ec : its.toArray.toList.countP (eqU y) = ys.countP fun z => eqV z y := countP_eqU rv fys
  refine ⟨.int (ys.countP (fun z => eqV z y) : Nat), H, I.tok _, ⟨s.toks, ?_⟩, q⟩
  show Value.int ((its.toArray.toList.countP (eqU y) : Nat) : Int) s.toks = Value.int ((ys.countP (fun z => eqV z y) : Nat) : Int) s.toks
  rw [ec]
end L2
namespace My
open PySem PySem.Spec L2 RT Rn
/-! ### machines -/
def machOk : List Int → Bool
  | [b, s, w, c] => decide (2 ≤ b) && decide (b ≤ 12) && decide (1 ≤ s) && decide (s ≤ 6) && decide (s ≤ w) && decide (w ≤ 16) && decide (1 ≤ c) && decide (c ≤ 10)
  | _ => false
def MachBad (K : PySem.W.Frag) (H : Hp) (m : Addr) : Prop := ∃ ms : List Int, SqT K H m (ms.map V.int) ∧ ms.length ≤ 1000 ∧ machOk ms = false ∧ ∀ x ∈ ms, -(2 ^ 40) < x ∧ x < 2 ^ 40
theorem MachBad.tn {K : PySem.W.Frag} {H H' : Hp} {m : Addr} (h : MachBad K H m) (e : Tn H H') : MachBad K H' m := by
  obtain ⟨ms, h1, h2⟩ := h
  exact ⟨ms, SqT.tn e h1, h2⟩
def spNeedX (K : PySem.W.Frag) (CB : Addr) : Sp := fun vs H Q E => spNeed K vs H Q E ∨ ∃ m, vs = [.ref m] ∧ MachBad K H m ∧ E (.ref CB) none H
def spTopX (K : PySem.W.Frag) (CB : Addr) : Sp := fun vs H Q E => spTop K vs H Q E ∨ ∃ m, vs = [.ref m] ∧ MachBad K H m ∧ E (.ref CB) none H
def spBad1 (K : PySem.W.Frag) (CB : Addr) : Sp := fun vs H _ E => ∃ (m : Addr), vs = [.ref m] ∧ MachBad K H m ∧ E (.ref CB) none H
def spBad2 (K : PySem.W.Frag) (CB : Addr) : Sp := fun vs H _ E => ∃ (m : Addr) (x : V), vs = [.ref m, x] ∧ MachBad K H m ∧ E (.ref CB) none H
def spBad3 (K : PySem.W.Frag) (CB : Addr) : Sp := fun vs H _ E => ∃ (m : Addr) (x y : V), vs = [.ref m, x, y] ∧ MachBad K H m ∧ E (.ref CB) none H
def spBad5 (K : PySem.W.Frag) (CB : Addr) : Sp := fun vs H _ E => ∃ (m : Addr) (x y z u : V), vs = [.ref m, x, y, z, u] ∧ MachBad K H m ∧ E (.ref CB) none H
/-! ### handbooks that may be none -/
inductive RDee
  | ok (d : Dee)
  | wip (z : Str)
  | bad (w : Str) (r : List V)
def RDee.vs : RDee → List V
  | .ok d => d.vs
  | .wip z => [.str "wipe", .str z]
  | .bad w r => .str w :: r
/-- words and how much stands behind them -/
def shapeD (w : Str) (n : Nat) : Bool := decide ((w, n) ∈ ([("load", 1), ("one", 0), ("shift", 1), ("turn", 2), ("wipe", 1), ("turns", 4), ("bell", 1), ("odds", 1)] : List (Str × Nat)))
def rdeeOk (ins : List Inp) : RDee → Bool
  | .ok d => deeOk ins d
  | .wip z => decide (z ∈ (["wheels", "counts"] : List Str))
  | .bad _ _ => false
def RDee.wf : RDee → Prop
  | .bad w r => shapeD w r.length = false ∧ r.length ≤ 1000
  | _ => True
inductive RSid
  | num (n : Int)
  | wheels
  | counts
  | inp (n : Str)
  | add (p q : RSid)
  | times (p q : RSid)
  | bad
def shapeS (w : Str) (n : Nat) : Bool := decide ((w, n) ∈ ([("num", 1), ("wheels", 0), ("counts", 0), ("input", 1), ("add", 2), ("times", 2)] : List (Str × Nat)))
def rsidOk (ins : List Inp) : RSid → Nat → Bool
  | _, 0 => false
  | .num n, _ + 1 => decide (0 ≤ n) && decide (n ≤ 1000000000)
  | .wheels, _ + 1 => true
  | .counts, _ + 1 => true
  | .inp n, _ + 1 => (figsOf ins n).isSome
  | .add p q, k + 1 => rsidOk ins p k && rsidOk ins q k
  | .times p q, k + 1 => rsidOk ins p k && rsidOk ins q k
  | .bad, _ + 1 => false
inductive RCla
  | two (w : Str) (p q : RSid)
  | bad
def rclaOk (ins : List Inp) : RCla → Bool
  | .two w p q => decide (w ∈ (["same", "less"] : List Str)) && rsidOk ins p 4 && rsidOk ins q 4
  | .bad => false
structure RBok where
  ins : List Inp
  dds : List RDee
  cls : List RCla
/-- the first that isn't so -/
def firstNo {α : Type} (ok : α → Bool) : List α → Nat → Option Nat
  | [], _ => none
  | x :: r, k => if ok x then firstNo ok r (k + 1) else some k
def firstIn (s : Int) (ins : List Inp) : List Inp → Nat → Option Nat
  | [], _ => none
  | x :: r, k => if inputOk s ((names ins).take k) x then firstIn s ins r (k + 1) else some k
def whyIn (s : Int) (ins : List Inp) : Option Nat := if ins.length > 4 then some 0 else firstIn s ins ins 0
def whyNot (s : Int) (R : RBok) : Option (Nat × Str) := match whyIn s R.ins with
  | some k => some (k, "input")
  | none => match (if R.dds.length > 40 then some 0 else firstNo (rdeeOk R.ins) R.dds 0) with
    | some k => some (k, "deed")
    | none => match (if R.cls.length > 8 then some 0 else firstNo (rclaOk R.ins) R.cls 0) with
      | some k => some (k, "claim")
      | none => none
section
variable (K : PySem.W.Frag)
def RDeeAt (H : Hp) (a : Addr) (d : RDee) : Prop := SqT K H a d.vs ∧ d.wf
inductive RSidAt (H : Hp) : Addr → RSid → Prop
  | num {a : Addr} {n : Int} (h : SqT K H a [.str "num", .int n]) : RSidAt H a (.num n)
  | wheels {a : Addr} (h : SqT K H a [.str "wheels"]) : RSidAt H a .wheels
  | counts {a : Addr} (h : SqT K H a [.str "counts"]) : RSidAt H a .counts
  | inp {a : Addr} {n : Str} (h : SqT K H a [.str "input", .str n]) : RSidAt H a (.inp n)
  | add {a x y : Addr} {p q : RSid} (h : SqT K H a [.str "add", .ref x, .ref y]) (hx : RSidAt H x p) (hy : RSidAt H y q) : RSidAt H a (.add p q)
  | times {a x y : Addr} {p q : RSid} (h : SqT K H a [.str "times", .ref x, .ref y]) (hx : RSidAt H x p) (hy : RSidAt H y q) : RSidAt H a (.times p q)
  | bad {a : Addr} {w : Str} {r : List V} (h : SqT K H a (.str w :: r)) (hn : shapeS w r.length = false) (hl : r.length ≤ 1000) : RSidAt H a .bad
inductive RClaAt (H : Hp) : Addr → RCla → Prop
  | two {a x y : Addr} {w : Str} {p q : RSid} (h : SqT K H a [.str w, .ref x, .ref y]) (hx : RSidAt K H x p) (hy : RSidAt K H y q) : RClaAt H a (.two w p q)
  | bad {a : Addr} {vs : List V} (h : SqT K H a vs) (hn : vs.length ≠ 3) (hl : vs.length ≤ 1000) : RClaAt H a .bad
def RBokAt (H : Hp) (b : Addr) (B : RBok) : Prop := ∃ (x y z : Addr) (xs ys zs : List Addr), SqT K H b [.ref x, .ref y, .ref z] ∧ SqT K H x (xs.map V.ref) ∧ Paired (InpAt K H) xs B.ins ∧
  SqT K H y (ys.map V.ref) ∧ Paired (RDeeAt K H) ys B.dds ∧ SqT K H z (zs.map V.ref) ∧ Paired (RClaAt K H) zs B.cls ∧ ∀ i ∈ B.ins, i.nm.length ≤ 1000
variable {K} {H H' : Hp}
theorem RDeeAt.tn {a : Addr} {d : RDee} (h : RDeeAt K H a d) (e : Tn H H') : RDeeAt K H' a d := ⟨SqT.tn e h.1, h.2⟩
theorem RSidAt.tn {a : Addr} {p : RSid} (h : RSidAt K H a p) (e : Tn H H') : RSidAt K H' a p := by
  induction h with
  | num h => exact .num (SqT.tn e h)
  | wheels h => exact .wheels (SqT.tn e h)
  | counts h => exact .counts (SqT.tn e h)
  | inp h => exact .inp (SqT.tn e h)
  | add h _ _ i j => exact .add (SqT.tn e h) i j
  | times h _ _ i j => exact .times (SqT.tn e h) i j
  | bad h hn hl => exact .bad (SqT.tn e h) hn hl
theorem RClaAt.tn {a : Addr} {p : RCla} (h : RClaAt K H a p) (e : Tn H H') : RClaAt K H' a p := by
  cases h with
  | two h x y => exact .two (SqT.tn e h) (x.tn e) (y.tn e)
  | bad h hn hl => exact .bad (SqT.tn e h) hn hl
theorem RBokAt.tn {b : Addr} {B : RBok} (h : RBokAt K H b B) (e : Tn H H') : RBokAt K H' b B := by
  obtain ⟨x, y, z, xs, ys, zs, h0, h1, h2, h3, h4, h5, h6, h7⟩ := h
  exact ⟨x, y, z, xs, ys, zs, SqT.tn e h0, SqT.tn e h1, paired_imp (fun _ _ h => h.tn e) h2, SqT.tn e h3, paired_imp (fun _ _ h => h.tn e) h4, SqT.tn e h5, paired_imp (fun _ _ h => h.tn e) h6, h7⟩
end
/-! ### good ones among them -/
def Sid.r : Sid → RSid
  | .num n => .num n
  | .wheels => .wheels
  | .counts => .counts
  | .inp n => .inp n
  | .add p q => .add p.r q.r
  | .times p q => .times p.r q.r
def Cla.r (c : Cla) : RCla := .two (claW c.less) c.p.r c.q.r
def Bok.r (B : Bok) : RBok := ⟨B.ins, B.dds.map .ok, B.cls.map Cla.r⟩
theorem rsid_r (ins : List Inp) : ∀ (p : Sid) (k : Nat), rsidOk ins p.r k = sidOk ins p k
  | p, 0 => by cases p <;> rfl
  | .num n, k + 1 => rfl
  | .wheels, k + 1 => rfl
  | .counts, k + 1 => rfl
  | .inp n, k + 1 => rfl
  | .add p q, k + 1 => by
    show (rsidOk ins p.r k && rsidOk ins q.r k) = (sidOk ins p k && sidOk ins q k)
    rw [rsid_r ins p k, rsid_r ins q k]
  | .times p q, k + 1 => by
    show (rsidOk ins p.r k && rsidOk ins q.r k) = (sidOk ins p k && sidOk ins q k)
    rw [rsid_r ins p k, rsid_r ins q k]
theorem rcla_r (ins : List Inp) (c : Cla) : rclaOk ins c.r = claOk ins c := by
  show (decide (claW c.less ∈ (["same", "less"] : List Str)) && rsidOk ins c.p.r 4 && rsidOk ins c.q.r 4) = (sidOk ins c.p 4 && sidOk ins c.q 4)
  have e : decide (claW c.less ∈ (["same", "less"] : List Str)) = true := by cases c.less <;> decide +kernel
  rw [e, rsid_r, rsid_r]
  rfl
section
variable {K : PySem.W.Frag} {H : Hp}
theorem SidAt.r {a : Addr} {p : Sid} (h : SidAt K H a p) : RSidAt K H a p.r := by
  induction h with
  | num h => exact .num h
  | wheels h => exact .wheels h
  | counts h => exact .counts h
  | inp h => exact .inp h
  | add h _ _ i j => exact .add h i j
  | times h _ _ i j => exact .times h i j
theorem ClaAt.r {a : Addr} {c : Cla} (h : ClaAt K H a c) : RClaAt K H a c.r := by
  obtain ⟨x, y, h1, h2, h3⟩ := h
  exact .two h1 h2.r h3.r
theorem DeeAt.r {a : Addr} {d : Dee} (h : DeeAt K H a d) : RDeeAt K H a (.ok d) := ⟨h, trivial⟩
theorem paired_map {α β γ : Type} {R : α → β → Prop} {S : α → γ → Prop} {f : β → γ} (k : ∀ a b, R a b → S a (f b)) : ∀ {xs : List α} {ys : List β}, Paired R xs ys → Paired S xs (ys.map f)
  | _, _, .nil => .nil
  | _, _, .cons h t => .cons (k _ _ h) (paired_map k t)
theorem BokAt.r {b : Addr} {B : Bok} {s : Int} (h : BokAt K H b B) (ok : BokOk s B) : RBokAt K H b B.r := by
  obtain ⟨x, y, z, xs, ys, zs, h0, h1, h2, h3, h4, h5, h6⟩ := h
  refine ⟨x, y, z, xs, ys, zs, h0, h1, h2, h3, paired_map (fun _ _ h => h.r) h4, h5, paired_map (fun _ _ h => h.r) h6, fun i hi => ?_⟩
  obtain ⟨k, hk⟩ := List.getElem?_of_mem hi
  have := nameOk_len (inputOk_name (ok.ins.2 k i hk))
  omega
end
theorem firstNo_none {α : Type} {ok : α → Bool} : ∀ {xs : List α} {k : Nat}, (∀ x ∈ xs, ok x = true) → firstNo ok xs k = none
  | [], _, _ => rfl
  | x :: r, k, h => by
    unfold firstNo
    rw [if_pos (h x List.mem_cons_self)]
    exact firstNo_none fun y hy => h y (List.mem_cons_of_mem _ hy)
theorem firstNo_drop {α : Type} {ok : α → Bool} {xs : List α} {i : Nat} {x : α} (h : xs[i]? = some x) : firstNo ok (xs.drop i) i = if ok x then firstNo ok (xs.drop (i + 1)) (i + 1) else some i := by
  have hi := (List.getElem?_eq_some_iff.mp h).1
  have e : xs.drop i = x :: xs.drop (i + 1) := by
    rw [List.drop_eq_getElem_cons hi]
    congr 1
    exact (List.getElem?_eq_some_iff.mp h).2
  rw [e]
  rfl
theorem firstIn_drop {s : Int} {ins : List Inp} {xs : List Inp} {i : Nat} {x : Inp} (h : xs[i]? = some x) : firstIn s ins (xs.drop i) i = if inputOk s ((names ins).take i) x then firstIn s ins (xs.drop (i + 1)) (i + 1) else some i := by
  have hi := (List.getElem?_eq_some_iff.mp h).1
  have e : xs.drop i = x :: xs.drop (i + 1) := by
    rw [List.drop_eq_getElem_cons hi]
    congr 1
    exact (List.getElem?_eq_some_iff.mp h).2
  rw [e]
  rfl
theorem firstIn_none {s : Int} {ins : List Inp} : ∀ {xs : List Inp} {k : Nat}, (∀ (j : Nat) (i : Inp), xs[j]? = some i → inputOk s ((names ins).take (k + j)) i = true) → firstIn s ins xs k = none
  | [], _, _ => rfl
  | x :: r, k, h => by
    unfold firstIn
    rw [if_pos (show inputOk s (List.take k (names ins)) x = true from h 0 x rfl)]
    refine firstIn_none fun j i e => ?_
    have := h (j + 1) i e
    rw [show k + 1 + j = k + (j + 1) by omega]
    exact this
theorem firstIn_all {s : Int} {ins : List Inp} : ∀ {xs : List Inp} {k : Nat}, firstIn s ins xs k = none → ∀ (j : Nat) (i : Inp), xs[j]? = some i → inputOk s ((names ins).take (k + j)) i = true
  | [], k, _, j, i, e => nomatch e
  | x :: r, k, h, j, i, e => by
    unfold firstIn at h
    by_cases g : inputOk s ((names ins).take k) x = true
    · rw [if_pos g] at h
      cases j with
      | zero =>
        cases e
        exact g
      | succ j =>
        have := firstIn_all h j i e
        rw [show k + (j + 1) = k + 1 + j by omega]
        exact this
    · rw [if_neg g] at h
      cases h
theorem whyNot_good {s : Int} {B : Bok} (ok : BokOk s B) : whyNot s B.r = none := by
  have e1 : whyIn s B.r.ins = none := by
    unfold whyIn
    rw [if_neg (by have := ok.ins.1; show ¬ B.ins.length > 4; omega)]
    exact firstIn_none fun j i e => by rw [Nat.zero_add]; exact ok.ins.2 j i e
  have e2 : (if B.r.dds.length > 40 then some 0 else firstNo (rdeeOk B.r.ins) B.r.dds 0) = none := by
    rw [if_neg (by have := ok.dl; show ¬ (B.dds.map RDee.ok).length > 40; rw [List.length_map]; omega)]
    refine firstNo_none fun d hd => ?_
    obtain ⟨d0, h0, rfl⟩ := List.mem_map.mp (show d ∈ B.dds.map RDee.ok from hd)
    exact ok.dds d0 h0
  have e3 : (if B.r.cls.length > 8 then some 0 else firstNo (rclaOk B.r.ins) B.r.cls 0) = none := by
    rw [if_neg (by have := ok.cl; show ¬ (B.cls.map Cla.r).length > 8; rw [List.length_map]; omega)]
    refine firstNo_none fun d hd => ?_
    obtain ⟨d0, h0, rfl⟩ := List.mem_map.mp (show d ∈ B.cls.map Cla.r from hd)
    rw [rcla_r]
    exact ok.cls d0 h0
  unfold whyNot
  rw [e1]
  dsimp only
  rw [e2]
  dsimp only
  rw [e3]
/-! ### promises -/
/-- the own dict of a BadBook -/
def badD (k : Nat) (w : Str) : List (Str × V) := [("word", .str w), ("at", .int (k : Nat))]
def OutBad (TP CB : Addr) (H : Hp) (E : XK) (k : Nat) (w : Str) : Prop := ∀ d H', Tg.SmT TP H H' → H' d = some (.xd (badD k w)) → E (.ref CB) (some d) H'
def spInit2 (C : Addr) : Sp := fun vs H Q _ => ∃ (a : Addr) (n : Int) (w : Str), vs = [.ref a, .int n, .str w] ∧ -(2 ^ 64) < n ∧ n < 2 ^ 64 ∧ w.length ≤ 1000 ∧ H a = some (exo a C none) ∧ ∀ d H', H d = none → d ≠ a → H' = upd (upd H d (exd d [("word", .str w), ("at", .int n)])) a (exo a C (some d)) → Q .non H'
def spNeedInputsX (K : PySem.W.Frag) (TP CB : Addr) : Sp := fun vs H Q E => ∃ (m x : Addr) (b s w c : Int) (xs : List Addr) (ins : List Inp), vs = [.ref m, .ref x] ∧ MachAt K H m b s w c ∧ SqT K H x (xs.map V.ref) ∧ Paired (InpAt K H) xs ins ∧ ins.length ≤ 1000 ∧ (∀ i ∈ ins, i.nm.length ≤ 1000) ∧ GxR.TabG H TP ∧
  (whyIn s ins = none → ∀ H', Tg.SmT TP H H' → Q .non H') ∧ ∀ k, whyIn s ins = some k → OutBad TP CB H E k "input"
def spIsDeedX (K : PySem.W.Frag) : Sp := fun vs H Q _ => ∃ (f a : Addr) (ins : List Inp) (d : RDee), vs = [.ref f, .ref a] ∧ H f = some (.dK (figsD ins)) ∧ RDeeAt K H a d ∧ Q (.bl (rdeeOk ins d)) H
def spNeedDeedsX (K : PySem.W.Frag) (TP CB : Addr) : Sp := fun vs H Q E => ∃ (f x : Addr) (ins : List Inp) (xs : List Addr) (ds : List RDee), vs = [.ref f, .ref x] ∧ H f = some (.dK (figsD ins)) ∧ SqT K H x (xs.map V.ref) ∧ Paired (RDeeAt K H) xs ds ∧ ds.length ≤ 1000 ∧
  ((if ds.length > 40 then some 0 else firstNo (rdeeOk ins) ds 0) = none → ∀ H', Same H H' → Q .non H') ∧ ∀ k, (if ds.length > 40 then some 0 else firstNo (rdeeOk ins) ds 0) = some k → OutBad TP CB H E k "deed"
def spIsSideX (K : PySem.W.Frag) (n : Nat) : Sp := fun vs H Q _ => ∃ (f a : Addr) (ins : List Inp) (p : RSid) (k : Nat), vs = [.ref f, .ref a, .int k] ∧ k ≤ n ∧ H f = some (.dK (figsD ins)) ∧ RSidAt K H a p ∧ Q (.bl (rsidOk ins p k)) H
def spIsClaimX (K : PySem.W.Frag) : Sp := fun vs H Q _ => ∃ (f a : Addr) (ins : List Inp) (c : RCla), vs = [.ref f, .ref a] ∧ H f = some (.dK (figsD ins)) ∧ RClaAt K H a c ∧ Q (.bl (rclaOk ins c)) H
def spNeedClaimsX (K : PySem.W.Frag) (TP CB : Addr) : Sp := fun vs H Q E => ∃ (f x : Addr) (ins : List Inp) (xs : List Addr) (cs : List RCla), vs = [.ref f, .ref x] ∧ H f = some (.dK (figsD ins)) ∧ SqT K H x (xs.map V.ref) ∧ Paired (RClaAt K H) xs cs ∧ cs.length ≤ 1000 ∧
  ((if cs.length > 8 then some 0 else firstNo (rclaOk ins) cs 0) = none → ∀ H', Same H H' → Q .non H') ∧ ∀ k, (if cs.length > 8 then some 0 else firstNo (rclaOk ins) cs 0) = some k → OutBad TP CB H E k "claim"
/-- a handbook, good or not, and what need_book does of it -/
def spNeedBookG (K : PySem.W.Frag) (TP CB : Addr) : Sp := fun vs H Q E => ∃ (m bk : Addr) (b s w c : Int) (R : RBok), vs = [.ref m, .ref bk] ∧ MachAt K H m b s w c ∧ Mach b s w c ∧ RBokAt K H bk R ∧ R.ins.length ≤ 1000 ∧ R.dds.length ≤ 1000 ∧ R.cls.length ≤ 1000 ∧ GxR.TabG H TP ∧
  (whyNot s R = none → ∀ H', Tg.SmT TP H H' → Q .non H') ∧ ∀ k z, whyNot s R = some (k, z) → OutBad TP CB H E k z
def spNeedBookX (K : PySem.W.Frag) (TP CM CB : Addr) : Sp := fun vs H Q E => spNeedBookG K TP CB vs H Q E ∨ ∃ (m : Addr) (x : V), vs = [.ref m, x] ∧ MachBad K H m ∧ E (.ref CM) none H
/-- looked at what is refused -/
def spLookedB (K : PySem.W.Frag) (TP CM CB : Addr) : Sp := fun vs H Q E => (∃ (m bk : Addr) (b s w c : Int) (R : RBok) (k : Nat) (z : Str), vs = [.ref m, .ref bk] ∧ MachAt K H m b s w c ∧ Mach b s w c ∧ RBokAt K H bk R ∧ R.ins.length ≤ 1000 ∧ R.dds.length ≤ 1000 ∧ R.cls.length ≤ 1000 ∧ GxR.TabG H TP ∧ whyNot s R = some (k, z) ∧ OutBad TP CB H E k z) ∨
  ∃ (m : Addr) (x : V), vs = [.ref m, x] ∧ MachBad K H m ∧ E (.ref CM) none H
/-! ### values -/
def rvalD (kv : List (Str × Int)) : List (Key × V) := kv.map fun p => (.inr p.1, .int p.2)
def rvalOf (kv : List (Str × Int)) (n : Str) : Option Int := (kv.find? fun p => decide (p.1 = n)).map (·.2)
theorem rvalD_val (kv : List (Str × Int)) (n : Str) : valV (rvalD kv) (.inr n) = (rvalOf kv n).map V.int := by
  induction kv with
  | nil => rfl
  | cons i r ih =>
    by_cases e : i.1 = n
    · have e2 : ((Sum.inr i.1 : Key)) = .inr n := by rw [e]
      show valV (((Sum.inr i.1 : Key), V.int i.2) :: rvalD r) _ = _
      rw [valV_pos (p := ((Sum.inr i.1 : Key), V.int i.2)) e2]
      unfold rvalOf
      rw [List.find?_cons_of_pos (by simpa using e)]
      rfl
    · have e2 : ¬ ((Sum.inr i.1 : Key)) = .inr n := fun z => e (Sum.inr.inj z)
      show valV (((Sum.inr i.1 : Key), V.int i.2) :: rvalD r) _ = _
      rw [valV_neg (p := ((Sum.inr i.1 : Key), V.int i.2)) e2, ih]
      unfold rvalOf
      rw [List.find?_cons_of_neg (by simpa using e)]
def rvalIn (b : Int) (kv : List (Str × Int)) (i : Inp) : Bool := match rvalOf kv i.nm with
  | some v => decide (i.ls ≤ v) && decide (v < b ^ i.fg.toNat)
  | none => false
def rvalsOk (b : Int) (ins : List Inp) (kv : List (Str × Int)) : Bool := decide (kv.length = ins.length) && ins.all (rvalIn b kv)
def spNeedValuesB (K : PySem.W.Frag) (CV : Addr) : Sp := fun vs H Q E => ∃ (m x v : Addr) (b s w c : Int) (xs : List Addr) (ins : List Inp) (kv : List (Str × Int)), vs = [.ref m, .ref x, .ref v] ∧ MachAt K H m b s w c ∧ Mach b s w c ∧ SqT K H x (xs.map V.ref) ∧ Paired (InpAt K H) xs ins ∧ insOk s ins ∧
  H v = some (.dK (rvalD kv)) ∧ rvalsOk b ins kv = false ∧ E (.ref CV) none H
def spNeedValuesX (K : PySem.W.Frag) (CV : Addr) : Sp := fun vs H Q E => spNeedValues K vs H Q E ∨ spNeedValuesB K CV vs H Q E
def spWorkedX (K : PySem.W.Frag) (TP CM CB CV CS : Addr) : Sp := fun vs H Q E => spWorked K TP CS vs H Q E ∨
  (∃ (m : Addr) (x y : V), vs = [.ref m, x, y] ∧ MachBad K H m ∧ E (.ref CM) none H) ∨
  (∃ (m bk : Addr) (v : V) (b s w c : Int) (R : RBok) (k : Nat) (z : Str), vs = [.ref m, .ref bk, v] ∧ MachAt K H m b s w c ∧ Mach b s w c ∧ RBokAt K H bk R ∧ R.ins.length ≤ 1000 ∧ R.dds.length ≤ 1000 ∧ R.cls.length ≤ 1000 ∧ GxR.TabG H TP ∧ whyNot s R = some (k, z) ∧ OutBad TP CB H E k z) ∨
  ∃ (m bk v : Addr) (b s w c : Int) (B : Bok) (kv : List (Str × Int)), vs = [.ref m, .ref bk, .ref v] ∧ MachAt K H m b s w c ∧ Mach b s w c ∧ BokAt K H bk B ∧ BokOk s B ∧ H v = some (.dK (rvalD kv)) ∧ rvalsOk b B.ins kv = false ∧ GxR.TabG H TP ∧ ∀ H', Tg.SmT TP H H' → E (.ref CV) none H'
end My
namespace Rn
open PySem PySem.Spec L2 RT
theorem w_mk2 {C : Addr} {w : Str} {n : Int} {H1 : Hp} {Q : XK} (h0 : -(2 ^ 64) < n) (h1 : n < 2 ^ 64) (hw : w.length ≤ 1000) (h : ∀ d H', Same H1 H' → H1 d = none → H' d = some (.xd [("word", .str w), ("at", .int n)]) → Q (.ref C) (some d) H') : MkOQ C (My.spInit2 C) [] [.int n, .str w] H1 Q := by
  refine ⟨by simp, fun a ha => ⟨a, n, w, rfl, h0, h1, hw, upd_same, fun d H' hd hda e => ⟨rfl, d, [("word", .str w), ("at", .int n)], ?_, ?_, ?_, ?_⟩⟩⟩
  · rw [e, upd_same]
  · rw [e, upd_ne hda, upd_same]
  · rw [upd_ne hda] at hd
    exact hd
  · rw [upd_ne hda] at hd
    refine h d _ (fun b x hb => ?_) hd upd_same
    have ba : b ≠ a := ne_of_none hb ha
    have bd : b ≠ d := ne_of_none hb hd
    rw [upd_ne bd, del_ne ba, e, upd_ne ba, upd_ne bd, upd_ne ba]
    exact hb
end Rn
set_option Elab.async false
set_option linter.all false
set_option maxRecDepth 100000
set_option maxHeartbeats 4000000
/-! a lambda handed to a def that calls it; other tables stay -/
namespace Lb
open PySem PySem.Spec PyProof.Rows L2
section
variable {X : Cx} {pins : List (Addr × Obj)} {σ : L2.St} {H : Hp} {s : Shared}
theorem smt_put {P c : Addr} {q : Str} {ps qs : Array Value} (hP : H P = some (.tbl ps)) (hn : H c = none) (ht : TriplesOk ps.toList → TriplesOk qs.toList) : Tg.SmT P H (upd (upd H P (.tbl qs)) c (LamX.CodeO c q)) := by
  have hPc := ne_of_none hP hn
  refine ⟨fun b x hb e => ?_, fun rs e => ⟨qs, by rw [upd_ne hPc, upd_same], ?_⟩⟩
  · have h1 : b ≠ P := by
      rcases hb with hb | hb
      · exact hb
      · intro z
        subst z
        rw [hP] at e
        cases e
        exact hb
    rw [upd_ne (ne_of_none e hn), upd_ne h1]
    exact e
  · rw [hP] at e
    cases e
    exact ht
/-- the lambda's function object is made -/
theorem made {P c : Addr} {q : Str} {ag : Arguments} {bd : Expr} {sc : Scope} {ps0 : Pos} {Ex : Value → Shared → Prop} {Qx : Value → Shared → Prop} (J : Inv X pins σ H s) (tb : LamX.TabB X.base X.mg c P) (hcode : X.env.code = .ref c) (hq : X.env.qual ++ "<lambda>" = q) (hT : LamX.TabS H P q)
    (hdef : defaultsOf ag X.env = ([], [])) (hfr : ∀ y ∈ sc.names, y.2 = .free → ∃ c, X.env.cells.lookup y.1 = some c)
    (go : ∀ (f c2 : Addr) (pm cv : Value) (H1 : Hp) (s1 : Shared), Inv X pins σ H1 s1 → Tg.SmT P H H1 → LamX.TabS H1 P q → H1 c2 = some (LamX.CodeO c2 q) → H1 f = none → f ∉ frs X.stack →
      s1.heap.get? f = some (PySem.W.kla_obj "<lambda>" (X.env.qual ++ "<lambda>") ag bd sc (cloFrom X.env.cells sc.names []) pm c2 cv) → Qx (.ref f) s1) : wpAny (model X.prog X.w) X.A (eval (.Lambda ag bd sc ps0) X.env) Qx Ex s := by
  subst hq
  obtain ⟨ps, hP, tri, named⟩ := hT
  have hPs : s.heap.get? P = some { cls := .none, data := .fields ps } := J.hok P _ hP
  have away : ∀ f : Addr, s.heap.objs.size ≤ f → f ∉ frs X.stack := by
    intro f hf hm
    rcases List.mem_cons.mp (J.stkSub _ hm) with z | z
    · exact absurd J.lt (Nat.not_lt.mpr (z ▸ hf))
    · exact J.nofs hf z
  have gl := J.mod.glob.keeps J.bk
  have cd := tb.code.keeps J.bk
  have bm := tb.bm.keeps J.bk
  refine PySem.W.kla_eval hdef ?_
  cases hit : codeAmong ps0 ps.toList with
  | some u =>
    obtain ⟨c2, rfl, hco⟩ := named ps0 u hit
    exact PySem.W.kla_makeFunctionHit (mg := X.mg) (ps := ps) (P := P) (c := c) (closure_ok hfr) J.ok.glob gl hcode cd hPs tri hit bm fun cv g tk kp hz =>
      go _ c2 _ cv H _ (J.kept (t' := tk) fun b o e => Heap.get?_push_of_some _ (kp b o e)) (Tg.SmT.refl H) ⟨ps, hP, tri, named⟩ hco (J.hok.fresh hz) (away _ hz) (Heap.get?_push_size _ rfl)
  | none =>
    refine PySem.W.kla_makeFunction (mg := X.mg) (ps := ps) (P := P) (c := c) (closure_ok hfr) J.ok.glob gl hcode cd hPs tri hit tb.gP bm fun c2 cv g tk kp hge hlt rec hP2 => ?_
    obtain ⟨_, oc, vs, t, e, r1, r2, r3⟩ := rec
    cases e
    have hn : H c2 = none := J.hok.fresh hge
    have hz : s.heap.objs.size ≤ g.objs.size := Nat.le_of_lt (Nat.lt_of_le_of_lt hge hlt)
    have el : (ps ++ #[rawInt ps0.line, rawInt ps0.col, .ref c2]).toList = ps.toList ++ [rawInt ps0.line, rawInt ps0.col, .ref c2] := by simp
    have tri2 : TriplesOk (ps ++ #[rawInt ps0.line, rawInt ps0.col, .ref c2]).toList := by
      rw [el]
      exact PySem.TriplesOk_snoc _ _ _ _ tri
    have K1 := LamX.inv_table (t' := tk) (h' := g.push (PySem.W.kla_obj "<lambda>" (X.env.qual ++ "<lambda>") ag bd sc (cloFrom X.env.cells sc.names []) ((X.mg "__name__").getD .none) c2 cv)) (more := #[rawInt ps0.line, rawInt ps0.col, .ref c2]) J hP
      (fun b o n e => Heap.get?_push_of_some _ (kp b o n e)) (Heap.get?_push_of_some _ hP2) hge ⟨oc, vs, t, Heap.get?_push_of_some _ r1, r2, r3⟩
    have sm := smt_put (q := X.env.qual ++ "<lambda>") (qs := ps ++ #[rawInt ps0.line, rawInt ps0.col, .ref c2]) hP hn fun _ => tri2
    have ne1 : g.objs.size ≠ c2 := fun z => Nat.lt_irrefl _ (z ▸ hlt)
    have ne2 : g.objs.size ≠ P := fun z => Nat.lt_irrefl _ (Nat.lt_of_lt_of_le (Heap.lt_size hPs) (z ▸ hz))
    refine go _ c2 _ cv _ _ K1 sm ⟨_, by rw [upd_ne (ne_of_none hP hn), upd_same], tri2, fun p2 u hu => ?_⟩ upd_same (by rw [upd_ne ne1, upd_ne ne2]; exact J.hok.fresh hz) (away _ hz) (Heap.get?_push_size _ rfl)
    rw [el] at hu
    rcases LamX.among_app _ tri hu with z | z
    · obtain ⟨c0, e1, e2⟩ := named p2 u z
      exact ⟨c0, e1, sm.keep _ _ (.inr (show Tg.NoTab (LamX.CodeO c0 _) from trivial)) e2⟩
    · exact ⟨c2, z, upd_same⟩
end
/-- x() where x holds what was got; tl: the lambda's reading at its maker, W: what is wished of a refusal -/
def tAct (f c2 : Addr) (q : Str) (W : WX) (tl : XK → Hp → VK → Prop) : TE := fun σZ HZ Q => ∃ E : XK, (∀ cls d H', E cls d H' → W cls d σZ H') ∧ σZ[0]? = some (some (.ref f)) ∧ HZ c2 = some (LamX.CodeO c2 q) ∧ tl E HZ Q
section
variable {X : Cx} {pins : List (Addr × Obj)} {σ : L2.St} {H : Hp} {s : Shared}
theorem acts {CXg : CXT} {Eg : XK} {Ng : List Str} {qg : Str} {sg : Scope} {g f c2 : Addr} {cdg pm cv : Value} {ag : Arguments} {bd : Expr} {sc : Scope} {k : Nat} {a : Str} {pn : List (Addr × Obj)} {xe : Value → Shared → Prop} {W : WX} {t : XK → TE} {p1 p2 : Pos}
    (J : Inv X pins σ H s) (L : LamX.LamS X.env.scope sc) (hf : s.heap.get? f = some (PySem.W.kla_obj "<lambda>" (X.env.qual ++ "<lambda>") ag bd sc (cloFrom X.env.cells sc.names []) pm c2 cv)) (hfn : H f = none) (hfr : f ∉ frs X.stack)
    (hb : bindArgs (PySem.W.kla_fn "<lambda>" (X.env.qual ++ "<lambda>") ag bd sc (cloFrom X.env.cells sc.names []) pm (.ref c2) cv) ⟨[], []⟩ = pure []) (tk : Takes ((cxOf CXg X.prog X.w X.K X.mg X.base Ng qg sg g cdg X.A X.stack s H Eg).tr pn xe) W)
    (hr : Room (k + 1) (X.A.deeper (envOfC qg sg s.heap.objs.size g cdg))) (body : ∀ (A : Around) (outer : List Env) (s : Shared) (H : Hp) (E : XK), Room k (A.deeper (LamX.lamEnv X sc s.heap.objs.size f c2)) → PE (LamX.lamCx X A outer s H E sc f c2) bd (t E))
    (hN : Ng[0]? = some a) (hv : Vis sg a) (hd : (a == ("__debug__" : Str)) = false) (hcd : (a == ("__classdict__" : Str)) = false) :
    PE ((cxOf CXg X.prog X.w X.K X.mg X.base Ng qg sg g cdg X.A X.stack s H Eg).tr pn xe) (.Call (.Name a p1) [] [] p2) (tAct f c2 (X.env.qual ++ "<lambda>") W fun E H' Q' => t E σ H' Q') := by
  refine ⟨fun pz sz σz Hz Qz Iz hh => ?_⟩
  obtain ⟨E0, hW, hs, hco, ht⟩ := hh
  refine wpAny_Call_Name_kw (thn ((pe_var (pos := p1) (i := 0) hN hv hd hcd).run pz sz σz Hz (fun v H1 => v = .ref f ∧ H1 = Hz) Iz ⟨.ref f, hs, rfl, rfl⟩) fun u s1 ⟨v, H1, I1, r1, e1, e2⟩ => ?_)
  subst e1 e2
  obtain rfl : u = Value.ref f := r1
  have hf1 := I1.base.keep f _ hf hfn hfr (fun z => nomatch (show f ∈ ([] : List Addr) from z))
  have un : Un (frs X.stack) [] H H1 s.heap s1.heap := I1.base
  obtain ⟨⟨oc, us, tt, hoc, hdc, hvc⟩, _, _⟩ := I1.hok c2 _ hco
  refine PySem.W.callWith_F0 ⟨_, _, _, _, hf1⟩ ?_
  have run : codeAny (model X.prog X.w) (X.A.deeper (envOfC qg sg s.heap.objs.size g cdg)) (.call (.ref f) ⟨[], []⟩) (CR (L2.CX X.prog X.w) (envOfC qg sg s.heap.objs.size g cdg :: X.stack) X.prog X.w H1 s1 Qz E0) s1 := by
    refine PySem.W.kla_callFunE hr.depth hf1 rfl L.co L.gen rfl ⟨c2, oc, us, tt, rfl, hoc, hdc, hvc⟩ ?_
    rw [hb]
    refine wpAny_pure (wpAny_newFunctionEnv (fun y hy => (L.own y hy).2) (fun y hy => absurd hy (by simp)) (fun h3 hns hsb => ⟨I1.nolimit.fresh _ hsb, ?_⟩) L.kind)
    show codeAny _ _ (.expr bd (LamX.lamEnv X sc s1.heap.objs.size f c2)) _ _
    have J3 : Inv (LamX.lamCx X (X.A.deeper (envOfC qg sg s.heap.objs.size g cdg)) (envOfC qg sg s.heap.objs.size g cdg :: X.stack) s1 H1 E0 sc f c2) [] σ H1 { s1 with heap := h3, toks := s1.toks + ([] : List (Str × Value)).length } :=
      LamX.lam_start2 J L I1.env0 hr.hd un hns fun b o e => hsb.extBut b o (Nat.ne_of_lt (Heap.lt_size e)) (Heap.get?_push_of_some _ e)
    refine PySem.W.kla_codeExpr (wpAny_mono ((body _ _ s1 H1 _ (hr.deeper _)).run [] _ _ H1 Qz J3 ht) (fun v s4 hq => ?_) fun e s4 hq => hq)
    obtain ⟨y, H4, J4, rv, q⟩ := hq
    exact ⟨y, H4, J4.os, J4.bare, J4.base, J4.hok, rv, q⟩
  refine wpAny_call (codeAny_mono run fun r s4 hq => ?_)
  cases r with
  | ok fl =>
    cases fl with
    | ret u => exact I1.after hq
    | _ => exact False.elim hq
  | error e => exact tk e s4 (XE.of_call I1 hW hq)
end
/-- the def g at work on a lambda -/
def Gives (P : Program) (w : World) (K : PySem.W.Frag) (mg : Str → Option Value) (base : Heap) (A : Around) (stack : List Env) (k : Nat) (Ng : List Str) (x : Str) (sg : Scope) (g : Addr) (cdg : Value) (bg : List Stmt) (a q : Str) (TT : (XK → Hp → VK → Prop) → Hp → VK → Prop) : Prop :=
  ∀ (f c2 : Addr) (s : Shared) (H : Hp) (Q : VK) (tl : XK → Hp → VK → Prop), Room k (A.deeper (envOfC x sg s.heap.objs.size g cdg)) →
    (∀ (W : WX) (pn : List (Addr × Obj)) (xe : Value → Shared → Prop) (p1 p2 : Pos), Takes ((cxOf L2.CX0 P w K mg base Ng x sg g cdg A stack s H L2.E0).tr pn xe) W →
      PE ((cxOf L2.CX0 P w K mg base Ng x sg g cdg A stack s H L2.E0).tr pn xe) (.Call (.Name a p1) [] [] p2) (tAct f c2 q W tl)) →
    H c2 = some (LamX.CodeO c2 q) → TT tl H Q →
    ∃ t, PSs (cxOf L2.CX0 P w K mg base Ng x sg g cdg A stack s H L2.E0).nox bg t ∧ t { nx := fun _ H' => Q .non H', rt := Q } (L2.start Ng [.ref f]) H
def tLamC (P : Addr) (q : Str) (TT : (XK → Hp → VK → Prop) → Hp → VK → Prop) (t : XK → TE) : TE := fun σ H Q => LamX.TabS H P q ∧ ∀ H1, Tg.SmT P H H1 → LamX.TabS H1 P q → TT (fun E H' Q' => t E σ H' Q') H1 Q
section
variable {X : Cx}
/-- x(lambda: body) -/
theorem pe_lam {TT : (XK → Hp → VK → Prop) → Hp → VK → Prop} {x a q : Str} {st : Stmt} {fd : FuncData} {g c P : Addr} {k : Nat} {Ng : List Str} {ag : Arguments} {bd : Expr} {sc : Scope} {t : XK → TE} {p1 p2 p3 : Pos} (hg : Gl X x) (hm : X.mg x = some (.ref g)) (F : Fun X.K x x st g fd) (hb : Binds X.K fd [a] [])
    (Sg : FnScope Ng [a] (defScope st)) (hNg : Ng[0]? = some a) (hva : Vis (defScope st) a) (hG : ∀ cdg, Gives X.prog X.w X.K X.mg X.base X.A X.stack (k + 1) Ng x (defScope st) g cdg (defBody st) a q TT) (tb : LamX.TabB X.base X.mg c P) (hcode : X.env.code = .ref c) (hq : X.env.qual ++ "<lambda>" = q)
    (hr : Room (k + 2) X.A) (L : LamX.LamS X.env.scope sc) (hdef : defaultsOf ag X.env = ([], [])) (hbind : ∀ (q2 : Str) (cl : List (Str × Addr)) (pm cv ctv : Value), bindArgs (PySem.W.kla_fn "<lambda>" q2 ag bd sc cl pm cv ctv) ⟨[], []⟩ = pure [])
    (hbody : ∀ (A : Around) (outer : List Env) (s : Shared) (H : Hp) (E : XK) (f c2 : Addr), Room k (A.deeper (LamX.lamEnv X sc s.heap.objs.size f c2)) → PE (LamX.lamCx X A outer s H E sc f c2) bd (t E))
    (hdb : (x == ("__debug__" : Str)) = false := by decide) (hd : (a == ("__debug__" : Str)) = false := by decide) (hcd : (a == ("__classdict__" : Str)) = false := by decide) :
    PE X (.Call (.Name x p1) [.Lambda ag bd sc p2] [] p3) (tLamC P q TT t) := by
  refine ⟨fun pins s σ H Q J hh => ?_⟩
  obtain ⟨hT, hh⟩ := hh
  obtain ⟨oc, od, kV, doc, pm, an, cdv, ct, osl, rfl, lk, hcd2⟩ := F.ex
  refine wpAny_Call_Name_kw (ld_glob J hg hm ?_ hdb)
  refine PySem.W.callWith_K (h₀ := X.base) J.ok.mod.kin F.kp ?_ (by rfl) (by rfl)
  show wpAny _ _ (spliced ((false, eval (.Lambda ag bd sc p2) X.env) :: backTo p3 (starEach [] X.env))) _ _ s
  refine Calls.spliced_cons (made J tb hcode hq hT hdef (L.has J.ok) fun f c2 pm2 cv H1 s1 J1 sm T1 hco hfn hfr hf => ?_)
  refine Calls.spliced_nil ⟨J1.kIn, ?_⟩
  subst hq
  have rc : codeAny (model X.prog X.w) X.A (.call (.ref g) ⟨[.ref f], []⟩) (CR L2.CX0 X.stack X.prog X.w H1 s1 Q L2.E0) s1 :=
    LamX.run_ofS (us := [.ref f]) (vs := [.ref f]) (N := Ng) (ps := [a]) lk hcd2 Sg hr J1.env0 (hb s1 [.ref f] J1.kIn rfl) (.cons rfl .nil) rfl fun hr2 => by
      obtain ⟨t2, ht2, hq2⟩ := hG cdv f c2 s1 H1 Q (fun E H' Q' => t E σ H' Q') hr2 (fun W pn xe q1 q2 tk => acts J1 L hf hfn hfr (hbind _ _ _ _ _) tk hr2 (fun A outer s H E hr3 => hbody A outer s H E f c2 hr3) hNg hva hd hcd) hco (hh H1 sm T1)
      exact ⟨t2, ht2.nox, hq2⟩
  refine wpAny_call (codeAny_mono rc fun r s2 hq => ?_)
  cases r with
  | error e => exact (show False from hq).elim
  | ok fl =>
    cases fl with
    | ret u => exact J1.after hq
    | next => exact False.elim hq
    | brk => exact False.elim hq
    | cont => exact False.elim hq
end
end Lb
namespace Tg
open PySem
theorem tab_lam {base : Heap} {mg : Str → Option Value} {c P : Addr} (h : GxR.TabB base mg c P) : LamX.TabB base mg c P := ⟨h.code, h.bm, h.gP⟩
end Tg
namespace My
open PySem PySem.Spec L2 RT Rn
/-- a law, the tables empty -/
def spLawE (K : PySem.W.Frag) (Ps : List Addr) : Sp := fun vs H Q _ => ∃ (a : Addr) (ns : List Int), vs = [.ref a] ∧ SqL K H a (ns.map V.int) ∧ ns.length ≤ 63 ∧ (∀ H', Q (.bl true) H') ∧ ∀ P ∈ Ps, H P = some (.tbl #[])
end My
namespace Rn
open PySem PySem.Spec L2 RT
section
variable {σ : St} {H : Hp} {Q : VK}
theorem w_lam {P : Addr} {q : Str} {TT : (XK → Hp → VK → Prop) → Hp → VK → Prop} {t : XK → TE} (hT : LamX.TabS H P q) (h : ∀ H1, Tg.SmT P H H1 → LamX.TabS H1 P q → TT (fun E H' Q' => t E σ H' Q') H1 Q) : Lb.tLamC P q TT t σ H Q := ⟨hT, h⟩
end
end Rn
set_option Elab.async false
set_option linter.all false
set_option maxRecDepth 100000
set_option maxHeartbeats 4000000
/-! a call of what an expression gives; the words of what a lambda is handed to -/
namespace Lb
open PySem PySem.Spec PyProof.Rows L2
/-- a def that may be called, whatever it is -/
def HeldX (P : Program) (w : World) (K : PySem.W.Frag) (mg : Str → Option Value) (base : Heap) (CX : CXT) (k : Nat) (f : Addr) (sp : Sp) : Prop :=
  ∃ (j : Nat) (fd : FuncData) (ps : List Str), j ≤ k ∧ FnOk P w K mg base CX j f fd ps sp ∧ PySem.W.keepIn K (.ref f) = true ∧ Binds K fd ps []
def tCallE (P : Program) (w : World) (K : PySem.W.Frag) (mg : Str → Option Value) (base : Heap) (CX : CXT) (k : Nat) (E : L2.St → XK) (te : TE) (ta : TA) : TE := fun σ H Q => te σ H fun v H1 => ∃ (f : Addr) (sp : Sp), v = .ref f ∧ HeldX P w K mg base CX k f sp ∧ ta σ H1 fun vs H2 => sp vs H2 Q (E σ)
section
variable {X : Cx} {CX : CXT} {k : Nat} {E : L2.St → XK} {fe e : Expr} {es : List Expr} {pos : Pos} {te : TE} {ta : TA}
theorem pe_callE (hr : Room k X.A) (hf : PE X fe te) (hx : ∀ σ, PassesAt CX X σ (E σ)) (ha : PA X (e :: es) ta) (hc : eval (.Call fe (e :: es) [] pos) X.env = (do callWith pos (← eval fe X.env) [] (backTo pos (starEach (e :: es) X.env)) (backToKw pos (keywordEach [] X.env))) := by rfl)
    (he : starEach (e :: es) X.env = (false, eval e X.env) :: starEach es X.env := by rfl) (hpl : (backTo pos (starEach es X.env)).any (·.1) = false := by rfl) : PE X (.Call fe (e :: es) [] pos) (tCallE X.prog X.w X.K X.mg X.base CX k E te ta) := by
  refine ⟨fun pins s σ H Q I h => ?_⟩
  rw [hc]
  refine wpAny_bind (thn (hf.run pins s σ H _ I h) fun u s1 ⟨v, H1, I1, r1, f, sp, ev, ⟨j, fd, ps, hj, F, hk, hb⟩, q1⟩ => ?_)
  subst ev
  obtain rfl : u = Value.ref f := r1
  exact PySem.W.callWith_K (h₀ := X.base) I1.ok.mod.kin hk (thn (ha.run pos pins s1 σ H1 _ I1 q1) fun us s2 ⟨vs, H2, I2, r2, q2⟩ => ⟨I2.kIn, run_fnS F (hr.mono hj) hb (hx σ) I2 r2 q2⟩) he hpl
end
end Lb
namespace L2
open PySem PySem.Spec PyProof.Rows
theorem pe_bmK {X : Cx} {o e : Expr} {es : List Expr} {to : TE} {t : TA} {name : Str} {p1 p2 : Pos} {T id : String} {r : V → List V → Hp → VK → Prop} (K : PySem.W.Frag) (eK : X.K = K) (pa : PlainAttrs T) (sl : Slot T name id) (ty : typeOf (.builtin id) = pure (.type "method_descriptor")) (hm : MtR X id r) (ho : PE X o to) (ha : PA X (e :: es) t)
    (h1 : attributeBase o name X.env (eval o X.env) = eval o X.env := by rfl) (h2 : ((backTo p2 (starEach (e :: es) X.env)).all (fun x => !x.1) && (backToKw p2 (keywordEach [] X.env)).all (fun x => x.1.isSome) && decide ((e :: es).length + ([] : List Keyword).length + (if ([] : List Keyword).isEmpty then 0 else 1) < 30)) = true := by rfl)
    (h3 : (p1.endLine == p2.line) = true := by rfl) (h4 : starEach (e :: es) X.env = (false, eval e X.env) :: starEach es X.env := by rfl) (h5 : (backTo p2 (starEach es X.env)).any (·.1) = false := by rfl) : PE X (.Call (.Attribute o name p1) (e :: es) [] p2) (tBM K T r to t) := eK ▸ pe_bm pa sl ty hm ho ha h1 h2 h3 h4 h5
theorem pe_bm0K {X : Cx} {o : Expr} {to : TE} {name : Str} {p1 p2 : Pos} {T id : String} {r : V → List V → Hp → VK → Prop} (K : PySem.W.Frag) (eK : X.K = K) (pa : PlainAttrs T) (sl : Slot T name id) (ty : typeOf (.builtin id) = pure (.type "method_descriptor")) (hm : MtR X id r) (ho : PE X o to)
    (h1 : attributeBase o name X.env (eval o X.env) = eval o X.env := by rfl) (h3 : (p1.endLine == p2.line) = true := by rfl) : PE X (.Call (.Attribute o name p1) [] [] p2) (tBM0 K T r to) := eK ▸ pe_bm0 pa sl ty hm ho h1 h3
end L2
namespace Rn
open PySem PySem.Spec L2 RT
theorem k_cntV {X : Cx} (K : PySem.W.Frag) (e : X.K = K) : MtR X "list.count" (rCntV K) := e ▸ mt_countV
theorem k_idx {X : Cx} (K : PySem.W.Frag) (e : X.K = K) : MtR X "list.index" (rIndex K) := e ▸ mt_index
section
variable {σ : St} {H : Hp} {Q : VK}
theorem w_callE {P : Program} {w : World} {K : PySem.W.Frag} {mg : Str → Option Value} {base : Heap} {CX : CXT} {k : Nat} {E : St → XK} {te : TE} {ta : TA}
    (h : te σ H fun v H1 => ∃ (f : Addr) (sp : Sp), v = .ref f ∧ Lb.HeldX P w K mg base CX k f sp ∧ ta σ H1 fun vs H2 => sp vs H2 Q (E σ)) : Lb.tCallE P w K mg base CX k E te ta σ H Q := h
theorem w_act {f c2 : Addr} {q : Str} {W : WX} {tl : XK → Hp → VK → Prop} (E : XK) (hW : ∀ cls d H', E cls d H' → W cls d σ H') (h1 : σ[0]? = some (some (.ref f))) (h2 : H c2 = some (LamX.CodeO c2 q)) (h : tl E H Q) : Lb.tAct f c2 q W tl σ H Q := ⟨E, hW, h1, h2, h⟩
theorem w_cntV {K : PySem.W.Frag} {p : Addr} {ys : List V} {y : V} (hl : SqL K H p ys) (fy : flatV y = true) (fys : ys.all flatV = true) (h : Q (.int (ys.countP (fun z => eqV z y) : Nat)) H) : rCntV K (.ref p) [y] H Q := ⟨p, ys, y, rfl, rfl, hl, fy, fys, h⟩
theorem w_idxV {K : PySem.W.Frag} {p : Addr} {ys : List V} {y z : V} (j : Nat) (hl : SqL K H p ys) (fy : flatV y = true) (fys : ys.all flatV = true) (hz : ys[j]? = some z) (hzy : eqV z y = true) (hno : ∀ (m : Nat) (z' : V), m < j → ys[m]? = some z' → eqV z' y = false) (h : Q (.int (j : Nat)) H) : rIndex K (.ref p) [y] H Q :=
  ⟨p, ys, y, j, z, rfl, rfl, hl, fy, fys, hz, hzy, hno, h⟩
end
end Rn
namespace My
open PySem PySem.Spec L2 RT Rn
def AllM (K : PySem.W.Frag) (H : Hp) (xs : List V) : Prop := ∀ x ∈ xs, ∃ m, x = V.ref m ∧ MachBad K H m
theorem AllM.nil {K : PySem.W.Frag} {H : Hp} : AllM K H [] := fun _ h => nomatch h
theorem AllM.cons {K : PySem.W.Frag} {H : Hp} {m : Addr} {xs : List V} (h : MachBad K H m) (r : AllM K H xs) : AllM K H (V.ref m :: xs) := fun x hx => by
  rcases List.mem_cons.mp hx with e | hx
  · exact ⟨m, e, h⟩
  · exact r x hx
theorem AllM.tn {K : PySem.W.Frag} {A B : Hp} {xs : List V} (h : AllM K A xs) (t : Tn A B) : AllM K B xs := fun x hx => by
  obtain ⟨d, e, k⟩ := h x hx
  exact ⟨d, e, k.tn t⟩
theorem AllM.app {K : PySem.W.Frag} {H : Hp} {xs ys : List V} (h : AllM K H xs) (k : AllM K H ys) : AllM K H (xs ++ ys) := fun x hx => (List.mem_append.mp hx).elim (h x) (k x)
theorem AllM.pick {K : PySem.W.Frag} {H : Hp} {xs : List V} (h : AllM K H xs) {r : Int} (r0 : 0 ≤ r) (r1 : r < (xs.length : Nat)) : ∃ m, atI xs r = some (.ref m) ∧ MachBad K H m := by
  have hl : r.toNat < xs.length := by omega
  have hx : xs[r.toNat]? = some xs[r.toNat] := List.getElem?_eq_getElem hl
  obtain ⟨d, e, k⟩ := h _ (List.mem_of_getElem? hx)
  exact ⟨d, by rw [atI_of r0 hx, e], k⟩
theorem bad4 {K : PySem.W.Frag} {H : Hp} {m : Addr} {b s w c : Int} (h : SqT K H m [.int b, .int s, .int w, .int c]) (n : ¬ (2 ≤ b ∧ b ≤ 12 ∧ 1 ≤ s ∧ s ≤ 6 ∧ s ≤ w ∧ w ≤ 16 ∧ 1 ≤ c ∧ c ≤ 10))
    (hb : -(2 ^ 40) < b ∧ b < 2 ^ 40) (hs : -(2 ^ 40) < s ∧ s < 2 ^ 40) (hw : -(2 ^ 40) < w ∧ w < 2 ^ 40) (hc : -(2 ^ 40) < c ∧ c < 2 ^ 40) : MachBad K H m := by
  refine ⟨[b, s, w, c], h, by simp, ?_, fun x hx => ?_⟩
  · unfold machOk
    refine Bool.eq_false_iff.mpr fun z => n ?_
    simp only [Bool.and_eq_true, decide_eq_true_eq] at z
    omega
  · simp only [List.mem_cons, List.mem_nil_iff, or_false] at hx
    rcases hx with rfl | rfl | rfl | rfl <;> assumption
theorem badN {K : PySem.W.Frag} {H : Hp} {m : Addr} {ms : List Int} (h : SqT K H m (ms.map V.int)) (n : ms.length ≠ 4) (hl : ms.length ≤ 1000) (hx : ∀ x ∈ ms, -(2 ^ 40) < x ∧ x < 2 ^ 40) : MachBad K H m := by
  refine ⟨ms, h, hl, ?_, hx⟩
  match ms, n with
  | [], _ => rfl
  | [_], _ => rfl
  | [_, _], _ => rfl
  | [_, _, _], _ => rfl
  | [_, _, _, _], n => exact absurd rfl n
  | _ :: _ :: _ :: _ :: _ :: _, _ => rfl
/-- a drawn machine that is none -/
def spBadDraw (K : PySem.W.Frag) : Sp := fun vs H Q _ => ∃ (a cl m : Addr) (b s w c : Int), vs = [.ref a, .ref m] ∧ DrawAt H a cl ∧ MachAt K H m b s w c ∧ Mach b s w c ∧ ∀ p H', MachBad K H' p → Drew a cl H H' → Q (.ref p) H'
end My
namespace My
open PySem PySem.Spec L2 RT Rn
/-- each ask of a machine that is none -/
def spAsk (K : PySem.W.Frag) (CM : Addr) : Sp := fun vs H Q E => ∃ (k : Int) (m : Addr), vs = [.int k, .ref m] ∧ 0 ≤ k ∧ k < 13 ∧ MachBad K H m ∧ ∀ H', Same H H' → E (.ref CM) none H'
end My
namespace My
open PySem PySem.Spec L2 RT Rn
/-- what becomes of a refusal that a lambda lets out, by its class -/
def KindT (wds : Value → Str → Prop) : (XK → Hp → VK → Prop) → Hp → VK → Prop := fun tl H Q =>
  tl (fun cls d H' => ∃ w, wds cls w ∧ (d = none ∨ ∃ dd fs, d = some dd ∧ H' dd = some (.xd fs)) ∧ ∀ H'', Same H' H'' → Q (.str w) H'') H (fun _ H' => Q (.str "") H')
def kinds13 (CM CV CB : Addr) : Value → Str → Prop := fun cls w => (cls = .ref CM ∧ w = "machine") ∨ (cls = .ref CV ∧ w = "value") ∨ (cls = .ref CB ∧ w = "book")
end My
namespace Lb
open PySem L2
theorem tabS_smt {H H' : Hp} {P Q : Addr} {q : Str} (h : LamX.TabS H P q) (e : Tg.SmT Q H H') (ne : P ≠ Q) : LamX.TabS H' P q := by
  obtain ⟨ps, h1, h2, h3⟩ := h
  refine ⟨ps, e.keep _ _ (.inl ne) h1, h2, fun p cv hc => ?_⟩
  obtain ⟨c, e1, e2⟩ := h3 p cv hc
  exact ⟨c, e1, e.keep _ _ (.inr trivial) e2⟩
theorem tabS_kp {H H' : Hp} {P a c : Addr} {q : Str} (h : LamX.TabS H P q) (k : Rn.Kp a c H H') (hA : My.DrawAt H a c) : LamX.TabS H' P q := by
  obtain ⟨s, i, cells, ha, hc, _⟩ := hA
  have go : ∀ b o, H b = some o → (∀ xs, o ≠ .lst xs) → H' b = some o := fun b o hb no => k b o hb (fun z => by subst z; rw [ha] at hb; cases hb; exact no _ rfl) (fun z => by subst z; rw [hc] at hb; cases hb; exact no _ rfl)
  obtain ⟨ps, h1, h2, h3⟩ := h
  refine ⟨ps, go _ _ h1 (fun xs z => nomatch z), h2, fun p cv hc => ?_⟩
  obtain ⟨d, e1, e2⟩ := h3 p cv hc
  exact ⟨d, e1, go _ _ e2 (fun xs z => nomatch z)⟩
theorem tabS_drew {H H' : Hp} {P a c : Addr} {q : Str} (h : LamX.TabS H P q) (D : My.Drew a c H H') (hA : My.DrawAt H a c) : LamX.TabS H' P q := tabS_kp h D.kp hA
end Lb
namespace Rn
open PySem PySem.Spec L2 RT
theorem w_neStr {K : PySem.W.Frag} {x y : Str} {H : Hp} {Q : VK} (h : Q (.bl (!decide (x = y))) H) : uNe K (.str x) (.str y) H Q := .inl ⟨rfl, by
  have e : decide (V.str x = V.str y) = decide (x = y) := decide_eq_decide.mpr ⟨V.str.inj, congrArg V.str⟩
  rw [e]
  exact h⟩
end Rn
namespace My
open PySem PySem.Spec L2 RT Rn
/-- values that are none, each a dict of its own -/
def AllW (b : Int) (ins : List Inp) (H : Hp) (xs : List V) : Prop := ∀ x ∈ xs, ∃ d kv, x = V.ref d ∧ H d = some (.dK (rvalD kv)) ∧ rvalsOk b ins kv = false ∧ ∀ p ∈ rvalD kv, valV (rvalD kv) p.1 = some p.2
theorem AllW.nil {b : Int} {ins : List Inp} {H : Hp} : AllW b ins H [] := fun _ h => nomatch h
theorem AllW.cons {b : Int} {ins : List Inp} {H : Hp} {d : Addr} {xs : List V} (kv : List (Str × Int)) (h : H d = some (.dK (rvalD kv))) (n : rvalsOk b ins kv = false) (u : ∀ p ∈ rvalD kv, valV (rvalD kv) p.1 = some p.2) (r : AllW b ins H xs) : AllW b ins H (V.ref d :: xs) := fun x hx => by
  rcases List.mem_cons.mp hx with e | hx
  · exact ⟨d, kv, e, h, n, u⟩
  · exact r x hx
theorem AllW.smt {P : Addr} {b : Int} {ins : List Inp} {A B : Hp} {xs : List V} (h : AllW b ins A xs) (e : Tg.SmT P A B) : AllW b ins B xs := fun x hx => by
  obtain ⟨d, kv, e1, e2, e3⟩ := h x hx
  exact ⟨d, kv, e1, e.d e2, e3⟩
theorem flat_rval (kv : List (Str × Int)) : ∀ p ∈ rvalD kv, flatB p.2 = true := fun p hp => by
  obtain ⟨q, _, rfl⟩ := List.mem_map.mp hp
  rfl
def insND : List Inp := [⟨"n", 1, 1⟩, ⟨"d", 1, 0⟩]
def bokND : Bok := ⟨insND, [.one], []⟩
def rbokND : RBok := ⟨insND, [.bad "fly" []], []⟩
theorem nameOk_n : nameOk "n" = true := by decide +kernel
theorem nameOk_d : nameOk "d" = true := by decide +kernel
theorem insND_ok {s : Int} (h : 1 ≤ s) : insOk s insND := by
  refine ⟨by decide, fun k i e => ?_⟩
  rcases k with _ | _ | k
  · cases e
    have e1 : decide ((1 : Int) ≤ s) = true := decide_eq_true h
    unfold inputOk
    rw [nameOk_n, e1]
    rfl
  · cases e
    have e1 : decide ((1 : Int) ≤ s) = true := decide_eq_true h
    unfold inputOk
    rw [nameOk_d, e1]
    decide +kernel
  · cases e
theorem bokND_ok {s : Int} (h : 1 ≤ s) : BokOk s bokND := ⟨insND_ok h, by decide, fun d hd => by rw [List.mem_singleton.mp hd]; rfl, by decide, fun c hc => nomatch hc⟩
theorem rbokND_why {s : Int} (h : 1 ≤ s) : whyNot s rbokND = some (0, ("deed" : Str)) := by
  have e : whyIn s insND = none := by
    unfold whyIn
    rw [if_neg (by decide)]
    exact firstIn_none fun j i e => by rw [Nat.zero_add]; exact (insND_ok h).2 j i e
  unfold whyNot
  rw [show rbokND.ins = insND from rfl, e]
  rfl
end My
namespace Rn
open PySem PySem.Spec L2 RT
/-- a written dict of texts and numbers -/
def DispQ (p : Addr) (Q : VK) (ps : List (V × V)) (H2 : Hp) : Prop := H2 p = some (.dK []) ∧ ∃ kvs : List (Key × V), ps = kvs.map (fun kv => (kV kv.1, kv.2)) ∧ kvs.length ≤ 15 ∧ Q (.ref p) (upd H2 p (.dK (mergeK [] kvs)))
theorem w_dispQ {trs : List (TE × TE)} {σ : St} {H : Hp} {Q : VK} (h : ∀ p, H p = none → tPairs trs σ (upd H p (.dK [])) (DispQ p Q)) : tDisp trs σ H Q := h
theorem w_dispI {p : Addr} {H : Hp} {Q : VK} {ps : List (V × V)} (hp : H p = none) (kv : List (Str × Int)) (e0 : ps = kv.map fun q => (V.str q.1, V.int q.2)) (e : mergeK [] (My.rvalD kv) = My.rvalD kv) (hn : kv.length ≤ 15) (h : ∀ H', Same H H' → H' p = some (.dK (My.rvalD kv)) → Q (.ref p) H') : DispQ p Q ps (upd H p (.dK [])) := by
  subst e0
  refine ⟨upd_same, My.rvalD kv, ?_, by unfold My.rvalD; rw [List.length_map]; exact hn, ?_⟩
  · unfold My.rvalD
    rw [List.map_map]
    rfl
  · rw [upd_upd, e]
    exact h _ (Same.new hp) upd_same
end Rn
namespace Tg
open PySem PySem.Spec L2 RT Rn
/-- all stays but tables -/
def NT (H H' : Hp) : Prop := ∀ b x, NoTab x → H b = some x → H' b = some x
theorem NT.refl (H : Hp) : NT H H := fun _ _ _ h => h
theorem NT.trans {A B C : Hp} (x : NT A B) (y : NT B C) : NT A C := fun b o n h => y b o n (x b o n h)
theorem SmT.nt {P : Addr} {H H' : Hp} (e : SmT P H H') : NT H H' := fun b x n h => e.keep b x (.inr n) h
theorem _root_.L2.Same.nt {H H' : Hp} (e : Same H H') : NT H H' := fun b x _ h => e b x h
theorem NT.tn {H H' : Hp} (e : NT H H') : Tn H H' := fun a xs h => by
  rcases h with h | ⟨o, h⟩
  · exact .inl (e _ _ trivial h)
  · exact .inr ⟨o, e _ _ trivial h⟩
theorem NT.l {H H' : Hp} (e : NT H H') {b : Addr} {xs : List V} (h : H b = some (.lst xs)) : H' b = some (.lst xs) := e _ _ trivial h
theorem NT.d {H H' : Hp} (e : NT H H') {b : Addr} {xs : List (Key × V)} (h : H b = some (.dK xs)) : H' b = some (.dK xs) := e _ _ trivial h
end Tg
namespace My
open PySem PySem.Spec L2 RT Rn
theorem AllW.nt {b : Int} {ins : List Inp} {A B : Hp} {xs : List V} (h : AllW b ins A xs) (e : Tg.NT A B) : AllW b ins B xs := fun x hx => by
  obtain ⟨d, kv, e1, e2, e3⟩ := h x hx
  exact ⟨d, kv, e1, e.d e2, e3⟩
theorem DrawAt.nt {H H' : Hp} {a c : Addr} (h : DrawAt H a c) (e : Tg.NT H H') : DrawAt H' a c := by
  obtain ⟨s, i, cells, ha, hc, r⟩ := h
  exact ⟨s, i, cells, e.l ha, e.l hc, r⟩
theorem rvalND {b x y : Int} : rvalsOk b insND [("n", x), ("d", y)] = ((decide (1 ≤ x) && decide (x < b ^ 1)) && (decide (0 ≤ y) && decide (y < b ^ 1))) := by
  have e1 : rvalOf [("n", x), ("d", y)] "n" = some x := by rfl
  have e2 : rvalOf [("n", x), ("d", y)] "d" = some y := by rfl
  unfold rvalsOk insND
  rw [List.all_cons, List.all_cons, List.all_nil]
  unfold rvalIn
  rw [e1, e2, Bool.and_true]
  rfl
end My
set_option Elab.async false
set_option linter.all false
set_option maxRecDepth 100000
set_option maxHeartbeats 4000000
/-! drawn handbooks, told more closely; what is wrong with others -/
namespace My
open PySem PySem.Spec L2 RT Rn
def farN : List Str := ["zz", "zx", "zy"]
def NamesZ (ns : List Str) : Prop := NamesOk ns ∧ ∀ n ∈ ns, n ∉ farN
theorem NamesZ.take {ns : List Str} (h : NamesZ ns) (k : Nat) : NamesZ (ns.take k) := ⟨h.1.take k, fun n hn => h.2 n (List.mem_of_mem_take hn)⟩
theorem NamesZ.rot {ns : List Str} (h : NamesZ ns) (k : Nat) : NamesZ (ns.drop k ++ ns.take k) := ⟨h.1.rot k, fun n hn => by
  rcases List.mem_append.mp hn with z | z
  · exact h.2 n (List.mem_of_mem_drop z)
  · exact h.2 n (List.mem_of_mem_take z)⟩
def farB (ns : List Str) : Bool := ns.all fun n => !decide (n ∈ farN)
theorem farB_ok {ns : List Str} (h : farB ns = true) : ∀ n ∈ ns, n ∉ farN := fun n hn => by
  unfold farB at h
  have := List.all_eq_true.mp h n hn
  simpa using this
theorem names_wordZ {r : Int} (r0 : 0 ≤ r) (r1 : r < 7) : NamesZ [cutS "abcdefg" (some r) none, cutS "abcdefg" (some r) none ++ "x", cutS "abcdefg" (some r) none ++ "y", "x" ++ cutS "abcdefg" (some r) none] ∧ (cutS "abcdefg" (some r) none).length ≤ 7 := by
  obtain ⟨h1, h2⟩ := names_word r0 r1
  refine ⟨⟨h1, farB_ok ?_⟩, h2⟩
  rcases (show r = 0 ∨ r = 1 ∨ r = 2 ∨ r = 3 ∨ r = 4 ∨ r = 5 ∨ r = 6 by omega) with rfl | rfl | rfl | rfl | rfl | rfl | rfl <;> decide +kernel
theorem names_ndZ : NamesZ ["n", "d", "nd", "dn"] := ⟨names_nd, farB_ok (by decide +kernel)⟩
def spInputsZ (K : PySem.W.Frag) : Sp := fun vs H Q _ => ∃ (a cl : Addr) (most : Int), vs = [.ref a, .int most] ∧ DrawAt H a cl ∧ 1 ≤ most ∧ most ≤ 6 ∧
  ∀ (li : Addr) (xs : List Addr) (ins : List Inp) (H' : Hp), H li = none → insOk most ins → ins ≠ [] → (∀ n ∈ names ins, n ∉ farN) → InsL K H' li xs ins → Drew a cl H H' → Q (.ref li) H'
def spBookZ (K : PySem.W.Frag) : Sp := fun vs H Q _ => ∃ (a cl : Addr) (most : Int), vs = [.ref a, .int most] ∧ DrawAt H a cl ∧ 1 ≤ most ∧ most ≤ 6 ∧
  ∀ (bk : Addr) (B : Bok) (H' : Hp), BokAt K H' bk B → BokOk most B → B.ins ≠ [] → (∀ n ∈ names B.ins, n ∉ farN) → B.dds.length ≤ 38 → B.cls.length ≤ 7 → Drew a cl H H' → Q (.ref bk) H'
end My
namespace My
open PySem PySem.Spec L2 RT Rn
def spWorkedB (K : PySem.W.Frag) (TP CB : Addr) : Sp := fun vs H Q E => ∃ (m bk : Addr) (v : V) (b s w c : Int) (R : RBok) (k : Nat) (z : Str), vs = [.ref m, .ref bk, v] ∧ MachAt K H m b s w c ∧ Mach b s w c ∧ RBokAt K H bk R ∧ R.ins.length ≤ 1000 ∧ R.dds.length ≤ 1000 ∧ R.cls.length ≤ 1000 ∧ GxR.TabG H TP ∧ whyNot s R = some (k, z) ∧ OutBad TP CB H E k z
/-- asked in each of three ways, what a handbook is refused with -/
def spRefusal (K : PySem.W.Frag) (TP : Addr) : Sp := fun vs H Q _ => ∃ (y : Int) (m bk : Addr) (b s w c : Int) (R : RBok) (k : Nat) (z : Str), vs = [.int y, .ref m, .ref bk] ∧ 0 ≤ y ∧ y < 3 ∧ MachAt K H m b s w c ∧ Mach b s w c ∧ RBokAt K H bk R ∧ R.ins.length ≤ 1000 ∧ R.dds.length ≤ 1000 ∧ R.cls.length ≤ 1000 ∧ GxR.TabG H TP ∧ whyNot s R = some (k, z) ∧
  ∀ p H', Tg.SmT TP H H' → SqT K H' p [.int (k : Nat), .str z] → Q (.ref p) H'
end My
namespace My
open PySem PySem.Spec L2 RT Rn
def sgnOf (k : Nat) : Str := ⟨#[([65, 49, 32, 95] : List Nat).getD k 65]⟩
def spoil (r a : Int) (k : Nat) : Str := (cutS (cutS "qwertyui" (some r) none) none (some a) ++ sgnOf k) ++ cutS (cutS "qwertyui" (some r) none) (some (a + 1)) none
def poor (n : Str) : Bool := !nameOk n && decide (n.length ≤ 20)
theorem spoil_fin : ∀ r : Fin 8, ∀ a : Fin 8, ∀ k : Fin 4, poor (spoil (r.val : Int) (a.val : Int) k.val) = true := by decide +kernel
theorem spoil_poor {r a k : Int} (r0 : 0 ≤ r) (r1 : r < 8) (a0 : 0 ≤ a) (a1 : a < 8) (k0 : 0 ≤ k) (k1 : k < 4) : poor (spoil r a k.toNat) = true := by
  have := spoil_fin ⟨r.toNat, by omega⟩ ⟨a.toNat, by omega⟩ ⟨k.toNat, by omega⟩
  dsimp only at this
  rw [Int.toNat_of_nonneg r0, Int.toNat_of_nonneg a0] at this
  exact this
theorem sgn_at {k : Int} (k0 : 0 ≤ k) (k1 : k < 4) : ∃ c, atI ("A1 _" : Str).cps.toList k = some c ∧ (⟨#[c]⟩ : Str) = sgnOf k.toNat := by
  rcases (show k = 0 ∨ k = 1 ∨ k = 2 ∨ k = 3 by omega) with rfl | rfl | rfl | rfl
  · exact ⟨65, by decide +kernel, rfl⟩
  · exact ⟨49, by decide +kernel, rfl⟩
  · exact ⟨32, by decide +kernel, rfl⟩
  · exact ⟨95, by decide +kernel, rfl⟩
theorem word_len {r : Int} (r0 : 0 ≤ r) (r1 : r < 8) : (((cutS "qwertyui" (some r) none).length : Nat) : Int) = 8 - r := by
  rcases (show r = 0 ∨ r = 1 ∨ r = 2 ∨ r = 3 ∨ r = 4 ∨ r = 5 ∨ r = 6 ∨ r = 7 by omega) with rfl | rfl | rfl | rfl | rfl | rfl | rfl | rfl <;> decide +kernel
theorem pickStr {ns : List Str} {r : Int} (r0 : 0 ≤ r) (r1 : r < (ns.length : Nat)) : ∃ n, atI (ns.map V.str) r = some (.str n) ∧ n ∈ ns := by
  have hl : r.toNat < ns.length := by omega
  have hx : ns[r.toNat]? = some ns[r.toNat] := List.getElem?_eq_getElem hl
  exact ⟨_, atI_of r0 (by rw [List.getElem?_map, hx]; rfl), List.mem_of_getElem? hx⟩
/-- rows that are none behind those names -/
def AllI (K : PySem.W.Frag) (s : Int) (ns : List Str) (H : Hp) (xs : List V) : Prop := ∀ x ∈ xs, ∃ d i, x = V.ref d ∧ InpAt K H d i ∧ inputOk s ns i = false ∧ i.nm.length ≤ 1000
theorem AllI.nil {K : PySem.W.Frag} {s : Int} {ns : List Str} {H : Hp} : AllI K s ns H [] := fun _ h => nomatch h
theorem AllI.cons {K : PySem.W.Frag} {s : Int} {ns : List Str} {H : Hp} {d : Addr} {xs : List V} (i : Inp) (h : InpAt K H d i) (n : inputOk s ns i = false) (l : i.nm.length ≤ 1000) (r : AllI K s ns H xs) : AllI K s ns H (V.ref d :: xs) := fun x hx => by
  rcases List.mem_cons.mp hx with e | hx
  · exact ⟨d, i, e, h, n, l⟩
  · exact r x hx
theorem AllI.tn {K : PySem.W.Frag} {s : Int} {ns : List Str} {A B : Hp} {xs : List V} (h : AllI K s ns A xs) (t : Tn A B) : AllI K s ns B xs := fun x hx => by
  obtain ⟨d, i, e, k, r⟩ := h x hx
  exact ⟨d, i, e, k.tn t, r⟩
theorem AllI.pick {K : PySem.W.Frag} {s : Int} {ns : List Str} {H : Hp} {xs : List V} (h : AllI K s ns H xs) {r : Int} (r0 : 0 ≤ r) (r1 : r < (xs.length : Nat)) : ∃ d i, atI xs r = some (.ref d) ∧ InpAt K H d i ∧ inputOk s ns i = false ∧ i.nm.length ≤ 1000 := by
  have hl : r.toNat < xs.length := by omega
  have hx : xs[r.toNat]? = some xs[r.toNat] := List.getElem?_eq_getElem hl
  obtain ⟨d, i, e, k⟩ := h _ (List.mem_of_getElem? hx)
  exact ⟨d, i, by rw [atI_of r0 hx, e], k⟩
theorem inp_name {s : Int} {ns : List Str} {i : Inp} (h : nameOk i.nm = false) : inputOk s ns i = false := by
  unfold inputOk
  rw [h]
  simp
theorem inp_twice {s : Int} {ns : List Str} {i : Inp} (h : i.nm ∈ ns) : inputOk s ns i = false := by
  unfold inputOk
  rw [decide_eq_true h]
  simp
theorem inp_figs {s : Int} {ns : List Str} {i : Inp} (h : ¬ (1 ≤ i.fg ∧ i.fg ≤ s)) : inputOk s ns i = false := by
  refine Bool.eq_false_iff.mpr fun z => h ?_
  unfold inputOk at z
  simp only [Bool.and_eq_true, decide_eq_true_eq] at z
  exact ⟨z.1.1.2, z.1.2⟩
theorem inp_least {s : Int} {ns : List Str} {i : Inp} (h : ¬ (i.ls = 0 ∨ i.ls = 1)) : inputOk s ns i = false := by
  refine Bool.eq_false_iff.mpr fun z => h ?_
  unfold inputOk at z
  simp only [Bool.and_eq_true, decide_eq_true_eq] at z
  exact z.2
def spBadInput (K : PySem.W.Frag) : Sp := fun vs H Q _ => ∃ (a cl m li : Addr) (b s w c : Int) (xs : List Addr) (ins : List Inp), vs = [.ref a, .ref m, .ref li] ∧ DrawAt H a cl ∧ MachAt K H m b s w c ∧ Mach b s w c ∧ SqT K H li (xs.map V.ref) ∧ Paired (InpAt K H) xs ins ∧ ins ≠ [] ∧ (∀ i ∈ ins, i.nm.length ≤ 1000) ∧
  ∀ d i H', InpAt K H' d i → inputOk s (names ins) i = false → i.nm.length ≤ 1000 → Drew a cl H H' → Q (.ref d) H'
end My
namespace Rn
open PySem PySem.Spec L2 RT
theorem w_ixS {K : PySem.W.Frag} {H : Hp} {Q : VK} {z : Str} {i : Int} {c : Nat} (hz : z.length ≤ 100000) (h1 : atI z.cps.toList i = some c) (h : Q (.str ⟨#[c]⟩) H) : rIx K (.str z) (.int i) H Q := .inr (.inr ⟨z, i, c, rfl, rfl, Nat.le_trans hz (by decide), h1, h⟩)
end Rn
namespace My
open PySem PySem.Spec L2 RT Rn
/-- deeds that are none -/
def AllR (K : PySem.W.Frag) (ins : List Inp) (H : Hp) (xs : List V) : Prop := ∀ x ∈ xs, ∃ d rd, x = V.ref d ∧ RDeeAt K H d rd ∧ rdeeOk ins rd = false
theorem AllR.nil {K : PySem.W.Frag} {ins : List Inp} {H : Hp} : AllR K ins H [] := fun _ h => nomatch h
theorem AllR.snoc {K : PySem.W.Frag} {ins : List Inp} {A B : Hp} {d : Addr} {xs : List V} (h : AllR K ins A xs) (s : Same A B) (rd : RDee) (e : RDeeAt K B d rd) (n : rdeeOk ins rd = false) : AllR K ins B (xs ++ [V.ref d]) := fun x hx => by
  rcases List.mem_append.mp hx with hx | hx
  · obtain ⟨d, r, e1, k, z⟩ := h x hx
    exact ⟨d, r, e1, k.tn s.tn, z⟩
  · rw [List.mem_singleton.mp hx]
    exact ⟨d, rd, rfl, e, n⟩
theorem AllR.tn {K : PySem.W.Frag} {ins : List Inp} {A B : Hp} {xs : List V} (h : AllR K ins A xs) (t : Tn A B) : AllR K ins B xs := fun x hx => by
  obtain ⟨d, i, e, k, r⟩ := h x hx
  exact ⟨d, i, e, k.tn t, r⟩
theorem AllR.app {K : PySem.W.Frag} {ins : List Inp} {H : Hp} {xs ys : List V} (h : AllR K ins H xs) (k : AllR K ins H ys) : AllR K ins H (xs ++ ys) := fun x hx => (List.mem_append.mp hx).elim (h x) (k x)
theorem AllR.pick {K : PySem.W.Frag} {ins : List Inp} {H : Hp} {xs : List V} (h : AllR K ins H xs) {r : Int} (r0 : 0 ≤ r) (r1 : r < (xs.length : Nat)) : ∃ d rd, atI xs r = some (.ref d) ∧ RDeeAt K H d rd ∧ rdeeOk ins rd = false := by
  have hl : r.toNat < xs.length := by omega
  have hx : xs[r.toNat]? = some xs[r.toNat] := List.getElem?_eq_getElem hl
  obtain ⟨d, i, e, k⟩ := h _ (List.mem_of_getElem? hx)
  exact ⟨d, i, by rw [atI_of r0 hx, e], k⟩
theorem no_load {ins : List Inp} {n : Str} (h : n ∉ names ins) : rdeeOk ins (.ok (.load n)) = false := by
  show (figsOf ins n).isSome = false
  rw [figsOf_none h]
  rfl
theorem no_turns {ins : List Inp} {n : Str} {k x y : Int} (h : ∀ f, figsOf ins n = some f → (decide (0 ≤ k) && decide (k < f) && wayOk x && tallyOk y) = false) : rdeeOk ins (.ok (.turns n k x y)) = false := by
  show (match figsOf ins n with
    | some f => decide (0 ≤ k) && decide (k < f) && wayOk x && tallyOk y
    | none => false) = false
  cases e : figsOf ins n with
  | none => rfl
  | some f => exact h f e
def spBadDeed (K : PySem.W.Frag) : Sp := fun vs H Q _ => ∃ (a cl li : Addr) (s : Int) (xs : List Addr) (ins : List Inp), vs = [.ref a, .ref li] ∧ DrawAt H a cl ∧ SqT K H li (xs.map V.ref) ∧ Paired (InpAt K H) xs ins ∧ ins ≠ [] ∧ insOk s ins ∧ s ≤ 6 ∧ (∀ n ∈ names ins, n ∉ farN) ∧
  ∀ d rd H', RDeeAt K H' d rd → rdeeOk ins rd = false → Drew a cl H H' → Q (.ref d) H'
end My
namespace My
open PySem PySem.Spec L2 RT Rn
/-- sides that are none -/
def AllT (K : PySem.W.Frag) (ins : List Inp) (H : Hp) (xs : List V) : Prop := ∀ x ∈ xs, ∃ d p, x = V.ref d ∧ RSidAt K H d p ∧ rsidOk ins p 4 = false
theorem AllT.nil {K : PySem.W.Frag} {ins : List Inp} {H : Hp} : AllT K ins H [] := fun _ h => nomatch h
theorem AllT.snoc {K : PySem.W.Frag} {ins : List Inp} {A B : Hp} {d : Addr} {xs : List V} (h : AllT K ins A xs) (s : Same A B) (p : RSid) (e : RSidAt K B d p) (n : rsidOk ins p 4 = false) : AllT K ins B (xs ++ [V.ref d]) := fun x hx => by
  rcases List.mem_append.mp hx with hx | hx
  · obtain ⟨d, r, e1, k, z⟩ := h x hx
    exact ⟨d, r, e1, k.tn s.tn, z⟩
  · rw [List.mem_singleton.mp hx]
    exact ⟨d, p, rfl, e, n⟩
theorem AllT.tn {K : PySem.W.Frag} {ins : List Inp} {A B : Hp} {xs : List V} (h : AllT K ins A xs) (t : Tn A B) : AllT K ins B xs := fun x hx => by
  obtain ⟨d, i, e, k, r⟩ := h x hx
  exact ⟨d, i, e, k.tn t, r⟩
theorem AllT.app {K : PySem.W.Frag} {ins : List Inp} {H : Hp} {xs ys : List V} (h : AllT K ins H xs) (k : AllT K ins H ys) : AllT K ins H (xs ++ ys) := fun x hx => (List.mem_append.mp hx).elim (h x) (k x)
theorem AllT.pick {K : PySem.W.Frag} {ins : List Inp} {H : Hp} {xs : List V} (h : AllT K ins H xs) {r : Int} (r0 : 0 ≤ r) (r1 : r < (xs.length : Nat)) : ∃ d p, atI xs r = some (.ref d) ∧ RSidAt K H d p ∧ rsidOk ins p 4 = false := by
  have hl : r.toNat < xs.length := by omega
  have hx : xs[r.toNat]? = some xs[r.toNat] := List.getElem?_eq_getElem hl
  obtain ⟨d, i, e, k⟩ := h _ (List.mem_of_getElem? hx)
  exact ⟨d, i, by rw [atI_of r0 hx, e], k⟩
def spBadSide (K : PySem.W.Frag) : Sp := fun vs H Q _ => ∃ (a cl g : Addr) (ins : List Inp), vs = [.ref a, .ref g] ∧ DrawAt H a cl ∧ RSidAt K H g .wheels ∧ (∀ n ∈ names ins, n ∉ farN) ∧
  ∀ d p H', RSidAt K H' d p → rsidOk ins p 4 = false → Drew a cl H H' → Q (.ref d) H'
end My
namespace My
open PySem PySem.Spec L2 RT Rn
theorem insOk_take {s : Int} {ins : List Inp} (h : insOk s ins) (n : Nat) : insOk s (ins.take n) := by
  refine ⟨by rw [List.length_take]; have := h.1; omega, fun k i e => ?_⟩
  rw [List.getElem?_take] at e
  by_cases g : k < n
  · rw [if_pos g] at e
    have := h.2 k i e
    unfold names at this ⊢
    rw [← List.map_take] at this ⊢
    rw [List.take_take, Nat.min_eq_left (by omega)]
    exact this
  · rw [if_neg g] at e
    cases e
theorem insOk_snoc {s : Int} {ins : List Inp} {x : Inp} (h : insOk s ins) (h3 : ins.length ≤ 3) (hx : inputOk s (names ins) x = true) : insOk s (ins ++ [x]) := by
  refine ⟨by rw [List.length_append]; simp; omega, fun k i e => ?_⟩
  have hn : names (ins ++ [x]) = names ins ++ [x.nm] := by simp [names]
  have hl : (names ins).length = ins.length := by simp [names]
  rw [hn]
  by_cases g : k < ins.length
  · rw [List.getElem?_append_left g] at e
    rw [List.take_append_of_le_length (by omega)]
    exact h.2 k i e
  · rw [List.getElem?_append_right (by omega)] at e
    have g2 : k = ins.length := by
      have := (List.getElem?_eq_some_iff.mp e).1
      simp at this
      omega
    subst g2
    rw [Nat.sub_self] at e
    cases e
    rw [List.take_append_of_le_length (by omega), List.take_of_length_le (by omega)]
    exact hx
def zx : Inp := ⟨"zx", 1, 0⟩
def zy : Inp := ⟨"zy", 1, 0⟩
theorem zx_ok {s : Int} (s1 : 1 ≤ s) {ns : List Str} (h : ("zx" : Str) ∉ ns) : inputOk s ns zx = true := by
  have e : nameOk ("zx" : Str) = true := by decide +kernel
  unfold inputOk zx
  dsimp only
  rw [decide_eq_false h, e, decide_eq_true s1]
  decide
theorem zy_ok {s : Int} (s1 : 1 ≤ s) {ns : List Str} (h : ("zy" : Str) ∉ ns) : inputOk s ns zy = true := by
  have e : nameOk ("zy" : Str) = true := by decide +kernel
  unfold inputOk zy
  dsimp only
  rw [decide_eq_false h, e, decide_eq_true s1]
  decide
theorem ins3_ok {s : Int} (s1 : 1 ≤ s) {ins : List Inp} (h : insOk s ins) (far : ∀ n ∈ names ins, n ∉ farN) : insOk s ((ins ++ [zx, zy]).take 3) := by
  have hx : ("zx" : Str) ∉ names ins := fun z => far _ z (by decide +kernel)
  have hy : ("zy" : Str) ∉ names ins := fun z => far _ z (by decide +kernel)
  by_cases g3 : 3 ≤ ins.length
  · rw [List.take_append_of_le_length g3]
    exact insOk_take h 3
  · have h1 := insOk_snoc h (by omega) (zx_ok s1 hx)
    by_cases g2 : ins.length = 2
    · have e : (ins ++ [zx, zy]).take 3 = ins ++ [zx] := by
        rw [List.take_append, g2, List.take_of_length_le (by omega)]
        rfl
      rw [e]
      exact h1
    · have e : (ins ++ [zx, zy]).take 3 = (ins ++ [zx] ++ [zy]).take 3 := by simp
      rw [e]
      refine insOk_take (insOk_snoc h1 (by simp; omega) (zy_ok s1 fun z => ?_)) 3
      have hn : names (ins ++ [zx]) = names ins ++ [("zx" : Str)] := by simp [names, zx]
      rw [hn] at z
      rcases List.mem_append.mp z with z | z
      · exact hy z
      · exact absurd (List.mem_singleton.mp z) (by decide +kernel)
theorem firstIn_at {s : Int} {all : List Inp} {x : Inp} : ∀ {xs zs : List Inp} {k : Nat}, (∀ (j : Nat) (i : Inp), xs[j]? = some i → inputOk s ((names all).take (k + j)) i = true) → inputOk s ((names all).take (k + xs.length)) x = false → firstIn s all (xs ++ x :: zs) k = some (k + xs.length)
  | [], zs, k, _, h => by
    show firstIn s all (x :: zs) k = _
    unfold firstIn
    rw [if_neg (by rw [show (names all).take k = (names all).take (k + ([] : List Inp).length) from rfl, h]; exact Bool.false_ne_true)]
    rfl
  | y :: r, zs, k, h1, h2 => by
    show firstIn s all (y :: (r ++ x :: zs)) k = _
    unfold firstIn
    rw [if_pos (show inputOk s ((names all).take k) y = true from h1 0 y rfl)]
    rw [firstIn_at (k := k + 1) (fun j i e => by rw [show k + 1 + j = k + (j + 1) by omega]; exact h1 (j + 1) i e) (by rw [show k + 1 + r.length = k + (y :: r).length by simp; omega]; exact h2)]
    simp
    omega
theorem whyIn_bad {s : Int} {ins : List Inp} {x : Inp} (h : insOk s ins) (h3 : ins.length ≤ 3) (hx : inputOk s (names ins) x = false) : whyIn s (ins ++ [x]) = some ins.length := by
  have hn : names (ins ++ [x]) = names ins ++ [x.nm] := by simp [names]
  have hl : (names ins).length = ins.length := by simp [names]
  unfold whyIn
  rw [if_neg (by rw [List.length_append]; simp; omega)]
  have a1 : ∀ (j : Nat) (i : Inp), ins[j]? = some i → inputOk s ((names (ins ++ [x])).take (0 + j)) i = true := fun j i e => by
    have := (List.getElem?_eq_some_iff.mp e).1
    rw [hn, Nat.zero_add, List.take_append_of_le_length (by omega)]
    exact h.2 j i e
  have a2 : inputOk s ((names (ins ++ [x])).take (0 + ins.length)) x = false := by
    rw [hn, Nat.zero_add, List.take_append_of_le_length (by omega), List.take_of_length_le (by omega)]
    exact hx
  rw [firstIn_at (k := 0) a1 a2, Nat.zero_add]
theorem firstNo_at {α : Type} {ok : α → Bool} {x : α} : ∀ {xs zs : List α} {k : Nat}, (∀ y ∈ xs, ok y = true) → ok x = false → firstNo ok (xs ++ x :: zs) k = some (k + xs.length)
  | [], zs, k, _, h => by
    show firstNo ok (x :: zs) k = _
    unfold firstNo
    rw [if_neg (by rw [h]; exact Bool.false_ne_true)]
    rfl
  | y :: r, zs, k, h1, h2 => by
    show firstNo ok (y :: (r ++ x :: zs)) k = _
    unfold firstNo
    rw [if_pos (h1 y List.mem_cons_self), firstNo_at (fun z hz => h1 z (List.mem_cons_of_mem _ hz)) h2]
    simp
    omega
theorem whyIn_good {s : Int} {ins : List Inp} (h : insOk s ins) : whyIn s ins = none := by
  unfold whyIn
  rw [if_neg (by have := h.1; omega)]
  exact firstIn_none fun j i e => by rw [Nat.zero_add]; exact h.2 j i e
theorem why_deed {s : Int} {R : RBok} {k : Nat} (h : insOk s R.ins) (h2 : (if R.dds.length > 40 then some 0 else firstNo (rdeeOk R.ins) R.dds 0) = some k) : whyNot s R = some (k, ("deed" : Str)) := by
  unfold whyNot
  rw [whyIn_good h]
  dsimp only
  rw [h2]
theorem why_claim {s : Int} {R : RBok} {k : Nat} (h : insOk s R.ins) (h1 : R.dds.length ≤ 40) (h2 : ∀ d ∈ R.dds, rdeeOk R.ins d = true) (h3 : (if R.cls.length > 8 then some 0 else firstNo (rclaOk R.ins) R.cls 0) = some k) : whyNot s R = some (k, ("claim" : Str)) := by
  unfold whyNot
  rw [whyIn_good h]
  dsimp only
  rw [if_neg (by omega), firstNo_none h2]
  dsimp only
  rw [h3]
theorem why_input {s : Int} {R : RBok} {k : Nat} (h : whyIn s R.ins = some k) : whyNot s R = some (k, ("input" : Str)) := by
  unfold whyNot
  rw [h]
theorem paired_take {α β : Type} {R : α → β → Prop} : ∀ {xs : List α} {us : List β} (n : Nat), Paired R xs us → Paired R (xs.take n) (us.take n)
  | _, _, 0, _ => .nil
  | _, _, n + 1, .nil => .nil
  | _, _, n + 1, .cons a t => .cons a (paired_take n t)
theorem paired_drop {α β : Type} {R : α → β → Prop} : ∀ {xs : List α} {us : List β} (n : Nat), Paired R xs us → Paired R (xs.drop n) (us.drop n)
  | _, _, 0, h => h
  | _, _, n + 1, .nil => .nil
  | _, _, n + 1, .cons a t => paired_drop n t
def spWrong (K : PySem.W.Frag) : Sp := fun vs H Q _ => ∃ (a cl m bk : Addr) (b s w c : Int) (B : Bok), vs = [.ref a, .ref m, .ref bk] ∧ DrawAt H a cl ∧ MachAt K H m b s w c ∧ Mach b s w c ∧ BokAt K H bk B ∧ BokOk s B ∧ B.ins ≠ [] ∧ (∀ n ∈ names B.ins, n ∉ farN) ∧ B.dds.length ≤ 38 ∧ B.cls.length ≤ 7 ∧
  ∀ (p b2 : Addr) (R : RBok) (k : Nat) (z : Str) (H' : Hp), RBokAt K H' b2 R → R.ins.length ≤ 1000 → R.dds.length ≤ 1000 → R.cls.length ≤ 1000 → whyNot s R = some (k, z) → Drew a cl H H' → SqT K H' p [.ref b2, .int (k : Nat), .str z] → Q (.ref p) H'
end My
namespace My
open PySem PySem.Spec L2 RT Rn
def inp5 : List Inp := ([97, 98, 99, 100, 101] : List Nat).map fun c => ⟨⟨#[c]⟩, 1, 0⟩
theorem inp5_len : ∀ i ∈ inp5, i.nm.length ≤ 1000 := by
  intro i hi
  obtain ⟨c, _, rfl⟩ := List.mem_map.mp hi
  show (1 : Nat) ≤ 1000
  decide
theorem abc_at {i : Nat} (h : i < 5) : ∃ c, atI ("abcde" : Str).cps.toList (i : Nat) = some c ∧ inp5[i]? = some ⟨⟨#[c]⟩, 1, 0⟩ := by
  rcases (show i = 0 ∨ i = 1 ∨ i = 2 ∨ i = 3 ∨ i = 4 by omega) with rfl | rfl | rfl | rfl | rfl
  · exact ⟨97, by decide +kernel, rfl⟩
  · exact ⟨98, by decide +kernel, rfl⟩
  · exact ⟨99, by decide +kernel, rfl⟩
  · exact ⟨100, by decide +kernel, rfl⟩
  · exact ⟨101, by decide +kernel, rfl⟩
end My
namespace My
open PySem PySem.Spec L2 RT Rn
theorem pI {K : PySem.W.Frag} {A B : Hp} {xs : List Addr} {us : List Inp} (h : Paired (InpAt K A) xs us) (e : Tn A B) : Paired (InpAt K B) xs us := paired_imp (fun _ _ h => InpAt.tn h e) h
theorem pD {K : PySem.W.Frag} {A B : Hp} {xs : List Addr} {us : List RDee} (h : Paired (RDeeAt K A) xs us) (e : Tn A B) : Paired (RDeeAt K B) xs us := paired_imp (fun _ _ h => RDeeAt.tn h e) h
theorem pC {K : PySem.W.Frag} {A B : Hp} {xs : List Addr} {us : List RCla} (h : Paired (RClaAt K A) xs us) (e : Tn A B) : Paired (RClaAt K B) xs us := paired_imp (fun _ _ h => RClaAt.tn h e) h
end My
namespace My
open PySem PySem.Spec L2 RT Rn
/-- claims that are none -/
def AllX (K : PySem.W.Frag) (ins : List Inp) (H : Hp) (xs : List V) : Prop := ∀ x ∈ xs, ∃ d c, x = V.ref d ∧ RClaAt K H d c ∧ rclaOk ins c = false
theorem AllX.nil {K : PySem.W.Frag} {ins : List Inp} {H : Hp} : AllX K ins H [] := fun _ h => nomatch h
theorem AllX.cons {K : PySem.W.Frag} {ins : List Inp} {H : Hp} {d : Addr} {xs : List V} (c : RCla) (h : RClaAt K H d c) (n : rclaOk ins c = false) (r : AllX K ins H xs) : AllX K ins H (V.ref d :: xs) := fun x hx => by
  rcases List.mem_cons.mp hx with e | hx
  · exact ⟨d, c, e, h, n⟩
  · exact r x hx
theorem AllX.tn {K : PySem.W.Frag} {ins : List Inp} {A B : Hp} {xs : List V} (h : AllX K ins A xs) (t : Tn A B) : AllX K ins B xs := fun x hx => by
  obtain ⟨d, i, e, k, r⟩ := h x hx
  exact ⟨d, i, e, k.tn t, r⟩
theorem AllX.pick {K : PySem.W.Frag} {ins : List Inp} {H : Hp} {xs : List V} (h : AllX K ins H xs) {r : Int} (r0 : 0 ≤ r) (r1 : r < (xs.length : Nat)) : ∃ d c, atI xs r = some (.ref d) ∧ RClaAt K H d c ∧ rclaOk ins c = false := by
  have hl : r.toNat < xs.length := by omega
  have hx : xs[r.toNat]? = some xs[r.toNat] := List.getElem?_eq_getElem hl
  obtain ⟨d, i, e, k⟩ := h _ (List.mem_of_getElem? hx)
  exact ⟨d, i, by rw [atI_of r0 hx, e], k⟩
end My
namespace My
open PySem PySem.Spec L2 RT Rn
theorem ins_fg {s : Int} {ins : List Inp} (h : insOk s ins) {i : Inp} (hi : i ∈ ins) : 1 ≤ i.fg ∧ i.fg ≤ s := by
  obtain ⟨k, hk⟩ := List.getElem?_of_mem hi
  have := h.2 k i hk
  unfold inputOk at this
  simp only [Bool.and_eq_true, decide_eq_true_eq] at this
  exact ⟨this.1.1.2, this.1.2⟩
/-- a great handbook, its bounds just met -/
def nm8 (k : Nat) : Str := cutS "abcdefgh" (some (k : Int)) none
def ins8 (s : Int) (n : Nat) : List Inp := (List.range n).map fun k => ⟨nm8 k, s, (k : Int) % 2⟩
theorem ins8_succ (s : Int) (n : Nat) : ins8 s (n + 1) = ins8 s n ++ [⟨nm8 n, s, (n : Int) % 2⟩] := by
  unfold ins8
  rw [List.range_succ, List.map_append]
  rfl
theorem ins8_ok {s : Int} (h : 1 ≤ s) : insOk s (ins8 s 4) := by
  have e : names (ins8 s 4) = [nm8 0, nm8 1, nm8 2, nm8 3] := rfl
  refine ins_of (by rw [e]; exact namesB_ok (by decide +kernel)) (show (4 : Nat) ≤ 4 by decide) fun i hi => ?_
  obtain ⟨k, hk, rfl⟩ := List.mem_map.mp hi
  have := List.mem_range.mp hk
  refine ⟨h, Int.le_refl _, ?_⟩
  show (k : Int) % 2 = 0 ∨ (k : Int) % 2 = 1
  omega
def deep8 : RSid := .add (.add (.add (.num 0) .wheels) (.num (10 ^ 9))) .counts
def great8 (s : Int) : RBok := ⟨ins8 s 4, List.replicate 40 (.ok .one), List.replicate 8 (.two "less" deep8 deep8)⟩
theorem great8_why {s : Int} (h : 1 ≤ s) : whyNot s (great8 s) = none := by
  have e2 : (if (great8 s).dds.length > 40 then some 0 else firstNo (rdeeOk (great8 s).ins) (great8 s).dds 0) = none := by
    rw [if_neg (by show ¬ (List.replicate 40 (RDee.ok .one)).length > 40; rw [List.length_replicate]; omega)]
    exact firstNo_none fun d hd => by rw [(List.mem_replicate.mp hd).2]; rfl
  have e3 : (if (great8 s).cls.length > 8 then some 0 else firstNo (rclaOk (great8 s).ins) (great8 s).cls 0) = none := by
    rw [if_neg (by show ¬ (List.replicate 8 (RCla.two "less" deep8 deep8)).length > 8; rw [List.length_replicate]; omega)]
    refine firstNo_none fun d hd => ?_
    rw [(List.mem_replicate.mp hd).2]
    show (decide (("less" : Str) ∈ (["same", "less"] : List Str)) && rsidOk (great8 s).ins deep8 4 && rsidOk (great8 s).ins deep8 4) = true
    rw [show decide (("less" : Str) ∈ (["same", "less"] : List Str)) = true by decide +kernel]
    rfl
  unfold whyNot
  rw [show (great8 s).ins = ins8 s 4 from rfl, whyIn_good (ins8_ok h)]
  dsimp only
  rw [show (great8 s).ins = ins8 s 4 from rfl] at e2 e3
  rw [e2]
  dsimp only
  rw [e3]
end My
namespace Rn
open PySem PySem.Spec L2 RT
theorem lq_tupG {K : PySem.W.Frag} {σ : St} {H : Hp} {Q : VK} {te : TE} {a : Addr} {xs : List V} {g : TG} {tt : TT} {vs : List Nat} (Pv : Addr → Nat → Hp → Prop) (h0 : ∀ D H1, H D = none → Same H H1 → H1 D = some (.lst []) → Pv D 0 H1) (hl : ∀ D i H1, i ≤ xs.length → Pv D i H1 → SqT K H1 a xs)
    (hs : ∀ D i x H1, H D = none → xs[i]? = some x → Pv D i H1 → g x (wipe σ vs) H1 fun σ2 H2 => wipe σ2 vs = wipe σ vs ∧ tt σ2 H2 fun b H3 => if b = true then te σ2 H3 (Put D (Pv D (i + 1))) else Pv D (i + 1) H3)
    (hd : ∀ D H1, H D = none → Pv D xs.length H1 → Q (.ref D) H1) : Lq (Itt K a) g tt te vs σ H Q := fun D hD =>
  lc_tup (Pv D) (h0 D _ hD (Same.new hD) upd_same) (fun i H1 hi p => hl D i H1 hi p) (fun i x H1 hx p => hs D i x H1 hD hx p) (fun H1 p => hd D H1 hD p)
end Rn
namespace Rn
open PySem PySem.Spec L2 RT
theorem lays.str {z : Str} (h : PyData.strOk z = true) : lays (.str z) 1 := by unfold lays; simp [PyData.canLay0, PyData.depth, h]
end Rn
namespace My
open PySem
theorem why_word {s : Int} {R : RBok} {k : Nat} {z : Str} (h : whyNot s R = some (k, z)) : PyData.strOk z = true := by
  have e1 : PyData.strOk ("input" : Str) = true := by decide +kernel
  have e2 : PyData.strOk ("deed" : Str) = true := by decide +kernel
  have e3 : PyData.strOk ("claim" : Str) = true := by decide +kernel
  unfold whyNot at h
  split at h
  · cases h
    exact e1
  · split at h
    · cases h
      exact e2
    · split at h
      · cases h
        exact e3
      · cases h
end My
set_option Elab.async false
set_option linter.all false
set_option maxRecDepth 100000
set_option maxHeartbeats 4000000
/-! dicts whose keys are tuples: stored into by a comprehension or a display, walked by their pairs, compared -/
namespace Td
open PySem PySem.Spec PyProof.Rows L2
section
variable {X : Cx} {pins : List (Addr × Obj)} {σ : L2.St} {H : Hp} {s : Shared}
/-- d[k] = v where k is the tuple at b -/
theorem putT {E : Value → Shared → Prop} {D b : Addr} {kvs : List (List Key × V)} {k : List Key} {v : V} {r : Value} {Q : Unit → Shared → Prop} (hu : X.A.units + 1 < cLine) (J : Inv X pins σ H s) (hD : H D = some (.dT kvs)) (hb : H b = some (.tup (k.map kV))) (hz : kvs.length < sizeLine)
    (rv : RelV v r) (go : ∀ s1, Inv X pins σ (upd H D (.dT (putK kvs k v))) s1 → Q () s1) : wpAny (model X.prog X.w) X.A (dictSet D (.ref b) r) Q E s := by
  obtain ⟨z1, nsm, xs, rel, dd⟩ := dt_of J.hok hD
  have lx : xs.length ≤ sizeLine := by
    rw [← Paired.length rel]
    exact z1
  have ln := length_putK kvs k v
  refine wpAny_dictSet_heap (hsz := lx) (show X.A.units < cLine by omega) (key_of J.hok hb) dd fun g dg sb => go _ ?_
  obtain ⟨ob, es, ep, g1, g2, g3, g4, _, g5⟩ := dg
  refine d_write J (by rw [hD]; exact True.intro) sb ⟨ob, g1⟩ ⟨by omega, nsm, _, (rel.put k hb rv).keeps fun c ys e => ?_, ob, es, ep, g1, g2, g3, g4, g5⟩
  rw [upd_ne (ne_of e hD (fun z => nomatch z))]
  exact e
/-- {k: v}, k a tuple -/
def tOneT (tk tv : TE) : TE := fun σ H Q => ∀ p, H p = none → tk σ (upd H p (.dT [])) fun x H1 => tv σ H1 fun y H2 => ∃ (b : Addr) (k : List Key), x = .ref b ∧ H2 b = some (.tup (k.map kV)) ∧ H2 p = some (.dT []) ∧ Q (.ref p) (upd H2 p (.dT [(k, y)]))
theorem pe_oneT {k v : Expr} {tk tv : TE} {pos : Pos} (hu : X.A.units + 1 < cLine) (hk : PE X k tk) (hv : PE X v tv) : PE X (.Dict [some k] [v] pos) (tOneT tk tv) := by
  refine ⟨fun pins s σ H Q J h => ?_⟩
  have shape : (evalEachOpt [some k] X.env).zip ((evalEach [v] X.env).map fun v => do let x ← v; standAt pos; pure x) = (pairTrees [some k] [v] X.env pos).map fun p => (some p.1, p.2) := zip_pairTrees [some k] [v] X.env pos rfl rfl
  rw [arm_eval_Dict, shape, dictDisplay_pairs _ (by simp [pairTrees]) (by simp [pairTrees])]
  have hn := J.hok.fresh (Nat.le_refl s.heap.objs.size)
  have J0 := J.laid (a := s.heap.objs.size) (o := .dT []) (h' := s.heap.push { cls := .type "dict", data := .dict #[] }) (t' := s.toks) (fun _ _ q => Heap.get?_push_of_some _ q) (Nat.le_refl _) (dt_empty s.heap J.big)
  refine wpAny_bind (wpAny_standAt (wpAny_bind ?_))
  unfold subDict
  refine wpAny_bind (wpAny_alloc (wpAny_bind (wpAny_holding ?_)))
  rw [if_pos (by simp [pairTrees])]
  refine wpAny_bind (pairTrees_cons_walk (thn (hk.run pins _ σ _ _ J0 (h _ hn)) fun ku s1 ⟨x, H1, J1, r1, q1⟩ => thn (hv.run pins s1 σ H1 _ J1 q1) fun vu s2 ⟨y, H2, J2, r2, b, kk, ex, eb, ep, q2⟩ => pairTrees_nil_walk ?_))
  subst ex
  obtain rfl : ku = Value.ref b := r1
  refine wpAny_holding (wpAny_bind ?_)
  rw [List.forIn_cons]
  refine wpAny_bind (wpAny_bind (putT hu J2 ep eb (by decide) r2 fun s3 J3 => wpAny_pure ?_))
  simp only [List.forIn_nil]
  exact wpAny_pure (wpAny_pure (wpAny_pure (wpAny_pure ⟨.ref s.heap.objs.size, _, J3, rfl, q2⟩)))
end
/-- the pairs of the locked dict at d, each a new tuple of the key's tuple and the value -/
def ItiT (d : Addr) (o : Obj) (kvs : List (List Key × V)) : It :=
  ⟨fun i H => H d = some (.frz o (.dT kvs)) ∧ i < kvs.length, fun i H x H' => ∃ (p q : Addr) (k : List Key) (v : V), kvs[i]? = some (k, v) ∧ H q = some (.tup (k.map kV)) ∧ x = .ref p ∧ H p = none ∧ H' = upd H p (.tup [.ref q, v]), fun i H => H d = some (.frz o (.dT kvs)) ∧ kvs.length ≤ i⟩
section
variable {X : Cx} {pins : List (Addr × Obj)} {σ : L2.St} {H : Hp} {s : Shared} {d : Addr} {o : Obj}
theorem frzV {kvs : List (List Key × V)} (J : Inv X pins σ H s) (h : H d = some (.frz o (.dT kvs))) : (d == sysModules) = false ∧ s.heap.get? d = some o ∧ o.ExactDict ∧ ∃ (es : Array DictEntry) (ep : Nat), o.data = .dict es ep ∧ es.size = kvs.length ∧
    ∀ (i : Nat) (k : List Key) (v : V), kvs[i]? = some (k, v) → ∃ (en : DictEntry) (q : Addr), es[i]? = some en ∧ en.key = .ref q ∧ H q = some (.tup (k.map kV)) ∧ RelV v en.val := by
  obtain ⟨e0, z, ns, xs, pr, o2, es, ep, e1, e2, e3, e4, _⟩ := J.hok d _ h
  rw [e0] at e1
  cases e1
  have l1 : es.size = xs.length := size_of_entries e4
  have l2 : kvs.length = xs.length := Paired.length pr
  refine ⟨ns, e0, e2, es, ep, e3, by omega, fun i k v e => ?_⟩
  obtain ⟨b, hb, _, f2, f3⟩ := L2.paired_get pr e
  have q := entry_at e4 i
  rw [hb] at q
  exact ⟨_, b.2.1, q, rfl, f2, f3⟩
end
section
variable {P : Program} {w : World} {K : PySem.W.Frag} {d : Addr} {o : Obj} {es : Array DictEntry} {ep : Nat}
theorem turnT {kvs : List (List Key × V)} {elts : List Expr} {kk : Nat} {tpos : Pos} (it : Addr) (hod : o.data = .dict es ep) : Turn P w K (.Tuple elts kk tpos) (ItiT d o kvs) [it] it (fun i h => ∃ ok ov, IsItemIter h it d i kvs.length ep ok ov) where
  mem := by simp
  obj := fun i h st b hb => by
    obtain ⟨ok, ov, e⟩ := st
    rw [List.mem_singleton.mp hb]
    exact ⟨_, e, fun v z => nomatch z⟩
  keep := fun i h h' st k => by
    obtain ⟨ok, ov, e⟩ := st
    exact ⟨ok, ov, k it (by simp) _ e⟩
  item := by
    intro X hP hw hK hc i pins s σ H E J hf st hg
    subst hP hw hK
    obtain ⟨hd, hi⟩ := hg
    obtain ⟨ns, e0, ex, es2, ep2, e1, lz, ent⟩ := frzV J hd
    obtain ⟨rfl, rfl⟩ := dict_ep hod e1
    obtain ⟨⟨k, v⟩, hkv⟩ : ∃ p, kvs[i]? = some p := ⟨kvs[i], List.getElem?_eq_getElem hi⟩
    obtain ⟨en, q, hen, ekey, hq, rv⟩ := ent i k v hkv
    obtain ⟨hil, hen2⟩ := Array.getElem?_eq_some_iff.mp hen
    obtain ⟨ok, ov, hit⟩ := st
    rw [← lz] at hit
    have hlt : it < s.heap.objs.size := Heap.lt_size hit
    refine DT.nextI hit ⟨o, e0, ex, e1⟩ hil fun g hO hT hz kp => ?_
    rw [hen2] at hO hT
    refine ⟨_, rfl, wpAny_letOwnedTupleGo_items (s := { s with heap := g }) hO fun g2 hI sb => ?_⟩
    have hT2 : g2.get? s.heap.objs.size = some { cls := .type "tuple", data := .seq #[en.key, en.val] } := (sb.2 _ (Nat.ne_of_gt hlt)).trans hT
    have nw : ObjOk X.prog X.w (upd H s.heap.objs.size (.tup [.ref q, v])) g2 s.heap.objs.size (.tup [.ref q, v]) := by
      refine ⟨by show 2 ≤ sizeLine; decide, [en.key, en.val], .cons ?_ (.cons rv .nil), ⟨_, hT2, rfl, _, rfl⟩⟩
      rw [ekey]
      rfl
    have J1 := J.turnedNew (t' := s.toks) (ch := [it]) (fun b ob hb e => (sb.2 b (by simpa using hb)).trans (kp b ob (by simpa using hb) e)) hf (Nat.le_refl _) nw
    refine ⟨.ref s.heap.objs.size, _, J1, rfl, ⟨_, q, k, v, hkv, hq, rfl, J.hok.fresh (Nat.le_refl _), rfl⟩, ⟨en.key, en.val, ?_⟩, fun b hb => ?_⟩
    · rw [← lz]
      exact hI
    · rw [List.mem_singleton.mp hb, upd_ne (Nat.ne_of_lt hlt)]
      exact (hf it (by simp)).1
  done := by
    intro X hP hw hK hc i pins s σ H E J hf st hg
    subst hP hw hK
    obtain ⟨hd, hi⟩ := hg
    obtain ⟨f0, f1, f2, f3, f4, f5⟩ := hf it (by simp)
    obtain ⟨ns, e0, ex, es2, ep2, e1, lz, ent⟩ := frzV J hd
    obtain ⟨rfl, rfl⟩ := dict_ep hod e1
    obtain ⟨ok, ov, hit⟩ := st
    rw [← lz] at hit hi
    exact DT.endI (J.ok.hd hc) hit ⟨o, e0, ex, e1⟩ hi fun g eb => ⟨rfl, J.turned (t' := s.toks) (fun b ob hb e => eb b ob hb e) f0 f1 f3 f4 f5⟩
  self := fun A i s Q E st h => by
    obtain ⟨_, _, e⟩ := st
    exact PySem.W.kcp_self e h
end
/-- what a for walks in d.items(), the dict locked -/
def iItemsT (td : TE) : TI := fun σ H R => td σ H fun x H1 => ∃ d o kvs, x = .ref d ∧ H1 d = some (.frz o (.dT kvs)) ∧ R (ItiT d o kvs) H1
section
variable {X : Cx} {e : Expr} {td : TE} {p1 p2 : Pos}
theorem pi_itemsT {elts : List Expr} {kk : Nat} {tpos : Pos} (he : PE X e td) (h1 : attributeBase e "items" X.env (eval e X.env) = eval e X.env := by rfl) (h2 : (p1.endLine == p2.line) = true := by rfl) : PI X (.Tuple elts kk tpos) (.Call (.Attribute e "items" p1) [] [] p2) (iItemsT td) := by
  refine ⟨fun pins s σ H R J h => ?_⟩
  refine wpAny_Call_method (T := "dict") (id := "dict.items") h1 rfl h2 F.plainAttrs_dict F.slot_dict_items F.type_dict_items (thn (he.run pins s σ H _ J h) fun u s1 ⟨x, H1, J1, rx, d, o, kvs, ex, hd, q⟩ => ?_)
  subst ex
  obtain rfl : u = Value.ref d := rx
  obtain ⟨ns, e0, ed, es, ep, e1, lz, ent⟩ := frzV J1 hd
  have raw : DT.Raw s1.heap d es ep := ⟨o, e0, ed, e1⟩
  refine ⟨raw.typeIs, fun b z => by cases z; exact ⟨o, e0, ed.2.1⟩, ?_⟩
  have J2 : Inv X pins σ H1 { s1 with heap := s1.heap.push { cls := .type "dict_items", data := .fields #[.ref d] } } := J1.kept (t' := s1.toks) fun b ob q => Heap.get?_push_of_some _ q
  have fin : wpAny (model X.prog X.w) X.A (pyIter (.ref s1.heap.objs.size)) (PIE X pins σ (.Tuple elts kk tpos) R) X.xe { s1 with heap := s1.heap.push { cls := .type "dict_items", data := .fields #[.ref d] } } := by
    refine DT.iterI ⟨_, Heap.get?_push_size _ rfl, rfl, rfl⟩ (raw.push _) (pi_one (tk := s1.toks) J2 _ (turnT _ e1) ⟨.none, .none, ?_⟩ q)
    rw [← lz]
    exact Heap.get?_push_size _ rfl
  show wpAny _ _ (callWith p2 (.builtin "dict.items") [.ref d] [] []) _ X.xe s1
  exact method_meetsIn F.slot_dict_items F.entry_dict_items rfl (PySem.evalArgs_none ⟨rfl, raw.typeIs, F.args_dict_items_1 _, _, DT.meetsItems (es := es) (ep := ep) ns, ⟨raw, fin⟩⟩)
end
/-- what a comprehension of a dict with tuple keys asks: D the new dict -/
def DcT (g : TG) (tt : TT) (tk tv : TE) (vs : List Nat) (σ : L2.St) (Q : VK) (J : It) (H1 : Hp) : Prop := ∀ D, H1 D = none → ∃ W : Nat → Nat → Hp → Prop, (∃ m, W 0 m (upd H1 D (.dT []))) ∧ ∀ i m H, W i m H →
  (J.stop i H ∧ Q (.ref D) H) ∨ (J.go i H ∧ ∃ N : Hp → Prop, (∀ H', N H' → ∃ m', m' < m ∧ W (i + 1) m' H') ∧ ∀ x H', J.yld i H x H' → g x (wipe σ vs) H' fun σ2 H2 => wipe σ2 vs = wipe σ vs ∧ tt σ2 H2 fun b H3 =>
    if b = true then tk σ2 H3 fun y H4 => tv σ2 H4 fun z H5 => ∃ (c : Addr) (kvs : List (List Key × V)) (k : List Key), y = .ref c ∧ H5 c = some (.tup (k.map kV)) ∧ H5 D = some (.dT kvs) ∧ kvs.length < sizeLine ∧ N (upd H5 D (.dT (putK kvs k z))) else N H3)
def tDcT (wi : TI) (g : TG) (tt : TT) (tk tv : TE) (vs : List Nat) : TE := fun σ H Q => wi σ H fun J H1 => DcT g tt tk tv vs σ Q J H1
abbrev Blk (X : Cx) (sc : Scope) (F : Cx → Prop) : Prop := ∀ (s : Shared) (H : Hp) (C : Addr) (cl : List (Str × Addr)) (fp : List Addr), F (X.blk s H sc (compEnvC sc cl C X.env) fp)
section
variable {X : Cx} {kx vx tg iter : Expr} {ifs : List Expr} {sc : Scope} {own : List (Str × Nat)} {wi : TI} {g : TG} {tt : TT} {tk tv : TE}
theorem coreT {pins : List (Addr × Obj)} {s : Shared} {σ : L2.St} {H : Hp} {Q : VK} {p1 p2 : Pos} {use : Option (Value → Sem Unit)} {Qf : Value → Shared → Prop} (hc : X.calm = true) (hN : X.N.Nodup) (hu : X.A.units + 1 < cLine) (J : Inv X pins σ H s) (hi : PI X tg iter wi) (ok : BlkOk X.N X.env.scope sc own)
    (hg : Blk X sc fun Y => PG Y tg g) (ht : Blk X sc fun Y => PTs Y ifs tt) (hk : Blk X sc fun Y => PE Y kx tk) (hv : Blk X sc fun Y => PE Y vx tv) (hs : ∀ x, foldedSetIterable iter X.env x = pure x) (h : tDcT wi g tt tk tv (own.map (·.2)) σ H Q)
    (last : ∀ D C s1 m H1, Inv X pins σ H1 s1 → Q (.ref D) H1 → s1.heap.Ns C m → FpOk X pins H1 C → compPost (model X.prog X.w) X.A X.xe use Qf (.ref D) C (.ok .next) s1) :
    wpAny (model X.prog X.w) X.A (comprehension (.DictComp kx vx [⟨tg, iter, ifs, 0⟩] sc p1) sc X.env p2 newDict false (eval iter X.env) use) Qf X.xe s := by
  have caps : ∀ y ∈ sc.names, y.2 = .free → ∃ c, X.env.cells.lookup y.1 = some c := by
    intro y hy e
    exact (ok.free y hy e).elim (fun z => J.ok.has _ (.inl z)) (fun z => J.ok.has _ (.inr z))
  refine wpAny_comprehension_free (use := use) rfl hs (closure_ok caps) ok.kind (fun y hy e => by rw [ok.uniq y hy, e]) (thn (hi.run pins s σ H _ J h) fun xv s1 hx => thn hx fun itv s2 hit => ?_)
  obtain ⟨it, fp, tn, Y, H2, rfl, J2, T, st2, f2, q⟩ := hit
  refine wpAny_newObj_type (newEnv_comp ?_)
  obtain ⟨D, eD⟩ : ∃ D, s2.heap.objs.size = D := ⟨_, rfl⟩
  have nD : H2 D = none := J2.hok.fresh (Nat.le_of_eq eD)
  obtain ⟨W, ⟨m0, w0⟩, turn⟩ := q D nD
  obtain ⟨s3, e3⟩ : ∃ s3 : Shared, { s2 with heap := s2.heap.push { cls := .type "dict", data := .dict #[] } } = s3 := ⟨_, rfl⟩
  have J3 : Inv X pins σ (upd H2 D (.dT [])) s3 := by
    subst e3
    subst eD
    exact J2.laid (t' := s2.toks) (fun b o e => Heap.get?_push_of_some _ e) (Nat.le_refl _) (dt_empty s2.heap J2.big)
  have hp3 : s3.heap = s2.heap.push { cls := .type "dict", data := .dict #[] } := by rw [← e3]
  have f3 : ∀ b ∈ fp, FpOk X pins (upd H2 D (.dT [])) b ∧ b < s3.heap.objs.size := by
    intro b hb
    obtain ⟨o, e, _⟩ := T.obj _ _ st2 b hb
    have lt := Heap.lt_size e
    have ne : b ≠ D := fun z => Nat.lt_irrefl _ (Nat.lt_of_lt_of_le lt (Nat.le_of_eq (eD.trans z.symm)))
    refine ⟨⟨?_, (f2 b hb).2⟩, ?_⟩
    · rw [upd_ne ne]
      exact (f2 b hb).1
    · rw [hp3, Heap.size_push]
      exact Nat.lt_succ_of_lt lt
  have st3 : tn 0 s3.heap := T.keep _ _ _ st2 fun b _ o e => by
    rw [hp3]
    exact Heap.get?_push_of_some _ e
  have J4 := block_start J3 ok hN f3
  rw [eD, e3]
  have at1 := hg s3 (upd H2 D (.dT [])) s3.heap.objs.size (cellsFrom (s3.heap.objs.size + 1) sc.names (cloFrom X.env.cells sc.names [])) fp
  have at2 := ht s3 (upd H2 D (.dT [])) s3.heap.objs.size (cellsFrom (s3.heap.objs.size + 1) sc.names (cloFrom X.env.cells sc.names [])) fp
  have at3 := hk s3 (upd H2 D (.dT [])) s3.heap.objs.size (cellsFrom (s3.heap.objs.size + 1) sc.names (cloFrom X.env.cells sc.names [])) fp
  have at4 := hv s3 (upd H2 D (.dT [])) s3.heap.objs.size (cellsFrom (s3.heap.objs.size + 1) sc.names (cloFrom X.env.cells sc.names [])) fp
  obtain ⟨ce, hce⟩ : ∃ ce, compEnvC sc (cellsFrom (s3.heap.objs.size + 1) sc.names (cloFrom X.env.cells sc.names [])) s3.heap.objs.size X.env = ce := ⟨_, rfl⟩
  obtain ⟨s4, hs4⟩ : ∃ s4 : Shared, { s3 with heap := pushCells (s3.heap.push { cls := .type "dict", data := .dict #[] }) sc.names } = s4 := ⟨_, rfl⟩
  show codeAny _ _ (.compStart (.DictComp kx vx [⟨tg, iter, ifs, 0⟩] sc p1) 0 (.ref it) (.ref D) (compEnvC sc (cellsFrom (s3.heap.objs.size + 1) sc.names (cloFrom X.env.cells sc.names [])) s3.heap.objs.size X.env))
    (compPost (model X.prog X.w) X.A X.xe use Qf (.ref D) s3.heap.objs.size) { s3 with heap := pushCells (s3.heap.push { cls := .type "dict", data := .dict #[] }) sc.names }
  rw [hce, hs4]
  rw [hce] at at1 at2 at3 at4 J4
  rw [hs4] at J4
  have cL : ce.locals = s3.heap.objs.size := by rw [← hce]; rfl
  have none3 : ∀ b ∈ fp, (upd H2 D (.dT [])) b = none := fun b hb => (f3 b hb).1.1
  obtain ⟨H3, hH3⟩ : ∃ H3, upd H2 D (.dT []) = H3 := ⟨_, rfl⟩
  rw [hH3] at J3 J4 at1 at2 at3 at4 w0 none3 f3
  have st4 : tn 0 s4.heap := T.keep _ _ _ st3 fun b _ o e => by
    rw [← hs4]
    exact pushCells_keeps _ _ _ _ (Heap.get?_push_of_some _ e)
  have foot : ∀ {σ' : L2.St} {H' : Hp} {s' : Shared}, Inv (X.blk s3 H3 sc ce fp) [] σ' H' s' → (∀ b ∈ fp, H' b = none) → ∀ b ∈ fp, FpOk (X.blk s3 H3 sc ce fp) [] H' b := by
    intro σ' H' s' K1 n b hb
    refine ⟨n b hb, (K1.ok.exf b hb).1, K1.ok.exfs b hb, .inl hb, fun x c e => (K1.ok.exf b hb).2 x c e, fun p hp => ?_⟩
    exact absurd (show p ∈ ([] : List (Addr × Obj)) ++ [] from hp) (by simp)
  have main : codeAny (model X.prog X.w) X.A (.compLoop (.DictComp kx vx [⟨tg, iter, ifs, 0⟩] sc p1) 0 (.ref it) (.ref D) ce) (compPost (model X.prog X.w) X.A X.xe use Qf (.ref D) s3.heap.objs.size) s4 := by
    refine compLoop_anyD (fun n s' => ∃ i H', Inv (X.blk s3 H3 sc ce fp) [] (wipe σ (own.map (·.2))) H' s' ∧ tn i s'.heap ∧ (∀ b ∈ fp, H' b = none) ∧ W i n H') ?_ m0 ⟨0, H3, J4, st4, none3, w0⟩
    rintro n s5 ⟨i, H5, J5, st5, n5, w5⟩
    rcases turn i n H5 w5 with ⟨stop, fin⟩ | ⟨more, N, hN2, body⟩
    · refine thnF (T.done (X.blk s3 H3 sc ce fp) rfl rfl rfl hc i [] s5 _ H5 (fun _ _ => False) J5 (foot J5 n5) st5 stop) fun r s6 ⟨er, J6⟩ => ?_
      subst er
      have J7 : Inv X pins σ H5 s6 := J3.call' (ch := fp) J6.os J6.base J6.hok J6.bare fun b hb => by
        obtain ⟨⟨_, a1, a2, a3, a4, a5⟩, _⟩ := f3 b hb
        exact ⟨a3, a1, a4, a5⟩
      have frC : H5 s3.heap.objs.size = none := cL ▸ (show H5 ce.locals = none from J6.free)
      obtain ⟨m, hm, _⟩ := J6.loc
      exact last D s3.heap.objs.size s6 m H5 J7 fin (cL ▸ (show s6.heap.Ns ce.locals m from hm)) (J3.fpOk (Nat.le_refl _) frC)
    · refine thnF (T.item (X.blk s3 H3 sc ce fp) rfl rfl rfl hc i [] s5 _ H5 (fun _ _ => False) J5 (foot J5 n5) st5 more) fun r s6 ⟨u, er, h6⟩ => ?_
      subst er
      refine thnF h6 fun _ s7 ⟨x, H7, J7, r7, y7, st7, n7⟩ => ?_
      have J7p := J7.pinned (foot J7 n7) (T.obj _ _ st7)
      refine thnF (at1.run _ s7 _ H7 x u _ J7p r7 (body x H7 y7)) fun _ s8 ⟨σ8, H8, J8, hw8, q8⟩ => thnF (at2.run _ s8 σ8 H8 _ J8 q8) fun b s9 ⟨H9, J9, q9⟩ => ?_
      have back : ∀ {s' : Shared} {H' : Hp}, Inv (X.blk s3 H3 sc ce fp) ([] ++ pinsAt fp s7.heap) σ8 H' s' → N H' → ∃ m, m < n ∧ ∃ i H', Inv (X.blk s3 H3 sc ce fp) [] (wipe σ (own.map (·.2))) H' s' ∧ tn i s'.heap ∧ (∀ b ∈ fp, H' b = none) ∧ W i m H' := by
        intro s' H' K1 nx
        obtain ⟨m1, hm, w1⟩ := hN2 H' nx
        have held : ∀ b ∈ fp, ∀ o, s7.heap.get? b = some o → s'.heap.get? b = some o ∧ H' b = none := fun b hb o e => by
          have z := K1.pin (b, o) (List.mem_append_right _ (List.mem_append_right _ (mem_pinsAt hb e)))
          exact ⟨z.1, z.2.1⟩
        have ln : (wipe σ (own.map (·.2))).length = σ8.length := by rw [← hw8, wipe_length]
        refine ⟨m1, hm, i + 1, H', (K1.unpinned (pins := [])).weak ln (fun j v e => ?_), T.keep _ _ _ st7 fun b hb o e => (held b hb o e).1, fun b hb => ?_, w1⟩
        · rw [← hw8] at e
          exact (wipe_some e).1
        · obtain ⟨o, e, _⟩ := T.obj _ _ st7 b hb
          exact (held b hb o e).2
      cases b with
      | false =>
        simp only [Bool.false_eq_true, if_false] at q9 ⊢
        exact back J9 q9
      | true =>
        simp only [if_true] at q9 ⊢
        refine thnF (at3.run _ s9 σ8 H9 _ J9 q9) fun z s10 ⟨yk, H10, J10, r10, q10⟩ => thnF (at4.run _ s10 σ8 H10 _ J10 q10) fun z2 s11 ⟨yv, H11, J11, r11, c, kvs, k, ek, hc11, hD11, hz11, nx⟩ => ?_
        subst ek
        obtain rfl : z = Value.ref c := r10
        exact putT (X := X.blk s3 H3 sc ce fp) hu J11 hD11 hc11 hz11 r11 fun s12 J12 => back J12 nx
  exact codeAny_compStart_dict main (T.self X.A 0 _ _ _ st4 main)
theorem pe_dcT {pos : Pos} (hc : X.calm = true) (hN : X.N.Nodup) (hu : X.A.units + 1 < cLine) (hi : PI X tg iter wi) (ok : BlkOk X.N X.env.scope sc own) (hg : Blk X sc fun Y => PG Y tg g) (ht : Blk X sc fun Y => PTs Y ifs tt) (hk : Blk X sc fun Y => PE Y kx tk) (hv : Blk X sc fun Y => PE Y vx tv)
    (hs : ∀ x, foldedSetIterable iter X.env x = pure x := by intro _; rfl) : PE X (.DictComp kx vx [⟨tg, iter, ifs, 0⟩] sc pos) (tDcT wi g tt tk tv (own.map (·.2))) := by
  refine ⟨fun pins s σ H Q J h => ?_⟩
  rw [arm_eval_DictComp]
  refine coreT hc hN hu J hi ok hg ht hk hv hs h fun D C s1 m H1 J1 q ns f => ⟨m, ns, fun h2 sb => ?_⟩
  obtain ⟨a0, a1, a2, a3, a4, a5⟩ := f
  exact ⟨.ref D, H1, J1.turned (t' := s1.toks) (fun b o hb e => (sb.2 b hb).trans e) a0 a1 a3 a4 a5, rfl, q⟩
/-- y = {k: v for ..} -/
theorem ps_setDcT {i : Nat} {y : Str} {py pos spos : Pos} (hc : X.calm = true) (hN : X.N.Nodup) (hu : X.A.units + 1 < cLine) (hy : X.N[i]? = some y) (hyl : X.env.scope.names.lookup y = some .local) (hsw : swapsWith (.DictComp kx vx [⟨tg, iter, ifs, 0⟩] sc pos) (some (.Name y py)) spos.line X.env = pure true)
    (hi : PI X tg iter wi) (ok : BlkOk X.N X.env.scope sc own) (hg : Blk X sc fun Y => PG Y tg g) (ht : Blk X sc fun Y => PTs Y ifs tt) (hk : Blk X sc fun Y => PE Y kx tk) (hv : Blk X sc fun Y => PE Y vx tv) (hs : ∀ x, foldedSetIterable iter X.env x = pure x := by intro _; rfl) :
    PS X (.Assign [.Name y py] (.DictComp kx vx [⟨tg, iter, ifs, 0⟩] sc pos) spos) (tAsg (tDcT wi g tt tk tv (own.map (·.2))) (gName i)) := by
  refine ⟨fun pins s σ H D J h => ?_⟩
  rw [exec_Assign_Name_used _ _ _ _ hsw]
  refine wpAny_bind (wpAny_standAt (wpAny_bind ?_))
  show wpAny _ X.A (do let _ ← comprehension (.DictComp kx vx [⟨tg, iter, ifs, 0⟩] sc pos) sc X.env (firstIterPos [⟨tg, iter, ifs, 0⟩] pos) newDict false (eval iter X.env) (some (assign (.Name y py) X.env))) _ _ s
  have h : tDcT wi g tt tk tv (own.map (·.2)) σ H (fun x H1 => gName i x σ H1 D.nx) := h
  refine wpAny_bind (thn (coreT (Qf := fun _ s1 => SP X pins D .next s1) hc hN hu J hi ok hg ht hk hv hs h fun L C s1 m H1 J1 q ns f => ?_) fun _ s1 hq => wpAny_pure (wpAny_pure hq))
  show wpAny _ _ (assign (.Name y py) X.env (.ref L)) _ _ _
  refine wpAny_assign_Name (store_ok2 (v := V.ref L) J1 hN hy (.inl hyl) rfl (fun s2 J2 ⟨a, sb, ha⟩ => ?_) (.inr hyl))
  obtain ⟨a0, a1, a2, a3, a4, a5⟩ := f
  have ne : C ≠ a := by
    rcases ha with z | z
    · rw [z]
      exact a1
    · exact fun e => a4 y a z e.symm
  exact ⟨m, ns.sameBut sb ne, fun h3 sb3 => ⟨_, H1, J2.turned (t' := s2.toks) (fun b o hb e => (sb3.2 b hb).trans e) a0 a1 a3 a4 a5, q⟩⟩
end
end Td
set_option Elab.async false
set_option linter.all false
set_option maxRecDepth 100000
set_option maxHeartbeats 4000000
/-! two dicts with tuple keys compared -/

namespace Td
open PySem PySem.Spec PyProof.Rows L2
section
variable {prog : Program} {w : World} {κ : Type} [DecidableEq κ] {knd : HeapKind prog w κ} {A : Around} {E : Value → Shared → Prop} {s : Shared}
/-- whether the entries of one stand in the other, from the first on -/
inductive Hits (A : Around) (s : Shared) (ys : List (κ × Addr × Value)) : List (κ × Addr × Value) → Bool → Prop
  | nil : Hits A s ys [] true
  | miss {x : κ × Addr × Value} {r : List (κ × Addr × Value)} (h : atKey ys x.1 = none) : Hits A s ys (x :: r) false
  | hit {x : κ × Addr × Value} {r : List (κ × Addr × Value)} {p : Addr × Value} {e b : Bool} (h : atKey ys x.1 = some p) (q : SeqAt.EqAt A s x.2.2 p.2 e) (t : Hits A s ys r b) : Hits A s ys (x :: r) (e && b)
theorem pairs_same {nm : String} {a b : Addr} {xs ys : List (κ × Addr × Value)} {r : Bool} {Q : Bool → Shared → Prop} (hu : knd.room A) (na : (a == sysModules) = false) (nb : (b == sysModules) = false) (da : s.heap.DictOfH knd a xs) (db : s.heap.DictOfH knd b ys)
    (hits : xs.length = ys.length → Hits A s ys xs r) (go : Q (xs.length == ys.length && r) s) : wpAny (model prog w) A (Builtin.Dict.samePairs nm a b) Q E s := by
  obtain ⟨oa, es, ep, a1, _, a3, a4, a5, a6⟩ := da
  obtain ⟨ob, fs, fp, b1, _, b3, b4, b5, b6⟩ := db
  have la : es.size = xs.length := size_of_entries a4
  have lb : fs.size = ys.length := size_of_entries b4
  rw [← la, ← lb] at go
  unfold Builtin.Dict.samePairs Builtin.Dict.showsAll
  rw [if_neg (by rw [na]; exact Bool.false_ne_true), if_neg (by rw [nb]; exact Bool.false_ne_true)]
  refine wpAny_bind (wpAny_pure (wpAny_bind (wpAny_pure (wpAny_bind (wpAny_dictEntries a1 a3 ?_)))))
  dsimp only
  refine wpAny_bind (wpAny_dictEntries b1 b3 ?_)
  by_cases hz : es.size = fs.size
  · have goR : Q r s := by simpa [hz] using go
    have hh := hits (by omega)
    rw [if_neg (by rw [hz]; simp)]
    refine wpAny_bind (wpAny_dictEpoch a1 a3 (wpAny_bind ?_))
    rw [Std.Legacy.Range.forIn_eq_forIn_range']
    simp only [Std.Legacy.Range.size, Nat.sub_zero, Nat.add_sub_cancel, Nat.div_one]
    refine wpAny_forIn_list _ (fun rest q s' => s' = s ∧ q = (none, ()) ∧ ∃ i, rest = List.range' i (es.size - i) ∧ i ≤ es.size ∧ Hits A s ys (xs.drop i) r) _ ?_ ?_ _ _ ⟨rfl, rfl, 0, by simp, Nat.zero_le _, hh⟩
    · rintro x rest q s' ⟨rfl, rfl, i, hr, hi, ht⟩
      have il : i < es.size := by
        refine Nat.lt_of_not_le fun z => ?_
        rw [Nat.sub_eq_zero_of_le z] at hr
        exact nomatch hr
      obtain ⟨rfl, hrest⟩ : x = i ∧ rest = List.range' (i + 1) (es.size - (i + 1)) := by
        rw [show es.size - i = (es.size - (i + 1)) + 1 by omega, List.range'_succ] at hr
        injection hr with z1 z2
        exact ⟨z1, z2⟩
      have il2 : x < xs.length := by omega
      have en : es[x]? = some (entryOfKey knd xs[x]) := by
        rw [entry_at a4 x, List.getElem?_eq_getElem il2]
        rfl
      have kx := a5 _ (List.getElem_mem il2)
      rw [List.drop_eq_getElem_cons il2] at ht
      refine wpAny_bind (wpAny_dictEntries a1 a3 ?_)
      rw [en]
      show wpAny _ _ (holding [Value.ref xs[x].2.1, xs[x].2.2] _ >>= _) _ _ _
      refine wpAny_bind (wpAny_holding (wpAny_bind (wpAny_dictFind_heap hu kx b1 b3 b4 b5 b6 (fun no => ?_) fun j p hj => ?_)))
      · have e0 := atKey_none_of_get no
        cases ht with
        | miss _ =>
          refine wpAny_pure ?_
          show wpAny _ _ (if (!false) = true then _ else _) _ _ _
          rw [if_pos (by decide)]
          exact wpAny_pure (wpAny_pure goR)
        | hit h _ _ =>
          rw [e0] at h
          cases h
      · have e0 := atKey_of_get b6 hj
        cases ht with
        | miss h =>
          rw [e0] at h
          cases h
        | @hit _ _ p2 e b2 h q t =>
          rw [e0] at h
          cases h
          refine wpAny_bind (wpAny_dictEntries b1 b3 ?_)
          rw [entry_at b4 j, hj]
          show wpAny _ _ (holding [p.2] _) _ _ _
          refine wpAny_holding (q prog w _ _ ?_)
          cases e with
          | false =>
            rw [Bool.false_and] at goR
            show wpAny _ _ (if (!false) = true then _ else _) _ _ _
            rw [if_pos (by decide)]
            exact wpAny_pure (wpAny_pure goR)
          | true =>
            rw [Bool.true_and] at goR ⊢
            show wpAny _ _ (if (!true) = true then _ else _) _ _ _
            rw [if_neg (by decide)]
            refine wpAny_bind (wpAny_dictEpoch a1 a3 ?_)
            rw [if_neg (by simp)]
            exact wpAny_pure ⟨rfl, rfl, x + 1, hrest, il, t⟩
    · rintro q s' ⟨rfl, rfl, i, hr, hi, ht⟩
      have ie : i = es.size := by
        refine Nat.le_antisymm hi (Nat.le_of_not_lt fun z => ?_)
        rw [show es.size - i = (es.size - (i + 1)) + 1 by omega, List.range'_succ] at hr
        exact nomatch hr
      rw [ie, la, List.drop_length] at ht
      cases ht
      exact wpAny_pure goR
  · rw [if_pos (by simpa using hz)]
    have nf : (es.size == fs.size) = false := by simpa using hz
    rw [nf, Bool.false_and] at go
    exact wpAny_bind (wpAny_rule (wpAny_pure go))
end
def eqT (ks ls : List (List Key × V)) : Bool := ks.length == ls.length && ks.all fun p => match valV ls p.1 with
  | some v => eqV p.2 v
  | none => false
theorem valV_mem {κ : Type} [DecidableEq κ] {ls : List (κ × V)} {k : κ} {v : V} (h : valV ls k = some v) : ∃ w ∈ ls, w.2 = v := by
  induction ls with
  | nil => cases h
  | cons p r ih =>
    by_cases e : p.1 = k
    · rw [valV_pos e] at h
      cases h
      exact ⟨p, List.mem_cons_self, rfl⟩
    · rw [valV_neg e] at h
      obtain ⟨w, hw, ew⟩ := ih h
      exact ⟨w, List.mem_cons_of_mem _ hw, ew⟩
def flatT (ks : List (List Key × V)) : Bool := ks.all fun p => flatV p.2
theorem hits_of {A : Around} {s : Shared} {H : Hp} {ls : List (List Key × V)} {ys : List (List Key × Addr × Value)} (kl : KT H ls ys) (fl : flatT ls = true) : ∀ {ks : List (List Key × V)} {xs : List (List Key × Addr × Value)}, KT H ks xs → flatT ks = true →
    Hits A s ys xs (ks.all fun p => match valV ls p.1 with
      | some v => eqV p.2 v
      | none => false)
  | _, _, .nil, _ => .nil
  | p :: ks, x :: xs, .cons h t, f => by
    obtain ⟨h1, _, h3⟩ := h
    unfold flatT at f
    rw [List.all_cons, Bool.and_eq_true] at f
    have rv := kl.val p.1
    rw [List.all_cons]
    cases e : valV ls p.1 with
    | none =>
      rw [e] at rv
      have e2 : atKey ys x.1 = none := by
        rw [← h1]
        cases e3 : atKey ys p.1 with
        | none => rfl
        | some q =>
          rw [e3] at rv
          exact absurd rv (fun z => z)
      simp only [Bool.false_and]
      exact .miss e2
    | some v =>
      rw [e] at rv
      obtain ⟨q, e3, rq⟩ : ∃ q, atKey ys p.1 = some q ∧ RelV v q.2 := by
        cases e3 : atKey ys p.1 with
        | none =>
          rw [e3] at rv
          exact absurd rv (fun z => z)
        | some q =>
          rw [e3] at rv
          exact ⟨q, rfl, rv⟩
      have fv : flatV v = true := by
        obtain ⟨w, hw, ew⟩ : ∃ w ∈ ls, w.2 = v := valV_mem e
        have := List.all_eq_true.mp fl w hw
        rw [ew] at this
        exact this
      exact .hit (h1 ▸ e3) (eqAt_V h3 rq f.1 fv) (hits_of kl fl t f.2)
section
variable {X : Cx}
def rEqT : R2 := fun x y H Q => ∃ (a b : Addr) (ks ls : List (List Key × V)), x = .ref a ∧ y = .ref b ∧ Rd H a (.dT ks) ∧ Rd H b (.dT ls) ∧ flatT ks = true ∧ flatT ls = true ∧ Q (.bl (eqT ks ls)) H
def rNeT : R2 := fun x y H Q => ∃ (a b : Addr) (ks ls : List (List Key × V)), x = .ref a ∧ y = .ref b ∧ Rd H a (.dT ks) ∧ Rd H b (.dT ls) ∧ flatT ks = true ∧ flatT ls = true ∧ Q (.bl (!eqT ks ls)) H
theorem op_eqT (hu : X.A.units + 64 < cLine) : OpR X (compareOp .Eq) rEqT := by
  intro pins s σ H x y v u Q J rx ry h
  obtain ⟨a, b, ks, ls, rfl, rfl, ea, eb, fa, fb, q⟩ := h
  obtain rfl : v = Value.ref a := rx
  obtain rfl : u = Value.ref b := ry
  obtain ⟨_, na, xs, ka, da⟩ := dt_rd J.hok ea
  obtain ⟨_, nb, ys, kb, db⟩ := dt_rd J.hok eb
  have l1 : ks.length = xs.length := Paired.length ka
  have l2 : ls.length = ys.length := Paired.length kb
  refine wpAny_richCompare_same_room (op := .Eq) da.typeIs db.typeIs PySem.F.slot_dict_eq (wpAny_call_entry PySem.F.slot_dict_eq da.typeIs PySem.F.entry_dict_eq ?_ (PySem.F.args_dict_eq_2 _ _)) (show X.A.units < cLine by omega)
  show wpAny _ _ (Builtin.Dict.dictSlotArgs "__eq__" ⟨[.ref a, .ref b], []⟩ >>= _) _ _ s
  refine wpAny_bind ?_
  unfold Builtin.Dict.dictSlotArgs
  refine wpAny_bind (wpAny_notOrdered_dict da.typeIs ?_)
  show wpAny _ _ (pure (Value.ref a, Value.ref b)) _ _ s
  refine wpAny_pure (wpAny_bind (wpAny_isInstance (T := "dict") db.typeIs PySem.F.sub_dict_dict ?_))
  simp only [Bool.not_true, Bool.false_eq_true, if_false]
  refine wpAny_bind (wpAny_pure (wpAny_bind (wpAny_pure (wpAny_bind (pairs_same (knd := tupleKind (mixKind X.prog X.w)) (tupleKind_room_in1 (by omega)) na nb da db (fun _ => hits_of kb fb ka fa) (wpAny_pure ⟨_, rfl, (fun x => nomatch x), ?_⟩))))))
  refine ⟨.bl (eqT ks ls), H, J, ?_, q⟩
  show Value.bool _ = Value.bool _
  unfold eqT
  rw [l1, l2, beq_true]
theorem op_neT (hu : X.A.units + 64 < cLine) : OpR X (compareOp .NotEq) rNeT := by
  intro pins s σ H x y v u Q J rx ry h
  obtain ⟨a, b, ks, ls, rfl, rfl, ea, eb, fa, fb, q⟩ := h
  obtain rfl : v = Value.ref a := rx
  obtain rfl : u = Value.ref b := ry
  obtain ⟨_, na, xs, ka, da⟩ := dt_rd J.hok ea
  obtain ⟨_, nb, ys, kb, db⟩ := dt_rd J.hok eb
  have l1 : ks.length = xs.length := Paired.length ka
  have l2 : ls.length = ys.length := Paired.length kb
  refine wpAny_richCompare_same_room (op := .NotEq) da.typeIs db.typeIs PySem.F.slot_dict_ne (wpAny_call_entry PySem.F.slot_dict_ne da.typeIs PySem.F.entry_dict_ne ?_ (PySem.F.args_dict_ne_2 _ _)) (show X.A.units < cLine by omega)
  show wpAny _ _ (Builtin.Dict.dictSlotArgs "__ne__" ⟨[.ref a, .ref b], []⟩ >>= _) _ _ s
  refine wpAny_bind ?_
  unfold Builtin.Dict.dictSlotArgs
  refine wpAny_bind (wpAny_notOrdered_dict da.typeIs ?_)
  show wpAny _ _ (pure (Value.ref a, Value.ref b)) _ _ s
  refine wpAny_pure (wpAny_bind (wpAny_isInstance (T := "dict") db.typeIs PySem.F.sub_dict_dict ?_))
  simp only [Bool.not_true, Bool.false_eq_true, if_false]
  refine wpAny_bind (wpAny_pure (wpAny_bind (wpAny_pure (wpAny_bind (pairs_same (knd := tupleKind (mixKind X.prog X.w)) (tupleKind_room_in1 (by omega)) na nb da db (fun _ => hits_of kb fb ka fa) (wpAny_pure ⟨_, rfl, (fun x => nomatch x), ?_⟩))))))
  refine ⟨.bl (!eqT ks ls), H, J, ?_, q⟩
  show Value.bool _ = Value.bool _
  unfold eqT
  rw [l1, l2, beq_false]
end
end Td
set_option Elab.async false
set_option linter.all false
set_option maxRecDepth 100000
set_option maxHeartbeats 4000000
/-! sorted(a tuple of ints); a loop or an expression that locks the dict it walks, or finds it locked -/
namespace So
open PySem PySem.Spec PyProof.Rows L2
section
variable {prog : Program} {w : World} {A : Around} {E : Value → Shared → Prop} {s : Shared}
theorem collect_tup {l : Addr} {vs : List Value} {Q : List Value → Shared → Prop} (hl : IsTup s.heap l vs.toArray)
    (h : Q vs { s with heap := (s.heap.push (seqObj "list" #[] 0)).update s.heap.objs.size (Obj.mapSeq (· ++ vs.toArray)) }) (hsz : vs.length ≤ sizeLine) :
    wpAny (model prog w) A (collect (.ref l)) Q E s := by
  obtain ⟨o, ho, hc, n, hd⟩ := id hl
  unfold collect
  refine wpAny_bind (wpAny_runValue (codeAny_builtin entry_proto_collect' ?_))
  show wpAny _ _ (do again (.builtin "list.__iadd__" ⟨[← newList [], .ref l], []⟩)) _ _ s
  refine wpAny_bind (wpAny_newList (wpAny_pure ⟨Code.quiet_builtin _ (by decide +kernel), codeAny_builtin entry_list_iadd' ?_⟩))
  show wpAny _ _ (Builtin.List.listExtendWith (.ref s.heap.objs.size) (.ref l) (.ref s.heap.objs.size)) _ _ { s with heap := s.heap.push (seqObj "list" #[] 0) }
  unfold Builtin.List.listExtendWith
  have ho' : (s.heap.push (seqObj "list" #[] 0)).get? l = some o := Heap.get?_push_of_some _ ho
  refine wpAny_bind (wpAny_typeOf (T := "tuple") ⟨o, ho', hc⟩ ?_)
  have ht : (Value.type "tuple" == Value.type "tuple") = true := by rfl
  rw [if_pos (by rw [ht]; simp)]
  refine wpAny_bind (listItems_at ho' hd ?_)
  refine wpAny_bind (listItems_at (xs := #[]) (n := 0) (Heap.get?_push_size _ rfl) rfl ?_)
  rw [if_neg (by simp)]
  refine wpAny_bind (listUpdate_at (xs := #[]) (n := 0) (Heap.get?_push_size _ rfl) rfl ?_ (Nat.zero_le _) (by show (#[] ++ vs.toArray).size ≤ sizeLine + 1; simp only [Array.size_append, List.size_toArray, List.length_nil]; omega))
  refine wpAny_pure ?_
  show wpAny (model prog w) A (do
      let o ← load s.heap.objs.size
      match o.data with
      | .seq xs _ => pure xs.toList
      | _ => unsupported "internal:collect") Q E { s with heap := (s.heap.push (seqObj "list" #[] 0)).update s.heap.objs.size (Obj.mapSeq (· ++ vs.toArray)) }
  refine wpAny_bind (wpAny_load (get?_update_seq (Heap.get?_push_size _ rfl) _) ?_)
  show wpAny _ _ (pure ((#[] : Array Value) ++ vs.toArray).toList) Q E _
  rw [show ((#[] : Array Value) ++ vs.toArray).toList = vs by simp]
  exact wpAny_pure h
theorem sorted_tup {l : Addr} {vs : List Value} {ns : List Int} {Q : Value → Shared → Prop} (hl : IsTup s.heap l vs.toArray) (hI : IntsAre vs ns) (hL : vs.length ≤ sizeLine)
    (h : ∀ (out : Array Value) (ns' : List Int), IntsAre out.toList ns' → ns'.Perm ns → ns'.Pairwise (· ≤ ·) → Q (.ref (s.heap.objs.size + 1)) { s with heap := sortedAll s.heap vs out }) :
    wpAny (model prog w) A (call (.builtin "sorted") [.ref l]) Q E s := by
  refine Calls.call_function_entry kind_sorted plain_sorted entry_sorted (args_sorted1 _) ?_
  unfold Builtin.«sorted»
  refine wpAny_bind (m := checkCount "sorted" 1 1 _) (wpAny_pure ?_)
  refine wpAny_bind (collect_tup hl ?_ hL)
  refine wpAny_bind (wpAny_newList ?_)
  have hsz : ((s.heap.push (seqObj "list" #[] 0)).update s.heap.objs.size (Obj.mapSeq (· ++ vs.toArray))).objs.size = s.heap.objs.size + 1 := by
    rw [Heap.size_update, size_push']
  have hoL : (((s.heap.push (seqObj "list" #[] 0)).update s.heap.objs.size (Obj.mapSeq (· ++ vs.toArray))).push (seqObj "list" vs.toArray 0)).get? (s.heap.objs.size + 1) = some (seqObj "list" vs.toArray 0) := by
    rw [← hsz]; exact Heap.get?_push_size _ rfl
  show wpAny _ _ _ _ _ { s with heap := ((s.heap.push (seqObj "list" #[] 0)).update s.heap.objs.size (Obj.mapSeq (· ++ vs.toArray))).push (seqObj "list" vs.toArray 0) }
  rw [hsz]
  refine wpAny_bind (wpAny_holding (wpAny_call_entry slot_list_sort ⟨_, hoL, rfl⟩ entry_list_sort (list_sort_treeAny hoL hI hL fun out ns' a1 a2 a3 => ⟨_, rfl, ?_⟩) (args_list_sort _)))
  exact wpAny_pure ⟨_, rfl, h out ns' a1 a2 a3⟩
end
/-! ### a list of ints, sorted -/
def insZ (x : Int) : List Int → List Int
  | [] => [x]
  | y :: r => if x ≤ y then x :: y :: r else y :: insZ x r
def srtZ (l : List Int) : List Int := l.foldr insZ []
theorem insZ_perm (x : Int) : ∀ l, (insZ x l).Perm (x :: l)
  | [] => .refl _
  | y :: r => by
    unfold insZ
    split
    · exact .refl _
    · exact ((insZ_perm x r).cons y).trans (.swap x y r)
theorem srtZ_perm : ∀ l, (srtZ l).Perm l
  | [] => .refl _
  | x :: r => (insZ_perm x (srtZ r)).trans ((srtZ_perm r).cons x)
theorem insZ_sorted (x : Int) : ∀ l : List Int, l.Pairwise (· ≤ ·) → (insZ x l).Pairwise (· ≤ ·)
  | [], _ => List.pairwise_singleton _ _
  | y :: r, h => by
    unfold insZ
    have h' := List.pairwise_cons.mp h
    split
    · next c =>
      refine List.pairwise_cons.mpr ⟨fun z hz => ?_, h⟩
      rcases List.mem_cons.mp hz with rfl | hz
      · exact c
      · exact Int.le_trans c (h'.1 z hz)
    · next c =>
      refine List.pairwise_cons.mpr ⟨fun z hz => ?_, insZ_sorted x r h'.2⟩
      rcases List.mem_cons.mp ((insZ_perm x r).mem_iff.mp hz) with rfl | hz
      · omega
      · exact h'.1 z hz
theorem srtZ_sorted : ∀ l : List Int, (srtZ l).Pairwise (· ≤ ·)
  | [] => .nil
  | x :: r => insZ_sorted x _ (srtZ_sorted r)
theorem sorted_unique : ∀ {a b : List Int}, a.Perm b → a.Pairwise (· ≤ ·) → b.Pairwise (· ≤ ·) → a = b
  | [], b, p, _, _ => (List.nil_perm.mp p).symm
  | x :: r, [], p, _, _ => absurd (List.perm_nil.mp p) (by simp)
  | x :: r, y :: t, p, ha, hb => by
    have ha' := List.pairwise_cons.mp ha
    have hb' := List.pairwise_cons.mp hb
    have e : x = y := by
      rcases List.mem_cons.mp (p.mem_iff.mp (List.mem_cons_self (a := x) (l := r))) with h | h
      · exact h
      · rcases List.mem_cons.mp (p.symm.mem_iff.mp (List.mem_cons_self (a := y) (l := t))) with h2 | h2
        · exact h2.symm
        · exact Int.le_antisymm (ha'.1 y h2) (hb'.1 x h)
    subst e
    rw [sorted_unique ((List.perm_cons x).mp p) ha'.2 hb'.2]
theorem srtZ_of {a b : List Int} (p : a.Perm b) (h : a.Pairwise (· ≤ ·)) : a = srtZ b := sorted_unique (p.trans (srtZ_perm b).symm) h (srtZ_sorted b)
theorem srtZ_congr {a b : List Int} (p : a.Perm b) : srtZ a = srtZ b := sorted_unique ((srtZ_perm a).trans (p.trans (srtZ_perm b).symm)) (srtZ_sorted a) (srtZ_sorted b)
def rSortT (K : PySem.W.Frag) : List V → Hp → VK → Prop := fun vs H Q => ∃ (a : Addr) (ns : List Int), vs = [V.ref a] ∧ SqT K H a (ns.map V.int) ∧
  ∀ p : Addr, H p = none → Q (.ref p) (upd H p (.lst ((srtZ ns).map V.int)))
theorem cr_sortT {X : Cx} : CallR X (.builtin "sorted") (rSortT X.K) := by
  intro pins s σ H vs us Q I r h
  obtain ⟨a, ns, rfl, hs, q⟩ := h
  obtain ⟨its, rv, hl, lz⟩ := I.tuple hs
  rw [Vals.ref1 r]
  have hi := rv.ints
  have hL : its.length ≤ sizeLine := by rw [← rv.length]; exact lz
  refine sorted_tup hl hi hL fun out ns' h1 h2 h3 => ?_
  obtain ⟨ep, he'⟩ := PyProof.Rows.sortedAll_at s.heap its out
  obtain rfl := srtZ_of h2 h3
  have hlen : ((srtZ ns).map V.int).length ≤ sizeLine := by rw [List.length_map, h2.length_eq]; rwa [List.length_map] at lz
  exact ⟨.ref _, upd H (s.heap.objs.size + 1) (.lst ((srtZ ns).map V.int)), I.laid (t' := s.toks) (fun _ _ => PyProof.Rows.sortedAll_old) (Nat.le_succ _) ⟨hlen, out.toList, ep, vals_of_ints h1, he'⟩, rfl, q _ (I.hok.fresh (Nat.le_succ _))⟩
theorem k_sortT {X : Cx} {K : PySem.W.Frag} (e : X.K = K) : CallR X (.builtin "sorted") (rSortT K) := by
  subst e
  exact cr_sortT
theorem w_sortT {K : PySem.W.Frag} {H : Hp} {Q : VK} {a : Addr} {ns ms : List Int} (h : SqT K H a (ns.map V.int)) (e : srtZ ns = ms) (q : ∀ p H', H p = none → H' = upd H p (.lst (ms.map V.int)) → Q (.ref p) H') : rSortT K [.ref a] H Q :=
  ⟨a, ns, rfl, h, fun p hp => by rw [e]; exact q p _ hp rfl⟩
/-! ### locked or not -/
def tLockO (t : TS) : TS := fun D σ H => tLock t D σ H ∨ t D σ H
theorem ps_lockO {X : Cx} {st : Stmt} {t : TS} (h : PS X st t) : PS X st (tLockO t) := by
  refine ⟨fun pins s σ H D I hw => ?_⟩
  rcases hw with hw | hw
  · exact (ps_lock h).run pins s σ H D I hw
  · exact h.run pins s σ H D I hw
/-! min and max of a pair -/
section
variable {prog : Program} {w : World} {A : Around} {E : Value → Shared → Prop} {s : Shared}
theorem max_pair {l : Addr} {a b : Int} {t u : Tok} {Q : Value → Shared → Prop} (hh : A.handled = none) (hl : IsTup s.heap l #[.int a t, .int b u])
    (h : ∀ h' tk, (∀ c o, s.heap.get? c = some o → h'.get? c = some o) → Q (if b > a then .int b u else .int a t) { s with heap := h', toks := tk }) :
    wpAny (model prog w) A (call (.builtin "max") [.ref l]) Q E s := by
  have hT : s.heap.IsTuple l (intItems #[(a, t), (b, u)]) := by
    obtain ⟨o, h1, h2, n, h3⟩ := hl
    exact ⟨o, h1, h2, n, by rw [h3]; simp [intItems]⟩
  have hlt : l < s.heap.objs.size := by obtain ⟨_, e, _⟩ := hT; exact Heap.lt_size e
  refine call_max_walk (wpAny_pyIter_tuple hT ?_)
  refine ⟨_, _, [_], _, _, _, _, rfl, Walks.tuple (A := A.in1) hh _ l (Nat.ne_of_lt hlt) (intItems #[(a, t), (b, u)]), ⟨⟨_, Heap.get?_push_size _ rfl, rfl, rfl⟩, hT.push _⟩, fun c hc => ?_, by simp [intItems], CmpOf.ints_gt (numAt #[(a, t), (b, u)]) (fun _ _ => intItems_at), fun v h' tk hP hk => ?_⟩
  · show c < (s.heap.push _).objs.size
    rw [Heap.size_push]
    rcases List.mem_cons.mp hc with rfl | hc
    · exact Nat.lt_succ_self _
    · rcases List.mem_cons.mp hc with rfl | hc
      · exact Nat.lt_succ_of_lt hlt
      · cases hc
  · have hold : ∀ c o, s.heap.get? c = some o → h'.get? c = some o := fun c o e => by
      refine hk c o (fun hm => ?_) (Heap.get?_push_of_some _ e)
      rcases List.mem_cons.mp hm with e1 | hm
      · have := Heap.lt_size e; rw [e1] at this; exact Nat.lt_irrefl _ this
      · cases hm
    have := h h' tk hold
    have hv : v = if b > a then Value.int b u else Value.int a t := by
      have hP' : (intItems #[(a, t), (b, u)])[argBest (fun i j => decide (numAt #[(a, t), (b, u)] i > numAt #[(a, t), (b, u)] j)) 1]? = some v := by
        have hsz2 : (intItems #[(a, t), (b, u)]).size - 1 = 1 := by simp [intItems]
        rw [← hsz2]; exact hP
      by_cases hba : b > a
      · have e : argBest (fun i j => decide (numAt #[(a, t), (b, u)] i > numAt #[(a, t), (b, u)] j)) 1 = 1 := by simp [argBest, numAt, hba]
        rw [e] at hP'
        simpa [intItems, hba] using hP'.symm
      · have e : argBest (fun i j => decide (numAt #[(a, t), (b, u)] i > numAt #[(a, t), (b, u)] j)) 1 = 0 := by simp [argBest, numAt, hba]
        rw [e] at hP'
        simpa [intItems, hba] using hP'.symm
    rw [hv]; exact this
theorem min_pair {l : Addr} {a b : Int} {t u : Tok} {Q : Value → Shared → Prop} (hh : A.handled = none) (hl : IsTup s.heap l #[.int a t, .int b u])
    (h : ∀ h' tk, (∀ c o, s.heap.get? c = some o → h'.get? c = some o) → Q (if b < a then .int b u else .int a t) { s with heap := h', toks := tk }) :
    wpAny (model prog w) A (call (.builtin "min") [.ref l]) Q E s := by
  have hT : s.heap.IsTuple l (intItems #[(a, t), (b, u)]) := by
    obtain ⟨o, h1, h2, n, h3⟩ := hl
    exact ⟨o, h1, h2, n, by rw [h3]; simp [intItems]⟩
  have hlt : l < s.heap.objs.size := by obtain ⟨_, e, _⟩ := hT; exact Heap.lt_size e
  refine call_min_walk (wpAny_pyIter_tuple hT ?_)
  refine ⟨_, _, [_], _, _, _, _, rfl, Walks.tuple (A := A.in1) hh _ l (Nat.ne_of_lt hlt) (intItems #[(a, t), (b, u)]), ⟨⟨_, Heap.get?_push_size _ rfl, rfl, rfl⟩, hT.push _⟩, fun c hc => ?_, by simp [intItems], CmpOf.ints_lt (numAt #[(a, t), (b, u)]) (fun _ _ => intItems_at), fun v h' tk hP hk => ?_⟩
  · show c < (s.heap.push _).objs.size
    rw [Heap.size_push]
    rcases List.mem_cons.mp hc with rfl | hc
    · exact Nat.lt_succ_self _
    · rcases List.mem_cons.mp hc with rfl | hc
      · exact Nat.lt_succ_of_lt hlt
      · cases hc
  · have hold : ∀ c o, s.heap.get? c = some o → h'.get? c = some o := fun c o e => by
      refine hk c o (fun hm => ?_) (Heap.get?_push_of_some _ e)
      rcases List.mem_cons.mp hm with e1 | hm
      · have := Heap.lt_size e; rw [e1] at this; exact Nat.lt_irrefl _ this
      · cases hm
    have := h h' tk hold
    have hv : v = if b < a then Value.int b u else Value.int a t := by
      have hP' : (intItems #[(a, t), (b, u)])[argBest (fun i j => decide (numAt #[(a, t), (b, u)] i < numAt #[(a, t), (b, u)] j)) 1]? = some v := by
        have hsz2 : (intItems #[(a, t), (b, u)]).size - 1 = 1 := by simp [intItems]
        rw [← hsz2]; exact hP
      by_cases hba : b < a
      · have e : argBest (fun i j => decide (numAt #[(a, t), (b, u)] i < numAt #[(a, t), (b, u)] j)) 1 = 1 := by simp [argBest, numAt, hba]
        rw [e] at hP'
        simpa [intItems, hba] using hP'.symm
      · have e : argBest (fun i j => decide (numAt #[(a, t), (b, u)] i < numAt #[(a, t), (b, u)] j)) 1 = 0 := by simp [argBest, numAt, hba]
        rw [e] at hP'
        simpa [intItems, hba] using hP'.symm
    rw [hv]; exact this
end
def rMaxP (K : PySem.W.Frag) : List V → Hp → VK → Prop := fun vs H Q => ∃ (p : Addr) (i j : Int), vs = [.ref p] ∧ SqT K H p [.int i, .int j] ∧ Q (.int (if j > i then j else i)) H
theorem cr_maxP {X : Cx} {K : PySem.W.Frag} (eK : X.K = K) (hc : X.calm = true) : CallR X (.builtin "max") (rMaxP K) := by
  subst eK
  intro pins s σ H vs us Q I r h
  obtain ⟨p, i, j, rfl, hs, q⟩ := h
  obtain ⟨its, rv, hl, lz⟩ := I.tuple hs
  rw [Vals.ref1 r]
  obtain ⟨t, u, rfl⟩ : ∃ t u, its = [.int i t, .int j u] := by
    obtain ⟨v1, h1, r1⟩ := Vals.get (i := 0) rv rfl
    obtain ⟨v2, h2, r2⟩ := Vals.get (i := 1) rv rfl
    obtain ⟨t, rfl⟩ := (show ∃ t, v1 = Value.int i t from r1)
    obtain ⟨u, rfl⟩ := (show ∃ t, v2 = Value.int j t from r2)
    have l := rv.length
    match its, l, h1, h2 with
    | [x, y], _, h1, h2 =>
      simp at h1 h2
      exact ⟨t, u, by rw [h1, h2]⟩
  refine max_pair (I.ok.hd hc) hl fun h' tk hk => ?_
  split
  · next c => exact ⟨.int j, H, I.kept hk, ⟨u, rfl⟩, by rw [if_pos c] at q; exact q⟩
  · next c => exact ⟨.int i, H, I.kept hk, ⟨t, rfl⟩, by rw [if_neg c] at q; exact q⟩
def rMinP (K : PySem.W.Frag) : List V → Hp → VK → Prop := fun vs H Q => ∃ (p : Addr) (i j : Int), vs = [.ref p] ∧ SqT K H p [.int i, .int j] ∧ Q (.int (if j < i then j else i)) H
theorem cr_minP {X : Cx} {K : PySem.W.Frag} (eK : X.K = K) (hc : X.calm = true) : CallR X (.builtin "min") (rMinP K) := by
  subst eK
  intro pins s σ H vs us Q I r h
  obtain ⟨p, i, j, rfl, hs, q⟩ := h
  obtain ⟨its, rv, hl, lz⟩ := I.tuple hs
  rw [Vals.ref1 r]
  obtain ⟨t, u, rfl⟩ : ∃ t u, its = [.int i t, .int j u] := by
    obtain ⟨v1, h1, r1⟩ := Vals.get (i := 0) rv rfl
    obtain ⟨v2, h2, r2⟩ := Vals.get (i := 1) rv rfl
    obtain ⟨t, rfl⟩ := (show ∃ t, v1 = Value.int i t from r1)
    obtain ⟨u, rfl⟩ := (show ∃ t, v2 = Value.int j t from r2)
    have l := rv.length
    match its, l, h1, h2 with
    | [x, y], _, h1, h2 =>
      simp at h1 h2
      exact ⟨t, u, by rw [h1, h2]⟩
  refine min_pair (I.ok.hd hc) hl fun h' tk hk => ?_
  split
  · next c => exact ⟨.int j, H, I.kept hk, ⟨u, rfl⟩, by rw [if_pos c] at q; exact q⟩
  · next c => exact ⟨.int i, H, I.kept hk, ⟨t, rfl⟩, by rw [if_neg c] at q; exact q⟩

theorem w_maxP {K : PySem.W.Frag} {H : Hp} {Q : VK} {p : Addr} {i j : Int} (h : SqT K H p [.int i, .int j]) (q : Q (.int (max i j)) H) : rMaxP K [.ref p] H Q := ⟨p, i, j, rfl, h, by
  rw [show (if j > i then j else i) = max i j by rw [Int.max_def]; split <;> split <;> omega]
  exact q⟩
theorem w_minP {K : PySem.W.Frag} {H : Hp} {Q : VK} {p : Addr} {i j : Int} (h : SqT K H p [.int i, .int j]) (q : Q (.int (min i j)) H) : rMinP K [.ref p] H Q := ⟨p, i, j, rfl, h, by
  rw [show (if j < i then j else i) = min i j by rw [Int.min_def]; split <;> split <;> omega]
  exact q⟩
end So
set_option Elab.async false
set_option linter.all false
set_option maxRecDepth 100000
set_option maxHeartbeats 4000000
/-! sums of products of letters: the numbers behind the dicts, and the loops that walk them -/
namespace Ks
open PySem PySem.Spec L2 RT Rn So
abbrev Sm := List (List Int × Int)
def kI (p : List Int) : List Key := p.map .inl
def kS (x : Sm) : List (List Key × V) := x.map fun p => (kI p.1, V.int p.2)
def keys (x : Sm) : List (List Int) := x.map (·.1)
def getS (x : Sm) (k : List Int) : Int := ((x.find? fun p => decide (p.1 = k)).map (·.2)).getD 0
def putS (x : Sm) (k : List Int) (v : Int) : Sm := if (x.any fun p => decide (p.1 = k)) = true then x.map (fun p => if p.1 = k then (p.1, v) else p) else x ++ [(k, v)]
def nz (x : Sm) : Sm := x.filter fun p => decide (p.2 ≠ 0)
def addS (by_ : Int) (t : Sm) (p : List Int × Int) : Sm := putS t p.1 (getS t p.1 + by_ * p.2)
def plusS (x : Sm) (by_ : Int) (y : Sm) : Sm := nz (y.foldl (addS by_) x)
def mulS (l : List Int × Int) (t : Sm) (r : List Int × Int) : Sm := putS t (srtZ (l.1 ++ r.1)) (getS t (srtZ (l.1 ++ r.1)) + l.2 * r.2)
def timesS (x y : Sm) : Sm := nz (x.foldl (fun t l => y.foldl (mulS l) t) [])
theorem kI_inj {a b : List Int} (h : kI a = kI b) : a = b := by
  induction a generalizing b with
  | nil => cases b with
    | nil => rfl
    | cons _ _ => cases h
  | cons x r ih => cases b with
    | nil => cases h
    | cons y t =>
      injection h with h1 h2
      injection h1 with h3
      rw [h3, ih h2]
theorem kI_iff {a b : List Int} : kI a = kI b ↔ a = b := ⟨kI_inj, fun h => by rw [h]⟩
theorem mapK (p : List Int) : (kI p).map kV = p.map V.int := by
  unfold kI
  rw [List.map_map]
  rfl
theorem find_kS (k : List Int) : ∀ x : Sm, (kS x).find? (fun kv => decide (kv.1 = kI k)) = (x.find? fun p => decide (p.1 = k)).map fun p => (kI p.1, V.int p.2)
  | [] => rfl
  | p :: r => by
    show ((kI p.1, V.int p.2) :: kS r).find? _ = _
    rw [List.find?_cons, List.find?_cons]
    by_cases h : p.1 = k
    · simp [h]
    · have h2 : ¬ kI p.1 = kI k := fun e => h (kI_inj e)
      simp only [h2, h, decide_false]
      exact find_kS k r
theorem val_kS (x : Sm) (k : List Int) : (valV (kS x) (kI k)).getD (.int 0) = .int (getS x k) := by
  unfold valV getS
  rw [find_kS]
  cases x.find? (fun p => decide (p.1 = k)) <;> rfl
theorem any_kS (x : Sm) (k : List Int) : ((kS x).any fun kv => decide (kv.1 = kI k)) = x.any fun p => decide (p.1 = k) := by
  induction x with
  | nil => rfl
  | cons p r ih =>
    show (decide (kI p.1 = kI k) || (kS r).any _) = _
    rw [ih, List.any_cons]
    simp only [kI_iff]
theorem put_kS (x : Sm) (k : List Int) (v : Int) : putK (kS x) (kI k) (.int v) = kS (putS x k v) := by
  unfold putK putS
  rw [any_kS]
  split
  · unfold kS
    rw [List.map_map, List.map_map]
    refine List.map_congr_left fun p _ => ?_
    show (if kI p.1 = kI k then _ else _) = (kI (if p.1 = k then (p.1, v) else p).1, V.int (if p.1 = k then (p.1, v) else p).2)
    by_cases h : p.1 = k
    · rw [if_pos h, if_pos (kI_iff.mpr h)]
    · rw [if_neg h, if_neg (fun e => h (kI_inj e))]
  · unfold kS
    rw [List.map_append]
    rfl
theorem len_kS (x : Sm) : (kS x).length = x.length := by unfold kS; rw [List.length_map]
theorem get_kS {x : Sm} {i : Nat} {k : List Key} {v : V} (h : (kS x)[i]? = some (k, v)) : ∃ p, x[i]? = some p ∧ k = kI p.1 ∧ v = .int p.2 := by
  unfold kS at h
  rw [List.getElem?_map] at h
  obtain ⟨p, hp, e⟩ := Option.map_eq_some_iff.mp h
  cases e
  exact ⟨p, hp, rfl, rfl⟩
theorem flat_kS (x : Sm) : Td.flatT (kS x) = true := by
  unfold Td.flatT kS
  rw [List.all_map]
  exact List.all_eq_true.mpr fun p _ => rfl
/-! ### what the numbers come to -/
theorem any_key (k : List Int) : ∀ x : Sm, (x.any fun p => decide (p.1 = k)) = decide (k ∈ keys x)
  | [] => rfl
  | p :: r => by
    rw [List.any_cons, any_key k r]
    unfold keys
    rw [List.map_cons]
    simp only [List.mem_cons]
    by_cases h : p.1 = k
    · simp [h]
    · have h2 : ¬ k = p.1 := fun e => h e.symm
      simp [h, h2]
theorem keys_put (x : Sm) (k : List Int) (v : Int) : keys (putS x k v) = if k ∈ keys x then keys x else keys x ++ [k] := by
  unfold putS
  rw [any_key]
  by_cases h : k ∈ keys x
  · rw [if_pos (decide_eq_true h), if_pos h]
    unfold keys
    rw [List.map_map]
    refine List.map_congr_left fun p _ => ?_
    show (if p.1 = k then (p.1, v) else p).1 = p.1
    split <;> rfl
  · rw [if_neg (by simp [h]), if_neg h]
    unfold keys
    rw [List.map_append]
    rfl
theorem nd_put {x : Sm} {k : List Int} {v : Int} (h : (keys x).Nodup) : (keys (putS x k v)).Nodup := by
  rw [keys_put]
  split
  · exact h
  · next c =>
    refine List.nodup_append.mpr ⟨h, List.nodup_cons.mpr ⟨List.not_mem_nil, List.nodup_nil⟩, fun a ha b hb e => ?_⟩
    rw [List.mem_singleton] at hb
    rw [e, hb] at ha
    exact c ha
theorem len_put (x : Sm) (k : List Int) (v : Int) : (putS x k v).length ≤ x.length + 1 := by
  unfold putS
  split
  · rw [List.length_map]
    omega
  · rw [List.length_append]
    exact Nat.le_refl _
theorem nd_foldl {α : Type} (f : Sm → α → Sm) (hf : ∀ t a, (keys t).Nodup → (keys (f t a)).Nodup) : ∀ (l : List α) (t : Sm), (keys t).Nodup → (keys (l.foldl f t)).Nodup
  | [], _, h => h
  | a :: r, t, h => nd_foldl f hf r _ (hf t a h)
theorem len_foldl {α : Type} (f : Sm → α → Sm) (m : Nat) (hf : ∀ t a, (f t a).length ≤ t.length + m) : ∀ (l : List α) (t : Sm), (l.foldl f t).length ≤ t.length + m * l.length
  | [], _ => Nat.le_refl _
  | a :: r, t => by
    have h := len_foldl f m hf r (f t a)
    have h2 := hf t a
    have h3 : m * (a :: r).length = m * r.length + m := by rw [List.length_cons, Nat.mul_succ]
    rw [List.foldl_cons]
    omega
theorem nd_nz {x : Sm} (h : (keys x).Nodup) : (keys (nz x)).Nodup := by
  unfold keys nz
  exact (List.Sublist.map _ List.filter_sublist).nodup h
theorem nd_add {by_ : Int} (y : Sm) {x : Sm} (h : (keys x).Nodup) : (keys (y.foldl (addS by_) x)).Nodup := nd_foldl _ (fun _ _ => nd_put) y x h
theorem nd_plus {x y : Sm} {by_ : Int} (h : (keys x).Nodup) : (keys (plusS x by_ y)).Nodup := nd_nz (nd_add y h)
theorem nd_mul (y : Sm) (l : List Int × Int) {t : Sm} (h : (keys t).Nodup) : (keys (y.foldl (mulS l) t)).Nodup := nd_foldl _ (fun _ _ => nd_put) y t h
theorem nd_times {x y : Sm} : (keys (timesS x y)).Nodup := nd_nz (nd_foldl _ (fun t l h => nd_mul y l h) x [] List.nodup_nil)
theorem len_nz (x : Sm) : (nz x).length ≤ x.length := List.length_filter_le _ _
theorem len_add (by_ : Int) (x y : Sm) : (y.foldl (addS by_) x).length ≤ x.length + y.length := by
  have h := len_foldl (addS by_) 1 (fun t a => len_put _ _ _) y x
  omega
theorem len_mul (l : List Int × Int) (t y : Sm) : (y.foldl (mulS l) t).length ≤ t.length + y.length := by
  have h := len_foldl (mulS l) 1 (fun t a => len_put _ _ _) y t
  omega
theorem len_times0 (x y : Sm) : (x.foldl (fun t l => y.foldl (mulS l) t) []).length ≤ y.length * x.length := by
  have h := len_foldl (fun t l => y.foldl (mulS l) t) y.length (fun t a => len_mul a t y) x []
  simpa using h
/-- the value of a sum where f tells a product's: linear in the sum -/
def ev (f : List Int → Int) : Sm → Int
  | [] => 0
  | p :: r => p.2 * f p.1 + ev f r
theorem ev_app (f : List Int → Int) : ∀ x y : Sm, ev f (x ++ y) = ev f x + ev f y
  | [], y => by simp [ev]
  | p :: r, y => by
    show p.2 * f p.1 + ev f (r ++ y) = p.2 * f p.1 + ev f r + ev f y
    rw [ev_app f r y]
    omega
theorem getS_cons (p : List Int × Int) (r : Sm) (k : List Int) : getS (p :: r) k = if p.1 = k then p.2 else getS r k := by
  unfold getS
  rw [List.find?_cons]
  by_cases h : p.1 = k <;> simp [h]
theorem getS_out {k : List Int} : ∀ {x : Sm}, k ∉ keys x → getS x k = 0
  | [], _ => rfl
  | p :: r, h => by
    rw [getS_cons, if_neg (fun e => h (by unfold keys; rw [List.map_cons, e]; exact List.mem_cons_self))]
    exact getS_out fun m => h (by unfold keys; rw [List.map_cons]; exact List.mem_cons_of_mem _ m)
theorem map_out {k : List Int} {v : Int} {x : Sm} (h : k ∉ keys x) : x.map (fun p => if p.1 = k then (p.1, v) else p) = x := by
  have e : x.map (fun p => if p.1 = k then (p.1, v) else p) = x.map id := List.map_congr_left fun p hp => by
    rw [if_neg (fun e => h (by rw [← e]; exact List.mem_map_of_mem hp))]
    rfl
  rw [e, List.map_id]
theorem ev_put (f : List Int → Int) (k : List Int) (v : Int) : ∀ {x : Sm}, (keys x).Nodup → ev f (putS x k v) = ev f x + (v - getS x k) * f k
  | [], _ => by
    show v * f k + 0 = 0 + (v - 0) * f k
    rw [Int.sub_zero]
    omega
  | p :: r, h => by
    have hk : p.1 ∉ keys r ∧ (keys r).Nodup := List.nodup_cons.mp h
    have ih := ev_put f k v hk.2
    rw [getS_cons]
    by_cases c : p.1 = k
    · rw [if_pos c]
      have hm : k ∉ keys r := by rw [← c]; exact hk.1
      have e : putS (p :: r) k v = (p.1, v) :: r := by
        unfold putS
        rw [List.any_cons, decide_eq_true c, Bool.true_or, if_pos rfl, List.map_cons, if_pos c, map_out hm]
      rw [e]
      show v * f p.1 + ev f r = p.2 * f p.1 + ev f r + (v - p.2) * f k
      rw [c, Int.sub_mul]
      omega
    · rw [if_neg c]
      have e : putS (p :: r) k v = p :: putS r k v := by
        unfold putS
        rw [List.any_cons, decide_eq_false c, Bool.false_or]
        split
        · rw [List.map_cons, if_neg c]
        · rfl
      rw [e]
      show p.2 * f p.1 + ev f (putS r k v) = p.2 * f p.1 + ev f r + _
      rw [ih]
      omega
theorem ev_nz (f : List Int → Int) : ∀ x : Sm, ev f (nz x) = ev f x
  | [] => rfl
  | p :: r => by
    unfold nz
    rw [List.filter_cons]
    split
    · show p.2 * f p.1 + ev f (nz r) = p.2 * f p.1 + ev f r
      rw [ev_nz f r]
    · next h =>
      have e : p.2 = 0 := by simpa using h
      show ev f (nz r) = p.2 * f p.1 + ev f r
      rw [ev_nz f r, e]
      omega
theorem ev_addF (f : List Int → Int) (c : Int) : ∀ (y x : Sm), (keys x).Nodup → ev f (y.foldl (addS c) x) = ev f x + c * ev f y
  | [], x, _ => by
    show ev f x = ev f x + c * 0
    omega
  | p :: r, x, h => by
    rw [List.foldl_cons, ev_addF f c r _ (show (keys (addS c x p)).Nodup from nd_put h)]
    unfold addS
    rw [ev_put f _ _ h]
    show ev f x + (getS x p.1 + c * p.2 - getS x p.1) * f p.1 + c * ev f r = ev f x + c * (p.2 * f p.1 + ev f r)
    have e : getS x p.1 + c * p.2 - getS x p.1 = c * p.2 := by omega
    rw [e, Int.mul_add, Int.mul_assoc]
    omega
theorem ev_plus (f : List Int → Int) (c : Int) {x y : Sm} (h : (keys x).Nodup) : ev f (plusS x c y) = ev f x + c * ev f y := by
  unfold plusS
  rw [ev_nz, ev_addF f c y x h]
theorem ev_mulF (f : List Int → Int) (l : List Int × Int) : ∀ (y t : Sm), (keys t).Nodup → ev f (y.foldl (mulS l) t) = ev f t + l.2 * ev (fun r => f (srtZ (l.1 ++ r))) y
  | [], t, _ => by
    show ev f t = ev f t + l.2 * 0
    omega
  | p :: r, t, h => by
    rw [List.foldl_cons, ev_mulF f l r _ (show (keys (mulS l t p)).Nodup from nd_put h)]
    unfold mulS
    rw [ev_put f _ _ h]
    show ev f t + (getS t (srtZ (l.1 ++ p.1)) + l.2 * p.2 - getS t (srtZ (l.1 ++ p.1))) * f (srtZ (l.1 ++ p.1)) + l.2 * ev (fun r => f (srtZ (l.1 ++ r))) r = ev f t + l.2 * (p.2 * f (srtZ (l.1 ++ p.1)) + ev (fun r => f (srtZ (l.1 ++ r))) r)
    rw [show getS t (srtZ (l.1 ++ p.1)) + l.2 * p.2 - getS t (srtZ (l.1 ++ p.1)) = l.2 * p.2 by omega, Int.mul_add, Int.mul_assoc]
    omega
theorem ev_timesF (f : List Int → Int) (y : Sm) : ∀ (x t : Sm), (keys t).Nodup → ev f (x.foldl (fun t l => y.foldl (mulS l) t) t) = ev f t + ev (fun l => ev (fun r => f (srtZ (l ++ r))) y) x
  | [], t, _ => by
    show ev f t = ev f t + 0
    omega
  | p :: r, t, h => by
    rw [List.foldl_cons, ev_timesF f y r _ (nd_mul y p h), ev_mulF f p y t h]
    show _ = ev f t + (p.2 * ev (fun r => f (srtZ (p.1 ++ r))) y + ev _ r)
    omega
theorem ev_times (f : List Int → Int) (x y : Sm) : ev f (timesS x y) = ev (fun l => ev (fun r => f (srtZ (l ++ r))) y) x := by
  unfold timesS
  rw [ev_nz, ev_timesF f y x [] List.nodup_nil]
  show (0 : Int) + _ = _
  omega
theorem ev_congr {f g : List Int → Int} (h : ∀ p, f p = g p) (x : Sm) : ev f x = ev g x := by rw [show f = g from funext h]
def dl (k : List Int) : List Int → Int := fun p => if p = k then 1 else 0
theorem ev_dl (k : List Int) : ∀ {x : Sm}, (keys x).Nodup → ev (dl k) x = getS x k
  | [], _ => rfl
  | p :: r, h => by
    have hk : p.1 ∉ keys r ∧ (keys r).Nodup := List.nodup_cons.mp h
    show p.2 * (if p.1 = k then 1 else 0) + ev (dl k) r = _
    rw [ev_dl k hk.2, getS_cons]
    split
    · next c =>
      rw [getS_out (by rw [← c]; exact hk.1)]
      omega
    · omega
theorem nz_ne {x : Sm} : ∀ p ∈ nz x, p.2 ≠ 0 := fun p hp => by
  unfold nz at hp
  simpa using (List.mem_filter.mp hp).2
theorem getS_head {p : List Int × Int} {r : Sm} : getS (p :: r) p.1 = p.2 := by rw [getS_cons, if_pos rfl]
theorem nil_of_ev {x : Sm} (nd : (keys x).Nodup) (n : ∀ p ∈ x, p.2 ≠ 0) (h : ∀ f, ev f x = 0) : x = [] := by
  cases x with
  | nil => rfl
  | cons p r =>
    have e := h (dl p.1)
    rw [ev_dl _ nd, getS_head] at e
    exact absurd e (n p List.mem_cons_self)
theorem plus_nil {x y : Sm} {c : Int} (nd : (keys x).Nodup) (h : ∀ f, ev f x + c * ev f y = 0) : plusS x c y = [] :=
  nil_of_ev (nd_plus nd) (fun p hp => nz_ne p hp) fun f => by rw [ev_plus f c nd]; exact h f
/-! ### the walks -/
section
variable {σ : St} {H : Hp} {D : Ends} {g : TG} {tb : TS} {d : Addr} {o : Obj} {x : Sm}
theorem lpT (Pv : Nat → St → Hp → Prop) (h0 : Pv 0 σ H) (hl : ∀ i σ H, i ≤ x.length → Pv i σ H → H d = some (.frz o (.dT (kS x))))
    (hs : ∀ i p σ H q a H', x[i]? = some p → Pv i σ H → H q = some (.tup (p.1.map V.int)) → H a = none → H' = upd H a (.tup [.ref q, .int p.2]) → H' a = some (.tup [.ref q, .int p.2]) → g (.ref a) σ H' fun σ2 H2 => tb { D with nx := Pv (i + 1), ct := Pv (i + 1), bk := D.nx } σ2 H2) (hd : ∀ σ H, Pv x.length σ H → D.nx σ H) :
    Lp (Td.ItiT d o (kS x)) g tb D σ H := by
  refine ⟨fun i m σ H => m = x.length - i ∧ i ≤ x.length ∧ Pv i σ H, ⟨x.length, by simp, Nat.zero_le _, h0⟩, ?_⟩
  rintro i m σ H ⟨rfl, hi, p⟩
  have q := hl i σ H hi p
  by_cases hlt : i < x.length
  · refine .inr ⟨⟨q, by rw [len_kS]; exact hlt⟩, Pv (i + 1), fun σ' H' p' => ⟨x.length - (i + 1), by omega, rfl, hlt, p'⟩, fun v H' y => ?_⟩
    obtain ⟨a, b, k, w, e1, e2, rfl, e4, e5⟩ := y
    obtain ⟨z, hz, rfl, rfl⟩ := get_kS e1
    rw [mapK] at e2
    exact hs i z σ H b a H' hz p e2 e4 e5 (by rw [e5]; exact upd_same)
  · have e : i = x.length := by omega
    subst e
    exact .inl ⟨⟨q, by rw [len_kS]; exact Nat.le_refl _⟩, hd σ H p⟩
def PutT (D : Addr) (Nx : Hp → Prop) (y z : V) (H5 : Hp) : Prop := ∃ (c : Addr) (kvs : List (List Key × V)) (k : List Key), y = .ref c ∧ H5 c = some (.tup (k.map kV)) ∧ H5 D = some (.dT kvs) ∧ kvs.length < sizeLine ∧ Nx (upd H5 D (.dT (putK kvs k z)))
theorem w_putT {D q : Addr} {Nx : Hp → Prop} {H5 : Hp} {t : Sm} {k : List Int} {v : Int} (hq : H5 q = some (.tup (k.map V.int))) (hD : H5 D = some (.dT (kS t))) (hz : t.length < sizeLine) (h : ∀ H', H' = upd H5 D (.dT (kS (putS t k v))) → H' D = some (.dT (kS (putS t k v))) → Nx H') : PutT D Nx (.ref q) (.int v) H5 :=
  ⟨q, kS t, kI k, rfl, by rw [mapK]; exact hq, hD, by rw [len_kS]; exact hz, by rw [put_kS]; exact h _ rfl upd_same⟩
theorem cqT {tt : TT} {tk tv : TE} {vs : List Nat} {Q : VK} {H1 : Hp} (Pv : Addr → Nat → Hp → Prop) (h0 : ∀ D H2, H1 D = none → Same H1 H2 → H2 D = some (.dT []) → Pv D 0 H2) (hl : ∀ D i H, i ≤ x.length → Pv D i H → H d = some (.frz o (.dT (kS x))))
    (hs : ∀ D i p H q a H', H1 D = none → x[i]? = some p → Pv D i H → H q = some (.tup (p.1.map V.int)) → H a = none → H' = upd H a (.tup [.ref q, .int p.2]) → H' a = some (.tup [.ref q, .int p.2]) → g (.ref a) (wipe σ vs) H' fun σ2 H2 => wipe σ2 vs = wipe σ vs ∧ tt σ2 H2 fun b H3 =>
      if b = true then tk σ2 H3 fun y H4 => tv σ2 H4 fun z H5 => PutT D (Pv D (i + 1)) y z H5 else Pv D (i + 1) H3) (hd : ∀ D H, H1 D = none → Pv D x.length H → Q (.ref D) H) : Td.DcT g tt tk tv vs σ Q (Td.ItiT d o (kS x)) H1 := by
  intro D hD
  refine ⟨fun i m H => m = x.length - i ∧ i ≤ x.length ∧ Pv D i H, ⟨x.length, by simp, Nat.zero_le _, h0 D _ hD (Same.new hD) upd_same⟩, ?_⟩
  rintro i m H ⟨rfl, hi, p⟩
  have q := hl D i H hi p
  by_cases hlt : i < x.length
  · refine .inr ⟨⟨q, by rw [len_kS]; exact hlt⟩, Pv D (i + 1), fun H' p' => ⟨x.length - (i + 1), by omega, rfl, hlt, p'⟩, fun v H' y => ?_⟩
    obtain ⟨a, b, k, w, e1, e2, rfl, e4, e5⟩ := y
    obtain ⟨z, hz, rfl, rfl⟩ := get_kS e1
    rw [mapK] at e2
    exact hs D i z H b a H' hD hz p e2 e4 e5 (by rw [e5]; exact upd_same)
  · have e : i = x.length := by omega
    subst e
    exact .inl ⟨⟨q, by rw [len_kS]; exact Nat.le_refl _⟩, hd D H hD p⟩
theorem w_dcT {wi : TI} {tt : TT} {tk tv : TE} {vs : List Nat} {Q : VK} (h : wi σ H fun J H1 => Td.DcT g tt tk tv vs σ Q J H1) : Td.tDcT wi g tt tk tv vs σ H Q := h
theorem w_itemsT {i : Nat} {R : It → Hp → Prop} (hv : σ[i]? = some (some (.ref d))) (hd : H d = some (.frz o (.dT (kS x)))) (h : R (Td.ItiT d o (kS x)) H) : Td.iItemsT (tVar i) σ H R := by
  refine w_var hv ?_
  exact ⟨d, o, kS x, rfl, hd, h⟩
/-- the loop locks the dict at d -/
theorem w_lockT {t : TS} (hd : H d = some (.dT (kS x))) (h : ∀ od H', H' = upd H d (.frz od (.dT (kS x))) → H' d = some (.frz od (.dT (kS x))) → t ⟨fun σ' H' => H' d = some (.frz od (.dT (kS x))) ∧ D.nx σ' (upd H' d (.dT (kS x))), fun v H' => H' d = some (.frz od (.dT (kS x))) ∧ D.rt v (upd H' d (.dT (kS x))), fun σ' H' => H' d = some (.frz od (.dT (kS x))) ∧ D.bk σ' (upd H' d (.dT (kS x))), fun σ' H' => H' d = some (.frz od (.dT (kS x))) ∧ D.ct σ' (upd H' d (.dT (kS x)))⟩ σ H') : tLock t D σ H :=
  ⟨d, _, hd, trivial, fun od => h od _ rfl upd_same⟩
theorem w_lockE {t : TE} {Q : VK} (hd : H d = some (.dT (kS x))) (h : ∀ od H', H' = upd H d (.frz od (.dT (kS x))) → H' d = some (.frz od (.dT (kS x))) → t σ H' fun v H' => H' d = some (.frz od (.dT (kS x))) ∧ Q v (upd H' d (.dT (kS x)))) : tLockE t σ H Q :=
  ⟨d, _, hd, trivial, fun od => h od _ rfl upd_same⟩
theorem w_lockL {t : TS} (h : tLock t D σ H) : tLockO t D σ H := .inl h
theorem w_lockN {t : TS} (h : t D σ H) : tLockO t D σ H := .inr h
end
/-- everything but what is at d and e stands -/
def Kx (d e : Addr) (H H' : Hp) : Prop := ∀ b o, H b = some o → b ≠ d → b ≠ e → H' b = some o
theorem Kx.refl (d e : Addr) (H : Hp) : Kx d e H H := fun _ _ h _ _ => h
theorem Kx.trans {d e : Addr} {A B C : Hp} (x : Kx d e A B) (y : Kx d e B C) : Kx d e A C := fun b o h n m => y b o (x b o h n m) n m
theorem Kx.of {d e : Addr} {H H' : Hp} (s : Same H H') : Kx d e H H' := fun b o h _ _ => s b o h
theorem Kx.l {d e : Addr} {H : Hp} {o : HO} : Kx d e H (upd H d o) := fun b _ h n _ => by rw [upd_ne n]; exact h
theorem Kx.r {d e : Addr} {H : Hp} {o : HO} : Kx d e H (upd H e o) := fun b _ h _ n => by rw [upd_ne n]; exact h
end Ks
set_option Elab.async false
set_option linter.all false
set_option maxRecDepth 100000
set_option maxHeartbeats 4000000
namespace Rn
open PySem PySem.Spec L2 RT So Ks
section
variable {σ : St} {H : Hp} {Q : VK} {tk tv ty tx : TE}
theorem sameP {H H2 : Hp} {p : Addr} {o : HO} (s : Same H H2) (hp : H p = none) : Same H (upd H2 p o) := fun b u h => by
  rw [upd_ne (ne_of_none h hp)]
  exact s b u h
theorem w_dnewT (h : ∀ p H', H p = none → Same H H' → H' p = some (.dT (kS [])) → Q (.ref p) H') : tDNewT σ H Q := fun p hp => h p _ hp (Same.new hp) upd_same
def OneQ (p : Addr) (x y : V) (H2 : Hp) (Q : VK) : Prop := ∃ (b : Addr) (k : List Key), x = .ref b ∧ H2 b = some (.tup (k.map kV)) ∧ H2 p = some (.dT []) ∧ Q (.ref p) (upd H2 p (.dT [(k, y)]))
theorem w_oneT (h : ∀ p H0, H p = none → Same H H0 → H0 p = some (.dT []) → tk σ H0 fun x H1 => tv σ H1 fun y H2 => OneQ p x y H2 Q) : Td.tOneT tk tv σ H Q := fun p hp => h p _ hp (Same.new hp) upd_same
theorem w_oneQ {p b : Addr} {k : List Int} {v : Int} (hb : H b = some (.tup (k.map V.int))) (hp : H p = some (.dT [])) (h : ∀ H', H' = upd H p (.dT (kS [(k, v)])) → H' p = some (.dT (kS [(k, v)])) → Q (.ref p) H') : OneQ p (.ref b) (.int v) H Q :=
  ⟨b, kI k, rfl, by rw [mapK]; exact hb, hp, h _ rfl upd_same⟩
def Get2Q (a : Addr) (y z : V) (H3 : Hp) (Q : VK) : Prop := ∃ o, DGet H3 a y o ∧ Q (o.getD z) H3
theorem w_dget2 {i : Nat} {d : Addr} {u : Sm} (hv : σ[i]? = some (some (.ref d))) (hd : H d = some (.dT (kS u))) (h : ty σ H fun y H2 => tx σ H2 fun z H3 => Get2Q d y z H3 Q) : tDGet2 (tVar i) ty tx σ H Q :=
  w_var hv ⟨d, rfl, .inr ⟨_, .inl hd⟩, h⟩
theorem w_get2 {d q : Addr} {u : Sm} {k : List Int} (hd : H d = some (.dT (kS u))) (hq : H q = some (.tup (k.map V.int))) (h : Q (.int (getS u k)) H) : Get2Q d (.ref q) (.int 0) H Q :=
  ⟨_, .inr ⟨kS u, kI k, q, .inl hd, rfl, by rw [mapK]; exact hq, rfl⟩, by rw [val_kS]; exact h⟩
theorem w_dputT {d q : Addr} {u : Sm} {k : List Int} {v : Int} {R : Hp → Prop} (hd : H d = some (.dT (kS u))) (hq : H q = some (.tup (k.map V.int))) (hz : u.length < sizeLine) (h : ∀ H', H' = upd H d (.dT (kS (putS u k v))) → H' d = some (.dT (kS (putS u k v))) → R H') : DPutQ (.ref d) (.ref q) (.int v) H R :=
  ⟨d, _, rfl, .inr ⟨kS u, kI k, q, hd, rfl, by rw [mapK]; exact hq, by rw [len_kS]; exact hz, rfl⟩, by rw [put_kS]; exact h _ rfl upd_same⟩
def eqS (x y : Sm) : Bool := Td.eqT (kS x) (kS y)
theorem w_eqT {a b : Addr} {x y : Sm} (ha : Rd H a (.dT (kS x))) (hb : Rd H b (.dT (kS y))) (h : Q (.bl (eqS x y)) H) : Td.rEqT (.ref a) (.ref b) H Q := ⟨a, b, kS x, kS y, rfl, rfl, ha, hb, flat_kS x, flat_kS y, h⟩
theorem w_neT {a b : Addr} {x y : Sm} (ha : Rd H a (.dT (kS x))) (hb : Rd H b (.dT (kS y))) (h : Q (.bl (!eqS x y)) H) : Td.rNeT (.ref a) (.ref b) H Q := ⟨a, b, kS x, kS y, rfl, rfl, ha, hb, flat_kS x, flat_kS y, h⟩
end
/-- a sum stands at a -/
def Sd (H : Hp) (a : Addr) (x : Sm) : Prop := H a = some (.dT (kS x)) ∧ (keys x).Nodup
theorem Sd.same {H H' : Hp} {a : Addr} {x : Sm} (s : Same H H') (h : Sd H a x) : Sd H' a x := ⟨s _ _ h.1, h.2⟩
theorem fold_take {α β : Type} (f : β → α → β) (t : β) {y : List α} {i : Nat} {p : α} (h : y[i]? = some p) : (y.take (i + 1)).foldl f t = f ((y.take i).foldl f t) p := by
  rw [List.take_succ, h]
  simp
theorem key_take {x : Sm} {i : Nat} {p : List Int × Int} (nd : (keys x).Nodup) (h : x[i]? = some p) : p.1 ∉ keys (x.take i) := by
  intro m
  obtain ⟨q, hq, e⟩ := List.mem_map.mp m
  obtain ⟨j, hj, e2⟩ := List.mem_iff_getElem.mp hq
  have lj : j < i := by
    rw [List.length_take] at hj
    omega
  rw [List.getElem_take] at e2
  obtain ⟨hi, e3⟩ := List.getElem?_eq_some_iff.mp h
  have n := List.pairwise_iff_getElem.mp nd j i (by unfold keys; rw [List.length_map]; omega) (by unfold keys; rw [List.length_map]; omega) lj
  apply n
  unfold keys
  rw [List.getElem_map, List.getElem_map, e2, e3, e]
theorem put_new {x : Sm} {k : List Int} {v : Int} (h : k ∉ keys x) : putS x k v = x ++ [(k, v)] := by
  unfold putS
  rw [any_key, if_neg (by simp [h])]
theorem put_take {x : Sm} {i : Nat} {p : List Int × Int} (nd : (keys x).Nodup) (h : x[i]? = some p) : putS (x.take i) p.1 p.2 = x.take (i + 1) := by
  rw [put_new (key_take nd h), List.take_succ, h]
  rfl
theorem keys_nz {x : Sm} {k : List Int} (h : k ∉ keys x) : k ∉ keys (nz x) := fun m => h (by
  unfold keys nz at m
  exact (List.Sublist.map _ List.filter_sublist).subset m)
theorem nz_take {x : Sm} {i : Nat} {p : List Int × Int} (nd : (keys x).Nodup) (h : x[i]? = some p) (hp : ¬ p.2 = 0) : putS (nz (x.take i)) p.1 p.2 = nz (x.take (i + 1)) := by
  rw [put_new (keys_nz (key_take nd h)), List.take_succ, h]
  unfold nz
  rw [List.filter_append]
  simp [hp]
theorem nz_take0 {x : Sm} {i : Nat} {p : List Int × Int} (h : x[i]? = some p) (hp : p.2 = 0) : nz (x.take (i + 1)) = nz (x.take i) := by
  rw [List.take_succ, h]
  unfold nz
  rw [List.filter_append]
  simp [hp]
theorem unlock {H H' : Hp} {a : Addr} {u w : HO} (hu : H a = some u) (s : Same (upd H a w) H') : Same H (upd H' a u) := fun b o h => by
  by_cases e : b = a
  · subst e
    rw [upd_same, ← hu, h]
  · rw [upd_ne e]
    exact s b o (by rw [upd_ne e]; exact h)
theorem unlockK {H H' : Hp} {a D : Addr} {u w : HO} (hu : H a = some u) (s : Kx a D (upd H a w) H') : Kx D D H (upd H' a u) := fun b o h n _ => by
  by_cases e : b = a
  · subst e
    rw [upd_same, ← hu, h]
  · rw [upd_ne e]
    exact s b o (by rw [upd_ne e]; exact h) e n
theorem lt_of_get {α : Type} {x : List α} {i : Nat} {p : α} (h : x[i]? = some p) : i < x.length := (List.getElem?_eq_some_iff.mp h).1
theorem take_le {α : Type} (x : List α) (i : Nat) : (x.take i).length ≤ x.length := by
  rw [List.length_take]
  omega
theorem w_lockB {σ : St} {H : Hp} {D : Ends} {t : TS} {b : Addr} {y : Sm} (hb : (∃ od, H b = some (.frz od (.dT (kS y)))) ∨ H b = some (.dT (kS y)))
    (h : ∀ (D' : Ends) (H' : Hp) (od : Obj) (back : Hp → Hp), H' b = some (.frz od (.dT (kS y))) → (∀ c, c ≠ b → H' c = H c) → (∀ σ' H2, H2 b = some (.frz od (.dT (kS y))) → D.nx σ' (back H2) → D'.nx σ' H2) → (∀ H2 c, c ≠ b → back H2 c = H2 c) →
      (∀ H2, H2 b = some (.frz od (.dT (kS y))) → back H2 b = H b) → t D' σ H') : tLockO t D σ H := by
  rcases hb with ⟨od, hb⟩ | hb
  · exact w_lockN (h D H od id hb (fun _ _ => rfl) (fun _ _ _ q => q) (fun _ _ _ => rfl) fun H2 h2 => h2.trans hb.symm)
  · exact w_lockL (w_lockT hb fun od H' e h1 => h _ H' od (fun H2 => upd H2 b (.dT (kS y))) h1 (fun c n => by rw [e, upd_ne n]) (fun _ _ h2 q => ⟨h2, q⟩) (fun _ _ n => upd_ne n) fun _ _ => upd_same.trans hb.symm)
abbrev Deg (x : Sm) : Prop := ∀ p ∈ x, p.1.length ≤ 50000
theorem w_iteN2 {p : Prop} [Decidable p] {A B : Prop} (h1 : p → A) (h2 : ¬ p → B) : if decide p = true then A else B := by
  by_cases h : p
  · rw [decide_eq_true h]
    exact w_iteT (h1 h)
  · rw [decide_eq_false h]
    exact w_iteF (h2 h)
theorem w_enL {K : PySem.W.Frag} {H : Hp} {a : Addr} {xs : List V} {R : It → Hp → Prop} (hS : SqL K H a xs) (h : R (Ite K a) H) : EnQ K R [.ref a] H := ⟨a, rfl, .inr ⟨xs, hS, h⟩⟩
/-- enumerate over a list -/
theorem lp_enL {K : PySem.W.Frag} {σ : St} {H : Hp} {D : Ends} {a : Addr} {xs : List V} {g : TG} {tb : TS} (Pv : Nat → St → Hp → Prop) (h0 : Pv 0 σ H) (hl : ∀ i σ H, i ≤ xs.length → Pv i σ H → SqL K H a xs)
    (hs : ∀ i x σ H T H', xs[i]? = some x → Pv i σ H → H T = none → Same H H' → H' T = some (.tup [.int (i : Nat), x]) → g (.ref T) σ H' fun σ2 H2 => tb { D with nx := Pv (i + 1), ct := Pv (i + 1), bk := D.nx } σ2 H2) (hd : ∀ σ H, Pv xs.length σ H → D.nx σ H) :
    Lp (Ite K a) g tb D σ H := by
  refine ⟨fun i m σ H => m = xs.length - i ∧ i ≤ xs.length ∧ Pv i σ H, ⟨xs.length, by simp, Nat.zero_le _, h0⟩, ?_⟩
  rintro i m σ1 H1 ⟨em, hi, p⟩
  have q := hl i σ1 H1 hi p
  by_cases lt : i < xs.length
  · have hx : xs[i]? = some xs[i] := List.getElem?_eq_getElem lt
    refine .inr ⟨⟨xs, xs[i], q, hx⟩, Pv (i + 1), fun σ' H' p' => ⟨xs.length - (i + 1), by omega, rfl, lt, p'⟩, fun v H' y => ?_⟩
    obtain ⟨T, x, ev, hT, eH, hxx⟩ := y
    have ex : xs[i] = x := Option.some.inj (hx.symm.trans (hxx xs q))
    subst ev eH ex
    exact hs i _ σ1 H1 T _ hx p hT (Same.new hT) upd_same
  · have e : i = xs.length := by omega
    subst e
    exact .inl ⟨⟨xs, q, Nat.le_refl _⟩, hd σ1 H1 p⟩
end Rn
set_option Elab.async false
set_option linter.all false
set_option maxRecDepth 100000
set_option maxHeartbeats 4000000
/-! what is known of a machine in the middle of a handbook: the numbers -/
namespace Rn
open PySem PySem.Spec L2 RT So Ks
def numS (n : Int) : Sm := if n = 0 then [] else [([], n)]
def letS (l : Int) : Sm := [([l], 1)]
theorem nd_num {n : Int} : (keys (numS n)).Nodup := by
  unfold numS
  split
  · exact List.nodup_nil
  · exact List.nodup_cons.mpr ⟨List.not_mem_nil, List.nodup_nil⟩
theorem nd_let {l : Int} : (keys (letS l)).Nodup := List.nodup_cons.mpr ⟨List.not_mem_nil, List.nodup_nil⟩
/-- numbers whose products need no more than the model's limit -/
abbrev Sh64 (x : Sm) : Prop := ∀ p ∈ x, -(2 ^ 64) < p.2 ∧ p.2 < 2 ^ 64
abbrev N64 (n : Int) : Prop := -(2 ^ 64) < n ∧ n < 2 ^ 64
/-- the letters' greatest numbers, multiplied -/
def moS (gr : List Int) (p : List Int) : Int := p.foldl (fun n l => n * gr.getD l.toNat 0) 1
def leF (gr : List Int) (n : Int) (p : List Int × Int) : Int := if p.1 = [] ∨ p.2 < 0 then n + p.2 * moS gr p.1 else n
def leS (gr : List Int) (x : Sm) : Int := x.foldl (leF gr) 0
abbrev Ltr (gr p : List Int) : Prop := ∀ l ∈ p, 0 ≤ l ∧ l < gr.length
abbrev LtrS (gr : List Int) (x : Sm) : Prop := ∀ p ∈ x, Ltr gr p.1
abbrev G64 (gr : List Int) : Prop := ∀ g ∈ gr, N64 g
theorem at_gr {gr : List Int} {l : Int} (h : 0 ≤ l ∧ l < gr.length) : atI (gr.map V.int) l = some (.int (gr.getD l.toNat 0)) := by
  obtain ⟨k, rfl⟩ : ∃ k : Nat, l = k := ⟨l.toNat, by omega⟩
  have hk : k < gr.length := by omega
  unfold atI ixN
  simp only [List.length_map, Int.toNat_natCast]
  rw [if_pos (by omega), if_pos (by omega)]
  simp [hk]
theorem mem_gr {gr : List Int} {l : Int} (h : 0 ≤ l ∧ l < gr.length) : gr.getD l.toNat 0 ∈ gr := by
  have hk : l.toNat < gr.length := by omega
  rw [List.getD_eq_getElem?_getD, List.getElem?_eq_getElem hk]
  exact List.getElem_mem hk
def spNum (K : PySem.W.Frag) : Sp := fun vs H Q _ => ∃ n : Int, vs = [.int n] ∧ ∀ p H', Same H H' → Sd H' p (numS n) → Q (.ref p) H'
def spLet (K : PySem.W.Frag) : Sp := fun vs H Q _ => ∃ l : Int, vs = [.int l] ∧ ∀ p H', Same H H' → Sd H' p (letS l) → Q (.ref p) H'
def spPlus (K : PySem.W.Frag) : Sp := fun vs H Q _ => ∃ (a b : Addr) (x y : Sm) (c : Int), vs = [.ref a, .int c, .ref b] ∧ Sd H a x ∧ Sd H b y ∧ N64 c ∧ x.length + y.length < sizeLine ∧ ∀ p H', Same H H' → Sd H' p (plusS x c y) → Q (.ref p) H'
def spTimes (K : PySem.W.Frag) : Sp := fun vs H Q _ => ∃ (a b : Addr) (x y : Sm), vs = [.ref a, .ref b] ∧ Sd H a x ∧ Sd H b y ∧ (Sh64 x ∨ Sh64 y) ∧ Deg x ∧ Deg y ∧ y.length * x.length < sizeLine ∧ ∀ p H', Same H H' → Sd H' p (timesS x y) → Q (.ref p) H'
def spMo (K : PySem.W.Frag) : Sp := fun vs H Q _ => ∃ (a g : Addr) (p gr : List Int), vs = [.ref a, .ref g] ∧ SqT K H a (p.map V.int) ∧ SqL K H g (gr.map V.int) ∧ Ltr gr p ∧ G64 gr ∧ Q (.int (moS gr p)) H
def spLeast (K : PySem.W.Frag) : Sp := fun vs H Q _ => ∃ (a g : Addr) (x : Sm) (gr : List Int), vs = [.ref a, .ref g] ∧ Sd H a x ∧ H g = some (.lst (gr.map V.int)) ∧ LtrS gr x ∧ G64 gr ∧ Sh64 x ∧ ∀ H', Same H H' → Q (.int (leS gr x)) H'
/-! amounts -/
structure Amt where
  s : Sm
  lo : Int
  hi : Int
def AmH (H : Hp) (a : Addr) (m : Amt) : Prop := ∃ d, H a = some (.tup [.ref d, .int m.lo, .int m.hi]) ∧ Sd H d m.s
theorem AmH.same {H H' : Hp} {a : Addr} {m : Amt} (s : Same H H') : AmH H a m → AmH H' a m := fun ⟨d, h1, h2⟩ => ⟨d, s _ _ h1, h2.same s⟩
def numA (n : Int) : Amt := ⟨numS n, n, n⟩
def moreA (h : Amt) (c : Int) (m : Amt) : Amt := ⟨plusS h.s c m.s, h.lo + min (c * m.lo) (c * m.hi), h.hi + max (c * m.lo) (c * m.hi)⟩
def mulA (x y : Amt) : Amt := ⟨timesS x.s y.s, x.lo * y.lo, x.hi * y.hi⟩
def fitsA (m : Amt) (e : Int) : Bool := decide (0 ≤ m.lo) && decide (m.hi < e)
def spNumA (K : PySem.W.Frag) : Sp := fun vs H Q _ => ∃ n : Int, vs = [.int n] ∧ ∀ p H', Same H H' → AmH H' p (numA n) → Q (.ref p) H'
def spMore (K : PySem.W.Frag) : Sp := fun vs H Q _ => ∃ (a b : Addr) (x y : Amt) (c : Int), vs = [.ref a, .int c, .ref b] ∧ AmH H a x ∧ AmH H b y ∧ N64 c ∧ x.s.length + y.s.length < sizeLine ∧ ∀ p H', Same H H' → AmH H' p (moreA x c y) → Q (.ref p) H'
def spMulA (K : PySem.W.Frag) : Sp := fun vs H Q _ => ∃ (a b : Addr) (x y : Amt), vs = [.ref a, .ref b] ∧ AmH H a x ∧ AmH H b y ∧ (Sh64 x.s ∨ Sh64 y.s) ∧ Deg x.s ∧ Deg y.s ∧ y.s.length * x.s.length < sizeLine ∧ CMul x.lo y.lo ∧ CMul x.hi y.hi ∧ ∀ p H', Same H H' → AmH H' p (mulA x y) → Q (.ref p) H'
def spFits (K : PySem.W.Frag) : Sp := fun vs H Q _ => ∃ (a : Addr) (x : Amt) (e : Int), vs = [.ref a, .int e] ∧ AmH H a x ∧ Q (.bl (fitsA x e)) H
/-! what is known -/
structure Kc (K : PySem.W.Frag) where
  C : Addr
  cls : Cls K C
  n1 : NoAttr K C "base"
  n2 : NoAttr K C "last_place"
  n3 : NoAttr K C "setting_end"
  n4 : NoAttr K C "wheels_end"
  n5 : NoAttr K C "counts_end"
  n6 : NoAttr K C "greatest"
  n7 : NoAttr K C "rows"
  n8 : NoAttr K C "leasts"
  n9 : NoAttr K C "setting"
  n10 : NoAttr K C "wheels"
  n11 : NoAttr K C "counts"
  n12 : NoAttr K C "place"
  n13 : NoAttr K C "fact"
structure Kn where
  base : Int
  lastp : Int
  sEnd : Int
  wEnd : Int
  cEnd : Int
  gr : List Int
  rows : List (Str × List Amt)
  leasts : List (Str × Int)
  set_ : Amt
  wh : Amt
  ct : Amt
  place : Int
  fact : Option (Sm × Int)
/-- the figures of a row, each an amount -/
def AmL (H : Hp) : List V → List Amt → Prop := Paired fun v m => ∃ a, v = .ref a ∧ AmH H a m
def RwH (g : Addr) (H : Hp) : List (Key × V) → List (Str × List Amt) → Prop := Paired fun kv nm => kv.1 = .inr nm.1 ∧ ∃ l xs, kv.2 = .ref l ∧ l ≠ g ∧ H l = some (.lst xs) ∧ AmL H xs nm.2
def lsV (ls : List (Str × Int)) : List (Key × V) := ls.map fun p => (.inr p.1, .int p.2)
def FaH (H : Hp) : V → Option (Sm × Int) → Prop
  | v, none => v = .non
  | v, some (u, e) => ∃ a d, v = .ref a ∧ H a = some (.tup [.ref d, .int e]) ∧ Sd H d u
def knF (k : Kn) (g rw ls st wh ct : Addr) (fa : V) : List (Str × V) := [("base", .int k.base), ("last_place", .int k.lastp), ("setting_end", .int k.sEnd), ("wheels_end", .int k.wEnd), ("counts_end", .int k.cEnd), ("greatest", .ref g), ("rows", .ref rw), ("leasts", .ref ls), ("setting", .ref st), ("wheels", .ref wh), ("counts", .ref ct), ("place", .int k.place), ("fact", fa)]
structure KnP (H : Hp) (g rw ls st wh ct : Addr) (fa : V) (k : Kn) : Prop where
  gr : H g = some (.lst (k.gr.map V.int))
  rw_ : ∃ kvs, H rw = some (.dK kvs) ∧ RwH g H kvs k.rows
  ls : H ls = some (.dK (lsV k.leasts))
  st : AmH H st k.set_
  wh : AmH H wh k.wh
  ct : AmH H ct k.ct
  fa : FaH H fa k.fact
def KnH {K : PySem.W.Frag} (c : Kc K) (H : Hp) (a g : Addr) (k : Kn) : Prop := ∃ dx rw ls st wh ct fa, H a = some (.ins c.C dx (knF k g rw ls st wh ct fa)) ∧ KnP H g rw ls st wh ct fa k
/-! what stands but for the object and its list of greatest numbers -/
section
variable {H H' : Hp} {a g : Addr} {x : HO} {y : List V}
theorem Kx.keep {b : Addr} {o : HO} {C dx : Addr} {fs : List (Str × V)} (k : Kx a g H H') (ha : H a = some (.ins C dx fs)) (hg : H g = some (.lst y)) (hb : H b = some o) (n1 : ∀ C dx fs, o ≠ .ins C dx fs) (n2 : ∀ ys, o ≠ .lst ys) : H' b = some o :=
  k b o hb (ne_of hb ha (n1 _ _ _)) (ne_of hb hg (n2 _))
end
/-- what a method leaves as it is -/
structure Kf (a g : Addr) (H H' : Hp) : Prop where
  kx : Kx a g H H'
  isA : ∃ C dx fs, H a = some (.ins C dx fs)
  isG : ∃ ys, H g = some (.lst ys)
theorem Kf.tup {a g b : Addr} {H H' : Hp} {xs : List V} (k : Kf a g H H') (h : H b = some (.tup xs)) : H' b = some (.tup xs) := by
  obtain ⟨kx, ⟨_, _, _, ha⟩, _, hg⟩ := k
  exact Rn.Kx.keep kx ha hg h (fun _ _ _ e => nomatch e) (fun _ e => nomatch e)
theorem Kf.dT {a g b : Addr} {H H' : Hp} {xs : List (List Key × V)} (k : Kf a g H H') (h : H b = some (.dT xs)) : H' b = some (.dT xs) := by
  obtain ⟨kx, ⟨_, _, _, ha⟩, _, hg⟩ := k
  exact Rn.Kx.keep kx ha hg h (fun _ _ _ e => nomatch e) (fun _ e => nomatch e)
theorem Kf.dK {a g b : Addr} {H H' : Hp} {xs : List (Key × V)} (k : Kf a g H H') (h : H b = some (.dK xs)) : H' b = some (.dK xs) := by
  obtain ⟨kx, ⟨_, _, _, ha⟩, _, hg⟩ := k
  exact Rn.Kx.keep kx ha hg h (fun _ _ _ e => nomatch e) (fun _ e => nomatch e)
theorem Kf.sd {a g b : Addr} {H H' : Hp} {m : Sm} (k : Kf a g H H') (h : Sd H b m) : Sd H' b m := ⟨k.dT h.1, h.2⟩
theorem Kf.am {a g b : Addr} {H H' : Hp} {m : Amt} (k : Kf a g H H') : AmH H b m → AmH H' b m := fun ⟨d, h1, h2⟩ => ⟨d, k.tup h1, k.sd h2⟩
def letA (k n : Int) : Amt := ⟨letS k, 0, n⟩
def spLetter {K : PySem.W.Frag} (c : Kc K) : Sp := fun vs H Q _ => ∃ (a g dx : Addr) (fs : List (Str × V)) (gr : List Int) (n : Int), vs = [.ref a, .int n] ∧ H a = some (.ins c.C dx fs) ∧ fs.lookup ("greatest" : Str) = some (V.ref g) ∧ H g = some (.lst (gr.map V.int)) ∧ gr.length ≤ 90000 ∧
  ∀ p H', Kf a g H H' → H' a = some (.ins c.C dx fs) → H' g = some (.lst ((gr ++ [n]).map V.int)) → AmH H' p (letA gr.length n) → Q (.ref p) H'
/-! the object's fields, read and set -/
section
variable {K : PySem.W.Frag} {c : Kc K} {σ : St} {H : Hp} {Q : VK} {R : Hp → Prop} {a dx g rw ls st wh ct : Addr} {fa : V} {k : Kn} {i : Nat} {D : Ends} {ta tv : TE}
def FldQ (K : PySem.W.Frag) (f : Str) (x : V) (H1 : Hp) (Q : VK) : Prop := ∃ a C dx fs v, x = .ref a ∧ H1 a = some (.ins C dx fs) ∧ Cls K C ∧ NoAttr K C f ∧ fs.lookup f = some v ∧ Q v H1
theorem w_fld {f : Str} (h : ta σ H fun x H1 => FldQ K f x H1 Q) : tFld K ta f σ H Q := h
theorem w_fldN {f : Str} {C : Addr} {fs : List (Str × V)} {v : V} (ha : H a = some (.ins C dx fs)) (cl : Cls K C) (n : NoAttr K C f) (l : fs.lookup f = some v) (h : Q v H) : FldQ K f (.ref a) H Q := ⟨a, C, dx, fs, v, rfl, ha, cl, n, l, h⟩
def SfQ (K : PySem.W.Frag) (f : Str) (x y : V) (H2 : Hp) (R : Hp → Prop) : Prop := ∃ a C dx fs, x = .ref a ∧ H2 a = some (.ins C dx fs) ∧ Cls K C ∧ NoAttr K C f ∧ fs.length < 1000 ∧ R (upd H2 a (.ins C dx (putF f y fs)))
theorem w_sfld {f : Str} (h : tv σ H fun y H1 => ta σ H1 fun x H2 => SfQ K f x y H2 (D.nx σ)) : sFld K ta tv f D σ H := h
theorem w_sfN {f : Str} {C : Addr} {fs fs' : List (Str × V)} {y : V} (ha : H a = some (.ins C dx fs)) (cl : Cls K C) (n : NoAttr K C f) (hl : fs.length < 1000) (e : putF f y fs = fs') (h : ∀ H', H' = upd H a (.ins C dx fs') → H' a = some (.ins C dx fs') → R H') : SfQ K f (.ref a) y H R :=
  ⟨a, C, dx, fs, rfl, ha, cl, n, hl, by rw [e]; exact h _ rfl upd_same⟩
theorem w_f1 (ha : H a = some (.ins c.C dx (knF k g rw ls st wh ct fa))) (h : Q (.int k.base) H) : FldQ K "base" (.ref a) H Q := ⟨a, c.C, dx, _, _, rfl, ha, c.cls, c.n1, rfl, h⟩
theorem w_f2 (ha : H a = some (.ins c.C dx (knF k g rw ls st wh ct fa))) (h : Q (.int k.lastp) H) : FldQ K "last_place" (.ref a) H Q := ⟨a, c.C, dx, _, _, rfl, ha, c.cls, c.n2, rfl, h⟩
theorem w_f3 (ha : H a = some (.ins c.C dx (knF k g rw ls st wh ct fa))) (h : Q (.int k.sEnd) H) : FldQ K "setting_end" (.ref a) H Q := ⟨a, c.C, dx, _, _, rfl, ha, c.cls, c.n3, rfl, h⟩
theorem w_f4 (ha : H a = some (.ins c.C dx (knF k g rw ls st wh ct fa))) (h : Q (.int k.wEnd) H) : FldQ K "wheels_end" (.ref a) H Q := ⟨a, c.C, dx, _, _, rfl, ha, c.cls, c.n4, rfl, h⟩
theorem w_f5 (ha : H a = some (.ins c.C dx (knF k g rw ls st wh ct fa))) (h : Q (.int k.cEnd) H) : FldQ K "counts_end" (.ref a) H Q := ⟨a, c.C, dx, _, _, rfl, ha, c.cls, c.n5, rfl, h⟩
theorem w_f6 (ha : H a = some (.ins c.C dx (knF k g rw ls st wh ct fa))) (h : Q (.ref g) H) : FldQ K "greatest" (.ref a) H Q := ⟨a, c.C, dx, _, _, rfl, ha, c.cls, c.n6, rfl, h⟩
theorem w_f7 (ha : H a = some (.ins c.C dx (knF k g rw ls st wh ct fa))) (h : Q (.ref rw) H) : FldQ K "rows" (.ref a) H Q := ⟨a, c.C, dx, _, _, rfl, ha, c.cls, c.n7, rfl, h⟩
theorem w_f8 (ha : H a = some (.ins c.C dx (knF k g rw ls st wh ct fa))) (h : Q (.ref ls) H) : FldQ K "leasts" (.ref a) H Q := ⟨a, c.C, dx, _, _, rfl, ha, c.cls, c.n8, rfl, h⟩
theorem w_f9 (ha : H a = some (.ins c.C dx (knF k g rw ls st wh ct fa))) (h : Q (.ref st) H) : FldQ K "setting" (.ref a) H Q := ⟨a, c.C, dx, _, _, rfl, ha, c.cls, c.n9, rfl, h⟩
theorem w_f10 (ha : H a = some (.ins c.C dx (knF k g rw ls st wh ct fa))) (h : Q (.ref wh) H) : FldQ K "wheels" (.ref a) H Q := ⟨a, c.C, dx, _, _, rfl, ha, c.cls, c.n10, rfl, h⟩
theorem w_f11 (ha : H a = some (.ins c.C dx (knF k g rw ls st wh ct fa))) (h : Q (.ref ct) H) : FldQ K "counts" (.ref a) H Q := ⟨a, c.C, dx, _, _, rfl, ha, c.cls, c.n11, rfl, h⟩
theorem w_f12 (ha : H a = some (.ins c.C dx (knF k g rw ls st wh ct fa))) (h : Q (.int k.place) H) : FldQ K "place" (.ref a) H Q := ⟨a, c.C, dx, _, _, rfl, ha, c.cls, c.n12, rfl, h⟩
theorem w_f13 (ha : H a = some (.ins c.C dx (knF k g rw ls st wh ct fa))) (h : Q (fa) H) : FldQ K "fact" (.ref a) H Q := ⟨a, c.C, dx, _, _, rfl, ha, c.cls, c.n13, rfl, h⟩
theorem w_s9 {y : Addr} (ha : H a = some (.ins c.C dx (knF k g rw ls st wh ct fa))) (h : ∀ H', H' = upd H a (.ins c.C dx (knF k g rw ls y wh ct fa)) → H' a = some (.ins c.C dx (knF k g rw ls y wh ct fa)) → R H') : SfQ K "setting" (.ref a) (.ref y) H R := w_sfN ha c.cls c.n9 (show (13 : Nat) < 1000 by decide) rfl h
theorem w_s10 {y : Addr} (ha : H a = some (.ins c.C dx (knF k g rw ls st wh ct fa))) (h : ∀ H', H' = upd H a (.ins c.C dx (knF k g rw ls st y ct fa)) → H' a = some (.ins c.C dx (knF k g rw ls st y ct fa)) → R H') : SfQ K "wheels" (.ref a) (.ref y) H R := w_sfN ha c.cls c.n10 (show (13 : Nat) < 1000 by decide) rfl h
theorem w_s11 {y : Addr} (ha : H a = some (.ins c.C dx (knF k g rw ls st wh ct fa))) (h : ∀ H', H' = upd H a (.ins c.C dx (knF k g rw ls st wh y fa)) → H' a = some (.ins c.C dx (knF k g rw ls st wh y fa)) → R H') : SfQ K "counts" (.ref a) (.ref y) H R := w_sfN ha c.cls c.n11 (show (13 : Nat) < 1000 by decide) rfl h
theorem w_s12 {y : Int} (ha : H a = some (.ins c.C dx (knF k g rw ls st wh ct fa))) (h : ∀ H', H' = upd H a (.ins c.C dx (knF { k with place := y } g rw ls st wh ct fa)) → H' a = some (.ins c.C dx (knF { k with place := y } g rw ls st wh ct fa)) → R H') : SfQ K "place" (.ref a) (.int y) H R := w_sfN ha c.cls c.n12 (show (13 : Nat) < 1000 by decide) rfl h
theorem w_s13 {y : V} (ha : H a = some (.ins c.C dx (knF k g rw ls st wh ct fa))) (h : ∀ H', H' = upd H a (.ins c.C dx (knF k g rw ls st wh ct y)) → H' a = some (.ins c.C dx (knF k g rw ls st wh ct y)) → R H') : SfQ K "fact" (.ref a) (y) H R := w_sfN ha c.cls c.n13 (show (13 : Nat) < 1000 by decide) rfl h
end
theorem Paired.imp {α β : Type} {R S : α → β → Prop} (h : ∀ a b, R a b → S a b) : ∀ {xs : List α} {ys : List β}, Paired R xs ys → Paired S xs ys
  | _, _, .nil => .nil
  | _, _, .cons r t => .cons (h _ _ r) (Paired.imp h t)
theorem Kf.lst {a g b : Addr} {H H' : Hp} {xs : List V} (k : Kf a g H H') (n : b ≠ g) (h : H b = some (.lst xs)) : H' b = some (.lst xs) := by
  obtain ⟨kx, ⟨_, _, _, ha⟩, _, hg⟩ := k
  exact kx b _ h (ne_of h ha (fun e => nomatch e)) n
theorem Kf.aml {a g : Addr} {H H' : Hp} (k : Kf a g H H') {xs : List V} {ms : List Amt} (h : AmL H xs ms) : AmL H' xs ms := Paired.imp (fun _ _ ⟨p, e, hp⟩ => ⟨p, e, k.am hp⟩) h
theorem Kf.rwh {a g : Addr} {H H' : Hp} (k : Kf a g H H') {kvs : List (Key × V)} {rs : List (Str × List Amt)} (h : RwH g H kvs rs) : RwH g H' kvs rs :=
  Paired.imp (fun _ _ ⟨e, l, xs, e2, n, hl, hm⟩ => ⟨e, l, xs, e2, n, k.lst n hl, k.aml hm⟩) h
theorem Kf.fah {a g : Addr} {H H' : Hp} (k : Kf a g H H') {v : V} {f : Option (Sm × Int)} (h : FaH H v f) : FaH H' v f := by
  cases f with
  | none => exact h
  | some p =>
    obtain ⟨b, d, e, h1, h2⟩ := h
    exact ⟨b, d, e, k.tup h1, k.sd h2⟩
theorem KnP.kf {a g rw ls st wh ct : Addr} {fa : V} {k : Kn} {H H' : Hp} {gr' : List Int} (kf : Kf a g H H') (h : KnP H g rw ls st wh ct fa k) (hg : H' g = some (.lst (gr'.map V.int))) : KnP H' g rw ls st wh ct fa { k with gr := gr' } :=
  ⟨hg, let ⟨kvs, h1, h2⟩ := h.rw_; ⟨kvs, kf.dK h1, kf.rwh h2⟩, kf.dK h.ls, kf.am h.st, kf.am h.wh, kf.am h.ct, kf.fah h.fa⟩
section
variable {a g b : Addr} {H H1 H2 : Hp} {C dx : Addr} {fs : List (Str × V)} {ys : List V}
theorem Kf.same (ha : H a = some (.ins C dx fs)) (hg : H g = some (.lst ys)) (s : Same H H1) : Kf a g H H1 := ⟨Kx.of s, ⟨_, _, _, ha⟩, _, hg⟩
theorem Kf.trans (x : Kf a g H H1) (y : Kf a g H1 H2) : Kf a g H H2 := ⟨x.kx.trans y.kx, x.isA, x.isG⟩
theorem Kf.setA {o : HO} (ha : H a = some (.ins C dx fs)) (hg : H g = some (.lst ys)) : Kf a g H (upd H a o) := ⟨Kx.l, ⟨_, _, _, ha⟩, _, hg⟩
theorem Kf.setG {o : HO} (ha : H a = some (.ins C dx fs)) (hg : H g = some (.lst ys)) : Kf a g H (upd H g o) := ⟨Kx.r, ⟨_, _, _, ha⟩, _, hg⟩
end
theorem KnP.same {g rw ls st wh ct : Addr} {fa : V} {k : Kn} {H H' : Hp} (s : Same H H') (h : KnP H g rw ls st wh ct fa k) : KnP H' g rw ls st wh ct fa k :=
  ⟨s _ _ h.gr, let ⟨kvs, h1, h2⟩ := h.rw_; ⟨kvs, s _ _ h1, Paired.imp (fun _ _ ⟨e, l, xs, e2, n, hl, hm⟩ => ⟨e, l, xs, e2, n, s _ _ hl, Paired.imp (fun _ _ ⟨p, e, hp⟩ => ⟨p, e, hp.same s⟩) hm⟩) h2⟩, s _ _ h.ls, h.st.same s, h.wh.same s, h.ct.same s, by
    have f := h.fa
    cases hf : k.fact with
    | none => rw [hf] at f; exact f
    | some p =>
      rw [hf] at f
      obtain ⟨b, d, e, h1, h2⟩ := f
      exact ⟨b, d, e, s _ _ h1, h2.same s⟩⟩
theorem KnH.same {K : PySem.W.Frag} {c : Kc K} {a g : Addr} {k : Kn} {H H' : Hp} (s : Same H H') : KnH c H a g k → KnH c H' a g k := fun ⟨dx, rw, ls, st, wh, ct, fa, h, p⟩ => ⟨dx, rw, ls, st, wh, ct, fa, s _ _ h, p.same s⟩
/-! ### the methods -/
abbrev Base (b : Int) : Prop := 0 < b ∧ b ≤ 12
def wordV : Option Str → V
  | none => .non
  | some w => .str w
def shiftK (k : Kn) (y : Int) : Option Str × Kn := (if 0 ≤ k.place + y ∧ k.place + y ≤ k.lastp then none else some "shift", { k with place := k.place + y })
def wipeK (k : Kn) (w : Str) : Kn := if w = "wheels" then { k with wh := numA 0, fact := none } else { k with ct := numA 0 }
def ctM (k : Kn) (m : Amt) (t : Int) : Amt := moreA k.ct (t * k.base ^ k.place.toNat) m
def countK (k : Kn) (m : Amt) (t : Int) : Option Str × Kn := (if fitsA (ctM k m t) k.cEnd then none else some "counts", { k with ct := ctM k m t })
def whM (k : Kn) (m : Amt) (w : Int) : Amt := moreA k.wh (w * k.base ^ k.place.toNat) (mulA m k.set_)
def turnK (k : Kn) (m : Amt) (w t : Int) : Option Str × Kn :=
  if fitsA (whM k m w) k.wEnd then countK { k with wh := whM k m w, fact := none } m t else (some "over", { k with wh := whM k m w, fact := none })
/-- what a method that tells a word promises: the object is now what k' tells -/
abbrev Tells {K : PySem.W.Frag} (c : Kc K) (H : Hp) (a g : Addr) (r : Option Str × Kn) (Q : VK) : Prop := ∀ H', Kf a g H H' → KnH c H' a g r.2 → Q (wordV r.1) H'
def spShiftK {K : PySem.W.Frag} (c : Kc K) : Sp := fun vs H Q _ => ∃ (a g : Addr) (k : Kn) (y : Int), vs = [.ref a, .int y] ∧ KnH c H a g k ∧ Tells c H a g (shiftK k y) Q
def spWipeK {K : PySem.W.Frag} (c : Kc K) : Sp := fun vs H Q _ => ∃ (a g : Addr) (k : Kn) (w : Str), vs = [.ref a, .str w] ∧ KnH c H a g k ∧ Tells c H a g (none, wipeK k w) Q
def spCountK {K : PySem.W.Frag} (c : Kc K) : Sp := fun vs H Q _ => ∃ (a g : Addr) (k : Kn) (p : Addr) (m : Amt) (t : Int), vs = [.ref a, .ref p, .int t] ∧ KnH c H a g k ∧ AmH H p m ∧ Base k.base ∧ 0 ≤ k.place ∧ k.place ≤ 16 ∧ -1 ≤ t ∧ t ≤ 1 ∧ k.ct.s.length + m.s.length < sizeLine ∧ Tells c H a g (countK k m t) Q
section
variable {K : PySem.W.Frag} {c : Kc K} {σ : St} {H : Hp} {Q : VK} {a dx g rw ls st wh ct : Addr} {fa : V} {k : Kn} {i j : Nat} {D : Ends}
theorem w_aug12 {y : Int} (hv : σ[i]? = some (some (.ref a))) (hy : σ[j]? = some (some (.int y))) (ha : H a = some (.ins c.C dx (knF k g rw ls st wh ct fa)))
    (h : ∀ H', H' = upd H a (.ins c.C dx (knF { k with place := k.place + y } g rw ls st wh ct fa)) → H' a = some (.ins c.C dx (knF { k with place := k.place + y } g rw ls st wh ct fa)) → D.nx σ H') : sFldAug K (tVar i) (tVar j) rAdd "place" D σ H :=
  w_var hv ⟨a, c.C, dx, _, .int k.place, rfl, ha, c.cls, c.n12, rfl, w_var hy ⟨k.place, y, rfl, rfl, dx, _, ha, (show (13 : Nat) < 1000 by decide), h _ rfl upd_same⟩⟩
theorem KnP.setA {C dx : Addr} {fs : List (Str × V)} {o : HO} (ha : H a = some (.ins C dx fs)) (h : KnP H g rw ls st wh ct fa k) : KnP (upd H a o) g rw ls st wh ct fa k :=
  h.kf (gr' := k.gr) (Kf.setA ha h.gr) (by rw [upd_ne (ne_of h.gr ha (fun e => nomatch e))]; exact h.gr)
end
section
variable {K : PySem.W.Frag} {c : Kc K} {H H' : Hp} {a dx g rw ls st wh ct p : Addr} {fa v : V} {k : Kn} {m : Amt} {f : Option (Sm × Int)}
theorem set9 (ha : H a = some (.ins c.C dx (knF k g rw ls st wh ct fa))) (hk : KnP H g rw ls st wh ct fa k) (hp : AmH H p m) (e : H' = upd H a (.ins c.C dx (knF k g rw ls p wh ct fa))) : Kf a g H H' ∧ H' a = some (.ins c.C dx (knF { k with set_ := m } g rw ls p wh ct fa)) ∧ KnP H' g rw ls p wh ct fa { k with set_ := m } := by
  subst e
  have kf : Kf a g H (upd H a (.ins c.C dx (knF k g rw ls p wh ct fa))) := Kf.setA ha hk.gr
  have h := hk.setA (o := .ins c.C dx (knF k g rw ls p wh ct fa)) ha
  exact ⟨kf, upd_same, ⟨h.gr, h.rw_, h.ls, kf.am hp, h.wh, h.ct, h.fa⟩⟩
theorem set10 (ha : H a = some (.ins c.C dx (knF k g rw ls st wh ct fa))) (hk : KnP H g rw ls st wh ct fa k) (hp : AmH H p m) (e : H' = upd H a (.ins c.C dx (knF k g rw ls st p ct fa))) : Kf a g H H' ∧ H' a = some (.ins c.C dx (knF { k with wh := m } g rw ls st p ct fa)) ∧ KnP H' g rw ls st p ct fa { k with wh := m } := by
  subst e
  have kf : Kf a g H (upd H a (.ins c.C dx (knF k g rw ls st p ct fa))) := Kf.setA ha hk.gr
  have h := hk.setA (o := .ins c.C dx (knF k g rw ls st p ct fa)) ha
  exact ⟨kf, upd_same, ⟨h.gr, h.rw_, h.ls, h.st, kf.am hp, h.ct, h.fa⟩⟩
theorem set11 (ha : H a = some (.ins c.C dx (knF k g rw ls st wh ct fa))) (hk : KnP H g rw ls st wh ct fa k) (hp : AmH H p m) (e : H' = upd H a (.ins c.C dx (knF k g rw ls st wh p fa))) : Kf a g H H' ∧ H' a = some (.ins c.C dx (knF { k with ct := m } g rw ls st wh p fa)) ∧ KnP H' g rw ls st wh p fa { k with ct := m } := by
  subst e
  have kf : Kf a g H (upd H a (.ins c.C dx (knF k g rw ls st wh p fa))) := Kf.setA ha hk.gr
  have h := hk.setA (o := .ins c.C dx (knF k g rw ls st wh p fa)) ha
  exact ⟨kf, upd_same, ⟨h.gr, h.rw_, h.ls, h.st, h.wh, kf.am hp, h.fa⟩⟩
theorem set13 (ha : H a = some (.ins c.C dx (knF k g rw ls st wh ct fa))) (hk : KnP H g rw ls st wh ct fa k) (hp : FaH H v f) (e : H' = upd H a (.ins c.C dx (knF k g rw ls st wh ct v))) : Kf a g H H' ∧ H' a = some (.ins c.C dx (knF { k with fact := f } g rw ls st wh ct v)) ∧ KnP H' g rw ls st wh ct v { k with fact := f } := by
  subst e
  have kf : Kf a g H (upd H a (.ins c.C dx (knF k g rw ls st wh ct v))) := Kf.setA ha hk.gr
  have h := hk.setA (o := .ins c.C dx (knF k g rw ls st wh ct v)) ha
  exact ⟨kf, upd_same, ⟨h.gr, h.rw_, h.ls, h.st, h.wh, h.ct, kf.fah hp⟩⟩
theorem KnH.mk {c : Kc K} (ha : H a = some (.ins c.C dx (knF k g rw ls st wh ct fa))) (hk : KnP H g rw ls st wh ct fa k) : KnH c H a g k := ⟨dx, rw, ls, st, wh, ct, fa, ha, hk⟩
end
def spTurnK {K : PySem.W.Frag} (c : Kc K) : Sp := fun vs H Q _ => ∃ (a g : Addr) (k : Kn) (p : Addr) (m : Amt) (w t : Int), vs = [.ref a, .ref p, .int w, .int t] ∧ KnH c H a g k ∧ AmH H p m ∧ Base k.base ∧ 0 ≤ k.place ∧ k.place ≤ 16 ∧ -1 ≤ t ∧ t ≤ 1 ∧ -1 ≤ w ∧ w ≤ 1 ∧ k.ct.s.length + m.s.length < sizeLine ∧
  (Sh64 m.s ∨ Sh64 k.set_.s) ∧ Deg m.s ∧ Deg k.set_.s ∧ CMul m.lo k.set_.lo ∧ CMul m.hi k.set_.hi ∧ k.wh.s.length + k.set_.s.length * m.s.length < sizeLine ∧ Tells c H a g (turnK k m w t) Q
theorem len_times (x y : Sm) : (timesS x y).length ≤ y.length * x.length := Nat.le_trans (len_nz _) (len_times0 x y)
theorem pow16 {b p : Int} (hb : Base b) (h0 : 0 ≤ p) (h1 : p ≤ 16) : 0 < b ^ p.toNat ∧ b ^ p.toNat ≤ 12 ^ 16 := ⟨Int.pow_pos hb.1, My.pow_le12 (n := p.toNat) (N := 16) hb.1 hb.2 (by omega)⟩
theorem way64 {t w : Int} (t0 : -1 ≤ t) (t1 : t ≤ 1) (w0 : 0 < w) (w1 : w ≤ 12 ^ 16) : N64 (t * w) := by
  rcases (show t = -1 ∨ t = 0 ∨ t = 1 by omega) with rfl | rfl | rfl <;> constructor <;> omega
theorem w_meth {C a dx : Addr} {fs : List (Str × V)} {m : Str} {sp : Sp} {dvs : List V} {E : XK} {t : TA} {σ : St} {H : Hp} {Q : VK} {i : Nat} (hv : σ[i]? = some (some (.ref a))) (ha : H a = some (.ins C dx fs)) (hl : fs.lookup m = none) (h : t σ H fun vs H2 => sp (.ref a :: (vs ++ dvs)) H2 Q E) : tMeth C m sp dvs E (tVar i) t σ H Q :=
  w_var hv ⟨a, dx, fs, rfl, ha, hl, h⟩
/-! ### a row of figures -/
def look {α : Type} (n : Str) (l : List (Str × α)) : Option α := (l.find? fun p => decide (p.1 = n)).map (·.2)
theorem look_cons {α : Type} (n : Str) (p : Str × α) (l : List (Str × α)) : look n (p :: l) = if p.1 = n then some p.2 else look n l := by
  unfold look
  rw [List.find?_cons]
  by_cases h : p.1 = n <;> simp [h]
theorem val_lsV (n : Str) : ∀ l : List (Str × Int), valV (lsV l) (.inr n) = (look n l).map V.int
  | [] => rfl
  | p :: r => by
    rw [look_cons]
    show valV ((.inr p.1, V.int p.2) :: lsV r) (.inr n) = _
    by_cases h : p.1 = n
    · rw [if_pos h, valV_pos (by rw [h])]
      rfl
    · rw [if_neg h, valV_neg (fun e => h (by injection e))]
      exact val_lsV n r
theorem val_rwH {g : Addr} {H : Hp} {n : Str} {ms : List Amt} : ∀ {kvs : List (Key × V)} {rs : List (Str × List Amt)}, RwH g H kvs rs → look n rs = some ms → ∃ l xs, valV kvs (.inr n) = some (.ref l) ∧ l ≠ g ∧ H l = some (.lst xs) ∧ AmL H xs ms
  | _, _, .nil, h => by cases h
  | _, p :: r, .cons ⟨e, l, xs, e2, n1, hl, hm⟩ t, h => by
    rw [look_cons] at h
    by_cases c : p.1 = n
    · rw [if_pos c] at h
      cases h
      exact ⟨l, xs, by rw [valV_pos (by rw [e, c]), e2], n1, hl, hm⟩
    · rw [if_neg c] at h
      obtain ⟨l2, xs2, h1, h2⟩ := val_rwH t h
      exact ⟨l2, xs2, by rw [valV_neg (fun e3 => c (by rw [e] at e3; injection e3))]; exact h1, h2⟩
def rowF (b : Int) (t : Sm) (mi : Amt × Nat) : Sm := plusS t (b ^ mi.2) mi.1.s
def rowS (b : Int) (ms : List Amt) : Sm := ms.zipIdx.foldl (rowF b) []
def rowA (b : Int) (ms : List Amt) (least : Int) : Amt := ⟨rowS b ms, least, b ^ ms.length - 1⟩
theorem len_plus (x y : Sm) (c : Int) : (plusS x c y).length ≤ x.length + y.length := Nat.le_trans (len_nz _) (len_add c x y)
theorem len_row (b : Int) : ∀ (l : List (Amt × Nat)) (t : Sm), (∀ p ∈ l, p.1.s.length ≤ 1) → (l.foldl (rowF b) t).length ≤ t.length + l.length
  | [], _, _ => Nat.le_refl _
  | p :: r, t, h => by
    have h1 := len_row b r (rowF b t p) fun q hq => h q (List.mem_cons_of_mem _ hq)
    have h2 := len_plus t p.1.s (b ^ p.2)
    have h3 := h p List.mem_cons_self
    rw [List.foldl_cons, List.length_cons]
    show (r.foldl (rowF b) (plusS t (b ^ p.2) p.1.s)).length ≤ _
    have h1' : (r.foldl (rowF b) (plusS t (b ^ p.2) p.1.s)).length ≤ (plusS t (b ^ p.2) p.1.s).length + r.length := h1
    omega
theorem nd_row (b : Int) : ∀ (l : List (Amt × Nat)) (t : Sm), (keys t).Nodup → (keys (l.foldl (rowF b) t)).Nodup
  | [], _, h => h
  | p :: r, t, h => nd_row b r _ (nd_plus h)
def spRowK {K : PySem.W.Frag} (c : Kc K) : Sp := fun vs H Q _ => ∃ (a g : Addr) (k : Kn) (n : Str) (ms : List Amt) (l0 : Int), vs = [.ref a, .str n] ∧ KnH c H a g k ∧ Base k.base ∧ look n k.rows = some ms ∧ look n k.leasts = some l0 ∧ ms.length ≤ 16 ∧ (∀ m ∈ ms, m.s.length ≤ 1) ∧ ∀ p H', Same H H' → AmH H' p (rowA k.base ms l0) → Q (.ref p) H'
/-! ### turning until the bell rings -/
theorem divB {a b : Int} (h : 0 < b) (h2 : b < 2 ^ 200) : CDivW a b := wide_div (b := 200) h (by omega) (by decide) (by decide)
def leaveK (k : Kn) (tk : Sm) (w : Int) : Kn := { k with wh := ⟨plusS k.wh.s (-w) tk, 0, min k.wh.hi (k.set_.hi * w - 1)⟩, fact := some (k.set_.s, w) }
def wo (k : Kn) : Int := k.base ^ k.place.toNat
def rungG (k : Kn) : Int := match k.fact with
  | none => k.wh.hi / (k.set_.lo * wo k)
  | some (u, e) => if eqS u k.set_.s = true ∧ wo k ≤ e then min (k.wh.hi / (k.set_.lo * wo k)) (e / wo k - 1) else k.wh.hi / (k.set_.lo * wo k)
def rungL (k : Kn) : Kn := leaveK { k with gr := k.gr ++ [rungG k] } (timesS (letS k.gr.length) k.set_.s) (wo k)
def rungK (k : Kn) (t : Int) : Option Str × Kn := if k.set_.lo = 0 then (some "zero", k) else countK (rungL k) (letA k.gr.length (rungG k)) t
def oddsG (k : Kn) : Int := My.sqI (k.wh.hi / wo k)
def oddsL (k : Kn) : Kn := leaveK { k with gr := k.gr ++ [oddsG k], set_ := ⟨plusS (numS 1) 2 (letS k.gr.length), 1, 2 * oddsG k + 1⟩ } (timesS (letS k.gr.length) (letS k.gr.length)) (wo k)
def oddsK (k : Kn) (t : Int) : Option Str × Kn := if eqS k.set_.s (numS 1) = true ∧ 2 * oddsG k + 1 < k.sEnd then countK (oddsL k) (letA k.gr.length (oddsG k)) t else (some "odds", k)
def spLeave {K : PySem.W.Frag} (c : Kc K) : Sp := fun vs H Q _ => ∃ (a g : Addr) (k : Kn) (d : Addr) (tk : Sm) (w : Int), vs = [.ref a, .ref d, .int w] ∧ KnH c H a g k ∧ Sd H d tk ∧ 0 < w ∧ w ≤ 12 ^ 16 ∧ k.wh.s.length + tk.length < sizeLine ∧ ∀ H', Kf a g H H' → KnH c H' a g (leaveK k tk w) → Q .non H'
/-- what holds of all that is known, and keeps it small -/
structure KnB (k : Kn) : Prop where
  base : Base k.base
  p0 : 0 ≤ k.place
  p1 : k.place ≤ 16
  gr : k.gr.length ≤ 90000
  wl : k.wh.s.length + k.set_.s.length + 1 < sizeLine
  cl : k.ct.s.length + 1 < sizeLine
  dg : Deg k.set_.s
def spRungK {K : PySem.W.Frag} (c : Kc K) : Sp := fun vs H Q _ => ∃ (a g : Addr) (k : Kn) (t : Int), vs = [.ref a, .int t] ∧ KnH c H a g k ∧ KnB k ∧ 0 ≤ k.set_.lo ∧ k.set_.lo < 2 ^ 64 ∧ -1 ≤ t ∧ t ≤ 1 ∧ Tells c H a g (rungK k t) Q
def spOddsK {K : PySem.W.Frag} (c : Kc K) : Sp := fun vs H Q _ => ∃ (a g : Addr) (k : Kn) (t : Int), vs = [.ref a, .int t] ∧ KnH c H a g k ∧ KnB k ∧ 0 ≤ k.wh.hi ∧ k.wh.hi < 2 ^ 62 ∧ -1 ≤ t ∧ t ≤ 1 ∧ Tells c H a g (oddsK k t) Q
theorem AmH.sq {K : PySem.W.Frag} {H : Hp} {a : Addr} {m : Amt} (h : AmH H a m) : ∃ d, SqT K H a [.ref d, .int m.lo, .int m.hi] ∧ H a = some (.tup [.ref d, .int m.lo, .int m.hi]) ∧ Sd H d m.s := let ⟨d, h1, h2⟩ := h; ⟨d, SqT.of h1, h1, h2⟩
theorem w_seqJ {s1 s2 : TS} {σ σ' : St} {H H' : Hp} {D : Ends} (h1 : ∀ D' : Ends, D'.nx σ' H' → s1 D' σ H) (h2 : s2 D σ' H') : tSeq s1 s2 D σ H := h1 _ h2
theorem mulB {a b : Int} (a0 : 0 < a) (a1 : a < 2 ^ 64) (b0 : 0 < b) (b1 : b ≤ 12 ^ 16) : 0 < a * b ∧ a * b < 2 ^ 200 := by
  refine ⟨Int.mul_pos a0 b0, ?_⟩
  have h1 : a * b ≤ a * 12 ^ 16 := Int.mul_le_mul_of_nonneg_left b1 (by omega)
  have h2 : a * 12 ^ 16 ≤ 2 ^ 64 * 12 ^ 16 := Int.mul_le_mul_of_nonneg_right (by omega) (by decide)
  have h3 : (2 : Int) ^ 64 * 12 ^ 16 < 2 ^ 200 := by decide
  omega
theorem FaH.cases {H : Hp} {v : V} {f : Option (Sm × Int)} (h : FaH H v f) : (v = .non ∧ f = none) ∨ ∃ a d u e, v = .ref a ∧ f = some (u, e) ∧ H a = some (.tup [.ref d, .int e]) ∧ Sd H d u := by
  cases f with
  | none => exact .inl ⟨h, rfl⟩
  | some p =>
    obtain ⟨a, d, h1, h2, h3⟩ := h
    exact .inr ⟨a, d, p.1, p.2, h1, rfl, h2, h3⟩
theorem sh_let (l : Int) : Sh64 (letS l) := fun p hp => by
  rw [show p = ([l], (1 : Int)) from List.mem_singleton.mp hp]
  exact ⟨(by decide : (-(2 ^ 64) : Int) < 1), (by decide : (1 : Int) < 2 ^ 64)⟩
theorem dg_let (l : Int) : Deg (letS l) := fun p hp => by
  rw [show p = ([l], (1 : Int)) from List.mem_singleton.mp hp]
  exact (by decide : 1 ≤ 50000)
/-! ### deeds -/
def didK (k : Kn) : My.Dee → Option Str × Kn
  | .load n => (none, match look n k.rows, look n k.leasts with
    | some ms, some l0 => { k with set_ := rowA k.base ms l0 }
    | _, _ => k)
  | .one => (none, { k with set_ := numA 1 })
  | .shift y => shiftK k y
  | .turn x y => turnK k (numA 1) x y
  | .turns n j x y => match (look n k.rows).bind fun ms => ms[j.toNat]? with
    | some m => turnK k m x y
    | none => (none, k)
  | .bell y => rungK k y
  | .odds y => oddsK k y
  | .wipe c => (none, wipeK k (My.wipeW c))
abbrev TwOk (x y : Int) : Prop := -1 ≤ x ∧ x ≤ 1 ∧ -1 ≤ y ∧ y ≤ 1
def DidOk (k : Kn) : My.Dee → Prop
  | .load n => ∃ ms l0, look n k.rows = some ms ∧ look n k.leasts = some l0 ∧ ms.length ≤ 16 ∧ ∀ m ∈ ms, m.s.length ≤ 1
  | .one => True
  | .shift _ => True
  | .turn x y => TwOk x y
  | .turns n j x y => ∃ ms m, look n k.rows = some ms ∧ 0 ≤ j ∧ ms[j.toNat]? = some m ∧ m.s.length ≤ 1 ∧ Sh64 m.s ∧ Deg m.s ∧ N64 m.lo ∧ N64 m.hi ∧ TwOk x y
  | .bell y => 0 ≤ k.set_.lo ∧ k.set_.lo < 2 ^ 64 ∧ -1 ≤ y ∧ y ≤ 1
  | .odds y => 0 ≤ k.wh.hi ∧ k.wh.hi < 2 ^ 62 ∧ -1 ≤ y ∧ y ≤ 1
  | .wipe _ => True
def spDid {K : PySem.W.Frag} (c : Kc K) : Sp := fun vs H Q _ => ∃ (a g : Addr) (k : Kn) (d : Addr) (dd : My.Dee), vs = [.ref a, .ref d] ∧ KnH c H a g k ∧ My.DeeAt K H d dd ∧ KnB k ∧ DidOk k dd ∧ Tells c H a g (didK k dd) Q
theorem sh_num1 : Sh64 (numS 1) := fun p hp => by
  rw [show p = (([] : List Int), (1 : Int)) from List.mem_singleton.mp hp]
  exact ⟨(by decide : (-(2 ^ 64) : Int) < 1), (by decide : (1 : Int) < 2 ^ 64)⟩
theorem dg_num1 : Deg (numS 1) := fun p hp => by
  rw [show p = (([] : List Int), (1 : Int)) from List.mem_singleton.mp hp]
  exact (by decide : 0 ≤ 50000)
/-! ### what is known at the start -/
def rowsI (b : Int) : Nat → List My.Inp → List (Str × List Amt)
  | _, [] => []
  | n, i :: r => (i.nm, (List.range i.fg.toNat).map fun (k : Nat) => letA ((n + k : Nat) : Int) (b - 1)) :: rowsI b (n + i.fg.toNat) r
def figN : List My.Inp → Nat
  | [] => 0
  | i :: r => i.fg.toNat + figN r
def lsI (ins : List My.Inp) : List (Str × Int) := ins.map fun i => (i.nm, i.ls)
def knInit (b s w c : Int) (ins : List My.Inp) : Kn := ⟨b, min (w - s) (c - 1), b ^ s.toNat, b ^ w.toNat, b ^ c.toNat, List.replicate (figN ins) (b - 1), rowsI b 0 ins, lsI ins, numA 0, numA 0, numA 0, 0, none⟩
def spInitK {K : PySem.W.Frag} (kc : Kc K) : Sp := fun vs H Q _ => ∃ (a m x dx : Addr) (b s w c : Int) (xs : List Addr) (ins : List My.Inp), vs = [.ref a, .ref m, .ref x] ∧ H a = some (.ins kc.C dx []) ∧ My.MachAt K H m b s w c ∧ My.Mach b s w c ∧ SqT K H x (xs.map V.ref) ∧ Paired (My.InpAt K H) xs ins ∧ My.insOk s ins ∧
  ∀ g H', H g = none → (∀ b o, H b = some o → b ≠ a → H' b = some o) → KnH kc H' a g (knInit b s w c ins) → Q .non H'
theorem putK_new {κ : Type} [DecidableEq κ] {kvs : List (κ × V)} {k : κ} {v : V} (h : ∀ p ∈ kvs, p.1 ≠ k) : putK kvs k v = kvs ++ [(k, v)] := by
  unfold putK
  rw [if_neg]
  intro e
  obtain ⟨p, hp, e2⟩ := List.any_eq_true.mp e
  exact h p hp (of_decide_eq_true e2)
theorem rwH_keys {g : Addr} {H : Hp} : ∀ {kvs : List (Key × V)} {rs : List (Str × List Amt)}, RwH g H kvs rs → ∀ p ∈ kvs, ∃ r ∈ rs, p.1 = .inr r.1
  | _, _, .nil, p, h => by cases h
  | _, _, .cons ⟨e, _⟩ t, p, h => by
    rcases List.mem_cons.mp h with rfl | h
    · exact ⟨_, List.mem_cons_self, e⟩
    · obtain ⟨r, hr, e2⟩ := rwH_keys t p h
      exact ⟨r, List.mem_cons_of_mem _ hr, e2⟩
theorem Paired.snoc {α β : Type} {R : α → β → Prop} {x : α} {y : β} (r : R x y) : ∀ {xs : List α} {ys : List β}, Paired R xs ys → Paired R (xs ++ [x]) (ys ++ [y])
  | _, _, .nil => .cons r .nil
  | _, _, .cons a t => .cons a (Paired.snoc r t)
theorem rowsI_snoc (b : Int) (i : My.Inp) : ∀ (l : List My.Inp) (n : Nat), rowsI b n (l ++ [i]) = rowsI b n l ++ [(i.nm, (List.range i.fg.toNat).map fun (k : Nat) => letA ((n + figN l + k : Nat) : Int) (b - 1))]
  | [], n => by
    simp only [rowsI, figN, List.nil_append, Nat.add_zero]
  | j :: r, n => by
    show _ :: rowsI b (n + j.fg.toNat) (r ++ [i]) = _ :: (rowsI b (n + j.fg.toNat) r ++ _)
    rw [rowsI_snoc b i r]
    simp only [figN, Nat.add_assoc]
theorem figN_snoc (i : My.Inp) : ∀ l : List My.Inp, figN (l ++ [i]) = figN l + i.fg.toNat
  | [] => by simp [figN]
  | j :: r => by
    show j.fg.toNat + figN (r ++ [i]) = _
    rw [figN_snoc i r]
    show _ = j.fg.toNat + figN r + _
    omega
theorem rowsI_nm (b : Int) : ∀ (l : List My.Inp) (n : Nat), (rowsI b n l).map (·.1) = My.names l
  | [], _ => rfl
  | i :: r, n => by
    show i.nm :: (rowsI b _ r).map (·.1) = i.nm :: My.names r
    rw [rowsI_nm b r]
theorem take_snoc {α : Type} {l : List α} {i : Nat} {x : α} (h : l[i]? = some x) : l.take (i + 1) = l.take i ++ [x] := by
  rw [List.take_succ, h]
  rfl
theorem figN_le {s : Int} : ∀ {l : List My.Inp}, (∀ i ∈ l, i.fg ≤ s) → 0 ≤ s → (figN l : Int) ≤ s * l.length
  | [], _, _ => by simp [figN]
  | i :: r, h, h0 => by
    have h1 := figN_le (fun j hj => h j (List.mem_cons_of_mem _ hj)) h0
    have h2 := h i List.mem_cons_self
    show ((i.fg.toNat + figN r : Nat) : Int) ≤ s * ((r.length + 1 : Nat) : Int)
    have h3 : s * ((r.length + 1 : Nat) : Int) = s * r.length + s := by
      rw [Int.natCast_add, Int.mul_add]
      show _ + s * 1 = _
      rw [Int.mul_one]
    omega
theorem inp_ok {s : Int} {ins : List My.Inp} {k : Nat} {i : My.Inp} (h : My.insOk s ins) (e : ins[k]? = some i) : i.nm ∉ My.names (ins.take k) ∧ 1 ≤ i.fg ∧ i.fg ≤ s ∧ 0 ≤ i.ls ∧ i.ls ≤ 1 := by
  have g := h.2 k i e
  unfold My.inputOk at g
  simp only [Bool.and_eq_true, decide_eq_true_eq, Bool.not_eq_true', decide_eq_false_iff_not] at g
  obtain ⟨⟨⟨⟨g1, _⟩, g2⟩, g3⟩, g4⟩ := g
  refine ⟨?_, g2, g3, by omega, by omega⟩
  rw [← show (My.names ins).take k = My.names (ins.take k) by unfold My.names; rw [List.map_take]]
  exact g1
theorem lsV_new {n : Str} {v : Int} {l : List (Str × Int)} (h : n ∉ l.map (·.1)) : putK (lsV l) (.inr n) (.int v) = lsV (l ++ [(n, v)]) := by
  rw [putK_new fun p hp e => ?_]
  · unfold lsV
    rw [List.map_append]
    rfl
  · unfold lsV at hp
    obtain ⟨q, hq, e2⟩ := List.mem_map.mp hp
    apply h
    rw [← e2] at e
    injection e with e
    rw [← e]
    exact List.mem_map_of_mem hq
theorem lsI_nm (l : List My.Inp) : (lsI l).map (·.1) = My.names l := by
  unfold lsI My.names
  rw [List.map_map]
  rfl
theorem Kx.free {a z : Addr} {H H' : Hp} {o : HO} (k : Kx a a H H') (ha : H' a = some o) (hz : H' z = none) : H z = none := by
  cases e : H z with
  | none => rfl
  | some o2 =>
    have na : z ≠ a := fun e2 => by
      rw [e2, ha] at hz
      cases hz
    rw [k _ _ e na na] at hz
    cases hz
theorem range_snoc {α : Type} (f : Nat → α) (n : Nat) : (List.range (n + 1)).map f = (List.range n).map f ++ [f n] := by
  rw [List.range_succ, List.map_append]
  rfl
theorem kf_of_kx {a g : Addr} {H H' : Hp} {C dx : Addr} {fs : List (Str × V)} {ys : List V} (k : Kx a a H H') (ha : H a = some (.ins C dx fs)) (hg : H g = some (.lst ys)) : Kf a g H H' := ⟨fun b o h n _ => k b o h n n, ⟨_, _, _, ha⟩, _, hg⟩
/-- only dicts of ints and texts may have changed -/
def Md (H H' : Hp) : Prop := ∀ b o, H b = some o → (∀ kvs, o ≠ .dK kvs) → H' b = some o
theorem Md.put {H : Hp} {d : Addr} {kvs kvs' : List (Key × V)} (h : H d = some (.dK kvs)) : Md H (upd H d (.dK kvs')) := fun b o hb n => by
  rw [upd_ne (fun e => by rw [e, h] at hb; cases hb; exact n _ rfl)]
  exact hb
theorem Md.trans {A B C : Hp} (x : Md A B) (y : Md B C) : Md A C := fun b o h n => y b o (x b o h n) n
theorem Md.am {H H' : Hp} (k : Md H H') {a : Addr} {m : Amt} : AmH H a m → AmH H' a m := fun ⟨d, h1, h2, h3⟩ => ⟨d, k _ _ h1 (fun _ e => nomatch e), k _ _ h2 (fun _ e => nomatch e), h3⟩
theorem Md.aml {H H' : Hp} (k : Md H H') {xs : List V} {ms : List Amt} (h : AmL H xs ms) : AmL H' xs ms := Paired.imp (fun _ _ ⟨p, e, hp⟩ => ⟨p, e, k.am hp⟩) h
theorem Md.rwh {g : Addr} {H H' : Hp} (k : Md H H') {kvs : List (Key × V)} {rs : List (Str × List Amt)} (h : RwH g H kvs rs) : RwH g H' kvs rs :=
  Paired.imp (fun _ _ ⟨e, l, xs, e2, n, hl, hm⟩ => ⟨e, l, xs, e2, n, k _ _ hl (fun _ e => nomatch e), k.aml hm⟩) h
/-! ### claims -/
def sdp : My.Sid → Nat
  | .num _ => 1
  | .wheels => 1
  | .counts => 1
  | .inp _ => 1
  | .add p q => max (sdp p) (sdp q) + 1
  | .times p q => max (sdp p) (sdp q) + 1
theorem sdp_pos (p : My.Sid) : 1 ≤ sdp p := by cases p <;> simp only [sdp] <;> omega
def rowN (k : Kn) (n : Str) : Sm := match look n k.rows with
  | some ms => rowS k.base ms
  | none => []
def sideS (k : Kn) : My.Sid → Sm
  | .num n => numS n
  | .wheels => k.wh.s
  | .counts => k.ct.s
  | .inp n => rowN k n
  | .add p q => plusS (sideS k p) 1 (sideS k q)
  | .times p q => timesS (sideS k p) (sideS k q)
def RowOk (k : Kn) (n : Str) : Prop := ∃ ms l0, look n k.rows = some ms ∧ look n k.leasts = some l0 ∧ ms.length ≤ 16 ∧ ∀ m ∈ ms, m.s.length ≤ 1
def SideOk (k : Kn) : My.Sid → Prop
  | .num _ => True
  | .wheels => True
  | .counts => True
  | .inp n => RowOk k n
  | .add p q => SideOk k p ∧ SideOk k q ∧ (sideS k p).length + (sideS k q).length < sizeLine
  | .times p q => SideOk k p ∧ SideOk k q ∧ (Sh64 (sideS k p) ∨ Sh64 (sideS k q)) ∧ Deg (sideS k p) ∧ Deg (sideS k q) ∧ (sideS k q).length * (sideS k p).length < sizeLine
def spSideS {K : PySem.W.Frag} (c : Kc K) (n : Nat) : Sp := fun vs H Q _ => ∃ (a g : Addr) (k : Kn) (x : Addr) (p : My.Sid), vs = [.ref a, .ref x] ∧ sdp p ≤ n ∧ KnH c H a g k ∧ Base k.base ∧ My.SidAt K H x p ∧ SideOk k p ∧ ∀ d H', Same H H' → Sd H' d (sideS k p) → Q (.ref d) H'
def gapS (k : Kn) (c : My.Cla) : Sm := plusS (sideS k c.q) (-1) (sideS k c.p)
def factS (k : Kn) (u : Sm) (e : Int) : Sm := plusS (plusS [] e u) (-1) k.wh.s
def isSoK (k : Kn) (c : My.Cla) : Bool :=
  if c.less = true then (match k.fact with
    | some (u, e) => eqS (gapS k c) (factS k u e) || decide (1 ≤ leS k.gr (gapS k c))
    | none => decide (1 ≤ leS k.gr (gapS k c)))
  else eqS (gapS k c) []
/-- what the program's numbers need of a claim -/
structure ClaimOk (k : Kn) (c : My.Cla) : Prop where
  p : SideOk k c.p
  q : SideOk k c.q
  dp : sdp c.p ≤ 4
  dq : sdp c.q ≤ 4
  sz : (sideS k c.q).length + (sideS k c.p).length < sizeLine
  fc : c.less = true → ∀ u e, k.fact = some (u, e) → N64 e ∧ u.length + k.wh.s.length < sizeLine
  lt : c.less = true → (∀ u e, k.fact = some (u, e) → eqS (gapS k c) (factS k u e) = false) → LtrS k.gr (gapS k c) ∧ G64 k.gr ∧ Sh64 (gapS k c)
def spIsSo {K : PySem.W.Frag} (c : Kc K) : Sp := fun vs H Q _ => ∃ (a g : Addr) (k : Kn) (x : Addr) (cl : My.Cla), vs = [.ref a, .ref x] ∧ KnH c H a g k ∧ Base k.base ∧ My.ClaAt K H x cl ∧ ClaimOk k cl ∧ ∀ H', Same H H' → Q (.bl (isSoK k cl)) H'
/-! ### looked over -/
def runD (k : Kn) : List My.Dee → Nat → Option (Nat × Str) × Kn
  | [], _ => (none, k)
  | d :: r, i => match (didK k d).1 with
    | some w => (some (i, w), (didK k d).2)
    | none => runD (didK k d).2 r (i + 1)
def runC (k : Kn) : List My.Cla → Nat → Option (Nat × Str)
  | [], _ => none
  | c :: r, i => if isSoK k c = true then runC k r (i + 1) else some (i, "claim")
def lookK (k : Kn) (B : My.Bok) : Option (Nat × Str) := match (runD k B.dds 0).1 with
  | some x => some x
  | none => runC (runD k B.dds 0).2 B.cls 0
def RunOk (k : Kn) : List My.Dee → Prop
  | [] => True
  | d :: r => KnB k ∧ DidOk k d ∧ ((didK k d).1 = none → RunOk (didK k d).2 r)
def LookOk (k : Kn) (B : My.Bok) : Prop := RunOk k B.dds ∧ ((runD k B.dds 0).1 = none → Base (runD k B.dds 0).2.base ∧ ∀ c ∈ B.cls, ClaimOk (runD k B.dds 0).2 c)
def LookQ (K : PySem.W.Frag) (r : Option (Nat × Str)) (H : Hp) (Q : VK) : Prop := match r with
  | none => Q .non H
  | some (i, w) => ∀ p H', Same H H' → SqT K H' p [.int (i : Nat), .str w] → Q (.ref p) H'
def spLooked {K : PySem.W.Frag} (kc : Kc K) (TP : Addr) : Sp := fun vs H Q _ => ∃ (m bk : Addr) (b s w c : Int) (B : My.Bok), vs = [.ref m, .ref bk] ∧ My.MachAt K H m b s w c ∧ My.Mach b s w c ∧ My.BokAt K H bk B ∧ My.BokOk s B ∧ GxR.TabG H TP ∧ LookOk (knInit b s w c B.ins) B ∧
  ∀ H', Tg.SmT TP H H' → LookQ K (lookK (knInit b s w c B.ins) B) H' Q
def MakeQ (C : Addr) (sp : Sp) (dvs : List V) (E : XK) (Q : VK) (vs : List V) (H1 : Hp) : Prop := ∀ x dx, H1 x = none → H1 dx = none → dx ≠ x → sp (.ref x :: (vs ++ dvs)) (upd (upd H1 dx (.own x)) x (.ins C dx [])) (fun v H2 => v = .non ∧ Q (.ref x) H2) E
theorem w_mk0 {C : Addr} {sp : Sp} {dvs : List V} {E : XK} {t : TA} {σ : St} {H : Hp} {Q : VK} (h : t σ H fun vs H1 => MakeQ C sp dvs E Q vs H1) : tMake C sp dvs E t σ H Q := h
theorem w_makeQ {C : Addr} {sp : Sp} {dvs : List V} {E : XK} {Q : VK} {vs : List V} {H1 : Hp} (h : ∀ x dx H2, H1 x = none → Same H1 H2 → H2 x = some (.ins C dx []) → sp (.ref x :: (vs ++ dvs)) H2 (fun v H2 => v = .non ∧ Q (.ref x) H2) E) : MakeQ C sp dvs E Q vs H1 :=
  fun x dx h1 h2 n => h x dx _ h1 (fun b o hb => by
    rw [upd_ne (ne_of_none hb h1), upd_ne (ne_of_none hb h2)]
    exact hb) upd_same
theorem Same.kf {a g : Addr} {H1 H2 H3 : Hp} (s : Same H1 H2) (k : Kf a g H2 H3) (ha : H1 a = none) (hg : H1 g = none) : Same H1 H3 := fun b o h => k.kx b o (s b o h) (ne_of_none h ha) (ne_of_none h hg)
theorem run_step (k : Kn) {ds : List My.Dee} {i : Nat} {d : My.Dee} (h : ds[i]? = some d) : runD k (ds.drop i) i = match (didK k d).1 with
    | some w => (some (i, w), (didK k d).2)
    | none => runD (didK k d).2 (ds.drop (i + 1)) (i + 1) := by
  rw [List.drop_eq_getElem_cons (lt_of_get h)]
  have e : ds[i]'(lt_of_get h) = d := (List.getElem?_eq_some_iff.mp h).2
  rw [e]
  rfl
theorem runC_step (k : Kn) {cs : List My.Cla} {i : Nat} {c : My.Cla} (h : cs[i]? = some c) : runC k (cs.drop i) i = if isSoK k c = true then runC k (cs.drop (i + 1)) (i + 1) else some (i, "claim") := by
  rw [List.drop_eq_getElem_cons (lt_of_get h)]
  have e : cs[i]'(lt_of_get h) = c := (List.getElem?_eq_some_iff.mp h).2
  rw [e]
  rfl
theorem ok_step (k : Kn) {ds : List My.Dee} {i : Nat} {d : My.Dee} (h : ds[i]? = some d) (o : RunOk k (ds.drop i)) : KnB k ∧ DidOk k d ∧ ((didK k d).1 = none → RunOk (didK k d).2 (ds.drop (i + 1))) := by
  rw [List.drop_eq_getElem_cons (lt_of_get h)] at o
  have e : ds[i]'(lt_of_get h) = d := (List.getElem?_eq_some_iff.mp h).2
  rw [e] at o
  exact o
theorem w_notS {w : Str} {H : Hp} {Q : VK} (h : Q (.bl true) H) : rNot (.str w) .non H Q := ⟨rfl, by rw [show decide (V.str w = V.non) = false from decide_eq_false (fun z => nomatch z)]; exact h⟩
/-! ### the laws' own defs -/
open My in
def spBig : Sp := fun vs H Q _ => ∃ (a cl : Addr), vs = [.ref a] ∧ DrawAt H a cl ∧ ∀ (b s w c : Int) p H', Mach b s w c → 2 ≤ s → s + 2 ≤ w → 2 ≤ c → Drew a cl H H' → H' p = some (.tup [.int b, .int s, .int w, .int c]) → Q (.ref p) H'
open My in
def spVal : Sp := fun vs H Q _ => ∃ (a cl : Addr) (b f l : Int), vs = [.ref a, .int b, .int f, .int l] ∧ DrawAt H a cl ∧ 2 ≤ b ∧ b ≤ 12 ∧ 1 ≤ f ∧ f ≤ 6 ∧ 0 ≤ l ∧ l ≤ 1 ∧ ∀ v H', l ≤ v → v < b ^ f.toNat → Drew a cl H H' → Q (.int v) H'
open My in
def spNeedSl (K : PySem.W.Frag) (TS : Addr) : Sp := fun vs H Q E => ∃ (m : Addr) (b s w c n : Int), vs = [.ref m, .int n] ∧ MachAt K H m b s w c ∧ Mach b s w c ∧ 0 ≤ n ∧ n ≤ 1000 ∧ (n ≤ s → Q .non H) ∧ (s < n → ∀ H', Same H H' → E (.ref TS) none H')
open My in
def spNeedPl (K : PySem.W.Frag) (TS : Addr) : Sp := fun vs H Q E => ∃ (m : Addr) (b s w c n : Int), vs = [.ref m, .int n] ∧ MachAt K H m b s w c ∧ Mach b s w c ∧ 0 ≤ n ∧ n ≤ 1000 ∧ (n ≤ min (w - s) (c - 1) + 1 → Q .non H) ∧ (min (w - s) (c - 1) + 1 < n → ∀ H', Same H H' → E (.ref TS) none H')
/-- what a manual tells, none if it raises TooSmall -/
def ToldT (CS : Addr) : (XK → Hp → VK → Prop) → Hp → VK → Prop := fun tl H Q => tl (fun cls d H' => cls = .ref CS ∧ d = none ∧ ∀ H'', Same H' H'' → Q .non H'') H Q
end Rn
set_option Elab.async false
set_option linter.all false
set_option maxRecDepth 100000
set_option maxHeartbeats 4000000
/-! handbooks as plain data; the manuals' handbooks -/
namespace My
open PySem PySem.Spec L2 RT Rn So Ks
def plD : V → PyData
  | .int i => .int i
  | .str x => .str x
  | _ => .none
def deeD (d : Dee) : PyData := .tuple (d.vs.map plD)
def inpD (i : Inp) : PyData := .tuple [.str i.nm, .int i.fg, .int i.ls]
def sidD : Sid → PyData
  | .num n => .tuple [.str "num", .int n]
  | .wheels => .tuple [.str "wheels"]
  | .counts => .tuple [.str "counts"]
  | .inp n => .tuple [.str "input", .str n]
  | .add p q => .tuple [.str "add", sidD p, sidD q]
  | .times p q => .tuple [.str "times", sidD p, sidD q]
def claD (c : Cla) : PyData := .tuple [.str (claW c.less), sidD c.p, sidD c.q]
def bokD (B : Bok) : PyData := .tuple [.tuple (B.ins.map inpD), .tuple (B.dds.map deeD), .tuple (B.cls.map claD)]
section
variable {K : PySem.W.Frag} {H : Hp}
theorem pl_all : ∀ {xs : List V}, (∀ x ∈ xs, (∃ i, x = .int i) ∨ ∃ s, x = .str s) → DpAll K H xs (xs.map plD)
  | [], _ => .nil
  | x :: r, h => by
    have h1 := pl_all fun y hy => h y (List.mem_cons_of_mem _ hy)
    rcases h x List.mem_cons_self with ⟨i, rfl⟩ | ⟨s, rfl⟩
    · exact .cons (.int i) h1
    · exact .cons (.str s) h1
theorem dee_pl (d : Dee) : ∀ x ∈ d.vs, (∃ i, x = .int i) ∨ ∃ s, x = .str s := by
  cases d <;> simp [Dee.vs]
theorem dee_dp {a : Addr} {d : Dee} (h : DeeAt K H a d) : Dp K H (.ref a) (deeD d) := .tup h (pl_all (dee_pl d))
def nmOk : Dee → Bool
  | .load n => PyData.strOk n
  | .turns n _ _ _ => PyData.strOk n
  | _ => true
theorem dee_lays (d : Dee) (h : nmOk d = true) : lays (deeD d) 2 := by
  have k : ∀ z : Str, PyData.strOk z = true → lays (.str z) 1 := fun z hz => lays.str hz
  cases d with
  | load n => exact lays.tup (laysAll.cons (k _ (by decide +kernel)) (laysAll.cons (k _ h) laysAll.nil))
  | one => exact lays.tup (laysAll.cons (k _ (by decide +kernel)) laysAll.nil)
  | shift y => exact lays.tup (laysAll.cons (k _ (by decide +kernel)) (laysAll.cons (lays.int _) laysAll.nil))
  | turn x y => exact lays.tup (laysAll.cons (k _ (by decide +kernel)) (laysAll.cons (lays.int _) (laysAll.cons (lays.int _) laysAll.nil)))
  | wipe c => cases c <;> exact lays.tup (laysAll.cons (k _ (by decide +kernel)) (laysAll.cons (k _ (by decide +kernel)) laysAll.nil))
  | turns n j x y => exact lays.tup (laysAll.cons (k _ (by decide +kernel)) (laysAll.cons (k _ h) (laysAll.cons (lays.int _) (laysAll.cons (lays.int _) (laysAll.cons (lays.int _) laysAll.nil)))))
  | bell y => exact lays.tup (laysAll.cons (k _ (by decide +kernel)) (laysAll.cons (lays.int _) laysAll.nil))
  | odds y => exact lays.tup (laysAll.cons (k _ (by decide +kernel)) (laysAll.cons (lays.int _) laysAll.nil))
theorem inp_dp {a : Addr} {i : Inp} (h : InpAt K H a i) : Dp K H (.ref a) (inpD i) := .tup h (.cons (.str _) (.cons (.int _) (.cons (.int _) .nil)))
theorem inp_lays (i : Inp) (h : PyData.strOk i.nm = true) : lays (inpD i) 2 := lays.tup (laysAll.cons (lays.str h) (laysAll.cons (lays.int _) (laysAll.cons (lays.int _) laysAll.nil)))
theorem sid_dp {a : Addr} {p : Sid} (h : SidAt K H a p) : Dp K H (.ref a) (sidD p) := by
  induction h with
  | num h => exact .tup h (.cons (.str _) (.cons (.int _) .nil))
  | wheels h => exact .tup h (.cons (.str _) .nil)
  | counts h => exact .tup h (.cons (.str _) .nil)
  | inp h => exact .tup h (.cons (.str _) (.cons (.str _) .nil))
  | add h _ _ i j => exact .tup h (.cons (.str _) (.cons i (.cons j .nil)))
  | times h _ _ i j => exact .tup h (.cons (.str _) (.cons i (.cons j .nil)))
def sidN : Sid → Bool
  | .inp n => PyData.strOk n
  | .add p q => sidN p && sidN q
  | .times p q => sidN p && sidN q
  | _ => true
theorem sid_lays : ∀ p : Sid, sidN p = true → lays (sidD p) (sdp p + 1)
  | .num n, _ => lays.tup (laysAll.cons (lays.str (by decide +kernel)) (laysAll.cons (lays.int n) laysAll.nil))
  | .wheels, _ => lays.tup (laysAll.cons (lays.str (by decide +kernel)) laysAll.nil)
  | .counts, _ => lays.tup (laysAll.cons (lays.str (by decide +kernel)) laysAll.nil)
  | .inp n, h => lays.tup (laysAll.cons (lays.str (by decide +kernel)) (laysAll.cons (lays.str h) laysAll.nil))
  | .add p q, h => by
    have h := Bool.and_eq_true_iff.mp h
    exact lays.tup (n := max (sdp p) (sdp q) + 1) (laysAll.cons ((lays.str (by decide +kernel)).mono (by omega)) (laysAll.cons ((sid_lays p h.1).mono (by omega)) (laysAll.cons ((sid_lays q h.2).mono (by omega)) laysAll.nil)))
  | .times p q, h => by
    have h := Bool.and_eq_true_iff.mp h
    exact lays.tup (n := max (sdp p) (sdp q) + 1) (laysAll.cons ((lays.str (by decide +kernel)).mono (by omega)) (laysAll.cons ((sid_lays p h.1).mono (by omega)) (laysAll.cons ((sid_lays q h.2).mono (by omega)) laysAll.nil)))
theorem cla_dp {a : Addr} {c : Cla} (h : ClaAt K H a c) : Dp K H (.ref a) (claD c) := by
  obtain ⟨x, y, h0, h1, h2⟩ := h
  exact .tup h0 (.cons (.str _) (.cons (sid_dp h1) (.cons (sid_dp h2) .nil)))
theorem cla_lays (c : Cla) (h1 : sdp c.p ≤ 8 ∧ sidN c.p = true) (h2 : sdp c.q ≤ 8 ∧ sidN c.q = true) : lays (claD c) 10 := by
  have k : PyData.strOk (claW c.less) = true := by cases c.less <;> decide +kernel
  exact lays.tup (n := 9) (laysAll.cons ((lays.str k).mono (by omega)) (laysAll.cons ((sid_lays _ h1.2).mono (by omega)) (laysAll.cons ((sid_lays _ h2.2).mono (by omega)) laysAll.nil)))
theorem all_dp {α : Type} {R : Addr → α → Prop} {f : α → PyData} (h : ∀ a x, R a x → Dp K H (.ref a) (f x)) : ∀ {as : List Addr} {xs : List α}, Paired R as xs → DpAll K H (as.map V.ref) (xs.map f)
  | _, _, .nil => .nil
  | _, _, .cons r t => .cons (h _ _ r) (all_dp h t)
theorem all_lays {α : Type} {f : α → PyData} {n : Nat} : ∀ {xs : List α}, (∀ x ∈ xs, lays (f x) n) → laysAll (xs.map f) n
  | [], _ => laysAll.nil
  | x :: r, h => laysAll.cons (h x List.mem_cons_self) (all_lays fun y hy => h y (List.mem_cons_of_mem _ hy))
theorem bok_dp {a : Addr} {B : Bok} (h : BokAt K H a B) : Dp K H (.ref a) (bokD B) := by
  obtain ⟨x, y, z, xs, ys, zs, h0, h1, p1, h2, p2, h3, p3⟩ := h
  exact .tup h0 (.cons (.tup h1 (all_dp (fun _ _ h => inp_dp h) p1)) (.cons (.tup h2 (all_dp (fun _ _ h => dee_dp h) p2)) (.cons (.tup h3 (all_dp (f := claD) (fun _ _ h => cla_dp h) p3)) .nil)))
theorem bok_lays (B : Bok) (hi : ∀ i ∈ B.ins, PyData.strOk i.nm = true) (hd : ∀ d ∈ B.dds, nmOk d = true) (h : ∀ c ∈ B.cls, (sdp c.p ≤ 8 ∧ sidN c.p = true) ∧ (sdp c.q ≤ 8 ∧ sidN c.q = true)) : lays (bokD B) 12 :=
  lays.tup (n := 11) (laysAll.cons ((lays.tup (all_lays fun i m => inp_lays i (hi i m))).mono (by omega)) (laysAll.cons ((lays.tup (all_lays fun d m => dee_lays d (hd d m))).mono (by omega)) (laysAll.cons ((lays.tup (all_lays fun c hc => cla_lays c (h c hc).1 (h c hc).2)).mono (by omega)) laysAll.nil)))
end
/-! ### the handbook that multiplies -/
def prodD : Nat → List Dee
  | 0 => [.load "a"]
  | n + 1 => prodD n ++ (if n = 0 then [.turns "b" 0 1 1] else [.shift 1, .turns "b" n 1 1])
def prodC : List Cla := [⟨false, .wheels, .times (.inp "a") (.inp "b")⟩, ⟨false, .counts, .inp "b"⟩]
def prodB (x y : Int) : Bok := ⟨[⟨"a", x, 0⟩, ⟨"b", y, 0⟩], prodD y.toNat, prodC⟩
def prodFits (s w c x y : Int) : Prop := x ≤ s ∧ y ≤ s ∧ y ≤ min (w - s) (c - 1) + 1 ∧ x + y ≤ w
def spProd (K : PySem.W.Frag) (TS : Addr) : Sp := fun vs H Q E => ∃ (m : Addr) (b s w c x y : Int), vs = [.ref m, .int x, .int y] ∧ MachAt K H m b s w c ∧ Mach b s w c ∧ 1 ≤ x ∧ x ≤ 100 ∧ 1 ≤ y ∧ y ≤ 100 ∧
  (prodFits s w c x y → ∀ p H', Same H H' → BokAt K H' p (prodB x y) → Q (.ref p) H') ∧ (¬ prodFits s w c x y → ∀ H', Same H H' → E (.ref TS) none H')
def spDueP (K : PySem.W.Frag) : Sp := fun vs H Q E => ∃ (x y : Int), vs = [.int x, .int y] ∧ 1 ≤ x ∧ x ≤ 100 ∧ 1 ≤ y ∧ y ≤ 100 ∧ ∀ p H', Same H H' → BokAt K H' p (prodB x y) → Q (.ref p) H'
theorem prodD_one : prodD 1 = [.load "a", .turns "b" 0 1 1] := rfl
theorem prodD_more (n : Nat) : prodD (n + 2) = prodD (n + 1) ++ [.shift 1, .turns "b" ((n + 1 : Nat) : Int) 1 1] := by
  show prodD (n + 1) ++ (if n + 1 = 0 then _ else _) = _
  rw [if_neg (by omega)]
theorem same_all {K : PySem.W.Frag} {H H' : Hp} (s : Same H H') {ys : List Addr} {ds : List Dee} (h : Paired (DeeAt K H) ys ds) : Paired (DeeAt K H') ys ds := paired_imp (fun _ _ h => h.tn s.tn) h
theorem paired_snoc2 {α β : Type} {R : α → β → Prop} {xs : List α} {ys : List β} {a b : α} {c d : β} (h : Paired R xs ys) (h1 : R a c) (h2 : R b d) : Paired R (xs ++ [a, b]) (ys ++ [c, d]) := by
  have e : xs ++ [a, b] = (xs ++ [a]) ++ [b] := by simp
  have e2 : ys ++ [c, d] = (ys ++ [c]) ++ [d] := by simp
  rw [e, e2]
  exact Rn.Paired.snoc h2 (Rn.Paired.snoc h1 h)
theorem tn_put {H : Hp} {l : Addr} {xs : List V} {o : HO} (h : H l = some (.lst xs)) : Tn H (upd H l o) := fun a ys r => by
  rcases r with r | ⟨o2, r⟩
  · exact .inl (by rw [upd_ne (fun e => by rw [e, h] at r; cases r)]; exact r)
  · exact .inr ⟨o2, by rw [upd_ne (fun e => by rw [e, h] at r; cases r)]; exact r⟩
theorem tn_all {K : PySem.W.Frag} {H H' : Hp} (t : Tn H H') {ys : List Addr} {ds : List Dee} (h : Paired (DeeAt K H) ys ds) : Paired (DeeAt K H') ys ds := paired_imp (fun _ _ h => h.tn t) h
end My
set_option Elab.async false
set_option linter.all false
set_option maxRecDepth 100000
set_option maxHeartbeats 4000000
/-! the handbook that multiplies: it is one -/
namespace My
open PySem PySem.Spec L2 RT Rn So Ks
theorem prodD_mem : ∀ (n : Nat) (d : Dee), d ∈ prodD n → d = .load "a" ∨ d = .shift 1 ∨ ∃ k : Nat, k < n ∧ d = .turns "b" k 1 1
  | 0, d, h => .inl (List.mem_singleton.mp h)
  | n + 1, d, h => by
    have h : d ∈ prodD n ++ (if n = 0 then [.turns "b" 0 1 1] else [.shift 1, .turns "b" n 1 1]) := h
    rcases List.mem_append.mp h with h | h
    · rcases prodD_mem n d h with h | h | ⟨k, hk, h⟩
      · exact .inl h
      · exact .inr (.inl h)
      · exact .inr (.inr ⟨k, by omega, h⟩)
    · split at h
      · next e =>
        refine .inr (.inr ⟨0, by omega, ?_⟩)
        exact List.mem_singleton.mp h
      · rcases List.mem_cons.mp h with h | h
        · exact .inr (.inl h)
        · exact .inr (.inr ⟨n, by omega, List.mem_singleton.mp h⟩)
theorem prodD_len : ∀ n : Nat, (prodD n).length ≤ 2 * n + 1
  | 0 => Nat.le_refl _
  | n + 1 => by
    have h := prodD_len n
    show (prodD n ++ _).length ≤ _
    rw [List.length_append]
    split
    · show _ + 1 ≤ _
      omega
    · show _ + 2 ≤ _
      omega
theorem prod_lays (x y : Int) : lays (bokD (prodB x y)) 12 := by
  refine bok_lays _ (fun i hi => ?_) (fun d hd => ?_) (fun c hc => ?_)
  · rcases List.mem_cons.mp hi with rfl | hi
    · exact (by decide +kernel : PyData.strOk "a" = true)
    · rw [List.mem_singleton.mp hi]
      exact (by decide +kernel : PyData.strOk "b" = true)
  · rcases prodD_mem _ d hd with rfl | rfl | ⟨k, _, rfl⟩
    · exact (by decide +kernel : PyData.strOk "a" = true)
    · rfl
    · exact (by decide +kernel : PyData.strOk "b" = true)
  · rcases List.mem_cons.mp hc with rfl | hc
    · exact ⟨⟨by decide, rfl⟩, ⟨by decide, by decide +kernel⟩⟩
    · rw [List.mem_singleton.mp hc]
      exact ⟨⟨by decide, rfl⟩, ⟨by decide, by decide +kernel⟩⟩
theorem figs_cons (i : Inp) (r : List Inp) (n : Str) : figsOf (i :: r) n = if i.nm = n then some i.fg else figsOf r n := by
  unfold figsOf
  rw [List.find?_cons]
  by_cases h : i.nm = n <;> simp [h]
theorem prod_ok {b s w c x y : Int} (hm : Mach b s w c) (x1 : 1 ≤ x) (y1 : 1 ≤ y) (h : prodFits s w c x y) : BokOk s (prodB x y) := by
  obtain ⟨b0, b1, s0, s1, w0, w1, c0, c1⟩ := hm
  obtain ⟨f1, f2, f3, f4⟩ := h
  have fa : ∀ i : Inp, inputOk s ((names [⟨"a", x, 0⟩, ⟨"b", y, 0⟩]).take 0) i = inputOk s [] i := fun _ => rfl
  have fb : figsOf [⟨"a", x, 0⟩, ⟨"b", y, 0⟩] "a" = some x := by
    rw [figs_cons, if_pos rfl]
  have fc : figsOf [⟨"a", x, 0⟩, ⟨"b", y, 0⟩] "b" = some y := by
    rw [figs_cons, if_neg (show ¬ ("a" : Str) = "b" by decide +kernel), figs_cons, if_pos rfl]
  refine ⟨⟨(show 2 ≤ 4 by decide), fun k i hi => ?_⟩, ?_, fun d hd => ?_, (show 2 ≤ 8 by decide), fun cl hc => ?_⟩
  · match k, hi with
    | 0, hi =>
      cases hi
      have n1 : nameOk "a" = true := by decide +kernel
      unfold inputOk
      simp only [n1, Bool.and_eq_true, decide_eq_true_eq, Bool.not_eq_true', decide_eq_false_iff_not]
      exact ⟨⟨⟨⟨fun h => List.not_mem_nil h, trivial⟩, x1⟩, f1⟩, .inl trivial⟩
    | 1, hi =>
      cases hi
      have n1 : nameOk "b" = true := by decide +kernel
      unfold inputOk
      simp only [n1, Bool.and_eq_true, decide_eq_true_eq, Bool.not_eq_true', decide_eq_false_iff_not]
      exact ⟨⟨⟨⟨fun h => absurd (show ("b" : Str) = "a" from List.mem_singleton.mp h) (by decide +kernel), trivial⟩, y1⟩, f2⟩, .inl trivial⟩
    | k + 2, hi => cases hi
  · have := prodD_len y.toNat
    show (prodD y.toNat).length ≤ 40
    omega
  · rcases prodD_mem _ d hd with rfl | rfl | ⟨k, hk, rfl⟩
    · show (figsOf (prodB x y).ins "a").isSome = true
      rw [show (prodB x y).ins = [⟨"a", x, 0⟩, ⟨"b", y, 0⟩] from rfl, fb]
      rfl
    · rfl
    · show (match figsOf (prodB x y).ins "b" with | some f => decide (0 ≤ (k : Int)) && decide ((k : Int) < f) && wayOk 1 && tallyOk 1 | none => false) = true
      rw [show (prodB x y).ins = [⟨"a", x, 0⟩, ⟨"b", y, 0⟩] from rfl, fc]
      simp only [decide_eq_true (show (0 : Int) ≤ (k : Int) by omega), decide_eq_true (show (k : Int) < y by omega)]
      decide
  · rcases List.mem_cons.mp hc with rfl | hc
    · show (true && ((figsOf (prodB x y).ins "a").isSome && (figsOf (prodB x y).ins "b").isSome)) = true
      rw [show (prodB x y).ins = [⟨"a", x, 0⟩, ⟨"b", y, 0⟩] from rfl, fb, fc]
      rfl
    · rw [List.mem_singleton.mp hc]
      show (true && (figsOf (prodB x y).ins "b").isSome) = true
      rw [show (prodB x y).ins = [⟨"a", x, 0⟩, ⟨"b", y, 0⟩] from rfl, fc]
      rfl
end My
set_option Elab.async false
set_option linter.all false
set_option maxRecDepth 100000
set_option maxHeartbeats 4000000
/-! the handbook that multiplies: what it does -/
namespace My
open PySem PySem.Spec L2 RT Rn So Ks
theorem lo_step {b v : Int} (hb : 0 < b) (k : Nat) : v % b ^ (k + 1) = v % b ^ k + shr b v k % b * b ^ k := by
  have e1 : shr b v (k + 1) = v / b ^ (k + 1) := shr_div hb _
  have e2 : shr b v k = v / b ^ k := shr_div hb _
  have e3 : shr b v (k + 1) = shr b v k / b := rfl
  rw [Int.emod_def v (b ^ (k + 1)), Int.emod_def v (b ^ k), Int.emod_def (shr b v k) b, ← e1, ← e2, e3, Int.pow_succ, Int.sub_mul]
  have e4 : b * (shr b v k / b) * b ^ k = b ^ k * b * (shr b v k / b) := by
    rw [Int.mul_comm (b * _) (b ^ k), Int.mul_assoc]
  have e5 : shr b v k * b ^ k = b ^ k * shr b v k := Int.mul_comm _ _
  rw [e4, e5]
  omega
theorem runN_app (b s w c : Int) (val : Str → Int) : ∀ (xs ys : List Dee) (k : Nat) (x : Num4), runN b s w c val (xs ++ ys) k x = match runN b s w c val xs k x with
    | .inl i => .inl i
    | .inr y => runN b s w c val ys (k + xs.length) y
  | [], ys, k, x => rfl
  | d :: r, ys, k, x => by
    show (match stepN b s w c val x d with | none => _ | some y => runN b s w c val (r ++ ys) (k + 1) y) = _
    cases e : stepN b s w c val x d with
    | none => simp only [runN, e]
    | some y =>
      simp only [runN, e]
      rw [runN_app b s w c val r ys (k + 1) y]
      simp only [List.length_cons, Nat.add_assoc, Nat.add_comm 1]
theorem runN_go {b s w c : Int} {val : Str → Int} {d : Dee} {r : List Dee} {k : Nat} {x y : Num4} (e : stepN b s w c val x d = some y) : runN b s w c val (d :: r) k x = runN b s w c val r (k + 1) y := by
  simp only [runN, e]
theorem mul_small {u l p q r : Int} (u0 : 0 ≤ u) (u1 : u < p) (l0 : 0 ≤ l) (l1 : l < q) (h : p * q ≤ r) : 0 ≤ u * l ∧ u * l < r := by
  refine ⟨Int.mul_nonneg u0 l0, ?_⟩
  have h1 : u * l ≤ u * q := Int.mul_le_mul_of_nonneg_left (Int.le_of_lt l1) u0
  have h2 : u * q < p * q := Int.mul_lt_mul_of_pos_right u1 (by omega)
  omega
theorem pow_mono {b : Int} (hb : 1 ≤ b) {m n : Nat} (h : m ≤ n) : b ^ m ≤ b ^ n := by
  obtain ⟨k, rfl⟩ : ∃ k, n = m + k := ⟨n - m, by omega⟩
  rw [Int.pow_add]
  have h1 : 0 < b ^ m := Int.pow_pos (by omega)
  have h2 : 0 < b ^ k := Int.pow_pos (by omega)
  have h3 : b ^ m * 1 ≤ b ^ m * b ^ k := Int.mul_le_mul_of_nonneg_left (by omega) (by omega)
  omega
section
variable {b s w c x y u v : Int}
theorem prod_runs (hm : Mach b s w c) (x1 : 1 ≤ x) (y1 : 1 ≤ y) (h : prodFits s w c x y) (u0 : 0 ≤ u) (u1 : u < b ^ x.toNat) (v0 : 0 ≤ v) (val : Str → Int) (va : val "a" = u) (vb : val "b" = v) :
    ∀ n : Nat, n + 1 ≤ y.toNat → runN b s w c val (prodD (n + 1)) 0 num0 = .inr ⟨u, n, u * (v % b ^ (n + 1)), v % b ^ (n + 1)⟩ := by
  obtain ⟨b0, b1, s0, s1, w0, w1, c0, c1⟩ := hm
  obtain ⟨f1, f2, f3, f4⟩ := h
  have hb : 0 < b := by omega
  have key : ∀ n : Nat, n + 1 ≤ y.toNat → stepN b s w c val ⟨u, n, u * (v % b ^ n), v % b ^ n⟩ (.turns "b" n 1 1) = some ⟨u, n, u * (v % b ^ (n + 1)), v % b ^ (n + 1)⟩ := by
    intro n hn
    have p0 : 0 < b ^ (n + 1) := Int.pow_pos hb
    have l0 : 0 ≤ v % b ^ (n + 1) := Int.emod_nonneg _ (by omega)
    have l1 : v % b ^ (n + 1) < b ^ (n + 1) := Int.emod_lt_of_pos _ p0
    have hw : b ^ x.toNat * b ^ (n + 1) ≤ b ^ w.toNat := by
      rw [← Int.pow_add]
      exact pow_mono (by omega) (by omega)
    obtain ⟨m0, m1⟩ := mul_small u0 u1 l0 l1 hw
    have hc : b ^ (n + 1) ≤ b ^ c.toNat := pow_mono (by omega) (by omega)
    have st := lo_step (v := v) hb n
    show some (turnedN b w c ⟨u, n, u * (v % b ^ n), v % b ^ n⟩ (shr b (val "b") (n : Int).toNat % b) 1 1) = _
    unfold turnedN
    simp only [Int.toNat_natCast, vb, Int.one_mul]
    have e1 : u * (v % b ^ n) + shr b v n % b * u * b ^ n = u * (v % b ^ (n + 1)) := by
      rw [st, Int.mul_add, Int.mul_comm (shr b v n % b) u, Int.mul_assoc]
    rw [e1, ← st, Int.emod_eq_of_lt m0 m1, Int.emod_eq_of_lt l0 (by omega)]
  intro n
  induction n with
  | zero =>
    intro hn
    have k0 := key 0 hn
    rw [prodD_one]
    show runN b s w c val [.turns "b" ((0 : Nat) : Int) 1 1] 1 ⟨val "a", 0, 0, 0⟩ = _
    have e : (⟨val "a", 0, 0, 0⟩ : Num4) = ⟨u, ((0 : Nat) : Int), u * (v % b ^ 0), v % b ^ 0⟩ := by
      rw [va, Int.pow_zero, Int.emod_one, Int.mul_zero]
      rfl
    rw [e, runN_go k0]
    rfl
  | succ n ih =>
    intro hn
    rw [prodD_more, runN_app, ih (by omega)]
    have sh : stepN b s w c val ⟨u, n, u * (v % b ^ (n + 1)), v % b ^ (n + 1)⟩ (.shift 1) = some ⟨u, ((n + 1 : Nat) : Int), u * (v % b ^ (n + 1)), v % b ^ (n + 1)⟩ := by
      show (if 0 ≤ (n : Int) + 1 ∧ (n : Int) + 1 ≤ min (w - s) (c - 1) then _ else _) = _
      rw [if_pos ⟨by omega, by omega⟩]
      rfl
    show runN b s w c val [.shift 1, .turns "b" ((n + 1 : Nat) : Int) 1 1] _ _ = _
    rw [runN_go sh, runN_go (key (n + 1) hn)]
    rfl
theorem prod_run (hm : Mach b s w c) (x1 : 1 ≤ x) (y1 : 1 ≤ y) (h : prodFits s w c x y) (u0 : 0 ≤ u) (u1 : u < b ^ x.toNat) (v0 : 0 ≤ v) (v1 : v < b ^ y.toNat) :
    ∃ z : Num4, runN b s w c (valOf (prodB x y).ins [u, v]) (prodB x y).dds 0 num0 = .inr z ∧ z.W = u * v ∧ z.C = v := by
  have va : valOf (prodB x y).ins [u, v] "a" = u := by
    show valOf [⟨"a", x, 0⟩, ⟨"b", y, 0⟩] [u, v] "a" = u
    unfold valOf
    simp only [List.zip_cons_cons, List.find?_cons]
    rfl
  have vb : valOf (prodB x y).ins [u, v] "b" = v := by
    show valOf [⟨"a", x, 0⟩, ⟨"b", y, 0⟩] [u, v] "b" = v
    unfold valOf
    simp only [List.zip_cons_cons, List.find?_cons]
    rw [show decide (("a" : Str) = "b") = false by decide +kernel]
    rfl
  have r := prod_runs hm x1 y1 h u0 u1 v0 _ va vb (y.toNat - 1) (by omega)
  rw [show y.toNat - 1 + 1 = y.toNat by omega, Int.emod_eq_of_lt v0 v1] at r
  exact ⟨_, r, rfl, rfl⟩
end
end My
set_option Elab.async false
set_option linter.all false
set_option maxRecDepth 100000
set_option maxHeartbeats 4000000
/-! rows of figures as sums -/
namespace Rn
open PySem PySem.Spec L2 RT So Ks
def sumN (g : Nat → Int) : Nat → Int
  | 0 => 0
  | n + 1 => sumN g n + g n
theorem sumN_congr {g h : Nat → Int} (n : Nat) (e : ∀ j, j < n → g j = h j) : sumN g n = sumN h n := by
  induction n with
  | zero => rfl
  | succ n ih =>
    show sumN g n + g n = sumN h n + h n
    rw [ih fun j hj => e j (by omega), e n (by omega)]
theorem ev_add (f g : List Int → Int) : ∀ x : Sm, ev (fun p => f p + g p) x = ev f x + ev g x
  | [] => rfl
  | p :: r => by
    show p.2 * (f p.1 + g p.1) + ev _ r = p.2 * f p.1 + ev f r + (p.2 * g p.1 + ev g r)
    rw [ev_add f g r, Int.mul_add]
    omega
theorem ev_mulc (c : Int) (f : List Int → Int) : ∀ x : Sm, ev (fun p => c * f p) x = c * ev f x
  | [] => by
    show (0 : Int) = c * 0
    rw [Int.mul_zero]
  | p :: r => by
    show p.2 * (c * f p.1) + ev _ r = c * (p.2 * f p.1 + ev f r)
    rw [ev_mulc c f r, Int.mul_add, Int.mul_left_comm]
theorem ev_zero : ∀ x : Sm, ev (fun _ => 0) x = 0
  | [] => rfl
  | p :: r => by
    show p.2 * 0 + ev _ r = 0
    rw [ev_zero r, Int.mul_zero]
    rfl
theorem ev_sumN (c : Nat → Int) (h : Nat → List Int → Int) (x : Sm) : ∀ n : Nat, ev (fun l => sumN (fun j => c j * h j l) n) x = sumN (fun j => c j * ev (h j) x) n
  | 0 => ev_zero x
  | n + 1 => by
    show ev (fun l => sumN (fun j => c j * h j l) n + c n * h n l) x = sumN (fun j => c j * ev (h j) x) n + c n * ev (h n) x
    rw [ev_add (fun l => sumN (fun j => c j * h j l) n) (fun l => c n * h n l), ev_sumN c h x n, ev_mulc]
theorem ev_let (f : List Int → Int) (l : Int) : ev f (letS l) = f [l] := by
  show 1 * f [l] + 0 = f [l]
  omega
/-- the letters of a row -/
def lets (b : Int) (n m : Nat) : List Amt := (List.range m).map fun (k : Nat) => letA ((n + k : Nat) : Int) (b - 1)
theorem lets_len (b : Int) (n m : Nat) : (lets b n m).length = m := by
  unfold lets
  rw [List.length_map, List.length_range]
theorem lets_at {b : Int} {n m k : Nat} (h : k < m) : (lets b n m)[k]? = some (letA ((n + k : Nat) : Int) (b - 1)) := by
  unfold lets
  rw [List.getElem?_map, List.getElem?_range h]
  rfl
theorem row_succ (b : Int) (n m : Nat) : rowS b (lets b n (m + 1)) = plusS (rowS b (lets b n m)) (b ^ m) (letS ((n + m : Nat) : Int)) := by
  unfold rowS
  rw [show lets b n (m + 1) = lets b n m ++ [letA ((n + m : Nat) : Int) (b - 1)] from range_snoc _ m, List.zipIdx_append, List.foldl_append, lets_len]
  show rowF b _ (letA ((n + m : Nat) : Int) (b - 1), 0 + m) = _
  rw [Nat.zero_add]
  rfl
theorem row_nd (b : Int) (n m : Nat) : (keys (rowS b (lets b n m))).Nodup := nd_row b _ [] List.nodup_nil
theorem ev_row (f : List Int → Int) (b : Int) (n : Nat) : ∀ m : Nat, ev f (rowS b (lets b n m)) = sumN (fun j => b ^ j * f [((n + j : Nat) : Int)]) m
  | 0 => rfl
  | m + 1 => by
    rw [row_succ, ev_plus f _ (row_nd b n m), ev_row f b n m, ev_let]
    rfl
theorem mem_plus {x y : Sm} {c : Int} {p : List Int × Int} (h : p ∈ plusS x c y) : p.1 ∈ keys x ∨ p.1 ∈ keys y := by
  have h1 : p ∈ y.foldl (addS c) x := (List.mem_filter.mp h).1
  have key : ∀ (y x : Sm), p.1 ∈ keys (y.foldl (addS c) x) → p.1 ∈ keys x ∨ p.1 ∈ keys y := by
    intro y
    induction y with
    | nil => intro x h; exact .inl h
    | cons q r ih =>
      intro x h
      rcases ih _ h with h | h
      · unfold addS at h
        rw [keys_put] at h
        split at h
        · exact .inl h
        · rcases List.mem_append.mp h with h | h
          · exact .inl h
          · rw [List.mem_singleton.mp h]
            exact .inr List.mem_cons_self
      · exact .inr (List.mem_cons_of_mem _ h)
  exact key y x (List.mem_map_of_mem h1)
theorem row_keys {b : Int} {n : Nat} : ∀ {m : Nat} {p : List Int × Int}, p ∈ rowS b (lets b n m) → ∃ j : Nat, j < m ∧ p.1 = [((n + j : Nat) : Int)]
  | 0, p, h => by cases h
  | m + 1, p, h => by
    rw [row_succ] at h
    rcases mem_plus h with h | h
    · obtain ⟨q, hq, e⟩ := List.mem_map.mp h
      obtain ⟨j, hj, e2⟩ := row_keys hq
      exact ⟨j, by omega, by rw [← e, e2]⟩
    · exact ⟨m, by omega, List.mem_singleton.mp h⟩
theorem row_len (b : Int) (n : Nat) : ∀ m : Nat, (rowS b (lets b n m)).length ≤ m
  | 0 => Nat.le_refl _
  | m + 1 => by
    rw [row_succ]
    have h1 := len_plus (rowS b (lets b n m)) (letS ((n + m : Nat) : Int)) (b ^ m)
    have h2 := row_len b n m
    have h3 : (letS ((n + m : Nat) : Int)).length = 1 := rfl
    omega
theorem get_mem {p : List Int × Int} : ∀ {x : Sm}, (keys x).Nodup → p ∈ x → p.2 = getS x p.1
  | q :: r, nd, h => by
    have hk : q.1 ∉ keys r ∧ (keys r).Nodup := List.nodup_cons.mp nd
    rw [getS_cons]
    rcases List.mem_cons.mp h with rfl | h
    · rw [if_pos rfl]
    · rw [if_neg (fun e => hk.1 (by rw [e]; exact List.mem_map_of_mem h))]
      exact get_mem hk.2 h
theorem sum_pow {b : Int} (hb : 2 ≤ b) (t : Nat → Int) (t0 : ∀ j, 0 ≤ t j) (t1 : ∀ j, t j ≤ 1) : ∀ m : Nat, 0 ≤ sumN (fun j => b ^ j * t j) m ∧ sumN (fun j => b ^ j * t j) m < b ^ m
  | 0 => ⟨Int.le_refl _, by rw [Int.pow_zero]; exact (by decide : (0 : Int) < 1)⟩
  | m + 1 => by
    obtain ⟨h0, h1⟩ := sum_pow hb t t0 t1 m
    have p0 : 0 < b ^ m := Int.pow_pos (by omega)
    have a0 : 0 ≤ b ^ m * t m := Int.mul_nonneg (by omega) (t0 m)
    have a1 : b ^ m * t m ≤ b ^ m * 1 := Int.mul_le_mul_of_nonneg_left (t1 m) (by omega)
    have a2 : b ^ m * 2 ≤ b ^ m * b := Int.mul_le_mul_of_nonneg_left hb (by omega)
    rw [Int.pow_succ]
    show 0 ≤ sumN _ m + b ^ m * t m ∧ sumN _ m + b ^ m * t m < _
    omega
theorem row_sh {b : Int} (hb : 2 ≤ b) (h12 : b ≤ 12) {n m : Nat} (hm : m ≤ 6) : Sh64 (rowS b (lets b n m)) := by
  intro p hp
  rw [get_mem (row_nd b n m) hp, ← ev_dl _ (row_nd b n m), ev_row]
  obtain ⟨h0, h1⟩ := sum_pow hb (fun j => dl p.1 [((n + j : Nat) : Int)]) (fun j => by unfold dl; split <;> decide) (fun j => by unfold dl; split <;> decide) m
  have h2 : b ^ m ≤ 12 ^ 6 := My.pow_le12 (n := m) (N := 6) (by omega) h12 hm
  have h3 : (12 : Int) ^ 6 < 2 ^ 64 := by decide
  omega
theorem row_dg {b : Int} {n m : Nat} : ∀ p ∈ rowS b (lets b n m), p.1.length = 1 := fun p hp => by
  obtain ⟨j, _, e⟩ := row_keys hp
  rw [e]
  rfl
/-- the product of two rows -/
theorem ev_prod (f : List Int → Int) (b : Int) (A : Sm) (n m : Nat) : ev f (timesS A (rowS b (lets b n m))) = sumN (fun j => b ^ j * ev (fun l => f (srtZ (l ++ [((n + j : Nat) : Int)]))) A) m := by
  rw [ev_times, ← ev_sumN]
  exact ev_congr (fun l => ev_row _ b n m) A
theorem ev_turn (f : List Int → Int) (A : Sm) (l : Int) : ev f (timesS (letS l) A) = ev (fun r => f (srtZ (r ++ [l]))) A := by
  rw [ev_times, ev_let]
  exact ev_congr (fun r => by rw [srtZ_congr (List.perm_append_comm (l₁ := [l]) (l₂ := r))]) A
end Rn
set_option Elab.async false
set_option linter.all false
set_option maxRecDepth 100000
set_option maxHeartbeats 4000000
/-! the handbook that multiplies, looked over -/
namespace Rn
open PySem PySem.Spec L2 RT So Ks
open My (prodB prodD prodC prodFits Mach)
structure PInv (b s w c x y : Int) (n : Nat) (k : Kn) : Prop where
  base : k.base = b
  lastp : k.lastp = min (w - s) (c - 1)
  wEnd : k.wEnd = b ^ w.toNat
  cEnd : k.cEnd = b ^ c.toNat
  gr : k.gr.length ≤ 12
  rows : k.rows = rowsI b 0 (prodB x y).ins
  ls : k.leasts = lsI (prodB x y).ins
  set_ : k.set_ = rowA b (lets b 0 x.toNat) 0
  wlo : k.wh.lo = 0
  whi : k.wh.hi = (b ^ x.toNat - 1) * (b ^ n - 1)
  clo : k.ct.lo = 0
  chi : k.ct.hi = b ^ n - 1
  wnd : (keys k.wh.s).Nodup
  cnd : (keys k.ct.s).Nodup
  wev : ∀ f, ev f k.wh.s = sumN (fun j => b ^ j * ev (fun l => f (srtZ (l ++ [((x.toNat + j : Nat) : Int)]))) (rowS b (lets b 0 x.toNat))) n
  cev : ∀ f, ev f k.ct.s = sumN (fun j => b ^ j * f [((x.toNat + j : Nat) : Int)]) n
  wlen : k.wh.s.length ≤ 6 * n
  clen : k.ct.s.length ≤ n
section
variable {b s w c x y : Int} {n : Nat} {k : Kn}
theorem look_a : look "a" (rowsI b 0 (prodB x y).ins) = some (lets b 0 x.toNat) := by
  show look "a" (("a", _) :: _) = _
  rw [look_cons, if_pos rfl]
  rfl
theorem look_b : look "b" (rowsI b 0 (prodB x y).ins) = some (lets b x.toNat y.toNat) := by
  show look "b" (("a", _) :: ("b", _) :: _) = _
  rw [look_cons, if_neg (show ¬ ("a" : Str) = "b" by decide +kernel), look_cons, if_pos rfl, Nat.zero_add]
  rfl
theorem look_la : look "a" (lsI (prodB x y).ins) = some 0 := by
  show look "a" (("a", _) :: _) = _
  rw [look_cons, if_pos rfl]
theorem look_lb : look "b" (lsI (prodB x y).ins) = some 0 := by
  show look "b" (("a", _) :: ("b", _) :: _) = _
  rw [look_cons, if_neg (show ¬ ("a" : Str) = "b" by decide +kernel), look_cons, if_pos rfl]
theorem PInv.knb (hm : Mach b s w c) (x1 : 1 ≤ x) (xs : x ≤ s) (h : PInv b s w c x y n k) (p0 : 0 ≤ k.place) (p1 : k.place ≤ 16) (n6 : n ≤ 6) : KnB k := by
  obtain ⟨b0, b1, s0, s1, w0, w1, c0, c1⟩ := hm
  have hs : (rowS b (lets b 0 x.toNat)).length ≤ x.toNat := row_len b 0 _
  have s24 : (16777216 : Nat) ≤ sizeLine := by decide
  have e : k.set_.s = rowS b (lets b 0 x.toNat) := by rw [h.set_]; rfl
  have hw := h.wlen
  have hc := h.clen
  have hg := h.gr
  refine ⟨by rw [h.base]; exact ⟨by omega, b1⟩, p0, p1, by omega, by rw [e]; omega, by omega, fun p hp => ?_⟩
  rw [e] at hp
  rw [row_dg p hp]
  decide
theorem PInv.shift (h : PInv b s w c x y n k) (z : Int) : PInv b s w c x y n { k with place := z } := ⟨h.base, h.lastp, h.wEnd, h.cEnd, h.gr, h.rows, h.ls, h.set_, h.wlo, h.whi, h.clo, h.chi, h.wnd, h.cnd, h.wev, h.cev, h.wlen, h.clen⟩
theorem PInv.turn (hm : Mach b s w c) (x1 : 1 ≤ x) (y1 : 1 ≤ y) (hf : prodFits s w c x y) (h : PInv b s w c x y n k) (p : k.place = n) (hn : n < y.toNat) :
    ∃ k', didK k (.turns "b" n 1 1) = (none, k') ∧ PInv b s w c x y (n + 1) k' ∧ k'.place = n ∧ DidOk k (.turns "b" n 1 1) := by
  obtain ⟨b0, b1, s0, s1, w0, w1, c0, c1⟩ := id hm
  obtain ⟨f1, f2, f3, f4⟩ := hf
  have hlk : look "b" k.rows = some (lets b x.toNat y.toNat) := by rw [h.rows]; exact look_b
  have hat := lets_at (b := b) (n := x.toNat) hn
  have ed : didK k (.turns "b" n 1 1) = turnK k (letA ((x.toNat + n : Nat) : Int) (b - 1)) 1 1 := by
    show (match (look "b" k.rows).bind fun ms => ms[(n : Int).toNat]? with | some m => turnK k m 1 1 | none => (none, k)) = _
    rw [hlk]
    show (match (lets b x.toNat y.toNat)[(n : Int).toNat]? with | some m => turnK k m 1 1 | none => (none, k)) = _
    rw [Int.toNat_natCast, hat]
  have pw : 0 < b ^ n := Int.pow_pos (by omega)
  have px : 2 ≤ b ^ x.toNat := by
    have := My.pow_mono (b := b) (by omega) (show 1 ≤ x.toNat by omega)
    rw [Int.pow_one] at this
    omega
  have ps : b ^ (n + 1) = b ^ n * b := Int.pow_succ ..
  have wo1 : k.base ^ k.place.toNat = b ^ n := by rw [h.base, p, Int.toNat_natCast]
  have ehi : b ^ n * ((b - 1) * (b ^ x.toNat - 1)) + (b ^ x.toNat - 1) * (b ^ n - 1) = (b ^ x.toNat - 1) * (b ^ (n + 1) - 1) := by
    rw [ps, Int.mul_sub (b ^ x.toNat - 1) (b ^ n) 1, Int.mul_sub (b ^ x.toNat - 1) (b ^ n * b) 1, ← Int.mul_assoc, Int.mul_comm (b ^ n * (b - 1)), Int.mul_sub (b ^ n) b 1, Int.mul_one (b ^ n), Int.mul_sub (b ^ x.toNat - 1) (b ^ n * b) (b ^ n)]
    omega
  have h0 : 0 ≤ (b - 1) * (b ^ x.toNat - 1) := Int.mul_nonneg (by omega) (by omega)
  have h1 : 0 ≤ b ^ n * ((b - 1) * (b ^ x.toNat - 1)) := Int.mul_nonneg (by omega) h0
  have hset : k.set_.hi = b ^ x.toNat - 1 := by rw [h.set_]; show b ^ (lets b 0 x.toNat).length - 1 = _; rw [lets_len]
  have hslo : k.set_.lo = 0 := by rw [h.set_]; rfl
  have whlo : (whM k (letA ((x.toNat + n : Nat) : Int) (b - 1)) 1).lo = 0 := by
    show k.wh.lo + min (1 * k.base ^ k.place.toNat * (0 * k.set_.lo)) (1 * k.base ^ k.place.toNat * ((b - 1) * k.set_.hi)) = 0
    rw [h.wlo, wo1, hset, hslo, Int.one_mul]
    omega
  have whhi : (whM k (letA ((x.toNat + n : Nat) : Int) (b - 1)) 1).hi = (b ^ x.toNat - 1) * (b ^ (n + 1) - 1) := by
    show k.wh.hi + max (1 * k.base ^ k.place.toNat * (0 * k.set_.lo)) (1 * k.base ^ k.place.toNat * ((b - 1) * k.set_.hi)) = _
    rw [h.whi, wo1, hset, hslo, Int.one_mul, ← ehi]
    omega
  have fitw : fitsA (whM k (letA ((x.toNat + n : Nat) : Int) (b - 1)) 1) k.wEnd = true := by
    have hw : b ^ x.toNat * b ^ (n + 1) ≤ b ^ w.toNat := by
      rw [← Int.pow_add]
      exact My.pow_mono (by omega) (by omega)
    have pn : 1 ≤ b ^ (n + 1) := Int.pow_pos (by omega)
    obtain ⟨_, m1⟩ := My.mul_small (u := b ^ x.toNat - 1) (l := b ^ (n + 1) - 1) (p := b ^ x.toNat) (q := b ^ (n + 1)) (by omega) (by omega) (by omega) (by omega) hw
    unfold fitsA
    rw [whlo, whhi, h.wEnd, decide_eq_true (Int.le_refl 0), decide_eq_true m1]
    rfl
  have ctlo : (ctM k (letA ((x.toNat + n : Nat) : Int) (b - 1)) 1).lo = 0 := by
    show k.ct.lo + min (1 * k.base ^ k.place.toNat * 0) (1 * k.base ^ k.place.toNat * (b - 1)) = 0
    have h2 : 0 ≤ b ^ n * (b - 1) := Int.mul_nonneg (by omega) (by omega)
    rw [h.clo, wo1, Int.one_mul, Int.mul_zero]
    omega
  have cthi : (ctM k (letA ((x.toNat + n : Nat) : Int) (b - 1)) 1).hi = b ^ (n + 1) - 1 := by
    show k.ct.hi + max (1 * k.base ^ k.place.toNat * 0) (1 * k.base ^ k.place.toNat * (b - 1)) = _
    have h2 : 0 ≤ b ^ n * (b - 1) := Int.mul_nonneg (by omega) (by omega)
    have h3 : b ^ n * (b - 1) = b ^ n * b - b ^ n := by rw [Int.mul_sub, Int.mul_one]
    rw [h.chi, wo1, Int.one_mul, Int.mul_zero, ps]
    omega
  have fitc : fitsA (ctM k (letA ((x.toNat + n : Nat) : Int) (b - 1)) 1) k.cEnd = true := by
    have hc : b ^ (n + 1) ≤ b ^ c.toNat := My.pow_mono (by omega) (by omega)
    unfold fitsA
    rw [ctlo, cthi, h.cEnd, decide_eq_true (Int.le_refl 0), decide_eq_true (show b ^ (n + 1) - 1 < b ^ c.toNat by omega)]
    rfl
  have et : turnK k (letA ((x.toNat + n : Nat) : Int) (b - 1)) 1 1 = (none, { k with wh := whM k (letA ((x.toNat + n : Nat) : Int) (b - 1)) 1, fact := none, ct := ctM k (letA ((x.toNat + n : Nat) : Int) (b - 1)) 1 }) := by
    unfold turnK
    rw [if_pos fitw]
    show ((if fitsA (ctM k _ 1) k.cEnd = true then (none : Option Str) else some "counts"), _) = _
    rw [if_pos fitc]
    rfl
  have es : k.set_.s = rowS b (lets b 0 x.toNat) := by rw [h.set_]; rfl
  have l1 : (timesS (letS ((x.toNat + n : Nat) : Int)) (rowS b (lets b 0 x.toNat))).length ≤ 6 := by
    have a1 := len_times (letS ((x.toNat + n : Nat) : Int)) (rowS b (lets b 0 x.toNat))
    have a2 := row_len b 0 x.toNat
    have a3 : (letS ((x.toNat + n : Nat) : Int)).length = 1 := rfl
    rw [a3] at a1
    omega
  refine ⟨{ k with wh := whM k (letA ((x.toNat + n : Nat) : Int) (b - 1)) 1, fact := none, ct := ctM k (letA ((x.toNat + n : Nat) : Int) (b - 1)) 1 }, by rw [ed, et], ?_, p, ?_⟩
  · refine ⟨h.base, h.lastp, h.wEnd, h.cEnd, h.gr, h.rows, h.ls, h.set_, whlo, whhi, ctlo, cthi, nd_plus h.wnd, nd_plus h.cnd, fun f => ?_, fun f => ?_, ?_, ?_⟩
    · show ev f (plusS k.wh.s (1 * k.base ^ k.place.toNat) (timesS (letS ((x.toNat + n : Nat) : Int)) k.set_.s)) = sumN _ n + _
      rw [ev_plus f _ h.wnd, h.wev f, wo1, Int.one_mul, es, ev_turn]
    · show ev f (plusS k.ct.s (1 * k.base ^ k.place.toNat) (letS ((x.toNat + n : Nat) : Int))) = sumN _ n + _
      rw [ev_plus f _ h.cnd, h.cev f, wo1, Int.one_mul, ev_let]
    · show (plusS k.wh.s (1 * k.base ^ k.place.toNat) (timesS (letS ((x.toNat + n : Nat) : Int)) k.set_.s)).length ≤ _
      have a := len_plus k.wh.s (timesS (letS ((x.toNat + n : Nat) : Int)) k.set_.s) (1 * k.base ^ k.place.toNat)
      have a2 := h.wlen
      rw [es] at a ⊢
      omega
    · show (plusS k.ct.s (1 * k.base ^ k.place.toNat) (letS ((x.toNat + n : Nat) : Int))).length ≤ _
      have a := len_plus k.ct.s (letS ((x.toNat + n : Nat) : Int)) (1 * k.base ^ k.place.toNat)
      have a2 := h.clen
      have a3 : (letS ((x.toNat + n : Nat) : Int)).length = 1 := rfl
      omega
  · exact ⟨_, letA ((x.toNat + n : Nat) : Int) (b - 1), hlk, by omega, by rw [Int.toNat_natCast]; exact hat, Nat.le_refl 1, sh_let _, dg_let _, ⟨(by decide : (-(2 ^ 64) : Int) < 0), (by decide : (0 : Int) < 2 ^ 64)⟩, ⟨(show (-(2 ^ 64) : Int) < b - 1 by omega), (show b - 1 < (2 ^ 64 : Int) by omega)⟩, by decide⟩
theorem runD_app : ∀ (xs ys : List My.Dee) (k : Kn) (i : Nat), (runD k xs i).1 = none → runD k (xs ++ ys) i = runD (runD k xs i).2 ys (i + xs.length)
  | [], ys, k, i, _ => rfl
  | d :: r, ys, k, i, h => by
    cases e : (didK k d).1 with
    | some w =>
      have : (runD k (d :: r) i).1 = some (i, w) := by simp only [runD, e]
      rw [this] at h
      cases h
    | none =>
      have e2 : ∀ zs, runD k (d :: zs) i = runD (didK k d).2 zs (i + 1) := fun zs => by simp only [runD, e]
      rw [List.cons_append, e2, e2, runD_app r ys _ _ (by rw [e2] at h; exact h), List.length_cons, Nat.add_assoc, Nat.add_comm 1]
theorem runOk_app : ∀ (xs ys : List My.Dee) (k : Kn) (i : Nat), RunOk k xs → ((runD k xs i).1 = none → RunOk (runD k xs i).2 ys) → RunOk k (xs ++ ys)
  | [], ys, k, i, _, h => h rfl
  | d :: r, ys, k, i, ⟨h1, h2, h3⟩, h => by
    refine ⟨h1, h2, fun e => runOk_app r ys _ (i + 1) (h3 e) fun e4 => ?_⟩
    have e2 : runD k (d :: r) i = runD (didK k d).2 r (i + 1) := by simp only [runD, e]
    rw [e2] at h
    exact h e4
theorem PInv.start (hm : Mach b s w c) (x1 : 1 ≤ x) (y1 : 1 ≤ y) (hf : prodFits s w c x y) : ∃ k, didK (knInit b s w c (prodB x y).ins) (.load "a") = (none, k) ∧ PInv b s w c x y 0 k ∧ k.place = 0 ∧ DidOk (knInit b s w c (prodB x y).ins) (.load "a") ∧ KnB (knInit b s w c (prodB x y).ins) := by
  obtain ⟨b0, b1, s0, s1, w0, w1, c0, c1⟩ := hm
  obtain ⟨f1, f2, f3, f4⟩ := hf
  have ed : didK (knInit b s w c (prodB x y).ins) (.load "a") = (none, { knInit b s w c (prodB x y).ins with set_ := rowA b (lets b 0 x.toNat) 0 }) := by
    show (none, match look "a" (rowsI b 0 (prodB x y).ins), look "a" (lsI (prodB x y).ins) with | some ms, some l0 => { knInit b s w c (prodB x y).ins with set_ := rowA (knInit b s w c (prodB x y).ins).base ms l0 } | _, _ => knInit b s w c (prodB x y).ins) = _
    rw [look_a, look_la]
    rfl
  have s24 : (16777216 : Nat) ≤ sizeLine := by decide
  have lg : (List.replicate (figN (prodB x y).ins) (b - 1)).length ≤ 12 := by
    rw [List.length_replicate]
    show x.toNat + (y.toNat + 0) ≤ 12
    omega
  refine ⟨_, ed, ⟨rfl, rfl, rfl, rfl, lg, rfl, rfl, rfl, rfl, ?_, rfl, ?_, List.nodup_nil, List.nodup_nil, fun _ => rfl, fun _ => rfl, Nat.le_refl _, Nat.le_refl _⟩, rfl, ⟨_, _, look_a, look_la, by rw [lets_len]; omega, fun m hm => ?_⟩, ⟨⟨by show 0 < b; omega, b1⟩, Int.le_refl 0, (by decide : (0 : Int) ≤ 16), Nat.le_trans lg (by decide), (show 0 + 0 + 1 < sizeLine by omega), (show 0 + 1 < sizeLine by omega), fun p hp => by cases hp⟩⟩
  · show (0 : Int) = (b ^ x.toNat - 1) * (b ^ 0 - 1)
    rw [Int.pow_zero, Int.sub_self, Int.mul_zero]
  · show (0 : Int) = b ^ 0 - 1
    rw [Int.pow_zero]
    rfl
  · unfold lets at hm
    obtain ⟨j, _, rfl⟩ := List.mem_map.mp hm
    exact Nat.le_refl 1
theorem prod_kn (hm : Mach b s w c) (x1 : 1 ≤ x) (y1 : 1 ≤ y) (hf : prodFits s w c x y) : ∀ n : Nat, n + 1 ≤ y.toNat →
    RunOk (knInit b s w c (prodB x y).ins) (prodD (n + 1)) ∧ ∃ k, runD (knInit b s w c (prodB x y).ins) (prodD (n + 1)) 0 = (none, k) ∧ PInv b s w c x y (n + 1) k ∧ k.place = n := by
  have hm2 := hm
  have hf2 := hf
  obtain ⟨b0, b1, s0, s1, w0, w1, c0, c1⟩ := hm2
  obtain ⟨f1, f2, f3, f4⟩ := hf2
  intro n
  induction n with
  | zero =>
    intro hn
    obtain ⟨k1, e1, i1, p1, o1, n1⟩ := PInv.start hm x1 y1 hf
    obtain ⟨k2, e2, i2, p2, o2⟩ := i1.turn hm x1 y1 hf (by rw [p1]; rfl) hn
    have n2 := i1.knb hm x1 f1 (by omega) (by omega) (by omega)
    have ee : (didK (knInit b s w c (prodB x y).ins) (.load "a")).2 = k1 := by rw [e1]
    refine ⟨⟨n1, o1, fun _ => ?_⟩, k2, ?_, i2, p2⟩
    · show RunOk (didK (knInit b s w c (prodB x y).ins) (.load "a")).2 [.turns "b" ((0 : Nat) : Int) 1 1]
      rw [ee]
      exact ⟨n2, o2, fun _ => trivial⟩
    · show runD (knInit b s w c (prodB x y).ins) [.load "a", .turns "b" ((0 : Nat) : Int) 1 1] 0 = _
      simp only [runD, e1, e2]
  | succ n ih =>
    intro hn
    obtain ⟨r1, k1, e1, i1, p1⟩ := ih (by omega)
    have n1 := i1.knb hm x1 f1 (by omega) (by omega) (by omega)
    have sh : didK k1 (.shift 1) = (none, { k1 with place := ((n + 1 : Nat) : Int) }) := by
      show shiftK k1 1 = _
      unfold shiftK
      rw [i1.lastp, p1, if_pos ⟨by omega, by omega⟩]
      rfl
    obtain ⟨k2, e2, i2, p2, o2⟩ := (i1.shift ((n + 1 : Nat) : Int)).turn hm x1 y1 hf rfl hn
    have n2 := (i1.shift ((n + 1 : Nat) : Int)).knb hm x1 f1 (by show (0 : Int) ≤ ((n + 1 : Nat) : Int); omega) (by show ((n + 1 : Nat) : Int) ≤ 16; omega) (by omega)
    rw [My.prodD_more]
    refine ⟨runOk_app _ _ _ 0 r1 fun _ => ?_, k2, ?_, i2, p2⟩
    · rw [e1]
      refine ⟨n1, trivial, fun _ => ?_⟩
      rw [sh]
      exact ⟨n2, o2, fun _ => trivial⟩
    · rw [runD_app _ _ _ 0 (by rw [e1]), e1]
      simp only [runD, sh, e2]
end
end Rn
set_option Elab.async false
set_option linter.all false
set_option maxRecDepth 100000
set_option maxHeartbeats 4000000
/-! the handbook that multiplies is let by -/
namespace Rn
open PySem PySem.Spec L2 RT So Ks
open My (prodB prodD prodC prodFits Mach)
theorem eqS_nil : eqS [] [] = true := by decide +kernel
theorem prod_look {b s w c x y : Int} (hm : Mach b s w c) (x1 : 1 ≤ x) (y1 : 1 ≤ y) (hf : prodFits s w c x y) : LookOk (knInit b s w c (prodB x y).ins) (prodB x y) ∧ lookK (knInit b s w c (prodB x y).ins) (prodB x y) = none := by
  obtain ⟨r, k, e, i, p⟩ := prod_kn hm x1 y1 hf (y.toNat - 1) (by omega)
  rw [show y.toNat - 1 + 1 = y.toNat by omega] at r e i
  obtain ⟨b0, b1, s0, s1, w0, w1, c0, c1⟩ := hm
  obtain ⟨f1, f2, f3, f4⟩ := hf
  have la : look "a" k.rows = some (lets b 0 x.toNat) := by rw [i.rows]; exact look_a
  have lb : look "b" k.rows = some (lets b x.toNat y.toNat) := by rw [i.rows]; exact look_b
  have sa : sideS k (.inp "a") = rowS b (lets b 0 x.toNat) := by
    show rowN k "a" = _
    unfold rowN
    rw [la, i.base]
  have sb : sideS k (.inp "b") = rowS b (lets b x.toNat y.toNat) := by
    show rowN k "b" = _
    unfold rowN
    rw [lb, i.base]
  have one : ∀ (n m : Nat), ∀ a ∈ lets b n m, a.s.length ≤ 1 := fun n m a ha => by
    unfold lets at ha
    obtain ⟨j, _, rfl⟩ := List.mem_map.mp ha
    exact Nat.le_refl 1
  have ra : RowOk k "a" := ⟨_, 0, la, by rw [i.ls]; exact look_la, by rw [lets_len]; omega, one _ _⟩
  have rb : RowOk k "b" := ⟨_, 0, lb, by rw [i.ls]; exact look_lb, by rw [lets_len]; omega, one _ _⟩
  have s24 : (16777216 : Nat) ≤ sizeLine := by decide
  have na := row_len b 0 x.toNat
  have nb := row_len b x.toNat y.toNat
  have mul36 : (rowS b (lets b x.toNat y.toNat)).length * (rowS b (lets b 0 x.toNat)).length ≤ 6 * 6 := Nat.mul_le_mul (by omega) (by omega)
  have lt := len_times (rowS b (lets b 0 x.toNat)) (rowS b (lets b x.toNat y.toNat))
  have wl := i.wlen
  have cl := i.clen
  have deg : ∀ n m, Deg (rowS b (lets b n m)) := fun n m p hp => by
    rw [row_dg p hp]
    decide
  have st : sideS k (.times (.inp "a") (.inp "b")) = timesS (rowS b (lets b 0 x.toNat)) (rowS b (lets b x.toNat y.toNat)) := by
    show timesS (sideS k (.inp "a")) (sideS k (.inp "b")) = _
    rw [sa, sb]
  have ct : SideOk k (.times (.inp "a") (.inp "b")) := by
    refine ⟨ra, rb, ?_⟩
    rw [sa, sb]
    exact ⟨.inl (row_sh b0 b1 (by omega)), deg _ _, deg _ _, by omega⟩
  have c1ok : ClaimOk k ⟨false, .wheels, .times (.inp "a") (.inp "b")⟩ := by
    refine ⟨trivial, ct, by decide, (by decide : sdp (.times (.inp "a") (.inp "b")) ≤ 4), ?_, (fun h => by cases h), (fun h => by cases h)⟩
    show (sideS k (.times (.inp "a") (.inp "b"))).length + k.wh.s.length < sizeLine
    rw [st]
    omega
  have c2ok : ClaimOk k ⟨false, .counts, .inp "b"⟩ := by
    refine ⟨trivial, rb, by decide, (by decide : sdp (.inp "b") ≤ 4), ?_, (fun h => by cases h), (fun h => by cases h)⟩
    show (sideS k (.inp "b")).length + k.ct.s.length < sizeLine
    rw [sb]
    omega
  have g1 : gapS k ⟨false, .wheels, .times (.inp "a") (.inp "b")⟩ = [] := by
    show plusS (sideS k (.times (.inp "a") (.inp "b"))) (-1) k.wh.s = []
    rw [st]
    refine plus_nil nd_times fun f => ?_
    rw [ev_prod, i.wev f]
    omega
  have g2 : gapS k ⟨false, .counts, .inp "b"⟩ = [] := by
    show plusS (sideS k (.inp "b")) (-1) k.ct.s = []
    rw [sb]
    refine plus_nil (row_nd _ _ _) fun f => ?_
    rw [ev_row, i.cev f]
    omega
  refine ⟨⟨r, fun _ => ?_⟩, ?_⟩
  · show Base (runD _ (prodD y.toNat) 0).2.base ∧ ∀ cc ∈ prodC, ClaimOk (runD _ (prodD y.toNat) 0).2 cc
    rw [e]
    refine ⟨by rw [i.base]; exact ⟨by omega, b1⟩, fun cc hc => ?_⟩
    rcases List.mem_cons.mp hc with rfl | hc
    · exact c1ok
    · rw [List.mem_singleton.mp hc]
      exact c2ok
  · unfold lookK
    rw [show (prodB x y).dds = prodD y.toNat from rfl, e]
    have t1 : isSoK k ⟨false, .wheels, .times (.inp "a") (.inp "b")⟩ = true := by
      unfold isSoK
      rw [g1]
      exact eqS_nil
    have t2 : isSoK k ⟨false, .counts, .inp "b"⟩ = true := by
      unfold isSoK
      rw [g2]
      exact eqS_nil
    show runC k [⟨false, .wheels, .times (.inp "a") (.inp "b")⟩, ⟨false, .counts, .inp "b"⟩] 0 = none
    simp only [runC, t1, t2, if_true]
theorem w_eqBl {K : PySem.W.Frag} {H : Hp} {Q : VK} {a b : Bool} (h : Q (.bl (a == b)) H) : uEq K (.bl a) (.bl b) H Q := .inl ⟨rfl, by rw [dec_bl]; exact h⟩
end Rn
set_option Elab.async false
set_option linter.all false
set_option maxRecDepth 100000
set_option maxHeartbeats 4000000
namespace My
open PySem PySem.Spec L2 RT Rn
open Ks So
local macro_rules | `(tactic| walk_at "r1") => `(tactic| first
  | ((with_reducible refine' w_var ?hv ?_); (case hv => exact rfl))
  | with_reducible refine' w_c ?_
  | with_reducible refine' w_op ?_
  | with_reducible refine' w_cons ?_
  | with_reducible refine' w_nil ?_
  | with_reducible refine' w_I0 ?_
  | with_reducible refine' w_addI ?_
  | with_reducible refine' w_seq ?_
  | with_reducible refine' w_match ?_
  | with_reducible refine' w_sl ?_
  | with_reducible refine' w_noPart ?_
  | with_reducible refine' w_part ?_
  | with_reducible refine' w_pint ?_
  | with_reducible refine' w_eqS ?_
  | with_reducible refine' w_tr ?_
  | with_reducible refine' w_trB ?_
  | ((with_reducible refine' w_trL ?hl ?_); (case hl => exact SqL.of (by assumption)))
  | with_reducible refine' w_iU ?_
  | with_reducible refine' w_en ?_
  | with_reducible refine' w_tyes ?_
  | with_reducible refine' w_while ?_
  | ((with_reducible refine' w_gTup ?hS ?hn ?_); (case hS => first | assumption | exact SqT.of (by assumption)); (case hn => exact rfl))
  | with_reducible refine' w_gCons ?_
  | with_reducible refine' w_gNil ?_
  | with_reducible refine' w_gName ?_
  | ((with_reducible refine' w_I (C := fun _ j => 0 < j) ?hc ?_); (case hc => (show (0 : Int) < _; omega)))
  | ((with_reducible refine' w_I (C := CDivW) ?hc ?_); (case hc => exact divW (by omega) (by omega)))
  | ((with_reducible refine' w_I (C := CPow) ?hc ?_); (case hc => exact ⟨by decide, by decide, by decide⟩))
  | ((with_reducible refine' w_mulI ?hc ?_); (case hc => first | exact .inr ⟨by omega, by omega⟩ | exact .inl ⟨by omega, by omega⟩))
  | with_reducible refine' w_max ?_
  | with_reducible refine' w_isiII ?_
  | with_reducible refine' w_isiIB ?_
  | with_reducible refine' w_isiBB ?_
  | ((with_reducible refine' w_isiTT ?hp ?_); (case hp => assumption))
  | ((with_reducible refine' w_isiLL ?hp ?_); (case hp => assumption))
  | with_reducible refine' w_min ?_
  | with_reducible refine' w_sub ?_
  | ((with_reducible refine' w_ixL ?hl ?ha ?_); (case hl => exact SqL.of (by assumption)); (case ha => exact rfl))
  | ((with_reducible refine' w_ixT ?hl ?ha ?_); (case hl => assumption); (case ha => exact rfl))
  | ((with_reducible refine' w_lenL ?hl ?_); (case hl => exact SqL.of (by assumption)))
  | ((with_reducible refine' w_lenT ?hl ?_); (case hl => assumption))
  | ((with_reducible refine' w_tyL ?hl ?_); (case hl => assumption))
  | with_reducible refine' w_bm ?_
  | with_reducible refine' w_bm0 ?_
  | with_reducible refine' w_pAdd ?_
  | with_reducible refine' w_pSub ?_
  | with_reducible refine' w_asgN ?_
  | with_reducible refine' w_ret ?_
  | with_reducible refine' w_retN ?_
  | with_reducible refine' w_drop ?_
  | with_reducible refine' w_next ?_
  | with_reducible refine' w_brk ?_
  | with_reducible refine' w_cont ?_
  | with_reducible refine' w_ifS ?_
  | with_reducible refine' w_test ?_
  | with_reducible refine' w_bl ?_
  | with_reducible refine' w_tB ?_
  | with_reducible refine' w_iteT ?_
  | with_reducible refine' w_iteF ?_
  | with_reducible refine' w_iteNF ?_
  | with_reducible refine' w_iteNT ?_
  | with_reducible refine' w_and ?_
  | with_reducible refine' w_or ?_
  | with_reducible refine' w_not ?_
  | with_reducible refine' w_andV ?_
  | with_reducible refine' w_orV ?_
  | with_reducible refine' w_notV ?_
  | with_reducible refine' w_eqI ?_
  | with_reducible refine' w_neB ?_
  | with_reducible refine' w_isR ?_
  | with_reducible refine' w_isN ?_
  | with_reducible refine' w_notR ?_
  | with_reducible refine' w_notN ?_
  | with_reducible refine' w_notI ?_
  | with_reducible refine' w_isiTF ?_
  | with_reducible refine' w_lrev ?_
  | with_reducible refine' w_dget ?_
  | with_reducible refine' w_dc ?_
  | with_reducible refine' w_din ?_
  | with_reducible refine' w_rng2 ?_
  | with_reducible refine' w_vei ?_
  | with_reducible refine' w_ost ?_
  | with_reducible refine' w_mko ?_
  | with_reducible refine' w_xby ?_
  | with_reducible refine' w_dni ?_
  | with_reducible refine' w_fld ?_
  | with_reducible refine' w_mk0 ?_
  | ((with_reducible refine' w_meth ?hv ?ha ?hl ?_); (case hv => exact rfl); (case ha => assumption); (case hl => rfl))
  | with_reducible refine' w_sfld ?_
  | ((with_reducible refine' w_f1 ?ha ?_); (case ha => assumption))
  | ((with_reducible refine' w_f2 ?ha ?_); (case ha => assumption))
  | ((with_reducible refine' w_f3 ?ha ?_); (case ha => assumption))
  | ((with_reducible refine' w_f4 ?ha ?_); (case ha => assumption))
  | ((with_reducible refine' w_f5 ?ha ?_); (case ha => assumption))
  | ((with_reducible refine' w_f6 ?ha ?_); (case ha => assumption))
  | ((with_reducible refine' w_f7 ?ha ?_); (case ha => assumption))
  | ((with_reducible refine' w_f8 ?ha ?_); (case ha => assumption))
  | ((with_reducible refine' w_f9 ?ha ?_); (case ha => assumption))
  | ((with_reducible refine' w_f10 ?ha ?_); (case ha => assumption))
  | ((with_reducible refine' w_f11 ?ha ?_); (case ha => assumption))
  | ((with_reducible refine' w_f12 ?ha ?_); (case ha => assumption))
  | ((with_reducible refine' w_f13 ?ha ?_); (case ha => assumption))
  | with_reducible refine' w_dcT ?_
  | ((with_reducible refine' w_dget2 ?hv ?hd ?_); (case hv => exact rfl); (case hd => assumption))
  | ((with_reducible refine' w_itemsT ?hv ?hd ?_); (case hv => exact rfl); (case hd => assumption))
  | with_reducible refine' w_dput ?_
  | with_reducible refine' Tg.w_allG ?_
  | with_reducible refine' Tg.w_tupE ?_
  | with_reducible refine' w_neI ?_
  | with_reducible refine' w_callE ?_
  | with_reducible refine' w_call ?_
  | with_reducible refine' w_callS ?_
  | with_reducible refine' w_js1 ?_
  | with_reducible refine' w_js0 ?_
  | with_reducible refine' w_fmt ?_
  | ((with_reducible refine' w_jsC ?ha ?hk ?hy ?_); (case ha => first | assumption | exact Sh.nil); (case hk => decide); (case hy => decide +kernel); intro _ _)
  | ((with_reducible refine' w_jfI ?hi ?ha ?hk ?_); (case hi => omega); (case ha => first | assumption | exact Sh.nil); (case hk => decide); intro _ _)
  | ((with_reducible refine' w_jfS ?hy ?ha ?hk ?_); (case hy => first | assumption | decide +kernel); (case ha => first | assumption | exact Sh.nil); (case hk => decide); intro _ _)
  | with_reducible refine' w_cb ?_
  | with_reducible refine' w_for ?_
  | with_reducible refine' w_lc ?_
  | with_reducible refine' w_rngA ?_
  | with_reducible refine' w_rev ?_
  | with_reducible refine' w_tup ?_
  | with_reducible refine' w_lst ?_
  | with_reducible refine' w_un ?_
  | with_reducible refine' w_neg ?_
  | with_reducible refine' w_chain ?_
  | with_reducible refine' w_ifE ?_
  | with_reducible refine' w_par ?_
  | ((with_reducible refine' w_aug ?hx ?_); (case hx => exact rfl))
  | with_reducible refine' w_asg ?_
  | ((with_reducible refine' w_iteD ?hp ?_); (case hp => omega))
  | ((with_reducible refine' w_iteE ?hp ?_); (case hp => omega))
  | ((with_reducible refine' w_iteND ?hp ?_); (case hp => omega))
  | ((with_reducible refine' w_iteNE ?hp ?_); (case hp => omega)))
local macro_rules | `(tactic| walk_at "rs") => `(tactic| ((repeat walk_at "r1"); (try dsimp only [List.set, List.cons_append, List.nil_append, List.length, List.map, List.replicate]); (repeat walk_at "r1"); (try dsimp only [List.set, List.cons_append, List.nil_append, List.length, List.map, List.replicate])))
def topS (i : Nat) : Stmt := PySem.Challenge.pw_crankdrum_k08_whole_products.main.body.getD i (.Pass ⟨0, 0, 0, 0⟩)
abbrev s__law_next : Stmt := topS 76
theorem sc__law_next : FnScope ["_law_h", "_law_many", "_law_at", "_law_cell"] ["_law_h", "_law_many"] (defScope s__law_next) := ⟨rfl, rfl, rfl, by decide +kernel, rfl, by decide +kernel, by decide +kernel⟩
abbrev s__law_big : Stmt := topS 77
theorem sc__law_big : FnScope ["_law_h", "_law_base", "_law_slides"] ["_law_h"] (defScope s__law_big) := ⟨rfl, rfl, rfl, by decide +kernel, rfl, by decide +kernel, by decide +kernel⟩
abbrev s__law_due : Stmt := topS 80
theorem sc__law_due : FnScope ["_law_one", "_law_other", "_law_deeds", "_law_k", "_law_claims"] ["_law_one", "_law_other"] (defScope s__law_due) := ⟨rfl, rfl, rfl, by decide +kernel, rfl, by decide +kernel, by decide +kernel⟩
abbrev s__law_told : Stmt := topS 78
theorem sc__law_told : FnScope ["_law_ask"] ["_law_ask"] (defScope s__law_told) := ⟨rfl, rfl, rfl, by decide +kernel, rfl, by decide +kernel, by decide +kernel⟩
abbrev s__law_power : Stmt := topS 75
theorem sc__law_power : FnScope ["_law_base", "_law_many", "_law_found", "_law_k"] ["_law_base", "_law_many"] (defScope s__law_power) := ⟨rfl, rfl, rfl, by decide +kernel, rfl, by decide +kernel, by decide +kernel⟩
abbrev s__law_value : Stmt := topS 79
theorem sc__law_value : FnScope ["_law_h", "_law_base", "_law_figures", "_law_least", "_law_most"] ["_law_h", "_law_base", "_law_figures", "_law_least"] (defScope s__law_value) := ⟨rfl, rfl, rfl, by decide +kernel, rfl, by decide +kernel, by decide +kernel⟩
abbrev s_fits : Stmt := topS 59
theorem sc_fits : FnScope ["held", "end"] ["held", "end"] (defScope s_fits) := ⟨rfl, rfl, rfl, by decide +kernel, rfl, by decide +kernel, by decide +kernel⟩
abbrev s_power : Stmt := topS 16
theorem sc_power : FnScope ["base", "place", "worth", "at"] ["base", "place"] (defScope s_power) := ⟨rfl, rfl, rfl, by decide +kernel, rfl, by decide +kernel, by decide +kernel⟩
abbrev s_plus : Stmt := topS 51
theorem sc_plus : FnScope ["one", "by", "other", "product", "share", "total"] ["one", "by", "other"] (defScope s_plus) := ⟨rfl, rfl, rfl, by decide +kernel, rfl, by decide +kernel, by decide +kernel⟩
abbrev s_with_more : Stmt := topS 57
theorem sc_with_more : FnScope ["held", "by", "more", "ends"] ["held", "by", "more"] (defScope s_with_more) := ⟨rfl, rfl, rfl, by decide +kernel, rfl, by decide +kernel, by decide +kernel⟩
abbrev s_Known__counted : Stmt := clsB (topS 60) 10
theorem sc_Known__counted : FnScope ["self", "many", "tally"] ["self", "many", "tally"] (defScope s_Known__counted) := ⟨rfl, rfl, rfl, by decide +kernel, rfl, by decide +kernel, by decide +kernel⟩
abbrev s_Known__leave : Stmt := clsB (topS 60) 9
theorem sc_Known__leave : FnScope ["self", "taken", "worth", "terms", "low", "high"] ["self", "taken", "worth"] (defScope s_Known__leave) := ⟨rfl, rfl, rfl, by decide +kernel, rfl, by decide +kernel, by decide +kernel⟩
abbrev s_letter_sum : Stmt := topS 50
theorem sc_letter_sum : FnScope ["letter"] ["letter"] (defScope s_letter_sum) := ⟨rfl, rfl, rfl, by decide +kernel, rfl, by decide +kernel, by decide +kernel⟩
abbrev s_Known__letter : Stmt := clsB (topS 60) 1
theorem sc_Known__letter : FnScope ["self", "greatest"] ["self", "greatest"] (defScope s_Known__letter) := ⟨rfl, rfl, rfl, by decide +kernel, rfl, by decide +kernel, by decide +kernel⟩
abbrev s_number_sum : Stmt := topS 49
theorem sc_number_sum : FnScope ["number"] ["number"] (defScope s_number_sum) := ⟨rfl, rfl, rfl, by decide +kernel, rfl, by decide +kernel, by decide +kernel⟩
abbrev s_root_of : Stmt := topS 18
theorem sc_root_of : FnScope ["number", "low", "beyond", "middle"] ["number"] (defScope s_root_of) := ⟨rfl, rfl, rfl, by decide +kernel, rfl, by decide +kernel, by decide +kernel⟩
abbrev s_times : Stmt := topS 52
theorem sc_times : FnScope ["one", "other", "total", "left", "share", "right", "by", "product"] ["one", "other"] (defScope s_times) := ⟨rfl, rfl, rfl, by decide +kernel, rfl, by decide +kernel, by decide +kernel⟩
abbrev s_Known__odds_turned : Stmt := clsB (topS 60) 8
theorem sc_Known__odds_turned : FnScope ["self", "tally", "worth", "greatest", "many"] ["self", "tally"] (defScope s_Known__odds_turned) := ⟨rfl, rfl, rfl, by decide +kernel, rfl, by decide +kernel, by decide +kernel⟩
abbrev s_Known__row_of : Stmt := clsB (topS 60) 2
theorem sc_Known__row_of : FnScope ["self", "name", "total", "k", "figure"] ["self", "name"] (defScope s_Known__row_of) := ⟨rfl, rfl, rfl, by decide +kernel, rfl, by decide +kernel, by decide +kernel⟩
abbrev s_Known__rung : Stmt := clsB (topS 60) 7
theorem sc_Known__rung : FnScope ["self", "tally", "terms", "low", "high", "worth", "greatest", "many"] ["self", "tally"] (defScope s_Known__rung) := ⟨rfl, rfl, rfl, by decide +kernel, rfl, by decide +kernel, by decide +kernel⟩
abbrev s_Known__shifted : Stmt := clsB (topS 60) 5
theorem sc_Known__shifted : FnScope ["self", "by"] ["self", "by"] (defScope s_Known__shifted) := ⟨rfl, rfl, rfl, by decide +kernel, rfl, by decide +kernel, by decide +kernel⟩
abbrev s_multiplied : Stmt := topS 58
theorem sc_multiplied : FnScope ["one", "other"] ["one", "other"] (defScope s_multiplied) := ⟨rfl, rfl, rfl, by decide +kernel, rfl, by decide +kernel, by decide +kernel⟩
abbrev s_Known__turned : Stmt := clsB (topS 60) 6
theorem sc_Known__turned : FnScope ["self", "many", "way", "tally", "worth"] ["self", "many", "way", "tally"] (defScope s_Known__turned) := ⟨rfl, rfl, rfl, by decide +kernel, rfl, by decide +kernel, by decide +kernel⟩
abbrev s_number_amount : Stmt := topS 56
theorem sc_number_amount : FnScope ["number"] ["number"] (defScope s_number_amount) := ⟨rfl, rfl, rfl, by decide +kernel, rfl, by decide +kernel, by decide +kernel⟩
abbrev s_Known__wiped : Stmt := clsB (topS 60) 4
theorem sc_Known__wiped : FnScope ["self", "word"] ["self", "word"] (defScope s_Known__wiped) := ⟨rfl, rfl, rfl, by decide +kernel, rfl, by decide +kernel, by decide +kernel⟩
abbrev s_Known__did : Stmt := clsB (topS 60) 3
theorem sc_Known__did : FnScope ["self", "deed", "name", "by", "way", "tally", "k"] ["self", "deed"] (defScope s_Known__did) := ⟨rfl, rfl, rfl, by decide +kernel, rfl, by decide +kernel, by decide +kernel⟩
abbrev s_need_machine : Stmt := topS 13
theorem sc_need_machine : FnScope ["machine", "base", "slides", "wheels", "counters"] ["machine"] (defScope s_need_machine) := ⟨rfl, rfl, rfl, by decide +kernel, rfl, by decide +kernel, by decide +kernel⟩
abbrev s_top : Stmt := topS 14
theorem sc_top : FnScope ["machine", "base", "slides", "wheels", "counters"] ["machine"] (defScope s_top) := ⟨rfl, rfl, rfl, by decide +kernel, rfl, by decide +kernel, by decide +kernel⟩
abbrev s_Known__init : Stmt := clsB (topS 60) 0
theorem sc_Known__init : FnScope ["self", "machine", "inputs", "base", "slides", "wheels", "counters", "name", "many", "least", "k"] ["self", "machine", "inputs"] (defScope s_Known__init) := ⟨rfl, rfl, rfl, by decide +kernel, rfl, by decide +kernel, by decide +kernel⟩
abbrev s_product_of : Stmt := topS 54
theorem sc_product_of : FnScope ["product", "greatest", "number", "letter"] ["product", "greatest"] (defScope s_product_of) := ⟨rfl, rfl, rfl, by decide +kernel, rfl, by decide +kernel, by decide +kernel⟩
abbrev s_least_of : Stmt := topS 53
theorem sc_least_of : FnScope ["terms", "greatest", "least", "product", "share"] ["terms", "greatest"] (defScope s_least_of) := ⟨rfl, rfl, rfl, by decide +kernel, rfl, by decide +kernel, by decide +kernel⟩
abbrev s_side_sum : Stmt := topS 64
theorem sc_side_sum : FnScope ["known", "side", "number", "name", "one", "other"] ["known", "side"] (defScope s_side_sum) := ⟨rfl, rfl, rfl, by decide +kernel, rfl, by decide +kernel, by decide +kernel⟩
abbrev s_is_so : Stmt := topS 63
theorem sc_is_so : FnScope ["known", "claim", "word", "one", "other", "gap", "bound", "end"] ["known", "claim"] (defScope s_is_so) := ⟨rfl, rfl, rfl, by decide +kernel, rfl, by decide +kernel, by decide +kernel⟩
abbrev s_is_side : Stmt := topS 47
theorem sc_is_side : FnScope ["figures", "side", "deep", "number", "name", "one", "other"] ["figures", "side", "deep"] (defScope s_is_side) := ⟨rfl, rfl, rfl, by decide +kernel, rfl, by decide +kernel, by decide +kernel⟩
abbrev s_is_claim : Stmt := topS 46
theorem sc_is_claim : FnScope ["figures", "claim"] ["figures", "claim"] (defScope s_is_claim) := ⟨rfl, rfl, rfl, by decide +kernel, rfl, by decide +kernel, by decide +kernel⟩
abbrev s_need_claims : Stmt := topS 42
theorem sc_need_claims : FnScope ["figures", "claims", "at", "claim"] ["figures", "claims"] (defScope s_need_claims) := ⟨rfl, rfl, rfl, by decide +kernel, rfl, by decide +kernel, by decide +kernel⟩
abbrev s_is_deed : Stmt := topS 45
theorem sc_is_deed : FnScope ["figures", "deed", "name", "by", "way", "tally", "word", "k"] ["figures", "deed"] (defScope s_is_deed) := ⟨rfl, rfl, rfl, by decide +kernel, rfl, by decide +kernel, by decide +kernel⟩
abbrev s_need_deeds : Stmt := topS 41
theorem sc_need_deeds : FnScope ["figures", "deeds", "at", "deed"] ["figures", "deeds"] (defScope s_need_deeds) := ⟨rfl, rfl, rfl, by decide +kernel, rfl, by decide +kernel, by decide +kernel⟩
abbrev s_is_name : Stmt := topS 44
theorem sc_is_name : FnScope ["name"] ["name"] (defScope s_is_name) := ⟨rfl, rfl, rfl, by decide +kernel, rfl, by decide +kernel, by decide +kernel⟩
abbrev s_is_input : Stmt := topS 43
theorem sc_is_input : FnScope ["machine", "row", "names", "name", "many", "least"] ["machine", "row", "names"] (defScope s_is_input) := ⟨rfl, rfl, rfl, by decide +kernel, rfl, by decide +kernel, by decide +kernel⟩
abbrev s_need_inputs : Stmt := topS 40
theorem sc_need_inputs : FnScope ["machine", "inputs", "names", "at", "row"] ["machine", "inputs"] (defScope s_need_inputs) := ⟨rfl, rfl, rfl, by decide +kernel, rfl, by decide +kernel, by decide +kernel⟩
abbrev s_need_book : Stmt := topS 39
theorem sc_need_book : FnScope ["machine", "book", "inputs", "deeds", "claims", "figures", "name", "many", "least"] ["machine", "book"] (defScope s_need_book) := ⟨rfl, rfl, rfl, by decide +kernel, rfl, by decide +kernel, by decide +kernel⟩
abbrev s_looked : Stmt := topS 62
theorem sc_looked : FnScope ["machine", "book", "inputs", "deeds", "claims", "known", "at", "deed", "word", "claim"] ["machine", "book"] (defScope s_looked) := ⟨rfl, rfl, rfl, by decide +kernel, rfl, by decide +kernel, by decide +kernel⟩
abbrev s_need_places : Stmt := topS 24
theorem sc_need_places : FnScope ["machine", "many"] ["machine", "many"] (defScope s_need_places) := ⟨rfl, rfl, rfl, by decide +kernel, rfl, by decide +kernel, by decide +kernel⟩
abbrev s_need_slides : Stmt := topS 23
theorem sc_need_slides : FnScope ["machine", "many"] ["machine", "many"] (defScope s_need_slides) := ⟨rfl, rfl, rfl, by decide +kernel, rfl, by decide +kernel, by decide +kernel⟩
abbrev s_product : Stmt := topS 22
theorem sc_product : FnScope ["machine", "one", "other", "deeds", "k", "claims"] ["machine", "one", "other"] (defScope s_product) := ⟨rfl, rfl, rfl, by decide +kernel, rfl, by decide +kernel, by decide +kernel⟩
abbrev s_figures_of : Stmt := topS 15
theorem sc_figures_of : FnScope ["base", "number", "many", "figures", "at"] ["base", "number", "many"] (defScope s_figures_of) := ⟨rfl, rfl, rfl, by decide +kernel, rfl, by decide +kernel, by decide +kernel⟩
abbrev s_odds_before : Stmt := topS 73
theorem sc_odds_before : FnScope ["number", "first", "short"] ["number", "first"] (defScope s_odds_before) := ⟨rfl, rfl, rfl, by decide +kernel, rfl, by decide +kernel, by decide +kernel⟩
abbrev s_turned : Stmt := topS 70
theorem sc_turned : FnScope ["machine", "numbers", "many", "way", "tally", "base", "slides", "all_wheels", "counters", "setting", "place", "wheels", "counts", "worth", "moved", "counted"] ["machine", "numbers", "many", "way", "tally"] (defScope s_turned) := ⟨rfl, rfl, rfl, by decide +kernel, rfl, by decide +kernel, by decide +kernel⟩
abbrev s_odds_turned : Stmt := topS 72
theorem sc_odds_turned : FnScope ["machine", "numbers", "tally", "base", "slides", "all_wheels", "counters", "setting", "place", "wheels", "counts", "worth", "many", "middle", "moved", "counted"] ["machine", "numbers", "tally"] (defScope s_odds_turned) := ⟨rfl, rfl, rfl, by decide +kernel, rfl, by decide +kernel, by decide +kernel⟩
abbrev s_rung : Stmt := topS 71
theorem sc_rung : FnScope ["machine", "numbers", "tally", "setting", "place", "wheels", "counts", "many"] ["machine", "numbers", "tally"] (defScope s_rung) := ⟨rfl, rfl, rfl, by decide +kernel, rfl, by decide +kernel, by decide +kernel⟩
abbrev s_shifted : Stmt := topS 69
theorem sc_shifted : FnScope ["machine", "numbers", "by", "setting", "place", "wheels", "counts"] ["machine", "numbers", "by"] (defScope s_shifted) := ⟨rfl, rfl, rfl, by decide +kernel, rfl, by decide +kernel, by decide +kernel⟩
abbrev s_behind : Stmt := topS 68
theorem sc_behind : FnScope ["machine", "values", "numbers", "deed", "setting", "place", "wheels", "counts", "name", "by", "way", "tally", "k", "many"] ["machine", "values", "numbers", "deed"] (defScope s_behind) := ⟨rfl, rfl, rfl, by decide +kernel, rfl, by decide +kernel, by decide +kernel⟩
abbrev s_need_values : Stmt := topS 67
theorem sc_need_values : FnScope ["machine", "inputs", "values", "name", "many", "least"] ["machine", "inputs", "values"] (defScope s_need_values) := ⟨rfl, rfl, rfl, by decide +kernel, rfl, by decide +kernel, by decide +kernel⟩
abbrev s_worked : Stmt := topS 66
theorem sc_worked : FnScope ["machine", "book", "values", "inputs", "deeds", "claims", "numbers", "at", "deed", "setting", "place", "wheels", "counts"] ["machine", "book", "values"] (defScope s_worked) := ⟨rfl, rfl, rfl, by decide +kernel, rfl, by decide +kernel, by decide +kernel⟩
abbrev s_law : Stmt := topS 81
theorem sc_law : FnScope ["_law_script", "_law_h", "_law_turn", "_law_base", "_law_slides", "_law_wheels", "_law_counters", "_law_places", "_law_book", "_law_k", "_law_a", "_law_b", "_law_machine", "_law_one", "_law_other"] ["_law_script"] (defScope s_law) := ⟨rfl, rfl, rfl, by decide +kernel, rfl, by decide +kernel, by decide +kernel⟩
abbrev s_Stuck__init : Stmt := clsB (topS 5) 0
theorem sc_Stuck__init : FnScope ["self", "number"] ["self", "number"] (defScope s_Stuck__init) := ⟨rfl, rfl, rfl, by decide +kernel, rfl, by decide +kernel, by decide +kernel⟩
structure Txt (K : PySem.W.Frag) (mg : Str → Option Value) (base : Heap) where
  f__law_next : Addr
  fd__law_next : FuncData
  F__law_next : Fun K "_law_next" "_law_next" s__law_next f__law_next fd__law_next
  g__law_next : mg "_law_next" = some (.ref f__law_next)
  b__law_next : Binds K fd__law_next ["_law_h", "_law_many"] []
  f__law_big : Addr
  fd__law_big : FuncData
  F__law_big : Fun K "_law_big" "_law_big" s__law_big f__law_big fd__law_big
  g__law_big : mg "_law_big" = some (.ref f__law_big)
  b__law_big : Binds K fd__law_big ["_law_h"] []
  f__law_due : Addr
  fd__law_due : FuncData
  F__law_due : Fun K "_law_due" "_law_due" s__law_due f__law_due fd__law_due
  g__law_due : mg "_law_due" = some (.ref f__law_due)
  b__law_due : Binds K fd__law_due ["_law_one", "_law_other"] []
  f__law_told : Addr
  fd__law_told : FuncData
  F__law_told : Fun K "_law_told" "_law_told" s__law_told f__law_told fd__law_told
  g__law_told : mg "_law_told" = some (.ref f__law_told)
  b__law_told : Binds K fd__law_told ["_law_ask"] []
  f__law_power : Addr
  fd__law_power : FuncData
  F__law_power : Fun K "_law_power" "_law_power" s__law_power f__law_power fd__law_power
  g__law_power : mg "_law_power" = some (.ref f__law_power)
  b__law_power : Binds K fd__law_power ["_law_base", "_law_many"] []
  f__law_value : Addr
  fd__law_value : FuncData
  F__law_value : Fun K "_law_value" "_law_value" s__law_value f__law_value fd__law_value
  g__law_value : mg "_law_value" = some (.ref f__law_value)
  b__law_value : Binds K fd__law_value ["_law_h", "_law_base", "_law_figures", "_law_least"] []
  f_fits : Addr
  fd_fits : FuncData
  F_fits : Fun K "fits" "fits" s_fits f_fits fd_fits
  g_fits : mg "fits" = some (.ref f_fits)
  b_fits : Binds K fd_fits ["held", "end"] []
  f_power : Addr
  fd_power : FuncData
  F_power : Fun K "power" "power" s_power f_power fd_power
  g_power : mg "power" = some (.ref f_power)
  b_power : Binds K fd_power ["base", "place"] []
  f_plus : Addr
  fd_plus : FuncData
  F_plus : Fun K "plus" "plus" s_plus f_plus fd_plus
  g_plus : mg "plus" = some (.ref f_plus)
  b_plus : Binds K fd_plus ["one", "by", "other"] []
  f_with_more : Addr
  fd_with_more : FuncData
  F_with_more : Fun K "with_more" "with_more" s_with_more f_with_more fd_with_more
  g_with_more : mg "with_more" = some (.ref f_with_more)
  b_with_more : Binds K fd_with_more ["held", "by", "more"] []
  f_Known__counted : Addr
  fd_Known__counted : FuncData
  F_Known__counted : Fun K "counted" "Known.counted" s_Known__counted f_Known__counted fd_Known__counted
  b_Known__counted : Binds K fd_Known__counted ["self", "many", "tally"] []
  f_Known__leave : Addr
  fd_Known__leave : FuncData
  F_Known__leave : Fun K "leave" "Known.leave" s_Known__leave f_Known__leave fd_Known__leave
  b_Known__leave : Binds K fd_Known__leave ["self", "taken", "worth"] []
  f_letter_sum : Addr
  fd_letter_sum : FuncData
  F_letter_sum : Fun K "letter_sum" "letter_sum" s_letter_sum f_letter_sum fd_letter_sum
  g_letter_sum : mg "letter_sum" = some (.ref f_letter_sum)
  b_letter_sum : Binds K fd_letter_sum ["letter"] []
  f_Known__letter : Addr
  fd_Known__letter : FuncData
  F_Known__letter : Fun K "letter" "Known.letter" s_Known__letter f_Known__letter fd_Known__letter
  b_Known__letter : Binds K fd_Known__letter ["self", "greatest"] []
  f_number_sum : Addr
  fd_number_sum : FuncData
  F_number_sum : Fun K "number_sum" "number_sum" s_number_sum f_number_sum fd_number_sum
  g_number_sum : mg "number_sum" = some (.ref f_number_sum)
  b_number_sum : Binds K fd_number_sum ["number"] []
  f_root_of : Addr
  fd_root_of : FuncData
  F_root_of : Fun K "root_of" "root_of" s_root_of f_root_of fd_root_of
  g_root_of : mg "root_of" = some (.ref f_root_of)
  b_root_of : Binds K fd_root_of ["number"] []
  f_times : Addr
  fd_times : FuncData
  F_times : Fun K "times" "times" s_times f_times fd_times
  g_times : mg "times" = some (.ref f_times)
  b_times : Binds K fd_times ["one", "other"] []
  f_Known__odds_turned : Addr
  fd_Known__odds_turned : FuncData
  F_Known__odds_turned : Fun K "odds_turned" "Known.odds_turned" s_Known__odds_turned f_Known__odds_turned fd_Known__odds_turned
  b_Known__odds_turned : Binds K fd_Known__odds_turned ["self", "tally"] []
  f_Known__row_of : Addr
  fd_Known__row_of : FuncData
  F_Known__row_of : Fun K "row_of" "Known.row_of" s_Known__row_of f_Known__row_of fd_Known__row_of
  b_Known__row_of : Binds K fd_Known__row_of ["self", "name"] []
  f_Known__rung : Addr
  fd_Known__rung : FuncData
  F_Known__rung : Fun K "rung" "Known.rung" s_Known__rung f_Known__rung fd_Known__rung
  b_Known__rung : Binds K fd_Known__rung ["self", "tally"] []
  f_Known__shifted : Addr
  fd_Known__shifted : FuncData
  F_Known__shifted : Fun K "shifted" "Known.shifted" s_Known__shifted f_Known__shifted fd_Known__shifted
  b_Known__shifted : Binds K fd_Known__shifted ["self", "by"] []
  f_multiplied : Addr
  fd_multiplied : FuncData
  F_multiplied : Fun K "multiplied" "multiplied" s_multiplied f_multiplied fd_multiplied
  g_multiplied : mg "multiplied" = some (.ref f_multiplied)
  b_multiplied : Binds K fd_multiplied ["one", "other"] []
  f_Known__turned : Addr
  fd_Known__turned : FuncData
  F_Known__turned : Fun K "turned" "Known.turned" s_Known__turned f_Known__turned fd_Known__turned
  b_Known__turned : Binds K fd_Known__turned ["self", "many", "way", "tally"] []
  f_number_amount : Addr
  fd_number_amount : FuncData
  F_number_amount : Fun K "number_amount" "number_amount" s_number_amount f_number_amount fd_number_amount
  g_number_amount : mg "number_amount" = some (.ref f_number_amount)
  b_number_amount : Binds K fd_number_amount ["number"] []
  f_Known__wiped : Addr
  fd_Known__wiped : FuncData
  F_Known__wiped : Fun K "wiped" "Known.wiped" s_Known__wiped f_Known__wiped fd_Known__wiped
  b_Known__wiped : Binds K fd_Known__wiped ["self", "word"] []
  f_Known__did : Addr
  fd_Known__did : FuncData
  F_Known__did : Fun K "did" "Known.did" s_Known__did f_Known__did fd_Known__did
  b_Known__did : Binds K fd_Known__did ["self", "deed"] []
  f_need_machine : Addr
  fd_need_machine : FuncData
  F_need_machine : Fun K "need_machine" "need_machine" s_need_machine f_need_machine fd_need_machine
  g_need_machine : mg "need_machine" = some (.ref f_need_machine)
  b_need_machine : Binds K fd_need_machine ["machine"] []
  f_top : Addr
  fd_top : FuncData
  F_top : Fun K "top" "top" s_top f_top fd_top
  g_top : mg "top" = some (.ref f_top)
  b_top : Binds K fd_top ["machine"] []
  f_Known__init : Addr
  fd_Known__init : FuncData
  F_Known__init : Fun K "__init__" "Known.__init__" s_Known__init f_Known__init fd_Known__init
  b_Known__init : Binds K fd_Known__init ["self", "machine", "inputs"] []
  f_product_of : Addr
  fd_product_of : FuncData
  F_product_of : Fun K "product_of" "product_of" s_product_of f_product_of fd_product_of
  g_product_of : mg "product_of" = some (.ref f_product_of)
  b_product_of : Binds K fd_product_of ["product", "greatest"] []
  f_least_of : Addr
  fd_least_of : FuncData
  F_least_of : Fun K "least_of" "least_of" s_least_of f_least_of fd_least_of
  g_least_of : mg "least_of" = some (.ref f_least_of)
  b_least_of : Binds K fd_least_of ["terms", "greatest"] []
  f_side_sum : Addr
  fd_side_sum : FuncData
  F_side_sum : Fun K "side_sum" "side_sum" s_side_sum f_side_sum fd_side_sum
  g_side_sum : mg "side_sum" = some (.ref f_side_sum)
  b_side_sum : Binds K fd_side_sum ["known", "side"] []
  f_is_so : Addr
  fd_is_so : FuncData
  F_is_so : Fun K "is_so" "is_so" s_is_so f_is_so fd_is_so
  g_is_so : mg "is_so" = some (.ref f_is_so)
  b_is_so : Binds K fd_is_so ["known", "claim"] []
  f_is_side : Addr
  fd_is_side : FuncData
  F_is_side : Fun K "is_side" "is_side" s_is_side f_is_side fd_is_side
  g_is_side : mg "is_side" = some (.ref f_is_side)
  b_is_side : Binds K fd_is_side ["figures", "side", "deep"] []
  f_is_claim : Addr
  fd_is_claim : FuncData
  F_is_claim : Fun K "is_claim" "is_claim" s_is_claim f_is_claim fd_is_claim
  g_is_claim : mg "is_claim" = some (.ref f_is_claim)
  b_is_claim : Binds K fd_is_claim ["figures", "claim"] []
  f_need_claims : Addr
  fd_need_claims : FuncData
  F_need_claims : Fun K "need_claims" "need_claims" s_need_claims f_need_claims fd_need_claims
  g_need_claims : mg "need_claims" = some (.ref f_need_claims)
  b_need_claims : Binds K fd_need_claims ["figures", "claims"] []
  f_is_deed : Addr
  fd_is_deed : FuncData
  F_is_deed : Fun K "is_deed" "is_deed" s_is_deed f_is_deed fd_is_deed
  g_is_deed : mg "is_deed" = some (.ref f_is_deed)
  b_is_deed : Binds K fd_is_deed ["figures", "deed"] []
  f_need_deeds : Addr
  fd_need_deeds : FuncData
  F_need_deeds : Fun K "need_deeds" "need_deeds" s_need_deeds f_need_deeds fd_need_deeds
  g_need_deeds : mg "need_deeds" = some (.ref f_need_deeds)
  b_need_deeds : Binds K fd_need_deeds ["figures", "deeds"] []
  f_is_name : Addr
  fd_is_name : FuncData
  F_is_name : Fun K "is_name" "is_name" s_is_name f_is_name fd_is_name
  g_is_name : mg "is_name" = some (.ref f_is_name)
  b_is_name : Binds K fd_is_name ["name"] []
  f_is_input : Addr
  fd_is_input : FuncData
  F_is_input : Fun K "is_input" "is_input" s_is_input f_is_input fd_is_input
  g_is_input : mg "is_input" = some (.ref f_is_input)
  b_is_input : Binds K fd_is_input ["machine", "row", "names"] []
  f_need_inputs : Addr
  fd_need_inputs : FuncData
  F_need_inputs : Fun K "need_inputs" "need_inputs" s_need_inputs f_need_inputs fd_need_inputs
  g_need_inputs : mg "need_inputs" = some (.ref f_need_inputs)
  b_need_inputs : Binds K fd_need_inputs ["machine", "inputs"] []
  f_need_book : Addr
  fd_need_book : FuncData
  F_need_book : Fun K "need_book" "need_book" s_need_book f_need_book fd_need_book
  g_need_book : mg "need_book" = some (.ref f_need_book)
  b_need_book : Binds K fd_need_book ["machine", "book"] []
  f_looked : Addr
  fd_looked : FuncData
  F_looked : Fun K "looked" "looked" s_looked f_looked fd_looked
  g_looked : mg "looked" = some (.ref f_looked)
  b_looked : Binds K fd_looked ["machine", "book"] []
  f_need_places : Addr
  fd_need_places : FuncData
  F_need_places : Fun K "need_places" "need_places" s_need_places f_need_places fd_need_places
  g_need_places : mg "need_places" = some (.ref f_need_places)
  b_need_places : Binds K fd_need_places ["machine", "many"] []
  f_need_slides : Addr
  fd_need_slides : FuncData
  F_need_slides : Fun K "need_slides" "need_slides" s_need_slides f_need_slides fd_need_slides
  g_need_slides : mg "need_slides" = some (.ref f_need_slides)
  b_need_slides : Binds K fd_need_slides ["machine", "many"] []
  f_product : Addr
  fd_product : FuncData
  F_product : Fun K "product" "product" s_product f_product fd_product
  g_product : mg "product" = some (.ref f_product)
  b_product : Binds K fd_product ["machine", "one", "other"] []
  f_figures_of : Addr
  fd_figures_of : FuncData
  F_figures_of : Fun K "figures_of" "figures_of" s_figures_of f_figures_of fd_figures_of
  g_figures_of : mg "figures_of" = some (.ref f_figures_of)
  b_figures_of : Binds K fd_figures_of ["base", "number", "many"] []
  f_odds_before : Addr
  fd_odds_before : FuncData
  F_odds_before : Fun K "odds_before" "odds_before" s_odds_before f_odds_before fd_odds_before
  g_odds_before : mg "odds_before" = some (.ref f_odds_before)
  b_odds_before : Binds K fd_odds_before ["number", "first"] []
  f_turned : Addr
  fd_turned : FuncData
  F_turned : Fun K "turned" "turned" s_turned f_turned fd_turned
  g_turned : mg "turned" = some (.ref f_turned)
  b_turned : Binds K fd_turned ["machine", "numbers", "many", "way", "tally"] []
  f_odds_turned : Addr
  fd_odds_turned : FuncData
  F_odds_turned : Fun K "odds_turned" "odds_turned" s_odds_turned f_odds_turned fd_odds_turned
  g_odds_turned : mg "odds_turned" = some (.ref f_odds_turned)
  b_odds_turned : Binds K fd_odds_turned ["machine", "numbers", "tally"] []
  f_rung : Addr
  fd_rung : FuncData
  F_rung : Fun K "rung" "rung" s_rung f_rung fd_rung
  g_rung : mg "rung" = some (.ref f_rung)
  b_rung : Binds K fd_rung ["machine", "numbers", "tally"] []
  f_shifted : Addr
  fd_shifted : FuncData
  F_shifted : Fun K "shifted" "shifted" s_shifted f_shifted fd_shifted
  g_shifted : mg "shifted" = some (.ref f_shifted)
  b_shifted : Binds K fd_shifted ["machine", "numbers", "by"] []
  f_behind : Addr
  fd_behind : FuncData
  F_behind : Fun K "behind" "behind" s_behind f_behind fd_behind
  g_behind : mg "behind" = some (.ref f_behind)
  b_behind : Binds K fd_behind ["machine", "values", "numbers", "deed"] []
  f_need_values : Addr
  fd_need_values : FuncData
  F_need_values : Fun K "need_values" "need_values" s_need_values f_need_values fd_need_values
  g_need_values : mg "need_values" = some (.ref f_need_values)
  b_need_values : Binds K fd_need_values ["machine", "inputs", "values"] []
  f_worked : Addr
  fd_worked : FuncData
  F_worked : Fun K "worked" "worked" s_worked f_worked fd_worked
  g_worked : mg "worked" = some (.ref f_worked)
  b_worked : Binds K fd_worked ["machine", "book", "values"] []
  f_law : Addr
  fd_law : FuncData
  F_law : Fun K "law" "law" s_law f_law fd_law
  g_law : mg "law" = some (.ref f_law)
  b_law : Binds K fd_law ["_law_script"] []
  f_Stuck__init : Addr
  fd_Stuck__init : FuncData
  F_Stuck__init : Fun K "__init__" "Stuck.__init__" s_Stuck__init f_Stuck__init fd_Stuck__init
  b_Stuck__init : Binds K fd_Stuck__init ["self", "number"] []
  tc_is_name : Addr
  tp_is_name : Addr
  cd_is_name : fd_is_name.code = .ref tc_is_name
  tb_is_name : GxR.TabB base mg tc_is_name tp_is_name
  tc_law : Addr
  tp_law : Addr
  cd_law : fd_law.code = .ref tc_law
  tb_law : GxR.TabB base mg tc_law tp_law
  ne_law_is_name : (tp_law == tp_is_name) = false
  n_all : mg "all" = none
  n_enumerate : mg "enumerate" = none
  n_len : mg "len" = none
  n_list : mg "list" = none
  n_max : mg "max" = none
  n_min : mg "min" = none
  n_range : mg "range" = none
  n_sorted : mg "sorted" = none
  n_tuple : mg "tuple" = none
  C_DrumError : Addr
  gC_DrumError : mg "DrumError" = some (.ref C_DrumError)
  C_Known : Addr
  gC_Known : mg "Known" = some (.ref C_Known)
  C_Stuck : Addr
  gC_Stuck : mg "Stuck" = some (.ref C_Stuck)
  C_TooSmall : Addr
  gC_TooSmall : mg "TooSmall" = some (.ref C_TooSmall)
  xC_TooSmall : PySem.W.excIn K C_TooSmall [.type "ValueError", .type "Exception", .type "BaseException", .type "object"] "ValueError.__new__" = true
  kC_TooSmall : PySem.W.keepIn K (.ref C_TooSmall) = true
  bC_TooSmall : PySem.W.subIn K (.ref C_TooSmall) (.type "BaseException") = some true
  tC_TooSmall : PySem.W.typeIn K (.ref C_TooSmall) = some (.type "type")
  mC_TooSmall_TooSmall : PySem.W.exmOne K (.ref C_TooSmall) (.ref C_TooSmall) = some true
  k_Known : Cls K C_Known
  no_Known_base : NoAttr K C_Known "base"
  no_Known_last_place : NoAttr K C_Known "last_place"
  no_Known_setting_end : NoAttr K C_Known "setting_end"
  no_Known_wheels_end : NoAttr K C_Known "wheels_end"
  no_Known_counts_end : NoAttr K C_Known "counts_end"
  no_Known_greatest : NoAttr K C_Known "greatest"
  no_Known_rows : NoAttr K C_Known "rows"
  no_Known_leasts : NoAttr K C_Known "leasts"
  no_Known_setting : NoAttr K C_Known "setting"
  no_Known_wheels : NoAttr K C_Known "wheels"
  no_Known_counts : NoAttr K C_Known "counts"
  no_Known_place : NoAttr K C_Known "place"
  no_Known_fact : NoAttr K C_Known "fact"
  M_Known__counted : Meth K C_Known "counted" f_Known__counted
  M_Known__leave : Meth K C_Known "leave" f_Known__leave
  M_Known__letter : Meth K C_Known "letter" f_Known__letter
  M_Known__odds_turned : Meth K C_Known "odds_turned" f_Known__odds_turned
  M_Known__row_of : Meth K C_Known "row_of" f_Known__row_of
  M_Known__rung : Meth K C_Known "rung" f_Known__rung
  M_Known__shifted : Meth K C_Known "shifted" f_Known__shifted
  M_Known__turned : Meth K C_Known "turned" f_Known__turned
  M_Known__wiped : Meth K C_Known "wiped" f_Known__wiped
  M_Known__did : Meth K C_Known "did" f_Known__did
  mk_Known : Mk K C_Known f_Known__init

  o_Stuck : OexC K C_Stuck
  y_Stuck : ExcC K C_Stuck
  iC_Stuck : PySem.W.findIn K (.ref C_Stuck) "__init__" = some (some (.ref f_Stuck__init))
  tI_Stuck : PySem.W.typeIn K (.ref f_Stuck__init) = some (.type "function")
  no_Stuck_number : PySem.W.findIn K (.ref C_Stuck) "number" = some none
  ga_DrumError : PySem.W.specialIn K (.ref C_DrumError) "__getattribute__" = some (some (.builtin "type.__getattribute__"))
  ra_DrumError : PySem.W.readsIn K C_DrumError (.type "type") = true
  va_DrumError : PySem.W.findCls K (.ref C_DrumError) (.type "type") "__init__" = some (.val (.builtin "ValueError.__init__"))
  a_CLAIM_WORDS : Addr
  c_CLAIM_WORDS : mg "CLAIM_WORDS" = some (.ref a_CLAIM_WORDS)
  s_CLAIM_WORDS : ∀ H : Hp, SqT K H a_CLAIM_WORDS [.str "same", .str "less"]
  a_COUNTS : Addr
  c_COUNTS : mg "COUNTS" = some (.ref a_COUNTS)
  s_COUNTS : ∀ H : Hp, SqT K H a_COUNTS [.str "counts"]
  a_LEASTS : Addr
  c_LEASTS : mg "LEASTS" = some (.ref a_LEASTS)
  s_LEASTS : ∀ H : Hp, SqT K H a_LEASTS [.int (0), .int (1)]
  t_LEAST_BASE : Tok
  c_LEAST_BASE : mg "LEAST_BASE" = some (.int (2) t_LEAST_BASE)
  t_LONGEST_NAME : Tok
  c_LONGEST_NAME : mg "LONGEST_NAME" = some (.int (8) t_LONGEST_NAME)
  t_MOST_BASE : Tok
  c_MOST_BASE : mg "MOST_BASE" = some (.int (12) t_MOST_BASE)
  t_MOST_CLAIMS : Tok
  c_MOST_CLAIMS : mg "MOST_CLAIMS" = some (.int (8) t_MOST_CLAIMS)
  t_MOST_COUNTERS : Tok
  c_MOST_COUNTERS : mg "MOST_COUNTERS" = some (.int (10) t_MOST_COUNTERS)
  t_MOST_DEEDS : Tok
  c_MOST_DEEDS : mg "MOST_DEEDS" = some (.int (40) t_MOST_DEEDS)
  t_MOST_DEEP : Tok
  c_MOST_DEEP : mg "MOST_DEEP" = some (.int (4) t_MOST_DEEP)
  t_MOST_INPUTS : Tok
  c_MOST_INPUTS : mg "MOST_INPUTS" = some (.int (4) t_MOST_INPUTS)
  t_MOST_NUMBER : Tok
  c_MOST_NUMBER : mg "MOST_NUMBER" = some (.int (1000000000) t_MOST_NUMBER)
  t_MOST_SLIDES : Tok
  c_MOST_SLIDES : mg "MOST_SLIDES" = some (.int (6) t_MOST_SLIDES)
  t_MOST_WHEELS : Tok
  c_MOST_WHEELS : mg "MOST_WHEELS" = some (.int (16) t_MOST_WHEELS)
  a_NO_NAMES : Addr
  c_NO_NAMES : mg "NO_NAMES" = some (.ref a_NO_NAMES)
  s_NO_NAMES : ∀ H : Hp, SqT K H a_NO_NAMES [.str "wheels", .str "counts"]
  t_SMALL_LETTERS : Tok
  c_SMALL_LETTERS : mg "SMALL_LETTERS" = some (.str "abcdefghijklmnopqrstuvwxyz" t_SMALL_LETTERS)
  a_TALLIES : Addr
  c_TALLIES : mg "TALLIES" = some (.ref a_TALLIES)
  s_TALLIES : ∀ H : Hp, SqT K H a_TALLIES [.int (-1), .int (0), .int (1)]
  a_WAYS : Addr
  c_WAYS : mg "WAYS" = some (.ref a_WAYS)
  s_WAYS : ∀ H : Hp, SqT K H a_WAYS [.int (1), .int (-1)]
  a_WHEELS : Addr
  c_WHEELS : mg "WHEELS" = some (.ref a_WHEELS)
  s_WHEELS : ∀ H : Hp, SqT K H a_WHEELS [.str "wheels"]
  a_WIPED : Addr
  c_WIPED : mg "WIPED" = some (.ref a_WIPED)
  s_WIPED : ∀ H : Hp, SqT K H a_WIPED [.str "wheels", .str "counts"]
abbrev Txt.kc {K : PySem.W.Frag} {mg : Str → Option Value} {base : Heap} (T : Txt K mg base) : Kc K := ⟨T.C_Known, T.k_Known, T.no_Known_base, T.no_Known_last_place, T.no_Known_setting_end, T.no_Known_wheels_end, T.no_Known_counts_end, T.no_Known_greatest, T.no_Known_rows, T.no_Known_leasts, T.no_Known_setting, T.no_Known_wheels, T.no_Known_counts, T.no_Known_place, T.no_Known_fact⟩
section
variable {P : Program} {wd : World} {K : PySem.W.Frag} {mg : Str → Option Value} {base : Heap}
theorem ok_Stuck__init (T : Txt K mg base) : FnOk P wd K mg base CX0 1 T.f_Stuck__init T.fd_Stuck__init ["self", "number"] (spInit1 T.C_Stuck "number") := by
  refine T.F_Stuck__init.ok sc_Stuck__init (fun vs H Q E h => ?_) (fun cdv A outer s H vs Q E hr h => ?_)
  · obtain ⟨a, n, rfl, n0, n1, ha, q⟩ := h
    rfl
  · have hu := hu_of hr
    obtain ⟨a, n, rfl, n0, n1, ha, q⟩ := h
    refine ⟨_, (pss_cons (ps_expr (pe_dinit K rfl (by rfl) T.gC_DrumError T.ga_DrumError T.ra_DrumError T.va_DrumError (pa_cons (pv 0) (pa_cons (pe_joined (.cons pe_str (.cons (pe_fmt (pv 1)) .nil))) pa_nil)))) (pss_one (ps_ost (pv 0) (pv 1)))), ?_⟩
    dsimp only [cxOf, L2.start, List.map_cons, List.map_nil, List.length_cons, List.length_nil, List.replicate, List.cons_append, List.nil_append, Nat.reduceAdd, Nat.reduceSub]
    walk_at "rs"
    refine ⟨a, T.C_Stuck, _, rfl, by simp, T.o_Stuck, ha, ?_⟩
    walk_at "rs"
    refine ⟨a, T.C_Stuck, rfl, T.o_Stuck, T.no_Stuck_number, .inl ⟨ha, fun dx hd ne => ?_⟩⟩
    exact q dx _ hd ne rfl

theorem ok__law_next (T : Txt K mg base) : FnOk P wd K mg base CX0 1 T.f__law_next T.fd__law_next ["_law_h", "_law_many"] (spNext) := by
  refine T.F__law_next.ok sc__law_next (fun vs H Q E h => ?_) (fun cdv A outer s H vs Q E hr h => ?_)
  · obtain ⟨a, c, m, rfl, hd, hm, hm2, q⟩ := h
    rfl
  · have hu := hu_of hr
    obtain ⟨a, c, m, rfl, hd, hm, hm2, q⟩ := h
    refine ⟨_, (pss_cons (ps_set (i := 2) sc__law_next.nd rfl (Or.inl rfl) (pe_op op_mod (pe_ix (k_ix K rfl) (pv 0) pe_int (fun _ _ => rfl)) (pe_callB (call_maxQ rfl) (by rfl) T.n_max (by decide +kernel) (pa_cons pe_int (pa_cons (pe_callB (k_len K rfl) (by rfl) T.n_len (by decide +kernel) (pa_cons (pe_ix (k_ix K rfl) (pv 0) pe_int (fun _ _ => rfl)) pa_nil)) pa_nil))))) (pss_cons (ps_set (i := 3) sc__law_next.nd rfl (Or.inl rfl) (pe_ifExp (pt_cmpR (k_ne K rfl hr.units) (pe_ix (k_ix K rfl) (pv 0) pe_int (fun _ _ => rfl)) (pe_lst pa_nil) (nomark _)) (pe_ix (k_ix K rfl) (pe_ix (k_ix K rfl) (pv 0) pe_int (fun _ _ => rfl)) (pv 2) (fun _ _ => rfl)) pe_int)) (pss_cons (ps_if (pt_cmpR (op_ge) (pv 3) (pe_op op_pow pe_int pe_int) (nomark _)) (pss_cons (ps_asg (pe_op op_fdivW (pv 3) (pv 1)) (pg_sub (pe_ix (k_ix K rfl) (pv 0) pe_int (fun _ _ => rfl)) (pv 2) set_list)) (pss_one (ps_ret (pe_op op_mod (pv 3) (pv 1))))) pss_nil) (pss_cons (ps_asg (pe_op op_mod (pe_op (k_add K rfl) (pe_op (k_add K rfl) (pe_op (k_mul K rfl) (pe_ix (k_ix K rfl) (pv 0) pe_int (fun _ _ => rfl)) pe_int) (pe_op (k_mul K rfl) (pv 3) pe_int)) pe_int) pe_int) (pg_sub (pv 0) pe_int set_list)) (pss_cons (ps_asg (pe_op (k_add K rfl) (pe_ix (k_ix K rfl) (pv 0) pe_int (fun _ _ => rfl)) pe_int) (pg_sub (pv 0) pe_int set_list)) (pss_one (ps_ret (pe_op op_mod (pe_op op_fdivW (pe_ix (k_ix K rfl) (pv 0) pe_int (fun _ _ => rfl)) pe_int) (pv 1))))))))), ?_⟩
    dsimp only [cxOf, L2.start, List.map_cons, List.map_nil, List.length_cons, List.length_nil, List.replicate, List.cons_append, List.nil_append, Nat.reduceAdd, Nat.reduceSub]
    have hac : a ≠ c := hd.ne
    obtain ⟨s, i, cells, ha, hc, hs0, hi0, hl⟩ := id hd
    walk_at "rs"
    refine w_new (Nat.zero_le _) fun p H2 hp sm hp2 => ?_
    have ha2 := sm a _ ha
    have hc2 := sm c _ hc
    refine w_neLI (xs := cells) (ys := []) (SqL.of hc2) (SqL.of hp2) ?_
    walk_at "rs"
    have hj0 : 0 ≤ i % max 1 ((cells.map V.int).length : Int) := Int.emod_nonneg _ (by omega)
    have hj1 : i % max 1 ((cells.map V.int).length : Int) < max 1 ((cells.map V.int).length : Int) := Int.emod_lt_of_pos _ (by omega)
    generalize i % max 1 ((cells.map V.int).length : Int) = j at hj0 hj1 ⊢
    rw [List.length_map] at hj1
    have fin : ∀ (y : Int) (H3 H4 : Hp), 0 ≤ y → H3 = upd H2 a (.lst [.int y, .ref c, .int i]) → H4 = upd H3 a (.lst [.int y, .ref c, .int (i + 1)]) → Q (.int (y / 7 % m)) H4 := fun y H3 H4 hy e3 e4 => by
      subst e4 e3
      refine q _ _ (Int.emod_nonneg _ (by omega)) (Int.emod_lt_of_pos _ hm) ⟨y, i + 1, cells, upd_same, by rw [upd_ne hac.symm, upd_ne hac.symm]; exact hc2, hy, by omega, hl⟩ (fun b o hb nb nc => by rw [upd_ne nb, upd_ne nb]; exact sm b o hb) (DrawAt.tn hd fun b o hb nb nc => by rw [upd_ne nb, upd_ne nb]; exact sm b o hb)
    refine w_iteN (fun hne => ?_) (fun he => ?_)
    · have hlen : 0 < cells.length := List.length_pos_iff.mpr hne
      obtain ⟨x, hx⟩ : ∃ x, cells[j.toNat]? = some x := ⟨_, List.getElem?_eq_getElem (by omega)⟩
      walk_at "rs"
      refine w_ixL (SqL.of hc2) (atI_of hj0 (map_get hx)) ?_
      walk_at "rs"
      refine w_ite (fun hbig => ?_) (fun hsm => ?_)
      · walk_at "rs"
        refine w_setL hc2 (ixN_of hj0 (by rw [List.length_map]; omega)) fun H3 hH3 hc3 => ?_
        walk_at "rs"
        subst hH3
        refine q _ _ (Int.emod_nonneg _ (by omega)) (Int.emod_lt_of_pos _ hm) ⟨s, i, cells.set j.toNat (x / m), by rw [upd_ne hac]; exact ha2, by rw [upd_same, List.map_set], hs0, hi0, by rw [List.length_set]; exact hl⟩ (fun b o hb nb nc => by rw [upd_ne nc]; exact sm b o hb) (DrawAt.tn hd fun b o hb nb nc => by rw [upd_ne nc]; exact sm b o hb)
      · walk_at "rs"
        have hy := Int.emod_nonneg (s * 48271 + x * 69621 + 11) (show (2147483647 : Int) ≠ 0 by decide)
        generalize (s * 48271 + x * 69621 + 11) % 2147483647 = y at hy ⊢
        refine w_setL ha2 rfl fun H3 hH3 ha3 => ?_
        walk_at "rs"
        refine w_setL ha3 rfl fun H4 hH4 ha4 => ?_
        walk_at "rs"
        exact fin y H3 H4 hy hH3 hH4
    · walk_at "rs"
      refine w_ite (fun hbig => absurd hbig (by decide)) (fun hsm => ?_)
      walk_at "rs"
      have hy := Int.emod_nonneg (s * 48271 + 0 * 69621 + 11) (show (2147483647 : Int) ≠ 0 by decide)
      generalize (s * 48271 + 0 * 69621 + 11) % 2147483647 = y at hy ⊢
      refine w_setL ha2 rfl fun H3 hH3 ha3 => ?_
      walk_at "rs"
      refine w_setL ha3 rfl fun H4 hH4 ha4 => ?_
      walk_at "rs"
      exact fin y H3 H4 hy hH3 hH4

theorem ok__law_big (T : Txt K mg base) : FnOk P wd K mg base CX0 2 T.f__law_big T.fd__law_big ["_law_h"] (spBig) := by
  refine T.F__law_big.ok sc__law_big (fun vs H Q E h => ?_) (fun cdv A outer s H vs Q E hr h => ?_)
  · obtain ⟨a, cl, rfl, hd, q⟩ := h
    rfl
  · have hu := hu_of hr
    obtain ⟨a, cl, rfl, hd, q⟩ := h
    refine ⟨_, (pss_cons (ps_set (i := 1) sc__law_big.nd rfl (Or.inl rfl) (pe_ix (k_ix K rfl) (pe_lst (pa_cons pe_int (pa_cons pe_int (pa_cons pe_int (pa_cons (pe_op (k_add K rfl) pe_int (pe_call (ok__law_next T) (hr.mono (by decide)) (by rfl) T.g__law_next T.F__law_next.kp T.b__law_next .nil pass0 (pa_cons (pv 0) (pa_cons pe_int pa_nil)))) pa_nil))))) (pe_call (ok__law_next T) (hr.mono (by decide)) (by rfl) T.g__law_next T.F__law_next.kp T.b__law_next .nil pass0 (pa_cons (pv 0) (pa_cons pe_int pa_nil))) (fun _ _ => rfl))) (pss_cons (ps_set (i := 2) sc__law_big.nd rfl (Or.inl rfl) (pe_op (k_add K rfl) pe_int (pe_call (ok__law_next T) (hr.mono (by decide)) (by rfl) T.g__law_next T.F__law_next.kp T.b__law_next .nil pass0 (pa_cons (pv 0) (pa_cons pe_int pa_nil))))) (pss_one (ps_ret (pe_tup (pa_cons (pv 1) (pa_cons (pv 2) (pa_cons (pe_callB (call_minQ rfl) (by rfl) T.n_min (by decide +kernel) (pa_cons pe_int (pa_cons (pe_op (k_add K rfl) (pe_op (k_add K rfl) (pv 2) pe_int) (pe_call (ok__law_next T) (hr.mono (by decide)) (by rfl) T.g__law_next T.F__law_next.kp T.b__law_next .nil pass0 (pa_cons (pv 0) (pa_cons pe_int pa_nil)))) pa_nil))) (pa_cons (pe_op (k_add K rfl) pe_int (pe_call (ok__law_next T) (hr.mono (by decide)) (by rfl) T.g__law_next T.F__law_next.kp T.b__law_next .nil pass0 (pa_cons (pv 0) (pa_cons pe_int pa_nil)))) pa_nil))))))))), ?_⟩
    dsimp only [cxOf, L2.start, List.map_cons, List.map_nil, List.length_cons, List.length_nil, List.replicate, List.cons_append, List.nil_append, Nat.reduceAdd, Nat.reduceSub]
    walk_at "rs"
    refine w_nx hd (by omega) (by omega) fun r1 H1 r10 r11 D1 => ?_
    walk_at "rs"
    refine w_new (by decide) fun p1 H2 hp1 s2 h2 => ?_
    have D12 := D1.same s2
    have o1 := My.off_new D1.dr hp1
    walk_at "rs"
    refine w_nx D12.dr (by omega) (by omega) fun r3 H3 r30 r31 D3 => ?_
    obtain ⟨b, hb, b0, b1⟩ : ∃ b : Int, atI [V.int 10, V.int 2, V.int 12, V.int (2 + r1)] r3 = some (.int b) ∧ 2 ≤ b ∧ b ≤ 12 := by
      rcases (show r3 = 0 ∨ r3 = 1 ∨ r3 = 2 ∨ r3 = 3 by omega) with rfl | rfl | rfl | rfl
      · exact ⟨10, rfl, by omega, by omega⟩
      · exact ⟨2, rfl, by omega, by omega⟩
      · exact ⟨12, rfl, by omega, by omega⟩
      · exact ⟨2 + r1, rfl, by omega, by omega⟩
    refine w_ixL (SqL.of (D3.at o1 h2)) hb ?_
    have D13 := D12.trans D3
    walk_at "rs"
    refine w_nx D13.dr (by omega) (by omega) fun r4 H4 r40 r41 D4 => ?_
    walk_at "rs"
    refine w_nx D4.dr (by omega) (by omega) fun r5 H5 r50 r51 D5 => ?_
    walk_at "rs"
    refine w_nx D5.dr (by omega) (by omega) fun r6 H6 r60 r61 D6 => ?_
    walk_at "rs"
    refine w_new (by decide) fun p H7 hp s7 h7 => ?_
    exact q _ _ _ _ p H7 ⟨by omega, by omega, by omega, by omega, by omega, by omega, by omega, by omega⟩ (by omega) (by omega) (by omega) (((D13.trans D4).trans (D5.trans D6)).same s7) h7

theorem ok__law_due (T : Txt K mg base) : FnOk P wd K mg base CX0 1 T.f__law_due T.fd__law_due ["_law_one", "_law_other"] (spDueP K) := by
  refine T.F__law_due.ok sc__law_due (fun vs H Q E h => ?_) (fun cdv A outer s H vs Q E hr h => ?_)
  · obtain ⟨x, y, rfl, x0, x1, y0, y1, q⟩ := h
    rfl
  · have hu := hu_of hr
    obtain ⟨x, y, rfl, x0, x1, y0, y1, q⟩ := h
    refine ⟨_, (pss_cons (ps_set (i := 2) sc__law_due.nd rfl (Or.inl rfl) (pe_lst (pa_cons (pe_tup (pa_cons pe_str (pa_cons pe_str pa_nil))) (pa_cons (pe_tup (pa_cons pe_str (pa_cons pe_str (pa_cons pe_int (pa_cons pe_int (pa_cons pe_int pa_nil)))))) pa_nil)))) (pss_cons (ps_for PassesOwn.never rfl (pi_range2 rfl T.n_range (pa_cons pe_int (pa_cons (pv 1) pa_nil))) (pg_name (i := 3) sc__law_due.nd rfl (Or.inl rfl)) (pss_one (ps_set (i := 2) sc__law_due.nd rfl (Or.inl rfl) (pe_op (k_add K rfl) (pv 2) (pe_lst (pa_cons (pe_tup (pa_cons pe_str (pa_cons pe_int pa_nil))) (pa_cons (pe_tup (pa_cons pe_str (pa_cons pe_str (pa_cons (pv 3) (pa_cons pe_int (pa_cons pe_int pa_nil)))))) pa_nil))))))) (pss_cons (ps_set (i := 4) sc__law_due.nd rfl (Or.inl rfl) (pe_tup (pa_cons (pe_tup (pa_cons pe_str (pa_cons (pe_tup (pa_cons pe_str pa_nil)) (pa_cons (pe_tup (pa_cons pe_str (pa_cons (pe_tup (pa_cons pe_str (pa_cons pe_str pa_nil))) (pa_cons (pe_tup (pa_cons pe_str (pa_cons pe_str pa_nil))) pa_nil)))) pa_nil)))) (pa_cons (pe_tup (pa_cons pe_str (pa_cons (pe_tup (pa_cons pe_str pa_nil)) (pa_cons (pe_tup (pa_cons pe_str (pa_cons pe_str pa_nil))) pa_nil)))) pa_nil)))) (pss_one (ps_ret (pe_tup (pa_cons (pe_tup (pa_cons (pe_tup (pa_cons pe_str (pa_cons (pv 0) (pa_cons pe_int pa_nil)))) (pa_cons (pe_tup (pa_cons pe_str (pa_cons (pv 1) (pa_cons pe_int pa_nil)))) pa_nil))) (pa_cons (pe_callTy (k_tuple K rfl) (by rfl) T.n_tuple (by decide +kernel) (pa_cons (pv 2) pa_nil)) (pa_cons (pv 4) pa_nil))))))))), ?_⟩
    dsimp only [cxOf, L2.start, List.map_cons, List.map_nil, List.length_cons, List.length_nil, List.replicate, List.cons_append, List.nil_append, Nat.reduceAdd, Nat.reduceSub]
    walk_at "rs"
    refine w_new (by decide) fun p1 H1 hp1 s1 h1 => ?_
    walk_at "rs"
    refine w_new (by decide) fun p2 H2 hp2 s2 h2 => ?_
    walk_at "rs"
    refine w_new (by decide) fun l H3 hl s3 h3 => ?_
    walk_at "rs"
    refine w_rng2I ⟨by omega, by omega, by omega, by omega⟩ ?_
    refine lp_rangeN (K := K) (fun i σ H' => ∃ l ys u3 u4, σ = [some (.int x), some (.int y), some (.ref l), u3, u4] ∧ Same H H' ∧ H' l = some (.lst (ys.map V.ref)) ∧ Paired (DeeAt K H') ys (prodD (i + 1)) ∧ ys.length ≤ 2 * i + 2)
      ⟨l, [p1, p2], _, _, rfl, (s1.trans s2).trans s3, h3, .cons (SqT.of ((s2.trans s3) _ _ h1)) (.cons (SqT.of (s3 _ _ h2)) .nil), (show 2 ≤ 2 * 0 + 2 by decide)⟩ ?_ ?_
    · rintro i σ H4 hi ⟨l, ys, u3, u4, rfl, s4, h4, hys, hyl⟩
      walk_at "rs"
      refine w_new (by decide) fun p5 H5 hp5 s5 h5 => ?_
      walk_at "rs"
      refine w_new (by decide) fun p6 H6 hp6 s6 h6 => ?_
      walk_at "rs"
      refine w_new (by decide) fun l7 H7 hl7 s7 h7 => ?_
      have s47 := (s5.trans s6).trans s7
      walk_at "rs"
      refine w_catL (s47 _ _ h4) h7 (by rw [List.length_map]; show ys.length + 2 ≤ 100000; omega) fun l8 H8 hl8 s8 h8 => ?_
      walk_at "rs"
      have s48 := s47.trans s8
      refine ⟨l8, ys ++ [p5, p6], _, _, rfl, s4.trans s48, by rw [List.map_append]; exact h8, ?_, by rw [List.length_append]; show ys.length + 2 ≤ _; omega⟩
      rw [prodD_more]
      have e : ((i + 1 : Nat) : Int) = 1 + (i : Int) := by omega
      rw [e]
      exact paired_snoc2 (same_all s48 hys) (SqT.of (((s6.trans s7).trans s8) _ _ h5)) (SqT.of ((s7.trans s8) _ _ h6))
    · rintro σ H4 ⟨l, ys, u3, u4, rfl, s4, h4, hys, hyl⟩
      have ey : (y - 1).toNat + 1 = y.toNat := by omega
      rw [ey] at hys
      walk_at "rs"
      refine w_new (by decide) fun c1 H5 hc1f s5 hc1 => ?_
      walk_at "rs"
      refine w_new (by decide) fun c2 H6 hc2f s6 hc2 => ?_
      walk_at "rs"
      refine w_new (by decide) fun c3 H7 hc3f s7 hc3 => ?_
      walk_at "rs"
      refine w_new (by decide) fun c4 H8 hc4f s8 hc4 => ?_
      walk_at "rs"
      refine w_new (by decide) fun c5 H9 hc5f s9 hc5 => ?_
      walk_at "rs"
      refine w_new (by decide) fun c6 H10 hc6f s10 hc6 => ?_
      walk_at "rs"
      refine w_new (by decide) fun c7 H11 hc7f s11 hc7 => ?_
      walk_at "rs"
      refine w_new (by decide) fun c8 H12 hc8f s12 hc8 => ?_
      walk_at "rs"
      refine w_new (by decide) fun c9 H13 hc9f s13 hc9 => ?_
      walk_at "rs"
      refine w_new (by decide) fun i1 H14 hi1f s14 hi1 => ?_
      walk_at "rs"
      refine w_new (by decide) fun i2 H15 hi2f s15 hi2 => ?_
      walk_at "rs"
      refine w_new (by decide) fun i3 H16 hi3f s16 hi3 => ?_
      walk_at "rs"
      have z16 := Same.refl H16
      have z15 := s16.trans z16
      have z14 := s15.trans z15
      have z13 := s14.trans z14
      have z12 := s13.trans z13
      have z11 := s12.trans z12
      have z10 := s11.trans z11
      have z9 := s10.trans z10
      have z8 := s9.trans z9
      have z7 := s8.trans z8
      have z6 := s7.trans z7
      have z5 := s6.trans z6
      have z4 := s5.trans z5
      refine w_tupL (SqL.of (z4 _ _ h4)) fun d H17 hd17 s17 h17 => ?_
      walk_at "rs"
      refine w_new (by decide) fun p H18 hp18 s18 h18 => ?_
      walk_at "rs"
      have w17 := s17.trans s18
      have at_ : ∀ {a : Addr} {xs : List V} {A : Hp}, Same A H16 → A a = some (.tup xs) → SqT K H18 a xs := fun sA h => SqT.of ((sA.trans w17) _ _ h)
      refine q p H18 (s4.trans (z4.trans w17)) ⟨i3, d, c9, [i1, i2], ys, [c5, c8], SqT.of h18, at_ z16 hi3, .cons (at_ z14 hi1) (.cons (at_ z15 hi2) .nil), SqT.of (s18 _ _ h17), same_all (z4.trans w17) hys, at_ z13 hc9, .cons ⟨c1, c4, at_ z9 hc5, .wheels (at_ z5 hc1), .times (at_ z8 hc4) (.inp (at_ z6 hc2)) (.inp (at_ z7 hc3))⟩ (.cons ⟨c6, c7, at_ z12 hc8, .counts (at_ z10 hc6), .inp (at_ z11 hc7)⟩ .nil)⟩

theorem gives__law_told {A : Around} {stack : List Env} {q : Str} (T : Txt K mg base) (cdg : Value) : Lb.Gives P wd K mg base A stack 5 ["_law_ask"] "_law_told" (defScope s__law_told) T.f__law_told cdg (defBody s__law_told) "_law_ask" q (ToldT T.C_TooSmall) := by
  intro f c2 s H Q tl hr act hc h
  · have hu := hu_of hr
    refine ⟨_, (pss_one (ps_try_only rfl rfl ⟨rfl, by decide, .inl T.gC_TooSmall⟩ takes0 (fun W pn xe tk _ => (pss_one (ps_ret (act _ pn xe _ _ tk)))) (fun a oe cls d pn hz hf => (pss_one (ps_ret pe_non))))), ?_⟩
    dsimp only [cxOf, L2.start, List.map_cons, List.map_nil, List.length_cons, List.length_nil, List.replicate, List.cons_append, List.nil_append, Nat.reduceAdd, Nat.reduceSub]
    unfold ToldT at h
    walk_at "rs"
    refine w_act _ (fun cls d H' hE => ?_) rfl hc h
    obtain ⟨rfl, rfl, hq⟩ := hE
    refine ⟨true, T.mC_TooSmall_TooSmall, fun _ a ha => ?_, fun z => Bool.noConfusion z⟩
    walk_at "rs"
    exact hq _ (Same.refl _)

theorem ok__law_power (T : Txt K mg base) : FnOk P wd K mg base CX0 1 T.f__law_power T.fd__law_power ["_law_base", "_law_many"] (spPower) := by
  refine T.F__law_power.ok sc__law_power (fun vs H Q E h => ?_) (fun cdv A outer s H vs Q E hr h => ?_)
  · obtain ⟨b, m, rfl, hb, hb2, hm0, hm, q⟩ := h
    rfl
  · have hu := hu_of hr
    obtain ⟨b, m, rfl, hb, hb2, hm0, hm, q⟩ := h
    refine ⟨_, (pss_cons (ps_set (i := 2) sc__law_power.nd rfl (Or.inl rfl) pe_int) (pss_cons (ps_for PassesOwn.never rfl (pi_range1 rfl T.n_range (pa_cons (pv 1) pa_nil)) (pg_name (i := 3) sc__law_power.nd rfl (Or.inl rfl)) (pss_one (ps_set (i := 2) sc__law_power.nd rfl (Or.inl rfl) (pe_op (k_mul K rfl) (pv 2) (pv 0))))) (pss_one (ps_ret (pv 2))))), ?_⟩
    dsimp only [cxOf, L2.start, List.map_cons, List.map_nil, List.length_cons, List.length_nil, List.replicate, List.cons_append, List.nil_append, Nat.reduceAdd, Nat.reduceSub]
    walk_at "rs"
    refine w_rngI (by omega) ?_
    refine lp_range0 (fun i σ H' => ∃ x, σ = [some (.int b), some (.int m), some (.int (b ^ i)), x] ∧ H' = H) ⟨none, by rw [Int.pow_zero], rfl⟩ ?_ ?_
    · rintro i σ H' hi ⟨z, rfl, rfl⟩
      walk_at "rs"
      refine ⟨some (.int (i : Int)), ?_, rfl⟩
      rw [Int.pow_succ]
    · rintro σ H' ⟨x, rfl, rfl⟩
      walk_at "rs"
      exact q

theorem ok__law_value (T : Txt K mg base) : FnOk P wd K mg base CX0 2 T.f__law_value T.fd__law_value ["_law_h", "_law_base", "_law_figures", "_law_least"] (spVal) := by
  refine T.F__law_value.ok sc__law_value (fun vs H Q E h => ?_) (fun cdv A outer s H vs Q E hr h => ?_)
  · obtain ⟨a, cl, b, f, l, rfl, hd, b0, b1, f0, f1, l0, l1, q⟩ := h
    rfl
  · have hu := hu_of hr
    obtain ⟨a, cl, b, f, l, rfl, hd, b0, b1, f0, f1, l0, l1, q⟩ := h
    refine ⟨_, (pss_cons (ps_set (i := 4) sc__law_value.nd rfl (Or.inl rfl) (pe_op op_sub (pe_call (ok__law_power T) (hr.mono (by decide)) (by rfl) T.g__law_power T.F__law_power.kp T.b__law_power .nil pass0 (pa_cons (pv 1) (pa_cons (pv 2) pa_nil))) pe_int)) (pss_one (ps_ret (pe_callB (call_maxQ rfl) (by rfl) T.n_max (by decide +kernel) (pa_cons (pv 3) (pa_cons (pe_ix (k_ix K rfl) (pe_lst (pa_cons (pe_call (ok__law_next T) (hr.mono (by decide)) (by rfl) T.g__law_next T.F__law_next.kp T.b__law_next .nil pass0 (pa_cons (pv 0) (pa_cons (pe_op (k_add K rfl) (pv 4) pe_int) pa_nil))) (pa_cons (pv 4) (pa_cons (pv 3) (pa_cons (pe_op op_sub (pv 4) (pe_call (ok__law_next T) (hr.mono (by decide)) (by rfl) T.g__law_next T.F__law_next.kp T.b__law_next .nil pass0 (pa_cons (pv 0) (pa_cons (pe_callB (call_minQ rfl) (by rfl) T.n_min (by decide +kernel) (pa_cons pe_int (pa_cons (pv 4) pa_nil))) pa_nil)))) pa_nil))))) (pe_call (ok__law_next T) (hr.mono (by decide)) (by rfl) T.g__law_next T.F__law_next.kp T.b__law_next .nil pass0 (pa_cons (pv 0) (pa_cons pe_int pa_nil))) (fun _ _ => rfl)) pa_nil)))))), ?_⟩
    dsimp only [cxOf, L2.start, List.map_cons, List.map_nil, List.length_cons, List.length_nil, List.replicate, List.cons_append, List.nil_append, Nat.reduceAdd, Nat.reduceSub]
    walk_at "rs"
    refine ⟨b, f, rfl, by omega, by omega, by omega, by omega, ?_⟩
    have p1 : b ^ f.toNat ≤ 12 ^ 6 := My.pow_le12 (n := f.toNat) (N := 6) (by omega) b1 (by omega)
    have p0 : 2 ≤ b ^ f.toNat := by
      obtain ⟨k, hk⟩ : ∃ k, f.toNat = k + 1 := ⟨f.toNat - 1, by omega⟩
      rw [hk, Int.pow_succ]
      have h1 : 0 < b ^ k := Int.pow_pos (by omega)
      have h2 : 1 * b ≤ b ^ k * b := Int.mul_le_mul_of_nonneg_right (by omega) (by omega)
      omega
    have p2 : (12 : Int) ^ 6 = 2985984 := by decide
    walk_at "rs"
    refine w_nx hd (by omega) (by omega) fun r1 H1 r10 r11 D1 => ?_
    walk_at "rs"
    refine w_nx D1.dr (by omega) (by omega) fun r2 H2 r20 r21 D2 => ?_
    walk_at "rs"
    refine w_new (by decide) fun p3 H3 hp3 s3 h3 => ?_
    have D13 := (D1.trans D2).same s3
    have o1 := My.off_new (D1.trans D2).dr hp3
    walk_at "rs"
    refine w_nx D13.dr (by omega) (by omega) fun r4 H4 r40 r41 D4 => ?_
    obtain ⟨v, hv, v0, v1⟩ : ∃ v : Int, atI [V.int r1, V.int (b ^ f.toNat - 1), V.int l, V.int (b ^ f.toNat - 1 - r2)] r4 = some (.int v) ∧ 0 ≤ v ∧ v ≤ b ^ f.toNat - 1 := by
      rcases (show r4 = 0 ∨ r4 = 1 ∨ r4 = 2 ∨ r4 = 3 by omega) with rfl | rfl | rfl | rfl
      · exact ⟨r1, rfl, by omega, by omega⟩
      · exact ⟨_, rfl, by omega, by omega⟩
      · exact ⟨l, rfl, by omega, by omega⟩
      · exact ⟨_, rfl, by omega, by omega⟩
    refine w_ixL (SqL.of (D4.at o1 h3)) hv ?_
    walk_at "rs"
    exact q _ H4 (by omega) (by omega) (D13.trans D4)

theorem ok_fits (T : Txt K mg base) : FnOk P wd K mg base CX0 1 T.f_fits T.fd_fits ["held", "end"] (spFits K) := by
  refine T.F_fits.ok sc_fits (fun vs H Q E h => ?_) (fun cdv A outer s H vs Q E hr h => ?_)
  · obtain ⟨a, x, e, rfl, ⟨d, ha, hd⟩, q⟩ := h
    rfl
  · have hu := hu_of hr
    obtain ⟨a, x, e, rfl, ⟨d, ha, hd⟩, q⟩ := h
    refine ⟨_, (pss_one (ps_ret (pe_and (pe_cmpR (op_ge) (pe_ix (k_ix K rfl) (pv 0) pe_int (fun _ _ => rfl)) pe_int (nomark _)) (pe_one (pe_cmpR (op_lt) (pe_ix (k_ix K rfl) (pv 0) pe_int (fun _ _ => rfl)) (pv 1) (nomark _)))))), ?_⟩
    dsimp only [cxOf, L2.start, List.map_cons, List.map_nil, List.length_cons, List.length_nil, List.replicate, List.cons_append, List.nil_append, Nat.reduceAdd, Nat.reduceSub]
    have hT : SqT K H a [.ref d, .int x.lo, .int x.hi] := SqT.of ha
    unfold fitsA at q
    walk_at "rs"
    refine w_iteN2 (fun c => ?_) (fun c => ?_)
    · walk_at "rs"
      rw [decide_eq_true c, Bool.true_and] at q
      exact q
    · rw [decide_eq_false c, Bool.false_and] at q
      exact q

theorem ok_power (T : Txt K mg base) : FnOk P wd K mg base CX0 1 T.f_power T.fd_power ["base", "place"] (spPower) := by
  refine T.F_power.ok sc_power (fun vs H Q E h => ?_) (fun cdv A outer s H vs Q E hr h => ?_)
  · obtain ⟨b, m, rfl, hb, hb2, hm0, hm, q⟩ := h
    rfl
  · have hu := hu_of hr
    obtain ⟨b, m, rfl, hb, hb2, hm0, hm, q⟩ := h
    refine ⟨_, (pss_cons (ps_set (i := 2) sc_power.nd rfl (Or.inl rfl) pe_int) (pss_cons (ps_for PassesOwn.never rfl (pi_range1 rfl T.n_range (pa_cons (pv 1) pa_nil)) (pg_name (i := 3) sc_power.nd rfl (Or.inl rfl)) (pss_one (ps_aug (i := 2) sc_power.nd rfl (Or.inl rfl) (pv 0) ip_mulI))) (pss_one (ps_ret (pv 2))))), ?_⟩
    dsimp only [cxOf, L2.start, List.map_cons, List.map_nil, List.length_cons, List.length_nil, List.replicate, List.cons_append, List.nil_append, Nat.reduceAdd, Nat.reduceSub]
    walk_at "rs"
    refine w_rngI (by omega) ?_
    refine lp_range0 (fun i σ H' => ∃ x, σ = [some (.int b), some (.int m), some (.int (b ^ i)), x] ∧ H' = H) ⟨none, by rw [Int.pow_zero], rfl⟩ ?_ ?_
    · rintro i σ H' hi ⟨z, rfl, rfl⟩
      walk_at "rs"
      refine w_pMul (.inr ⟨hb, hb2⟩) ?_
      walk_at "rs"
      refine ⟨some (.int (i : Int)), ?_, rfl⟩
      rw [Int.pow_succ]
    · rintro σ H' ⟨x, rfl, rfl⟩
      walk_at "rs"
      exact q

theorem ok_plus (T : Txt K mg base) : FnOk P wd K mg base CX0 1 T.f_plus T.fd_plus ["one", "by", "other"] (spPlus K) := by
  refine T.F_plus.ok sc_plus (fun vs H Q E h => ?_) (fun cdv A outer s H vs Q E hr h => ?_)
  · obtain ⟨a, b, x, y, c, rfl, hx, hy, hc, hz, q⟩ := h
    rfl
  · have hu := hu_of hr
    obtain ⟨a, b, x, y, c, rfl, hx, hy, hc, hz, q⟩ := h
    refine ⟨_, (pss_cons (ps_lock (Td.ps_setDcT (i := 5) (own := [("product", 3), ("share", 4)]) rfl sc_plus.nd hu rfl rfl (sw_trueD rfl rfl rfl (by decide +kernel)) (Td.pi_itemsT (pv 0)) (blkOk_by (own := [("product", 3), ("share", 4)]) (N := ["one", "by", "other", "product", "share", "total"]) (sc := defScope s_plus) (by decide +kernel)) (fun _ _ _ _ _ => (pg_tupK K rfl (n := 2) rfl (pgs_cons (pg_name (i := 3) sc_plus.nd rfl (Or.inl rfl) (.inr rfl)) (pgs_cons (pg_name (i := 4) sc_plus.nd rfl (Or.inl rfl) (.inr rfl)) pgs_nil)))) (fun _ _ _ _ _ => pts_nil) (fun _ _ _ _ _ => (pv 3)) (fun _ _ _ _ _ => (pv 4)))) (pss_cons (So.ps_lockO (ps_for PassesOwn.never rfl (Td.pi_itemsT (pv 2)) (pg_tup (n := 2) rfl (pgs_cons (pg_name (i := 3) sc_plus.nd rfl (Or.inl rfl)) (pgs_cons (pg_name (i := 4) sc_plus.nd rfl (Or.inl rfl)) pgs_nil))) (pss_one (ps_dput hu (pv 5) (pv 3) (pe_op (k_add K rfl) (pe_dget2 hu (pv 5) (pv 3) pe_int ⟨rfl, rfl, rfl, rfl⟩) (pe_op (k_mul K rfl) (pv 1) (pv 4))) rfl)))) (pss_one (ps_ret (pe_lock (Td.pe_dcT (own := [("product", 3), ("share", 4)]) rfl sc_plus.nd hu (Td.pi_itemsT (pv 5)) (blkOk_by (own := [("product", 3), ("share", 4)]) (N := ["one", "by", "other", "product", "share", "total"]) (sc := defScope s_plus) (by decide +kernel)) (fun _ _ _ _ _ => (pg_tupK K rfl (n := 2) rfl (pgs_cons (pg_name (i := 3) sc_plus.nd rfl (Or.inl rfl) (.inr rfl)) (pgs_cons (pg_name (i := 4) sc_plus.nd rfl (Or.inl rfl) (.inr rfl)) pgs_nil)))) (fun _ _ _ _ _ => (pts_one (pt_cmpR (k_ne K rfl hr.units) (pv 4) pe_int (nomark _)))) (fun _ _ _ _ _ => (pv 3)) (fun _ _ _ _ _ => (pv 4)))))))), ?_⟩
    dsimp only [cxOf, L2.start, List.map_cons, List.map_nil, List.length_cons, List.length_nil, List.replicate, List.cons_append, List.nil_append, Nat.reduceAdd, Nat.reduceSub]
    walk_at "rs"
    refine w_lockT hx.1 fun od H1 e1 h1 => ?_
    walk_at "rs"
    refine cqT (fun D i H' => Same H1 H' ∧ H' D = some (.dT (kS (x.take i)))) (fun D H2 hD s h => ⟨s, h⟩) (fun D i H' _ p => p.1 _ _ h1) ?_ ?_
    · intro D i p H2 z r H3 hD hi p2 hz2 hr e3 h3
      have s3 : Same H2 H3 := e3 ▸ Same.new hr
      walk_at "rs"
      refine ⟨rfl, ?_⟩
      walk_at "rs"
      refine w_putT (s3 _ _ hz2) (s3 _ _ p2.2) (Nat.lt_of_le_of_lt (take_le x i) (by omega)) fun H4 e4 h4 => ?_
      rw [put_take hx.2 hi] at h4
      exact ⟨e4 ▸ sameP (p2.1.trans s3) hD, h4⟩
    · intro D H2 hD p2
      rw [List.take_length] at p2
      refine ⟨p2.1 _ _ h1, ?_⟩
      have sA : Same H (upd H2 a (.dT (kS x))) := unlock hx.1 (e1 ▸ p2.1)
      have nDa : D ≠ a := fun e => ne_of_none h1 hD e.symm
      have hDa : (upd H2 a (.dT (kS x))) D = some (.dT (kS x)) := by rw [upd_ne nDa]; exact p2.2
      have hDf : H D = none := by
        have h := hD
        rwa [e1, upd_ne nDa] at h
      generalize upd H2 a (.dT (kS x)) = H3 at sA hDa ⊢
      have hb3 := sA _ _ hy.1
      refine w_lockL (w_lockT hb3 fun od2 H4 e4 h4 => ?_)
      walk_at "rs"
      have nDb : D ≠ b := fun e => ne_of_none hy.1 hDf e.symm
      have hD4 : H4 D = some (.dT (kS x)) := by rw [e4, upd_ne nDb]; exact hDa
      refine lpT (fun i σ H' => ∃ u v, σ = [some (.ref a), some (.int c), some (.ref b), u, v, some (.ref D)] ∧ Kx D D H4 H' ∧ H' D = some (.dT (kS ((y.take i).foldl (addS c) x)))) ⟨_, _, rfl, Kx.refl _ _ _, hD4⟩ ?_ ?_ ?_
      · rintro i σ H' _ ⟨u, v, _, k, _⟩
        exact k _ _ h4 nDb.symm nDb.symm
      · rintro i p σ H5 z r H6 hi ⟨u, v, rfl, k, hD5⟩ hz5 hr e6 h6
        have s6 : Same H5 H6 := e6 ▸ Same.new hr
        have hD6 := s6 _ _ hD5
        walk_at "rs"
        refine w_get2 hD6 (s6 _ _ hz5) ?_
        walk_at "rs"
        refine w_dputT hD6 (s6 _ _ hz5) (Nat.lt_of_le_of_lt (Nat.le_trans (len_add c x (y.take i)) (Nat.add_le_add_left (take_le y i) _)) hz) fun H7 e7 h7 => ?_
        refine ⟨_, _, rfl, k.trans ((Kx.of s6).trans (e7 ▸ Kx.l)), ?_⟩
        rw [fold_take _ _ hi]
        exact h7
      · rintro σ H5 ⟨u, v, rfl, k, hD5⟩
        rw [List.take_length] at hD5
        refine ⟨k _ _ h4 nDb.symm nDb.symm, ?_⟩
        have k5 : Kx D D H3 (upd H5 b (.dT (kS y))) := unlockK hb3 (by rw [← e4]; exact fun b' o h n m => k b' o h m m)
        have hD6 : (upd H5 b (.dT (kS y))) D = some (.dT (kS (y.foldl (addS c) x))) := by rw [upd_ne nDb]; exact hD5
        generalize upd H5 b (.dT (kS y)) = H6 at k5 hD6 ⊢
        walk_at "rs"
        refine w_lockE hD6 fun od3 H7 e7 h7 => ?_
        walk_at "rs"
        have nd := nd_add (by_ := c) y hx.2
        refine cqT (fun D2 i H' => Same H7 H' ∧ H' D2 = some (.dT (kS (nz ((y.foldl (addS c) x).take i))))) (fun D2 H2 hD s h => ⟨s, h⟩) (fun D2 i H' _ p => p.1 _ _ h7) ?_ ?_
        · intro D2 i p H8 z r H9 hD2 hi p2 hz2 hr e9 h9
          have s9 : Same H8 H9 := e9 ▸ Same.new hr
          walk_at "rs"
          refine ⟨rfl, ?_⟩
          walk_at "rs"
          refine w_iteN (fun hp => ?_) (fun hp => ?_)
          · walk_at "rs"
            have l1 := Nat.le_trans (len_nz ((y.foldl (addS c) x).take i)) (take_le (y.foldl (addS c) x) i)
            have l2 := len_add c x y
            refine w_putT (s9 _ _ hz2) (s9 _ _ p2.2) (by omega) fun H10 e10 h10 => ?_
            rw [nz_take nd hi hp] at h10
            exact ⟨e10 ▸ sameP (p2.1.trans s9) hD2, h10⟩
          · exact ⟨p2.1.trans s9, by rw [nz_take0 hi hp]; exact s9 _ _ p2.2⟩
        · intro D2 H8 hD2 p2
          rw [List.take_length] at p2
          refine ⟨p2.1 _ _ h7, ?_⟩
          have n2 : D2 ≠ D := fun e => ne_of_none h7 hD2 e.symm
          refine q D2 _ ?_ ⟨by rw [upd_ne n2]; exact p2.2, nd_plus hx.2⟩
          intro b' o h
          have nb : b' ≠ D := ne_of_none h hDf
          have h6 := k5 _ _ (sA _ _ h) nb nb
          rw [upd_ne nb]
          refine p2.1 _ _ ?_
          rw [e7, upd_ne nb]
          exact h6

theorem ok_with_more (T : Txt K mg base) : FnOk P wd K mg base CX0 2 T.f_with_more T.fd_with_more ["held", "by", "more"] (spMore K) := by
  refine T.F_with_more.ok sc_with_more (fun vs H Q E h => ?_) (fun cdv A outer s H vs Q E hr h => ?_)
  · obtain ⟨a, b, x, y, c, rfl, ⟨d, ha, hd⟩, ⟨e, hb, he⟩, hc, hz, q⟩ := h
    rfl
  · have hu := hu_of hr
    obtain ⟨a, b, x, y, c, rfl, ⟨d, ha, hd⟩, ⟨e, hb, he⟩, hc, hz, q⟩ := h
    refine ⟨_, (pss_cons (ps_set (i := 3) sc_with_more.nd rfl (Or.inl rfl) (pe_tup (pa_cons (pe_op (k_mul K rfl) (pv 1) (pe_ix (k_ix K rfl) (pv 2) pe_int (fun _ _ => rfl))) (pa_cons (pe_op (k_mul K rfl) (pv 1) (pe_ix (k_ix K rfl) (pv 2) pe_int (fun _ _ => rfl))) pa_nil)))) (pss_one (ps_ret (pe_tup (pa_cons (pe_call (ok_plus T) (hr.mono (by decide)) (by rfl) T.g_plus T.F_plus.kp T.b_plus .nil pass0 (pa_cons (pe_ix (k_ix K rfl) (pv 0) pe_int (fun _ _ => rfl)) (pa_cons (pv 1) (pa_cons (pe_ix (k_ix K rfl) (pv 2) pe_int (fun _ _ => rfl)) pa_nil)))) (pa_cons (pe_op (k_add K rfl) (pe_ix (k_ix K rfl) (pv 0) pe_int (fun _ _ => rfl)) (pe_callB (So.cr_minP rfl rfl) (by rfl) T.n_min (by decide +kernel) (pa_cons (pv 3) pa_nil))) (pa_cons (pe_op (k_add K rfl) (pe_ix (k_ix K rfl) (pv 0) pe_int (fun _ _ => rfl)) (pe_callB (So.cr_maxP rfl rfl) (by rfl) T.n_max (by decide +kernel) (pa_cons (pv 3) pa_nil))) pa_nil))))))), ?_⟩
    dsimp only [cxOf, L2.start, List.map_cons, List.map_nil, List.length_cons, List.length_nil, List.replicate, List.cons_append, List.nil_append, Nat.reduceAdd, Nat.reduceSub]
    have hT : SqT K H a [.ref d, .int x.lo, .int x.hi] := SqT.of ha
    have hU : SqT K H b [.ref e, .int y.lo, .int y.hi] := SqT.of hb
    walk_at "rs"
    refine w_new (by decide) fun en H1 hen s1 h1 => ?_
    have hT := SqT.tn s1.tn hT
    have hU := SqT.tn s1.tn hU
    walk_at "rs"
    refine ⟨d, e, x.s, y.s, c, rfl, hd.same s1, he.same s1, hc, hz, fun p H2 s2 h2 => ?_⟩
    have hT := SqT.tn s2.tn hT
    have hE : SqT K H2 en [.int (c * y.lo), .int (c * y.hi)] := SqT.of (s2 _ _ h1)
    walk_at "rs"
    refine w_minP hE ?_
    walk_at "rs"
    refine w_maxP hE ?_
    walk_at "rs"
    refine w_new (by decide) fun b H3 hb s3 h3 => ?_
    walk_at "rs"
    exact q b H3 ((s1.trans s2).trans s3) ⟨p, h3, h2.same s3⟩

theorem ok_Known__counted (T : Txt K mg base) : FnOk P wd K mg base CX0 3 T.f_Known__counted T.fd_Known__counted ["self", "many", "tally"] (spCountK T.kc) := by
  refine T.F_Known__counted.ok sc_Known__counted (fun vs H Q E h => ?_) (fun cdv A outer s H vs Q E hr h => ?_)
  · obtain ⟨a, g, k, p, m, t, rfl, ⟨dx, rw, ls, st, wh, ct, fa, ha, hk⟩, hp, hb, p0, p1, t0, t1, hz, q⟩ := h
    rfl
  · have hu := hu_of hr
    obtain ⟨a, g, k, p, m, t, rfl, ⟨dx, rw, ls, st, wh, ct, fa, ha, hk⟩, hp, hb, p0, p1, t0, t1, hz, q⟩ := h
    refine ⟨_, (pss_cons (ps_fld (pv 0) (pe_call (ok_with_more T) (hr.mono (by decide)) (by rfl) T.g_with_more T.F_with_more.kp T.b_with_more .nil pass0 (pa_cons (pe_fld (pv 0) (by rfl)) (pa_cons (pe_op (k_mul K rfl) (pv 2) (pe_call (ok_power T) (hr.mono (by decide)) (by rfl) T.g_power T.F_power.kp T.b_power .nil pass0 (pa_cons (pe_fld (pv 0) (by rfl)) (pa_cons (pe_fld (pv 0) (by rfl)) pa_nil)))) (pa_cons (pv 1) pa_nil)))) rfl) (pss_one (ps_ret (pe_ifExp (pt_val (pe_call (ok_fits T) (hr.mono (by decide)) (by rfl) T.g_fits T.F_fits.kp T.b_fits .nil pass0 (pa_cons (pe_fld (pv 0) (by rfl)) (pa_cons (pe_fld (pv 0) (by rfl)) pa_nil)))) pe_non pe_str)))), ?_⟩
    dsimp only [cxOf, L2.start, List.map_cons, List.map_nil, List.length_cons, List.length_nil, List.replicate, List.cons_append, List.nil_append, Nat.reduceAdd, Nat.reduceSub]
    have hg := hk.gr
    have hb0 := hb.1
    have hb1 := hb.2
    obtain ⟨w0, w1⟩ := pow16 hb p0 p1
    walk_at "rs"
    refine ⟨k.base, k.place, rfl, by omega, by omega, p0, by omega, ?_⟩
    walk_at "rs"
    refine ⟨ct, p, k.ct, m, _, rfl, hk.ct, hp, way64 t0 t1 w0 w1, hz, fun z H1 s1 h1 => ?_⟩
    have ha1 := s1 _ _ ha
    have hk1 := hk.same s1
    walk_at "rs"
    refine w_s11 ha1 fun H2 e2 ha2 => ?_
    obtain ⟨k2, ha2, hk2⟩ := set11 ha1 hk1 h1 e2
    have q2 := q H2 ((Kf.same ha hg s1).trans k2) (KnH.mk ha2 hk2)
    walk_at "rs"
    refine ⟨z, _, k.cEnd, rfl, k2.am h1, ?_⟩
    unfold countK at q2
    walk_at "rs"
    refine w_iteB (fun c => ?_) (fun c => ?_)
    · rw [if_pos (show fitsA (ctM k m t) k.cEnd = true from c)] at q2
      walk_at "rs"
      exact q2
    · rw [if_neg (by rw [show fitsA (ctM k m t) k.cEnd = false from c]; exact Bool.false_ne_true)] at q2
      walk_at "rs"
      exact q2

theorem ok_Known__leave (T : Txt K mg base) : FnOk P wd K mg base CX0 2 T.f_Known__leave T.fd_Known__leave ["self", "taken", "worth"] (spLeave T.kc) := by
  refine T.F_Known__leave.ok sc_Known__leave (fun vs H Q E h => ?_) (fun cdv A outer s H vs Q E hr h => ?_)
  · obtain ⟨a, g, k, d, tk, w, rfl, ⟨dx, rw, ls, st, wh, ct, fa, ha, hk⟩, hd, w0, w1, hz, q⟩ := h
    rfl
  · have hu := hu_of hr
    obtain ⟨a, g, k, d, tk, w, rfl, ⟨dx, rw, ls, st, wh, ct, fa, ha, hk⟩, hd, w0, w1, hz, q⟩ := h
    refine ⟨_, (pss_cons (ps_asg (pe_fld (pv 0) (by rfl)) (pg_tup (n := 3) rfl (pgs_cons (pg_name (i := 3) sc_Known__leave.nd rfl (Or.inl rfl)) (pgs_cons (pg_name (i := 4) sc_Known__leave.nd rfl (Or.inl rfl)) (pgs_cons (pg_name (i := 5) sc_Known__leave.nd rfl (Or.inl rfl)) pgs_nil))))) (pss_cons (ps_fld (pv 0) (pe_tup (pa_cons (pe_call (ok_plus T) (hr.mono (by decide)) (by rfl) T.g_plus T.F_plus.kp T.b_plus .nil pass0 (pa_cons (pv 3) (pa_cons (pe_un un_neg (pv 2)) (pa_cons (pv 1) pa_nil)))) (pa_cons pe_int (pa_cons (pe_callB (call_minQ rfl) (by rfl) T.n_min (by decide +kernel) (pa_cons (pv 5) (pa_cons (pe_op op_sub (pe_op (k_mul K rfl) (pe_ix (k_ix K rfl) (pe_fld (pv 0) (by rfl)) pe_int (fun _ _ => rfl)) (pv 2)) pe_int) pa_nil))) pa_nil)))) rfl) (pss_one (ps_fld (pv 0) (pe_tup (pa_cons (pe_ix (k_ix K rfl) (pe_fld (pv 0) (by rfl)) pe_int (fun _ _ => rfl)) (pa_cons (pv 2) pa_nil))) rfl)))), ?_⟩
    dsimp only [cxOf, L2.start, List.map_cons, List.map_nil, List.length_cons, List.length_nil, List.replicate, List.cons_append, List.nil_append, Nat.reduceAdd, Nat.reduceSub]
    have hg := hk.gr
    obtain ⟨dw, hwT, hwh, hwd⟩ := hk.wh.sq (K := K)
    obtain ⟨ds, hsT, hst, hsd⟩ := hk.st.sq (K := K)
    walk_at "rs"
    refine ⟨dw, d, k.wh.s, tk, -w, rfl, hwd, hd, ⟨by omega, by omega⟩, hz, fun p H1 s1 h1 => ?_⟩
    have ha1 := s1 _ _ ha
    have hk1 := hk.same s1
    have hsT := SqT.tn s1.tn hsT
    walk_at "rs"
    refine w_new (by decide) fun b H2 hb s2 h2 => ?_
    have ha2 := s2 _ _ ha1
    have hk2 := hk1.same s2
    have hsT := SqT.tn s2.tn hsT
    walk_at "rs"
    refine w_s10 ha2 fun H3 e3 ha3 => ?_
    obtain ⟨k3, ha3, hk3⟩ := set10 (m := ⟨plusS k.wh.s (-w) tk, 0, min k.wh.hi (k.set_.hi * w - 1)⟩) ha2 hk2 ⟨p, h2, h1.same s2⟩ e3
    have hst3 : H3 st = _ := k3.tup (s2 _ _ (s1 _ _ hst))
    have hsd3 := k3.sd ((hsd.same s1).same s2)
    have hsT := SqT.of (K := K) hst3
    walk_at "rs"
    refine w_new (by decide) fun b4 H4 hb4 s4 h4 => ?_
    have ha4 := s4 _ _ ha3
    have hk4 := hk3.same s4
    walk_at "rs"
    refine w_s13 ha4 fun H5 e5 ha5 => ?_
    obtain ⟨k5, ha5, hk5⟩ := set13 (f := some (k.set_.s, w)) ha4 hk4 ⟨b4, ds, rfl, h4, hsd3.same s4⟩ e5
    walk_at "rs"
    exact q H5 ((((Kf.same ha hg (s1.trans s2)).trans k3).trans (Kf.same ha3 hk3.gr s4)).trans k5) (KnH.mk ha5 hk5)

theorem ok_letter_sum (T : Txt K mg base) : FnOk P wd K mg base CX0 1 T.f_letter_sum T.fd_letter_sum ["letter"] (spLet K) := by
  refine T.F_letter_sum.ok sc_letter_sum (fun vs H Q E h => ?_) (fun cdv A outer s H vs Q E hr h => ?_)
  · obtain ⟨l, rfl, q⟩ := h
    rfl
  · have hu := hu_of hr
    obtain ⟨l, rfl, q⟩ := h
    refine ⟨_, (pss_one (ps_ret (Td.pe_oneT hu (pe_tup (pa_cons (pv 0) pa_nil)) pe_int))), ?_⟩
    dsimp only [cxOf, L2.start, List.map_cons, List.map_nil, List.length_cons, List.length_nil, List.replicate, List.cons_append, List.nil_append, Nat.reduceAdd, Nat.reduceSub]
    walk_at "rs"
    refine w_oneT fun p H0 hp s0 h0 => ?_
    walk_at "rs"
    refine w_new (by decide) fun b H1 hb s1 h1 => ?_
    walk_at "rs"
    refine w_oneQ (k := [l]) h1 (s1 _ _ h0) fun H2 e2 h2 => ?_
    walk_at "rs"
    exact q p H2 (e2 ▸ sameP (s0.trans s1) hp) ⟨h2, nd_let⟩

theorem ok_Known__letter (T : Txt K mg base) : FnOk P wd K mg base CX0 2 T.f_Known__letter T.fd_Known__letter ["self", "greatest"] (spLetter T.kc) := by
  refine T.F_Known__letter.ok sc_Known__letter (fun vs H Q E h => ?_) (fun cdv A outer s H vs Q E hr h => ?_)
  · obtain ⟨a, g, dx, fs, gr, n, rfl, ha, hf, hg, hz, q⟩ := h
    rfl
  · have hu := hu_of hr
    obtain ⟨a, g, dx, fs, gr, n, rfl, ha, hf, hg, hz, q⟩ := h
    refine ⟨_, (pss_cons (ps_expr (pe_bm PySem.F.plainAttrs_list PySem.F.slot_list_append PySem.F.type_list_append mt_append (pe_fld (pv 0) (by rfl)) (pa_cons (pv 1) pa_nil))) (pss_one (ps_ret (pe_tup (pa_cons (pe_call (ok_letter_sum T) (hr.mono (by decide)) (by rfl) T.g_letter_sum T.F_letter_sum.kp T.b_letter_sum .nil pass0 (pa_cons (pe_op op_sub (pe_callB (k_len K rfl) (by rfl) T.n_len (by decide +kernel) (pa_cons (pe_fld (pv 0) (by rfl)) pa_nil)) pe_int) pa_nil)) (pa_cons pe_int (pa_cons (pv 1) pa_nil))))))), ?_⟩
    dsimp only [cxOf, L2.start, List.map_cons, List.map_nil, List.length_cons, List.length_nil, List.replicate, List.cons_append, List.nil_append, Nat.reduceAdd, Nat.reduceSub]
    walk_at "rs"
    refine w_fldN ha T.kc.cls T.kc.n6 hf ?_
    walk_at "rs"
    refine w_appendW hg (by rw [List.length_map]; omega) fun H1 e1 h1 => ?_
    have nag : a ≠ g := ne_of ha hg (fun e => nomatch e)
    have k1 : Kf a g H H1 := e1 ▸ Kf.setG ha hg
    have ha1 : H1 a = some (.ins T.kc.C dx fs) := by rw [e1, upd_ne nag]; exact ha
    have hg1 : H1 g = some (.lst ((gr ++ [n]).map V.int)) := by rw [h1, List.map_append]; rfl
    walk_at "rs"
    refine w_fldN ha1 T.kc.cls T.kc.n6 hf ?_
    walk_at "rs"
    refine ⟨_, rfl, fun p H2 s2 h2 => ?_⟩
    walk_at "rs"
    refine w_new (by decide) fun b H3 hb s3 h3 => ?_
    walk_at "rs"
    have s13 := s2.trans s3
    refine q b H3 (k1.trans (Kf.same ha1 hg1 s13)) (s13 _ _ ha1) (s13 _ _ hg1) ⟨p, h3, ?_⟩
    have e : (((gr ++ [n]).map V.int).length : Int) - 1 = gr.length := by
      rw [List.length_map, List.length_append]
      show ((gr.length + 1 : Nat) : Int) - 1 = _
      omega
    have h4 := h2.same s3
    rw [e] at h4
    exact h4

theorem ok_number_sum (T : Txt K mg base) : FnOk P wd K mg base CX0 1 T.f_number_sum T.fd_number_sum ["number"] (spNum K) := by
  refine T.F_number_sum.ok sc_number_sum (fun vs H Q E h => ?_) (fun cdv A outer s H vs Q E hr h => ?_)
  · obtain ⟨n, rfl, q⟩ := h
    rfl
  · have hu := hu_of hr
    obtain ⟨n, rfl, q⟩ := h
    refine ⟨_, (pss_one (ps_ret (pe_ifExp (pt_cmpR (k_ne K rfl hr.units) (pv 0) pe_int (nomark _)) (Td.pe_oneT hu (pe_tup pa_nil) (pv 0)) pe_dnewT))), ?_⟩
    dsimp only [cxOf, L2.start, List.map_cons, List.map_nil, List.length_cons, List.length_nil, List.replicate, List.cons_append, List.nil_append, Nat.reduceAdd, Nat.reduceSub]
    walk_at "rs"
    refine w_iteN (fun hn => ?_) (fun hn => ?_)
    · refine w_oneT fun p H0 hp s0 h0 => ?_
      walk_at "rs"
      refine w_new (by decide) fun b H1 hb s1 h1 => ?_
      walk_at "rs"
      refine w_oneQ (k := []) h1 (s1 _ _ h0) fun H2 e2 h2 => ?_
      walk_at "rs"
      refine q p H2 (e2 ▸ sameP (s0.trans s1) hp) ⟨?_, nd_num⟩
      rw [h2]
      unfold numS
      rw [if_neg hn]
    · refine w_dnewT fun p H1 hp s1 h1 => ?_
      walk_at "rs"
      refine q p H1 s1 ⟨?_, nd_num⟩
      rw [h1]
      unfold numS
      rw [if_pos hn]

theorem ok_root_of (T : Txt K mg base) : FnOk P wd K mg base CX0 1 T.f_root_of T.fd_root_of ["number"] (spRoot) := by
  refine T.F_root_of.ok sc_root_of (fun vs H Q E h => ?_) (fun cdv A outer s H vs Q E hr h => ?_)
  · obtain ⟨n, rfl, n0, n1, q⟩ := h
    rfl
  · have hu := hu_of hr
    obtain ⟨n, rfl, n0, n1, q⟩ := h
    refine ⟨_, (pss_cons (ps_asg (pe_tup (pa_cons pe_int (pa_cons pe_int pa_nil))) (pg_tup (n := 2) rfl (pgs_cons (pg_name (i := 1) sc_root_of.nd rfl (Or.inl rfl)) (pgs_cons (pg_name (i := 2) sc_root_of.nd rfl (Or.inl rfl)) pgs_nil)))) (pss_cons (ps_while PassesOwn.never (pt_cmpR (op_le) (pe_op (k_mul K rfl) (pv 2) (pv 2)) (pv 0) (nomark _)) (pss_one (ps_aug (i := 2) sc_root_of.nd rfl (Or.inl rfl) pe_int ip_mulI))) (pss_cons (ps_while PassesOwn.never (pt_cmpR (op_gt) (pe_op op_sub (pv 2) (pv 1)) pe_int (nomark _)) (pss_cons (ps_set (i := 3) sc_root_of.nd rfl (Or.inl rfl) (pe_op op_fdivW (pe_op (k_add K rfl) (pv 1) (pv 2)) pe_int)) (pss_one (ps_if (pt_cmpR (op_le) (pe_op (k_mul K rfl) (pv 3) (pv 3)) (pv 0) (nomark _)) (pss_one (ps_set (i := 1) sc_root_of.nd rfl (Or.inl rfl) (pv 3))) (pss_one (ps_set (i := 2) sc_root_of.nd rfl (Or.inl rfl) (pv 3))))))) (pss_one (ps_ret (pv 1)))))), ?_⟩
    dsimp only [cxOf, L2.start, List.map_cons, List.map_nil, List.length_cons, List.length_nil, List.replicate, List.cons_append, List.nil_append, Nat.reduceAdd, Nat.reduceSub]
    walk_at "rs"
    refine w_new (by decide) fun p0 H0 hp0 s0 h0 => ?_
    walk_at "rs"
    have q := q H0 s0
    refine wq_by (fun u σ H2 => ∃ (z : Int) (x3 : Option V), σ = [some (.int n), some (.int 0), some (.int z), x3] ∧ H2 = H0 ∧ 1 ≤ z ∧ z ≤ 2 ^ 32 ∧ u = (n + 1 - z).toNat) (n + 1 - 1).toNat ⟨1, none, rfl, rfl, by omega, by omega, rfl⟩ ?_
    rintro u σ H2 ⟨z, x3, rfl, rfl, z0, z1, rfl⟩
    walk_at "rs"
    refine w_ite (fun g => ?_) (fun g => ?_)
    · have zn : z * 1 ≤ z * z := Int.mul_le_mul_of_nonneg_left z0 (by omega)
      rw [Int.mul_one] at zn
      have zb : z < 2 ^ 31 := sq_lt (by omega) (by omega)
      refine ⟨fun σ' H' => ∃ m', m' < (n + 1 - z).toNat ∧ ∃ (z : Int) (x3 : Option V), σ' = [some (.int n), some (.int 0), some (.int z), x3] ∧ H' = H2 ∧ 1 ≤ z ∧ z ≤ 2 ^ 32 ∧ m' = (n + 1 - z).toNat, fun σ' H' h => h, ?_⟩
      walk_at "rs"
      refine w_pMul (.inr ⟨by omega, by omega⟩) ?_
      walk_at "rs"
      exact ⟨_, by omega, z * 2, x3, rfl, rfl, by omega, by omega, rfl⟩
    · walk_at "rs"
      refine wq_by (fun u σ H3 => ∃ (lo hi : Int) (x3 : Option V), σ = [some (.int n), some (.int lo), some (.int hi), x3] ∧ H3 = H2 ∧ 0 ≤ lo ∧ lo < hi ∧ hi ≤ 2 ^ 32 ∧ lo * lo ≤ n ∧ n < hi * hi ∧ u = (hi - lo).toNat) (z - 0).toNat ⟨0, z, x3, rfl, rfl, by omega, by omega, z1, by omega, by omega, rfl⟩ ?_
      rintro u σ H3 ⟨lo, hi, x3, rfl, rfl, l0, lh, h1, k1, k2, rfl⟩
      walk_at "rs"
      refine w_ite (fun g2 => ?_) (fun g2 => ?_)
      · refine ⟨fun σ' H' => ∃ m', m' < (hi - lo).toNat ∧ ∃ (lo hi : Int) (x3 : Option V), σ' = [some (.int n), some (.int lo), some (.int hi), x3] ∧ H' = H3 ∧ 0 ≤ lo ∧ lo < hi ∧ hi ≤ 2 ^ 32 ∧ lo * lo ≤ n ∧ n < hi * hi ∧ m' = (hi - lo).toNat, fun σ' H' h => h, ?_⟩
        walk_at "rs"
        generalize hmid : (lo + hi) / 2 = mid
        have m1 : lo < mid := by omega
        have m2 : mid < hi := by omega
        walk_at "rs"
        refine w_ite (fun g3 => ?_) (fun g3 => ?_)
        · walk_at "rs"
          exact ⟨_, by omega, mid, hi, _, rfl, rfl, by omega, m2, h1, g3, k2, rfl⟩
        · walk_at "rs"
          exact ⟨_, by omega, lo, mid, _, rfl, rfl, l0, m1, by omega, k1, by omega, rfl⟩
      · walk_at "rs"
        have e : hi = lo + 1 := by omega
        subst e
        rw [sqI_uniq n0 l0 k1 k2] at q
        exact q

theorem ok_times (T : Txt K mg base) : FnOk P wd K mg base CX0 1 T.f_times T.fd_times ["one", "other"] (spTimes K) := by
  refine T.F_times.ok sc_times (fun vs H Q E h => ?_) (fun cdv A outer s H vs Q E hr h => ?_)
  · obtain ⟨a, b, x, y, rfl, hx, hy, hc, gx, gy, hz, q⟩ := h
    rfl
  · have hu := hu_of hr
    obtain ⟨a, b, x, y, rfl, hx, hy, hc, gx, gy, hz, q⟩ := h
    refine ⟨_, (pss_cons (ps_set (i := 2) sc_times.nd rfl (Or.inl rfl) pe_dnewT) (pss_cons (So.ps_lockO (ps_for PassesOwn.never rfl (Td.pi_itemsT (pv 0)) (pg_tup (n := 2) rfl (pgs_cons (pg_name (i := 3) sc_times.nd rfl (Or.inl rfl)) (pgs_cons (pg_name (i := 4) sc_times.nd rfl (Or.inl rfl)) pgs_nil))) (pss_one (So.ps_lockO (ps_for PassesOwn.never rfl (Td.pi_itemsT (pv 1)) (pg_tup (n := 2) rfl (pgs_cons (pg_name (i := 5) sc_times.nd rfl (Or.inl rfl)) (pgs_cons (pg_name (i := 6) sc_times.nd rfl (Or.inl rfl)) pgs_nil))) (pss_cons (ps_set (i := 7) sc_times.nd rfl (Or.inl rfl) (pe_callTy (k_tuple K rfl) (by rfl) T.n_tuple (by decide +kernel) (pa_cons (pe_callB (So.k_sortT rfl) (by rfl) T.n_sorted (by decide +kernel) (pa_cons (pe_op (k_add K rfl) (pv 3) (pv 5)) pa_nil)) pa_nil))) (pss_one (ps_dput hu (pv 2) (pv 7) (pe_op (k_add K rfl) (pe_dget2 hu (pv 2) (pv 7) pe_int ⟨rfl, rfl, rfl, rfl⟩) (pe_op (k_mul K rfl) (pv 4) (pv 6))) rfl)))))))) (pss_one (ps_ret (pe_lock (Td.pe_dcT (own := [("product", 7), ("share", 4)]) rfl sc_times.nd hu (Td.pi_itemsT (pv 2)) (blkOk_by (own := [("product", 7), ("share", 4)]) (N := ["one", "other", "total", "left", "share", "right", "by", "product"]) (sc := defScope s_times) (by decide +kernel)) (fun _ _ _ _ _ => (pg_tupK K rfl (n := 2) rfl (pgs_cons (pg_name (i := 7) sc_times.nd rfl (Or.inl rfl) (.inr rfl)) (pgs_cons (pg_name (i := 4) sc_times.nd rfl (Or.inl rfl) (.inr rfl)) pgs_nil)))) (fun _ _ _ _ _ => (pts_one (pt_cmpR (k_ne K rfl hr.units) (pv 4) pe_int (nomark _)))) (fun _ _ _ _ _ => (pv 7)) (fun _ _ _ _ _ => (pv 4)))))))), ?_⟩
    dsimp only [cxOf, L2.start, List.map_cons, List.map_nil, List.length_cons, List.length_nil, List.replicate, List.cons_append, List.nil_append, Nat.reduceAdd, Nat.reduceSub]
    walk_at "rs"
    refine w_dnewT fun D H1 hDf s1 h1 => ?_
    walk_at "rs"
    have ha1 := s1 _ _ hx.1
    have hb1 := s1 _ _ hy.1
    have nDa : D ≠ a := fun e => ne_of_none hx.1 hDf e.symm
    have nDb : D ≠ b := fun e => ne_of_none hy.1 hDf e.symm
    refine w_lockL (w_lockT ha1 fun od H2 e2 h2 => ?_)
    have hD2 : H2 D = some (.dT (kS [])) := by rw [e2, upd_ne nDa]; exact h1
    have hb2 : (∃ od, H2 b = some (.frz od (.dT (kS y)))) ∨ H2 b = some (.dT (kS y)) := by
      by_cases e : b = a
      · subst e
        have exy : kS x = kS y := by
          have h := ha1.symm.trans hb1
          injection h with h
          injection h with h
        exact .inl ⟨od, by rw [h2, exy]⟩
      · exact .inr (by rw [e2, upd_ne e]; exact hb1)
    walk_at "rs"
    refine lpT (fun i σ H' => ∃ u1 u2 u3 u4 u5, σ = [some (.ref a), some (.ref b), some (.ref D), u1, u2, u3, u4, u5] ∧ Kx D D H2 H' ∧ H' D = some (.dT (kS ((x.take i).foldl (fun t l => y.foldl (mulS l) t) [])))) ⟨_, _, _, _, _, rfl, Kx.refl _ _ _, hD2⟩ ?_ ?_ ?_
    · rintro i σ H' _ ⟨u1, u2, u3, u4, u5, _, k, _⟩
      exact k _ _ h2 nDa.symm nDa.symm
    · rintro i p σ H5 z r H6 hi ⟨u1, u2, u3, u4, u5, rfl, k5, hD5⟩ hz5 hr5 e6 h6
      have s6 : Same H5 H6 := e6 ▸ Same.new hr5
      have k6 : Kx D D H2 H6 := k5.trans (Kx.of s6)
      have hD6 := s6 _ _ hD5
      have hz6 := s6 _ _ hz5
      walk_at "rs"
      have hb6 : (∃ od, H6 b = some (.frz od (.dT (kS y)))) ∨ H6 b = some (.dT (kS y)) := hb2.elim (fun ⟨o2, h⟩ => .inl ⟨o2, k6 _ _ h nDb.symm nDb.symm⟩) fun h => .inr (k6 _ _ h nDb.symm nDb.symm)
      refine w_lockB hb6 fun D' H7 od7 back h7 o7 fin b1 b2 => ?_
      have nzb : z ≠ b := fun e => by
        subst e
        rcases hb6 with ⟨_, h⟩ | h <;> (rw [hz6] at h; cases h)
      have hz7 : H7 z = some (.tup (p.1.map V.int)) := (o7 z nzb).trans hz6
      have hD7 := (o7 D nDb).trans hD6
      walk_at "rs"
      have mx := List.mem_of_getElem? hi
      have g1 := gx p mx
      refine lpT (fun j σ H' => ∃ v5 v6 v7, σ = [some (.ref a), some (.ref b), some (.ref D), some (.ref z), some (.int p.2), v5, v6, v7] ∧ Kx D D H7 H' ∧ H' D = some (.dT (kS ((y.take j).foldl (mulS p) ((x.take i).foldl (fun t l => y.foldl (mulS l) t) []))))) ⟨_, _, _, rfl, Kx.refl _ _ _, hD7⟩ ?_ ?_ ?_
      · rintro j σ H' _ ⟨v5, v6, v7, _, k, _⟩
        exact k _ _ h7 nDb.symm nDb.symm
      · rintro j pr σ H8 z2 r2 H9 hj ⟨v5, v6, v7, rfl, k8, hD8⟩ hz8 hr8 e9 h9
        have s9 : Same H8 H9 := e9 ▸ Same.new hr8
        have k9 : Kx D D H7 H9 := k8.trans (Kx.of s9)
        have my := List.mem_of_getElem? hj
        have g2 := gy pr my
        have nzD : z ≠ D := fun e => by
          subst e
          rw [hz7] at hD7
          cases hD7
        have hz9 := k9 _ _ hz7 nzD nzD
        have hw9 := s9 _ _ hz8
        have hD9 := s9 _ _ hD8
        walk_at "rs"
        refine w_catT (SqT.of hz9) (SqT.of hw9) (by rw [List.length_map, List.length_map]; omega) fun q1 H10 s10 h10 => ?_
        rw [← List.map_append] at h10
        walk_at "rs"
        refine w_sortT h10 rfl fun q2 H11 hq2 e11 => ?_
        have s11 : Same H10 H11 := e11 ▸ Same.new hq2
        have h11 : H11 q2 = some (.lst ((srtZ (p.1 ++ pr.1)).map V.int)) := by rw [e11]; exact upd_same
        walk_at "rs"
        refine w_tupL (SqL.of h11) fun q3 H12 hq3 s12 h12 => ?_
        have s912 := (s10.trans s11).trans s12
        have hD12 := s912 _ _ hD9
        walk_at "rs"
        refine w_get2 hD12 h12 ?_
        have hc2 : CMul p.2 pr.2 := hc.elim (fun h => .inl (h p mx)) (fun h => .inr (h pr my))
        walk_at "rs"
        refine w_mulI hc2 ?_
        walk_at "rs"
        have l1 := len_mul p ((x.take i).foldl (fun t l => y.foldl (mulS l) t) []) (y.take j)
        have l2 := len_times0 (x.take i) y
        have l3 := take_le y j
        have l4 : y.length * (x.take i).length + y.length ≤ y.length * x.length := by
          rw [List.length_take, Nat.min_eq_left (Nat.le_of_lt (lt_of_get hi)), ← Nat.mul_succ]
          exact Nat.mul_le_mul_left _ (lt_of_get hi)
        refine w_dputT hD12 h12 (by omega) fun H13 e13 h13 => ?_
        refine ⟨_, _, _, rfl, k9.trans ((Kx.of s912).trans (e13 ▸ Kx.l)), ?_⟩
        rw [fold_take _ _ hj]
        exact h13
      · rintro σ H8 ⟨v5, v6, v7, rfl, k8, hD8⟩
        rw [List.take_length] at hD8
        have hb8 := k8 _ _ h7 nDb.symm nDb.symm
        refine fin _ _ hb8 ⟨_, _, _, _, _, rfl, ?_, ?_⟩
        · intro c o hc1 n1 n2
          have h6c := k6 _ _ hc1 n1 n2
          by_cases e : c = b
          · subst e
            rw [b2 _ hb8]
            exact h6c
          · rw [b1 _ _ e]
            exact k8 _ _ ((o7 c e).trans h6c) n1 n2
        · rw [b1 _ _ nDb, fold_take _ _ hi]
          exact hD8
    · rintro σ H5 ⟨u1, u2, u3, u4, u5, rfl, k5, hD5⟩
      rw [List.take_length] at hD5
      refine ⟨k5 _ _ h2 nDa.symm nDa.symm, ?_⟩
      have k6 : Kx D D H1 (upd H5 a (.dT (kS x))) := unlockK ha1 (by rw [← e2]; exact fun b' o h n m => k5 b' o h m m)
      have hD6 : (upd H5 a (.dT (kS x))) D = some (.dT (kS (x.foldl (fun t l => y.foldl (mulS l) t) []))) := by rw [upd_ne nDa]; exact hD5
      generalize upd H5 a (.dT (kS x)) = H6 at k6 hD6 ⊢
      walk_at "rs"
      refine w_lockE hD6 fun od3 H7 e7 h7 => ?_
      walk_at "rs"
      have nd : (keys (x.foldl (fun t l => y.foldl (mulS l) t) [])).Nodup := nd_foldl _ (fun t l h => nd_mul y l h) x [] List.nodup_nil
      have l0 := len_times0 x y
      have eT : timesS x y = nz (x.foldl (fun t l => y.foldl (mulS l) t) []) := rfl
      have q2 := q
      rw [eT] at q2
      generalize x.foldl (fun t l => y.foldl (mulS l) t) [] = TT at nd l0 q2 hD6 e7 h7 ⊢
      refine cqT (fun D2 i H' => Same H7 H' ∧ H' D2 = some (.dT (kS (nz (TT.take i))))) (fun D2 H2 hD s h => ⟨s, h⟩) (fun D2 i H' _ p => p.1 _ _ h7) ?_ ?_
      · intro D2 i p H8 z r H9 hD2 hi p2 hz2 hr e9 h9
        have s9 : Same H8 H9 := e9 ▸ Same.new hr
        walk_at "rs"
        refine ⟨rfl, ?_⟩
        walk_at "rs"
        refine w_iteN (fun hp => ?_) (fun hp => ?_)
        · walk_at "rs"
          have l1 := Nat.le_trans (len_nz (TT.take i)) (take_le TT i)
          refine w_putT (s9 _ _ hz2) (s9 _ _ p2.2) (by omega) fun H10 e10 h10 => ?_
          rw [nz_take nd hi hp] at h10
          exact ⟨e10 ▸ sameP (p2.1.trans s9) hD2, h10⟩
        · exact ⟨p2.1.trans s9, by rw [nz_take0 hi hp]; exact s9 _ _ p2.2⟩
      · intro D2 H8 hD2 p2
        rw [List.take_length] at p2
        refine ⟨p2.1 _ _ h7, ?_⟩
        have n2 : D2 ≠ D := fun e => ne_of_none h7 hD2 e.symm
        refine q2 D2 _ ?_ ⟨by rw [upd_ne n2]; exact p2.2, nd_nz nd⟩
        intro b' o h
        have nb : b' ≠ D := ne_of_none h hDf
        have h6 := k6 _ _ (s1 _ _ h) nb nb
        rw [upd_ne nb]
        refine p2.1 _ _ ?_
        rw [e7, upd_ne nb]
        exact h6

theorem ok_Known__odds_turned (T : Txt K mg base) : FnOk P wd K mg base CX0 4 T.f_Known__odds_turned T.fd_Known__odds_turned ["self", "tally"] (spOddsK T.kc) := by
  refine T.F_Known__odds_turned.ok sc_Known__odds_turned (fun vs H Q E h => ?_) (fun cdv A outer s H vs Q E hr h => ?_)
  · obtain ⟨a, g, k, t, rfl, ⟨dx, rw, ls, st, wh, ct, fa, ha, hk⟩, hB, l0, l1, t0, t1, q⟩ := h
    rfl
  · have hu := hu_of hr
    obtain ⟨a, g, k, t, rfl, ⟨dx, rw, ls, st, wh, ct, fa, ha, hk⟩, hB, l0, l1, t0, t1, q⟩ := h
    refine ⟨_, (pss_cons (ps_if (pt_cmpR (Td.op_neT hr.units) (pe_ix (k_ix K rfl) (pe_fld (pv 0) (by rfl)) pe_int (fun _ _ => rfl)) (pe_call (ok_number_sum T) (hr.mono (by decide)) (by rfl) T.g_number_sum T.F_number_sum.kp T.b_number_sum .nil pass0 (pa_cons pe_int pa_nil)) (nomark _)) (pss_one (ps_ret pe_str)) pss_nil) (pss_cons (ps_set (i := 2) sc_Known__odds_turned.nd rfl (Or.inl rfl) (pe_call (ok_power T) (hr.mono (by decide)) (by rfl) T.g_power T.F_power.kp T.b_power .nil pass0 (pa_cons (pe_fld (pv 0) (by rfl)) (pa_cons (pe_fld (pv 0) (by rfl)) pa_nil)))) (pss_cons (ps_set (i := 3) sc_Known__odds_turned.nd rfl (Or.inl rfl) (pe_call (ok_root_of T) (hr.mono (by decide)) (by rfl) T.g_root_of T.F_root_of.kp T.b_root_of .nil pass0 (pa_cons (pe_op op_fdivW (pe_ix (k_ix K rfl) (pe_fld (pv 0) (by rfl)) pe_int (fun _ _ => rfl)) (pv 2)) pa_nil))) (pss_cons (ps_if (pt_cmpR (op_ge) (pe_op (k_add K rfl) (pe_op (k_mul K rfl) pe_int (pv 3)) pe_int) (pe_fld (pv 0) (by rfl)) (nomark _)) (pss_one (ps_ret pe_str)) pss_nil) (pss_cons (ps_set (i := 4) sc_Known__odds_turned.nd rfl (Or.inl rfl) (pe_meth (pv 0) T.k_Known T.M_Known__letter (ok_Known__letter T) (hr.mono (by decide)) T.b_Known__letter .nil pass0 (pa_cons (pv 3) pa_nil))) (pss_cons (ps_fld (pv 0) (pe_tup (pa_cons (pe_call (ok_plus T) (hr.mono (by decide)) (by rfl) T.g_plus T.F_plus.kp T.b_plus .nil pass0 (pa_cons (pe_call (ok_number_sum T) (hr.mono (by decide)) (by rfl) T.g_number_sum T.F_number_sum.kp T.b_number_sum .nil pass0 (pa_cons pe_int pa_nil)) (pa_cons pe_int (pa_cons (pe_ix (k_ix K rfl) (pv 4) pe_int (fun _ _ => rfl)) pa_nil)))) (pa_cons pe_int (pa_cons (pe_op (k_add K rfl) (pe_op (k_mul K rfl) pe_int (pv 3)) pe_int) pa_nil)))) rfl) (pss_cons (ps_expr (pe_meth (pv 0) T.k_Known T.M_Known__leave (ok_Known__leave T) (hr.mono (by decide)) T.b_Known__leave .nil pass0 (pa_cons (pe_call (ok_times T) (hr.mono (by decide)) (by rfl) T.g_times T.F_times.kp T.b_times .nil pass0 (pa_cons (pe_ix (k_ix K rfl) (pv 4) pe_int (fun _ _ => rfl)) (pa_cons (pe_ix (k_ix K rfl) (pv 4) pe_int (fun _ _ => rfl)) pa_nil))) (pa_cons (pv 2) pa_nil)))) (pss_one (ps_ret (pe_meth (pv 0) T.k_Known T.M_Known__counted (ok_Known__counted T) (hr.mono (by decide)) T.b_Known__counted .nil pass0 (pa_cons (pv 4) (pa_cons (pv 1) pa_nil)))))))))))), ?_⟩
    dsimp only [cxOf, L2.start, List.map_cons, List.map_nil, List.length_cons, List.length_nil, List.replicate, List.cons_append, List.nil_append, Nat.reduceAdd, Nat.reduceSub]
    have hg := hk.gr
    obtain ⟨dw, hwT, hwh, hwd⟩ := hk.wh.sq (K := K)
    obtain ⟨ds, hsT, hst, hsd⟩ := hk.st.sq (K := K)
    have hb0 := hB.base.1
    have hb1 := hB.base.2
    have p0 := hB.p0
    have p1 := hB.p1
    obtain ⟨w0, w1⟩ := pow16 hB.base p0 p1
    have q2 : ∀ r : Option Str × Kn, oddsK k t = r → Tells T.kc H a g r Q := fun r e => e ▸ q
    unfold oddsK at q2
    walk_at "rs"
    refine ⟨1, rfl, fun p1_ H1 s1 h1 => ?_⟩
    walk_at "rs"
    refine w_neT (.inl (hsd.same s1).1) (.inl h1.1) ?_
    have ha1 := s1 _ _ ha
    have hk1 := hk.same s1
    have hwT := SqT.tn s1.tn hwT
    walk_at "rs"
    refine w_iteB (fun c => ?_) (fun c => ?_)
    · walk_at "rs"
      exact q2 _ (if_neg (fun h => by rw [h.1] at c; cases c)) H1 (Kf.same ha hg s1) (KnH.mk ha1 hk1)
    walk_at "rs"
    refine ⟨k.base, k.place, rfl, by omega, by omega, p0, by omega, ?_⟩
    walk_at "rs"
    refine w_I (C := CDivW) (divB w0 (by omega)) ?_
    walk_at "rs"
    have d0 : 0 ≤ k.wh.hi / wo k := Int.ediv_nonneg l0 (Int.le_of_lt w0)
    have d1 : k.wh.hi / wo k ≤ k.wh.hi := Int.ediv_le_self _ l0
    refine ⟨_, rfl, d0, Int.lt_of_le_of_lt d1 l1, fun H2 s2 => ?_⟩
    have ha2 := s2 _ _ ha1
    have hk2 := hk1.same s2
    have ec : eqS k.set_.s (numS 1) = true := by simpa using c
    walk_at "rs"
    refine w_iteN2 (fun c2 => ?_) (fun c2 => ?_)
    · walk_at "rs"
      have c3 : k.sEnd ≤ 2 * oddsG k + 1 := c2
      exact q2 _ (if_neg (fun h => by omega)) H2 (Kf.same ha hg (s1.trans s2)) (KnH.mk ha2 hk2)
    have c3 : ¬ k.sEnd ≤ 2 * oddsG k + 1 := c2
    walk_at "rs"
    refine ⟨a, g, dx, _, k.gr, oddsG k, rfl, ha2, rfl, hk2.gr, hB.gr, fun p H3 k3 ha3 hg3 h3 => ?_⟩
    have ha3 : H3 a = some (.ins T.kc.C dx (knF { k with gr := k.gr ++ [oddsG k] } g rw ls st wh ct fa)) := ha3
    have hk3 := hk2.kf k3 hg3
    obtain ⟨dm, hpT, hpt, hpd⟩ := h3.sq (K := K)
    have s0 : (90000 : Nat) < sizeLine := by decide
    have el : (letS k.gr.length).length = 1 := rfl
    have en : (numS 1).length = 1 := rfl
    walk_at "rs"
    refine ⟨1, rfl, fun p4 H4 s4 h4 => ?_⟩
    have hpT := SqT.tn s4.tn hpT
    walk_at "rs"
    refine ⟨p4, dm, numS 1, _, 2, rfl, h4, hpd.same s4, ⟨by decide, by decide⟩, by
      show (numS 1).length + (letS k.gr.length).length < sizeLine
      omega, fun p5 H5 s5 h5 => ?_⟩
    walk_at "rs"
    refine w_new (by decide) fun b H6 hb6 s6 h6 => ?_
    have s36 := (s4.trans s5).trans s6
    have ha6 := s36 _ _ ha3
    have hk6 := hk3.same s36
    walk_at "rs"
    refine w_s9 ha6 fun H7 e7 ha7 => ?_
    obtain ⟨k7, ha7, hk7⟩ := set9 (m := ⟨plusS (numS 1) 2 (letS k.gr.length), 1, 2 * oddsG k + 1⟩) ha6 hk6 ⟨p5, h6, h5.same s6⟩ e7
    have h7 : AmH H7 p (letA k.gr.length (oddsG k)) := k7.am (h3.same s36)
    have hpt7 : H7 p = some (.tup [.ref dm, .int 0, .int (oddsG k)]) := k7.tup (s36 _ _ hpt)
    have hpd7 := k7.sd (hpd.same s36)
    have hpT := SqT.of (K := K) hpt7
    walk_at "rs"
    refine ⟨dm, dm, _, _, rfl, hpd7, hpd7, .inl (sh_let _), dg_let _, dg_let _, (show 1 * 1 < sizeLine by decide), fun y H8 s8 h8 => ?_⟩
    have ha8 := s8 _ _ ha7
    have hk8 := hk7.same s8
    have wl := hB.wl
    walk_at "rs"
    refine ⟨a, g, _, y, _, wo k, rfl, KnH.mk ha8 hk8, h8, w0, w1, by
      have l := len_times (letS k.gr.length) (letS k.gr.length)
      rw [el] at l
      show k.wh.s.length + (timesS (letS k.gr.length) (letS k.gr.length)).length < sizeLine
      omega, fun H9 k9 hk9 => ?_⟩
    have kf : Kf a g H H9 := ((((Kf.same ha hg (s1.trans s2)).trans k3).trans (Kf.same ha3 hk3.gr s36)).trans k7).trans ((Kf.same ha7 hk7.gr s8).trans k9)
    have h9 : AmH H9 p (letA k.gr.length (oddsG k)) := k9.am (h7.same s8)
    obtain ⟨dx, rw, ls, st, wh, ct, fa, ha9, hk9⟩ := hk9
    walk_at "rs"
    have cl := hB.cl
    exact ⟨a, g, _, p, _, t, rfl, KnH.mk ha9 hk9, h9, hB.base, p0, p1, t0, t1, cl, fun H4 k4 hk4 => q2 _ (if_pos ⟨ec, by omega⟩) H4 (kf.trans k4) hk4⟩

theorem ok_Known__row_of (T : Txt K mg base) : FnOk P wd K mg base CX0 2 T.f_Known__row_of T.fd_Known__row_of ["self", "name"] (spRowK T.kc) := by
  refine T.F_Known__row_of.ok sc_Known__row_of (fun vs H Q E h => ?_) (fun cdv A outer s H vs Q E hr h => ?_)
  · obtain ⟨a, g, k, n, ms, l0, rfl, ⟨dx, rw, ls, st, wh, ct, fa, ha, hk⟩, hb, hro, hlo, hz, hm1, q⟩ := h
    rfl
  · have hu := hu_of hr
    obtain ⟨a, g, k, n, ms, l0, rfl, ⟨dx, rw, ls, st, wh, ct, fa, ha, hk⟩, hb, hro, hlo, hz, hm1, q⟩ := h
    refine ⟨_, (pss_cons (ps_set (i := 2) sc_Known__row_of.nd rfl (Or.inl rfl) pe_dnewT) (pss_cons (ps_for PassesOwn.never rfl (pi_en K rfl (by rfl) T.n_enumerate (pa_cons (pe_dget hu (pe_fld (pv 0) (by rfl)) (pv 1) (fun _ _ => rfl)) pa_nil)) (pg_tup (n := 2) rfl (pgs_cons (pg_name (i := 3) sc_Known__row_of.nd rfl (Or.inl rfl)) (pgs_cons (pg_name (i := 4) sc_Known__row_of.nd rfl (Or.inl rfl)) pgs_nil))) (pss_one (ps_set (i := 2) sc_Known__row_of.nd rfl (Or.inl rfl) (pe_call (ok_plus T) (hr.mono (by decide)) (by rfl) T.g_plus T.F_plus.kp T.b_plus .nil pass0 (pa_cons (pv 2) (pa_cons (pe_call (ok_power T) (hr.mono (by decide)) (by rfl) T.g_power T.F_power.kp T.b_power .nil pass0 (pa_cons (pe_fld (pv 0) (by rfl)) (pa_cons (pv 3) pa_nil))) (pa_cons (pe_ix (k_ix K rfl) (pv 4) pe_int (fun _ _ => rfl)) pa_nil))))))) (pss_one (ps_ret (pe_tup (pa_cons (pv 2) (pa_cons (pe_dget hu (pe_fld (pv 0) (by rfl)) (pv 1) (fun _ _ => rfl)) (pa_cons (pe_op op_sub (pe_call (ok_power T) (hr.mono (by decide)) (by rfl) T.g_power T.F_power.kp T.b_power .nil pass0 (pa_cons (pe_fld (pv 0) (by rfl)) (pa_cons (pe_callB (k_len K rfl) (by rfl) T.n_len (by decide +kernel) (pa_cons (pe_dget hu (pe_fld (pv 0) (by rfl)) (pv 1) (fun _ _ => rfl)) pa_nil)) pa_nil))) pe_int) pa_nil)))))))), ?_⟩
    dsimp only [cxOf, L2.start, List.map_cons, List.map_nil, List.length_cons, List.length_nil, List.replicate, List.cons_append, List.nil_append, Nat.reduceAdd, Nat.reduceSub]
    have hg := hk.gr
    have hb0 := hb.1
    have hb1 := hb.2
    obtain ⟨kvs, hrw, hR⟩ := hk.rw_
    obtain ⟨l, xs, hv, nlg, hl2, hm⟩ := val_rwH hR hro
    have lx : xs.length = ms.length := Paired.length hm
    walk_at "rs"
    refine w_dnewT fun p H1 hp s1 h1 => ?_
    have ha1 := s1 _ _ ha
    walk_at "rs"
    refine w_dgetS (s1 _ _ hrw) hv ?_
    walk_at "rs"
    refine w_enL (SqL.of (s1 _ _ hl2)) ?_
    refine lp_enL (xs := xs) (fun i σ H' => ∃ p' u v, σ = [some (.ref a), some (.str n), some (.ref p'), u, v] ∧ Same H H' ∧ Sd H' p' ((ms.zipIdx.take i).foldl (rowF k.base) [])) ⟨_, _, _, rfl, s1, h1, List.nodup_nil⟩ ?_ ?_ ?_
    · rintro i σ H' _ ⟨p', u, v, _, s2, _⟩
      exact SqL.of (s2 _ _ hl2)
    · rintro i x σ H2 Tp H3 hi ⟨p', u, v, rfl, s2, h2⟩ hT s3 h3
      obtain ⟨m, hmi, z, rfl, d, hz1, hd1⟩ := L2.paired_get hm hi
      have s03 := s2.trans s3
      have hz3 : SqT K H3 z [.ref d, .int m.lo, .int m.hi] := SqT.of (s03 _ _ hz1)
      have ha3 := s03 _ _ ha
      have li := lt_of_get hmi
      have hpow : k.base ^ i ≤ 12 ^ 16 := My.pow_le12 (n := i) (N := 16) hb0 hb1 (by omega)
      have hpow0 : 0 < k.base ^ i := Int.pow_pos hb0
      walk_at "rs"
      refine ⟨k.base, i, rfl, by omega, by omega, by omega, by omega, ?_⟩
      rw [Int.toNat_natCast]
      have lr := len_row k.base (ms.zipIdx.take i) [] (fun p hp => hm1 _ (List.fst_mem_of_mem_zipIdx (List.mem_of_mem_take hp)))
      have lm := hm1 m (List.mem_of_getElem? hmi)
      have lt2 := take_le ms.zipIdx i
      rw [List.length_zipIdx] at lt2
      have sz : (100 : Nat) < sizeLine := by decide
      walk_at "rs"
      refine ⟨p', d, _, m.s, _, rfl, h2.same s3, hd1.same s03, ⟨by omega, by omega⟩, by
        have e0 : ([] : Sm).length = 0 := rfl
        omega, fun p2 H4 s4 h4 => ?_⟩
      walk_at "rs"
      refine ⟨_, _, _, rfl, s03.trans s4, ?_⟩
      rw [fold_take (rowF k.base) [] (show ms.zipIdx[i]? = some (m, i) by rw [List.getElem?_zipIdx, hmi]; simp)]
      exact h4
    · rintro σ H2 ⟨p', u, v, rfl, s2, h2⟩
      rw [lx, show ms.zipIdx.take ms.length = ms.zipIdx by rw [← List.length_zipIdx (l := ms) (i := 0), List.take_length]] at h2
      have ha2 := s2 _ _ ha
      have hls2 := s2 _ _ hk.ls
      have hrw2 := s2 _ _ hrw
      have hlst2 := s2 _ _ hl2
      walk_at "rs"
      refine w_dgetS hls2 (by rw [val_lsV, hlo]; rfl) ?_
      walk_at "rs"
      refine w_dgetS hrw2 hv ?_
      walk_at "rs"
      refine ⟨k.base, (xs.length : Nat), rfl, by omega, by omega, by omega, by omega, ?_⟩
      rw [Int.toNat_natCast, lx]
      walk_at "rs"
      refine w_new (by decide) fun b H3 hb3 s3 h3 => ?_
      walk_at "rs"
      exact q b H3 (s2.trans s3) ⟨p', h3, h2.same s3⟩

theorem ok_Known__rung (T : Txt K mg base) : FnOk P wd K mg base CX0 4 T.f_Known__rung T.fd_Known__rung ["self", "tally"] (spRungK T.kc) := by
  refine T.F_Known__rung.ok sc_Known__rung (fun vs H Q E h => ?_) (fun cdv A outer s H vs Q E hr h => ?_)
  · obtain ⟨a, g, k, t, rfl, ⟨dx, rw, ls, st, wh, ct, fa, ha, hk⟩, hB, l0, l1, t0, t1, q⟩ := h
    rfl
  · have hu := hu_of hr
    obtain ⟨a, g, k, t, rfl, ⟨dx, rw, ls, st, wh, ct, fa, ha, hk⟩, hB, l0, l1, t0, t1, q⟩ := h
    refine ⟨_, (pss_cons (ps_asg (pe_fld (pv 0) (by rfl)) (pg_tup (n := 3) rfl (pgs_cons (pg_name (i := 2) sc_Known__rung.nd rfl (Or.inl rfl)) (pgs_cons (pg_name (i := 3) sc_Known__rung.nd rfl (Or.inl rfl)) (pgs_cons (pg_name (i := 4) sc_Known__rung.nd rfl (Or.inl rfl)) pgs_nil))))) (pss_cons (ps_if (pt_cmpR (k_eq K rfl hr.units) (pv 3) pe_int (nomark _)) (pss_one (ps_ret pe_str)) pss_nil) (pss_cons (ps_set (i := 5) sc_Known__rung.nd rfl (Or.inl rfl) (pe_call (ok_power T) (hr.mono (by decide)) (by rfl) T.g_power T.F_power.kp T.b_power .nil pass0 (pa_cons (pe_fld (pv 0) (by rfl)) (pa_cons (pe_fld (pv 0) (by rfl)) pa_nil)))) (pss_cons (ps_set (i := 6) sc_Known__rung.nd rfl (Or.inl rfl) (pe_op op_fdivW (pe_ix (k_ix K rfl) (pe_fld (pv 0) (by rfl)) pe_int (fun _ _ => rfl)) (pe_op (k_mul K rfl) (pv 3) (pv 5)))) (pss_cons (ps_if (PW.pt (pw_and (pt_cmpR (k_notN) (pe_fld (pv 0) (by rfl)) pe_non (nomark _)) (pw_and (pt_cmpR (Td.op_eqT hr.units) (pe_ix (k_ix K rfl) (pe_fld (pv 0) (by rfl)) pe_int (fun _ _ => rfl)) (pv 2) (nomark _)) (pw_and1 (pt_cmpR (op_le) (pv 5) (pe_ix (k_ix K rfl) (pe_fld (pv 0) (by rfl)) pe_int (fun _ _ => rfl)) (nomark _)))))) (pss_one (ps_set (i := 6) sc_Known__rung.nd rfl (Or.inl rfl) (pe_callB (call_minQ rfl) (by rfl) T.n_min (by decide +kernel) (pa_cons (pv 6) (pa_cons (pe_op op_sub (pe_op op_fdivW (pe_ix (k_ix K rfl) (pe_fld (pv 0) (by rfl)) pe_int (fun _ _ => rfl)) (pv 5)) pe_int) pa_nil))))) pss_nil) (pss_cons (ps_set (i := 7) sc_Known__rung.nd rfl (Or.inl rfl) (pe_meth (pv 0) T.k_Known T.M_Known__letter (ok_Known__letter T) (hr.mono (by decide)) T.b_Known__letter .nil pass0 (pa_cons (pv 6) pa_nil))) (pss_cons (ps_expr (pe_meth (pv 0) T.k_Known T.M_Known__leave (ok_Known__leave T) (hr.mono (by decide)) T.b_Known__leave .nil pass0 (pa_cons (pe_call (ok_times T) (hr.mono (by decide)) (by rfl) T.g_times T.F_times.kp T.b_times .nil pass0 (pa_cons (pe_ix (k_ix K rfl) (pv 7) pe_int (fun _ _ => rfl)) (pa_cons (pv 2) pa_nil))) (pa_cons (pv 5) pa_nil)))) (pss_one (ps_ret (pe_meth (pv 0) T.k_Known T.M_Known__counted (ok_Known__counted T) (hr.mono (by decide)) T.b_Known__counted .nil pass0 (pa_cons (pv 7) (pa_cons (pv 1) pa_nil)))))))))))), ?_⟩
    dsimp only [cxOf, L2.start, List.map_cons, List.map_nil, List.length_cons, List.length_nil, List.replicate, List.cons_append, List.nil_append, Nat.reduceAdd, Nat.reduceSub]
    have hg := hk.gr
    obtain ⟨dw, hwT, hwh, hwd⟩ := hk.wh.sq (K := K)
    obtain ⟨ds, hsT, hst, hsd⟩ := hk.st.sq (K := K)
    have hb0 := hB.base.1
    have hb1 := hB.base.2
    have p0 := hB.p0
    have p1 := hB.p1
    obtain ⟨w0, w1⟩ := pow16 hB.base p0 p1
    have q2 : ∀ r : Option Str × Kn, rungK k t = r → Tells T.kc H a g r Q := fun r e => e ▸ q
    unfold rungK at q2
    walk_at "rs"
    refine w_iteN2 (fun c => ?_) (fun c => ?_)
    · walk_at "rs"
      exact q2 _ (if_pos c) H (Kf.same ha hg (Same.refl _)) (KnH.mk ha hk)
    walk_at "rs"
    refine ⟨k.base, k.place, rfl, by omega, by omega, p0, by omega, ?_⟩
    walk_at "rs"
    obtain ⟨m0, m1⟩ := mulB (show 0 < k.set_.lo by omega) l1 w0 w1
    refine w_I (C := CDivW) (divB m0 m1) ?_
    refine w_seqJ (σ' := [some (.ref a), some (.int t), some (.ref ds), some (.int k.set_.lo), some (.int k.set_.hi), some (.int (wo k)), some (.int (rungG k)), none]) (H' := H) (fun D' hn => ?_) ?_
    · rcases hk.fa.cases with ⟨rfl, ef⟩ | ⟨fad, dd, u, e, rfl, ef, hfa, hfd⟩
      · walk_at "rs"
        unfold rungG at hn
        rw [ef] at hn
        exact hn
      · have hfT : SqT K H fad [.ref dd, .int e] := SqT.of hfa
        unfold rungG at hn
        rw [ef] at hn
        dsimp only at hn
        walk_at "rs"
        refine w_eqT (.inl hfd.1) (.inl hsd.1) ?_
        walk_at "rs"
        refine w_iteB (fun c1 => ?_) (fun c1 => ?_)
        · walk_at "rs"
          refine w_iteN2 (fun c2 => ?_) (fun c2 => ?_)
          · walk_at "rs"
            refine w_I (C := CDivW) (divB w0 (by omega)) ?_
            walk_at "rs"
            rw [if_pos ⟨c1, c2⟩] at hn
            exact hn
          · walk_at "rs"
            rw [if_neg (fun h => c2 h.2)] at hn
            exact hn
        · walk_at "rs"
          rw [if_neg (fun h => by rw [c1] at h; exact Bool.false_ne_true h.1)] at hn
          exact hn
    walk_at "rs"
    refine ⟨a, g, dx, _, k.gr, rungG k, rfl, ha, rfl, hk.gr, hB.gr, fun p H1 k1 ha1 hg1 h1 => ?_⟩
    have ha1 : H1 a = some (.ins T.kc.C dx (knF { k with gr := k.gr ++ [rungG k] } g rw ls st wh ct fa)) := ha1
    have hk1 := hk.kf k1 hg1
    obtain ⟨dm, hpT, hpt, hpd⟩ := h1.sq (K := K)
    have hsd1 := k1.sd hsd
    have s0 : (90000 : Nat) < sizeLine := by decide
    have el : (letS k.gr.length).length = 1 := rfl
    have wl := hB.wl
    walk_at "rs"
    refine ⟨dm, ds, _, k.set_.s, rfl, hpd, hsd1, .inl (sh_let _), dg_let _, hB.dg, by
      show k.set_.s.length * 1 < sizeLine
      omega, fun y H2 s2 h2 => ?_⟩
    have ha2 := s2 _ _ ha1
    have hk2 := hk1.same s2
    walk_at "rs"
    refine ⟨a, g, _, y, _, wo k, rfl, KnH.mk ha2 hk2, h2, w0, w1, by
      have l := len_times (letS k.gr.length) k.set_.s
      rw [el] at l
      show k.wh.s.length + (timesS (letS k.gr.length) k.set_.s).length < sizeLine
      omega, fun H3 k3 hk3 => ?_⟩
    have kf03 : Kf a g H H3 := (k1.trans (Kf.same ha1 hk1.gr s2)).trans k3
    have h1' : AmH H3 p (letA k.gr.length (rungG k)) := k3.am (h1.same s2)
    have hkn3 := hk3
    obtain ⟨dx, rw, ls, st, wh, ct, fa, ha3, hk3⟩ := hk3
    walk_at "rs"
    have cl := hB.cl
    exact ⟨a, g, _, p, _, t, rfl, KnH.mk ha3 hk3, h1', hB.base, p0, p1, t0, t1, cl, fun H4 k4 hk4 => q2 _ (if_neg c) H4 (kf03.trans k4) hk4⟩

theorem ok_Known__shifted (T : Txt K mg base) : FnOk P wd K mg base CX0 1 T.f_Known__shifted T.fd_Known__shifted ["self", "by"] (spShiftK T.kc) := by
  refine T.F_Known__shifted.ok sc_Known__shifted (fun vs H Q E h => ?_) (fun cdv A outer s H vs Q E hr h => ?_)
  · obtain ⟨a, g, k, y, rfl, ⟨dx, rw, ls, st, wh, ct, fa, ha, hk⟩, q⟩ := h
    rfl
  · have hu := hu_of hr
    obtain ⟨a, g, k, y, rfl, ⟨dx, rw, ls, st, wh, ct, fa, ha, hk⟩, q⟩ := h
    refine ⟨_, (pss_cons (ps_fldaug (pv 0) (pv 1) in_add) (pss_one (ps_ret (pe_ifExp (pt_chain (op_le) (op_le) pe_int (pe_fld (pv 0) (by rfl)) (pe_fld (pv 0) (by rfl))) pe_non pe_str)))), ?_⟩
    dsimp only [cxOf, L2.start, List.map_cons, List.map_nil, List.length_cons, List.length_nil, List.replicate, List.cons_append, List.nil_append, Nat.reduceAdd, Nat.reduceSub]
    have hg := hk.gr
    walk_at "rs"
    refine w_aug12 rfl rfl ha fun H1 e1 ha1 => ?_
    have k1 : Kf a g H H1 := e1 ▸ Kf.setA ha hg
    have hk1 : KnP H1 g rw ls st wh ct fa { k with place := k.place + y } := by
      have h := hk.setA (o := .ins T.kc.C dx (knF { k with place := k.place + y } g rw ls st wh ct fa)) ha
      rw [← e1] at h
      exact ⟨h.gr, h.rw_, h.ls, h.st, h.wh, h.ct, h.fa⟩
    have q1 := q H1 k1 ⟨dx, rw, ls, st, wh, ct, fa, ha1, hk1⟩
    unfold shiftK at q1
    walk_at "rs"
    refine w_iteN2 (fun c1 => ?_) (fun c1 => ?_)
    · walk_at "rs"
      refine w_iteN2 (fun c2 => ?_) (fun c2 => ?_)
      · rw [if_pos ⟨c1, c2⟩] at q1
        walk_at "rs"
        exact q1
      · rw [if_neg (fun h => c2 h.2)] at q1
        walk_at "rs"
        exact q1
    · refine ⟨_, rfl, ?_⟩
      rw [if_neg (fun h => c1 h.1)] at q1
      walk_at "rs"
      exact q1

theorem ok_multiplied (T : Txt K mg base) : FnOk P wd K mg base CX0 2 T.f_multiplied T.fd_multiplied ["one", "other"] (spMulA K) := by
  refine T.F_multiplied.ok sc_multiplied (fun vs H Q E h => ?_) (fun cdv A outer s H vs Q E hr h => ?_)
  · obtain ⟨a, b, x, y, rfl, ⟨d, ha, hd⟩, ⟨e, hb, he⟩, hc, gx, gy, hz, c1, c2, q⟩ := h
    rfl
  · have hu := hu_of hr
    obtain ⟨a, b, x, y, rfl, ⟨d, ha, hd⟩, ⟨e, hb, he⟩, hc, gx, gy, hz, c1, c2, q⟩ := h
    refine ⟨_, (pss_one (ps_ret (pe_tup (pa_cons (pe_call (ok_times T) (hr.mono (by decide)) (by rfl) T.g_times T.F_times.kp T.b_times .nil pass0 (pa_cons (pe_ix (k_ix K rfl) (pv 0) pe_int (fun _ _ => rfl)) (pa_cons (pe_ix (k_ix K rfl) (pv 1) pe_int (fun _ _ => rfl)) pa_nil))) (pa_cons (pe_op (k_mul K rfl) (pe_ix (k_ix K rfl) (pv 0) pe_int (fun _ _ => rfl)) (pe_ix (k_ix K rfl) (pv 1) pe_int (fun _ _ => rfl))) (pa_cons (pe_op (k_mul K rfl) (pe_ix (k_ix K rfl) (pv 0) pe_int (fun _ _ => rfl)) (pe_ix (k_ix K rfl) (pv 1) pe_int (fun _ _ => rfl))) pa_nil)))))), ?_⟩
    dsimp only [cxOf, L2.start, List.map_cons, List.map_nil, List.length_cons, List.length_nil, List.replicate, List.cons_append, List.nil_append, Nat.reduceAdd, Nat.reduceSub]
    have hT : SqT K H a [.ref d, .int x.lo, .int x.hi] := SqT.of ha
    have hU : SqT K H b [.ref e, .int y.lo, .int y.hi] := SqT.of hb
    walk_at "rs"
    refine ⟨d, e, x.s, y.s, rfl, hd, he, hc, gx, gy, hz, fun p H1 s1 h1 => ?_⟩
    have hT := SqT.tn s1.tn hT
    have hU := SqT.tn s1.tn hU
    walk_at "rs"
    refine w_mulI c1 ?_
    walk_at "rs"
    refine w_mulI c2 ?_
    walk_at "rs"
    refine w_new (by decide) fun b H2 hb s2 h2 => ?_
    walk_at "rs"
    exact q b H2 (s1.trans s2) ⟨p, h2, h1.same s2⟩

theorem ok_Known__turned (T : Txt K mg base) : FnOk P wd K mg base CX0 4 T.f_Known__turned T.fd_Known__turned ["self", "many", "way", "tally"] (spTurnK T.kc) := by
  refine T.F_Known__turned.ok sc_Known__turned (fun vs H Q E h => ?_) (fun cdv A outer s H vs Q E hr h => ?_)
  · obtain ⟨a, g, k, p, m, w, t, rfl, ⟨dx, rw, ls, st, wh, ct, fa, ha, hk⟩, hp, hb, p0, p1, t0, t1, z0, z1, hz, hs, dm, ds, c1, c2, hl, q⟩ := h
    rfl
  · have hu := hu_of hr
    obtain ⟨a, g, k, p, m, w, t, rfl, ⟨dx, rw, ls, st, wh, ct, fa, ha, hk⟩, hp, hb, p0, p1, t0, t1, z0, z1, hz, hs, dm, ds, c1, c2, hl, q⟩ := h
    refine ⟨_, (pss_cons (ps_set (i := 4) sc_Known__turned.nd rfl (Or.inl rfl) (pe_call (ok_power T) (hr.mono (by decide)) (by rfl) T.g_power T.F_power.kp T.b_power .nil pass0 (pa_cons (pe_fld (pv 0) (by rfl)) (pa_cons (pe_fld (pv 0) (by rfl)) pa_nil)))) (pss_cons (ps_fld (pv 0) (pe_call (ok_with_more T) (hr.mono (by decide)) (by rfl) T.g_with_more T.F_with_more.kp T.b_with_more .nil pass0 (pa_cons (pe_fld (pv 0) (by rfl)) (pa_cons (pe_op (k_mul K rfl) (pv 2) (pv 4)) (pa_cons (pe_call (ok_multiplied T) (hr.mono (by decide)) (by rfl) T.g_multiplied T.F_multiplied.kp T.b_multiplied .nil pass0 (pa_cons (pv 1) (pa_cons (pe_fld (pv 0) (by rfl)) pa_nil))) pa_nil)))) rfl) (pss_cons (ps_fld (pv 0) pe_non rfl) (pss_cons (ps_if (pt_not (pt_val (pe_call (ok_fits T) (hr.mono (by decide)) (by rfl) T.g_fits T.F_fits.kp T.b_fits .nil pass0 (pa_cons (pe_fld (pv 0) (by rfl)) (pa_cons (pe_fld (pv 0) (by rfl)) pa_nil))))) (pss_one (ps_ret pe_str)) pss_nil) (pss_one (ps_ret (pe_meth (pv 0) T.k_Known T.M_Known__counted (ok_Known__counted T) (hr.mono (by decide)) T.b_Known__counted .nil pass0 (pa_cons (pv 1) (pa_cons (pv 3) pa_nil))))))))), ?_⟩
    dsimp only [cxOf, L2.start, List.map_cons, List.map_nil, List.length_cons, List.length_nil, List.replicate, List.cons_append, List.nil_append, Nat.reduceAdd, Nat.reduceSub]
    have hg := hk.gr
    have hb0 := hb.1
    have hb1 := hb.2
    obtain ⟨w0, w1⟩ := pow16 hb p0 p1
    walk_at "rs"
    refine ⟨k.base, k.place, rfl, by omega, by omega, p0, by omega, ?_⟩
    walk_at "rs"
    refine ⟨p, st, m, k.set_, rfl, hp, hk.st, hs, dm, ds, by omega, c1, c2, fun y H1 s1 h1 => ?_⟩
    have ha1 := s1 _ _ ha
    have hk1 := hk.same s1
    have n64 := way64 z0 z1 w0 w1
    walk_at "rs"
    refine ⟨wh, y, k.wh, _, _, rfl, hk1.wh, h1, n64, by
      have l := len_times m.s k.set_.s
      show k.wh.s.length + (timesS m.s k.set_.s).length < sizeLine
      omega, fun z H2 s2 h2 => ?_⟩
    have ha2 := s2 _ _ ha1
    have hk2 := hk1.same s2
    walk_at "rs"
    refine w_s10 ha2 fun H3 e3 ha3 => ?_
    obtain ⟨k3, ha3, hk3⟩ := set10 ha2 hk2 h2 e3
    walk_at "rs"
    refine w_s13 ha3 fun H4 e4 ha4 => ?_
    obtain ⟨k4, ha4, hk4⟩ := set13 (f := none) ha3 hk3 rfl e4
    have k04 : Kf a g H H4 := ((Kf.same ha hg (s1.trans s2)).trans k3).trans k4
    have q2 : ∀ r : Option Str × Kn, turnK k m w t = r → Tells T.kc H a g r Q := fun r e => e ▸ q
    unfold turnK at q2
    walk_at "rs"
    refine ⟨z, _, k.wEnd, rfl, hk4.wh, ?_⟩
    walk_at "rs"
    refine w_iteB (fun c => ?_) (fun c => ?_)
    · walk_at "rs"
      have c' : ¬ (fitsA (whM k m w) k.wEnd) = true := by
        intro e
        rw [show (!fitsA (moreA k.wh (w * k.base ^ k.place.toNat) (mulA m k.set_)) k.wEnd) = !fitsA (whM k m w) k.wEnd from rfl, e] at c
        cases c
      exact q2 _ (if_neg c') H4 k04 (KnH.mk ha4 hk4)
    · walk_at "rs"
      have c' : (fitsA (whM k m w) k.wEnd) = true := by
        rw [show (!fitsA (moreA k.wh (w * k.base ^ k.place.toNat) (mulA m k.set_)) k.wEnd) = !fitsA (whM k m w) k.wEnd from rfl] at c
        simpa using c
      exact ⟨a, g, _, p, m, t, rfl, KnH.mk ha4 hk4, k04.am hp, hb, p0, p1, t0, t1, hz, fun H5 k5 h5 => q2 _ (if_pos c') H5 (k04.trans k5) h5⟩

theorem ok_number_amount (T : Txt K mg base) : FnOk P wd K mg base CX0 2 T.f_number_amount T.fd_number_amount ["number"] (spNumA K) := by
  refine T.F_number_amount.ok sc_number_amount (fun vs H Q E h => ?_) (fun cdv A outer s H vs Q E hr h => ?_)
  · obtain ⟨n, rfl, q⟩ := h
    rfl
  · have hu := hu_of hr
    obtain ⟨n, rfl, q⟩ := h
    refine ⟨_, (pss_one (ps_ret (pe_tup (pa_cons (pe_call (ok_number_sum T) (hr.mono (by decide)) (by rfl) T.g_number_sum T.F_number_sum.kp T.b_number_sum .nil pass0 (pa_cons (pv 0) pa_nil)) (pa_cons (pv 0) (pa_cons (pv 0) pa_nil)))))), ?_⟩
    dsimp only [cxOf, L2.start, List.map_cons, List.map_nil, List.length_cons, List.length_nil, List.replicate, List.cons_append, List.nil_append, Nat.reduceAdd, Nat.reduceSub]
    walk_at "rs"
    refine ⟨n, rfl, fun p H1 s1 h1 => ?_⟩
    walk_at "rs"
    refine w_new (by decide) fun b H2 hb s2 h2 => ?_
    walk_at "rs"
    exact q b H2 (s1.trans s2) ⟨p, h2, h1.same s2⟩

theorem ok_Known__wiped (T : Txt K mg base) : FnOk P wd K mg base CX0 3 T.f_Known__wiped T.fd_Known__wiped ["self", "word"] (spWipeK T.kc) := by
  refine T.F_Known__wiped.ok sc_Known__wiped (fun vs H Q E h => ?_) (fun cdv A outer s H vs Q E hr h => ?_)
  · obtain ⟨a, g, k, w, rfl, ⟨dx, rw, ls, st, wh, ct, fa, ha, hk⟩, q⟩ := h
    rfl
  · have hu := hu_of hr
    obtain ⟨a, g, k, w, rfl, ⟨dx, rw, ls, st, wh, ct, fa, ha, hk⟩, q⟩ := h
    refine ⟨_, (pss_cons (ps_if (pt_cmpR (k_eq K rfl hr.units) (pv 1) pe_str (nomark _)) (pss_cons (ps_fld (pv 0) (pe_call (ok_number_amount T) (hr.mono (by decide)) (by rfl) T.g_number_amount T.F_number_amount.kp T.b_number_amount .nil pass0 (pa_cons pe_int pa_nil)) rfl) (pss_one (ps_fld (pv 0) pe_non rfl))) (pss_one (ps_fld (pv 0) (pe_call (ok_number_amount T) (hr.mono (by decide)) (by rfl) T.g_number_amount T.F_number_amount.kp T.b_number_amount .nil pass0 (pa_cons pe_int pa_nil)) rfl))) (pss_one (ps_ret pe_non))), ?_⟩
    dsimp only [cxOf, L2.start, List.map_cons, List.map_nil, List.length_cons, List.length_nil, List.replicate, List.cons_append, List.nil_append, Nat.reduceAdd, Nat.reduceSub]
    have hg := hk.gr
    walk_at "rs"
    refine w_iteN2 (fun c => ?_) (fun c => ?_)
    all_goals
      walk_at "rs"
      refine ⟨0, rfl, fun p H1 s1 h1 => ?_⟩
      have ha1 := s1 _ _ ha
      have hk1 := hk.same s1
      walk_at "rs"
    · refine w_s10 ha1 fun H2 e2 ha2 => ?_
      walk_at "rs"
      refine w_s13 ha2 fun H3 e3 ha3 => ?_
      walk_at "rs"
      have k3 : Kf a g H H3 := ((Kf.same ha hg s1).trans (e2 ▸ Kf.setA ha1 hk1.gr)).trans (e3 ▸ Kf.setA ha2 (by have h := hk1.setA (o := .ins T.kc.C dx (knF k g rw ls st p ct fa)) ha1; rw [← e2] at h; exact h.gr))
      have h3 : AmH H3 p (numA 0) := ((e2 ▸ Kf.setA ha1 hk1.gr : Kf a g H1 H2).trans (e3 ▸ Kf.setA ha2 (by have h := hk1.setA (o := .ins T.kc.C dx (knF k g rw ls st p ct fa)) ha1; rw [← e2] at h; exact h.gr))).am h1
      have hk3 : KnP H3 g rw ls st wh ct fa k := by
        have h := hk1.setA (o := .ins T.kc.C dx (knF k g rw ls st p ct fa)) ha1
        rw [← e2] at h
        have h := h.setA (o := .ins T.kc.C dx (knF k g rw ls st p ct .non)) ha2
        rw [← e3] at h
        exact h
      refine q H3 k3 ⟨dx, rw, ls, st, p, ct, .non, ?_, ?_⟩
      · rw [ha3]
        unfold wipeK
        rw [if_pos c]
        rfl
      · unfold wipeK
        rw [if_pos c]
        exact ⟨hk3.gr, hk3.rw_, hk3.ls, hk3.st, h3, hk3.ct, rfl⟩
    · refine w_s11 ha1 fun H2 e2 ha2 => ?_
      walk_at "rs"
      have k2 : Kf a g H1 H2 := e2 ▸ Kf.setA ha1 hk1.gr
      have hk2 : KnP H2 g rw ls st wh ct fa k := by
        have h := hk1.setA (o := .ins T.kc.C dx (knF k g rw ls st wh p fa)) ha1
        rw [← e2] at h
        exact h
      refine q H2 ((Kf.same ha hg s1).trans k2) ⟨dx, rw, ls, st, wh, p, fa, ?_, ?_⟩
      · rw [ha2]
        unfold wipeK
        rw [if_neg c]
        rfl
      · unfold wipeK
        rw [if_neg c]
        exact ⟨hk2.gr, hk2.rw_, hk2.ls, hk2.st, hk2.wh, k2.am h1, hk2.fa⟩

theorem ok_Known__did (T : Txt K mg base) : FnOk P wd K mg base CX0 5 T.f_Known__did T.fd_Known__did ["self", "deed"] (spDid T.kc) := by
  refine T.F_Known__did.ok sc_Known__did (fun vs H Q E h => ?_) (fun cdv A outer s H vs Q E hr h => ?_)
  · obtain ⟨a, g, k, d, dd, rfl, ⟨dx, rw, ls, st, wh, ct, fa, ha, hk⟩, hd, hB, ok, q⟩ := h
    rfl
  · have hu := hu_of hr
    obtain ⟨a, g, k, d, dd, rfl, ⟨dx, rw, ls, st, wh, ct, fa, ha, hk⟩, hd, hB, ok, q⟩ := h
    refine ⟨_, (pss_cons (ps_matchQ (pv 1) (pm_case K rfl (is := [2]) rfl sc_Known__did.nd (.cons .nil) (.cons rfl (Or.inl rfl) (.inr rfl) .nil) (pss_cons (ps_fld (pv 0) (pe_meth (pv 0) T.k_Known T.M_Known__row_of (ok_Known__row_of T) (hr.mono (by decide)) T.b_Known__row_of .nil pass0 (pa_cons (pv 2) pa_nil)) rfl) (pss_one (ps_ret pe_non))) (pm_case K rfl (is := []) rfl sc_Known__did.nd .nil .nil (pss_cons (ps_fld (pv 0) (pe_call (ok_number_amount T) (hr.mono (by decide)) (by rfl) T.g_number_amount T.F_number_amount.kp T.b_number_amount .nil pass0 (pa_cons pe_int pa_nil)) rfl) (pss_one (ps_ret pe_non))) (pm_case K rfl (is := [3]) rfl sc_Known__did.nd (.cons .nil) (.cons rfl (Or.inl rfl) (.inr rfl) .nil) (pss_one (ps_ret (pe_meth (pv 0) T.k_Known T.M_Known__shifted (ok_Known__shifted T) (hr.mono (by decide)) T.b_Known__shifted .nil pass0 (pa_cons (pv 3) pa_nil)))) (pm_case K rfl (is := [4, 5]) rfl sc_Known__did.nd (.cons (.cons .nil)) (.cons rfl (Or.inl rfl) (.inr rfl) (.cons rfl (Or.inl rfl) (.inr rfl) .nil)) (pss_one (ps_ret (pe_meth (pv 0) T.k_Known T.M_Known__turned (ok_Known__turned T) (hr.mono (by decide)) T.b_Known__turned .nil pass0 (pa_cons (pe_call (ok_number_amount T) (hr.mono (by decide)) (by rfl) T.g_number_amount T.F_number_amount.kp T.b_number_amount .nil pass0 (pa_cons pe_int pa_nil)) (pa_cons (pv 4) (pa_cons (pv 5) pa_nil)))))) (pm_case K rfl (is := [2, 6, 4, 5]) rfl sc_Known__did.nd (.cons (.cons (.cons (.cons .nil)))) (.cons rfl (Or.inl rfl) (.inr rfl) (.cons rfl (Or.inl rfl) (.inr rfl) (.cons rfl (Or.inl rfl) (.inr rfl) (.cons rfl (Or.inl rfl) (.inr rfl) .nil)))) (pss_one (ps_ret (pe_meth (pv 0) T.k_Known T.M_Known__turned (ok_Known__turned T) (hr.mono (by decide)) T.b_Known__turned .nil pass0 (pa_cons (pe_ix (k_ix K rfl) (pe_dget hu (pe_fld (pv 0) (by rfl)) (pv 2) (fun _ _ => rfl)) (pv 6) (fun _ _ => rfl)) (pa_cons (pv 4) (pa_cons (pv 5) pa_nil)))))) (pm_case K rfl (is := [5]) rfl sc_Known__did.nd (.cons .nil) (.cons rfl (Or.inl rfl) (.inr rfl) .nil) (pss_one (ps_ret (pe_meth (pv 0) T.k_Known T.M_Known__rung (ok_Known__rung T) (hr.mono (by decide)) T.b_Known__rung .nil pass0 (pa_cons (pv 5) pa_nil)))) (pm_case K rfl (is := [5]) rfl sc_Known__did.nd (.cons .nil) (.cons rfl (Or.inl rfl) (.inr rfl) .nil) (pss_one (ps_ret (pe_meth (pv 0) T.k_Known T.M_Known__odds_turned (ok_Known__odds_turned T) (hr.mono (by decide)) T.b_Known__odds_turned .nil pass0 (pa_cons (pv 5) pa_nil)))) pm_nil rfl) rfl) rfl) rfl) rfl) rfl) rfl)) (pss_one (ps_ret (pe_meth (pv 0) T.k_Known T.M_Known__wiped (ok_Known__wiped T) (hr.mono (by decide)) T.b_Known__wiped .nil pass0 (pa_cons (pe_ix (k_ix K rfl) (pv 1) pe_int (fun _ _ => rfl)) pa_nil))))), ?_⟩
    dsimp only [cxOf, L2.start, List.map_cons, List.map_nil, List.length_cons, List.length_nil, List.replicate, List.cons_append, List.nil_append, Nat.reduceAdd, Nat.reduceSub]
    have hg := hk.gr
    have hd : SqT K H d dd.vs := hd
    obtain ⟨kvs, hrw, hR⟩ := hk.rw_
    walk_at "rs"
    have nx : ∀ {k : Str} {z : Str} {ys : List V} {is : List Nat} {tb : TS} {tr : V → TS} {D : Ends} {σ : St}, SqT K H d (.str z :: ys) → ys.length ≤ 1000 → z ≠ k → tr (.ref d) D σ H → tCase K k is tb tr (.ref d) D σ H := fun h1 h2 h3 h4 => w_caseN h1 (fun e => h3 e.1) h2 h4
    have wl := hB.wl
    have cl := hB.cl
    have s0 : (90000 : Nat) < sizeLine := by decide
    cases dd with
    | load n =>
      refine w_caseY hd rfl (by simp) ?_
      dsimp only [setAll]
      walk_at "rs"
      obtain ⟨ms, l0, e1, e2, e3, e4⟩ := ok
      refine ⟨a, g, k, n, ms, l0, rfl, KnH.mk ha hk, hB.base, e1, e2, e3, e4, fun p H1 s1 h1 => ?_⟩
      have ha1 := s1 _ _ ha
      have hk1 := hk.same s1
      walk_at "rs"
      refine w_s9 ha1 fun H2 x2 ha2 => ?_
      obtain ⟨k2, ha2, hk2⟩ := set9 ha1 hk1 h1 x2
      walk_at "rs"
      refine q H2 ((Kf.same ha hg s1).trans k2) ?_
      simp only [didK, e1, e2]
      exact KnH.mk ha2 hk2
    | one =>
      refine nx hd (by simp) (by decide +kernel) ?_
      refine w_caseY hd rfl (by simp) ?_
      dsimp only [setAll]
      walk_at "rs"
      refine ⟨1, rfl, fun p H1 s1 h1 => ?_⟩
      have ha1 := s1 _ _ ha
      have hk1 := hk.same s1
      walk_at "rs"
      refine w_s9 ha1 fun H2 x2 ha2 => ?_
      obtain ⟨k2, ha2, hk2⟩ := set9 ha1 hk1 h1 x2
      walk_at "rs"
      exact q H2 ((Kf.same ha hg s1).trans k2) (KnH.mk ha2 hk2)
    | shift y =>
      refine nx hd (by simp) (by decide +kernel) ?_
      refine nx hd (by simp) (by decide +kernel) ?_
      refine w_caseY hd rfl (by simp) ?_
      dsimp only [setAll]
      walk_at "rs"
      exact ⟨a, g, k, y, rfl, KnH.mk ha hk, q⟩
    | turn x y =>
      refine nx hd (by simp) (by decide +kernel) ?_
      refine nx hd (by simp) (by decide +kernel) ?_
      refine nx hd (by simp) (by decide +kernel) ?_
      refine w_caseY hd rfl (by simp) ?_
      dsimp only [setAll]
      walk_at "rs"
      refine ⟨1, rfl, fun p H1 s1 h1 => ?_⟩
      have ha1 := s1 _ _ ha
      have hk1 := hk.same s1
      obtain ⟨o1, o2, o3, o4⟩ := ok
      walk_at "rs"
      exact ⟨a, g, k, p, numA 1, x, y, rfl, KnH.mk ha1 hk1, h1, hB.base, hB.p0, hB.p1, o3, o4, o1, o2, by
        show k.ct.s.length + 1 < sizeLine
        omega, .inl sh_num1, dg_num1, hB.dg, .inl ⟨(by decide : (-(2 ^ 64) : Int) < 1), (by decide : (1 : Int) < 2 ^ 64)⟩, .inl ⟨(by decide : (-(2 ^ 64) : Int) < 1), (by decide : (1 : Int) < 2 ^ 64)⟩, by
        show k.wh.s.length + k.set_.s.length * 1 < sizeLine
        omega, fun H2 k2 hk2 => q H2 ((Kf.same ha hg s1).trans k2) hk2⟩
    | turns n j x y =>
      refine nx hd (by simp) (by decide +kernel) ?_
      refine nx hd (by simp) (by decide +kernel) ?_
      refine nx hd (by simp) (by decide +kernel) ?_
      refine nx hd (by simp) (by decide +kernel) ?_
      refine w_caseY hd rfl (by simp) ?_
      dsimp only [setAll]
      walk_at "rs"
      obtain ⟨ms, m, e1, e2, e3, e4, e5, e6, e7, e8, o1, o2, o3, o4⟩ := ok
      obtain ⟨l, xs, hv, nlg, hl2, hm⟩ := val_rwH hR e1
      obtain ⟨z, hz, p, rfl, hp⟩ := My.paired_get hm e3
      obtain ⟨jj, rfl⟩ : ∃ jj : Nat, j = jj := ⟨j.toNat, by omega⟩
      rw [Int.toNat_natCast] at hz e3
      refine w_dgetS hrw hv ?_
      walk_at "rs"
      have lz := lt_of_get hz
      refine w_ixL (SqL.of hl2) (v := .ref p) (by
        unfold atI ixN
        rw [if_pos (by omega), if_pos (by omega)]
        simp [hz]) ?_
      walk_at "rs"
      have hmul : k.set_.s.length * m.s.length ≤ k.set_.s.length * 1 := Nat.mul_le_mul_left _ e4
      have eq : didK k (.turns n (jj : Int) x y) = turnK k m x y := by
        simp only [didK, e1, Option.bind, Int.toNat_natCast, e3]
      rw [eq] at q
      exact ⟨a, g, k, p, m, x, y, rfl, KnH.mk ha hk, hp, hB.base, hB.p0, hB.p1, o3, o4, o1, o2, by omega, .inl e5, e6, hB.dg, .inl e7, .inl e8, by omega, fun H2 k2 hk2 => q H2 k2 hk2⟩
    | bell y =>
      refine nx hd (by simp) (by decide +kernel) ?_
      refine nx hd (by simp) (by decide +kernel) ?_
      refine nx hd (by simp) (by decide +kernel) ?_
      refine nx hd (by simp) (by decide +kernel) ?_
      refine nx hd (by simp) (by decide +kernel) ?_
      refine w_caseY hd rfl (by simp) ?_
      dsimp only [setAll]
      walk_at "rs"
      obtain ⟨o1, o2, o3, o4⟩ := ok
      exact ⟨a, g, k, y, rfl, KnH.mk ha hk, hB, o1, o2, o3, o4, q⟩
    | odds y =>
      refine nx hd (by simp) (by decide +kernel) ?_
      refine nx hd (by simp) (by decide +kernel) ?_
      refine nx hd (by simp) (by decide +kernel) ?_
      refine nx hd (by simp) (by decide +kernel) ?_
      refine nx hd (by simp) (by decide +kernel) ?_
      refine nx hd (by simp) (by decide +kernel) ?_
      refine w_caseY hd rfl (by simp) ?_
      dsimp only [setAll]
      walk_at "rs"
      obtain ⟨o1, o2, o3, o4⟩ := ok
      exact ⟨a, g, k, y, rfl, KnH.mk ha hk, hB, o1, o2, o3, o4, q⟩
    | wipe cc =>
      refine nx hd (by simp) (by decide +kernel) ?_
      refine nx hd (by simp) (by decide +kernel) ?_
      refine nx hd (by simp) (by decide +kernel) ?_
      refine nx hd (by simp) (by decide +kernel) ?_
      refine nx hd (by simp) (by decide +kernel) ?_
      refine nx hd (by simp) (by decide +kernel) ?_
      refine nx hd (by simp) (by decide +kernel) ?_
      walk_at "rs"
      exact ⟨a, g, k, My.wipeW cc, rfl, KnH.mk ha hk, q⟩

theorem ok_need_machine (T : Txt K mg base) : FnOk P wd K mg base CX0 1 T.f_need_machine T.fd_need_machine ["machine"] (spNeed K) := by
  refine T.F_need_machine.ok sc_need_machine (fun vs H Q E h => ?_) (fun cdv A outer s H vs Q E hr h => ?_)
  · obtain ⟨m, b, s, w, c, rfl, hS, ⟨b0, b1, s0, s1, w0, w1, c0, c1⟩, q⟩ := h
    rfl
  · have hu := hu_of hr
    obtain ⟨m, b, s, w, c, rfl, hS, ⟨b0, b1, s0, s1, w0, w1, c0, c1⟩, q⟩ := h
    refine ⟨_, (pss_cons (ps_if (pt_cmpR (k_ne K rfl hr.units) (pe_callB (k_len K rfl) (by rfl) T.n_len (by decide +kernel) (pa_cons (pv 0) pa_nil)) pe_int (nomark _)) (pss_one ps_never) pss_nil) (pss_cons (ps_asg (pv 0) (pg_tup (n := 4) rfl (pgs_cons (pg_name (i := 1) sc_need_machine.nd rfl (Or.inl rfl)) (pgs_cons (pg_name (i := 2) sc_need_machine.nd rfl (Or.inl rfl)) (pgs_cons (pg_name (i := 3) sc_need_machine.nd rfl (Or.inl rfl)) (pgs_cons (pg_name (i := 4) sc_need_machine.nd rfl (Or.inl rfl)) pgs_nil)))))) (pss_cons (ps_if (pt_not (pt_chain (op_le) (op_le) (pe_glob (v := .int 2) (by rfl) T.c_LEAST_BASE ⟨_, rfl⟩) (pv 1) (pe_glob (v := .int 12) (by rfl) T.c_MOST_BASE ⟨_, rfl⟩))) (pss_one ps_never) pss_nil) (pss_cons (ps_if (pt_not (pt_chain (op_le) (op_le) pe_int (pv 2) (pe_glob (v := .int 6) (by rfl) T.c_MOST_SLIDES ⟨_, rfl⟩))) (pss_one ps_never) pss_nil) (pss_cons (ps_if (pt_not (pt_chain (op_le) (op_le) (pv 2) (pv 3) (pe_glob (v := .int 16) (by rfl) T.c_MOST_WHEELS ⟨_, rfl⟩))) (pss_one ps_never) pss_nil) (pss_one (ps_if (pt_not (pt_chain (op_le) (op_le) pe_int (pv 4) (pe_glob (v := .int 10) (by rfl) T.c_MOST_COUNTERS ⟨_, rfl⟩))) (pss_one ps_never) pss_nil))))))), ?_⟩
    dsimp only [cxOf, L2.start, List.map_cons, List.map_nil, List.length_cons, List.length_nil, List.replicate, List.cons_append, List.nil_append, Nat.reduceAdd, Nat.reduceSub]
    unfold MachAt at hS
    walk_at "rs"
    exact q

theorem ok_top (T : Txt K mg base) : FnOk P wd K mg base CX0 2 T.f_top T.fd_top ["machine"] (spTop K) := by
  refine T.F_top.ok sc_top (fun vs H Q E h => ?_) (fun cdv A outer s H vs Q E hr h => ?_)
  · obtain ⟨m, b, s, w, c, rfl, hM, hm, q⟩ := h
    rfl
  · have hu := hu_of hr
    obtain ⟨m, b, s, w, c, rfl, hM, hm, q⟩ := h
    refine ⟨_, (pss_cons (ps_expr (pe_call (ok_need_machine T) (hr.mono (by decide)) (by rfl) T.g_need_machine T.F_need_machine.kp T.b_need_machine .nil pass0 (pa_cons (pv 0) pa_nil))) (pss_cons (ps_asg (pv 0) (pg_tup (n := 4) rfl (pgs_cons (pg_name (i := 1) sc_top.nd rfl (Or.inl rfl)) (pgs_cons (pg_name (i := 2) sc_top.nd rfl (Or.inl rfl)) (pgs_cons (pg_name (i := 3) sc_top.nd rfl (Or.inl rfl)) (pgs_cons (pg_name (i := 4) sc_top.nd rfl (Or.inl rfl)) pgs_nil)))))) (pss_one (ps_ret (pe_callB (call_minQ rfl) (by rfl) T.n_min (by decide +kernel) (pa_cons (pe_op op_sub (pv 3) (pv 2)) (pa_cons (pe_op op_sub (pv 4) pe_int) pa_nil))))))), ?_⟩
    dsimp only [cxOf, L2.start, List.map_cons, List.map_nil, List.length_cons, List.length_nil, List.replicate, List.cons_append, List.nil_append, Nat.reduceAdd, Nat.reduceSub]
    walk_at "rs"
    refine ⟨m, b, s, w, c, rfl, hM, hm, ?_⟩
    unfold MachAt at hM
    walk_at "rs"
    exact q

theorem ok_Known__init (T : Txt K mg base) : FnOk P wd K mg base CX0 3 T.f_Known__init T.fd_Known__init ["self", "machine", "inputs"] (spInitK T.kc) := by
  refine T.F_Known__init.ok sc_Known__init (fun vs H Q E h => ?_) (fun cdv A outer s H vs Q E hr h => ?_)
  · obtain ⟨a, m, x, dx, b, s, w, c, xs, ins, rfl, ha, hM, hm, hX, hI, hi, q⟩ := h
    rfl
  · have hu := hu_of hr
    obtain ⟨a, m, x, dx, b, s, w, c, xs, ins, rfl, ha, hM, hm, hX, hI, hi, q⟩ := h
    refine ⟨_, (pss_cons (ps_asg (pv 1) (pg_tup (n := 4) rfl (pgs_cons (pg_name (i := 3) sc_Known__init.nd rfl (Or.inr rfl)) (pgs_cons (pg_name (i := 4) sc_Known__init.nd rfl (Or.inl rfl)) (pgs_cons (pg_name (i := 5) sc_Known__init.nd rfl (Or.inl rfl)) (pgs_cons (pg_name (i := 6) sc_Known__init.nd rfl (Or.inl rfl)) pgs_nil)))))) (pss_cons (ps_fld (pv 0) (pv 3) rfl) (pss_cons (ps_fld (pv 0) (pe_call (ok_top T) (hr.mono (by decide)) (by rfl) T.g_top T.F_top.kp T.b_top .nil pass0 (pa_cons (pv 1) pa_nil)) rfl) (pss_cons (ps_fld (pv 0) (pe_call (ok_power T) (hr.mono (by decide)) (by rfl) T.g_power T.F_power.kp T.b_power .nil pass0 (pa_cons (pv 3) (pa_cons (pv 4) pa_nil))) rfl) (pss_cons (ps_fld (pv 0) (pe_call (ok_power T) (hr.mono (by decide)) (by rfl) T.g_power T.F_power.kp T.b_power .nil pass0 (pa_cons (pv 3) (pa_cons (pv 5) pa_nil))) rfl) (pss_cons (ps_fld (pv 0) (pe_call (ok_power T) (hr.mono (by decide)) (by rfl) T.g_power T.F_power.kp T.b_power .nil pass0 (pa_cons (pv 3) (pa_cons (pv 6) pa_nil))) rfl) (pss_cons (ps_fld (pv 0) (pe_lst pa_nil) rfl) (pss_cons (ps_fld (pv 0) pe_dnewK rfl) (pss_cons (ps_fld (pv 0) pe_dnewK rfl) (pss_cons (ps_for PassesOwn.never rfl (k_U K rfl (pv 2)) (pg_tup (n := 3) rfl (pgs_cons (pg_name (i := 7) sc_Known__init.nd rfl (Or.inl rfl)) (pgs_cons (pg_name (i := 8) sc_Known__init.nd rfl (Or.inl rfl)) (pgs_cons (pg_name (i := 9) sc_Known__init.nd rfl (Or.inl rfl)) pgs_nil)))) (pss_cons (ps_dput hu (pe_fld (pv 0) (by rfl)) (pv 7) (pe_lc (own := [("k", 10)]) rfl sc_Known__init.nd (pi_range1 rfl T.n_range (pa_cons (pv 8) pa_nil)) (blkOk_by (own := [("k", 10)]) (N := ["self", "machine", "inputs", "base", "slides", "wheels", "counters", "name", "many", "least", "k"]) (sc := defScope s_Known__init) (by decide +kernel)) (fun _ _ _ _ _ => (pg_name (i := 10) sc_Known__init.nd rfl (Or.inl rfl))) (fun _ _ _ _ _ => pts_nil) (fun _ _ _ _ _ => (pe_meth (pv 0) T.k_Known T.M_Known__letter (ok_Known__letter T) (hr.mono (by decide)) T.b_Known__letter .nil pass0 (pa_cons (pe_op op_sub (pv 3) pe_int) pa_nil)))) rfl) (pss_one (ps_dput hu (pe_fld (pv 0) (by rfl)) (pv 7) (pv 9) rfl)))) (pss_cons (ps_fld (pv 0) (pe_call (ok_number_amount T) (hr.mono (by decide)) (by rfl) T.g_number_amount T.F_number_amount.kp T.b_number_amount .nil pass0 (pa_cons pe_int pa_nil)) rfl) (pss_cons (ps_fld (pv 0) (pe_call (ok_number_amount T) (hr.mono (by decide)) (by rfl) T.g_number_amount T.F_number_amount.kp T.b_number_amount .nil pass0 (pa_cons pe_int pa_nil)) rfl) (pss_cons (ps_fld (pv 0) (pe_call (ok_number_amount T) (hr.mono (by decide)) (by rfl) T.g_number_amount T.F_number_amount.kp T.b_number_amount .nil pass0 (pa_cons pe_int pa_nil)) rfl) (pss_cons (ps_fld (pv 0) pe_int rfl) (pss_one (ps_fld (pv 0) pe_non rfl)))))))))))))))), ?_⟩
    dsimp only [cxOf, L2.start, List.map_cons, List.map_nil, List.length_cons, List.length_nil, List.replicate, List.cons_append, List.nil_append, Nat.reduceAdd, Nat.reduceSub]
    obtain ⟨b0, b1, s0, s1, w0, w1, c0, c1⟩ := id hm
    have hM' : SqT K H m [.int b, .int s, .int w, .int c] := hM
    walk_at "rs"
    have hX0 := hX
    have k0 : Kx a a H H := Kx.refl _ _ _
    have nm : ∀ {y : Addr} {ys : List V}, SqT K H y ys → ∀ {H' : Hp}, Kx a a H H' → SqT K H' y ys := fun h H' k => SqT.tn (fun z zs hz => by
      rcases hz with hz | ⟨o, hz⟩
      · exact .inl (k z _ hz (ne_of hz ha (fun e => nomatch e)) (ne_of hz ha (fun e => nomatch e)))
      · exact .inr ⟨o, k z _ hz (ne_of hz ha (fun e => nomatch e)) (ne_of hz ha (fun e => nomatch e))⟩) h
    refine w_sfN (fs' := [("base", .int b)]) ha T.kc.cls T.kc.n1 (by decide) rfl fun H1 e1 ha1 => ?_
    have k1 : Kx a a H H1 := k0.trans (e1 ▸ Kx.l)
    walk_at "rs"
    refine ⟨m, b, s, w, c, rfl, nm hM k1, hm, ?_⟩
    walk_at "rs"
    refine w_sfN (fs' := [("base", .int b), ("last_place", .int (min (w - s) (c - 1)))]) ha1 T.kc.cls T.kc.n2 (show (1 : Nat) < 1000 by decide) rfl fun H2 e2 ha2 => ?_
    have k2 : Kx a a H H2 := k1.trans (e2 ▸ Kx.l)
    walk_at "rs"
    refine ⟨b, s, rfl, by omega, by omega, by omega, by omega, ?_⟩
    walk_at "rs"
    refine w_sfN (fs' := [("base", .int b), ("last_place", .int (min (w - s) (c - 1))), ("setting_end", .int (b ^ s.toNat))]) ha2 T.kc.cls T.kc.n3 (show (2 : Nat) < 1000 by decide) rfl fun H3 e3 ha3 => ?_
    have k3 : Kx a a H H3 := k2.trans (e3 ▸ Kx.l)
    walk_at "rs"
    refine ⟨b, w, rfl, by omega, by omega, by omega, by omega, ?_⟩
    walk_at "rs"
    refine w_sfN (fs' := [("base", .int b), ("last_place", .int (min (w - s) (c - 1))), ("setting_end", .int (b ^ s.toNat)), ("wheels_end", .int (b ^ w.toNat))]) ha3 T.kc.cls T.kc.n4 (show (3 : Nat) < 1000 by decide) rfl fun H4 e4 ha4 => ?_
    have k4 : Kx a a H H4 := k3.trans (e4 ▸ Kx.l)
    walk_at "rs"
    refine ⟨b, c, rfl, by omega, by omega, by omega, by omega, ?_⟩
    walk_at "rs"
    refine w_sfN (fs' := [("base", .int b), ("last_place", .int (min (w - s) (c - 1))), ("setting_end", .int (b ^ s.toNat)), ("wheels_end", .int (b ^ w.toNat)), ("counts_end", .int (b ^ c.toNat))]) ha4 T.kc.cls T.kc.n5 (show (4 : Nat) < 1000 by decide) rfl fun H5 e5 ha5 => ?_
    have k5 : Kx a a H H5 := k4.trans (e5 ▸ Kx.l)
    walk_at "rs"
    refine w_new (by decide) fun g G6 hg6 s6 h6 => ?_
    walk_at "rs"
    refine w_sfN (fs' := [("base", .int b), ("last_place", .int (min (w - s) (c - 1))), ("setting_end", .int (b ^ s.toNat)), ("wheels_end", .int (b ^ w.toNat)), ("counts_end", .int (b ^ c.toNat)), ("greatest", .ref g)]) (s6 _ _ ha5) T.kc.cls T.kc.n6 (show (5 : Nat) < 1000 by decide) rfl fun H6 e6 ha6 => ?_
    have g0 : H g = none := Rn.Kx.free k5 ha5 hg6
    have nga : g ≠ a := fun e => ne_of_none ha g0 e.symm
    have k6 : Kx a a H H6 := (k5.trans (Kx.of s6)).trans (e6 ▸ Kx.l)
    have hg6 : H6 g = some (.lst []) := by rw [e6, upd_ne nga]; exact h6
    walk_at "rs"
    refine w_dnew fun rw G7 hr7f s7 h7 => ?_
    walk_at "rs"
    refine w_sfN (fs' := [("base", .int b), ("last_place", .int (min (w - s) (c - 1))), ("setting_end", .int (b ^ s.toNat)), ("wheels_end", .int (b ^ w.toNat)), ("counts_end", .int (b ^ c.toNat)), ("greatest", .ref g), ("rows", .ref rw)]) (s7 _ _ ha6) T.kc.cls T.kc.n7 (show (6 : Nat) < 1000 by decide) rfl fun H7 e7 ha7 => ?_
    have nra : rw ≠ a := fun e => ne_of_none ha6 hr7f e.symm
    have nrg : rw ≠ g := fun e => ne_of_none hg6 hr7f e.symm
    have k7 : Kx a a H H7 := (k6.trans (Kx.of s7)).trans (e7 ▸ Kx.l)
    have hg7 : H7 g = some (.lst []) := by rw [e7, upd_ne nga]; exact s7 _ _ hg6
    have hr7 : H7 rw = some (.dK []) := by rw [e7, upd_ne nra]; exact h7
    walk_at "rs"
    refine w_dnew fun ls G8 hl8f s8 h8 => ?_
    walk_at "rs"
    refine w_sfN (fs' := [("base", .int b), ("last_place", .int (min (w - s) (c - 1))), ("setting_end", .int (b ^ s.toNat)), ("wheels_end", .int (b ^ w.toNat)), ("counts_end", .int (b ^ c.toNat)), ("greatest", .ref g), ("rows", .ref rw), ("leasts", .ref ls)]) (s8 _ _ ha7) T.kc.cls T.kc.n8 (show (7 : Nat) < 1000 by decide) rfl fun H8 e8 ha8 => ?_
    have nla : ls ≠ a := fun e => ne_of_none ha7 hl8f e.symm
    have nlg : ls ≠ g := fun e => ne_of_none hg7 hl8f e.symm
    have nlr : ls ≠ rw := fun e => ne_of_none hr7 hl8f e.symm
    have k8 : Kx a a H H8 := (k7.trans (Kx.of s8)).trans (e8 ▸ Kx.l)
    have hg8 : H8 g = some (.lst []) := by rw [e8, upd_ne nga]; exact s8 _ _ hg7
    have hr8 : H8 rw = some (.dK []) := by rw [e8, upd_ne nra]; exact s8 _ _ hr7
    have hl8 : H8 ls = some (.dK []) := by rw [e8, upd_ne nla]; exact h8
    have r0 : H rw = none := Rn.Kx.free k6 ha6 hr7f
    have l0 : H ls = none := Rn.Kx.free k7 ha7 hl8f
    walk_at "rs"
    have hX8 := nm hX k8
    refine w_UT hX8 ?_
    refine lp_tup (xs := xs.map V.ref) (fun i σ H' => ∃ u7 u8 u9 u10, σ = [some (.ref a), some (.ref m), some (.ref x), some (.int b), some (.int s), some (.int w), some (.int c), u7, u8, u9, u10] ∧ Kx a a H H' ∧ H' a = some (.ins T.kc.C dx [("base", .int b), ("last_place", .int (min (w - s) (c - 1))), ("setting_end", .int (b ^ s.toNat)), ("wheels_end", .int (b ^ w.toNat)), ("counts_end", .int (b ^ c.toNat)), ("greatest", .ref g), ("rows", .ref rw), ("leasts", .ref ls)]) ∧
      H' g = some (.lst ((List.replicate (figN (ins.take i)) (b - 1)).map V.int)) ∧ (∃ kvs, H' rw = some (.dK kvs) ∧ RwH g H' kvs (rowsI b 0 (ins.take i))) ∧ H' ls = some (.dK (lsV (lsI (ins.take i))))) ⟨_, _, _, _, rfl, k8, ha8, hg8, ⟨[], hr8, .nil⟩, hl8⟩ ?_ ?_ ?_
    · rintro i σ H' _ ⟨_, _, _, _, _, k, _⟩
      exact nm hX k
    · rintro i xv σ H9 hi9 ⟨u7, u8, u9, u10, rfl, k9, ha9, hg9, ⟨kvs, hr9, hR9⟩, hl9⟩
      obtain ⟨xa, hxa, rfl⟩ : ∃ xa, xs[i]? = some xa ∧ xv = .ref xa := by
        rw [List.getElem?_map] at hi9
        obtain ⟨xa, h, e⟩ := Option.map_eq_some_iff.mp hi9
        exact ⟨xa, h, e.symm⟩
      obtain ⟨inp, hin, hat⟩ := L2.paired_get hI hxa
      obtain ⟨i1, i2, i3, i4, i5⟩ := inp_ok hi hin
      have hat9 : SqT K H9 xa [.str inp.nm, .int inp.fg, .int inp.ls] := nm hat k9
      have hfl : (figN (ins.take i) : Int) ≤ s * (ins.take i).length := figN_le (fun j hj => by
        obtain ⟨kk, hk⟩ := List.mem_iff_getElem?.mp (List.mem_of_mem_take hj)
        exact (inp_ok hi hk).2.2.1) (by omega)
      have hil := hi.1
      have hfl2 : (figN (ins.take i) : Int) ≤ 24 := by
        have h1 := take_le ins i
        have h2 : s * ((ins.take i).length : Int) ≤ 6 * ((ins.take i).length : Int) := Int.mul_le_mul_of_nonneg_right (by omega) (by omega)
        omega
      walk_at "rs"
      refine w_rngI (by omega) ?_
      refine lq_range0 (fun D j H' => Kf a g H9 H' ∧ H' a = some (.ins T.kc.C dx [("base", .int b), ("last_place", .int (min (w - s) (c - 1))), ("setting_end", .int (b ^ s.toNat)), ("wheels_end", .int (b ^ w.toNat)), ("counts_end", .int (b ^ c.toNat)), ("greatest", .ref g), ("rows", .ref rw), ("leasts", .ref ls)]) ∧ H' g = some (.lst ((List.replicate (figN (ins.take i) + j) (b - 1)).map V.int)) ∧
        ∃ acc, H' D = some (.lst acc) ∧ acc.length = j ∧ AmL H' acc ((List.range j).map fun (k : Nat) => letA ((0 + figN (ins.take i) + k : Nat) : Int) (b - 1))) (fun D H1 hD s h => ⟨Kf.same ha9 hg9 s, s _ _ ha9, s _ _ hg9, [], h, rfl, .nil⟩) ?_ ?_
      · rintro D j H1 hD hj ⟨kf, ha1, hg1, acc, hD1, hl, hA⟩
        have nDg : D ≠ g := fun e => ne_of_none hg9 hD e.symm
        have nDa : D ≠ a := fun e => ne_of_none ha9 hD e.symm
        refine ⟨rfl, ?_⟩
        dsimp only [wipe]
        walk_at "rs"
        refine ⟨a, g, dx, _, List.replicate (figN (ins.take i) + j) (b - 1), b - 1, rfl, ha1, rfl, hg1, by rw [List.length_replicate]; omega, fun p H2 k2 ha2 hg2 h2 => ?_⟩
        walk_at "rs"
        have hD2 := k2.lst nDg hD1
        refine w_put hD2 (by omega) fun H3 e3 h3 => ⟨?_, ?_, ?_, acc ++ [.ref p], h3, by rw [List.length_append, hl]; rfl, ?_⟩
        · refine ⟨fun b2 o h n1 n2 => ?_, ⟨_, _, _, ha9⟩, _, hg9⟩
          rw [e3, upd_ne (ne_of_none h hD)]
          exact (kf.trans k2).kx b2 o h n1 n2
        · rw [e3, upd_ne nDa.symm]
          exact ha2
        · rw [e3, upd_ne nDg.symm, hg2, ← List.replicate_succ']
          rfl
        · have k3 : Kf a D H2 H3 := e3 ▸ Kf.setG ha2 hD2
          rw [range_snoc]
          refine Paired.snoc ⟨p, rfl, ?_⟩ (k3.aml (k2.aml hA))
          have h2' := k3.am h2
          rw [List.length_replicate] at h2'
          rw [Nat.zero_add]
          exact h2'
      · rintro D H1 hD ⟨kf, ha1, hg1, acc, hD1, hl, hA⟩
        have nDg : D ≠ g := fun e => ne_of_none hg9 hD e.symm
        have hr1 := kf.dK hr9
        have hl1 := kf.dK hl9
        have lk : kvs.length = (rowsI b 0 (ins.take i)).length := Paired.length hR9
        have lr : (rowsI b 0 (ins.take i)).length = (ins.take i).length := by
          rw [← List.length_map (f := (·.1)), rowsI_nm]
          unfold My.names
          rw [List.length_map]
        have lt1 := take_le ins i
        walk_at "rs"
        refine w_fldN ha1 T.kc.cls T.kc.n7 rfl ?_
        walk_at "rs"
        refine w_dputS hr1 (by omega) (putK_new fun p hp e => by
          obtain ⟨r, hr, e2⟩ := rwH_keys hR9 p hp
          rw [e2] at e
          injection e with e
          apply i1
          rw [← rowsI_nm b (ins.take i) 0, ← e]
          exact List.mem_map_of_mem hr) fun H2 e2 h2 => ?_
        have ha2 : H2 a = some (.ins T.kc.C dx [("base", .int b), ("last_place", .int (min (w - s) (c - 1))), ("setting_end", .int (b ^ s.toNat)), ("wheels_end", .int (b ^ w.toNat)), ("counts_end", .int (b ^ c.toNat)), ("greatest", .ref g), ("rows", .ref rw), ("leasts", .ref ls)]) := (by rw [e2, upd_ne nra.symm]; exact ha1)
        have hl2 : H2 ls = some (.dK (lsV (lsI (ins.take i)))) := (by rw [e2, upd_ne nlr]; exact hl1)
        walk_at "rs"
        refine w_fldN ha2 T.kc.cls T.kc.n8 rfl ?_
        walk_at "rs"
        refine w_dputS hl2 (by unfold lsV lsI; rw [List.length_map, List.length_map]; omega) (lsV_new (by rw [lsI_nm]; exact i1)) fun H3 e3 h3 => ?_
        have md : Md H1 H3 := Md.trans (e2 ▸ Md.put hr1) (e3 ▸ Md.put hl2)
        refine ⟨_, _, _, _, rfl, ?_, ?_, ?_, ⟨_, by rw [e3, upd_ne nlr.symm]; exact h2, ?_⟩, ?_⟩
        · intro b2 o h n _
          rw [e3, upd_ne (ne_of_none h l0), e2, upd_ne (ne_of_none h r0)]
          exact kf.kx b2 o (k9 b2 o h n n) n (ne_of_none h g0)
        · exact md _ _ ha1 (fun _ e => nomatch e)
        · rw [take_snoc hin, figN_snoc]
          exact md _ _ hg1 (fun _ e => nomatch e)
        · rw [take_snoc hin, rowsI_snoc]
          exact Paired.snoc ⟨rfl, D, acc, rfl, nDg, md _ _ hD1 (fun _ e => nomatch e), md.aml hA⟩ (md.rwh (kf.rwh hR9))
        · rw [take_snoc hin]
          unfold lsI
          rw [List.map_append]
          exact h3
    · rintro σ HL ⟨u7, u8, u9, u10, rfl, kL, haL, hgL, ⟨kvs, hrL, hRL⟩, hlL⟩
      have lx : (xs.map V.ref).length = ins.length := by rw [List.length_map]; exact Paired.length hI
      rw [lx, List.take_length] at hgL hRL hlL
      walk_at "rs"
      refine ⟨0, rfl, fun st G9 s9 h9 => ?_⟩
      walk_at "rs"
      refine w_sfN (fs' := [("base", .int b), ("last_place", .int (min (w - s) (c - 1))), ("setting_end", .int (b ^ s.toNat)), ("wheels_end", .int (b ^ w.toNat)), ("counts_end", .int (b ^ c.toNat)), ("greatest", .ref g), ("rows", .ref rw), ("leasts", .ref ls), ("setting", .ref st)]) (s9 _ _ haL) T.kc.cls T.kc.n9 (show (8 : Nat) < 1000 by decide) rfl fun H9 e9 ha9 => ?_
      have k9 : Kx a a HL H9 := (Kx.of s9).trans (e9 ▸ Kx.l)
      walk_at "rs"
      refine ⟨0, rfl, fun wh G10 s10 h10 => ?_⟩
      walk_at "rs"
      refine w_sfN (fs' := [("base", .int b), ("last_place", .int (min (w - s) (c - 1))), ("setting_end", .int (b ^ s.toNat)), ("wheels_end", .int (b ^ w.toNat)), ("counts_end", .int (b ^ c.toNat)), ("greatest", .ref g), ("rows", .ref rw), ("leasts", .ref ls), ("setting", .ref st), ("wheels", .ref wh)]) (s10 _ _ ha9) T.kc.cls T.kc.n10 (show (9 : Nat) < 1000 by decide) rfl fun H10 e10 ha10 => ?_
      have k10 : Kx a a H9 H10 := (Kx.of s10).trans (e10 ▸ Kx.l)
      walk_at "rs"
      refine ⟨0, rfl, fun ct G11 s11 h11 => ?_⟩
      walk_at "rs"
      refine w_sfN (fs' := [("base", .int b), ("last_place", .int (min (w - s) (c - 1))), ("setting_end", .int (b ^ s.toNat)), ("wheels_end", .int (b ^ w.toNat)), ("counts_end", .int (b ^ c.toNat)), ("greatest", .ref g), ("rows", .ref rw), ("leasts", .ref ls), ("setting", .ref st), ("wheels", .ref wh), ("counts", .ref ct)]) (s11 _ _ ha10) T.kc.cls T.kc.n11 (show (10 : Nat) < 1000 by decide) rfl fun H11 e11 ha11 => ?_
      have k11 : Kx a a H10 H11 := (Kx.of s11).trans (e11 ▸ Kx.l)
      walk_at "rs"
      refine w_sfN (fs' := [("base", .int b), ("last_place", .int (min (w - s) (c - 1))), ("setting_end", .int (b ^ s.toNat)), ("wheels_end", .int (b ^ w.toNat)), ("counts_end", .int (b ^ c.toNat)), ("greatest", .ref g), ("rows", .ref rw), ("leasts", .ref ls), ("setting", .ref st), ("wheels", .ref wh), ("counts", .ref ct), ("place", .int 0)]) ha11 T.kc.cls T.kc.n12 (show (11 : Nat) < 1000 by decide) rfl fun H12 e12 ha12 => ?_
      walk_at "rs"
      refine w_sfN (fs' := [("base", .int b), ("last_place", .int (min (w - s) (c - 1))), ("setting_end", .int (b ^ s.toNat)), ("wheels_end", .int (b ^ w.toNat)), ("counts_end", .int (b ^ c.toNat)), ("greatest", .ref g), ("rows", .ref rw), ("leasts", .ref ls), ("setting", .ref st), ("wheels", .ref wh), ("counts", .ref ct), ("place", .int 0), ("fact", .non)]) ha12 T.kc.cls T.kc.n13 (show (12 : Nat) < 1000 by decide) rfl fun H13 e13 ha13 => ?_
      have k13 : Kx a a H11 H13 := (e12 ▸ Kx.l : Kx a a H11 H12).trans (e13 ▸ Kx.l)
      have hg9 := k9 _ _ hgL nga nga
      have hg10 := k10 _ _ hg9 nga nga
      have hg11 := k11 _ _ hg10 nga nga
      have kF : Kx a a HL H13 := ((k9.trans k10).trans k11).trans k13
      have kf := kf_of_kx kF haL hgL
      have f9 : Kf a g G9 H13 := kf_of_kx (((e9 ▸ Kx.l : Kx a a G9 H9).trans k10).trans (k11.trans k13)) (s9 _ _ haL) (s9 _ _ hgL)
      have f10 : Kf a g G10 H13 := kf_of_kx ((e10 ▸ Kx.l : Kx a a G10 H10).trans (k11.trans k13)) (s10 _ _ ha9) (s10 _ _ hg9)
      have f11 : Kf a g G11 H13 := kf_of_kx ((e11 ▸ Kx.l : Kx a a G11 H11).trans k13) (s11 _ _ ha10) (s11 _ _ hg10)
      walk_at "rs"
      exact q g H13 g0 (fun b2 o h n => (kL.trans kF) b2 o h n n) ⟨dx, rw, ls, st, wh, ct, .non, ha13, ⟨kF _ _ hgL nga nga, ⟨kvs, kf.dK hrL, kf.rwh hRL⟩, kf.dK hlL, f9.am h9, f10.am h10, f11.am h11, rfl⟩⟩

theorem ok_product_of (T : Txt K mg base) : FnOk P wd K mg base CX0 1 T.f_product_of T.fd_product_of ["product", "greatest"] (spMo K) := by
  refine T.F_product_of.ok sc_product_of (fun vs H Q E h => ?_) (fun cdv A outer s H vs Q E hr h => ?_)
  · obtain ⟨a, g, p, gr, rfl, ha, hg, hl, h64, q⟩ := h
    rfl
  · have hu := hu_of hr
    obtain ⟨a, g, p, gr, rfl, ha, hg, hl, h64, q⟩ := h
    refine ⟨_, (pss_cons (ps_set (i := 2) sc_product_of.nd rfl (Or.inl rfl) pe_int) (pss_cons (ps_for PassesOwn.never rfl (k_U K rfl (pv 0)) (pg_name (i := 3) sc_product_of.nd rfl (Or.inl rfl)) (pss_one (ps_aug (i := 2) sc_product_of.nd rfl (Or.inl rfl) (pe_ix (k_ix K rfl) (pv 1) (pv 3) (fun _ _ => rfl)) ip_mulI))) (pss_one (ps_ret (pv 2))))), ?_⟩
    dsimp only [cxOf, L2.start, List.map_cons, List.map_nil, List.length_cons, List.length_nil, List.replicate, List.cons_append, List.nil_append, Nat.reduceAdd, Nat.reduceSub]
    walk_at "rs"
    refine w_UT ha ?_
    refine lp_tupN (xs := p.map V.int) (fun i σ H' => H' = H ∧ ∃ u, σ = [some (.ref a), some (.ref g), some (.int (moS gr (p.take i))), u]) ⟨rfl, _, rfl⟩ ?_ ?_ ?_
    · rintro i σ H' _ ⟨rfl, _⟩
      exact ha
    · rintro i x σ H' hx ⟨rfl, u, rfl⟩
      obtain ⟨l, hi, rfl⟩ : ∃ l, p[i]? = some l ∧ x = .int l := by
        rw [List.getElem?_map] at hx
        obtain ⟨l, h, e⟩ := Option.map_eq_some_iff.mp hx
        exact ⟨l, h, e.symm⟩
      have hm := hl l (List.mem_of_getElem? hi)
      walk_at "rs"
      refine w_ixL hg (at_gr hm) ?_
      walk_at "rs"
      refine w_pMul (.inr (h64 _ (mem_gr hm))) ?_
      walk_at "rs"
      refine ⟨rfl, some (.int l), ?_⟩
      show [_, _, some (V.int (moS gr (p.take i) * gr.getD l.toNat 0)), _] = _
      unfold moS
      rw [fold_take _ _ hi]
    · rintro σ H' ⟨rfl, u, rfl⟩
      walk_at "rs"
      rw [List.length_map, List.take_length]
      exact q

theorem ok_least_of (T : Txt K mg base) : FnOk P wd K mg base CX0 2 T.f_least_of T.fd_least_of ["terms", "greatest"] (spLeast K) := by
  refine T.F_least_of.ok sc_least_of (fun vs H Q E h => ?_) (fun cdv A outer s H vs Q E hr h => ?_)
  · obtain ⟨a, g, x, gr, rfl, ha, hg, hl, h64, hx, q⟩ := h
    rfl
  · have hu := hu_of hr
    obtain ⟨a, g, x, gr, rfl, ha, hg, hl, h64, hx, q⟩ := h
    refine ⟨_, (pss_cons (ps_set (i := 2) sc_least_of.nd rfl (Or.inl rfl) pe_int) (pss_cons (So.ps_lockO (ps_for PassesOwn.never rfl (Td.pi_itemsT (pv 0)) (pg_tup (n := 2) rfl (pgs_cons (pg_name (i := 3) sc_least_of.nd rfl (Or.inl rfl)) (pgs_cons (pg_name (i := 4) sc_least_of.nd rfl (Or.inl rfl)) pgs_nil))) (pss_one (ps_if (PW.pt (pw_or (pt_cmpR (k_eq K rfl hr.units) (pv 3) (pe_tup pa_nil) (nomark _)) (pw_or1 (pt_cmpR (op_lt) (pv 4) pe_int (nomark _))))) (pss_one (ps_aug (i := 2) sc_least_of.nd rfl (Or.inl rfl) (pe_op (k_mul K rfl) (pv 4) (pe_call (ok_product_of T) (hr.mono (by decide)) (by rfl) T.g_product_of T.F_product_of.kp T.b_product_of .nil pass0 (pa_cons (pv 3) (pa_cons (pv 1) pa_nil)))) ip_addI)) pss_nil)))) (pss_one (ps_ret (pv 2))))), ?_⟩
    dsimp only [cxOf, L2.start, List.map_cons, List.map_nil, List.length_cons, List.length_nil, List.replicate, List.cons_append, List.nil_append, Nat.reduceAdd, Nat.reduceSub]
    walk_at "rs"
    refine w_lockL (w_lockT ha.1 fun od H1 e1 h1 => ?_)
    have nga : g ≠ a := ne_of hg ha.1 (fun e => by cases e)
    have hg1 : H1 g = some (.lst (gr.map V.int)) := by rw [e1, upd_ne nga]; exact hg
    walk_at "rs"
    refine lpT (fun i σ H' => Same H1 H' ∧ ∃ u1 u2, σ = [some (.ref a), some (.ref g), some (.int ((x.take i).foldl (leF gr) 0)), u1, u2]) ⟨Same.refl _, _, _, rfl⟩ ?_ ?_ ?_
    · rintro i σ H' _ ⟨s2, _⟩
      exact s2 _ _ h1
    · rintro i p σ H5 z r H6 hi ⟨s5, u1, u2, rfl⟩ hz5 hr5 e6 h6
      have s6 : Same H5 H6 := e6 ▸ Same.new hr5
      have hz6 := s6 _ _ hz5
      have hg6 := (s5.trans s6) _ _ hg1
      have mp := List.mem_of_getElem? hi
      walk_at "rs"
      refine w_new (by decide) fun b H7 hb s7 h7 => ?_
      walk_at "rs"
      refine w_eqTI (ys := []) (SqT.of (s7 _ _ hz6)) (SqT.of h7) ?_
      walk_at "rs"
      have s67 : Same H5 H7 := s6.trans s7
      have go : ∀ (c : p.1 = [] ∨ p.2 < 0) (H8 : Hp) (v : Int), Same H7 H8 → v = (x.take i).foldl (leF gr) 0 + p.2 * moS gr p.1 → (Same H1 H8 ∧ ∃ u1 u2, [some (V.ref a), some (.ref g), some (.int v), some (.ref z), some (.int p.2)] = [some (.ref a), some (.ref g), some (.int ((x.take (i + 1)).foldl (leF gr) 0)), u1, u2]) := by
        intro c H8 v s8 e
        refine ⟨s5.trans (s67.trans s8), some (.ref z), some (.int p.2), ?_⟩
        rw [fold_take _ _ hi, e]
        unfold leF
        rw [if_pos c]
      have mp2 := hx p mp
      refine w_iteN2 (p := p.1 = []) (fun c => ?_) (fun c => ?_)
      · refine w_iteT ?_
        walk_at "rs"
        refine ⟨z, g, p.1, gr, rfl, SqT.of (s7 _ _ hz6), SqL.of (s7 _ _ hg6), hl p mp, h64, ?_⟩
        walk_at "rs"
        exact go (.inl c) H7 _ (Same.refl _) rfl
      · walk_at "rs"
        refine w_iteN2 (p := p.2 < 0) (fun c2 => ?_) (fun c2 => ?_)
        · walk_at "rs"
          refine ⟨z, g, p.1, gr, rfl, SqT.of (s7 _ _ hz6), SqL.of (s7 _ _ hg6), hl p mp, h64, ?_⟩
          walk_at "rs"
          exact go (.inr c2) H7 _ (Same.refl _) rfl
        · walk_at "rs"
          refine ⟨s5.trans s67, some (.ref z), some (.int p.2), ?_⟩
          rw [fold_take _ _ hi]
          unfold leF
          rw [if_neg (fun h => h.elim c c2)]
    · rintro σ H5 ⟨s5, u1, u2, rfl⟩
      rw [List.take_length]
      refine ⟨s5 _ _ h1, ?_⟩
      walk_at "rs"
      exact q _ (unlock ha.1 (by rw [← e1]; exact s5))


theorem ok_side_sum_0 (T : Txt K mg base) : FnOk P wd K mg base CX0 3 T.f_side_sum T.fd_side_sum ["known", "side"] (spSideS T.kc 0) := by
  refine T.F_side_sum.ok sc_side_sum (fun vs H Q E h => ?_) (fun cdv A outer s H vs Q E hr h => ?_)
  · obtain ⟨a, g, k, x, p, rfl, hdp, ⟨dx, rw, ls, st, wh, ct, fa, ha, hk⟩, hB, hp, ok, q⟩ := h
    rfl
  · have hu := hu_of hr
    obtain ⟨a, g, k, x, p, rfl, hdp, ⟨dx, rw, ls, st, wh, ct, fa, ha, hk⟩, hB, hp, ok, q⟩ := h
    refine ⟨_, (pss_cons (ps_matchQ (pv 1) (pm_case K rfl (is := [2]) rfl sc_side_sum.nd (.cons .nil) (.cons rfl (Or.inl rfl) (.inr rfl) .nil) (pss_one (ps_ret (pe_call (ok_number_sum T) (hr.mono (by decide)) (by rfl) T.g_number_sum T.F_number_sum.kp T.b_number_sum .nil pass0 (pa_cons (pv 2) pa_nil)))) (pm_case K rfl (is := []) rfl sc_side_sum.nd .nil .nil (pss_one (ps_ret (pe_ix (k_ix K rfl) (pe_fld (pv 0) (by rfl)) pe_int (fun _ _ => rfl)))) (pm_case K rfl (is := []) rfl sc_side_sum.nd .nil .nil (pss_one (ps_ret (pe_ix (k_ix K rfl) (pe_fld (pv 0) (by rfl)) pe_int (fun _ _ => rfl)))) (pm_case K rfl (is := [3]) rfl sc_side_sum.nd (.cons .nil) (.cons rfl (Or.inl rfl) (.inr rfl) .nil) (pss_one (ps_ret (pe_ix (k_ix K rfl) (pe_meth (pv 0) T.k_Known T.M_Known__row_of (ok_Known__row_of T) (hr.mono (by decide)) T.b_Known__row_of .nil pass0 (pa_cons (pv 3) pa_nil)) pe_int (fun _ _ => rfl)))) (pm_case K rfl (is := [4, 5]) rfl sc_side_sum.nd (.cons (.cons .nil)) (.cons rfl (Or.inl rfl) (.inr rfl) (.cons rfl (Or.inl rfl) (.inr rfl) .nil)) (pss_one (ps_ret (pe_call (ok_plus T) (hr.mono (by decide)) (by rfl) T.g_plus T.F_plus.kp T.b_plus .nil pass0 (pa_cons pe_no (pa_cons pe_int (pa_cons pe_no pa_nil)))))) pm_nil rfl) rfl) rfl) rfl) rfl)) (pss_one (ps_ret (pe_call (ok_times T) (hr.mono (by decide)) (by rfl) T.g_times T.F_times.kp T.b_times .nil pass0 (pa_cons pe_no (pa_cons pe_no pa_nil)))))), ?_⟩
    dsimp only [cxOf, L2.start, List.map_cons, List.map_nil, List.length_cons, List.length_nil, List.replicate, List.cons_append, List.nil_append, Nat.reduceAdd, Nat.reduceSub]
    have h1 := sdp_pos p
    exact absurd hdp (by omega)
theorem ok_side_sum_S (T : Txt K mg base) {n : Nat} (ih : FnOk P wd K mg base CX0 (3 + n) T.f_side_sum T.fd_side_sum ["known", "side"] (spSideS T.kc n)) : FnOk P wd K mg base CX0 (3 + n + 1) T.f_side_sum T.fd_side_sum ["known", "side"] (spSideS T.kc (n + 1)) := by
  refine T.F_side_sum.ok sc_side_sum (fun vs H Q E h => ?_) (fun cdv A outer s H vs Q E hr h => ?_)
  · obtain ⟨a, g, k, x, p, rfl, hdp, ⟨dx, rw, ls, st, wh, ct, fa, ha, hk⟩, hB, hp, ok, q⟩ := h
    rfl
  · have hu := hu_of hr
    obtain ⟨a, g, k, x, p, rfl, hdp, ⟨dx, rw, ls, st, wh, ct, fa, ha, hk⟩, hB, hp, ok, q⟩ := h
    refine ⟨_, (pss_cons (ps_matchQ (pv 1) (pm_case K rfl (is := [2]) rfl sc_side_sum.nd (.cons .nil) (.cons rfl (Or.inl rfl) (.inr rfl) .nil) (pss_one (ps_ret (pe_call (ok_number_sum T) (hr.mono (by omega)) (by rfl) T.g_number_sum T.F_number_sum.kp T.b_number_sum .nil pass0 (pa_cons (pv 2) pa_nil)))) (pm_case K rfl (is := []) rfl sc_side_sum.nd .nil .nil (pss_one (ps_ret (pe_ix (k_ix K rfl) (pe_fld (pv 0) (by rfl)) pe_int (fun _ _ => rfl)))) (pm_case K rfl (is := []) rfl sc_side_sum.nd .nil .nil (pss_one (ps_ret (pe_ix (k_ix K rfl) (pe_fld (pv 0) (by rfl)) pe_int (fun _ _ => rfl)))) (pm_case K rfl (is := [3]) rfl sc_side_sum.nd (.cons .nil) (.cons rfl (Or.inl rfl) (.inr rfl) .nil) (pss_one (ps_ret (pe_ix (k_ix K rfl) (pe_meth (pv 0) T.k_Known T.M_Known__row_of (ok_Known__row_of T) (hr.mono (by omega)) T.b_Known__row_of .nil pass0 (pa_cons (pv 3) pa_nil)) pe_int (fun _ _ => rfl)))) (pm_case K rfl (is := [4, 5]) rfl sc_side_sum.nd (.cons (.cons .nil)) (.cons rfl (Or.inl rfl) (.inr rfl) (.cons rfl (Or.inl rfl) (.inr rfl) .nil)) (pss_one (ps_ret (pe_call (ok_plus T) (hr.mono (by omega)) (by rfl) T.g_plus T.F_plus.kp T.b_plus .nil pass0 (pa_cons (pe_call ih hr (by rfl) T.g_side_sum T.F_side_sum.kp T.b_side_sum .nil pass0 (pa_cons (pv 0) (pa_cons (pv 4) pa_nil))) (pa_cons pe_int (pa_cons (pe_call ih hr (by rfl) T.g_side_sum T.F_side_sum.kp T.b_side_sum .nil pass0 (pa_cons (pv 0) (pa_cons (pv 5) pa_nil))) pa_nil)))))) pm_nil rfl) rfl) rfl) rfl) rfl)) (pss_one (ps_ret (pe_call (ok_times T) (hr.mono (by omega)) (by rfl) T.g_times T.F_times.kp T.b_times .nil pass0 (pa_cons (pe_call ih hr (by rfl) T.g_side_sum T.F_side_sum.kp T.b_side_sum .nil pass0 (pa_cons (pv 0) (pa_cons (pe_ix (k_ix K rfl) (pv 1) pe_int (fun _ _ => rfl)) pa_nil))) (pa_cons (pe_call ih hr (by rfl) T.g_side_sum T.F_side_sum.kp T.b_side_sum .nil pass0 (pa_cons (pv 0) (pa_cons (pe_ix (k_ix K rfl) (pv 1) pe_int (fun _ _ => rfl)) pa_nil))) pa_nil)))))), ?_⟩
    dsimp only [cxOf, L2.start, List.map_cons, List.map_nil, List.length_cons, List.length_nil, List.replicate, List.cons_append, List.nil_append, Nat.reduceAdd, Nat.reduceSub]
    obtain ⟨dw, hwT, hwh, hwd⟩ := hk.wh.sq (K := K)
    obtain ⟨dc, hcT, hct, hcd⟩ := hk.ct.sq (K := K)
    walk_at "rs"
    have nx : ∀ {k : Str} {z : Str} {ys : List V} {is : List Nat} {tb : TS} {tr : V → TS} {D : Ends} {σ : St}, SqT K H x (.str z :: ys) → ys.length ≤ 1000 → z ≠ k → tr (.ref x) D σ H → tCase K k is tb tr (.ref x) D σ H := fun h1 h2 h3 h4 => w_caseN h1 (fun e => h3 e.1) h2 h4
    cases hp with
    | @num _ n h =>
      refine w_caseY h rfl (by simp) ?_
      dsimp only [setAll]
      walk_at "rs"
      exact ⟨n, rfl, fun p H1 s1 h1 => q p H1 s1 h1⟩
    | wheels h =>
      refine nx h (by simp) (by decide +kernel) ?_
      refine w_caseY h rfl (by simp) ?_
      dsimp only [setAll]
      walk_at "rs"
      exact q dw H (Same.refl _) hwd
    | counts h =>
      refine nx h (by simp) (by decide +kernel) ?_
      refine nx h (by simp) (by decide +kernel) ?_
      refine w_caseY h rfl (by simp) ?_
      dsimp only [setAll]
      walk_at "rs"
      exact q dc H (Same.refl _) hcd
    | @inp _ n h =>
      refine nx h (by simp) (by decide +kernel) ?_
      refine nx h (by simp) (by decide +kernel) ?_
      refine nx h (by simp) (by decide +kernel) ?_
      refine w_caseY h rfl (by simp) ?_
      dsimp only [setAll]
      walk_at "rs"
      obtain ⟨ms, l0, e1, e2, e3, e4⟩ := ok
      refine ⟨a, g, k, n, ms, l0, rfl, KnH.mk ha hk, hB, e1, e2, e3, e4, fun p H1 s1 h1 => ?_⟩
      obtain ⟨d1, h1T, h1t, h1d⟩ := h1.sq (K := K)
      walk_at "rs"
      refine q d1 H1 s1 ?_
      unfold sideS rowN
      rw [e1]
      exact h1d
    | @add _ x1 x2 p1 p2 h hx1 hx2 =>
      refine nx h (by simp) (by decide +kernel) ?_
      refine nx h (by simp) (by decide +kernel) ?_
      refine nx h (by simp) (by decide +kernel) ?_
      refine nx h (by simp) (by decide +kernel) ?_
      refine w_caseY h rfl (by simp) ?_
      dsimp only [setAll]
      walk_at "rs"
      obtain ⟨o1, o2, o3⟩ := ok
      simp only [sdp] at hdp
      refine ⟨a, g, k, x1, p1, rfl, by omega, KnH.mk ha hk, hB, hx1, o1, fun d1 H1 s1 h1 => ?_⟩
      have hkn1 := KnH.same s1 (KnH.mk ha hk)
      walk_at "rs"
      refine ⟨a, g, k, x2, p2, rfl, by omega, hkn1, hB, hx2.tn s1.tn, o2, fun d2 H2 s2 h2 => ?_⟩
      walk_at "rs"
      exact ⟨d1, d2, _, _, 1, rfl, h1.same s2, h2, ⟨by decide, by decide⟩, o3, fun d3 H3 s3 h3 => q d3 H3 ((s1.trans s2).trans s3) h3⟩
    | @times _ x1 x2 p1 p2 h hx1 hx2 =>
      refine nx h (by simp) (by decide +kernel) ?_
      refine nx h (by simp) (by decide +kernel) ?_
      refine nx h (by simp) (by decide +kernel) ?_
      refine nx h (by simp) (by decide +kernel) ?_
      refine nx h (by simp) (by decide +kernel) ?_
      walk_at "rs"
      obtain ⟨o1, o2, o3, o4, o5, o6⟩ := ok
      simp only [sdp] at hdp
      refine ⟨a, g, k, x1, p1, rfl, by omega, KnH.mk ha hk, hB, hx1, o1, fun d1 H1 s1 h1 => ?_⟩
      have hkn1 := KnH.same s1 (KnH.mk ha hk)
      have h' := SqT.tn s1.tn h
      walk_at "rs"
      refine ⟨a, g, k, x2, p2, rfl, by omega, hkn1, hB, hx2.tn s1.tn, o2, fun d2 H2 s2 h2 => ?_⟩
      walk_at "rs"
      exact ⟨d1, d2, _, _, rfl, h1.same s2, h2, o3, o4, o5, o6, fun d3 H3 s3 h3 => q d3 H3 ((s1.trans s2).trans s3) h3⟩
theorem ok_side_sum_R (T : Txt K mg base) : ∀ n : Nat, FnOk P wd K mg base CX0 (3 + n) T.f_side_sum T.fd_side_sum ["known", "side"] (spSideS T.kc n)
  | 0 => ok_side_sum_0 T
  | n + 1 => ok_side_sum_S T (ok_side_sum_R T n)
theorem ok_side_sum (T : Txt K mg base) : FnOk P wd K mg base CX0 7 T.f_side_sum T.fd_side_sum ["known", "side"] (spSideS T.kc 4) := ok_side_sum_R T 4

theorem ok_is_so (T : Txt K mg base) : FnOk P wd K mg base CX0 8 T.f_is_so T.fd_is_so ["known", "claim"] (spIsSo T.kc) := by
  refine T.F_is_so.ok sc_is_so (fun vs H Q E h => ?_) (fun cdv A outer s H vs Q E hr h => ?_)
  · obtain ⟨a, g, k, x, cl, rfl, ⟨dx, rw, ls, st, wh, ct, fa, ha, hk⟩, hB, hx, ok, q⟩ := h
    rfl
  · have hu := hu_of hr
    obtain ⟨a, g, k, x, cl, rfl, ⟨dx, rw, ls, st, wh, ct, fa, ha, hk⟩, hB, hx, ok, q⟩ := h
    refine ⟨_, (pss_cons (ps_asg (pv 1) (pg_tup (n := 3) rfl (pgs_cons (pg_name (i := 2) sc_is_so.nd rfl (Or.inl rfl)) (pgs_cons (pg_name (i := 3) sc_is_so.nd rfl (Or.inl rfl)) (pgs_cons (pg_name (i := 4) sc_is_so.nd rfl (Or.inl rfl)) pgs_nil))))) (pss_cons (ps_set (i := 5) sc_is_so.nd rfl (Or.inl rfl) (pe_call (ok_plus T) (hr.mono (by decide)) (by rfl) T.g_plus T.F_plus.kp T.b_plus .nil pass0 (pa_cons (pe_call (ok_side_sum T) (hr.mono (by decide)) (by rfl) T.g_side_sum T.F_side_sum.kp T.b_side_sum .nil pass0 (pa_cons (pv 0) (pa_cons (pv 4) pa_nil))) (pa_cons (pe_un un_neg pe_int) (pa_cons (pe_call (ok_side_sum T) (hr.mono (by decide)) (by rfl) T.g_side_sum T.F_side_sum.kp T.b_side_sum .nil pass0 (pa_cons (pv 0) (pa_cons (pv 3) pa_nil))) pa_nil))))) (pss_cons (ps_if (pt_cmpR (k_eq K rfl hr.units) (pv 2) pe_str (nomark _)) (pss_one (ps_ret (pe_cmpR (Td.op_eqT hr.units) (pv 5) pe_dnewT (nomark _)))) pss_nil) (pss_cons (ps_if (pt_cmpR (k_notN) (pe_fld (pv 0) (by rfl)) pe_non (nomark _)) (pss_cons (ps_asg (pe_fld (pv 0) (by rfl)) (pg_tup (n := 2) rfl (pgs_cons (pg_name (i := 6) sc_is_so.nd rfl (Or.inl rfl)) (pgs_cons (pg_name (i := 7) sc_is_so.nd rfl (Or.inl rfl)) pgs_nil)))) (pss_one (ps_if (pt_cmpR (Td.op_eqT hr.units) (pv 5) (pe_call (ok_plus T) (hr.mono (by decide)) (by rfl) T.g_plus T.F_plus.kp T.b_plus .nil pass0 (pa_cons (pe_call (ok_plus T) (hr.mono (by decide)) (by rfl) T.g_plus T.F_plus.kp T.b_plus .nil pass0 (pa_cons pe_dnewT (pa_cons (pv 7) (pa_cons (pv 6) pa_nil)))) (pa_cons (pe_un un_neg pe_int) (pa_cons (pe_ix (k_ix K rfl) (pe_fld (pv 0) (by rfl)) pe_int (fun _ _ => rfl)) pa_nil)))) (nomark _)) (pss_one (ps_ret pe_bl)) pss_nil))) pss_nil) (pss_one (ps_ret (pe_cmpR (op_ge) (pe_call (ok_least_of T) (hr.mono (by decide)) (by rfl) T.g_least_of T.F_least_of.kp T.b_least_of .nil pass0 (pa_cons (pv 5) (pa_cons (pe_fld (pv 0) (by rfl)) pa_nil))) pe_int (nomark _)))))))), ?_⟩
    dsimp only [cxOf, L2.start, List.map_cons, List.map_nil, List.length_cons, List.length_nil, List.replicate, List.cons_append, List.nil_append, Nat.reduceAdd, Nat.reduceSub]
    obtain ⟨xp, xq, hT, hp, hq⟩ := hx
    have hg := hk.gr
    obtain ⟨dw, hwT, hwh, hwd⟩ := hk.wh.sq (K := K)
    walk_at "rs"
    refine ⟨a, g, k, xq, cl.q, rfl, ok.dq, KnH.mk ha hk, hB, hq, ok.q, fun d1 H1 s1 h1 => ?_⟩
    walk_at "rs"
    refine ⟨a, g, k, xp, cl.p, rfl, ok.dp, KnH.same s1 (KnH.mk ha hk), hB, hp.tn s1.tn, ok.p, fun d2 H2 s2 h2 => ?_⟩
    walk_at "rs"
    refine ⟨d1, d2, _, _, -1, rfl, h1.same s2, h2, ⟨by decide, by decide⟩, ok.sz, fun d3 H3 s3 h3 => ?_⟩
    have s03 := (s1.trans s2).trans s3
    have h3 : Sd H3 d3 (gapS k cl) := h3
    have ha3 := s03 _ _ ha
    have hk3 := hk.same s03
    have hw3 := SqT.tn s03.tn hwT
    walk_at "rs"
    have q2 : ∀ r : Bool, isSoK k cl = r → ∀ H', Same H H' → Q (.bl r) H' := fun r e => e ▸ q
    unfold isSoK at q2
    refine w_iteN2 (fun c => ?_) (fun c => ?_)
    · have cl0 : cl.less = false := by
        cases e : cl.less with
        | false => rfl
        | true =>
          rw [e] at c
          exact absurd c (by decide +kernel)
      walk_at "rs"
      refine w_dnewT fun p4 H4 hp4 s4 h4 => ?_
      walk_at "rs"
      refine w_eqT (.inl (h3.same s4).1) (.inl h4) ?_
      walk_at "rs"
      exact q2 _ (if_neg (by rw [cl0]; exact Bool.false_ne_true)) H4 (s03.trans s4)
    have cl1 : cl.less = true := by
      cases e : cl.less with
      | true => rfl
      | false =>
        rw [e] at c
        exact absurd (show My.claW false = "same" by decide +kernel) c
    have q3 : ∀ r : Bool, (match k.fact with
      | some (u, e) => eqS (gapS k cl) (factS k u e) || decide (1 ≤ leS k.gr (gapS k cl))
      | none => decide (1 ≤ leS k.gr (gapS k cl))) = r → ∀ H', Same H H' → Q (.bl r) H' := fun r e => q2 r (by rw [if_pos cl1]; exact e)
    walk_at "rs"
    rcases hk3.fa.cases with ⟨rfl, ef⟩ | ⟨fad, dd, u, e, rfl, ef, hfa, hfd⟩
    · walk_at "rs"
      obtain ⟨l1, l2, l3⟩ := ok.lt cl1 (fun u e h => by rw [ef] at h; cases h)
      rw [ef] at q3
      refine ⟨d3, g, gapS k cl, k.gr, rfl, h3, hk3.gr, l1, l2, l3, fun H9 s9 => ?_⟩
      walk_at "rs"
      exact q3 _ rfl H9 (s03.trans s9)
    · have hfT : SqT K H3 fad [.ref dd, .int e] := SqT.of hfa
      obtain ⟨f1, f2⟩ := ok.fc cl1 u e ef
      rw [ef] at q3
      walk_at "rs"
      refine w_dnewT fun p4 H4 hp4 s4 h4 => ?_
      walk_at "rs"
      refine ⟨p4, dd, [], u, e, rfl, ⟨h4, List.nodup_nil⟩, hfd.same s4, f1, by
        show 0 + u.length < sizeLine
        omega, fun p5 H5 s5 h5 => ?_⟩
      have s35 := s4.trans s5
      have ha5 := s35 _ _ ha3
      have hw5 := SqT.tn s35.tn hw3
      walk_at "rs"
      refine ⟨p5, dw, _, k.wh.s, -1, rfl, h5, hwd.same (s03.trans s35), ⟨by decide, by decide⟩, by
        have l := len_plus [] u e
        have e0 : ([] : Sm).length = 0 := rfl
        omega, fun p6 H6 s6 h6 => ?_⟩
      have s36 := s35.trans s6
      have ha6 := s36 _ _ ha3
      walk_at "rs"
      refine w_eqT (.inl (h3.same s36).1) (.inl h6.1) ?_
      walk_at "rs"
      refine w_iteB (fun c2 => ?_) (fun c2 => ?_)
      · walk_at "rs"
        exact q3 _ (by dsimp only; rw [show eqS (gapS k cl) (factS k u e) = true from c2]; rfl) H6 (s03.trans s36)
      · obtain ⟨l1, l2, l3⟩ := ok.lt cl1 (fun u' e' h => by
          rw [ef] at h
          cases h
          exact c2)
        walk_at "rs"
        refine ⟨d3, g, gapS k cl, k.gr, rfl, h3.same s36, s36 _ _ hk3.gr, l1, l2, l3, fun H9 s9 => ?_⟩
        walk_at "rs"
        exact q3 _ (by dsimp only; rw [show eqS (gapS k cl) (factS k u e) = false from c2]; rfl) H9 ((s03.trans s36).trans s9)


theorem ok_is_side_0 (T : Txt K mg base) : FnOk P wd K mg base CX0 1 T.f_is_side T.fd_is_side ["figures", "side", "deep"] (spIsSide K 0) := by
  refine T.F_is_side.ok sc_is_side (fun vs H Q E h => ?_) (fun cdv A outer s H vs Q E hr h => ?_)
  · obtain ⟨f, a, ins, p, k, rfl, hk, hf, hp, q⟩ := h
    rfl
  · have hu := hu_of hr
    obtain ⟨f, a, ins, p, k, rfl, hk, hf, hp, q⟩ := h
    refine ⟨_, (pss_cons (ps_if (pt_cmpR (k_eq K rfl hr.units) (pv 2) pe_int (nomark _)) (pss_one (ps_ret pe_bl)) pss_nil) (pss_cons (ps_matchQ (pv 1) (pm_case K rfl (is := [3]) rfl sc_is_side.nd (.cons .nil) (.cons rfl (Or.inl rfl) (.inr rfl) .nil) (pss_one (ps_ret (pe_chain (op_le) (op_le) pe_int (pv 3) (pe_glob (v := .int 1000000000) (by rfl) T.c_MOST_NUMBER ⟨_, rfl⟩)))) (pm_case K rfl (is := []) rfl sc_is_side.nd .nil .nil (pss_one (ps_ret pe_bl)) (pm_case K rfl (is := []) rfl sc_is_side.nd .nil .nil (pss_one (ps_ret pe_bl)) (pm_case K rfl (is := [4]) rfl sc_is_side.nd (.cons .nil) (.cons rfl (Or.inl rfl) (.inr rfl) .nil) (pss_one (ps_ret (pe_cmp (pc_din hu (pv 4) (pv 0))))) (pm_case K rfl (is := [5, 6]) rfl sc_is_side.nd (.cons (.cons .nil)) (.cons rfl (Or.inl rfl) (.inr rfl) (.cons rfl (Or.inl rfl) (.inr rfl) .nil)) (pss_one (ps_ret (pe_and pe_no (pe_one pe_no)))) (pm_case K rfl (is := [5, 6]) rfl sc_is_side.nd (.cons (.cons .nil)) (.cons rfl (Or.inl rfl) (.inr rfl) (.cons rfl (Or.inl rfl) (.inr rfl) .nil)) (pss_one (ps_ret (pe_and pe_no (pe_one pe_no)))) pm_nil rfl) rfl) rfl) rfl) rfl) rfl)) (pss_one (ps_ret pe_bl)))), ?_⟩
    dsimp only [cxOf, L2.start, List.map_cons, List.map_nil, List.length_cons, List.length_nil, List.replicate, List.cons_append, List.nil_append, Nat.reduceAdd, Nat.reduceSub]
    obtain rfl : k = 0 := by omega
    walk_at "rs"
    have e : sidOk ins p 0 = false := by cases p <;> rfl
    exact e ▸ q
theorem ok_is_side_S (T : Txt K mg base) {n : Nat} (ih : FnOk P wd K mg base CX0 (1 + n) T.f_is_side T.fd_is_side ["figures", "side", "deep"] (spIsSide K n)) : FnOk P wd K mg base CX0 (1 + n + 1) T.f_is_side T.fd_is_side ["figures", "side", "deep"] (spIsSide K (n + 1)) := by
  refine T.F_is_side.ok sc_is_side (fun vs H Q E h => ?_) (fun cdv A outer s H vs Q E hr h => ?_)
  · obtain ⟨f, a, ins, p, k, rfl, hk, hf, hp, q⟩ := h
    rfl
  · have hu := hu_of hr
    obtain ⟨f, a, ins, p, k, rfl, hk, hf, hp, q⟩ := h
    refine ⟨_, (pss_cons (ps_if (pt_cmpR (k_eq K rfl hr.units) (pv 2) pe_int (nomark _)) (pss_one (ps_ret pe_bl)) pss_nil) (pss_cons (ps_matchQ (pv 1) (pm_case K rfl (is := [3]) rfl sc_is_side.nd (.cons .nil) (.cons rfl (Or.inl rfl) (.inr rfl) .nil) (pss_one (ps_ret (pe_chain (op_le) (op_le) pe_int (pv 3) (pe_glob (v := .int 1000000000) (by rfl) T.c_MOST_NUMBER ⟨_, rfl⟩)))) (pm_case K rfl (is := []) rfl sc_is_side.nd .nil .nil (pss_one (ps_ret pe_bl)) (pm_case K rfl (is := []) rfl sc_is_side.nd .nil .nil (pss_one (ps_ret pe_bl)) (pm_case K rfl (is := [4]) rfl sc_is_side.nd (.cons .nil) (.cons rfl (Or.inl rfl) (.inr rfl) .nil) (pss_one (ps_ret (pe_cmp (pc_din hu (pv 4) (pv 0))))) (pm_case K rfl (is := [5, 6]) rfl sc_is_side.nd (.cons (.cons .nil)) (.cons rfl (Or.inl rfl) (.inr rfl) (.cons rfl (Or.inl rfl) (.inr rfl) .nil)) (pss_one (ps_ret (pe_and (pe_call ih hr (by rfl) T.g_is_side T.F_is_side.kp T.b_is_side .nil pass0 (pa_cons (pv 0) (pa_cons (pv 5) (pa_cons (pe_op op_sub (pv 2) pe_int) pa_nil)))) (pe_one (pe_call ih hr (by rfl) T.g_is_side T.F_is_side.kp T.b_is_side .nil pass0 (pa_cons (pv 0) (pa_cons (pv 6) (pa_cons (pe_op op_sub (pv 2) pe_int) pa_nil)))))))) (pm_case K rfl (is := [5, 6]) rfl sc_is_side.nd (.cons (.cons .nil)) (.cons rfl (Or.inl rfl) (.inr rfl) (.cons rfl (Or.inl rfl) (.inr rfl) .nil)) (pss_one (ps_ret (pe_and (pe_call ih hr (by rfl) T.g_is_side T.F_is_side.kp T.b_is_side .nil pass0 (pa_cons (pv 0) (pa_cons (pv 5) (pa_cons (pe_op op_sub (pv 2) pe_int) pa_nil)))) (pe_one (pe_call ih hr (by rfl) T.g_is_side T.F_is_side.kp T.b_is_side .nil pass0 (pa_cons (pv 0) (pa_cons (pv 6) (pa_cons (pe_op op_sub (pv 2) pe_int) pa_nil)))))))) pm_nil rfl) rfl) rfl) rfl) rfl) rfl)) (pss_one (ps_ret pe_bl)))), ?_⟩
    dsimp only [cxOf, L2.start, List.map_cons, List.map_nil, List.length_cons, List.length_nil, List.replicate, List.cons_append, List.nil_append, Nat.reduceAdd, Nat.reduceSub]
    walk_at "rs"
    have nx : ∀ {k : Str} {z : Str} {ys : List V} {is : List Nat} {tb : TS} {tr : V → TS} {D : Ends} {σ : St}, SqT K H a (.str z :: ys) → ys.length ≤ 1000 → z ≠ k → tr (.ref a) D σ H → tCase K k is tb tr (.ref a) D σ H := fun h1 h2 h3 h4 => w_caseN h1 (fun e => h3 e.1) h2 h4
    cases k with
    | zero =>
      walk_at "rs"
      have e : sidOk ins p 0 = false := by cases p <;> rfl
      exact e ▸ q
    | succ k =>
    refine w_iteE (by omega) ?_
    walk_at "rs"
    have two : ∀ (r1 r2 : Bool) (p1 p2 : Sid), sidOk ins p (k + 1) = (sidOk ins p1 k && sidOk ins p2 k) → sidOk ins p1 k = r1 → (r1 = true → sidOk ins p2 k = r2) → Q (.bl (if r1 = true then r2 else false)) H := fun r1 r2 p1 p2 e e1 e2 => by
      rw [e, e1] at q
      cases r1 with
      | true => rw [e2 rfl] at q; exact q
      | false => exact q
    cases hp with
    | @num _ n h =>
      refine w_caseY h rfl (by simp) ?_
      dsimp only [setAll]
      walk_at "rs"
      have e : sidOk ins (.num n) (k + 1) = (decide (0 ≤ n) && decide (n ≤ 1000000000)) := rfl
      refine w_ite (fun g1 => ?_) (fun g1 => ?_)
      · walk_at "rs"
        rw [e, decide_eq_true g1] at q
        exact q
      · rw [e, decide_eq_false g1] at q
        exact q
    | wheels h =>
      refine nx h (by simp) (by decide +kernel) ?_
      refine w_caseY h rfl (by simp) ?_
      dsimp only [setAll]
      walk_at "rs"
      exact q
    | counts h =>
      refine nx h (by simp) (by decide +kernel) ?_
      refine nx h (by simp) (by decide +kernel) ?_
      refine w_caseY h rfl (by simp) ?_
      dsimp only [setAll]
      walk_at "rs"
      exact q
    | @inp _ n h =>
      refine nx h (by simp) (by decide +kernel) ?_
      refine nx h (by simp) (by decide +kernel) ?_
      refine nx h (by simp) (by decide +kernel) ?_
      refine w_caseY h rfl (by simp) ?_
      dsimp only [setAll]
      walk_at "rs"
      refine w_dinS hf ?_
      rw [figsD_val]
      have e : sidOk ins (.inp n) (k + 1) = (figsOf ins n).isSome := rfl
      rw [e] at q
      cases ef : figsOf ins n <;> (rw [ef] at q; exact q)
    | @add _ x y p1 p2 h hx hy =>
      refine nx h (by simp) (by decide +kernel) ?_
      refine nx h (by simp) (by decide +kernel) ?_
      refine nx h (by simp) (by decide +kernel) ?_
      refine nx h (by simp) (by decide +kernel) ?_
      refine w_caseY h rfl (by simp) ?_
      dsimp only [setAll]
      walk_at "rs"
      refine ⟨f, x, ins, p1, k, by simp, by omega, hf, hx, ?_⟩
      refine ⟨_, rfl, ?_⟩
      cases e1 : sidOk ins p1 k with
      | true =>
        walk_at "rs"
        refine ⟨f, y, ins, p2, k, by simp, by omega, hf, hy, ?_⟩
        exact two true _ p1 p2 rfl e1 fun _ => rfl
      | false =>
        walk_at "rs"
        exact two false false p1 p2 rfl e1 fun z => Bool.noConfusion z
    | @times _ x y p1 p2 h hx hy =>
      refine nx h (by simp) (by decide +kernel) ?_
      refine nx h (by simp) (by decide +kernel) ?_
      refine nx h (by simp) (by decide +kernel) ?_
      refine nx h (by simp) (by decide +kernel) ?_
      refine nx h (by simp) (by decide +kernel) ?_
      refine w_caseY h rfl (by simp) ?_
      dsimp only [setAll]
      walk_at "rs"
      refine ⟨f, x, ins, p1, k, by simp, by omega, hf, hx, ?_⟩
      refine ⟨_, rfl, ?_⟩
      cases e1 : sidOk ins p1 k with
      | true =>
        walk_at "rs"
        refine ⟨f, y, ins, p2, k, by simp, by omega, hf, hy, ?_⟩
        exact two true _ p1 p2 rfl e1 fun _ => rfl
      | false =>
        walk_at "rs"
        exact two false false p1 p2 rfl e1 fun z => Bool.noConfusion z
theorem ok_is_side_R (T : Txt K mg base) : ∀ n : Nat, FnOk P wd K mg base CX0 (1 + n) T.f_is_side T.fd_is_side ["figures", "side", "deep"] (spIsSide K n)
  | 0 => ok_is_side_0 T
  | n + 1 => ok_is_side_S T (ok_is_side_R T n)
theorem ok_is_side (T : Txt K mg base) : FnOk P wd K mg base CX0 5 T.f_is_side T.fd_is_side ["figures", "side", "deep"] (spIsSide K 4) := ok_is_side_R T 4

theorem ok_is_claim (T : Txt K mg base) : FnOk P wd K mg base CX0 6 T.f_is_claim T.fd_is_claim ["figures", "claim"] (spIsClaim K) := by
  refine T.F_is_claim.ok sc_is_claim (fun vs H Q E h => ?_) (fun cdv A outer s H vs Q E hr h => ?_)
  · obtain ⟨f, a, ins, c, rfl, hf, hc, q⟩ := h
    rfl
  · have hu := hu_of hr
    obtain ⟨f, a, ins, c, rfl, hf, hc, q⟩ := h
    refine ⟨_, (pss_cons (ps_if (PW.pt (pw_or (pt_cmpR (k_ne K rfl hr.units) (pe_callB (k_len K rfl) (by rfl) T.n_len (by decide +kernel) (pa_cons (pv 1) pa_nil)) pe_int (nomark _)) (pw_or1 (pt_cmpR (k_ni K rfl) (pe_ix (k_ix K rfl) (pv 1) pe_int (fun _ _ => rfl)) (pe_glob (v := .ref T.a_CLAIM_WORDS) (by rfl) T.c_CLAIM_WORDS rfl) rfl)))) (pss_one (ps_ret pe_bl)) pss_nil) (pss_one (ps_ret (pe_and (pe_call (ok_is_side T) (hr.mono (by decide)) (by rfl) T.g_is_side T.F_is_side.kp T.b_is_side .nil pass0 (pa_cons (pv 0) (pa_cons (pe_ix (k_ix K rfl) (pv 1) pe_int (fun _ _ => rfl)) (pa_cons (pe_glob (v := .int 4) (by rfl) T.c_MOST_DEEP ⟨_, rfl⟩) pa_nil)))) (pe_one (pe_call (ok_is_side T) (hr.mono (by decide)) (by rfl) T.g_is_side T.F_is_side.kp T.b_is_side .nil pass0 (pa_cons (pv 0) (pa_cons (pe_ix (k_ix K rfl) (pv 1) pe_int (fun _ _ => rfl)) (pa_cons (pe_glob (v := .int 4) (by rfl) T.c_MOST_DEEP ⟨_, rfl⟩) pa_nil))))))))), ?_⟩
    dsimp only [cxOf, L2.start, List.map_cons, List.map_nil, List.length_cons, List.length_nil, List.replicate, List.cons_append, List.nil_append, Nat.reduceAdd, Nat.reduceSub]
    obtain ⟨x, y, h0, h1, h2⟩ := hc
    walk_at "rs"
    refine w_niST (ns := ["same", "less"]) (T.s_CLAIM_WORDS H) ?_
    have e : decide (claW c.less ∈ (["same", "less"] : List Str)) = true := by cases c.less <;> decide +kernel
    rw [e]
    walk_at "rs"
    refine ⟨f, x, ins, c.p, 4, rfl, by omega, hf, h1, ?_⟩
    walk_at "rs"
    cases e1 : sidOk ins c.p 4 with
    | true =>
      walk_at "rs"
      refine ⟨f, y, ins, c.q, 4, rfl, by omega, hf, h2, ?_⟩
      have e2 : claOk ins c = sidOk ins c.q 4 := by unfold claOk; rw [e1]; rfl
      exact e2 ▸ q
    | false =>
      walk_at "rs"
      have e2 : claOk ins c = false := by unfold claOk; rw [e1]; rfl
      exact e2 ▸ q

theorem ok_need_claims (T : Txt K mg base) : FnOk P wd K mg base CX0 7 T.f_need_claims T.fd_need_claims ["figures", "claims"] (spNeedClaims K) := by
  refine T.F_need_claims.ok sc_need_claims (fun vs H Q E h => ?_) (fun cdv A outer s H vs Q E hr h => ?_)
  · obtain ⟨f, x, ins, xs, cs, rfl, hf, hx, hp, hlen, hok, q⟩ := h
    rfl
  · have hu := hu_of hr
    obtain ⟨f, x, ins, xs, cs, rfl, hf, hx, hp, hlen, hok, q⟩ := h
    refine ⟨_, (pss_cons (ps_if (pt_cmpR (op_gt) (pe_callB (k_len K rfl) (by rfl) T.n_len (by decide +kernel) (pa_cons (pv 1) pa_nil)) (pe_glob (v := .int 8) (by rfl) T.c_MOST_CLAIMS ⟨_, rfl⟩) (nomark _)) (pss_one ps_never) pss_nil) (pss_one (ps_for PassesOwn.never rfl (pi_en K rfl (by rfl) T.n_enumerate (pa_cons (pv 1) pa_nil)) (pg_tup (n := 2) rfl (pgs_cons (pg_name (i := 2) sc_need_claims.nd rfl (Or.inl rfl)) (pgs_cons (pg_name (i := 3) sc_need_claims.nd rfl (Or.inl rfl)) pgs_nil))) (pss_one (ps_if (pt_not (pt_val (pe_call (ok_is_claim T) (hr.mono (by decide)) (by rfl) T.g_is_claim T.F_is_claim.kp T.b_is_claim .nil pass0 (pa_cons (pv 0) (pa_cons (pv 3) pa_nil))))) (pss_one ps_never) pss_nil))))), ?_⟩
    dsimp only [cxOf, L2.start, List.map_cons, List.map_nil, List.length_cons, List.length_nil, List.replicate, List.cons_append, List.nil_append, Nat.reduceAdd, Nat.reduceSub]
    have hxl : xs.length = cs.length := paired_len hp
    walk_at "rs"
    refine w_iteE (by simp; omega) ?_
    walk_at "rs"
    refine w_enT hx ?_
    refine lp_en (fun i σ H' => Same H H' ∧ ∃ x1 x2, σ = [some (.ref f), some (.ref x), x1, x2]) ⟨Same.refl _, none, none, rfl⟩ (fun i σ H' _ hp => SqT.tn hp.1.tn hx) ?_ ?_
    · rintro i v σ H2 P0 H3 hv ⟨s2, x1, x2, rfl⟩ hP0 s3 h3
      obtain ⟨r, hr, rfl⟩ := map_ref hv
      obtain ⟨d, hd, hr0⟩ := paired_getL hp hr
      have good := hok d (List.mem_of_getElem? hd)
      have s23 := s2.trans s3
      walk_at "rs"
      refine ⟨f, r, ins, d, rfl, s23 _ _ hf, hr0.tn s23.tn, ?_⟩
      rw [good]
      walk_at "rs"
      exact ⟨s23, _, _, rfl⟩
    · rintro σ H2 ⟨s2, x1, x2, rfl⟩
      exact q H2 s2

theorem ok_is_deed (T : Txt K mg base) : FnOk P wd K mg base CX0 1 T.f_is_deed T.fd_is_deed ["figures", "deed"] (spIsDeed K) := by
  refine T.F_is_deed.ok sc_is_deed (fun vs H Q E h => ?_) (fun cdv A outer s H vs Q E hr h => ?_)
  · obtain ⟨f, a, ins, d, rfl, hf, hd, q⟩ := h
    rfl
  · have hu := hu_of hr
    obtain ⟨f, a, ins, d, rfl, hf, hd, q⟩ := h
    refine ⟨_, (pss_cons (ps_matchQ (pv 1) (pm_case K rfl (is := [2]) rfl sc_is_deed.nd (.cons .nil) (.cons rfl (Or.inl rfl) (.inr rfl) .nil) (pss_one (ps_ret (pe_cmp (pc_din hu (pv 2) (pv 0))))) (pm_case K rfl (is := []) rfl sc_is_deed.nd .nil .nil (pss_one (ps_ret pe_bl)) (pm_case K rfl (is := [3]) rfl sc_is_deed.nd (.cons .nil) (.cons rfl (Or.inl rfl) (.inr rfl) .nil) (pss_one (ps_ret pe_bl)) (pm_case K rfl (is := [4, 5]) rfl sc_is_deed.nd (.cons (.cons .nil)) (.cons rfl (Or.inl rfl) (.inr rfl) (.cons rfl (Or.inl rfl) (.inr rfl) .nil)) (pss_one (ps_ret (pe_and (pe_cmpR (k_in K rfl) (pv 4) (pe_glob (v := .ref T.a_WAYS) (by rfl) T.c_WAYS rfl) rfl) (pe_one (pe_cmpR (k_in K rfl) (pv 5) (pe_glob (v := .ref T.a_TALLIES) (by rfl) T.c_TALLIES rfl) rfl))))) (pm_case K rfl (is := [6]) rfl sc_is_deed.nd (.cons .nil) (.cons rfl (Or.inl rfl) (.inr rfl) .nil) (pss_one (ps_ret (pe_cmpR (k_in K rfl) (pv 6) (pe_glob (v := .ref T.a_WIPED) (by rfl) T.c_WIPED rfl) rfl))) (pm_case K rfl (is := [2, 7, 4, 5]) rfl sc_is_deed.nd (.cons (.cons (.cons (.cons .nil)))) (.cons rfl (Or.inl rfl) (.inr rfl) (.cons rfl (Or.inl rfl) (.inr rfl) (.cons rfl (Or.inl rfl) (.inr rfl) (.cons rfl (Or.inl rfl) (.inr rfl) .nil)))) (pss_one (ps_ret (pe_and (pe_cmp (pc_din hu (pv 2) (pv 0))) (pe_and (pe_chain (op_le) (op_lt) pe_int (pv 7) (pe_dget hu (pv 0) (pv 2) (fun _ _ => rfl))) (pe_and (pe_cmpR (k_in K rfl) (pv 4) (pe_glob (v := .ref T.a_WAYS) (by rfl) T.c_WAYS rfl) rfl) (pe_one (pe_cmpR (k_in K rfl) (pv 5) (pe_glob (v := .ref T.a_TALLIES) (by rfl) T.c_TALLIES rfl) rfl))))))) (pm_case K rfl (is := [5]) rfl sc_is_deed.nd (.cons .nil) (.cons rfl (Or.inl rfl) (.inr rfl) .nil) (pss_one (ps_ret (pe_cmpR (k_in K rfl) (pv 5) (pe_glob (v := .ref T.a_TALLIES) (by rfl) T.c_TALLIES rfl) rfl))) (pm_case K rfl (is := [5]) rfl sc_is_deed.nd (.cons .nil) (.cons rfl (Or.inl rfl) (.inr rfl) .nil) (pss_one (ps_ret (pe_cmpR (k_in K rfl) (pv 5) (pe_glob (v := .ref T.a_TALLIES) (by rfl) T.c_TALLIES rfl) rfl))) pm_nil rfl) rfl) rfl) rfl) rfl) rfl) rfl) rfl)) (pss_one (ps_ret pe_bl))), ?_⟩
    dsimp only [cxOf, L2.start, List.map_cons, List.map_nil, List.length_cons, List.length_nil, List.replicate, List.cons_append, List.nil_append, Nat.reduceAdd, Nat.reduceSub]
    have no : ∀ r : Bool, deeOk ins d = r → Q (.bl r) H := fun r e => e ▸ q
    walk_at "rs"
    have nx : ∀ {k : Str} {z : Str} {ys : List V} {is : List Nat} {tb : TS} {tr : V → TS} {D : Ends} {σ : St}, SqT K H a (.str z :: ys) → ys.length ≤ 1000 → z ≠ k → tr (.ref a) D σ H → tCase K k is tb tr (.ref a) D σ H := fun h1 h2 h3 h4 => w_caseN h1 (fun e => h3 e.1) h2 h4
    cases d with
    | load n =>
      refine w_caseY hd rfl (by simp) ?_
      dsimp only [setAll]
      walk_at "rs"
      refine w_dinS hf (no _ ?_)
      show (figsOf ins n).isSome = _
      rw [figsD_val]
      cases figsOf ins n <;> rfl
    | one =>
      refine nx hd (by simp) (by decide +kernel) ?_
      refine w_caseY hd rfl (by simp) ?_
      dsimp only [setAll]
      walk_at "rs"
      exact no _ rfl
    | shift y =>
      refine nx hd (by simp) (by decide +kernel) ?_
      refine nx hd (by simp) (by decide +kernel) ?_
      refine w_caseY hd rfl (by simp) ?_
      dsimp only [setAll]
      walk_at "rs"
      exact no _ rfl
    | turn x y =>
      refine nx hd (by simp) (by decide +kernel) ?_
      refine nx hd (by simp) (by decide +kernel) ?_
      refine nx hd (by simp) (by decide +kernel) ?_
      refine w_caseY hd rfl (by simp) ?_
      dsimp only [setAll]
      walk_at "rs"
      refine w_inT (ns := [1, -1]) (T.s_WAYS H) ?_
      walk_at "rs"
      refine w_ite (fun g1 => ?_) (fun g1 => ?_)
      · walk_at "rs"
        refine w_inT (ns := [-1, 0, 1]) (T.s_TALLIES H) ?_
        refine no _ ?_
        show (wayOk x && tallyOk y) = _
        rw [way_in, decide_eq_true g1, tally_in]
        rfl
      · refine no _ ?_
        show (wayOk x && tallyOk y) = _
        rw [way_in, decide_eq_false g1]
        rfl
    | wipe c =>
      refine nx hd (by simp) (by decide +kernel) ?_
      refine nx hd (by simp) (by decide +kernel) ?_
      refine nx hd (by simp) (by decide +kernel) ?_
      refine nx hd (by simp) (by decide +kernel) ?_
      refine w_caseY hd rfl (by simp) ?_
      dsimp only [setAll]
      walk_at "rs"
      refine w_inST (ns := ["wheels", "counts"]) (T.s_WIPED H) ?_
      have e : decide (wipeW c ∈ (["wheels", "counts"] : List Str)) = true := by cases c <;> decide +kernel
      rw [e]
      exact no _ rfl
    | turns n k x y =>
      refine nx hd (by simp) (by decide +kernel) ?_
      refine nx hd (by simp) (by decide +kernel) ?_
      refine nx hd (by simp) (by decide +kernel) ?_
      refine nx hd (by simp) (by decide +kernel) ?_
      refine nx hd (by simp) (by decide +kernel) ?_
      refine w_caseY hd rfl (by simp) ?_
      dsimp only [setAll]
      walk_at "rs"
      refine w_dinS hf ?_
      rw [figsD_val]
      cases ef : figsOf ins n with
      | none =>
        walk_at "rs"
        refine no _ ?_
        unfold deeOk
        simp only [ef]
      | some fg =>
        have e0 : deeOk ins (.turns n k x y) = (decide (0 ≤ k) && decide (k < fg) && wayOk x && tallyOk y) := by
          unfold deeOk
          simp only [ef]
        dsimp only [Option.map_some, Option.isSome_some]
        walk_at "rs"
        refine w_ite (fun g1 => ?_) (fun g1 => ?_)
        · walk_at "rs"
          refine w_dgetS (v := .int fg) hf (by rw [figsD_val, ef]; rfl) ?_
          walk_at "rs"
          refine w_ite (fun g2 => ?_) (fun g2 => ?_)
          · walk_at "rs"
            refine w_inT (ns := [1, -1]) (T.s_WAYS H) ?_
            walk_at "rs"
            refine w_ite (fun g3 => ?_) (fun g3 => ?_)
            · walk_at "rs"
              refine w_inT (ns := [-1, 0, 1]) (T.s_TALLIES H) ?_
              refine no _ ?_
              rw [e0, way_in, decide_eq_true g3, tally_in, decide_eq_true g1, decide_eq_true g2]
              rfl
            · refine no _ ?_
              rw [e0, way_in, decide_eq_false g3]
              simp
          · walk_at "rs"
            refine no _ ?_
            rw [e0, decide_eq_false g2]
            simp
        · walk_at "rs"
          refine no _ ?_
          rw [e0, decide_eq_false g1]
          simp
    | bell y =>
      refine nx hd (by simp) (by decide +kernel) ?_
      refine nx hd (by simp) (by decide +kernel) ?_
      refine nx hd (by simp) (by decide +kernel) ?_
      refine nx hd (by simp) (by decide +kernel) ?_
      refine nx hd (by simp) (by decide +kernel) ?_
      refine nx hd (by simp) (by decide +kernel) ?_
      refine w_caseY hd rfl (by simp) ?_
      dsimp only [setAll]
      walk_at "rs"
      refine w_inT (ns := [-1, 0, 1]) (T.s_TALLIES H) ?_
      exact no _ (tally_in y)
    | odds y =>
      refine nx hd (by simp) (by decide +kernel) ?_
      refine nx hd (by simp) (by decide +kernel) ?_
      refine nx hd (by simp) (by decide +kernel) ?_
      refine nx hd (by simp) (by decide +kernel) ?_
      refine nx hd (by simp) (by decide +kernel) ?_
      refine nx hd (by simp) (by decide +kernel) ?_
      refine nx hd (by simp) (by decide +kernel) ?_
      refine w_caseY hd rfl (by simp) ?_
      dsimp only [setAll]
      walk_at "rs"
      refine w_inT (ns := [-1, 0, 1]) (T.s_TALLIES H) ?_
      exact no _ (tally_in y)

theorem ok_need_deeds (T : Txt K mg base) : FnOk P wd K mg base CX0 2 T.f_need_deeds T.fd_need_deeds ["figures", "deeds"] (spNeedDeeds K) := by
  refine T.F_need_deeds.ok sc_need_deeds (fun vs H Q E h => ?_) (fun cdv A outer s H vs Q E hr h => ?_)
  · obtain ⟨f, x, ins, xs, ds, rfl, hf, hx, hp, hlen, hok, q⟩ := h
    rfl
  · have hu := hu_of hr
    obtain ⟨f, x, ins, xs, ds, rfl, hf, hx, hp, hlen, hok, q⟩ := h
    refine ⟨_, (pss_cons (ps_if (pt_cmpR (op_gt) (pe_callB (k_len K rfl) (by rfl) T.n_len (by decide +kernel) (pa_cons (pv 1) pa_nil)) (pe_glob (v := .int 40) (by rfl) T.c_MOST_DEEDS ⟨_, rfl⟩) (nomark _)) (pss_one ps_never) pss_nil) (pss_one (ps_for PassesOwn.never rfl (pi_en K rfl (by rfl) T.n_enumerate (pa_cons (pv 1) pa_nil)) (pg_tup (n := 2) rfl (pgs_cons (pg_name (i := 2) sc_need_deeds.nd rfl (Or.inl rfl)) (pgs_cons (pg_name (i := 3) sc_need_deeds.nd rfl (Or.inl rfl)) pgs_nil))) (pss_one (ps_if (pt_not (pt_val (pe_call (ok_is_deed T) (hr.mono (by decide)) (by rfl) T.g_is_deed T.F_is_deed.kp T.b_is_deed .nil pass0 (pa_cons (pv 0) (pa_cons (pv 3) pa_nil))))) (pss_one ps_never) pss_nil))))), ?_⟩
    dsimp only [cxOf, L2.start, List.map_cons, List.map_nil, List.length_cons, List.length_nil, List.replicate, List.cons_append, List.nil_append, Nat.reduceAdd, Nat.reduceSub]
    have hxl : xs.length = ds.length := paired_len hp
    walk_at "rs"
    refine w_iteE (by simp; omega) ?_
    walk_at "rs"
    refine w_enT hx ?_
    refine lp_en (fun i σ H' => Same H H' ∧ ∃ x1 x2, σ = [some (.ref f), some (.ref x), x1, x2]) ⟨Same.refl _, none, none, rfl⟩ (fun i σ H' _ hp => SqT.tn hp.1.tn hx) ?_ ?_
    · rintro i v σ H2 P0 H3 hv ⟨s2, x1, x2, rfl⟩ hP0 s3 h3
      obtain ⟨r, hr, rfl⟩ := map_ref hv
      obtain ⟨d, hd, hr0⟩ := paired_getL hp hr
      have good := hok d (List.mem_of_getElem? hd)
      have s23 := s2.trans s3
      walk_at "rs"
      refine ⟨f, r, ins, d, rfl, s23 _ _ hf, hr0.tn s23.tn, ?_⟩
      rw [good]
      walk_at "rs"
      exact ⟨s23, _, _, rfl⟩
    · rintro σ H2 ⟨s2, x1, x2, rfl⟩
      exact q H2 s2

theorem ok_is_name (T : Txt K mg base) : FnOk P wd K mg base CX0 1 T.f_is_name T.fd_is_name ["name"] (spIsName T.tp_is_name) := by
  refine T.F_is_name.okC sc_is_name (fun vs H Q E h => ?_) (fun cdv hc A outer s H vs Q E hr h => ?_)
  · obtain ⟨n, rfl, hn, htab, q⟩ := h
    rfl
  · have hu := hu_of hr
    obtain ⟨n, rfl, hn, htab, q⟩ := h
    refine ⟨_, (pss_cons (ps_if (PW.pt (pw_or (pt_not (pt_chain (op_le) (op_le) pe_int (pe_callB (k_len K rfl) (by rfl) T.n_len (by decide +kernel) (pa_cons (pv 0) pa_nil)) (pe_glob (v := .int 8) (by rfl) T.c_LONGEST_NAME ⟨_, rfl⟩))) (pw_or1 (pt_cmpR (k_in K rfl) (pv 0) (pe_glob (v := .ref T.a_NO_NAMES) (by rfl) T.c_NO_NAMES rfl) rfl)))) (pss_one (ps_ret pe_bl)) pss_nil) (pss_one (ps_ret (Tg.pe_allG hr (by rfl) T.n_all T.tb_is_name (hc.symm.trans T.cd_is_name) (Tg.genS_by rfl rfl rfl rfl rfl rfl) (pv 0) (Tg.elt_inG rfl rfl (by rfl) T.c_SMALL_LETTERS))))), ?_⟩
    dsimp only [cxOf, L2.start, List.map_cons, List.map_nil, List.length_cons, List.length_nil, List.replicate, List.cons_append, List.nil_append, Nat.reduceAdd, Nat.reduceSub]
    have no : ∀ r : Bool, nameOk n = r → ∀ H', Tg.SmT T.tp_is_name H H' → Q (.bl r) H' := fun r e H' s => e ▸ q H' s
    walk_at "rs"
    refine w_lenS (z := n) (by omega) ?_
    walk_at "rs"
    refine w_ite (fun g1 => ?_) (fun g1 => ?_)
    · walk_at "rs"
      refine w_iteN (fun g2 => ?_) (fun g2 => ?_)
      · walk_at "rs"
        exact no false (by unfold nameOk; rw [decide_eq_false (p := n.length ≤ 8) (by omega)]; simp) _ (Tg.SmT.refl _)
      · walk_at "rs"
        refine w_inST (ns := ["wheels", "counts"]) (T.s_NO_NAMES H) ?_
        walk_at "rs"
        refine w_ite (fun g3 => ?_) (fun g3 => ?_)
        · walk_at "rs"
          exact no false (by unfold nameOk; rw [decide_eq_true (p := n ∈ _) g3]; simp) _ (Tg.SmT.refl _)
        · walk_at "rs"
          refine ⟨n, rfl, htab, fun H2 h2 => no _ ?_ _ (Tg.SmT.of_tabbed htab h2)⟩
          unfold nameOk
          rw [decide_eq_true (p := 1 ≤ n.length) (by omega), decide_eq_true (p := n.length ≤ 8) (by omega), decide_eq_false (p := n ∈ _) g3]
          rfl
    · walk_at "rs"
      exact no false (by unfold nameOk; rw [decide_eq_false (p := 1 ≤ n.length) (by omega)]; simp) _ (Tg.SmT.refl _)

theorem ok_is_input (T : Txt K mg base) : FnOk P wd K mg base CX0 2 T.f_is_input T.fd_is_input ["machine", "row", "names"] (spIsInput K T.tp_is_name) := by
  refine T.F_is_input.ok sc_is_input (fun vs H Q E h => ?_) (fun cdv A outer s H vs Q E hr h => ?_)
  · obtain ⟨m, r, l, b, s, w, c, i, ns, rfl, hM, hr0, hl, hi, htab, q⟩ := h
    rfl
  · have hu := hu_of hr
    obtain ⟨m, r, l, b, s, w, c, i, ns, rfl, hM, hr0, hl, hi, htab, q⟩ := h
    refine ⟨_, (pss_cons (ps_if (pt_cmpR (k_ne K rfl hr.units) (pe_callB (k_len K rfl) (by rfl) T.n_len (by decide +kernel) (pa_cons (pv 1) pa_nil)) pe_int (nomark _)) (pss_one (ps_ret pe_bl)) pss_nil) (pss_cons (ps_asg (pv 1) (pg_tup (n := 3) rfl (pgs_cons (pg_name (i := 3) sc_is_input.nd rfl (Or.inl rfl)) (pgs_cons (pg_name (i := 4) sc_is_input.nd rfl (Or.inl rfl)) (pgs_cons (pg_name (i := 5) sc_is_input.nd rfl (Or.inl rfl)) pgs_nil))))) (pss_cons (ps_if (PW.pt (pw_or (pt_cmpR (k_in K rfl) (pv 3) (pv 2) rfl) (pw_or1 (pt_not (pt_val (pe_call (ok_is_name T) (hr.mono (by decide)) (by rfl) T.g_is_name T.F_is_name.kp T.b_is_name .nil pass0 (pa_cons (pv 3) pa_nil))))))) (pss_one (ps_ret pe_bl)) pss_nil) (pss_one (ps_ret (pe_and (pe_chain (op_le) (op_le) pe_int (pv 4) (pe_ix (k_ix K rfl) (pv 0) pe_int (fun _ _ => rfl))) (pe_one (pe_cmpR (k_in K rfl) (pv 5) (pe_glob (v := .ref T.a_LEASTS) (by rfl) T.c_LEASTS rfl) rfl)))))))), ?_⟩
    dsimp only [cxOf, L2.start, List.map_cons, List.map_nil, List.length_cons, List.length_nil, List.replicate, List.cons_append, List.nil_append, Nat.reduceAdd, Nat.reduceSub]
    have hM' : SqT K H m [.int b, .int s, .int w, .int c] := hM
    have hr' : SqT K H r [.str i.nm, .int i.fg, .int i.ls] := hr0
    have no : ∀ r : Bool, inputOk s ns i = r → ∀ H', Tg.SmT T.tp_is_name H H' → Q (.bl r) H' := fun r e H' s => e ▸ q H' s
    walk_at "rs"
    refine w_inS (ns := ns) hl ?_
    walk_at "rs"
    refine w_ite (fun g1 => ?_) (fun g1 => ?_)
    · walk_at "rs"
      exact no false (by unfold inputOk; rw [decide_eq_true g1]; simp) _ (Tg.SmT.refl _)
    · walk_at "rs"
      refine ⟨i.nm, rfl, hi, htab, fun H1 s1 => ?_⟩
      walk_at "rs"
      cases e2 : nameOk i.nm with
      | false =>
        walk_at "rs"
        exact no false (by unfold inputOk; rw [e2]; simp) _ s1
      | true =>
        have hM1 := SqT.tn s1.tn hM'
        walk_at "rs"
        refine w_ite (fun g3 => ?_) (fun g3 => ?_)
        · walk_at "rs"
          refine w_ite (fun g4 => ?_) (fun g4 => ?_)
          · walk_at "rs"
            refine w_inT (ns := [0, 1]) (T.s_LEASTS H1) ?_
            refine no _ ?_ _ s1
            unfold inputOk
            rw [e2, decide_eq_false g1, decide_eq_true (p := 1 ≤ i.fg) g3, decide_eq_true (p := i.fg ≤ s) g4]
            simp
          · walk_at "rs"
            exact no false (by unfold inputOk; rw [e2, decide_eq_false (p := i.fg ≤ s) g4]; simp) _ s1
        · walk_at "rs"
          exact no false (by unfold inputOk; rw [e2, decide_eq_false (p := 1 ≤ i.fg) (by omega)]; simp) _ s1

theorem ok_need_inputs (T : Txt K mg base) : FnOk P wd K mg base CX0 3 T.f_need_inputs T.fd_need_inputs ["machine", "inputs"] (spNeedInputs K T.tp_is_name) := by
  refine T.F_need_inputs.ok sc_need_inputs (fun vs H Q E h => ?_) (fun cdv A outer s H vs Q E hr h => ?_)
  · obtain ⟨m, x, b, s, w, c, xs, ins, rfl, hM, hx, hp, hok, htab, q⟩ := h
    rfl
  · have hu := hu_of hr
    obtain ⟨m, x, b, s, w, c, xs, ins, rfl, hM, hx, hp, hok, htab, q⟩ := h
    refine ⟨_, (pss_cons (ps_if (pt_cmpR (op_gt) (pe_callB (k_len K rfl) (by rfl) T.n_len (by decide +kernel) (pa_cons (pv 1) pa_nil)) (pe_glob (v := .int 4) (by rfl) T.c_MOST_INPUTS ⟨_, rfl⟩) (nomark _)) (pss_one ps_never) pss_nil) (pss_cons (ps_set (i := 2) sc_need_inputs.nd rfl (Or.inl rfl) (pe_lst pa_nil)) (pss_one (ps_for PassesOwn.never rfl (pi_en K rfl (by rfl) T.n_enumerate (pa_cons (pv 1) pa_nil)) (pg_tup (n := 2) rfl (pgs_cons (pg_name (i := 3) sc_need_inputs.nd rfl (Or.inl rfl)) (pgs_cons (pg_name (i := 4) sc_need_inputs.nd rfl (Or.inl rfl)) pgs_nil))) (pss_cons (ps_if (pt_not (pt_val (pe_call (ok_is_input T) (hr.mono (by decide)) (by rfl) T.g_is_input T.F_is_input.kp T.b_is_input .nil pass0 (pa_cons (pv 0) (pa_cons (pv 4) (pa_cons (pv 2) pa_nil)))))) (pss_one ps_never) pss_nil) (pss_one (ps_expr (pe_bm PySem.F.plainAttrs_list PySem.F.slot_list_append PySem.F.type_list_append mt_append (pv 2) (pa_cons (pe_ix (k_ix K rfl) (pv 4) pe_int (fun _ _ => rfl)) pa_nil))))))))), ?_⟩
    dsimp only [cxOf, L2.start, List.map_cons, List.map_nil, List.length_cons, List.length_nil, List.replicate, List.cons_append, List.nil_append, Nat.reduceAdd, Nat.reduceSub]
    have hxl : xs.length = ins.length := paired_len hp
    have hlen := hok.1
    have hnl : (names ins).length = ins.length := by simp [names]
    walk_at "rs"
    refine w_iteE (by simp; omega) ?_
    walk_at "rs"
    refine w_new (Nat.zero_le _) fun l H1 hl s1 h1 => ?_
    have hl' : H l = none := hl
    walk_at "rs"
    refine w_enT (SqT.tn s1.tn hx) ?_
    refine lp_en (fun i σ H' => Tg.SmT T.tp_is_name H H' ∧ ∃ x1 x2, σ = [some (.ref m), some (.ref x), some (.ref l), x1, x2] ∧ H' l = some (.lst (((names ins).take i).map V.str)))
      ⟨s1.smt, none, none, rfl, h1⟩ (fun i σ H' _ hp => SqT.tn hp.1.tn hx) ?_ ?_
    · rintro i v σ H2 P0 H3 hv ⟨s2, x1, x2, rfl, h2⟩ hP0 s3 h3
      obtain ⟨r, hr, rfl⟩ := map_ref hv
      obtain ⟨inp, hi, hr0⟩ := paired_getL hp hr
      have good := hok.2 i inp hi
      have s23 := s2.trans s3.smt
      have l3 := s3 _ _ h2
      walk_at "rs"
      refine ⟨m, r, l, b, s, w, c, inp, (names ins).take i, rfl, SqT.tn s23.tn hM, hr0.tn s23.tn, SqL.of l3, by have := nameOk_len (inputOk_name good); omega, s23.tabG htab, fun H4 s4 => ?_⟩
      rw [good]
      have s24 := s23.trans s4
      have r4 : SqT K H4 r [.str inp.nm, .int inp.fg, .int inp.ls] := SqT.tn s24.tn hr0
      have l4 := s4.l l3
      walk_at "rs"
      refine w_append l4 (by rw [List.length_map, List.length_take]; omega) fun H5 e5 h5 => ?_
      refine ⟨e5 ▸ s24.mut hl', _, _, rfl, ?_⟩
      rw [h5, take_names hi, List.map_append]
      rfl
    · rintro σ H2 ⟨s2, x1, x2, rfl, h2⟩
      exact q H2 s2

theorem ok_need_book (T : Txt K mg base) : FnOk P wd K mg base CX0 8 T.f_need_book T.fd_need_book ["machine", "book"] (spNeedBook K T.tp_is_name) := by
  refine T.F_need_book.ok sc_need_book (fun vs H Q E h => ?_) (fun cdv A outer s H vs Q E hr h => ?_)
  · obtain ⟨m, bk, b, s, w, c, B, rfl, hM, hm, hB, hok, htab, q⟩ := h
    rfl
  · have hu := hu_of hr
    obtain ⟨m, bk, b, s, w, c, B, rfl, hM, hm, hB, hok, htab, q⟩ := h
    refine ⟨_, (pss_cons (ps_expr (pe_call (ok_need_machine T) (hr.mono (by decide)) (by rfl) T.g_need_machine T.F_need_machine.kp T.b_need_machine .nil pass0 (pa_cons (pv 0) pa_nil))) (pss_cons (ps_asg (pv 1) (pg_tup (n := 3) rfl (pgs_cons (pg_name (i := 2) sc_need_book.nd rfl (Or.inl rfl)) (pgs_cons (pg_name (i := 3) sc_need_book.nd rfl (Or.inl rfl)) (pgs_cons (pg_name (i := 4) sc_need_book.nd rfl (Or.inl rfl)) pgs_nil))))) (pss_cons (ps_expr (pe_call (ok_need_inputs T) (hr.mono (by decide)) (by rfl) T.g_need_inputs T.F_need_inputs.kp T.b_need_inputs .nil pass0 (pa_cons (pv 0) (pa_cons (pv 2) pa_nil)))) (pss_cons (ps_setDc (i := 5) (own := [("name", 6), ("many", 7), ("least", 8)]) rfl sc_need_book.nd rfl rfl (sw_trueD rfl rfl rfl (by decide +kernel)) (k_U K rfl (pv 2)) (blkOk_by (own := [("name", 6), ("many", 7), ("least", 8)]) (N := ["machine", "book", "inputs", "deeds", "claims", "figures", "name", "many", "least"]) (sc := defScope s_need_book) (by decide +kernel)) (fun _ _ _ _ _ => (pg_tupK K rfl (n := 3) rfl (pgs_cons (pg_name (i := 6) sc_need_book.nd rfl (Or.inl rfl) (.inr rfl)) (pgs_cons (pg_name (i := 7) sc_need_book.nd rfl (Or.inl rfl) (.inr rfl)) (pgs_cons (pg_name (i := 8) sc_need_book.nd rfl (Or.inl rfl) (.inr rfl)) pgs_nil))))) (fun _ _ _ _ _ => pts_nil) (fun _ _ _ _ _ => (pv 6)) (fun _ _ _ _ _ => (pv 7))) (pss_cons (ps_expr (pe_call (ok_need_deeds T) (hr.mono (by decide)) (by rfl) T.g_need_deeds T.F_need_deeds.kp T.b_need_deeds .nil pass0 (pa_cons (pv 5) (pa_cons (pv 3) pa_nil)))) (pss_one (ps_expr (pe_call (ok_need_claims T) (hr.mono (by decide)) (by rfl) T.g_need_claims T.F_need_claims.kp T.b_need_claims .nil pass0 (pa_cons (pv 5) (pa_cons (pv 4) pa_nil)))))))))), ?_⟩
    dsimp only [cxOf, L2.start, List.map_cons, List.map_nil, List.length_cons, List.length_nil, List.replicate, List.cons_append, List.nil_append, Nat.reduceAdd, Nat.reduceSub]
    obtain ⟨x, y, z, xs, ys, zs, h0, h1, p1, h2', p2, h3, p3⟩ := id hB
    walk_at "rs"
    refine ⟨m, b, s, w, c, rfl, hM, hm, ?_⟩
    walk_at "rs"
    refine ⟨m, x, b, s, w, c, xs, B.ins, rfl, hM, h1, p1, hok.ins, htab, fun H1 s1 => ?_⟩
    walk_at "rs"
    have h1' := SqT.tn s1.tn h1
    have hxl : xs.length = B.ins.length := paired_len p1
    have hl4 := hok.ins.1
    refine w_UT h1' ?_
    refine dq_tup (fun D i H2 => Same H1 H2 ∧ H2 D = some (.dK (figsD (B.ins.take i)))) (fun D H2 _ s2 h2 => ⟨s2, h2⟩) (fun D i H2 _ hp => SqT.tn hp.1.tn h1') ?_ ?_
    · rintro D i v H2 hD hv ⟨s2, h2⟩
      obtain ⟨r, hr, rfl⟩ := map_ref hv
      obtain ⟨inp, hi, hr0⟩ := paired_getL p1 hr
      have hr2 : SqT K H2 r [.str inp.nm, .int inp.fg, .int inp.ls] := SqT.tn (s1.tn.trans s2.tn) hr0
      dsimp only [wipe, List.set, List.foldl]
      walk_at "rs"
      refine ⟨rfl, ?_⟩
      walk_at "rs"
      refine ⟨_, .inr inp.nm, rfl, h2, Nat.lt_of_le_of_lt (show _ ≤ 4 by rw [figsD_len, List.length_take]; omega) (by decide), ?_, ?_⟩
      · exact s2.mut hD
      · rw [upd_same, figsD_snoc hi (hok.ins.2 i inp hi)]
    · rintro D H2 hD ⟨s2, h2⟩
      rw [List.length_map, hxl, List.take_of_length_le (Nat.le_refl _)] at h2
      have s12 := s1.trans s2.smt
      walk_at "rs"
      refine ⟨D, y, B.ins, ys, B.dds, rfl, h2, SqT.tn s12.tn h2', paired_imp (fun _ _ h => h.tn s12.tn) p2, hok.dl, hok.dds, fun H3 s3 => ?_⟩
      walk_at "rs"
      have s13 := s12.trans s3.smt
      refine ⟨D, z, B.ins, zs, B.cls, rfl, s3 _ _ h2, SqT.tn s13.tn h3, paired_imp (fun _ _ h => h.tn s13.tn) p3, hok.cl, hok.cls, fun H4 s4 => ?_⟩
      exact q H4 (s13.trans s4.smt)

theorem ok_looked (T : Txt K mg base) : FnOk P wd K mg base CX0 9 T.f_looked T.fd_looked ["machine", "book"] (spLooked T.kc T.tp_is_name) := by
  refine T.F_looked.ok sc_looked (fun vs H Q E h => ?_) (fun cdv A outer s H vs Q E hr h => ?_)
  · obtain ⟨m, bk, b, s, w, c, B, rfl, hM, hm, hB, hok, htab, hL, q⟩ := h
    rfl
  · have hu := hu_of hr
    obtain ⟨m, bk, b, s, w, c, B, rfl, hM, hm, hB, hok, htab, hL, q⟩ := h
    refine ⟨_, (pss_cons (ps_expr (pe_call (ok_need_book T) (hr.mono (by decide)) (by rfl) T.g_need_book T.F_need_book.kp T.b_need_book .nil pass0 (pa_cons (pv 0) (pa_cons (pv 1) pa_nil)))) (pss_cons (ps_asg (pv 1) (pg_tup (n := 3) rfl (pgs_cons (pg_name (i := 2) sc_looked.nd rfl (Or.inl rfl)) (pgs_cons (pg_name (i := 3) sc_looked.nd rfl (Or.inl rfl)) (pgs_cons (pg_name (i := 4) sc_looked.nd rfl (Or.inl rfl)) pgs_nil))))) (pss_cons (ps_set (i := 5) sc_looked.nd rfl (Or.inl rfl) (pe_make T.mk_Known (ok_Known__init T) (hr.mono (by decide)) (by rfl) T.gC_Known T.b_Known__init .nil pass0 (pa_cons (pv 0) (pa_cons (pv 2) pa_nil)))) (pss_cons (ps_for PassesOwn.never rfl (pi_en K rfl (by rfl) T.n_enumerate (pa_cons (pv 3) pa_nil)) (pg_tup (n := 2) rfl (pgs_cons (pg_name (i := 6) sc_looked.nd rfl (Or.inl rfl)) (pgs_cons (pg_name (i := 7) sc_looked.nd rfl (Or.inl rfl)) pgs_nil))) (pss_cons (ps_set (i := 8) sc_looked.nd rfl (Or.inl rfl) (pe_meth (pv 5) T.k_Known T.M_Known__did (ok_Known__did T) (hr.mono (by decide)) T.b_Known__did .nil pass0 (pa_cons (pv 7) pa_nil))) (pss_one (ps_if (pt_cmpR (k_notN) (pv 8) pe_non (nomark _)) (pss_one (ps_ret (pe_tup (pa_cons (pv 6) (pa_cons (pv 8) pa_nil))))) pss_nil)))) (pss_cons (ps_for PassesOwn.never rfl (pi_en K rfl (by rfl) T.n_enumerate (pa_cons (pv 4) pa_nil)) (pg_tup (n := 2) rfl (pgs_cons (pg_name (i := 6) sc_looked.nd rfl (Or.inl rfl)) (pgs_cons (pg_name (i := 9) sc_looked.nd rfl (Or.inl rfl)) pgs_nil))) (pss_one (ps_if (pt_not (pt_val (pe_call (ok_is_so T) (hr.mono (by decide)) (by rfl) T.g_is_so T.F_is_so.kp T.b_is_so .nil pass0 (pa_cons (pv 5) (pa_cons (pv 9) pa_nil))))) (pss_one (ps_ret (pe_tup (pa_cons (pv 6) (pa_cons pe_str pa_nil))))) pss_nil))) (pss_one (ps_ret pe_non))))))), ?_⟩
    dsimp only [cxOf, L2.start, List.map_cons, List.map_nil, List.length_cons, List.length_nil, List.replicate, List.cons_append, List.nil_append, Nat.reduceAdd, Nat.reduceSub]
    obtain ⟨x, y, z, xs, ys, zs, h0, h1, p1, h2, p2, h3, p3⟩ := id hB
    walk_at "rs"
    refine ⟨m, bk, b, s, w, c, B, rfl, hM, hm, hB, hok, htab, fun H1 s1 => ?_⟩
    have h01 := SqT.tn s1.tn h0
    walk_at "rs"
    refine w_makeQ fun a dx H2 hna s2 ha2 => ?_
    have s12 := s1.trans s2.smt
    refine ⟨a, m, x, dx, b, s, w, c, xs, B.ins, rfl, ha2, SqT.tn s12.tn hM, hm, SqT.tn s12.tn h1, My.paired_imp (fun _ _ h => h.tn s12.tn) p1, hok.ins, fun g H3 hng k3 hk3 => ?_⟩
    have hg1 : H1 g = none := s2.free hng
    have s13 : Same H1 H3 := fun b2 o h => k3 b2 o (s2 b2 o h) (ne_of_none h hna)
    refine ⟨rfl, ?_⟩
    generalize ek0 : knInit b s w c B.ins = k0 at hL q hk3
    obtain ⟨hR, hC⟩ := hL
    have hyl : ys.length = B.dds.length := paired_len p2
    have hzl : zs.length = B.cls.length := paired_len p3
    walk_at "rs"
    refine w_enT (SqT.tn (s1.trans s13.smt).tn h2) ?_
    refine lp_en (fun i σ H' => ∃ k u6 u7 u8 u9, σ = [some (.ref m), some (.ref bk), some (.ref x), some (.ref y), some (.ref z), some (.ref a), u6, u7, u8, u9] ∧ Same H1 H' ∧ KnH T.kc H' a g k ∧ runD k0 B.dds 0 = runD k (B.dds.drop i) i ∧ RunOk k (B.dds.drop i))
      ⟨k0, none, none, none, none, rfl, s13, hk3, rfl, hR⟩ (fun i σ H' _ hp => by
        obtain ⟨k, _, _, _, _, _, s4, _⟩ := hp
        exact SqT.tn (s1.trans s4.smt).tn h2) ?_ ?_
    · rintro i u σ H4 P0 H5 hu ⟨k, u6, u7, u8, u9, rfl, s4, hk4, hrun, hro⟩ hP0 s5 h5
      obtain ⟨r, hr, rfl⟩ := map_ref hu
      obtain ⟨d, hd, hr0⟩ := paired_getL p2 hr
      obtain ⟨kb, ko, kn⟩ := ok_step k hd hro
      rw [run_step k hd] at hrun
      have s15 := s4.trans s5
      have hk5 := hk4.same s5
      obtain ⟨dx5, rw5, ls5, st5, wh5, ct5, fa5, ha5, hkp5⟩ := id hk5
      walk_at "rs"
      refine ⟨a, g, k, r, d, rfl, hk5, hr0.tn (s1.trans s15.smt).tn, kb, ko, fun H6 k6 hk6 => ?_⟩
      have s16 : Same H1 H6 := Rn.Same.kf s15 k6 hna hg1
      cases ew : (didK k d).1 with
      | none =>
        rw [ew] at hrun
        dsimp only [wordV]
        walk_at "rs"
        exact ⟨_, _, _, _, _, rfl, s16, hk6, hrun, kn ew⟩
      | some w6 =>
        rw [ew] at hrun
        have q6 := q H6 (s1.trans s16.smt)
        unfold lookK at q6
        rw [hrun] at q6
        dsimp only [wordV]
        walk_at "rs"
        refine w_notS ?_
        walk_at "rs"
        refine w_new (by decide) fun z7 H7 hz7 s7 h7 => ?_
        walk_at "rs"
        exact q6 z7 H7 s7 (SqT.of h7)
    · rintro σ H4 ⟨k, u6, u7, u8, u9, rfl, s4, hk4, hrun, hro⟩
      rw [List.length_map, hyl, List.drop_length] at hrun
      have hrun : runD k0 B.dds 0 = (none, k) := hrun
      rw [hrun] at hC
      obtain ⟨kb, kc⟩ := hC rfl
      unfold lookK at q
      rw [hrun] at q
      dsimp only at q
      walk_at "rs"
      refine w_enT (SqT.tn (s1.trans s4.smt).tn h3) ?_
      refine lp_en (fun i σ H' => ∃ u6 u7 u8 u9, σ = [some (.ref m), some (.ref bk), some (.ref x), some (.ref y), some (.ref z), some (.ref a), u6, u7, u8, u9] ∧ Same H1 H' ∧ KnH T.kc H' a g k ∧ runC k B.cls 0 = runC k (B.cls.drop i) i)
        ⟨_, _, _, _, rfl, s4, hk4, rfl⟩ (fun i σ H' _ hp => by
          obtain ⟨_, _, _, _, _, s5, _⟩ := hp
          exact SqT.tn (s1.trans s5.smt).tn h3) ?_ ?_
      · rintro i u σ H5 P0 H6 hu ⟨u6, u7, u8, u9, rfl, s5, hk5, hrc⟩ hP0 s6 h6
        obtain ⟨r, hr, rfl⟩ := map_ref hu
        obtain ⟨cl, hcl, hr0⟩ := paired_getL p3 hr
        rw [runC_step k hcl] at hrc
        have s16 := s5.trans s6
        have hk6 := hk5.same s6
        walk_at "rs"
        refine ⟨a, g, k, r, cl, rfl, hk6, kb, hr0.tn (s1.trans s16.smt).tn, kc cl (List.mem_of_getElem? hcl), fun H7 s7 => ?_⟩
        have s17 := s16.trans s7
        walk_at "rs"
        refine w_iteB (fun c2 => ?_) (fun c2 => ?_)
        · have c3 : isSoK k cl = false := by simpa using c2
          rw [c3] at hrc
          have q7 := q H7 (s1.trans s17.smt)
          rw [hrc] at q7
          walk_at "rs"
          refine w_new (by decide) fun z8 H8 hz8 s8 h8 => ?_
          walk_at "rs"
          exact q7 z8 H8 s8 (SqT.of h8)
        · have c3 : isSoK k cl = true := by simpa using c2
          rw [c3, if_pos rfl] at hrc
          walk_at "rs"
          exact ⟨_, _, _, _, rfl, s17, hk6.same s7, hrc⟩
      · rintro σ H5 ⟨u6, u7, u8, u9, rfl, s5, hk5, hrc⟩
        rw [List.length_map, hzl, List.drop_length] at hrc
        have hrc : runC k B.cls 0 = none := hrc
        have q5 := q H5 (s1.trans s5.smt)
        rw [hrc] at q5
        walk_at "rs"
        exact q5

theorem ok_need_places (T : Txt K mg base) : FnOk P wd K mg base (L2.CX P wd) 3 T.f_need_places T.fd_need_places ["machine", "many"] (spNeedPl K T.C_TooSmall) := by
  refine T.F_need_places.okX sc_need_places (fun vs H Q E h => ?_) (fun cdv A outer s H vs Q E hr h => ?_)
  · obtain ⟨m, b, s, w, c, n, rfl, hM, hm, n0, n1, q, qe⟩ := h
    rfl
  · have hu := hu_of hr
    obtain ⟨m, b, s, w, c, n, rfl, hM, hm, n0, n1, q, qe⟩ := h
    refine ⟨_, (pss_one (ps_if (pt_cmpR (op_gt) (pv 1) (pe_op (k_add K rfl) (pe_call (ok_top T) (hr.mono (by decide)) (by rfl) T.g_top T.F_top.kp T.b_top .nil pass0 (pa_cons (pv 0) pa_nil)) pe_int) (nomark _)) (pss_one (ps_raise rfl (takes_of rfl rfl rfl rfl) (SkE.pmk_own1 PySem.F.excBase_ValueError T.xC_TooSmall T.gC_TooSmall T.kC_TooSmall (raises_own T.bC_TooSmall T.tC_TooSmall) rfl (pe_joined (.cons pe_str (.cons (pe_fmt (pv 1)) (.cons pe_str .nil))))))) pss_nil)), ?_⟩
    dsimp only [cxOf, L2.start, List.map_cons, List.map_nil, List.length_cons, List.length_nil, List.replicate, List.cons_append, List.nil_append, Nat.reduceAdd, Nat.reduceSub]
    have hM' : SqT K H m [.int b, .int s, .int w, .int c] := hM
    obtain ⟨b0, b1, s0, s1, w0, w1, c0, c1⟩ := id hm
    walk_at "rs"
    refine ⟨m, b, s, w, c, rfl, hM, hm, ?_⟩
    walk_at "rs"
    refine w_iteN2 (fun g => ?_) (fun g => ?_)
    · walk_at "rs"
      exact qe g _ (Same.refl _)
    · walk_at "rs"
      exact q (by omega)

theorem ok_need_slides (T : Txt K mg base) : FnOk P wd K mg base (L2.CX P wd) 1 T.f_need_slides T.fd_need_slides ["machine", "many"] (spNeedSl K T.C_TooSmall) := by
  refine T.F_need_slides.okX sc_need_slides (fun vs H Q E h => ?_) (fun cdv A outer s H vs Q E hr h => ?_)
  · obtain ⟨m, b, s, w, c, n, rfl, hM, hm, n0, n1, q, qe⟩ := h
    rfl
  · have hu := hu_of hr
    obtain ⟨m, b, s, w, c, n, rfl, hM, hm, n0, n1, q, qe⟩ := h
    refine ⟨_, (pss_one (ps_if (pt_cmpR (op_gt) (pv 1) (pe_ix (k_ix K rfl) (pv 0) pe_int (fun _ _ => rfl)) (nomark _)) (pss_one (ps_raise rfl (takes_of rfl rfl rfl rfl) (SkE.pmk_own1 PySem.F.excBase_ValueError T.xC_TooSmall T.gC_TooSmall T.kC_TooSmall (raises_own T.bC_TooSmall T.tC_TooSmall) rfl (pe_joined (.cons pe_str (.cons (pe_fmt (pv 1)) (.cons pe_str .nil))))))) pss_nil)), ?_⟩
    dsimp only [cxOf, L2.start, List.map_cons, List.map_nil, List.length_cons, List.length_nil, List.replicate, List.cons_append, List.nil_append, Nat.reduceAdd, Nat.reduceSub]
    have hM' : SqT K H m [.int b, .int s, .int w, .int c] := hM
    obtain ⟨b0, b1, s0, s1, w0, w1, c0, c1⟩ := id hm
    walk_at "rs"
    refine w_iteN2 (fun g => ?_) (fun g => ?_)
    · walk_at "rs"
      exact qe g _ (Same.refl _)
    · walk_at "rs"
      exact q (by omega)

theorem ok_product (T : Txt K mg base) : FnOk P wd K mg base (L2.CX P wd) 4 T.f_product T.fd_product ["machine", "one", "other"] (spProd K T.C_TooSmall) := by
  refine T.F_product.okX sc_product (fun vs H Q E h => ?_) (fun cdv A outer s H vs Q E hr h => ?_)
  · obtain ⟨m, b, s, w, c, x, y, rfl, hM, hm, x0, x1, y0, y1, q, qe⟩ := h
    rfl
  · have hu := hu_of hr
    obtain ⟨m, b, s, w, c, x, y, rfl, hM, hm, x0, x1, y0, y1, q, qe⟩ := h
    refine ⟨_, (pss_cons (ps_expr (pe_call (ok_need_machine T) (hr.mono (by decide)) (by rfl) T.g_need_machine T.F_need_machine.kp T.b_need_machine .nil pass0 (pa_cons (pv 0) pa_nil))) (pss_cons (ps_expr (pe_callS (ok_need_slides T) (hr.mono (by decide)) (by rfl) T.g_need_slides T.F_need_slides.kp T.b_need_slides (fun σ => passAt (takes_of rfl rfl rfl rfl) σ) (pa_cons (pv 0) (pa_cons (pv 1) pa_nil)))) (pss_cons (ps_expr (pe_callS (ok_need_slides T) (hr.mono (by decide)) (by rfl) T.g_need_slides T.F_need_slides.kp T.b_need_slides (fun σ => passAt (takes_of rfl rfl rfl rfl) σ) (pa_cons (pv 0) (pa_cons (pv 2) pa_nil)))) (pss_cons (ps_expr (pe_callS (ok_need_places T) (hr.mono (by decide)) (by rfl) T.g_need_places T.F_need_places.kp T.b_need_places (fun σ => passAt (takes_of rfl rfl rfl rfl) σ) (pa_cons (pv 0) (pa_cons (pv 2) pa_nil)))) (pss_cons (ps_if (pt_cmpR (op_gt) (pe_op (k_add K rfl) (pv 1) (pv 2)) (pe_ix (k_ix K rfl) (pv 0) pe_int (fun _ _ => rfl)) (nomark _)) (pss_one (ps_raise rfl (takes_of rfl rfl rfl rfl) (SkE.pmk_own1 PySem.F.excBase_ValueError T.xC_TooSmall T.gC_TooSmall T.kC_TooSmall (raises_own T.bC_TooSmall T.tC_TooSmall) rfl (pe_joined (.cons pe_str (.cons (pe_fmt (pv 1)) (.cons pe_str (.cons (pe_fmt (pv 2)) (.cons pe_str .nil))))))))) pss_nil) (pss_cons (ps_set (i := 3) sc_product.nd rfl (Or.inl rfl) (pe_lst (pa_cons (pe_tup (pa_cons pe_str (pa_cons pe_str pa_nil))) pa_nil))) (pss_cons (ps_for (passes_of rfl) rfl (pi_range1 rfl T.n_range (pa_cons (pv 2) pa_nil)) (pg_name (i := 4) sc_product.nd rfl (Or.inl rfl)) (pss_cons (ps_if (pt_cmpR (op_gt) (pv 4) pe_int (nomark _)) (pss_one (ps_expr (pe_bm PySem.F.plainAttrs_list PySem.F.slot_list_append PySem.F.type_list_append mt_append (pv 3) (pa_cons (pe_tup (pa_cons pe_str (pa_cons pe_int pa_nil))) pa_nil)))) pss_nil) (pss_one (ps_expr (pe_bm PySem.F.plainAttrs_list PySem.F.slot_list_append PySem.F.type_list_append mt_append (pv 3) (pa_cons (pe_tup (pa_cons pe_str (pa_cons pe_str (pa_cons (pv 4) (pa_cons pe_int (pa_cons pe_int pa_nil)))))) pa_nil)))))) (pss_cons (ps_set (i := 5) sc_product.nd rfl (Or.inl rfl) (pe_tup (pa_cons (pe_tup (pa_cons pe_str (pa_cons (pe_glob (v := .ref T.a_WHEELS) (by rfl) T.c_WHEELS rfl) (pa_cons (pe_tup (pa_cons pe_str (pa_cons (pe_tup (pa_cons pe_str (pa_cons pe_str pa_nil))) (pa_cons (pe_tup (pa_cons pe_str (pa_cons pe_str pa_nil))) pa_nil)))) pa_nil)))) (pa_cons (pe_tup (pa_cons pe_str (pa_cons (pe_glob (v := .ref T.a_COUNTS) (by rfl) T.c_COUNTS rfl) (pa_cons (pe_tup (pa_cons pe_str (pa_cons pe_str pa_nil))) pa_nil)))) pa_nil)))) (pss_one (ps_ret (pe_tup (pa_cons (pe_tup (pa_cons (pe_tup (pa_cons pe_str (pa_cons (pv 1) (pa_cons pe_int pa_nil)))) (pa_cons (pe_tup (pa_cons pe_str (pa_cons (pv 2) (pa_cons pe_int pa_nil)))) pa_nil))) (pa_cons (pe_callTy (k_tuple K rfl) (by rfl) T.n_tuple (by decide +kernel) (pa_cons (pv 3) pa_nil)) (pa_cons (pv 5) pa_nil)))))))))))))), ?_⟩
    dsimp only [cxOf, L2.start, List.map_cons, List.map_nil, List.length_cons, List.length_nil, List.replicate, List.cons_append, List.nil_append, Nat.reduceAdd, Nat.reduceSub]
    have hM' : SqT K H m [.int b, .int s, .int w, .int c] := hM
    obtain ⟨b0, b1, s0, s1, w0, w1, c0, c1⟩ := id hm
    unfold prodFits at q qe
    walk_at "rs"
    refine ⟨m, b, s, w, c, rfl, hM, hm, ?_⟩
    walk_at "rs"
    refine ⟨m, b, s, w, c, x, rfl, hM, hm, by omega, by omega, fun g1 => ?_, fun g H1 s1 => qe (by omega) H1 s1⟩
    walk_at "rs"
    refine ⟨m, b, s, w, c, y, rfl, hM, hm, by omega, by omega, fun g2 => ?_, fun g H1 s1 => qe (by omega) H1 s1⟩
    walk_at "rs"
    refine ⟨m, b, s, w, c, y, rfl, hM, hm, by omega, by omega, fun g3 => ?_, fun g H1 s1 => qe (by omega) H1 s1⟩
    walk_at "rs"
    refine w_iteN2 (fun g4 => ?_) (fun g4 => ?_)
    · walk_at "rs"
      exact qe (by omega) _ (Same.refl _)
    have q := q ⟨g1, g2, g3, by omega⟩
    clear qe
    walk_at "rs"
    refine w_new (by decide) fun p1 H1 hp1 s1_ h1 => ?_
    walk_at "rs"
    refine w_new (by decide) fun l H2 hl s2_ h2 => ?_
    walk_at "rs"
    have hlf : H l = none := s1_.free hl
    refine w_rngI (by omega) ?_
    refine lp_range0 (fun i σ H' => ∃ ys u4 u5, σ = [some (.ref m), some (.int x), some (.int y), some (.ref l), u4, u5] ∧ Same H H' ∧ H' l = some (.lst (ys.map V.ref)) ∧ Paired (DeeAt K H') ys (prodD i) ∧ ys.length ≤ 2 * i + 1)
      ⟨[p1], _, _, rfl, s1_.trans s2_, h2, .cons (SqT.of (s2_ _ _ h1)) .nil, (show 1 ≤ 2 * 0 + 1 by decide)⟩ ?_ ?_
    · rintro i σ H3 hi ⟨ys, u4, u5, rfl, s3, h3, hys, hyl⟩
      walk_at "rs"
      refine w_iteN2 (fun g => ?_) (fun g => ?_)
      · walk_at "rs"
        refine w_new (by decide) fun p4 H4 hp4 s4 h4 => ?_
        walk_at "rs"
        refine w_appendW (s4 _ _ h3) (by rw [List.length_map]; omega) fun H5 e5 h5 => ?_
        have t5 : Tn H4 H5 := e5 ▸ tn_put (s4 _ _ h3)
        have s05 : Same H H5 := e5 ▸ Same.mut (s3.trans s4) hlf
        walk_at "rs"
        refine w_new (by decide) fun p6 H6 hp6 s6 h6 => ?_
        walk_at "rs"
        refine w_appendW (s6 _ _ h5) (by rw [List.length_append, List.length_map]; show ys.length + 1 ≤ _; omega) fun H7 e7 h7 => ?_
        have t7 : Tn H6 H7 := e7 ▸ tn_put (s6 _ _ h5)
        have s07 : Same H H7 := e7 ▸ Same.mut (s05.trans s6) hlf
        walk_at "rs"
        refine ⟨ys ++ [p4, p6], _, _, rfl, s07, by rw [h7, List.map_append, List.append_assoc]; rfl, ?_, by rw [List.length_append]; show ys.length + 2 ≤ _; omega⟩
        rw [show prodD (i + 1) = prodD i ++ [.shift 1, .turns "b" (i : Nat) 1 1] by
          show prodD i ++ (if i = 0 then _ else _) = _
          rw [if_neg (by omega)]]
        exact paired_snoc2 (tn_all t7 (same_all s6 (tn_all t5 (same_all s4 hys)))) (SqT.tn t7 (SqT.tn s6.tn (SqT.tn t5 (SqT.of h4)))) (SqT.tn t7 (SqT.of h6))
      · walk_at "rs"
        refine w_new (by decide) fun p6 H6 hp6 s6 h6 => ?_
        walk_at "rs"
        refine w_appendW (s6 _ _ h3) (by rw [List.length_map]; omega) fun H7 e7 h7 => ?_
        have t7 : Tn H6 H7 := e7 ▸ tn_put (s6 _ _ h3)
        have s07 : Same H H7 := e7 ▸ Same.mut (s3.trans s6) hlf
        walk_at "rs"
        obtain rfl : i = 0 := by omega
        refine ⟨ys ++ [p6], _, _, rfl, s07, by rw [h7, List.map_append]; rfl, ?_, by rw [List.length_append]; show ys.length + 1 ≤ _; omega⟩
        exact Rn.Paired.snoc (R := DeeAt K H7) (show DeeAt K H7 p6 (.turns "b" 0 1 1) from SqT.tn t7 (SqT.of h6)) (tn_all t7 (same_all s6 hys))
    · rintro σ H4 ⟨ys, u4, u5, rfl, s4, h4, hys, hyl⟩
      walk_at "rs"
      refine w_new (by decide) fun c2 H5 hc2f s5 hc2 => ?_
      walk_at "rs"
      refine w_new (by decide) fun c3 H6 hc3f s6 hc3 => ?_
      walk_at "rs"
      refine w_new (by decide) fun c4 H7 hc4f s7 hc4 => ?_
      walk_at "rs"
      refine w_new (by decide) fun c5 H8 hc5f s8 hc5 => ?_
      walk_at "rs"
      refine w_new (by decide) fun c7 H9 hc7f s9 hc7 => ?_
      walk_at "rs"
      refine w_new (by decide) fun c8 H10 hc8f s10 hc8 => ?_
      walk_at "rs"
      refine w_new (by decide) fun c9 H11 hc9f s11 hc9 => ?_
      walk_at "rs"
      refine w_new (by decide) fun i1 H12 hi1f s12 hi1 => ?_
      walk_at "rs"
      refine w_new (by decide) fun i2 H13 hi2f s13 hi2 => ?_
      walk_at "rs"
      refine w_new (by decide) fun i3 H14 hi3f s14 hi3 => ?_
      walk_at "rs"
      have z14 := Same.refl H14
      have z13 := s14.trans z14
      have z12 := s13.trans z13
      have z11 := s12.trans z12
      have z10 := s11.trans z11
      have z9 := s10.trans z10
      have z8 := s9.trans z9
      have z7 := s8.trans z8
      have z6 := s7.trans z7
      have z5 := s6.trans z6
      have z4 := s5.trans z5
      refine w_tupL (SqL.of (z4 _ _ h4)) fun d H17 hd17 s17 h17 => ?_
      walk_at "rs"
      refine w_new (by decide) fun p H18 hp18 s18 h18 => ?_
      walk_at "rs"
      have w17 := s17.trans s18
      have at_ : ∀ {a : Addr} {xs : List V} {A : Hp}, Same A H14 → A a = some (.tup xs) → SqT K H18 a xs := fun sA h => SqT.of ((sA.trans w17) _ _ h)
      refine q p H18 (s4.trans (z4.trans w17)) ⟨i3, d, c9, [i1, i2], ys, [c5, c8], SqT.of h18, at_ z14 hi3, .cons (at_ z12 hi1) (.cons (at_ z13 hi2) .nil), SqT.of (s18 _ _ h17), same_all (z4.trans w17) hys, at_ z11 hc9, .cons ⟨T.a_WHEELS, c4, at_ z8 hc5, .wheels (T.s_WHEELS _), .times (at_ z7 hc4) (.inp (at_ z5 hc2)) (.inp (at_ z6 hc3))⟩ (.cons ⟨T.a_COUNTS, c7, at_ z10 hc8, .counts (T.s_COUNTS _), .inp (at_ z9 hc7)⟩ .nil)⟩

theorem ok_figures_of (T : Txt K mg base) : FnOk P wd K mg base CX0 1 T.f_figures_of T.fd_figures_of ["base", "number", "many"] (spFigures_of) := by
  refine T.F_figures_of.ok sc_figures_of (fun vs H Q E h => ?_) (fun cdv A outer s H vs Q E hr h => ?_)
  · obtain ⟨b, n, m, rfl, hb, hb2, hm, hm2, q⟩ := h
    rfl
  · have hu := hu_of hr
    obtain ⟨b, n, m, rfl, hb, hb2, hm, hm2, q⟩ := h
    refine ⟨_, (pss_cons (ps_set (i := 3) sc_figures_of.nd rfl (Or.inl rfl) (pe_lst pa_nil)) (pss_cons (ps_for PassesOwn.never rfl (pi_range1 rfl T.n_range (pa_cons (pv 2) pa_nil)) (pg_name (i := 4) sc_figures_of.nd rfl (Or.inl rfl)) (pss_cons (ps_expr (pe_bm PySem.F.plainAttrs_list PySem.F.slot_list_append PySem.F.type_list_append mt_append (pv 3) (pa_cons (pe_op op_mod (pv 1) (pv 0)) pa_nil))) (pss_one (ps_aug (i := 1) sc_figures_of.nd rfl (Or.inl rfl) (pv 0) ip_fdivW)))) (pss_one (ps_ret (pe_callTy (k_tuple K rfl) (by rfl) T.n_tuple (by decide +kernel) (pa_cons (pv 3) pa_nil)))))), ?_⟩
    dsimp only [cxOf, L2.start, List.map_cons, List.map_nil, List.length_cons, List.length_nil, List.replicate, List.cons_append, List.nil_append, Nat.reduceAdd, Nat.reduceSub]
    walk_at "rs"
    refine w_new (Nat.zero_le _) fun l H1 hl s1 hH1 => ?_
    walk_at "rs"
    refine w_rngI (by omega) ?_
    refine lp_range0 (fun i σ H' => ∃ x, σ = [some (.int b), some (.int (shr b n i)), some (.int m), some (.ref l), x] ∧ Same H H' ∧ H' l = some (.lst ((digs b n i).map V.int))) ⟨none, rfl, s1, hH1⟩ ?_ ?_
    · rintro i σ H' hi ⟨z, rfl, sm, hH⟩
      walk_at "rs"
      refine w_append hH (by rw [List.length_map, digs_len]; omega) fun H3 e3 hH3 => ?_
      walk_at "rs"
      refine w_pDiv (divW hb (by omega)) ?_
      walk_at "rs"
      refine ⟨_, rfl, e3 ▸ Same.mut sm hl, ?_⟩
      rw [hH3, digs_end, List.map_append]
      rfl
    · rintro σ H' ⟨x, rfl, sm, hH⟩
      walk_at "rs"
      refine w_tupL (SqL.of hH) fun p H3 hp s3 h3 => ?_
      exact q p _ (sm.trans s3) (sm.free hp) h3

theorem ok_odds_before (T : Txt K mg base) : FnOk P wd K mg base CX0 2 T.f_odds_before T.fd_odds_before ["number", "first"] (spOddsBefore) := by
  refine T.F_odds_before.ok sc_odds_before (fun vs H Q E h => ?_) (fun cdv A outer s H vs Q E hr h => ?_)
  · obtain ⟨N, f, rfl, n0, n1, f0, f1, q⟩ := h
    rfl
  · have hu := hu_of hr
    obtain ⟨N, f, rfl, n0, n1, f0, f1, q⟩ := h
    refine ⟨_, (pss_cons (ps_set (i := 2) sc_odds_before.nd rfl (Or.inl rfl) (pe_op op_sub (pv 1) pe_int)) (pss_one (ps_ret (pe_op op_fdivW (pe_op op_sub (pe_call (ok_root_of T) (hr.mono (by decide)) (by rfl) T.g_root_of T.F_root_of.kp T.b_root_of .nil pass0 (pa_cons (pe_op (k_add K rfl) (pe_op (k_mul K rfl) pe_int (pv 0)) (pe_op (k_mul K rfl) (pv 2) (pv 2))) pa_nil)) (pv 2)) pe_int)))), ?_⟩
    dsimp only [cxOf, L2.start, List.map_cons, List.map_nil, List.length_cons, List.length_nil, List.replicate, List.cons_append, List.nil_append, Nat.reduceAdd, Nat.reduceSub]
    walk_at "rs"
    have ss : 0 ≤ (f - 1) * (f - 1) := by
      rcases Int.le_total 0 (f - 1) with h | h
      · exact Int.mul_nonneg h h
      · have := Int.mul_nonneg (Int.neg_nonneg_of_nonpos h) (Int.neg_nonneg_of_nonpos h)
        rwa [Int.neg_mul_neg] at this
    have sb : (f - 1) * (f - 1) ≤ 2 ^ 24 * 2 ^ 24 := by
      rcases Int.le_total 0 (f - 1) with h | h
      · exact Int.mul_le_mul (by omega) (by omega) h (by omega)
      · have e : f - 1 = -1 ∨ f - 1 = 0 := by omega
        rcases e with e | e <;> (rw [e]; omega)
    refine ⟨_, rfl, by omega, by omega, fun H1 s1 => ?_⟩
    walk_at "rs"
    exact q H1 s1

theorem ok_turned (T : Txt K mg base) : FnOk P wd K mg base CX0 2 T.f_turned T.fd_turned ["machine", "numbers", "many", "way", "tally"] (spTurnedW K) := by
  refine T.F_turned.ok sc_turned (fun vs H Q E h => ?_) (fun cdv A outer s H vs Q E hr h => ?_)
  · obtain ⟨m, nu, b, s, w, c, x, many, way, tally, rfl, hM, hm, hx, x0, x1, p0, p1, y0, y1, t0, t1, q⟩ := h
    rfl
  · have hu := hu_of hr
    obtain ⟨m, nu, b, s, w, c, x, many, way, tally, rfl, hM, hm, hx, x0, x1, p0, p1, y0, y1, t0, t1, q⟩ := h
    refine ⟨_, (pss_cons (ps_asg (pv 0) (pg_tup (n := 4) rfl (pgs_cons (pg_name (i := 5) sc_turned.nd rfl (Or.inl rfl)) (pgs_cons (pg_name (i := 6) sc_turned.nd rfl (Or.inl rfl)) (pgs_cons (pg_name (i := 7) sc_turned.nd rfl (Or.inl rfl)) (pgs_cons (pg_name (i := 8) sc_turned.nd rfl (Or.inl rfl)) pgs_nil)))))) (pss_cons (ps_asg (pv 1) (pg_tup (n := 4) rfl (pgs_cons (pg_name (i := 9) sc_turned.nd rfl (Or.inl rfl)) (pgs_cons (pg_name (i := 10) sc_turned.nd rfl (Or.inl rfl)) (pgs_cons (pg_name (i := 11) sc_turned.nd rfl (Or.inl rfl)) (pgs_cons (pg_name (i := 12) sc_turned.nd rfl (Or.inl rfl)) pgs_nil)))))) (pss_cons (ps_set (i := 13) sc_turned.nd rfl (Or.inl rfl) (pe_call (ok_power T) (hr.mono (by decide)) (by rfl) T.g_power T.F_power.kp T.b_power .nil pass0 (pa_cons (pv 5) (pa_cons (pv 10) pa_nil)))) (pss_cons (ps_set (i := 14) sc_turned.nd rfl (Or.inl rfl) (pe_op op_mod (pe_op (k_add K rfl) (pv 11) (pe_op (k_mul K rfl) (pe_op (k_mul K rfl) (pe_op (k_mul K rfl) (pv 3) (pv 2)) (pv 9)) (pv 13))) (pe_call (ok_power T) (hr.mono (by decide)) (by rfl) T.g_power T.F_power.kp T.b_power .nil pass0 (pa_cons (pv 5) (pa_cons (pv 7) pa_nil))))) (pss_cons (ps_set (i := 15) sc_turned.nd rfl (Or.inl rfl) (pe_op op_mod (pe_op (k_add K rfl) (pv 12) (pe_op (k_mul K rfl) (pe_op (k_mul K rfl) (pv 4) (pv 2)) (pv 13))) (pe_call (ok_power T) (hr.mono (by decide)) (by rfl) T.g_power T.F_power.kp T.b_power .nil pass0 (pa_cons (pv 5) (pa_cons (pv 8) pa_nil))))) (pss_one (ps_ret (pe_tup (pa_cons (pv 9) (pa_cons (pv 10) (pa_cons (pv 14) (pa_cons (pv 15) pa_nil)))))))))))), ?_⟩
    dsimp only [cxOf, L2.start, List.map_cons, List.map_nil, List.length_cons, List.length_nil, List.replicate, List.cons_append, List.nil_append, Nat.reduceAdd, Nat.reduceSub]
    have hx' : SqT K H nu [.int x.S, .int x.P, .int x.W, .int x.C] := hx
    have hM' : SqT K H m [.int b, .int s, .int w, .int c] := hM
    obtain ⟨b0, b1, s0, s1, w0, w1, c0, c1⟩ := id hm
    walk_at "rs"
    refine ⟨b, x.P, rfl, by omega, by omega, p0, by omega, ?_⟩
    have hw := pow_le12 (n := x.P.toNat) (N := 9) (show 0 < b by omega) b1 (by omega)
    have hw0 := Int.pow_pos (n := b) (m := x.P.toNat) (by omega)
    generalize hu : b ^ x.P.toNat = u at hw hw0
    have u1 : u < 2 ^ 40 := Int.lt_of_le_of_lt hw (by decide)
    walk_at "rs"
    refine ⟨b, w, rfl, by omega, by omega, by omega, by omega, ?_⟩
    have pw := Int.pow_pos (n := b) (m := w.toNat) (by omega)
    refine w_I (show (0 : Int) < b ^ w.toNat from pw) ?_
    walk_at "rs"
    refine ⟨b, c, rfl, by omega, by omega, by omega, by omega, ?_⟩
    have pc := Int.pow_pos (n := b) (m := c.toNat) (by omega)
    refine w_I (show (0 : Int) < b ^ c.toNat from pc) ?_
    walk_at "rs"
    refine w_new (by decide) fun z H1 hz s1 h1 => ?_
    refine q z H1 s1 (SqT.of ?_)
    unfold turnedN
    rw [hu]
    exact h1

theorem ok_odds_turned (T : Txt K mg base) : FnOk P wd K mg base CX0 3 T.f_odds_turned T.fd_odds_turned ["machine", "numbers", "tally"] (spOddsT K) := by
  refine T.F_odds_turned.ok sc_odds_turned (fun vs H Q E h => ?_) (fun cdv A outer s H vs Q E hr h => ?_)
  · obtain ⟨m, nu, b, s, w, c, tally, x, rfl, hM, hm, hx, hok, t0, t1, q, qe⟩ := h
    rfl
  · have hu := hu_of hr
    obtain ⟨m, nu, b, s, w, c, tally, x, rfl, hM, hm, hx, hok, t0, t1, q, qe⟩ := h
    refine ⟨_, (pss_cons (ps_asg (pv 0) (pg_tup (n := 4) rfl (pgs_cons (pg_name (i := 3) sc_odds_turned.nd rfl (Or.inl rfl)) (pgs_cons (pg_name (i := 4) sc_odds_turned.nd rfl (Or.inl rfl)) (pgs_cons (pg_name (i := 5) sc_odds_turned.nd rfl (Or.inl rfl)) (pgs_cons (pg_name (i := 6) sc_odds_turned.nd rfl (Or.inl rfl)) pgs_nil)))))) (pss_cons (ps_asg (pv 1) (pg_tup (n := 4) rfl (pgs_cons (pg_name (i := 7) sc_odds_turned.nd rfl (Or.inl rfl)) (pgs_cons (pg_name (i := 8) sc_odds_turned.nd rfl (Or.inl rfl)) (pgs_cons (pg_name (i := 9) sc_odds_turned.nd rfl (Or.inl rfl)) (pgs_cons (pg_name (i := 10) sc_odds_turned.nd rfl (Or.inl rfl)) pgs_nil)))))) (pss_cons (ps_set (i := 11) sc_odds_turned.nd rfl (Or.inl rfl) (pe_call (ok_power T) (hr.mono (by decide)) (by rfl) T.g_power T.F_power.kp T.b_power .nil pass0 (pa_cons (pv 3) (pa_cons (pv 8) pa_nil)))) (pss_cons (ps_set (i := 12) sc_odds_turned.nd rfl (Or.inl rfl) (pe_call (ok_odds_before T) (hr.mono (by decide)) (by rfl) T.g_odds_before T.F_odds_before.kp T.b_odds_before .nil pass0 (pa_cons (pe_op op_fdivW (pv 9) (pv 11)) (pa_cons (pv 7) pa_nil)))) (pss_cons (ps_if (pt_cmpR (op_ge) (pe_op (k_add K rfl) (pv 7) (pe_op (k_mul K rfl) pe_int (pv 12))) (pe_call (ok_power T) (hr.mono (by decide)) (by rfl) T.g_power T.F_power.kp T.b_power .nil pass0 (pa_cons (pv 3) (pa_cons (pv 4) pa_nil))) (nomark _)) (pss_one (ps_ret pe_non)) pss_nil) (pss_cons (ps_set (i := 13) sc_odds_turned.nd rfl (Or.inl rfl) (pe_tup (pa_cons (pe_op op_sub (pe_op (k_add K rfl) (pv 7) (pv 12)) pe_int) (pa_cons (pv 8) (pa_cons (pv 9) (pa_cons (pv 10) pa_nil)))))) (pss_cons (ps_asg (pe_slice (k_sl K rfl) (pe_call (ok_turned T) (hr.mono (by decide)) (by rfl) T.g_turned T.F_turned.kp T.b_turned .nil pass0 (pa_cons (pv 0) (pa_cons (pv 13) (pa_cons (pv 12) (pa_cons (pe_un un_neg pe_int) (pa_cons (pv 2) pa_nil)))))) (po_some pe_int) po_none) (pg_tup (n := 2) rfl (pgs_cons (pg_name (i := 14) sc_odds_turned.nd rfl (Or.inl rfl)) (pgs_cons (pg_name (i := 15) sc_odds_turned.nd rfl (Or.inl rfl)) pgs_nil)))) (pss_one (ps_ret (pe_tup (pa_cons (pe_op (k_add K rfl) (pv 7) (pe_op (k_mul K rfl) pe_int (pv 12))) (pa_cons (pv 8) (pa_cons (pv 14) (pa_cons (pv 15) pa_nil)))))))))))))), ?_⟩
    dsimp only [cxOf, L2.start, List.map_cons, List.map_nil, List.length_cons, List.length_nil, List.replicate, List.cons_append, List.nil_append, Nat.reduceAdd, Nat.reduceSub]
    have hx' : SqT K H nu [.int x.S, .int x.P, .int x.W, .int x.C] := hx
    have hM' : SqT K H m [.int b, .int s, .int w, .int c] := hM
    obtain ⟨b0, b1, s0, s1, w0, w1, c0, c1⟩ := id hm
    obtain ⟨S0, S1, P0, P1, P2, W0, W1, C0, C1⟩ := id hok
    have hs := pow_le12 (n := s.toNat) (N := 6) (show 0 < b by omega) b1 (by omega)
    have hs2 : b ^ s.toNat < 2 ^ 24 := Int.lt_of_le_of_lt hs (by decide)
    have hww := pow_le12 (n := w.toNat) (N := 16) (show 0 < b by omega) b1 (by omega)
    have hw2 : b ^ w.toNat < 2 ^ 58 := Int.lt_of_le_of_lt hww (by decide)
    have hw := pow_le12 (n := x.P.toNat) (N := 9) (show 0 < b by omega) b1 (by omega)
    have hw0 := Int.pow_pos (n := b) (m := x.P.toNat) (by omega)
    have u1 : b ^ x.P.toNat < 2 ^ 40 := Int.lt_of_le_of_lt hw (by decide)
    have hN0 : 0 ≤ x.W / b ^ x.P.toNat := Int.ediv_nonneg W0 (by omega)
    have hN1 : x.W / b ^ x.P.toNat ≤ x.W := Int.ediv_le_self _ W0
    obtain ⟨k0, k1, k2⟩ := oddsN_ok hN0 S0
    walk_at "rs"
    refine ⟨b, x.P, rfl, by omega, by omega, P0, by omega, ?_⟩
    walk_at "rs"
    refine w_I (divW66 (by omega) (by omega)) ?_
    walk_at "rs"
    refine ⟨_, x.S, rfl, hN0, by omega, S0, by omega, fun H0 s0' => ?_⟩
    have hM0 := SqT.tn s0'.tn hM
    walk_at "rs"
    refine ⟨b, s, rfl, by omega, by omega, by omega, by omega, ?_⟩
    have ed : ∀ o, o = oddsT b s w c x tally → o = if x.S + 2 * oddsM b x ≥ b ^ s.toNat then none else some ⟨x.S + 2 * oddsM b x, x.P, (turnedN b w c ⟨x.S + oddsM b x - 1, x.P, x.W, x.C⟩ (oddsM b x) (-1) tally).W, (turnedN b w c ⟨x.S + oddsM b x - 1, x.P, x.W, x.C⟩ (oddsM b x) (-1) tally).C⟩ := fun o e => e
    have em : oddsN (x.W / b ^ x.P.toNat) x.S = oddsM b x := rfl
    rw [em] at k0 k1 k2
    rw [em]
    generalize oddsM b x = mm at k0 k1 k2 ed
    walk_at "rs"
    refine w_ite (fun g1 => ?_) (fun g1 => ?_)
    · walk_at "rs"
      exact qe ((ed _ rfl).trans (if_pos (by omega))) _ s0'
    · walk_at "rs"
      refine w_new (by decide) fun z1 H1 hz1 s1 h1 => ?_
      walk_at "rs"
      refine ⟨m, z1, b, s, w, c, ⟨x.S + mm - 1, x.P, x.W, x.C⟩, mm, -1, tally, rfl, SqT.tn s1.tn hM0, hm, SqT.of h1, by show -(2 ^ 60) < x.S + mm - 1; omega, by show x.S + mm - 1 < 2 ^ 60; omega, P0, P2, by omega, by omega, t0, t1, fun z2 H2 s2 h2 => ?_⟩
      have s12 := (s0'.trans s1).trans s2
      generalize turnedN b w c ⟨x.S + mm - 1, x.P, x.W, x.C⟩ mm (-1) tally = y at h2 ed
      walk_at "rs"
      refine w_slT (h2 : SqT K H2 z2 _) fun z3 H3 s3 h3 => ?_
      have h3' : SqT K H3 z3 [.int y.W, .int y.C] := h3
      walk_at "rs"
      refine w_new (by decide) fun z4 H4 hz4 s4 h4 => ?_
      exact q _ ((ed _ rfl).trans (if_neg (by omega))) z4 H4 ((s12.trans s3).trans s4) (SqT.of h4)

theorem ok_rung (T : Txt K mg base) : FnOk P wd K mg base CX0 3 T.f_rung T.fd_rung ["machine", "numbers", "tally"] (spRung K) := by
  refine T.F_rung.ok sc_rung (fun vs H Q E h => ?_) (fun cdv A outer s H vs Q E hr h => ?_)
  · obtain ⟨m, nu, b, s, w, c, tally, x, rfl, hM, hm, hx, hok, t0, t1, q, qe⟩ := h
    rfl
  · have hu := hu_of hr
    obtain ⟨m, nu, b, s, w, c, tally, x, rfl, hM, hm, hx, hok, t0, t1, q, qe⟩ := h
    refine ⟨_, (pss_cons (ps_asg (pv 1) (pg_tup (n := 4) rfl (pgs_cons (pg_name (i := 3) sc_rung.nd rfl (Or.inl rfl)) (pgs_cons (pg_name (i := 4) sc_rung.nd rfl (Or.inl rfl)) (pgs_cons (pg_name (i := 5) sc_rung.nd rfl (Or.inl rfl)) (pgs_cons (pg_name (i := 6) sc_rung.nd rfl (Or.inl rfl)) pgs_nil)))))) (pss_cons (ps_if (pt_cmpR (k_eq K rfl hr.units) (pv 3) pe_int (nomark _)) (pss_one (ps_ret pe_non)) pss_nil) (pss_cons (ps_set (i := 7) sc_rung.nd rfl (Or.inl rfl) (pe_op op_fdivW (pv 5) (pe_op (k_mul K rfl) (pv 3) (pe_call (ok_power T) (hr.mono (by decide)) (by rfl) T.g_power T.F_power.kp T.b_power .nil pass0 (pa_cons (pe_ix (k_ix K rfl) (pv 0) pe_int (fun _ _ => rfl)) (pa_cons (pv 4) pa_nil)))))) (pss_one (ps_ret (pe_call (ok_turned T) (hr.mono (by decide)) (by rfl) T.g_turned T.F_turned.kp T.b_turned .nil pass0 (pa_cons (pv 0) (pa_cons (pv 1) (pa_cons (pv 7) (pa_cons (pe_un un_neg pe_int) (pa_cons (pv 2) pa_nil))))))))))), ?_⟩
    dsimp only [cxOf, L2.start, List.map_cons, List.map_nil, List.length_cons, List.length_nil, List.replicate, List.cons_append, List.nil_append, Nat.reduceAdd, Nat.reduceSub]
    have hx' : SqT K H nu [.int x.S, .int x.P, .int x.W, .int x.C] := hx
    have hM' : SqT K H m [.int b, .int s, .int w, .int c] := hM
    obtain ⟨b0, b1, s0, s1, w0, w1, c0, c1⟩ := id hm
    obtain ⟨S0, S1, P0, P1, P2, W0, W1, C0, C1⟩ := id hok
    have hs := pow_le12 (n := s.toNat) (N := 6) (show 0 < b by omega) b1 (by omega)
    have hs2 : b ^ s.toNat < 2 ^ 24 := Int.lt_of_le_of_lt hs (by decide)
    walk_at "rs"
    refine w_ite (fun g1 => ?_) (fun g1 => ?_)
    · walk_at "rs"
      exact qe (if_pos g1) _ (Same.refl _)
    · walk_at "rs"
      refine ⟨b, x.P, rfl, by omega, by omega, P0, by omega, ?_⟩
      have hw := pow_le12 (n := x.P.toNat) (N := 9) (show 0 < b by omega) b1 (by omega)
      have hw0 := Int.pow_pos (n := b) (m := x.P.toNat) (by omega)
      have e : rungN b w c x tally = some (turnedN b w c x (x.W / (x.S * b ^ x.P.toNat)) (-1) tally) := if_neg g1
      generalize hu : b ^ x.P.toNat = u at hw hw0 e
      have u1 : u < 2 ^ 40 := Int.lt_of_le_of_lt hw (by decide)
      have su : 0 < x.S * u := Int.mul_pos (by omega) hw0
      have su2 : x.S * u ≤ 2 ^ 24 * 2 ^ 40 := Int.mul_le_mul (by omega) (by omega) (by omega) (by omega)
      walk_at "rs"
      refine w_I (divW66 su (by omega)) ?_
      walk_at "rs"
      exact ⟨m, nu, b, s, w, c, x, _, -1, tally, rfl, hM, hm, hx, by omega, by omega, P0, P2, by omega, by omega, t0, t1, fun z H1 s1 h1 => q _ e z H1 s1 h1⟩

theorem ok_shifted (T : Txt K mg base) : FnOk P wd K mg base CX0 3 T.f_shifted T.fd_shifted ["machine", "numbers", "by"] (spShiftedW K) := by
  refine T.F_shifted.ok sc_shifted (fun vs H Q E h => ?_) (fun cdv A outer s H vs Q E hr h => ?_)
  · obtain ⟨m, nu, b, s, w, c, y, x, rfl, hM, hm, hx, q, qe⟩ := h
    rfl
  · have hu := hu_of hr
    obtain ⟨m, nu, b, s, w, c, y, x, rfl, hM, hm, hx, q, qe⟩ := h
    refine ⟨_, (pss_cons (ps_asg (pv 1) (pg_tup (n := 4) rfl (pgs_cons (pg_name (i := 3) sc_shifted.nd rfl (Or.inl rfl)) (pgs_cons (pg_name (i := 4) sc_shifted.nd rfl (Or.inl rfl)) (pgs_cons (pg_name (i := 5) sc_shifted.nd rfl (Or.inl rfl)) (pgs_cons (pg_name (i := 6) sc_shifted.nd rfl (Or.inl rfl)) pgs_nil)))))) (pss_cons (ps_if (pt_not (pt_chain (op_le) (op_le) pe_int (pe_op (k_add K rfl) (pv 4) (pv 2)) (pe_call (ok_top T) (hr.mono (by decide)) (by rfl) T.g_top T.F_top.kp T.b_top .nil pass0 (pa_cons (pv 0) pa_nil)))) (pss_one (ps_ret pe_non)) pss_nil) (pss_one (ps_ret (pe_tup (pa_cons (pv 3) (pa_cons (pe_op (k_add K rfl) (pv 4) (pv 2)) (pa_cons (pv 5) (pa_cons (pv 6) pa_nil))))))))), ?_⟩
    dsimp only [cxOf, L2.start, List.map_cons, List.map_nil, List.length_cons, List.length_nil, List.replicate, List.cons_append, List.nil_append, Nat.reduceAdd, Nat.reduceSub]
    have hx' : SqT K H nu [.int x.S, .int x.P, .int x.W, .int x.C] := hx
    walk_at "rs"
    refine w_ite (fun g1 => ?_) (fun g1 => ?_)
    · walk_at "rs"
      refine ⟨m, b, s, w, c, rfl, hM, hm, ?_⟩
      walk_at "rs"
      refine w_iteN (fun g2 => ?_) (fun g2 => ?_)
      · walk_at "rs"
        exact qe (by omega)
      · walk_at "rs"
        refine w_new (by decide) fun z H1 hz s1 h1 => ?_
        exact q (by omega) z H1 s1 (SqT.of h1)
    · walk_at "rs"
      exact qe (by omega)

theorem ok_behind (T : Txt K mg base) : FnOk P wd K mg base CX0 4 T.f_behind T.fd_behind ["machine", "values", "numbers", "deed"] (spBehind K) := by
  refine T.F_behind.ok sc_behind (fun vs H Q E h => ?_) (fun cdv A outer s H vs Q E hr h => ?_)
  · obtain ⟨m, v, nu, d, b, s, w, c, ins, vals, x, dd, rfl, hM, hm, hv, hl, hio, hx, hok, hd, good, q, qe⟩ := h
    rfl
  · have hu := hu_of hr
    obtain ⟨m, v, nu, d, b, s, w, c, ins, vals, x, dd, rfl, hM, hm, hv, hl, hio, hx, hok, hd, good, q, qe⟩ := h
    refine ⟨_, (pss_cons (ps_asg (pv 2) (pg_tup (n := 4) rfl (pgs_cons (pg_name (i := 4) sc_behind.nd rfl (Or.inl rfl)) (pgs_cons (pg_name (i := 5) sc_behind.nd rfl (Or.inl rfl)) (pgs_cons (pg_name (i := 6) sc_behind.nd rfl (Or.inl rfl)) (pgs_cons (pg_name (i := 7) sc_behind.nd rfl (Or.inl rfl)) pgs_nil)))))) (pss_cons (ps_matchQ (pv 3) (pm_case K rfl (is := [8]) rfl sc_behind.nd (.cons .nil) (.cons rfl (Or.inl rfl) (.inr rfl) .nil) (pss_one (ps_ret (pe_tup (pa_cons (pe_dget hu (pv 1) (pv 8) (fun _ _ => rfl)) (pa_cons (pv 5) (pa_cons (pv 6) (pa_cons (pv 7) pa_nil))))))) (pm_case K rfl (is := []) rfl sc_behind.nd .nil .nil (pss_one (ps_ret (pe_tup (pa_cons pe_int (pa_cons (pv 5) (pa_cons (pv 6) (pa_cons (pv 7) pa_nil))))))) (pm_case K rfl (is := [9]) rfl sc_behind.nd (.cons .nil) (.cons rfl (Or.inl rfl) (.inr rfl) .nil) (pss_one (ps_ret (pe_call (ok_shifted T) (hr.mono (by decide)) (by rfl) T.g_shifted T.F_shifted.kp T.b_shifted .nil pass0 (pa_cons (pv 0) (pa_cons (pv 2) (pa_cons (pv 9) pa_nil)))))) (pm_case K rfl (is := [10, 11]) rfl sc_behind.nd (.cons (.cons .nil)) (.cons rfl (Or.inl rfl) (.inr rfl) (.cons rfl (Or.inl rfl) (.inr rfl) .nil)) (pss_one (ps_ret (pe_call (ok_turned T) (hr.mono (by decide)) (by rfl) T.g_turned T.F_turned.kp T.b_turned .nil pass0 (pa_cons (pv 0) (pa_cons (pv 2) (pa_cons pe_int (pa_cons (pv 10) (pa_cons (pv 11) pa_nil)))))))) (pm_case K rfl (is := [8, 12, 10, 11]) rfl sc_behind.nd (.cons (.cons (.cons (.cons .nil)))) (.cons rfl (Or.inl rfl) (.inr rfl) (.cons rfl (Or.inl rfl) (.inr rfl) (.cons rfl (Or.inl rfl) (.inr rfl) (.cons rfl (Or.inl rfl) (.inr rfl) .nil)))) (pss_cons (ps_set (i := 13) sc_behind.nd rfl (Or.inl rfl) (pe_ix (k_ix K rfl) (pe_call (ok_figures_of T) (hr.mono (by decide)) (by rfl) T.g_figures_of T.F_figures_of.kp T.b_figures_of .nil pass0 (pa_cons (pe_ix (k_ix K rfl) (pv 0) pe_int (fun _ _ => rfl)) (pa_cons (pe_dget hu (pv 1) (pv 8) (fun _ _ => rfl)) (pa_cons (pe_op (k_add K rfl) (pv 12) pe_int) pa_nil)))) (pv 12) (fun _ _ => rfl))) (pss_one (ps_ret (pe_call (ok_turned T) (hr.mono (by decide)) (by rfl) T.g_turned T.F_turned.kp T.b_turned .nil pass0 (pa_cons (pv 0) (pa_cons (pv 2) (pa_cons (pv 13) (pa_cons (pv 10) (pa_cons (pv 11) pa_nil))))))))) (pm_case K rfl (is := [11]) rfl sc_behind.nd (.cons .nil) (.cons rfl (Or.inl rfl) (.inr rfl) .nil) (pss_one (ps_ret (pe_call (ok_rung T) (hr.mono (by decide)) (by rfl) T.g_rung T.F_rung.kp T.b_rung .nil pass0 (pa_cons (pv 0) (pa_cons (pv 2) (pa_cons (pv 11) pa_nil)))))) (pm_case K rfl (is := [11]) rfl sc_behind.nd (.cons .nil) (.cons rfl (Or.inl rfl) (.inr rfl) .nil) (pss_one (ps_ret (pe_call (ok_odds_turned T) (hr.mono (by decide)) (by rfl) T.g_odds_turned T.F_odds_turned.kp T.b_odds_turned .nil pass0 (pa_cons (pv 0) (pa_cons (pv 2) (pa_cons (pv 11) pa_nil)))))) (pm_case2 K rfl rfl (pss_one (ps_ret (pe_tup (pa_cons (pv 4) (pa_cons (pv 5) (pa_cons pe_int (pa_cons (pv 7) pa_nil))))))) pm_nil) rfl) rfl) rfl) rfl) rfl) rfl) rfl)) (pss_one (ps_ret (pe_tup (pa_cons (pv 4) (pa_cons (pv 5) (pa_cons (pv 6) (pa_cons pe_int pa_nil))))))))), ?_⟩
    dsimp only [cxOf, L2.start, List.map_cons, List.map_nil, List.length_cons, List.length_nil, List.replicate, List.cons_append, List.nil_append, Nat.reduceAdd, Nat.reduceSub]
    have hx' : SqT K H nu [.int x.S, .int x.P, .int x.W, .int x.C] := hx
    have hM' : SqT K H m [.int b, .int s, .int w, .int c] := hM
    obtain ⟨b0, b1, s0, s1, w0, w1, c0, c1⟩ := id hm
    obtain ⟨S0, S1, P0, P1, P2, W0, W1, C0, C1⟩ := id hok
    have hs := pow_le12 (n := s.toNat) (N := 6) (show 0 < b by omega) b1 (by omega)
    have hs2 : b ^ s.toNat < 2 ^ 24 := Int.lt_of_le_of_lt hs (by decide)
    walk_at "rs"
    have nx : ∀ {k : Str} {z : Str} {ys : List V} {is : List Nat} {tb : TS} {tr : V → TS} {D : Ends} {σ : St}, SqT K H d (.str z :: ys) → ys.length ≤ 1000 → z ≠ k → tr (.ref d) D σ H → tCase K k is tb tr (.ref d) D σ H := fun h1 h2 h3 h4 => w_caseN h1 (fun e => h3 e.1) h2 h4
    cases dd with
    | load n =>
      refine w_caseY hd rfl (by simp) ?_
      dsimp only [setAll]
      walk_at "rs"
      refine w_dgetS hv (valsD_val hl good) ?_
      walk_at "rs"
      refine w_new (by decide) fun z H1 hz s1 h1 => ?_
      exact q _ rfl z H1 s1 (SqT.of h1)
    | one  =>
      refine nx hd (by simp) (by decide +kernel) ?_
      refine w_caseY hd rfl (by simp) ?_
      dsimp only [setAll]
      walk_at "rs"
      refine w_new (by decide) fun z H1 hz s1 h1 => ?_
      exact q _ rfl z H1 s1 (SqT.of h1)
    | shift y =>
      refine nx hd (by simp) (by decide +kernel) ?_
      refine nx hd (by simp) (by decide +kernel) ?_
      refine w_caseY hd rfl (by simp) ?_
      dsimp only [setAll]
      walk_at "rs"
      exact ⟨m, nu, b, s, w, c, y, x, rfl, hM, hm, hx, fun ok z H1 s1 h1 => q _ (if_pos ok) z H1 s1 h1, fun no => qe (if_neg no) _ (Same.refl _)⟩
    | turn way tally =>
      refine nx hd (by simp) (by decide +kernel) ?_
      refine nx hd (by simp) (by decide +kernel) ?_
      refine nx hd (by simp) (by decide +kernel) ?_
      refine w_caseY hd rfl (by simp) ?_
      dsimp only [setAll]
      walk_at "rs"
      have g2 : (wayOk way && tallyOk tally) = true := good
      simp only [wayOk, tallyOk, Bool.and_eq_true, decide_eq_true_eq] at g2
      exact ⟨m, nu, b, s, w, c, x, 1, way, tally, rfl, hM, hm, hx, by omega, by omega, P0, P2, by omega, by omega, by omega, by omega, fun z H1 s1 h1 => q _ rfl z H1 s1 h1⟩
    | turns n k way tally =>
      refine nx hd (by simp) (by decide +kernel) ?_
      refine nx hd (by simp) (by decide +kernel) ?_
      refine nx hd (by simp) (by decide +kernel) ?_
      refine nx hd (by simp) (by decide +kernel) ?_
      refine w_caseY hd rfl (by simp) ?_
      dsimp only [setAll]
      walk_at "rs"
      obtain ⟨g1, g2, g3, g4, g5⟩ := turns_ok hio good
      simp only [wayOk, tallyOk, decide_eq_true_eq] at g4 g5
      refine w_dgetS hv (valsD_val hl g1) ?_
      walk_at "rs"
      refine ⟨b, _, _, rfl, by omega, by omega, by omega, by omega, fun p1 H1 s1 hp1 h1 => ?_⟩
      obtain ⟨kk, rfl⟩ : ∃ kk : Nat, k = kk := ⟨k.toNat, by omega⟩
      have ek : ((kk : Int) + 1).toNat = kk + 1 := by omega
      rw [ek] at h1
      walk_at "rs"
      refine w_ixT (SqT.of h1) (digs_at b _ kk) ?_
      walk_at "rs"
      exact ⟨m, nu, b, s, w, c, x, _, way, tally, rfl, SqT.tn s1.tn hM, hm, hx.tn s1.tn, by omega, by omega, P0, P2, by omega, by omega, by omega, by omega, fun z H2 s2 h2 => q _ (by show some _ = some _; rw [Int.toNat_natCast]) z H2 (s1.trans s2) h2⟩
    | bell tally =>
      refine nx hd (by simp) (by decide +kernel) ?_
      refine nx hd (by simp) (by decide +kernel) ?_
      refine nx hd (by simp) (by decide +kernel) ?_
      refine nx hd (by simp) (by decide +kernel) ?_
      refine nx hd (by simp) (by decide +kernel) ?_
      refine w_caseY hd rfl (by simp) ?_
      dsimp only [setAll]
      walk_at "rs"
      have g2 : tallyOk tally = true := good
      simp only [tallyOk, decide_eq_true_eq] at g2
      exact ⟨m, nu, b, s, w, c, tally, x, rfl, hM, hm, hx, hok, by omega, by omega, q, qe⟩
    | odds tally =>
      refine nx hd (by simp) (by decide +kernel) ?_
      refine nx hd (by simp) (by decide +kernel) ?_
      refine nx hd (by simp) (by decide +kernel) ?_
      refine nx hd (by simp) (by decide +kernel) ?_
      refine nx hd (by simp) (by decide +kernel) ?_
      refine nx hd (by simp) (by decide +kernel) ?_
      refine w_caseY hd rfl (by simp) ?_
      dsimp only [setAll]
      walk_at "rs"
      have g2 : tallyOk tally = true := good
      simp only [tallyOk, decide_eq_true_eq] at g2
      exact ⟨m, nu, b, s, w, c, tally, x, rfl, hM, hm, hx, hok, by omega, by omega, q, qe⟩
    | wipe cc =>
      refine nx hd (by simp) (by decide +kernel) ?_
      refine nx hd (by simp) (by decide +kernel) ?_
      refine nx hd (by simp) (by decide +kernel) ?_
      refine nx hd (by simp) (by decide +kernel) ?_
      refine nx hd (by simp) (by decide +kernel) ?_
      refine nx hd (by simp) (by decide +kernel) ?_
      refine nx hd (by simp) (by decide +kernel) ?_
      cases cc with
      | false =>
        refine w_case2Y hd ?_
        walk_at "rs"
        refine w_new (by decide) fun z H1 hz s1 h1 => ?_
        exact q _ rfl z H1 s1 (SqT.of h1)
      | true =>
        refine w_case2N hd (fun e => absurd e.2 (by decide +kernel)) ?_
        walk_at "rs"
        refine w_new (by decide) fun z H1 hz s1 h1 => ?_
        exact q _ rfl z H1 s1 (SqT.of h1)

theorem ok_need_values (T : Txt K mg base) : FnOk P wd K mg base CX0 2 T.f_need_values T.fd_need_values ["machine", "inputs", "values"] (spNeedValues K) := by
  refine T.F_need_values.ok sc_need_values (fun vs H Q E h => ?_) (fun cdv A outer s H vs Q E hr h => ?_)
  · obtain ⟨m, x, v, b, s, w, c, xs, ins, vals, rfl, hM, hm, hx, hp, hi, hv, hok, q⟩ := h
    rfl
  · have hu := hu_of hr
    obtain ⟨m, x, v, b, s, w, c, xs, ins, vals, rfl, hM, hm, hx, hp, hi, hv, hok, q⟩ := h
    refine ⟨_, (pss_cons (ps_if (pt_cmpR (k_ne K rfl hr.units) (pe_callB k_lenD (by rfl) T.n_len (by decide +kernel) (pa_cons (pv 2) pa_nil)) (pe_callB (k_len K rfl) (by rfl) T.n_len (by decide +kernel) (pa_cons (pv 1) pa_nil)) (nomark _)) (pss_one ps_never) pss_nil) (pss_one (ps_for PassesOwn.never rfl (k_U K rfl (pv 1)) (pg_tup (n := 3) rfl (pgs_cons (pg_name (i := 3) sc_need_values.nd rfl (Or.inl rfl)) (pgs_cons (pg_name (i := 4) sc_need_values.nd rfl (Or.inl rfl)) (pgs_cons (pg_name (i := 5) sc_need_values.nd rfl (Or.inl rfl)) pgs_nil)))) (pss_cons (ps_if (pt_cmp (pc_dnotin hu (pv 3) (pv 2))) (pss_one ps_never) pss_nil) (pss_one (ps_if (pt_not (pt_chain (op_le) (op_lt) (pv 5) (pe_dget hu (pv 2) (pv 3) (fun _ _ => rfl)) (pe_call (ok_power T) (hr.mono (by decide)) (by rfl) T.g_power T.F_power.kp T.b_power .nil pass0 (pa_cons (pe_ix (k_ix K rfl) (pv 0) pe_int (fun _ _ => rfl)) (pa_cons (pv 4) pa_nil))))) (pss_one ps_never) pss_nil)))))), ?_⟩
    dsimp only [cxOf, L2.start, List.map_cons, List.map_nil, List.length_cons, List.length_nil, List.replicate, List.cons_append, List.nil_append, Nat.reduceAdd, Nat.reduceSub]
    have hM' : SqT K H m [.int b, .int s, .int w, .int c] := hM
    obtain ⟨b0, b1, s0, s1, w0, w1, c0, c1⟩ := id hm
    have hxl : xs.length = ins.length := paired_len hp
    walk_at "rs"
    refine w_dlen hv ?_
    walk_at "rs"
    rw [valsD_len hok.len]
    refine w_iteNF2 (by rw [List.length_map, hxl]) ?_
    walk_at "rs"
    refine w_UT hx ?_
    refine lp_tup (fun i σ H' => H' = H ∧ ∃ x1 x2 x3, σ = [some (.ref m), some (.ref x), some (.ref v), x1, x2, x3]) ⟨rfl, none, none, none, rfl⟩ (fun i σ H' _ hp => hp.1 ▸ hx) ?_ ?_
    · rintro k u σ H2 hk ⟨rfl, x1, x2, x3, rfl⟩
      obtain ⟨r, hr, rfl⟩ := map_ref hk
      obtain ⟨inp, hin, hr0⟩ := paired_getL hp hr
      have hr1 : SqT K H2 r [.str inp.nm, .int inp.fg, .int inp.ls] := hr0
      have g0 := valsD_val (vals := vals) hok.len (figsOf_some (List.mem_of_getElem? hin))
      obtain ⟨_, g1, g2⟩ := valOf_in hi hok hin
      have io := hi.2 k inp hin
      unfold inputOk at io
      simp only [Bool.and_eq_true, decide_eq_true_eq] at io
      obtain ⟨⟨⟨_, f1⟩, f2⟩, f3⟩ := io
      walk_at "rs"
      refine w_dniS hv ?_
      rw [g0]
      dsimp only [Option.isSome_some, Bool.not_true]
      walk_at "rs"
      refine w_dgetS hv g0 ?_
      walk_at "rs"
      refine ⟨b, inp.fg, rfl, by omega, by omega, by omega, by omega, ?_⟩
      walk_at "rs"
      exact ⟨rfl, _, _, _, rfl⟩
    · rintro σ H2 ⟨rfl, x1, x2, x3, rfl⟩
      exact q

theorem ok_worked (T : Txt K mg base) : FnOk P wd K mg base (L2.CX P wd) 9 T.f_worked T.fd_worked ["machine", "book", "values"] (spWorked K T.tp_is_name T.C_Stuck) := by
  refine T.F_worked.okX sc_worked (fun vs H Q E h => ?_) (fun cdv A outer s H vs Q E hr h => ?_)
  · obtain ⟨m, bk, v, b, s, w, c, B, vals, rfl, hM, hm, hB, hok, hv, hvo, htab, qe, q⟩ := h
    rfl
  · have hu := hu_of hr
    obtain ⟨m, bk, v, b, s, w, c, B, vals, rfl, hM, hm, hB, hok, hv, hvo, htab, qe, q⟩ := h
    refine ⟨_, (pss_cons (ps_expr (pe_call (ok_need_book T) (hr.mono (by decide)) (by rfl) T.g_need_book T.F_need_book.kp T.b_need_book .nil pass0 (pa_cons (pv 0) (pa_cons (pv 1) pa_nil)))) (pss_cons (ps_asg (pv 1) (pg_tup (n := 3) rfl (pgs_cons (pg_name (i := 3) sc_worked.nd rfl (Or.inl rfl)) (pgs_cons (pg_name (i := 4) sc_worked.nd rfl (Or.inl rfl)) (pgs_cons (pg_name (i := 5) sc_worked.nd rfl (Or.inl rfl)) pgs_nil))))) (pss_cons (ps_expr (pe_call (ok_need_values T) (hr.mono (by decide)) (by rfl) T.g_need_values T.F_need_values.kp T.b_need_values .nil pass0 (pa_cons (pv 0) (pa_cons (pv 3) (pa_cons (pv 2) pa_nil))))) (pss_cons (ps_set (i := 6) sc_worked.nd rfl (Or.inl rfl) (pe_tup (pa_cons pe_int (pa_cons pe_int (pa_cons pe_int (pa_cons pe_int pa_nil)))))) (pss_cons (ps_for (passes_of rfl) rfl (pi_en K rfl (by rfl) T.n_enumerate (pa_cons (pv 4) pa_nil)) (pg_tup (n := 2) rfl (pgs_cons (pg_name (i := 7) sc_worked.nd rfl (Or.inl rfl)) (pgs_cons (pg_name (i := 8) sc_worked.nd rfl (Or.inl rfl)) pgs_nil))) (pss_cons (ps_set (i := 6) sc_worked.nd rfl (Or.inl rfl) (pe_call (ok_behind T) (hr.mono (by decide)) (by rfl) T.g_behind T.F_behind.kp T.b_behind .nil pass0 (pa_cons (pv 0) (pa_cons (pv 2) (pa_cons (pv 6) (pa_cons (pv 8) pa_nil)))))) (pss_one (ps_if (pt_cmpR (k_isN) (pv 6) pe_non (nomark _)) (pss_one (ps_raise rfl (takes_of rfl rfl rfl rfl) (pmk_oex T.o_Stuck T.iC_Stuck T.tI_Stuck (ok_Stuck__init T) (hr.mono (by decide)) T.b_Stuck__init .nil pass0 (by rfl) T.gC_Stuck (pa_cons (pv 7) pa_nil)))) pss_nil)))) (pss_cons (ps_asg (pv 6) (pg_tup (n := 4) rfl (pgs_cons (pg_name (i := 9) sc_worked.nd rfl (Or.inl rfl)) (pgs_cons (pg_name (i := 10) sc_worked.nd rfl (Or.inl rfl)) (pgs_cons (pg_name (i := 11) sc_worked.nd rfl (Or.inl rfl)) (pgs_cons (pg_name (i := 12) sc_worked.nd rfl (Or.inl rfl)) pgs_nil)))))) (pss_one (ps_ret (pe_tup (pa_cons (pv 11) (pa_cons (pv 12) pa_nil))))))))))), ?_⟩
    dsimp only [cxOf, L2.start, List.map_cons, List.map_nil, List.length_cons, List.length_nil, List.replicate, List.cons_append, List.nil_append, Nat.reduceAdd, Nat.reduceSub]
    obtain ⟨x, y, z, xs, ys, zs, h0, h1, p1, h2, p2, h3, p3⟩ := id hB
    walk_at "rs"
    refine ⟨m, bk, b, s, w, c, B, rfl, hM, hm, hB, hok, htab, fun H1 s1 => ?_⟩
    have h01 := SqT.tn s1.tn h0
    walk_at "rs"
    refine ⟨m, x, v, b, s, w, c, xs, B.ins, vals, rfl, SqT.tn s1.tn hM, hm, SqT.tn s1.tn h1, paired_imp (fun _ _ h => h.tn s1.tn) p1, hok.ins, s1.d hv, hvo, ?_⟩
    walk_at "rs"
    refine w_new (by decide) fun nu H2 hnu s2 hn2 => ?_
    walk_at "rs"
    have s12 := s1.trans s2.smt
    have hyl : ys.length = B.dds.length := paired_len p2
    refine w_enT (SqT.tn s12.tn h2) ?_
    refine lp_en (fun i σ H' => Tg.SmT T.tp_is_name H H' ∧ ∃ nu xst x1 x2 x3 x4 x5 x6, σ = [some (.ref m), some (.ref bk), some (.ref v), some (.ref x), some (.ref y), some (.ref z), some (.ref nu), x1, x2, x3, x4, x5, x6] ∧ NumAt K H' nu xst ∧ NumOk b s w c xst ∧ runN b s w c (valOf B.ins vals) B.dds 0 num0 = runN b s w c (valOf B.ins vals) (B.dds.drop i) i xst)
      ⟨s12, nu, num0, none, none, none, none, none, none, rfl, SqT.of hn2, num0_ok hm, by rw [List.drop_zero]⟩ (fun i σ H' _ hp => SqT.tn hp.1.tn h2) ?_ ?_
    · rintro i u σ H3 P0 H4 hu3 ⟨s3, nu, xst, x1, x2, x3, x4, x5, x6, rfl, hnu3, hno, hrun⟩ hP0 s4 h4
      obtain ⟨r, hr, rfl⟩ := map_ref hu3
      obtain ⟨d, hd, hr0⟩ := paired_getL p2 hr
      have good := hok.dds d (List.mem_of_getElem? hd)
      have hil : i < B.dds.length := (List.getElem?_eq_some_iff.mp hd).1
      have hdl := hok.dl
      have s34 := s3.trans s4.smt
      rw [runN_step xst hd] at hrun
      walk_at "rs"
      refine ⟨m, v, nu, r, b, s, w, c, B.ins, vals, xst, d, rfl, SqT.tn s34.tn hM, hm, s34.d hv, hvo.len, hok.ins, hnu3.tn s4.tn, hno, hr0.tn s34.tn, good, fun y2 ey z2 H5 s5 hz2 => ?_, fun en H5 s5 => ?_⟩
      · rw [ey] at hrun
        walk_at "rs"
        exact ⟨s34.trans s5.smt, z2, y2, _, _, _, _, _, _, rfl, hz2, hno.step hm hok.ins hvo good ey, hrun⟩
      · rw [en] at hrun
        walk_at "rs"
        refine w_mk1 (by omega) (by omega) fun d2 H6 s6 hd0 hd2 => ?_
        exact qe i hrun d2 H6 ((s34.trans s5.smt).trans s6.smt) hd2
    · rintro σ H3 ⟨s3, nu, xst, x1, x2, x3, x4, x5, x6, rfl, hnu3, hno, hrun⟩
      rw [List.length_map, hyl, List.drop_length] at hrun
      have hnu3' : SqT K H3 nu [.int xst.S, .int xst.P, .int xst.W, .int xst.C] := hnu3
      walk_at "rs"
      refine w_new (by decide) fun z4 H4 hz4 s4 h4 => ?_
      exact q xst hrun z4 H4 (s3.trans s4.smt) (SqT.of h4)

theorem ok_law (T : Txt K mg base) : FnOk P wd K mg base CX0 10 T.f_law T.fd_law ["_law_script"] (spLawE K [T.tp_is_name, T.tp_law]) := by
  refine T.F_law.okC sc_law (fun vs H Q E h => ?_) (fun cdv hc A outer s H vs Q E hr h => ?_)
  · obtain ⟨a, ns, rfl, hS, hn, q, hP⟩ := h
    rfl
  · have hu := hu_of hr
    obtain ⟨a, ns, rfl, hS, hn, q, hP⟩ := h
    refine ⟨_, (pss_cons (ps_set (i := 1) sc_law.nd rfl (Or.inl rfl) (pe_lst (pa_cons pe_int (pa_cons (pe_callTy (k_list K rfl) (by rfl) T.n_list (by decide +kernel) (pa_cons (pv 0) pa_nil)) (pa_cons pe_int pa_nil))))) (pss_cons (ps_for PassesOwn.never rfl (pi_range1 rfl T.n_range (pa_cons pe_int pa_nil)) (pg_name (i := 2) sc_law.nd rfl (Or.inl rfl)) (pss_cons (ps_set (i := 12) sc_law.nd rfl (Or.inr rfl) (pe_call (ok__law_big T) (hr.mono (by decide)) (by rfl) T.g__law_big T.F__law_big.kp T.b__law_big .nil pass0 (pa_cons (pv 1) pa_nil))) (pss_cons (ps_asg (pv 12) (pg_tup (n := 4) rfl (pgs_cons (pg_name (i := 3) sc_law.nd rfl (Or.inl rfl)) (pgs_cons (pg_name (i := 4) sc_law.nd rfl (Or.inl rfl)) (pgs_cons (pg_name (i := 5) sc_law.nd rfl (Or.inl rfl)) (pgs_cons (pg_name (i := 6) sc_law.nd rfl (Or.inl rfl)) pgs_nil)))))) (pss_cons (ps_set (i := 13) sc_law.nd rfl (Or.inr rfl) (pe_op (k_add K rfl) pe_int (pe_call (ok__law_next T) (hr.mono (by decide)) (by rfl) T.g__law_next T.F__law_next.kp T.b__law_next .nil pass0 (pa_cons (pv 1) (pa_cons pe_int pa_nil))))) (pss_cons (ps_set (i := 14) sc_law.nd rfl (Or.inr rfl) (pe_op (k_add K rfl) pe_int (pe_call (ok__law_next T) (hr.mono (by decide)) (by rfl) T.g__law_next T.F__law_next.kp T.b__law_next .nil pass0 (pa_cons (pv 1) (pa_cons pe_int pa_nil))))) (pss_cons (ps_set (i := 7) sc_law.nd rfl (Or.inl rfl) (pe_op (k_add K rfl) (pe_callB (call_minQ rfl) (by rfl) T.n_min (by decide +kernel) (pa_cons (pe_op op_sub (pv 5) (pv 4)) (pa_cons (pe_op op_sub (pv 6) pe_int) pa_nil))) pe_int)) (pss_cons (ps_set (i := 8) sc_law.nd rfl (Or.inl rfl) (Lb.pe_lam (k := 4) (by rfl) T.g__law_told T.F__law_told T.b__law_told sc__law_told rfl (by first | exact Or.inl rfl | exact Or.inr (Or.inl rfl)) (fun cdg => gives__law_told T cdg) (Tg.tab_lam T.tb_law) (hc.symm.trans T.cd_law) rfl (hr.mono (by decide)) (LamX.lamS_by (sc := defScope s_law) (by decide +kernel)) rfl (by intros; rfl) (fun A outer s H E f c2 hr => (pe_callS (ok_product T) (hr.mono (by decide)) (by rfl) T.g_product T.F_product.kp T.b_product (fun σ => passAt (takes_of rfl rfl rfl rfl) σ) (pa_cons (pv 12) (pa_cons (pv 13) (pa_cons (pv 14) pa_nil))))))) (pss_cons (ps_if (pt_cmpR (k_eq K rfl hr.units) (pe_cmpR (k_isN) (pv 8) pe_non (nomark _)) (pe_and (pe_cmpR (op_le) (pe_callB (call_maxQ rfl) (by rfl) T.n_max (by decide +kernel) (pa_cons (pv 13) (pa_cons (pv 14) pa_nil))) (pv 4) (nomark _)) (pe_and (pe_cmpR (op_le) (pv 14) (pv 7) (nomark _)) (pe_one (pe_cmpR (op_le) (pe_op (k_add K rfl) (pv 13) (pv 14)) (pv 5) (nomark _))))) (nomark _)) (pss_one (ps_ret pe_bl)) pss_nil) (pss_one (ps_if (pt_cmpR (k_notN) (pv 8) pe_non (nomark _)) (pss_cons (ps_if (PW.pt (pw_or (pt_cmpR (k_ne K rfl hr.units) (pv 8) (pe_call (ok__law_due T) (hr.mono (by decide)) (by rfl) T.g__law_due T.F__law_due.kp T.b__law_due .nil pass0 (pa_cons (pv 13) (pa_cons (pv 14) pa_nil))) (nomark _)) (pw_or1 (pt_cmpR (k_notN) (pe_call (ok_looked T) (hr.mono (by decide)) (by rfl) T.g_looked T.F_looked.kp T.b_looked .nil pass0 (pa_cons (pv 12) (pa_cons (pv 8) pa_nil))) pe_non (nomark _))))) (pss_one (ps_ret pe_bl)) pss_nil) (pss_one (ps_for PassesOwn.never rfl (pi_range1 rfl T.n_range (pa_cons pe_int pa_nil)) (pg_name (i := 9) sc_law.nd rfl (Or.inl rfl)) (pss_cons (ps_set (i := 10) sc_law.nd rfl (Or.inl rfl) (pe_call (ok__law_value T) (hr.mono (by decide)) (by rfl) T.g__law_value T.F__law_value.kp T.b__law_value .nil pass0 (pa_cons (pv 1) (pa_cons (pv 3) (pa_cons (pv 13) (pa_cons pe_int pa_nil)))))) (pss_cons (ps_set (i := 11) sc_law.nd rfl (Or.inl rfl) (pe_call (ok__law_value T) (hr.mono (by decide)) (by rfl) T.g__law_value T.F__law_value.kp T.b__law_value .nil pass0 (pa_cons (pv 1) (pa_cons (pv 3) (pa_cons (pv 14) (pa_cons pe_int pa_nil)))))) (pss_one (ps_if (pt_cmpR (k_ne K rfl hr.units) (pe_call (ok_worked T) (hr.mono (by decide)) (by rfl) T.g_worked T.F_worked.kp T.b_worked .nil passX0 (pa_cons (pv 12) (pa_cons (pv 8) (pa_cons (pe_disp (pps_cons pe_str (pv 10) (pps_cons pe_str (pv 11) pps_nil)) (by rfl) (by rfl) (fun z => by cases z) (by decide)) pa_nil)))) (pe_tup (pa_cons (pe_op (k_mul K rfl) (pv 10) (pv 11)) (pa_cons (pv 11) pa_nil))) (nomark _)) (pss_one (ps_ret pe_bl)) pss_nil))))))) pss_nil)))))))))) (pss_one (ps_ret pe_bl)))), ?_⟩
    dsimp only [cxOf, L2.start, List.map_cons, List.map_nil, List.length_cons, List.length_nil, List.replicate, List.cons_append, List.nil_append, Nat.reduceAdd, Nat.reduceSub]
    have ht1 := hP T.tp_is_name List.mem_cons_self
    have ht2 := hP T.tp_law (List.mem_cons_of_mem _ List.mem_cons_self)
    have tne : T.tp_law ≠ T.tp_is_name := fun z => by
      have := T.ne_law_is_name
      rw [z] at this
      simp at this
    walk_at "rs"
    refine w_lstL hS fun l H1 hl s1 h1 => ?_
    walk_at "rs"
    refine w_new (by decide) fun h H2 hh s2 h2 => ?_
    have hd : DrawAt H2 h l := ⟨37, 0, ns, h2, s2 l _ h1, by decide, by decide, hn⟩
    have s02 := s1.trans s2
    have tb2 : GxR.TabG H2 T.tp_is_name := Tg.tabG0 (s02 _ _ ht1)
    have ts2 : LamX.TabS H2 T.tp_law (("law" : Str) ++ ".<locals>." ++ "<lambda>") := LamX.TabS.nil (s02 _ _ ht2)
    walk_at "rs"
    refine w_rngI (by omega) ?_
    refine lp_range0 (fun i σ H' => ∃ x2 x3 x4 x5 x6 x7 x8 x9 x10 x11 x12 x13 x14, σ = [some (.ref a), some (.ref h), x2, x3, x4, x5, x6, x7, x8, x9, x10, x11, x12, x13, x14] ∧ DrawAt H' h l ∧ GxR.TabG H' T.tp_is_name ∧ LamX.TabS H' T.tp_law (("law" : Str) ++ ".<locals>." ++ "<lambda>"))
      ⟨_, _, _, _, _, _, _, _, _, _, _, _, _, rfl, hd, tb2, ts2⟩ ?_ ?_
    · rintro i σ H3 hi ⟨x2, x3, x4, x5, x6, x7, x8, x9, x10, x11, x12, x13, x14, rfl, hd3, tb3, ts3⟩
      walk_at "rs"
      refine ⟨h, l, rfl, hd3, fun b s w c m H4 hm g1 g2 g3 D4 h4 => ?_⟩
      obtain ⟨b0, b1, s0, s1', w0, w1, c0, c1⟩ := id hm
      have hM4 : MachAt K H4 m b s w c := SqT.of h4
      have hM4' : SqT K H4 m [.int b, .int s, .int w, .int c] := hM4
      walk_at "rs"
      refine w_nx D4.dr (by omega) (by omega) fun r1 H5 r10 r11 D5 => ?_
      walk_at "rs"
      refine w_nx D5.dr (by omega) (by omega) fun r2 H6 r20 r21 D6 => ?_
      have D36 := (D4.trans D5).trans D6
      have hM6 : MachAt K H6 m b s w c := SqT.tn (D5.trans D6).tn hM4
      have tb6 := D36.tab hd3 tb3
      have ts6 := Lb.tabS_drew ts3 D36 hd3
      walk_at "rs"
      refine w_lam ts6 fun H7 s7 ts7 => ?_
      unfold ToldT
      have tb7 := s7.tabG tb6
      have hd7 := D36.dr.smt s7
      have hM7 : MachAt K H7 m b s w c := SqT.tn s7.tn hM6
      walk_at "rs"
      refine ⟨m, b, s, w, c, 1 + r1, 1 + r2, rfl, hM7, hm, by omega, by omega, by omega, by omega, fun fit p H8 s8 hB => ?_, fun no H8 s8 => ⟨rfl, rfl, fun H9 s9 => ?_⟩⟩
      · obtain ⟨f1, f2, f3, f4⟩ := id fit
        walk_at "rs"
        refine w_eqBl ?_
        rw [decide_eq_true (show 1 + r1 + (1 + r2) ≤ w from f4), show (false == true) = false from rfl]
        walk_at "rs"
        refine ⟨1 + r1, 1 + r2, rfl, by omega, by omega, by omega, by omega, fun p2 H9 s9 hB2 => ?_⟩
        have s79 := s8.trans s9
        refine w_neSame (bok_dp (hB.tn s9.tn)) (bok_dp hB2) (prod_lays (1 + r1) (1 + r2)) (by decide) ?_
        walk_at "rs"
        obtain ⟨lk1, lk2⟩ := prod_look hm (by omega) (by omega) fit
        refine ⟨m, p, b, s, w, c, _, rfl, SqT.tn s79.tn hM7, hm, hB.tn s9.tn, prod_ok hm (by omega) (by omega) fit, (Same.smt (P := T.tp_law) s79).tabG tb7, lk1, fun H10 s10 => ?_⟩
        rw [lk2]
        dsimp only [LookQ]
        have e710 : Tg.SmT T.tp_is_name H9 H10 := s10
        walk_at "rs"
        refine w_rngI (by omega) ?_
        have e7 : Tg.SmT T.tp_is_name H7 H10 := (Same.smt (P := T.tp_is_name) s79).trans s10
        have hM10 : MachAt K H10 m b s w c := SqT.tn e7.tn hM7
        have hB10 : BokAt K H10 p (prodB (1 + r1) (1 + r2)) := hB.tn (s9.tn.trans s10.tn)
        have tb10 := s10.tabG ((Same.smt (P := T.tp_law) s79).tabG tb7)
        have hd10 := hd7.smt e7
        have ts10 := Lb.tabS_smt ts7 e7 tne
        refine lp_range0 (fun j σ H' => ∃ y9 y10 y11, σ = [some (.ref a), some (.ref h), some (.int i), some (.int b), some (.int s), some (.int w), some (.int c), some (.int (min (w - s) (c - 1) + 1)), some (.ref p), y9, y10, y11, some (.ref m), some (.int (1 + r1)), some (.int (1 + r2))] ∧ MachAt K H' m b s w c ∧ BokAt K H' p (prodB (1 + r1) (1 + r2)) ∧ DrawAt H' h l ∧ GxR.TabG H' T.tp_is_name ∧ LamX.TabS H' T.tp_law (("law" : Str) ++ ".<locals>." ++ "<lambda>"))
          ⟨_, _, _, rfl, hM10, hB10, hd10, tb10, ts10⟩ ?_ ?_
        · rintro j σ H11 hj ⟨y9, y10, y11, rfl, hM11, hB11, hd11, tb11, ts11⟩
          walk_at "rs"
          refine ⟨h, l, b, 1 + r1, 0, rfl, hd11, b0, b1, by omega, by omega, by omega, by omega, fun va H12 va0 va1 D12 => ?_⟩
          walk_at "rs"
          refine ⟨h, l, b, 1 + r2, 0, rfl, D12.dr, b0, b1, by omega, by omega, by omega, by omega, fun vb H13 vb0 vb1 D13 => ?_⟩
          have D := D12.trans D13
          walk_at "rs"
          refine w_dispQ fun v1 hv1 => ?_
          dsimp only [tPairs]
          walk_at "rs"
          refine w_dispI hv1 [("a", va), ("b", vb)] rfl rfl (by simp) fun H14 s14 h14 => ?_
          obtain ⟨z, hz, hzW, hzC⟩ := prod_run hm (by omega) (by omega) fit va0 va1 vb0 vb1
          have tb14 := (Same.smt (P := T.tp_law) s14).tabG (D.tab hd11 tb11)
          have hd14 := D.dr.same s14
          have ts14 := (Lb.tabS_drew ts11 D hd11).ext s14
          have tn14 : Tn H11 H14 := D.tn.trans s14.tn
          walk_at "rs"
          refine ⟨m, p, v1, b, s, w, c, prodB (1 + r1) (1 + r2), [va, vb], rfl, SqT.tn tn14 hM11, hm, hB11.tn tn14, prod_ok hm (by omega) (by omega) fit, h14, ⟨rfl, fun kk ii vv e1 e2 => ?_⟩, tb14, (fun kk e => by rw [hz] at e; cases e), fun yy e q1 H15 s15 h15 => ?_⟩
          · match kk, e1, e2 with
            | 0, e1, e2 => cases e1; cases e2; exact ⟨va0, va1⟩
            | 1, e1, e2 => cases e1; cases e2; exact ⟨vb0, vb1⟩
          · rw [hz] at e
            cases e
            have p6 : b ^ (1 + r1).toNat ≤ 12 ^ 6 := My.pow_le12 (n := (1 + r1).toNat) (N := 6) (by omega) b1 (by omega)
            have p7 : (12 : Int) ^ 6 < 2 ^ 64 := by decide
            walk_at "rs"
            refine w_new (by decide) fun q2 H16 hq2 s16 h16 => ?_
            refine w_neTI (xs := [z.W, z.C]) (ys := [va * vb, vb]) (SqT.tn s16.tn h15) (SqT.of h16) ?_
            rw [hzW, hzC, decide_eq_true rfl]
            walk_at "rs"
            have tn16 : Tn H11 H16 := (tn14.trans s15.tn).trans s16.tn
            exact ⟨_, _, _, rfl, SqT.tn tn16 hM11, hB11.tn tn16, (hd14.smt s15).same s16, (Same.smt (P := T.tp_law) s16).tabG (s15.tabG tb14), (Lb.tabS_smt ts14 s15 tne).ext s16⟩
        · rintro σ H11 ⟨y9, y10, y11, rfl, hM11, hB11, hd11, tb11, ts11⟩
          exact ⟨_, _, _, _, _, _, _, _, _, _, _, _, _, rfl, hd11, tb11, ts11⟩
      · walk_at "rs"
        refine w_iteN2 (fun q1 => ?_) (fun q1 => ?_)
        · walk_at "rs"
          refine w_iteN2 (fun q2 => ?_) (fun q2 => ?_)
          · walk_at "rs"
            refine w_eqBl ?_
            rw [decide_eq_false (show ¬ 1 + r1 + (1 + r2) ≤ w from fun q3 => no ⟨by omega, by omega, q2, q3⟩), show (true == false) = false from rfl]
            walk_at "rs"
            have e := s8.trans s9
            exact ⟨_, _, _, _, _, _, _, _, _, _, _, _, _, rfl, hd7.same e, (Same.smt (P := T.tp_law) e).tabG tb7, ts7.ext e⟩
          · walk_at "rs"
            refine w_eqBl ?_
            rw [show (true == false) = false from rfl]
            walk_at "rs"
            have e := s8.trans s9
            exact ⟨_, _, _, _, _, _, _, _, _, _, _, _, _, rfl, hd7.same e, (Same.smt (P := T.tp_law) e).tabG tb7, ts7.ext e⟩
        · walk_at "rs"
          refine w_eqBl ?_
          rw [show (true == false) = false from rfl]
          walk_at "rs"
          have e := s8.trans s9
          exact ⟨_, _, _, _, _, _, _, _, _, _, _, _, _, rfl, hd7.same e, (Same.smt (P := T.tp_law) e).tabG tb7, ts7.ext e⟩
    · rintro σ H3 ⟨x2, x3, x4, x5, x6, x7, x8, x9, x10, x11, x12, x13, x14, rfl, hd3, tb3, ts3⟩
      walk_at "rs"
      exact q _
end
theorem all_mk {l : PySem.W.OpenLaw} {w : World} {K : PySem.W.Frag} {h : Heap} {mg : Str → Option Value} {fa : Addr} (X : K.In h) (G : h.Ns mainGlobals mg) (hfa : mg "law" = some (.ref fa))
    {od1 an1 : Option Addr} {sl1 : Array (Option Value)} {oc1 kV1 dc1 pm1 cd1 ct1 : Value} {f1 : Addr}
    {od2 an2 : Option Addr} {sl2 : Array (Option Value)} {oc2 kV2 dc2 pm2 cd2 ct2 : Value} {f2 : Addr}
    {od3 an3 : Option Addr} {sl3 : Array (Option Value)} {oc3 kV3 dc3 pm3 cd3 ct3 : Value} {f3 : Addr}
    {od4 an4 : Option Addr} {sl4 : Array (Option Value)} {oc4 kV4 dc4 pm4 cd4 ct4 : Value} {f4 : Addr}
    {od5 an5 : Option Addr} {sl5 : Array (Option Value)} {oc5 kV5 dc5 pm5 cd5 ct5 : Value} {f5 : Addr}
    {od6 an6 : Option Addr} {sl6 : Array (Option Value)} {oc6 kV6 dc6 pm6 cd6 ct6 : Value} {f6 : Addr}
    {od7 an7 : Option Addr} {sl7 : Array (Option Value)} {oc7 kV7 dc7 pm7 cd7 ct7 : Value} {f7 : Addr}
    {od8 an8 : Option Addr} {sl8 : Array (Option Value)} {oc8 kV8 dc8 pm8 cd8 ct8 : Value} {f8 : Addr}
    {od9 an9 : Option Addr} {sl9 : Array (Option Value)} {oc9 kV9 dc9 pm9 cd9 ct9 : Value} {f9 : Addr}
    {od10 an10 : Option Addr} {sl10 : Array (Option Value)} {oc10 kV10 dc10 pm10 cd10 ct10 : Value} {f10 : Addr}
    {od11 an11 : Option Addr} {sl11 : Array (Option Value)} {oc11 kV11 dc11 pm11 cd11 ct11 : Value} {f11 : Addr}
    {od12 an12 : Option Addr} {sl12 : Array (Option Value)} {oc12 kV12 dc12 pm12 cd12 ct12 : Value} {f12 : Addr}
    {od13 an13 : Option Addr} {sl13 : Array (Option Value)} {oc13 kV13 dc13 pm13 cd13 ct13 : Value} {f13 : Addr}
    {od14 an14 : Option Addr} {sl14 : Array (Option Value)} {oc14 kV14 dc14 pm14 cd14 ct14 : Value} {f14 : Addr}
    {od15 an15 : Option Addr} {sl15 : Array (Option Value)} {oc15 kV15 dc15 pm15 cd15 ct15 : Value} {f15 : Addr}
    {od16 an16 : Option Addr} {sl16 : Array (Option Value)} {oc16 kV16 dc16 pm16 cd16 ct16 : Value} {f16 : Addr}
    {od17 an17 : Option Addr} {sl17 : Array (Option Value)} {oc17 kV17 dc17 pm17 cd17 ct17 : Value} {f17 : Addr}
    {od18 an18 : Option Addr} {sl18 : Array (Option Value)} {oc18 kV18 dc18 pm18 cd18 ct18 : Value} {f18 : Addr}
    {od19 an19 : Option Addr} {sl19 : Array (Option Value)} {oc19 kV19 dc19 pm19 cd19 ct19 : Value} {f19 : Addr}
    {od20 an20 : Option Addr} {sl20 : Array (Option Value)} {oc20 kV20 dc20 pm20 cd20 ct20 : Value} {f20 : Addr}
    {od21 an21 : Option Addr} {sl21 : Array (Option Value)} {oc21 kV21 dc21 pm21 cd21 ct21 : Value} {f21 : Addr}
    {od22 an22 : Option Addr} {sl22 : Array (Option Value)} {oc22 kV22 dc22 pm22 cd22 ct22 : Value} {f22 : Addr}
    {od23 an23 : Option Addr} {sl23 : Array (Option Value)} {oc23 kV23 dc23 pm23 cd23 ct23 : Value} {f23 : Addr}
    {od24 an24 : Option Addr} {sl24 : Array (Option Value)} {oc24 kV24 dc24 pm24 cd24 ct24 : Value} {f24 : Addr}
    {od25 an25 : Option Addr} {sl25 : Array (Option Value)} {oc25 kV25 dc25 pm25 cd25 ct25 : Value} {f25 : Addr}
    {od26 an26 : Option Addr} {sl26 : Array (Option Value)} {oc26 kV26 dc26 pm26 cd26 ct26 : Value} {f26 : Addr}
    {od27 an27 : Option Addr} {sl27 : Array (Option Value)} {oc27 kV27 dc27 pm27 cd27 ct27 : Value} {f27 : Addr}
    {od28 an28 : Option Addr} {sl28 : Array (Option Value)} {oc28 kV28 dc28 pm28 cd28 ct28 : Value} {f28 : Addr}
    {od29 an29 : Option Addr} {sl29 : Array (Option Value)} {oc29 kV29 dc29 pm29 cd29 ct29 : Value} {f29 : Addr}
    {od30 an30 : Option Addr} {sl30 : Array (Option Value)} {oc30 kV30 dc30 pm30 cd30 ct30 : Value} {f30 : Addr}
    {od31 an31 : Option Addr} {sl31 : Array (Option Value)} {oc31 kV31 dc31 pm31 cd31 ct31 : Value} {f31 : Addr}
    {od32 an32 : Option Addr} {sl32 : Array (Option Value)} {oc32 kV32 dc32 pm32 cd32 ct32 : Value} {f32 : Addr}
    {od33 an33 : Option Addr} {sl33 : Array (Option Value)} {oc33 kV33 dc33 pm33 cd33 ct33 : Value} {f33 : Addr}
    {od34 an34 : Option Addr} {sl34 : Array (Option Value)} {oc34 kV34 dc34 pm34 cd34 ct34 : Value} {f34 : Addr}
    {od35 an35 : Option Addr} {sl35 : Array (Option Value)} {oc35 kV35 dc35 pm35 cd35 ct35 : Value} {f35 : Addr}
    {od36 an36 : Option Addr} {sl36 : Array (Option Value)} {oc36 kV36 dc36 pm36 cd36 ct36 : Value} {f36 : Addr}
    {od37 an37 : Option Addr} {sl37 : Array (Option Value)} {oc37 kV37 dc37 pm37 cd37 ct37 : Value} {f37 : Addr}
    {od38 an38 : Option Addr} {sl38 : Array (Option Value)} {oc38 kV38 dc38 pm38 cd38 ct38 : Value} {f38 : Addr}
    {od39 an39 : Option Addr} {sl39 : Array (Option Value)} {oc39 kV39 dc39 pm39 cd39 ct39 : Value} {f39 : Addr}
    {od40 an40 : Option Addr} {sl40 : Array (Option Value)} {oc40 kV40 dc40 pm40 cd40 ct40 : Value} {f40 : Addr}
    {od41 an41 : Option Addr} {sl41 : Array (Option Value)} {oc41 kV41 dc41 pm41 cd41 ct41 : Value} {f41 : Addr}
    {od42 an42 : Option Addr} {sl42 : Array (Option Value)} {oc42 kV42 dc42 pm42 cd42 ct42 : Value} {f42 : Addr}
    {od43 an43 : Option Addr} {sl43 : Array (Option Value)} {oc43 kV43 dc43 pm43 cd43 ct43 : Value} {f43 : Addr}
    {od44 an44 : Option Addr} {sl44 : Array (Option Value)} {oc44 kV44 dc44 pm44 cd44 ct44 : Value} {f44 : Addr}
    {od45 an45 : Option Addr} {sl45 : Array (Option Value)} {oc45 kV45 dc45 pm45 cd45 ct45 : Value} {f45 : Addr}
    {od46 an46 : Option Addr} {sl46 : Array (Option Value)} {oc46 kV46 dc46 pm46 cd46 ct46 : Value} {f46 : Addr}
    {od47 an47 : Option Addr} {sl47 : Array (Option Value)} {oc47 kV47 dc47 pm47 cd47 ct47 : Value} {f47 : Addr}
    {od48 an48 : Option Addr} {sl48 : Array (Option Value)} {oc48 kV48 dc48 pm48 cd48 ct48 : Value} {f48 : Addr}
    {od49 an49 : Option Addr} {sl49 : Array (Option Value)} {oc49 kV49 dc49 pm49 cd49 ct49 : Value} {f49 : Addr}
    {od50 an50 : Option Addr} {sl50 : Array (Option Value)} {oc50 kV50 dc50 pm50 cd50 ct50 : Value} {f50 : Addr}
    {od51 an51 : Option Addr} {sl51 : Array (Option Value)} {oc51 kV51 dc51 pm51 cd51 ct51 : Value} {f51 : Addr}
    {od52 an52 : Option Addr} {sl52 : Array (Option Value)} {oc52 kV52 dc52 pm52 cd52 ct52 : Value} {f52 : Addr}
    {od53 an53 : Option Addr} {sl53 : Array (Option Value)} {oc53 kV53 dc53 pm53 cd53 ct53 : Value} {f53 : Addr}
    {od54 an54 : Option Addr} {sl54 : Array (Option Value)} {oc54 kV54 dc54 pm54 cd54 ct54 : Value} {f54 : Addr}
    {od55 an55 : Option Addr} {sl55 : Array (Option Value)} {oc55 kV55 dc55 pm55 cd55 ct55 : Value} {f55 : Addr}
    {od56 an56 : Option Addr} {sl56 : Array (Option Value)} {oc56 kV56 dc56 pm56 cd56 ct56 : Value} {f56 : Addr}
    {ac1 : Addr} {ic1 : Option Addr} {jc1 : Nat} {kc1 : Array (Option Value)} {u1_0 u1_1 : Tok}
    {ac2 : Addr} {ic2 : Option Addr} {jc2 : Nat} {kc2 : Array (Option Value)} {u2_0 : Tok}
    {ac3 : Addr} {ic3 : Option Addr} {jc3 : Nat} {kc3 : Array (Option Value)} {u3_0 u3_1 : Tok}
    {tk4 : Tok}
    {tk5 : Tok}
    {tk6 : Tok}
    {tk7 : Tok}
    {tk8 : Tok}
    {tk9 : Tok}
    {tk10 : Tok}
    {tk11 : Tok}
    {tk12 : Tok}
    {tk13 : Tok}
    {tk14 : Tok}
    {ac15 : Addr} {ic15 : Option Addr} {jc15 : Nat} {kc15 : Array (Option Value)} {u15_0 u15_1 : Tok}
    {tk16 : Tok}
    {ac17 : Addr} {ic17 : Option Addr} {jc17 : Nat} {kc17 : Array (Option Value)} {u17_0 u17_1 u17_2 : Tok}
    {ac18 : Addr} {ic18 : Option Addr} {jc18 : Nat} {kc18 : Array (Option Value)} {u18_0 u18_1 : Tok}
    {ac19 : Addr} {ic19 : Option Addr} {jc19 : Nat} {kc19 : Array (Option Value)} {u19_0 : Tok}
    {ac20 : Addr} {ic20 : Option Addr} {jc20 : Nat} {kc20 : Array (Option Value)} {u20_0 u20_1 : Tok}
    {ad_DrumError : Addr}
    {ad_Known : Addr}
    {ad_Stuck : Addr}
    {ad_TooSmall : Addr}
    {od57 an57 : Option Addr} {sl57 : Array (Option Value)} {oc57 kV57 dc57 pm57 cd57 ct57 : Value} {f57 : Addr}
    {tc39 tp39 : Addr} {te39 : Value} {td39 : Option Addr} {tv39 : Array Value} {ts39 : Array (Option Value)}
    {tc56 tp56 : Addr} {te56 : Value} {td56 : Option Addr} {tv56 : Array Value} {ts56 : Array (Option Value)}
    (a1 : PySem.W.nsIn K mainGlobals "_law_next" = some (some (.ref f1))) (l1 : K.lookup f1 = some ⟨oc1, od1, .func (PySem.W.fnOf "_law_next" "_law_next" (defArgs s__law_next) (defBody s__law_next) (defScope s__law_next) .none kV1 dc1 pm1 an1 cd1 ct1), sl1⟩) (c1 : PySem.W.codeIn K cd1 "_law_next" = true) (k1 : PySem.W.keepIn K (.ref f1) = true)
    (a2 : PySem.W.nsIn K mainGlobals "_law_big" = some (some (.ref f2))) (l2 : K.lookup f2 = some ⟨oc2, od2, .func (PySem.W.fnOf "_law_big" "_law_big" (defArgs s__law_big) (defBody s__law_big) (defScope s__law_big) .none kV2 dc2 pm2 an2 cd2 ct2), sl2⟩) (c2 : PySem.W.codeIn K cd2 "_law_big" = true) (k2 : PySem.W.keepIn K (.ref f2) = true)
    (a3 : PySem.W.nsIn K mainGlobals "_law_due" = some (some (.ref f3))) (l3 : K.lookup f3 = some ⟨oc3, od3, .func (PySem.W.fnOf "_law_due" "_law_due" (defArgs s__law_due) (defBody s__law_due) (defScope s__law_due) .none kV3 dc3 pm3 an3 cd3 ct3), sl3⟩) (c3 : PySem.W.codeIn K cd3 "_law_due" = true) (k3 : PySem.W.keepIn K (.ref f3) = true)
    (a4 : PySem.W.nsIn K mainGlobals "_law_told" = some (some (.ref f4))) (l4 : K.lookup f4 = some ⟨oc4, od4, .func (PySem.W.fnOf "_law_told" "_law_told" (defArgs s__law_told) (defBody s__law_told) (defScope s__law_told) .none kV4 dc4 pm4 an4 cd4 ct4), sl4⟩) (c4 : PySem.W.codeIn K cd4 "_law_told" = true) (k4 : PySem.W.keepIn K (.ref f4) = true)
    (a5 : PySem.W.nsIn K mainGlobals "_law_power" = some (some (.ref f5))) (l5 : K.lookup f5 = some ⟨oc5, od5, .func (PySem.W.fnOf "_law_power" "_law_power" (defArgs s__law_power) (defBody s__law_power) (defScope s__law_power) .none kV5 dc5 pm5 an5 cd5 ct5), sl5⟩) (c5 : PySem.W.codeIn K cd5 "_law_power" = true) (k5 : PySem.W.keepIn K (.ref f5) = true)
    (a6 : PySem.W.nsIn K mainGlobals "_law_value" = some (some (.ref f6))) (l6 : K.lookup f6 = some ⟨oc6, od6, .func (PySem.W.fnOf "_law_value" "_law_value" (defArgs s__law_value) (defBody s__law_value) (defScope s__law_value) .none kV6 dc6 pm6 an6 cd6 ct6), sl6⟩) (c6 : PySem.W.codeIn K cd6 "_law_value" = true) (k6 : PySem.W.keepIn K (.ref f6) = true)
    (a7 : PySem.W.nsIn K mainGlobals "fits" = some (some (.ref f7))) (l7 : K.lookup f7 = some ⟨oc7, od7, .func (PySem.W.fnOf "fits" "fits" (defArgs s_fits) (defBody s_fits) (defScope s_fits) .none kV7 dc7 pm7 an7 cd7 ct7), sl7⟩) (c7 : PySem.W.codeIn K cd7 "fits" = true) (k7 : PySem.W.keepIn K (.ref f7) = true)
    (a8 : PySem.W.nsIn K mainGlobals "power" = some (some (.ref f8))) (l8 : K.lookup f8 = some ⟨oc8, od8, .func (PySem.W.fnOf "power" "power" (defArgs s_power) (defBody s_power) (defScope s_power) .none kV8 dc8 pm8 an8 cd8 ct8), sl8⟩) (c8 : PySem.W.codeIn K cd8 "power" = true) (k8 : PySem.W.keepIn K (.ref f8) = true)
    (a9 : PySem.W.nsIn K mainGlobals "plus" = some (some (.ref f9))) (l9 : K.lookup f9 = some ⟨oc9, od9, .func (PySem.W.fnOf "plus" "plus" (defArgs s_plus) (defBody s_plus) (defScope s_plus) .none kV9 dc9 pm9 an9 cd9 ct9), sl9⟩) (c9 : PySem.W.codeIn K cd9 "plus" = true) (k9 : PySem.W.keepIn K (.ref f9) = true)
    (a10 : PySem.W.nsIn K mainGlobals "with_more" = some (some (.ref f10))) (l10 : K.lookup f10 = some ⟨oc10, od10, .func (PySem.W.fnOf "with_more" "with_more" (defArgs s_with_more) (defBody s_with_more) (defScope s_with_more) .none kV10 dc10 pm10 an10 cd10 ct10), sl10⟩) (c10 : PySem.W.codeIn K cd10 "with_more" = true) (k10 : PySem.W.keepIn K (.ref f10) = true)
    (a11 : PySem.W.findIn K (.ref ad_Known) "counted" = some (some (.ref f11))) (l11 : K.lookup f11 = some ⟨oc11, od11, .func (PySem.W.fnOf "counted" "Known.counted" (defArgs s_Known__counted) (defBody s_Known__counted) (defScope s_Known__counted) .none kV11 dc11 pm11 an11 cd11 ct11), sl11⟩) (c11 : PySem.W.codeIn K cd11 "Known.counted" = true) (k11 : PySem.W.keepIn K (.ref f11) = true) (fn11 : PySem.W.isFn K (.ref f11) = true)
    (a12 : PySem.W.findIn K (.ref ad_Known) "leave" = some (some (.ref f12))) (l12 : K.lookup f12 = some ⟨oc12, od12, .func (PySem.W.fnOf "leave" "Known.leave" (defArgs s_Known__leave) (defBody s_Known__leave) (defScope s_Known__leave) .none kV12 dc12 pm12 an12 cd12 ct12), sl12⟩) (c12 : PySem.W.codeIn K cd12 "Known.leave" = true) (k12 : PySem.W.keepIn K (.ref f12) = true) (fn12 : PySem.W.isFn K (.ref f12) = true)
    (a13 : PySem.W.nsIn K mainGlobals "letter_sum" = some (some (.ref f13))) (l13 : K.lookup f13 = some ⟨oc13, od13, .func (PySem.W.fnOf "letter_sum" "letter_sum" (defArgs s_letter_sum) (defBody s_letter_sum) (defScope s_letter_sum) .none kV13 dc13 pm13 an13 cd13 ct13), sl13⟩) (c13 : PySem.W.codeIn K cd13 "letter_sum" = true) (k13 : PySem.W.keepIn K (.ref f13) = true)
    (a14 : PySem.W.findIn K (.ref ad_Known) "letter" = some (some (.ref f14))) (l14 : K.lookup f14 = some ⟨oc14, od14, .func (PySem.W.fnOf "letter" "Known.letter" (defArgs s_Known__letter) (defBody s_Known__letter) (defScope s_Known__letter) .none kV14 dc14 pm14 an14 cd14 ct14), sl14⟩) (c14 : PySem.W.codeIn K cd14 "Known.letter" = true) (k14 : PySem.W.keepIn K (.ref f14) = true) (fn14 : PySem.W.isFn K (.ref f14) = true)
    (a15 : PySem.W.nsIn K mainGlobals "number_sum" = some (some (.ref f15))) (l15 : K.lookup f15 = some ⟨oc15, od15, .func (PySem.W.fnOf "number_sum" "number_sum" (defArgs s_number_sum) (defBody s_number_sum) (defScope s_number_sum) .none kV15 dc15 pm15 an15 cd15 ct15), sl15⟩) (c15 : PySem.W.codeIn K cd15 "number_sum" = true) (k15 : PySem.W.keepIn K (.ref f15) = true)
    (a16 : PySem.W.nsIn K mainGlobals "root_of" = some (some (.ref f16))) (l16 : K.lookup f16 = some ⟨oc16, od16, .func (PySem.W.fnOf "root_of" "root_of" (defArgs s_root_of) (defBody s_root_of) (defScope s_root_of) .none kV16 dc16 pm16 an16 cd16 ct16), sl16⟩) (c16 : PySem.W.codeIn K cd16 "root_of" = true) (k16 : PySem.W.keepIn K (.ref f16) = true)
    (a17 : PySem.W.nsIn K mainGlobals "times" = some (some (.ref f17))) (l17 : K.lookup f17 = some ⟨oc17, od17, .func (PySem.W.fnOf "times" "times" (defArgs s_times) (defBody s_times) (defScope s_times) .none kV17 dc17 pm17 an17 cd17 ct17), sl17⟩) (c17 : PySem.W.codeIn K cd17 "times" = true) (k17 : PySem.W.keepIn K (.ref f17) = true)
    (a18 : PySem.W.findIn K (.ref ad_Known) "odds_turned" = some (some (.ref f18))) (l18 : K.lookup f18 = some ⟨oc18, od18, .func (PySem.W.fnOf "odds_turned" "Known.odds_turned" (defArgs s_Known__odds_turned) (defBody s_Known__odds_turned) (defScope s_Known__odds_turned) .none kV18 dc18 pm18 an18 cd18 ct18), sl18⟩) (c18 : PySem.W.codeIn K cd18 "Known.odds_turned" = true) (k18 : PySem.W.keepIn K (.ref f18) = true) (fn18 : PySem.W.isFn K (.ref f18) = true)
    (a19 : PySem.W.findIn K (.ref ad_Known) "row_of" = some (some (.ref f19))) (l19 : K.lookup f19 = some ⟨oc19, od19, .func (PySem.W.fnOf "row_of" "Known.row_of" (defArgs s_Known__row_of) (defBody s_Known__row_of) (defScope s_Known__row_of) .none kV19 dc19 pm19 an19 cd19 ct19), sl19⟩) (c19 : PySem.W.codeIn K cd19 "Known.row_of" = true) (k19 : PySem.W.keepIn K (.ref f19) = true) (fn19 : PySem.W.isFn K (.ref f19) = true)
    (a20 : PySem.W.findIn K (.ref ad_Known) "rung" = some (some (.ref f20))) (l20 : K.lookup f20 = some ⟨oc20, od20, .func (PySem.W.fnOf "rung" "Known.rung" (defArgs s_Known__rung) (defBody s_Known__rung) (defScope s_Known__rung) .none kV20 dc20 pm20 an20 cd20 ct20), sl20⟩) (c20 : PySem.W.codeIn K cd20 "Known.rung" = true) (k20 : PySem.W.keepIn K (.ref f20) = true) (fn20 : PySem.W.isFn K (.ref f20) = true)
    (a21 : PySem.W.findIn K (.ref ad_Known) "shifted" = some (some (.ref f21))) (l21 : K.lookup f21 = some ⟨oc21, od21, .func (PySem.W.fnOf "shifted" "Known.shifted" (defArgs s_Known__shifted) (defBody s_Known__shifted) (defScope s_Known__shifted) .none kV21 dc21 pm21 an21 cd21 ct21), sl21⟩) (c21 : PySem.W.codeIn K cd21 "Known.shifted" = true) (k21 : PySem.W.keepIn K (.ref f21) = true) (fn21 : PySem.W.isFn K (.ref f21) = true)
    (a22 : PySem.W.nsIn K mainGlobals "multiplied" = some (some (.ref f22))) (l22 : K.lookup f22 = some ⟨oc22, od22, .func (PySem.W.fnOf "multiplied" "multiplied" (defArgs s_multiplied) (defBody s_multiplied) (defScope s_multiplied) .none kV22 dc22 pm22 an22 cd22 ct22), sl22⟩) (c22 : PySem.W.codeIn K cd22 "multiplied" = true) (k22 : PySem.W.keepIn K (.ref f22) = true)
    (a23 : PySem.W.findIn K (.ref ad_Known) "turned" = some (some (.ref f23))) (l23 : K.lookup f23 = some ⟨oc23, od23, .func (PySem.W.fnOf "turned" "Known.turned" (defArgs s_Known__turned) (defBody s_Known__turned) (defScope s_Known__turned) .none kV23 dc23 pm23 an23 cd23 ct23), sl23⟩) (c23 : PySem.W.codeIn K cd23 "Known.turned" = true) (k23 : PySem.W.keepIn K (.ref f23) = true) (fn23 : PySem.W.isFn K (.ref f23) = true)
    (a24 : PySem.W.nsIn K mainGlobals "number_amount" = some (some (.ref f24))) (l24 : K.lookup f24 = some ⟨oc24, od24, .func (PySem.W.fnOf "number_amount" "number_amount" (defArgs s_number_amount) (defBody s_number_amount) (defScope s_number_amount) .none kV24 dc24 pm24 an24 cd24 ct24), sl24⟩) (c24 : PySem.W.codeIn K cd24 "number_amount" = true) (k24 : PySem.W.keepIn K (.ref f24) = true)
    (a25 : PySem.W.findIn K (.ref ad_Known) "wiped" = some (some (.ref f25))) (l25 : K.lookup f25 = some ⟨oc25, od25, .func (PySem.W.fnOf "wiped" "Known.wiped" (defArgs s_Known__wiped) (defBody s_Known__wiped) (defScope s_Known__wiped) .none kV25 dc25 pm25 an25 cd25 ct25), sl25⟩) (c25 : PySem.W.codeIn K cd25 "Known.wiped" = true) (k25 : PySem.W.keepIn K (.ref f25) = true) (fn25 : PySem.W.isFn K (.ref f25) = true)
    (a26 : PySem.W.findIn K (.ref ad_Known) "did" = some (some (.ref f26))) (l26 : K.lookup f26 = some ⟨oc26, od26, .func (PySem.W.fnOf "did" "Known.did" (defArgs s_Known__did) (defBody s_Known__did) (defScope s_Known__did) .none kV26 dc26 pm26 an26 cd26 ct26), sl26⟩) (c26 : PySem.W.codeIn K cd26 "Known.did" = true) (k26 : PySem.W.keepIn K (.ref f26) = true) (fn26 : PySem.W.isFn K (.ref f26) = true)
    (a27 : PySem.W.nsIn K mainGlobals "need_machine" = some (some (.ref f27))) (l27 : K.lookup f27 = some ⟨oc27, od27, .func (PySem.W.fnOf "need_machine" "need_machine" (defArgs s_need_machine) (defBody s_need_machine) (defScope s_need_machine) .none kV27 dc27 pm27 an27 cd27 ct27), sl27⟩) (c27 : PySem.W.codeIn K cd27 "need_machine" = true) (k27 : PySem.W.keepIn K (.ref f27) = true)
    (a28 : PySem.W.nsIn K mainGlobals "top" = some (some (.ref f28))) (l28 : K.lookup f28 = some ⟨oc28, od28, .func (PySem.W.fnOf "top" "top" (defArgs s_top) (defBody s_top) (defScope s_top) .none kV28 dc28 pm28 an28 cd28 ct28), sl28⟩) (c28 : PySem.W.codeIn K cd28 "top" = true) (k28 : PySem.W.keepIn K (.ref f28) = true)
    (a29 : PySem.W.findIn K (.ref ad_Known) "__init__" = some (some (.ref f29))) (l29 : K.lookup f29 = some ⟨oc29, od29, .func (PySem.W.fnOf "__init__" "Known.__init__" (defArgs s_Known__init) (defBody s_Known__init) (defScope s_Known__init) .none kV29 dc29 pm29 an29 cd29 ct29), sl29⟩) (c29 : PySem.W.codeIn K cd29 "Known.__init__" = true) (k29 : PySem.W.keepIn K (.ref f29) = true) (fn29 : PySem.W.isFn K (.ref f29) = true)
    (a30 : PySem.W.nsIn K mainGlobals "product_of" = some (some (.ref f30))) (l30 : K.lookup f30 = some ⟨oc30, od30, .func (PySem.W.fnOf "product_of" "product_of" (defArgs s_product_of) (defBody s_product_of) (defScope s_product_of) .none kV30 dc30 pm30 an30 cd30 ct30), sl30⟩) (c30 : PySem.W.codeIn K cd30 "product_of" = true) (k30 : PySem.W.keepIn K (.ref f30) = true)
    (a31 : PySem.W.nsIn K mainGlobals "least_of" = some (some (.ref f31))) (l31 : K.lookup f31 = some ⟨oc31, od31, .func (PySem.W.fnOf "least_of" "least_of" (defArgs s_least_of) (defBody s_least_of) (defScope s_least_of) .none kV31 dc31 pm31 an31 cd31 ct31), sl31⟩) (c31 : PySem.W.codeIn K cd31 "least_of" = true) (k31 : PySem.W.keepIn K (.ref f31) = true)
    (a32 : PySem.W.nsIn K mainGlobals "side_sum" = some (some (.ref f32))) (l32 : K.lookup f32 = some ⟨oc32, od32, .func (PySem.W.fnOf "side_sum" "side_sum" (defArgs s_side_sum) (defBody s_side_sum) (defScope s_side_sum) .none kV32 dc32 pm32 an32 cd32 ct32), sl32⟩) (c32 : PySem.W.codeIn K cd32 "side_sum" = true) (k32 : PySem.W.keepIn K (.ref f32) = true)
    (a33 : PySem.W.nsIn K mainGlobals "is_so" = some (some (.ref f33))) (l33 : K.lookup f33 = some ⟨oc33, od33, .func (PySem.W.fnOf "is_so" "is_so" (defArgs s_is_so) (defBody s_is_so) (defScope s_is_so) .none kV33 dc33 pm33 an33 cd33 ct33), sl33⟩) (c33 : PySem.W.codeIn K cd33 "is_so" = true) (k33 : PySem.W.keepIn K (.ref f33) = true)
    (a34 : PySem.W.nsIn K mainGlobals "is_side" = some (some (.ref f34))) (l34 : K.lookup f34 = some ⟨oc34, od34, .func (PySem.W.fnOf "is_side" "is_side" (defArgs s_is_side) (defBody s_is_side) (defScope s_is_side) .none kV34 dc34 pm34 an34 cd34 ct34), sl34⟩) (c34 : PySem.W.codeIn K cd34 "is_side" = true) (k34 : PySem.W.keepIn K (.ref f34) = true)
    (a35 : PySem.W.nsIn K mainGlobals "is_claim" = some (some (.ref f35))) (l35 : K.lookup f35 = some ⟨oc35, od35, .func (PySem.W.fnOf "is_claim" "is_claim" (defArgs s_is_claim) (defBody s_is_claim) (defScope s_is_claim) .none kV35 dc35 pm35 an35 cd35 ct35), sl35⟩) (c35 : PySem.W.codeIn K cd35 "is_claim" = true) (k35 : PySem.W.keepIn K (.ref f35) = true)
    (a36 : PySem.W.nsIn K mainGlobals "need_claims" = some (some (.ref f36))) (l36 : K.lookup f36 = some ⟨oc36, od36, .func (PySem.W.fnOf "need_claims" "need_claims" (defArgs s_need_claims) (defBody s_need_claims) (defScope s_need_claims) .none kV36 dc36 pm36 an36 cd36 ct36), sl36⟩) (c36 : PySem.W.codeIn K cd36 "need_claims" = true) (k36 : PySem.W.keepIn K (.ref f36) = true)
    (a37 : PySem.W.nsIn K mainGlobals "is_deed" = some (some (.ref f37))) (l37 : K.lookup f37 = some ⟨oc37, od37, .func (PySem.W.fnOf "is_deed" "is_deed" (defArgs s_is_deed) (defBody s_is_deed) (defScope s_is_deed) .none kV37 dc37 pm37 an37 cd37 ct37), sl37⟩) (c37 : PySem.W.codeIn K cd37 "is_deed" = true) (k37 : PySem.W.keepIn K (.ref f37) = true)
    (a38 : PySem.W.nsIn K mainGlobals "need_deeds" = some (some (.ref f38))) (l38 : K.lookup f38 = some ⟨oc38, od38, .func (PySem.W.fnOf "need_deeds" "need_deeds" (defArgs s_need_deeds) (defBody s_need_deeds) (defScope s_need_deeds) .none kV38 dc38 pm38 an38 cd38 ct38), sl38⟩) (c38 : PySem.W.codeIn K cd38 "need_deeds" = true) (k38 : PySem.W.keepIn K (.ref f38) = true)
    (a39 : PySem.W.nsIn K mainGlobals "is_name" = some (some (.ref f39))) (l39 : K.lookup f39 = some ⟨oc39, od39, .func (PySem.W.fnOf "is_name" "is_name" (defArgs s_is_name) (defBody s_is_name) (defScope s_is_name) .none kV39 dc39 pm39 an39 cd39 ct39), sl39⟩) (c39 : PySem.W.codeIn K cd39 "is_name" = true) (k39 : PySem.W.keepIn K (.ref f39) = true)
    (a40 : PySem.W.nsIn K mainGlobals "is_input" = some (some (.ref f40))) (l40 : K.lookup f40 = some ⟨oc40, od40, .func (PySem.W.fnOf "is_input" "is_input" (defArgs s_is_input) (defBody s_is_input) (defScope s_is_input) .none kV40 dc40 pm40 an40 cd40 ct40), sl40⟩) (c40 : PySem.W.codeIn K cd40 "is_input" = true) (k40 : PySem.W.keepIn K (.ref f40) = true)
    (a41 : PySem.W.nsIn K mainGlobals "need_inputs" = some (some (.ref f41))) (l41 : K.lookup f41 = some ⟨oc41, od41, .func (PySem.W.fnOf "need_inputs" "need_inputs" (defArgs s_need_inputs) (defBody s_need_inputs) (defScope s_need_inputs) .none kV41 dc41 pm41 an41 cd41 ct41), sl41⟩) (c41 : PySem.W.codeIn K cd41 "need_inputs" = true) (k41 : PySem.W.keepIn K (.ref f41) = true)
    (a42 : PySem.W.nsIn K mainGlobals "need_book" = some (some (.ref f42))) (l42 : K.lookup f42 = some ⟨oc42, od42, .func (PySem.W.fnOf "need_book" "need_book" (defArgs s_need_book) (defBody s_need_book) (defScope s_need_book) .none kV42 dc42 pm42 an42 cd42 ct42), sl42⟩) (c42 : PySem.W.codeIn K cd42 "need_book" = true) (k42 : PySem.W.keepIn K (.ref f42) = true)
    (a43 : PySem.W.nsIn K mainGlobals "looked" = some (some (.ref f43))) (l43 : K.lookup f43 = some ⟨oc43, od43, .func (PySem.W.fnOf "looked" "looked" (defArgs s_looked) (defBody s_looked) (defScope s_looked) .none kV43 dc43 pm43 an43 cd43 ct43), sl43⟩) (c43 : PySem.W.codeIn K cd43 "looked" = true) (k43 : PySem.W.keepIn K (.ref f43) = true)
    (a44 : PySem.W.nsIn K mainGlobals "need_places" = some (some (.ref f44))) (l44 : K.lookup f44 = some ⟨oc44, od44, .func (PySem.W.fnOf "need_places" "need_places" (defArgs s_need_places) (defBody s_need_places) (defScope s_need_places) .none kV44 dc44 pm44 an44 cd44 ct44), sl44⟩) (c44 : PySem.W.codeIn K cd44 "need_places" = true) (k44 : PySem.W.keepIn K (.ref f44) = true)
    (a45 : PySem.W.nsIn K mainGlobals "need_slides" = some (some (.ref f45))) (l45 : K.lookup f45 = some ⟨oc45, od45, .func (PySem.W.fnOf "need_slides" "need_slides" (defArgs s_need_slides) (defBody s_need_slides) (defScope s_need_slides) .none kV45 dc45 pm45 an45 cd45 ct45), sl45⟩) (c45 : PySem.W.codeIn K cd45 "need_slides" = true) (k45 : PySem.W.keepIn K (.ref f45) = true)
    (a46 : PySem.W.nsIn K mainGlobals "product" = some (some (.ref f46))) (l46 : K.lookup f46 = some ⟨oc46, od46, .func (PySem.W.fnOf "product" "product" (defArgs s_product) (defBody s_product) (defScope s_product) .none kV46 dc46 pm46 an46 cd46 ct46), sl46⟩) (c46 : PySem.W.codeIn K cd46 "product" = true) (k46 : PySem.W.keepIn K (.ref f46) = true)
    (a47 : PySem.W.nsIn K mainGlobals "figures_of" = some (some (.ref f47))) (l47 : K.lookup f47 = some ⟨oc47, od47, .func (PySem.W.fnOf "figures_of" "figures_of" (defArgs s_figures_of) (defBody s_figures_of) (defScope s_figures_of) .none kV47 dc47 pm47 an47 cd47 ct47), sl47⟩) (c47 : PySem.W.codeIn K cd47 "figures_of" = true) (k47 : PySem.W.keepIn K (.ref f47) = true)
    (a48 : PySem.W.nsIn K mainGlobals "odds_before" = some (some (.ref f48))) (l48 : K.lookup f48 = some ⟨oc48, od48, .func (PySem.W.fnOf "odds_before" "odds_before" (defArgs s_odds_before) (defBody s_odds_before) (defScope s_odds_before) .none kV48 dc48 pm48 an48 cd48 ct48), sl48⟩) (c48 : PySem.W.codeIn K cd48 "odds_before" = true) (k48 : PySem.W.keepIn K (.ref f48) = true)
    (a49 : PySem.W.nsIn K mainGlobals "turned" = some (some (.ref f49))) (l49 : K.lookup f49 = some ⟨oc49, od49, .func (PySem.W.fnOf "turned" "turned" (defArgs s_turned) (defBody s_turned) (defScope s_turned) .none kV49 dc49 pm49 an49 cd49 ct49), sl49⟩) (c49 : PySem.W.codeIn K cd49 "turned" = true) (k49 : PySem.W.keepIn K (.ref f49) = true)
    (a50 : PySem.W.nsIn K mainGlobals "odds_turned" = some (some (.ref f50))) (l50 : K.lookup f50 = some ⟨oc50, od50, .func (PySem.W.fnOf "odds_turned" "odds_turned" (defArgs s_odds_turned) (defBody s_odds_turned) (defScope s_odds_turned) .none kV50 dc50 pm50 an50 cd50 ct50), sl50⟩) (c50 : PySem.W.codeIn K cd50 "odds_turned" = true) (k50 : PySem.W.keepIn K (.ref f50) = true)
    (a51 : PySem.W.nsIn K mainGlobals "rung" = some (some (.ref f51))) (l51 : K.lookup f51 = some ⟨oc51, od51, .func (PySem.W.fnOf "rung" "rung" (defArgs s_rung) (defBody s_rung) (defScope s_rung) .none kV51 dc51 pm51 an51 cd51 ct51), sl51⟩) (c51 : PySem.W.codeIn K cd51 "rung" = true) (k51 : PySem.W.keepIn K (.ref f51) = true)
    (a52 : PySem.W.nsIn K mainGlobals "shifted" = some (some (.ref f52))) (l52 : K.lookup f52 = some ⟨oc52, od52, .func (PySem.W.fnOf "shifted" "shifted" (defArgs s_shifted) (defBody s_shifted) (defScope s_shifted) .none kV52 dc52 pm52 an52 cd52 ct52), sl52⟩) (c52 : PySem.W.codeIn K cd52 "shifted" = true) (k52 : PySem.W.keepIn K (.ref f52) = true)
    (a53 : PySem.W.nsIn K mainGlobals "behind" = some (some (.ref f53))) (l53 : K.lookup f53 = some ⟨oc53, od53, .func (PySem.W.fnOf "behind" "behind" (defArgs s_behind) (defBody s_behind) (defScope s_behind) .none kV53 dc53 pm53 an53 cd53 ct53), sl53⟩) (c53 : PySem.W.codeIn K cd53 "behind" = true) (k53 : PySem.W.keepIn K (.ref f53) = true)
    (a54 : PySem.W.nsIn K mainGlobals "need_values" = some (some (.ref f54))) (l54 : K.lookup f54 = some ⟨oc54, od54, .func (PySem.W.fnOf "need_values" "need_values" (defArgs s_need_values) (defBody s_need_values) (defScope s_need_values) .none kV54 dc54 pm54 an54 cd54 ct54), sl54⟩) (c54 : PySem.W.codeIn K cd54 "need_values" = true) (k54 : PySem.W.keepIn K (.ref f54) = true)
    (a55 : PySem.W.nsIn K mainGlobals "worked" = some (some (.ref f55))) (l55 : K.lookup f55 = some ⟨oc55, od55, .func (PySem.W.fnOf "worked" "worked" (defArgs s_worked) (defBody s_worked) (defScope s_worked) .none kV55 dc55 pm55 an55 cd55 ct55), sl55⟩) (c55 : PySem.W.codeIn K cd55 "worked" = true) (k55 : PySem.W.keepIn K (.ref f55) = true)
    (a56 : PySem.W.nsIn K mainGlobals "law" = some (some (.ref f56))) (l56 : K.lookup f56 = some ⟨oc56, od56, .func (PySem.W.fnOf "law" "law" (defArgs s_law) (defBody s_law) (defScope s_law) .none kV56 dc56 pm56 an56 cd56 ct56), sl56⟩) (c56 : PySem.W.codeIn K cd56 "law" = true) (k56 : PySem.W.keepIn K (.ref f56) = true)
    (z1 : PySem.W.nsIn K mainGlobals "all" = some none) (z2 : PySem.W.nsIn K mainGlobals "enumerate" = some none) (z3 : PySem.W.nsIn K mainGlobals "len" = some none) (z4 : PySem.W.nsIn K mainGlobals "list" = some none) (z5 : PySem.W.nsIn K mainGlobals "max" = some none) (z6 : PySem.W.nsIn K mainGlobals "min" = some none) (z7 : PySem.W.nsIn K mainGlobals "range" = some none) (z8 : PySem.W.nsIn K mainGlobals "sorted" = some none) (z9 : PySem.W.nsIn K mainGlobals "tuple" = some none) (y1 : PySem.W.nsIn K mainGlobals "CLAIM_WORDS" = some (some (.ref ac1))) (x1 : K.lookup ac1 = some ⟨.type "tuple", ic1, .seq #[.str "same" u1_0, .str "less" u1_1] jc1, kc1⟩) (y2 : PySem.W.nsIn K mainGlobals "COUNTS" = some (some (.ref ac2))) (x2 : K.lookup ac2 = some ⟨.type "tuple", ic2, .seq #[.str "counts" u2_0] jc2, kc2⟩) (y3 : PySem.W.nsIn K mainGlobals "LEASTS" = some (some (.ref ac3))) (x3 : K.lookup ac3 = some ⟨.type "tuple", ic3, .seq #[.int (0) u3_0, .int (1) u3_1] jc3, kc3⟩) (y4 : PySem.W.nsIn K mainGlobals "LEAST_BASE" = some (some (.int (2) tk4))) (y5 : PySem.W.nsIn K mainGlobals "LONGEST_NAME" = some (some (.int (8) tk5))) (y6 : PySem.W.nsIn K mainGlobals "MOST_BASE" = some (some (.int (12) tk6))) (y7 : PySem.W.nsIn K mainGlobals "MOST_CLAIMS" = some (some (.int (8) tk7))) (y8 : PySem.W.nsIn K mainGlobals "MOST_COUNTERS" = some (some (.int (10) tk8))) (y9 : PySem.W.nsIn K mainGlobals "MOST_DEEDS" = some (some (.int (40) tk9))) (y10 : PySem.W.nsIn K mainGlobals "MOST_DEEP" = some (some (.int (4) tk10))) (y11 : PySem.W.nsIn K mainGlobals "MOST_INPUTS" = some (some (.int (4) tk11))) (y12 : PySem.W.nsIn K mainGlobals "MOST_NUMBER" = some (some (.int (1000000000) tk12))) (y13 : PySem.W.nsIn K mainGlobals "MOST_SLIDES" = some (some (.int (6) tk13))) (y14 : PySem.W.nsIn K mainGlobals "MOST_WHEELS" = some (some (.int (16) tk14))) (y15 : PySem.W.nsIn K mainGlobals "NO_NAMES" = some (some (.ref ac15))) (x15 : K.lookup ac15 = some ⟨.type "tuple", ic15, .seq #[.str "wheels" u15_0, .str "counts" u15_1] jc15, kc15⟩) (y16 : PySem.W.nsIn K mainGlobals "SMALL_LETTERS" = some (some (.str "abcdefghijklmnopqrstuvwxyz" tk16))) (y17 : PySem.W.nsIn K mainGlobals "TALLIES" = some (some (.ref ac17))) (x17 : K.lookup ac17 = some ⟨.type "tuple", ic17, .seq #[.int (-1) u17_0, .int (0) u17_1, .int (1) u17_2] jc17, kc17⟩) (y18 : PySem.W.nsIn K mainGlobals "WAYS" = some (some (.ref ac18))) (x18 : K.lookup ac18 = some ⟨.type "tuple", ic18, .seq #[.int (1) u18_0, .int (-1) u18_1] jc18, kc18⟩) (y19 : PySem.W.nsIn K mainGlobals "WHEELS" = some (some (.ref ac19))) (x19 : K.lookup ac19 = some ⟨.type "tuple", ic19, .seq #[.str "wheels" u19_0] jc19, kc19⟩) (y20 : PySem.W.nsIn K mainGlobals "WIPED" = some (some (.ref ac20))) (x20 : K.lookup ac20 = some ⟨.type "tuple", ic20, .seq #[.str "wheels" u20_0, .str "counts" u20_1] jc20, kc20⟩) (gg_DrumError : PySem.W.nsIn K mainGlobals "DrumError" = some (some (.ref ad_DrumError))) (gg_Known : PySem.W.nsIn K mainGlobals "Known" = some (some (.ref ad_Known))) (gg_Stuck : PySem.W.nsIn K mainGlobals "Stuck" = some (some (.ref ad_Stuck))) (gg_TooSmall : PySem.W.nsIn K mainGlobals "TooSmall" = some (some (.ref ad_TooSmall))) (mpg_Known : PySem.W.plainGet K ad_Known Str.empty = true) (mpo_Known : PySem.W.plainOver K ad_Known = true) (msa_Known : PySem.W.findIn K (.ref ad_Known) "__setattr__" = some (some (.builtin "object.__setattr__"))) (mmi_Known : PySem.W.makesIn K ad_Known = true) (mkC_Known : PySem.W.keepIn K (.ref ad_Known) = true) (hd_Known : PySem.W.hasDictIn K ad_Known = true) (mn_Known_base : PySem.W.findIn K (.ref ad_Known) "base" = some none) (mn_Known_last_place : PySem.W.findIn K (.ref ad_Known) "last_place" = some none) (mn_Known_setting_end : PySem.W.findIn K (.ref ad_Known) "setting_end" = some none) (mn_Known_wheels_end : PySem.W.findIn K (.ref ad_Known) "wheels_end" = some none) (mn_Known_counts_end : PySem.W.findIn K (.ref ad_Known) "counts_end" = some none) (mn_Known_greatest : PySem.W.findIn K (.ref ad_Known) "greatest" = some none) (mn_Known_rows : PySem.W.findIn K (.ref ad_Known) "rows" = some none) (mn_Known_leasts : PySem.W.findIn K (.ref ad_Known) "leasts" = some none) (mn_Known_setting : PySem.W.findIn K (.ref ad_Known) "setting" = some none) (mn_Known_wheels : PySem.W.findIn K (.ref ad_Known) "wheels" = some none) (mn_Known_counts : PySem.W.findIn K (.ref ad_Known) "counts" = some none) (mn_Known_place : PySem.W.findIn K (.ref ad_Known) "place" = some none) (mn_Known_fact : PySem.W.findIn K (.ref ad_Known) "fact" = some none) (hxC_TooSmall : PySem.W.excIn K ad_TooSmall [.type "ValueError", .type "Exception", .type "BaseException", .type "object"] "ValueError.__new__" = true) (hkC_TooSmall : PySem.W.keepIn K (.ref ad_TooSmall) = true) (hbC_TooSmall : PySem.W.subIn K (.ref ad_TooSmall) (.type "BaseException") = some true) (htC_TooSmall : PySem.W.typeIn K (.ref ad_TooSmall) = some (.type "type")) (hb_TooSmall : PySem.W.subIn K (.ref ad_TooSmall) (.type "BaseException") = some true) (hd_TooSmall : PySem.W.hasDictIn K ad_TooSmall = true) (ht_TooSmall : PySem.W.typeIn K (.ref ad_TooSmall) = some (.type "type")) (hs_TooSmall_TooSmall : PySem.W.subIn K (.ref ad_TooSmall) (.ref ad_TooSmall) = some true) (ii_Stuck : PySem.W.findIn K (.ref ad_Stuck) "__init__" = some (some (.ref f57))) (l57 : K.lookup f57 = some ⟨oc57, od57, .func (PySem.W.fnOf "__init__" "Stuck.__init__" (defArgs s_Stuck__init) (defBody s_Stuck__init) (defScope s_Stuck__init) .none kV57 dc57 pm57 an57 cd57 ct57), sl57⟩) (c57 : PySem.W.codeIn K cd57 "Stuck.__init__" = true) (k57 : PySem.W.keepIn K (.ref f57) = true) (oo_Stuck : L2.OexC K ad_Stuck) (yy_Stuck : ExcC K ad_Stuck) (ti_Stuck : PySem.W.typeIn K (.ref f57) = some (.type "function")) (nn_Stuck_number : PySem.W.findIn K (.ref ad_Stuck) "number" = some none) (hga_DrumError : PySem.W.specialIn K (.ref ad_DrumError) "__getattribute__" = some (some (.builtin "type.__getattribute__"))) (hra_DrumError : PySem.W.readsIn K ad_DrumError (.type "type") = true) (hva_DrumError : PySem.W.findCls K (.ref ad_DrumError) (.type "type") "__init__" = some (.val (.builtin "ValueError.__init__"))) (j39 : cd39 = .ref tc39) (w39 : K.lookup tc39 = some ⟨te39, td39, .fields tv39, ts39⟩) (u39 : tv39[11]? = some (.ref tp39)) (v39 : K.lookup tp39 = none) (j56 : cd56 = .ref tc56) (w56 : K.lookup tc56 = some ⟨te56, td56, .fields tv56, ts56⟩) (u56 : tv56[11]? = some (.ref tp56)) (v56 : K.lookup tp56 = none) (nt56_39 : (tp56 == tp39) = false) (hTab : ∀ x ∈ (["is_name", "law"] : List Str), ∀ c P : Addr, PySem.W.tabIn K x = some (c, P) → PySem.W.CodeHd h c P ∧ h.get? P = some { cls := .none, data := .fields #[] }) :
    LamX.LawAtS l w K CX0 10 63 "_law_script" mg fa h := by
  have e := hfa.symm.trans (PySem.W.mg_of X G a56)
  cases e
  have b1 := (fun_mk (st := s__law_next) l1 c1 k1).binds (ps := ["_law_h", "_law_many"]) fun _ _ _ _ _ _ us hl => match us, hl with | [_, _], _ => rfl
  have b2 := (fun_mk (st := s__law_big) l2 c2 k2).binds (ps := ["_law_h"]) fun _ _ _ _ _ _ us hl => match us, hl with | [_], _ => rfl
  have b3 := (fun_mk (st := s__law_due) l3 c3 k3).binds (ps := ["_law_one", "_law_other"]) fun _ _ _ _ _ _ us hl => match us, hl with | [_, _], _ => rfl
  have b4 := (fun_mk (st := s__law_told) l4 c4 k4).binds (ps := ["_law_ask"]) fun _ _ _ _ _ _ us hl => match us, hl with | [_], _ => rfl
  have b5 := (fun_mk (st := s__law_power) l5 c5 k5).binds (ps := ["_law_base", "_law_many"]) fun _ _ _ _ _ _ us hl => match us, hl with | [_, _], _ => rfl
  have b6 := (fun_mk (st := s__law_value) l6 c6 k6).binds (ps := ["_law_h", "_law_base", "_law_figures", "_law_least"]) fun _ _ _ _ _ _ us hl => match us, hl with | [_, _, _, _], _ => rfl
  have b7 := (fun_mk (st := s_fits) l7 c7 k7).binds (ps := ["held", "end"]) fun _ _ _ _ _ _ us hl => match us, hl with | [_, _], _ => rfl
  have b8 := (fun_mk (st := s_power) l8 c8 k8).binds (ps := ["base", "place"]) fun _ _ _ _ _ _ us hl => match us, hl with | [_, _], _ => rfl
  have b9 := (fun_mk (st := s_plus) l9 c9 k9).binds (ps := ["one", "by", "other"]) fun _ _ _ _ _ _ us hl => match us, hl with | [_, _, _], _ => rfl
  have b10 := (fun_mk (st := s_with_more) l10 c10 k10).binds (ps := ["held", "by", "more"]) fun _ _ _ _ _ _ us hl => match us, hl with | [_, _, _], _ => rfl
  have b11 := (fun_mk (st := s_Known__counted) l11 c11 k11).binds (ps := ["self", "many", "tally"]) fun _ _ _ _ _ _ us hl => match us, hl with | [_, _, _], _ => rfl
  have b12 := (fun_mk (st := s_Known__leave) l12 c12 k12).binds (ps := ["self", "taken", "worth"]) fun _ _ _ _ _ _ us hl => match us, hl with | [_, _, _], _ => rfl
  have b13 := (fun_mk (st := s_letter_sum) l13 c13 k13).binds (ps := ["letter"]) fun _ _ _ _ _ _ us hl => match us, hl with | [_], _ => rfl
  have b14 := (fun_mk (st := s_Known__letter) l14 c14 k14).binds (ps := ["self", "greatest"]) fun _ _ _ _ _ _ us hl => match us, hl with | [_, _], _ => rfl
  have b15 := (fun_mk (st := s_number_sum) l15 c15 k15).binds (ps := ["number"]) fun _ _ _ _ _ _ us hl => match us, hl with | [_], _ => rfl
  have b16 := (fun_mk (st := s_root_of) l16 c16 k16).binds (ps := ["number"]) fun _ _ _ _ _ _ us hl => match us, hl with | [_], _ => rfl
  have b17 := (fun_mk (st := s_times) l17 c17 k17).binds (ps := ["one", "other"]) fun _ _ _ _ _ _ us hl => match us, hl with | [_, _], _ => rfl
  have b18 := (fun_mk (st := s_Known__odds_turned) l18 c18 k18).binds (ps := ["self", "tally"]) fun _ _ _ _ _ _ us hl => match us, hl with | [_, _], _ => rfl
  have b19 := (fun_mk (st := s_Known__row_of) l19 c19 k19).binds (ps := ["self", "name"]) fun _ _ _ _ _ _ us hl => match us, hl with | [_, _], _ => rfl
  have b20 := (fun_mk (st := s_Known__rung) l20 c20 k20).binds (ps := ["self", "tally"]) fun _ _ _ _ _ _ us hl => match us, hl with | [_, _], _ => rfl
  have b21 := (fun_mk (st := s_Known__shifted) l21 c21 k21).binds (ps := ["self", "by"]) fun _ _ _ _ _ _ us hl => match us, hl with | [_, _], _ => rfl
  have b22 := (fun_mk (st := s_multiplied) l22 c22 k22).binds (ps := ["one", "other"]) fun _ _ _ _ _ _ us hl => match us, hl with | [_, _], _ => rfl
  have b23 := (fun_mk (st := s_Known__turned) l23 c23 k23).binds (ps := ["self", "many", "way", "tally"]) fun _ _ _ _ _ _ us hl => match us, hl with | [_, _, _, _], _ => rfl
  have b24 := (fun_mk (st := s_number_amount) l24 c24 k24).binds (ps := ["number"]) fun _ _ _ _ _ _ us hl => match us, hl with | [_], _ => rfl
  have b25 := (fun_mk (st := s_Known__wiped) l25 c25 k25).binds (ps := ["self", "word"]) fun _ _ _ _ _ _ us hl => match us, hl with | [_, _], _ => rfl
  have b26 := (fun_mk (st := s_Known__did) l26 c26 k26).binds (ps := ["self", "deed"]) fun _ _ _ _ _ _ us hl => match us, hl with | [_, _], _ => rfl
  have b27 := (fun_mk (st := s_need_machine) l27 c27 k27).binds (ps := ["machine"]) fun _ _ _ _ _ _ us hl => match us, hl with | [_], _ => rfl
  have b28 := (fun_mk (st := s_top) l28 c28 k28).binds (ps := ["machine"]) fun _ _ _ _ _ _ us hl => match us, hl with | [_], _ => rfl
  have b29 := (fun_mk (st := s_Known__init) l29 c29 k29).binds (ps := ["self", "machine", "inputs"]) fun _ _ _ _ _ _ us hl => match us, hl with | [_, _, _], _ => rfl
  have b30 := (fun_mk (st := s_product_of) l30 c30 k30).binds (ps := ["product", "greatest"]) fun _ _ _ _ _ _ us hl => match us, hl with | [_, _], _ => rfl
  have b31 := (fun_mk (st := s_least_of) l31 c31 k31).binds (ps := ["terms", "greatest"]) fun _ _ _ _ _ _ us hl => match us, hl with | [_, _], _ => rfl
  have b32 := (fun_mk (st := s_side_sum) l32 c32 k32).binds (ps := ["known", "side"]) fun _ _ _ _ _ _ us hl => match us, hl with | [_, _], _ => rfl
  have b33 := (fun_mk (st := s_is_so) l33 c33 k33).binds (ps := ["known", "claim"]) fun _ _ _ _ _ _ us hl => match us, hl with | [_, _], _ => rfl
  have b34 := (fun_mk (st := s_is_side) l34 c34 k34).binds (ps := ["figures", "side", "deep"]) fun _ _ _ _ _ _ us hl => match us, hl with | [_, _, _], _ => rfl
  have b35 := (fun_mk (st := s_is_claim) l35 c35 k35).binds (ps := ["figures", "claim"]) fun _ _ _ _ _ _ us hl => match us, hl with | [_, _], _ => rfl
  have b36 := (fun_mk (st := s_need_claims) l36 c36 k36).binds (ps := ["figures", "claims"]) fun _ _ _ _ _ _ us hl => match us, hl with | [_, _], _ => rfl
  have b37 := (fun_mk (st := s_is_deed) l37 c37 k37).binds (ps := ["figures", "deed"]) fun _ _ _ _ _ _ us hl => match us, hl with | [_, _], _ => rfl
  have b38 := (fun_mk (st := s_need_deeds) l38 c38 k38).binds (ps := ["figures", "deeds"]) fun _ _ _ _ _ _ us hl => match us, hl with | [_, _], _ => rfl
  have b39 := (fun_mk (st := s_is_name) l39 c39 k39).binds (ps := ["name"]) fun _ _ _ _ _ _ us hl => match us, hl with | [_], _ => rfl
  have b40 := (fun_mk (st := s_is_input) l40 c40 k40).binds (ps := ["machine", "row", "names"]) fun _ _ _ _ _ _ us hl => match us, hl with | [_, _, _], _ => rfl
  have b41 := (fun_mk (st := s_need_inputs) l41 c41 k41).binds (ps := ["machine", "inputs"]) fun _ _ _ _ _ _ us hl => match us, hl with | [_, _], _ => rfl
  have b42 := (fun_mk (st := s_need_book) l42 c42 k42).binds (ps := ["machine", "book"]) fun _ _ _ _ _ _ us hl => match us, hl with | [_, _], _ => rfl
  have b43 := (fun_mk (st := s_looked) l43 c43 k43).binds (ps := ["machine", "book"]) fun _ _ _ _ _ _ us hl => match us, hl with | [_, _], _ => rfl
  have b44 := (fun_mk (st := s_need_places) l44 c44 k44).binds (ps := ["machine", "many"]) fun _ _ _ _ _ _ us hl => match us, hl with | [_, _], _ => rfl
  have b45 := (fun_mk (st := s_need_slides) l45 c45 k45).binds (ps := ["machine", "many"]) fun _ _ _ _ _ _ us hl => match us, hl with | [_, _], _ => rfl
  have b46 := (fun_mk (st := s_product) l46 c46 k46).binds (ps := ["machine", "one", "other"]) fun _ _ _ _ _ _ us hl => match us, hl with | [_, _, _], _ => rfl
  have b47 := (fun_mk (st := s_figures_of) l47 c47 k47).binds (ps := ["base", "number", "many"]) fun _ _ _ _ _ _ us hl => match us, hl with | [_, _, _], _ => rfl
  have b48 := (fun_mk (st := s_odds_before) l48 c48 k48).binds (ps := ["number", "first"]) fun _ _ _ _ _ _ us hl => match us, hl with | [_, _], _ => rfl
  have b49 := (fun_mk (st := s_turned) l49 c49 k49).binds (ps := ["machine", "numbers", "many", "way", "tally"]) fun _ _ _ _ _ _ us hl => match us, hl with | [_, _, _, _, _], _ => rfl
  have b50 := (fun_mk (st := s_odds_turned) l50 c50 k50).binds (ps := ["machine", "numbers", "tally"]) fun _ _ _ _ _ _ us hl => match us, hl with | [_, _, _], _ => rfl
  have b51 := (fun_mk (st := s_rung) l51 c51 k51).binds (ps := ["machine", "numbers", "tally"]) fun _ _ _ _ _ _ us hl => match us, hl with | [_, _, _], _ => rfl
  have b52 := (fun_mk (st := s_shifted) l52 c52 k52).binds (ps := ["machine", "numbers", "by"]) fun _ _ _ _ _ _ us hl => match us, hl with | [_, _, _], _ => rfl
  have b53 := (fun_mk (st := s_behind) l53 c53 k53).binds (ps := ["machine", "values", "numbers", "deed"]) fun _ _ _ _ _ _ us hl => match us, hl with | [_, _, _, _], _ => rfl
  have b54 := (fun_mk (st := s_need_values) l54 c54 k54).binds (ps := ["machine", "inputs", "values"]) fun _ _ _ _ _ _ us hl => match us, hl with | [_, _, _], _ => rfl
  have b55 := (fun_mk (st := s_worked) l55 c55 k55).binds (ps := ["machine", "book", "values"]) fun _ _ _ _ _ _ us hl => match us, hl with | [_, _, _], _ => rfl
  have b56 := (fun_mk (st := s_law) l56 c56 k56).binds (ps := ["_law_script"]) fun _ _ _ _ _ _ us hl => match us, hl with | [_], _ => rfl
  have b57 := (fun_mk (st := s_Stuck__init) l57 c57 k57).binds (ps := ["self", "number"]) fun _ _ _ _ _ _ us hl => match us, hl with | [_, _], _ => rfl
  refine ⟨PySem.W.fnOf "law" "law" (defArgs s_law) (defBody s_law) (defScope s_law) .none kV56 dc56 pm56 an56 cd56 ct56, [(tc39, tp39), (tc56, tp56)], spLawE K [tp39, tp56], (Tg.each_cons ((hTab _ List.mem_cons_self _ _ (Tg.tabIn_of a39 l39 j39 w39 u39)).2) (Tg.each_cons ((hTab _ (List.mem_cons_of_mem _ List.mem_cons_self) _ _ (Tg.tabIn_of a56 l56 j56 w56 u56)).2) Tg.each_nil)), (Tg.each_cons (v39) (Tg.each_cons (v56) Tg.each_nil)), (Tg.each_cons ((hTab _ List.mem_cons_self _ _ (Tg.tabIn_of a39 l39 j39 w39 u39)).1) (Tg.each_cons ((hTab _ (List.mem_cons_of_mem _ List.mem_cons_self) _ _ (Tg.tabIn_of a56 l56 j56 w56 u56)).1) Tg.each_nil)), fun s v => .of_eq rfl, fun H a ns hl _ hH hS => ⟨a, ns, rfl, hS, hl, fun _ => rfl, (Tg.each_cons (hH _ List.mem_cons_self) (Tg.each_cons (hH _ (List.mem_cons_of_mem _ List.mem_cons_self)) Tg.each_nil))⟩, fun base _ _ hTB => ?_⟩
  let T : Txt K mg base := {
    f__law_next := f1, fd__law_next := _, F__law_next := fun_mk (st := s__law_next) l1 c1 k1, g__law_next := PySem.W.mg_of X G a1, b__law_next := b1,
    f__law_big := f2, fd__law_big := _, F__law_big := fun_mk (st := s__law_big) l2 c2 k2, g__law_big := PySem.W.mg_of X G a2, b__law_big := b2,
    f__law_due := f3, fd__law_due := _, F__law_due := fun_mk (st := s__law_due) l3 c3 k3, g__law_due := PySem.W.mg_of X G a3, b__law_due := b3,
    f__law_told := f4, fd__law_told := _, F__law_told := fun_mk (st := s__law_told) l4 c4 k4, g__law_told := PySem.W.mg_of X G a4, b__law_told := b4,
    f__law_power := f5, fd__law_power := _, F__law_power := fun_mk (st := s__law_power) l5 c5 k5, g__law_power := PySem.W.mg_of X G a5, b__law_power := b5,
    f__law_value := f6, fd__law_value := _, F__law_value := fun_mk (st := s__law_value) l6 c6 k6, g__law_value := PySem.W.mg_of X G a6, b__law_value := b6,
    f_fits := f7, fd_fits := _, F_fits := fun_mk (st := s_fits) l7 c7 k7, g_fits := PySem.W.mg_of X G a7, b_fits := b7,
    f_power := f8, fd_power := _, F_power := fun_mk (st := s_power) l8 c8 k8, g_power := PySem.W.mg_of X G a8, b_power := b8,
    f_plus := f9, fd_plus := _, F_plus := fun_mk (st := s_plus) l9 c9 k9, g_plus := PySem.W.mg_of X G a9, b_plus := b9,
    f_with_more := f10, fd_with_more := _, F_with_more := fun_mk (st := s_with_more) l10 c10 k10, g_with_more := PySem.W.mg_of X G a10, b_with_more := b10,
    f_Known__counted := f11, fd_Known__counted := _, F_Known__counted := fun_mk (st := s_Known__counted) l11 c11 k11, b_Known__counted := b11,
    M_Known__counted := ⟨a11, fn11, k11⟩,
    f_Known__leave := f12, fd_Known__leave := _, F_Known__leave := fun_mk (st := s_Known__leave) l12 c12 k12, b_Known__leave := b12,
    M_Known__leave := ⟨a12, fn12, k12⟩,
    f_letter_sum := f13, fd_letter_sum := _, F_letter_sum := fun_mk (st := s_letter_sum) l13 c13 k13, g_letter_sum := PySem.W.mg_of X G a13, b_letter_sum := b13,
    f_Known__letter := f14, fd_Known__letter := _, F_Known__letter := fun_mk (st := s_Known__letter) l14 c14 k14, b_Known__letter := b14,
    M_Known__letter := ⟨a14, fn14, k14⟩,
    f_number_sum := f15, fd_number_sum := _, F_number_sum := fun_mk (st := s_number_sum) l15 c15 k15, g_number_sum := PySem.W.mg_of X G a15, b_number_sum := b15,
    f_root_of := f16, fd_root_of := _, F_root_of := fun_mk (st := s_root_of) l16 c16 k16, g_root_of := PySem.W.mg_of X G a16, b_root_of := b16,
    f_times := f17, fd_times := _, F_times := fun_mk (st := s_times) l17 c17 k17, g_times := PySem.W.mg_of X G a17, b_times := b17,
    f_Known__odds_turned := f18, fd_Known__odds_turned := _, F_Known__odds_turned := fun_mk (st := s_Known__odds_turned) l18 c18 k18, b_Known__odds_turned := b18,
    M_Known__odds_turned := ⟨a18, fn18, k18⟩,
    f_Known__row_of := f19, fd_Known__row_of := _, F_Known__row_of := fun_mk (st := s_Known__row_of) l19 c19 k19, b_Known__row_of := b19,
    M_Known__row_of := ⟨a19, fn19, k19⟩,
    f_Known__rung := f20, fd_Known__rung := _, F_Known__rung := fun_mk (st := s_Known__rung) l20 c20 k20, b_Known__rung := b20,
    M_Known__rung := ⟨a20, fn20, k20⟩,
    f_Known__shifted := f21, fd_Known__shifted := _, F_Known__shifted := fun_mk (st := s_Known__shifted) l21 c21 k21, b_Known__shifted := b21,
    M_Known__shifted := ⟨a21, fn21, k21⟩,
    f_multiplied := f22, fd_multiplied := _, F_multiplied := fun_mk (st := s_multiplied) l22 c22 k22, g_multiplied := PySem.W.mg_of X G a22, b_multiplied := b22,
    f_Known__turned := f23, fd_Known__turned := _, F_Known__turned := fun_mk (st := s_Known__turned) l23 c23 k23, b_Known__turned := b23,
    M_Known__turned := ⟨a23, fn23, k23⟩,
    f_number_amount := f24, fd_number_amount := _, F_number_amount := fun_mk (st := s_number_amount) l24 c24 k24, g_number_amount := PySem.W.mg_of X G a24, b_number_amount := b24,
    f_Known__wiped := f25, fd_Known__wiped := _, F_Known__wiped := fun_mk (st := s_Known__wiped) l25 c25 k25, b_Known__wiped := b25,
    M_Known__wiped := ⟨a25, fn25, k25⟩,
    f_Known__did := f26, fd_Known__did := _, F_Known__did := fun_mk (st := s_Known__did) l26 c26 k26, b_Known__did := b26,
    M_Known__did := ⟨a26, fn26, k26⟩,
    f_need_machine := f27, fd_need_machine := _, F_need_machine := fun_mk (st := s_need_machine) l27 c27 k27, g_need_machine := PySem.W.mg_of X G a27, b_need_machine := b27,
    f_top := f28, fd_top := _, F_top := fun_mk (st := s_top) l28 c28 k28, g_top := PySem.W.mg_of X G a28, b_top := b28,
    f_Known__init := f29, fd_Known__init := _, F_Known__init := fun_mk (st := s_Known__init) l29 c29 k29, b_Known__init := b29,
    mk_Known := ⟨mmi_Known, a29, fn29, mkC_Known⟩,
    f_product_of := f30, fd_product_of := _, F_product_of := fun_mk (st := s_product_of) l30 c30 k30, g_product_of := PySem.W.mg_of X G a30, b_product_of := b30,
    f_least_of := f31, fd_least_of := _, F_least_of := fun_mk (st := s_least_of) l31 c31 k31, g_least_of := PySem.W.mg_of X G a31, b_least_of := b31,
    f_side_sum := f32, fd_side_sum := _, F_side_sum := fun_mk (st := s_side_sum) l32 c32 k32, g_side_sum := PySem.W.mg_of X G a32, b_side_sum := b32,
    f_is_so := f33, fd_is_so := _, F_is_so := fun_mk (st := s_is_so) l33 c33 k33, g_is_so := PySem.W.mg_of X G a33, b_is_so := b33,
    f_is_side := f34, fd_is_side := _, F_is_side := fun_mk (st := s_is_side) l34 c34 k34, g_is_side := PySem.W.mg_of X G a34, b_is_side := b34,
    f_is_claim := f35, fd_is_claim := _, F_is_claim := fun_mk (st := s_is_claim) l35 c35 k35, g_is_claim := PySem.W.mg_of X G a35, b_is_claim := b35,
    f_need_claims := f36, fd_need_claims := _, F_need_claims := fun_mk (st := s_need_claims) l36 c36 k36, g_need_claims := PySem.W.mg_of X G a36, b_need_claims := b36,
    f_is_deed := f37, fd_is_deed := _, F_is_deed := fun_mk (st := s_is_deed) l37 c37 k37, g_is_deed := PySem.W.mg_of X G a37, b_is_deed := b37,
    f_need_deeds := f38, fd_need_deeds := _, F_need_deeds := fun_mk (st := s_need_deeds) l38 c38 k38, g_need_deeds := PySem.W.mg_of X G a38, b_need_deeds := b38,
    f_is_name := f39, fd_is_name := _, F_is_name := fun_mk (st := s_is_name) l39 c39 k39, g_is_name := PySem.W.mg_of X G a39, b_is_name := b39,
    f_is_input := f40, fd_is_input := _, F_is_input := fun_mk (st := s_is_input) l40 c40 k40, g_is_input := PySem.W.mg_of X G a40, b_is_input := b40,
    f_need_inputs := f41, fd_need_inputs := _, F_need_inputs := fun_mk (st := s_need_inputs) l41 c41 k41, g_need_inputs := PySem.W.mg_of X G a41, b_need_inputs := b41,
    f_need_book := f42, fd_need_book := _, F_need_book := fun_mk (st := s_need_book) l42 c42 k42, g_need_book := PySem.W.mg_of X G a42, b_need_book := b42,
    f_looked := f43, fd_looked := _, F_looked := fun_mk (st := s_looked) l43 c43 k43, g_looked := PySem.W.mg_of X G a43, b_looked := b43,
    f_need_places := f44, fd_need_places := _, F_need_places := fun_mk (st := s_need_places) l44 c44 k44, g_need_places := PySem.W.mg_of X G a44, b_need_places := b44,
    f_need_slides := f45, fd_need_slides := _, F_need_slides := fun_mk (st := s_need_slides) l45 c45 k45, g_need_slides := PySem.W.mg_of X G a45, b_need_slides := b45,
    f_product := f46, fd_product := _, F_product := fun_mk (st := s_product) l46 c46 k46, g_product := PySem.W.mg_of X G a46, b_product := b46,
    f_figures_of := f47, fd_figures_of := _, F_figures_of := fun_mk (st := s_figures_of) l47 c47 k47, g_figures_of := PySem.W.mg_of X G a47, b_figures_of := b47,
    f_odds_before := f48, fd_odds_before := _, F_odds_before := fun_mk (st := s_odds_before) l48 c48 k48, g_odds_before := PySem.W.mg_of X G a48, b_odds_before := b48,
    f_turned := f49, fd_turned := _, F_turned := fun_mk (st := s_turned) l49 c49 k49, g_turned := PySem.W.mg_of X G a49, b_turned := b49,
    f_odds_turned := f50, fd_odds_turned := _, F_odds_turned := fun_mk (st := s_odds_turned) l50 c50 k50, g_odds_turned := PySem.W.mg_of X G a50, b_odds_turned := b50,
    f_rung := f51, fd_rung := _, F_rung := fun_mk (st := s_rung) l51 c51 k51, g_rung := PySem.W.mg_of X G a51, b_rung := b51,
    f_shifted := f52, fd_shifted := _, F_shifted := fun_mk (st := s_shifted) l52 c52 k52, g_shifted := PySem.W.mg_of X G a52, b_shifted := b52,
    f_behind := f53, fd_behind := _, F_behind := fun_mk (st := s_behind) l53 c53 k53, g_behind := PySem.W.mg_of X G a53, b_behind := b53,
    f_need_values := f54, fd_need_values := _, F_need_values := fun_mk (st := s_need_values) l54 c54 k54, g_need_values := PySem.W.mg_of X G a54, b_need_values := b54,
    f_worked := f55, fd_worked := _, F_worked := fun_mk (st := s_worked) l55 c55 k55, g_worked := PySem.W.mg_of X G a55, b_worked := b55,
    f_law := fa, fd_law := _, F_law := fun_mk (st := s_law) l56 c56 k56, g_law := PySem.W.mg_of X G a56, b_law := b56,
    n_all := PySem.W.mg_none_of X G z1,
    n_enumerate := PySem.W.mg_none_of X G z2,
    n_len := PySem.W.mg_none_of X G z3,
    n_list := PySem.W.mg_none_of X G z4,
    n_max := PySem.W.mg_none_of X G z5,
    n_min := PySem.W.mg_none_of X G z6,
    n_range := PySem.W.mg_none_of X G z7,
    n_sorted := PySem.W.mg_none_of X G z8,
    n_tuple := PySem.W.mg_none_of X G z9,
    a_CLAIM_WORDS := ac1, c_CLAIM_WORDS := PySem.W.mg_of X G y1, s_CLAIM_WORDS := fun H => sqT_K H x1 (show 2 ≤ sizeLine by decide) (.cons ⟨_, rfl⟩ (.cons ⟨_, rfl⟩ .nil)),
    a_COUNTS := ac2, c_COUNTS := PySem.W.mg_of X G y2, s_COUNTS := fun H => sqT_K H x2 (show 1 ≤ sizeLine by decide) (.cons ⟨_, rfl⟩ .nil),
    a_LEASTS := ac3, c_LEASTS := PySem.W.mg_of X G y3, s_LEASTS := fun H => sqT_K H x3 (show 2 ≤ sizeLine by decide) (.cons ⟨_, rfl⟩ (.cons ⟨_, rfl⟩ .nil)),
    t_LEAST_BASE := tk4, c_LEAST_BASE := PySem.W.mg_of X G y4,
    t_LONGEST_NAME := tk5, c_LONGEST_NAME := PySem.W.mg_of X G y5,
    t_MOST_BASE := tk6, c_MOST_BASE := PySem.W.mg_of X G y6,
    t_MOST_CLAIMS := tk7, c_MOST_CLAIMS := PySem.W.mg_of X G y7,
    t_MOST_COUNTERS := tk8, c_MOST_COUNTERS := PySem.W.mg_of X G y8,
    t_MOST_DEEDS := tk9, c_MOST_DEEDS := PySem.W.mg_of X G y9,
    t_MOST_DEEP := tk10, c_MOST_DEEP := PySem.W.mg_of X G y10,
    t_MOST_INPUTS := tk11, c_MOST_INPUTS := PySem.W.mg_of X G y11,
    t_MOST_NUMBER := tk12, c_MOST_NUMBER := PySem.W.mg_of X G y12,
    t_MOST_SLIDES := tk13, c_MOST_SLIDES := PySem.W.mg_of X G y13,
    t_MOST_WHEELS := tk14, c_MOST_WHEELS := PySem.W.mg_of X G y14,
    a_NO_NAMES := ac15, c_NO_NAMES := PySem.W.mg_of X G y15, s_NO_NAMES := fun H => sqT_K H x15 (show 2 ≤ sizeLine by decide) (.cons ⟨_, rfl⟩ (.cons ⟨_, rfl⟩ .nil)),
    t_SMALL_LETTERS := tk16, c_SMALL_LETTERS := PySem.W.mg_of X G y16,
    a_TALLIES := ac17, c_TALLIES := PySem.W.mg_of X G y17, s_TALLIES := fun H => sqT_K H x17 (show 3 ≤ sizeLine by decide) (.cons ⟨_, rfl⟩ (.cons ⟨_, rfl⟩ (.cons ⟨_, rfl⟩ .nil))),
    a_WAYS := ac18, c_WAYS := PySem.W.mg_of X G y18, s_WAYS := fun H => sqT_K H x18 (show 2 ≤ sizeLine by decide) (.cons ⟨_, rfl⟩ (.cons ⟨_, rfl⟩ .nil)),
    a_WHEELS := ac19, c_WHEELS := PySem.W.mg_of X G y19, s_WHEELS := fun H => sqT_K H x19 (show 1 ≤ sizeLine by decide) (.cons ⟨_, rfl⟩ .nil),
    a_WIPED := ac20, c_WIPED := PySem.W.mg_of X G y20, s_WIPED := fun H => sqT_K H x20 (show 2 ≤ sizeLine by decide) (.cons ⟨_, rfl⟩ (.cons ⟨_, rfl⟩ .nil)),
    k_Known := ⟨mpg_Known, hd_Known, mpo_Known, msa_Known⟩, no_Known_base := mn_Known_base, no_Known_last_place := mn_Known_last_place, no_Known_setting_end := mn_Known_setting_end, no_Known_wheels_end := mn_Known_wheels_end, no_Known_counts_end := mn_Known_counts_end, no_Known_greatest := mn_Known_greatest, no_Known_rows := mn_Known_rows, no_Known_leasts := mn_Known_leasts, no_Known_setting := mn_Known_setting, no_Known_wheels := mn_Known_wheels, no_Known_counts := mn_Known_counts, no_Known_place := mn_Known_place, no_Known_fact := mn_Known_fact,
    C_DrumError := ad_DrumError, gC_DrumError := PySem.W.mg_of X G gg_DrumError,
    C_Known := ad_Known, gC_Known := PySem.W.mg_of X G gg_Known,
    C_Stuck := ad_Stuck, gC_Stuck := PySem.W.mg_of X G gg_Stuck,
    C_TooSmall := ad_TooSmall, gC_TooSmall := PySem.W.mg_of X G gg_TooSmall,
    xC_TooSmall := hxC_TooSmall,
    kC_TooSmall := hkC_TooSmall,
    bC_TooSmall := hbC_TooSmall,
    tC_TooSmall := htC_TooSmall,
    mC_TooSmall_TooSmall := PySem.W.exm_ref hb_TooSmall hd_TooSmall ht_TooSmall hs_TooSmall_TooSmall,
    f_Stuck__init := f57, fd_Stuck__init := _, F_Stuck__init := fun_mk (st := s_Stuck__init) l57 c57 k57, b_Stuck__init := b57,
    o_Stuck := oo_Stuck, y_Stuck := yy_Stuck, iC_Stuck := ii_Stuck, tI_Stuck := ti_Stuck, no_Stuck_number := nn_Stuck_number,
    ga_DrumError := hga_DrumError, ra_DrumError := hra_DrumError, va_DrumError := hva_DrumError,
    tc_is_name := tc39, tp_is_name := tp39, cd_is_name := j39, tb_is_name := Tg.tab_of (hTB _ List.mem_cons_self),
    tc_law := tc56, tp_law := tp56, cd_law := j56, tb_law := Tg.tab_of (hTB _ (List.mem_cons_of_mem _ List.mem_cons_self)),
    ne_law_is_name := nt56_39 }
  exact ok_law T
end My
open PySem PySem.W PyProof.Rows
set_option maxRecDepth 100000 in
set_option maxHeartbeats 0 in
theorem PySem.Challenge.cw_crankdrum_k08_whole_products_holds : PySem.Challenge.rw_crankdrum_k08_whole_products.Holds := by
  w_on; o_law; k_head; (case hw => w_witness2)
  k_fill
  refine Tg.walk_ofTab (l := PySem.Challenge.rw_crankdrum_k08_whole_products) (n := 63) (k := 10) (x := "_law_script") (CX := fun _ => L2.CX0) ["is_name", "law"] rfl (by decide) rfl ⟨rfl, by decide, by decide⟩ (by decide +kernel) (fun w h Y => PySem.W.km_in_of Y) ?F (fun _ _ _ _ _ h => h)
  case F =>
    intro w mg fa h KX G hmg hTab
    refine' My.all_mk KX G hmg ?a1 ?l1 ?c1 ?k1 ?a2 ?l2 ?c2 ?k2 ?a3 ?l3 ?c3 ?k3 ?a4 ?l4 ?c4 ?k4 ?a5 ?l5 ?c5 ?k5 ?a6 ?l6 ?c6 ?k6 ?a7 ?l7 ?c7 ?k7 ?a8 ?l8 ?c8 ?k8 ?a9 ?l9 ?c9 ?k9 ?a10 ?l10 ?c10 ?k10 ?a11 ?l11 ?c11 ?k11 ?fn11 ?a12 ?l12 ?c12 ?k12 ?fn12 ?a13 ?l13 ?c13 ?k13 ?a14 ?l14 ?c14 ?k14 ?fn14 ?a15 ?l15 ?c15 ?k15 ?a16 ?l16 ?c16 ?k16 ?a17 ?l17 ?c17 ?k17 ?a18 ?l18 ?c18 ?k18 ?fn18 ?a19 ?l19 ?c19 ?k19 ?fn19 ?a20 ?l20 ?c20 ?k20 ?fn20 ?a21 ?l21 ?c21 ?k21 ?fn21 ?a22 ?l22 ?c22 ?k22 ?a23 ?l23 ?c23 ?k23 ?fn23 ?a24 ?l24 ?c24 ?k24 ?a25 ?l25 ?c25 ?k25 ?fn25 ?a26 ?l26 ?c26 ?k26 ?fn26 ?a27 ?l27 ?c27 ?k27 ?a28 ?l28 ?c28 ?k28 ?a29 ?l29 ?c29 ?k29 ?fn29 ?a30 ?l30 ?c30 ?k30 ?a31 ?l31 ?c31 ?k31 ?a32 ?l32 ?c32 ?k32 ?a33 ?l33 ?c33 ?k33 ?a34 ?l34 ?c34 ?k34 ?a35 ?l35 ?c35 ?k35 ?a36 ?l36 ?c36 ?k36 ?a37 ?l37 ?c37 ?k37 ?a38 ?l38 ?c38 ?k38 ?a39 ?l39 ?c39 ?k39 ?a40 ?l40 ?c40 ?k40 ?a41 ?l41 ?c41 ?k41 ?a42 ?l42 ?c42 ?k42 ?a43 ?l43 ?c43 ?k43 ?a44 ?l44 ?c44 ?k44 ?a45 ?l45 ?c45 ?k45 ?a46 ?l46 ?c46 ?k46 ?a47 ?l47 ?c47 ?k47 ?a48 ?l48 ?c48 ?k48 ?a49 ?l49 ?c49 ?k49 ?a50 ?l50 ?c50 ?k50 ?a51 ?l51 ?c51 ?k51 ?a52 ?l52 ?c52 ?k52 ?a53 ?l53 ?c53 ?k53 ?a54 ?l54 ?c54 ?k54 ?a55 ?l55 ?c55 ?k55 ?a56 ?l56 ?c56 ?k56 ?z1 ?z2 ?z3 ?z4 ?z5 ?z6 ?z7 ?z8 ?z9 ?y1 ?x1 ?y2 ?x2 ?y3 ?x3 ?y4 ?y5 ?y6 ?y7 ?y8 ?y9 ?y10 ?y11 ?y12 ?y13 ?y14 ?y15 ?x15 ?y16 ?y17 ?x17 ?y18 ?x18 ?y19 ?x19 ?y20 ?x20 ?gg_DrumError ?gg_Known ?gg_Stuck ?gg_TooSmall ?mpg_Known ?mpo_Known ?msa_Known ?mmi_Known ?mkC_Known ?hd_Known ?mn_Known_base ?mn_Known_last_place ?mn_Known_setting_end ?mn_Known_wheels_end ?mn_Known_counts_end ?mn_Known_greatest ?mn_Known_rows ?mn_Known_leasts ?mn_Known_setting ?mn_Known_wheels ?mn_Known_counts ?mn_Known_place ?mn_Known_fact ?hxC_TooSmall ?hkC_TooSmall ?hbC_TooSmall ?htC_TooSmall ?hb_TooSmall ?hd_TooSmall ?ht_TooSmall ?hs_TooSmall_TooSmall ?ii_Stuck ?l57 ?c57 ?k57 ?oo_Stuck ?yy_Stuck ?ti_Stuck ?nn_Stuck_number ?hga_DrumError ?hra_DrumError ?hva_DrumError ?j39 ?w39 ?u39 ?v39 ?j56 ?w56 ?u56 ?v56 ?nt56_39 ?hTb
    (case a1 => k_is); (case l1 => k_is); (case c1 => k_is); (case k1 => k_is); (case a2 => k_is); (case l2 => k_is); (case c2 => k_is); (case k2 => k_is); (case a3 => k_is); (case l3 => k_is); (case c3 => k_is); (case k3 => k_is); (case a4 => k_is); (case l4 => k_is); (case c4 => k_is); (case k4 => k_is); (case a5 => k_is); (case l5 => k_is); (case c5 => k_is); (case k5 => k_is); (case a6 => k_is); (case l6 => k_is); (case c6 => k_is); (case k6 => k_is); (case a7 => k_is); (case l7 => k_is); (case c7 => k_is); (case k7 => k_is); (case a8 => k_is); (case l8 => k_is); (case c8 => k_is); (case k8 => k_is); (case a9 => k_is); (case l9 => k_is); (case c9 => k_is); (case k9 => k_is); (case a10 => k_is); (case l10 => k_is); (case c10 => k_is); (case k10 => k_is); (case a13 => k_is); (case l13 => k_is); (case c13 => k_is); (case k13 => k_is); (case a15 => k_is); (case l15 => k_is); (case c15 => k_is); (case k15 => k_is); (case a16 => k_is); (case l16 => k_is); (case c16 => k_is); (case k16 => k_is); (case a17 => k_is); (case l17 => k_is); (case c17 => k_is); (case k17 => k_is); (case a22 => k_is); (case l22 => k_is); (case c22 => k_is); (case k22 => k_is); (case a24 => k_is); (case l24 => k_is); (case c24 => k_is); (case k24 => k_is); (case a27 => k_is); (case l27 => k_is); (case c27 => k_is); (case k27 => k_is); (case a28 => k_is); (case l28 => k_is); (case c28 => k_is); (case k28 => k_is); (case a30 => k_is); (case l30 => k_is); (case c30 => k_is); (case k30 => k_is); (case a31 => k_is); (case l31 => k_is); (case c31 => k_is); (case k31 => k_is); (case a32 => k_is); (case l32 => k_is); (case c32 => k_is); (case k32 => k_is); (case a33 => k_is); (case l33 => k_is); (case c33 => k_is); (case k33 => k_is); (case a34 => k_is); (case l34 => k_is); (case c34 => k_is); (case k34 => k_is); (case a35 => k_is); (case l35 => k_is); (case c35 => k_is); (case k35 => k_is); (case a36 => k_is); (case l36 => k_is); (case c36 => k_is); (case k36 => k_is); (case a37 => k_is); (case l37 => k_is); (case c37 => k_is); (case k37 => k_is); (case a38 => k_is); (case l38 => k_is); (case c38 => k_is); (case k38 => k_is); (case a39 => k_is); (case l39 => k_is); (case c39 => k_is); (case k39 => k_is); (case a40 => k_is); (case l40 => k_is); (case c40 => k_is); (case k40 => k_is); (case a41 => k_is); (case l41 => k_is); (case c41 => k_is); (case k41 => k_is); (case a42 => k_is); (case l42 => k_is); (case c42 => k_is); (case k42 => k_is); (case a43 => k_is); (case l43 => k_is); (case c43 => k_is); (case k43 => k_is); (case a44 => k_is); (case l44 => k_is); (case c44 => k_is); (case k44 => k_is); (case a45 => k_is); (case l45 => k_is); (case c45 => k_is); (case k45 => k_is); (case a46 => k_is); (case l46 => k_is); (case c46 => k_is); (case k46 => k_is); (case a47 => k_is); (case l47 => k_is); (case c47 => k_is); (case k47 => k_is); (case a48 => k_is); (case l48 => k_is); (case c48 => k_is); (case k48 => k_is); (case a49 => k_is); (case l49 => k_is); (case c49 => k_is); (case k49 => k_is); (case a50 => k_is); (case l50 => k_is); (case c50 => k_is); (case k50 => k_is); (case a51 => k_is); (case l51 => k_is); (case c51 => k_is); (case k51 => k_is); (case a52 => k_is); (case l52 => k_is); (case c52 => k_is); (case k52 => k_is); (case a53 => k_is); (case l53 => k_is); (case c53 => k_is); (case k53 => k_is); (case a54 => k_is); (case l54 => k_is); (case c54 => k_is); (case k54 => k_is); (case a55 => k_is); (case l55 => k_is); (case c55 => k_is); (case k55 => k_is); (case a56 => k_is); (case l56 => k_is); (case c56 => k_is); (case k56 => k_is); (case z1 => k_is); (case z2 => k_is); (case z3 => k_is); (case z4 => k_is); (case z5 => k_is); (case z6 => k_is); (case z7 => k_is); (case z8 => k_is); (case z9 => k_is); (case y1 => k_is); (case x1 => k_is); (case y2 => k_is); (case x2 => k_is); (case y3 => k_is); (case x3 => k_is); (case y4 => k_is); (case y5 => k_is); (case y6 => k_is); (case y7 => k_is); (case y8 => k_is); (case y9 => k_is); (case y10 => k_is); (case y11 => k_is); (case y12 => k_is); (case y13 => k_is); (case y14 => k_is); (case y15 => k_is); (case x15 => k_is); (case y16 => k_is); (case y17 => k_is); (case x17 => k_is); (case y18 => k_is); (case x18 => k_is); (case y19 => k_is); (case x19 => k_is); (case y20 => k_is); (case x20 => k_is); (case gg_DrumError => k_is); (case gg_Known => k_is); (case gg_Stuck => k_is); (case gg_TooSmall => k_is); (case mpg_Known => k_is); (case mpo_Known => k_is); (case msa_Known => k_is); (case mmi_Known => k_is); (case mkC_Known => k_is); (case hd_Known => k_is); (case mn_Known_base => k_is); (case mn_Known_last_place => k_is); (case mn_Known_setting_end => k_is); (case mn_Known_wheels_end => k_is); (case mn_Known_counts_end => k_is); (case mn_Known_greatest => k_is); (case mn_Known_rows => k_is); (case mn_Known_leasts => k_is); (case mn_Known_setting => k_is); (case mn_Known_wheels => k_is); (case mn_Known_counts => k_is); (case mn_Known_place => k_is); (case mn_Known_fact => k_is); (case hxC_TooSmall => k_exc); (case hkC_TooSmall => k_is); (case hbC_TooSmall => k_is); (case htC_TooSmall => k_is); (case hb_TooSmall => k_is); (case hd_TooSmall => k_is); (case ht_TooSmall => k_is); (case hs_TooSmall_TooSmall => k_is); (case ii_Stuck => k_is); (case l57 => k_is); (case c57 => k_is); (case k57 => k_is); (case oo_Stuck => exact ⟨⟨_, _, _, _, _, _, _, _, _, _, _, _, _, _, _, by k_is, by decide +kernel⟩, by k_is, by k_is, by k_is, by k_is⟩); (case yy_Stuck => exact ⟨by k_is, by k_is, by k_is, by k_is, by k_is, by k_is, by k_is, by k_is⟩); (case ti_Stuck => k_is); (case nn_Stuck_number => k_is); (case hga_DrumError => k_is); (case hra_DrumError => k_is); (case hva_DrumError => k_is); (case j39 => rfl); (case w39 => k_is); (case u39 => rfl); (case v39 => rfl); (case j56 => rfl); (case w56 => k_is); (case u56 => rfl); (case v56 => rfl); (case nt56_39 => rfl); (case hTb => exact hTab); (case a11 => k_is); (case l11 => k_is); (case c11 => k_is); (case k11 => k_is); (case fn11 => k_is); (case a12 => k_is); (case l12 => k_is); (case c12 => k_is); (case k12 => k_is); (case fn12 => k_is); (case a14 => k_is); (case l14 => k_is); (case c14 => k_is); (case k14 => k_is); (case fn14 => k_is); (case a18 => k_is); (case l18 => k_is); (case c18 => k_is); (case k18 => k_is); (case fn18 => k_is); (case a19 => k_is); (case l19 => k_is); (case c19 => k_is); (case k19 => k_is); (case fn19 => k_is); (case a20 => k_is); (case l20 => k_is); (case c20 => k_is); (case k20 => k_is); (case fn20 => k_is); (case a21 => k_is); (case l21 => k_is); (case c21 => k_is); (case k21 => k_is); (case fn21 => k_is); (case a23 => k_is); (case l23 => k_is); (case c23 => k_is); (case k23 => k_is); (case fn23 => k_is); (case a25 => k_is); (case l25 => k_is); (case c25 => k_is); (case k25 => k_is); (case fn25 => k_is); (case a26 => k_is); (case l26 => k_is); (case c26 => k_is); (case k26 => k_is); (case fn26 => k_is); (case a29 => k_is); (case l29 => k_is); (case c29 => k_is); (case k29 => k_is); (case fn29 => k_is)
