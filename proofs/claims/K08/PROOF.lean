import PyProof.Rows.All
import Wide.All
import OpenK.AllK
import Wide.FinOn
import HandS.ForMost
import HandS.Evl
import HandS.IsInst
import HandS.Walk
import PyProof.StrBlock2
import KE.KEqSeq
import PySem.Challenge.RW_borrowdesk_k08_whole_shown
import HandS.TupAny
import KE.KeyNested
import KE.KDictPairs
import HandS.Iter
import HandS.Dict
import PyProof.DictRoadsH
import PyProof.Rows.TupDisplay
import HandS.SetKeys
import HandS.AnyAll
import HandS.GenOver
import HandS.EndBits
import PyProof.GenCompD
import HandS.GenList
import HandS.SetIn
import KE.KSetDisp
import HandS.Lambda
import KE.KMinKey
import HandS.SortKw
import HandS.Strs
import HandS.EndOwn
import KE.KNestM
set_option Elab.async false
set_option linter.all false
set_option maxRecDepth 100000
set_option maxHeartbeats 8000000
namespace BD
open PySem PySem.Spec PyProof.Rows L2 Evl

/-! ### a def that stands, a def whose promise is known -/
def Dn (K : PySem.W.Frag) (mg : Str → Option Value) (x : Str) (st : Stmt) (ps : List Str) : Prop :=
  ∃ f fd, Fun K x x st f fd ∧ mg x = some (.ref f) ∧ Binds K fd ps []
theorem dn_mk {K : PySem.W.Frag} {h : Heap} {mg : Str → Option Value} (X : K.In h) (G : h.Ns mainGlobals mg) {x : Str} {st : Stmt} {ps : List Str} {f : Addr} {oc kV dc pm cd ct : Value} {od an : Option Addr} {sl : Array (Option Value)}
    (a : PySem.W.nsIn K mainGlobals x = some (some (.ref f))) (l : K.lookup f = some ⟨oc, od, .func (PySem.W.fnOf x x (defArgs st) (defBody st) (defScope st) .none kV dc pm an cd ct), sl⟩) (c : PySem.W.codeIn K cd x = true) (k : PySem.W.keepIn K (.ref f) = true)
    (hb : ∀ (kV doc pm : Value) (an : Option Addr) (cdv ct : Value) (us : List Value), us.length = ps.length → bindArgs (PySem.W.fnOf x x (defArgs st) (defBody st) (defScope st) .none kV doc pm an cdv ct) ⟨us, []⟩ = pure (ps.zip us)) : Dn K mg x st ps :=
  ⟨f, _, fun_mk l c k, PySem.W.mg_of X G a, (fun_mk l c k).binds hb⟩
structure Has (P : Program) (w : World) (K : PySem.W.Frag) (mg : Str → Option Value) (base : Heap) (x : Str) (k : Nat) (ps : List Str) (sp : Sp) : Prop where
  ex : ∃ f fd, FnOk P w K mg base CX0 k f fd ps sp ∧ mg x = some (.ref f) ∧ PySem.W.keepIn K (.ref f) = true ∧ Binds K fd ps []
section
variable {P : Program} {w : World} {K : PySem.W.Frag} {mg : Str → Option Value} {base : Heap}
theorem Dn.ok {x : Str} {st : Stmt} {N ps : List Str} {k : Nat} {sp : Sp} (D : Dn K mg x st ps) (S : FnScope N ps (defScope st)) (len : ∀ vs H Q E, sp vs H Q E → vs.length = ps.length)
    (hbody : ∀ (f : Addr) (cdv : Value) (A : Around) (outer : List Env) (s : Shared) (H : Hp) (vs : List V) (Q : VK) (E : XK), Room k (A.deeper (envOfC x (defScope st) s.heap.objs.size f cdv)) → sp vs H Q E →
      ∃ t, PSs (cxOf CX0 P w K mg base N x (defScope st) f cdv A outer s H E).nox (defBody st) t ∧ t { nx := fun _ H' => Q .non H', rt := Q } (start N vs) H) : Has P w K mg base x (k + 1) ps sp := by
  obtain ⟨f, fd, F, m, b⟩ := D
  exact ⟨f, fd, F.ok S len (hbody f), m, F.kp, b⟩
theorem Has.mono {x : Str} {j k : Nat} {ps : List Str} {sp : Sp} (h : Has P w K mg base x j ps sp) (e : j ≤ k) : Has P w K mg base x k ps sp := by
  obtain ⟨f, fd, F, m, kp, b⟩ := h.ex
  exact ⟨f, fd, F.mono e, m, kp, b⟩
end
theorem pe_own {X : Cx} {x : Str} {k : Nat} {ps : List Str} {sp : Sp} {e : Expr} {es : List Expr} {p pos : Pos} {t : TA} (h : Has X.prog X.w X.K X.mg X.base x k ps sp) (hr : Room k X.A) (hg : Gl X x) (ha : PA X (e :: es) t)
    (hdb : (x == ("__debug__" : Str)) = false := by decide) (he : starEach (e :: es) X.env = (false, eval e X.env) :: starEach es X.env := by rfl) (hpl : (backTo pos (starEach es X.env)).any (·.1) = false := by rfl) :
    PE X (.Call (.Name x p) (e :: es) [] pos) (tCall sp [] E0 t) := by
  obtain ⟨f, fd, F, m, kp, b⟩ := h.ex
  exact pe_call F hr hg m kp b .nil pass0 ha hdb he hpl

structure Blt (mg : Str → Option Value) : Prop where
  len_ : mg "len" = none
  range_ : mg "range" = none
  enumerate_ : mg "enumerate" = none
  zip_ : mg "zip" = none
  list_ : mg "list" = none
  tuple_ : mg "tuple" = none
  isinstance_ : mg "isinstance" = none
  all_ : mg "all" = none
  int_ : mg "int" = none
  bool_ : mg "bool" = none
  str_ : mg "str" = none
  sum_ : mg "sum" = none
  reversed_ : mg "reversed" = none
/-! ### a text times a number -/
def rRepS : R2 := fun x y H Q => ∃ z k, x = .str z ∧ y = .int k ∧ MulOk z k ∧ Q (.str (Txt.mul z k)) H
theorem op_repS {X : Cx} : OpR X (binaryOp .Mult) rRepS := by
  intro pins s σ H x y v u Q I rx ry h
  obtain ⟨z, k, rfl, rfl, hz, q⟩ := h
  obtain ⟨t, rfl⟩ := rx
  obtain ⟨t', rfl⟩ := ry
  exact SB.mul hz (fun t' tk => ⟨.str (Txt.mul z k), H, I.tok _, ⟨_, rfl⟩, q⟩)

def rAddT : R2 := fun x y H Q => ∃ i j, x = .str i ∧ y = .str j ∧ i.length + j.length ≤ sizeLine ∧ Q (.str (i ++ j)) H
theorem op_addT {X : Cx} : OpR X (binaryOp .Add) rAddT := op_add_str
/-! ### evaluation with a post on value and heap -/
def EvP (te : TE) (σ : L2.St) (H : Hp) (R : V → Hp → Prop) : Prop := ∀ H1, Ex H H1 → ∀ Q : VK, (∀ v H2, Ex H1 H2 → R v H2 → Q v H2) → te σ H1 Q
def EvAP (ta : TA) (σ : L2.St) (H : Hp) (R : List V → Hp → Prop) : Prop := ∀ H1, Ex H H1 → ∀ Q : List V → Hp → Prop, (∀ vs H2, Ex H1 H2 → R vs H2 → Q vs H2) → ta σ H1 Q
/-- a new list whose items are told by R -/
def EvPL (te : TE) (σ : L2.St) (H : Hp) (R : List V → Hp → Prop) : Prop := ∀ H1, Ex H H1 → ∀ Q : VK, (∀ p vs H2, H1 p = none → Ex H1 H2 → H2 p = some (.lst vs) → R vs H2 → Q (.ref p) H2) → te σ H1 Q
section
variable {K : PySem.W.Frag} {σ : L2.St} {H H' : Hp} {ta tb te tx : TE} {t u : TT} {x y z v : V} {r : R2} {R R' : V → Hp → Prop} {D : Ends} {tu tw tz : TS}
theorem ep_ev (h : Ev te σ H v) : EvP te σ H (fun x _ => x = v) := fun H1 e Q q => h H1 e Q fun H2 e2 => q v H2 e2 rfl
theorem ep_U {xs : List V} (h : EvU te σ H xs) : EvP te σ H (fun x H2 => ∃ p, x = .ref p ∧ H2 p = some (.tup xs)) := fun H1 e Q q => h H1 e Q fun p H2 _ e2 h2 => q _ H2 e2 ⟨p, rfl, h2⟩
theorem ep_L {xs : List V} (h : EvL te σ H xs) : EvP te σ H (fun x H2 => ∃ p, x = .ref p ∧ H2 p = some (.lst xs)) := fun H1 e Q q => h H1 e Q fun p H2 _ e2 h2 => q _ H2 e2 ⟨p, rfl, h2⟩
theorem EvP.mono (h : EvP te σ H R) (k : ∀ v H2, R v H2 → R' v H2) : EvP te σ H R' := fun H1 e Q q => h H1 e Q fun v H2 e2 hr => q v H2 e2 (k v H2 hr)
theorem EvP.up (e : Ex H H') (h : EvP te σ H R) : EvP te σ H' R := fun H1 a Q q => h H1 (e.trans a) Q q
theorem q_asgP {i : Nat} (h : EvP te σ H R) (k : ∀ v H1, Ex H H1 → R v H1 → tz D (σ.set i (some v)) H1) : tSeq (tAsg te (gName i)) tz D σ H := h H (Ex.refl H) _ fun v H1 e hr => k v H1 e hr
theorem s_asgP {i : Nat} (h : EvP te σ H R) (k : ∀ v H1, Ex H H1 → R v H1 → D.nx (σ.set i (some v)) H1) : tAsg te (gName i) D σ H := h H (Ex.refl H) _ fun v H1 e hr => k v H1 e hr
theorem s_retP (h : EvP te σ H R) (k : ∀ v H1, Ex H H1 → R v H1 → D.rt v H1) : tRet te D σ H := h H (Ex.refl H) _ k
theorem eap_nil : EvAP tNil σ H (fun vs _ => vs = []) := fun H1 _ _ q => q [] H1 (Ex.refl H1) rfl
def SpP (sp : Sp) (vs : List V) (H : Hp) (R : V → Hp → Prop) : Prop := ∀ H1, Ex H H1 → ∀ Q : VK, (∀ v H2, Ex H1 H2 → R v H2 → Q v H2) → ∀ E : XK, sp vs H1 Q E
theorem ep_call {sp : Sp} {dvs vs : List V} {E : XK} {ta : TA} (h : EvA ta σ H vs) (hs : SpP sp (vs ++ dvs) H R) : EvP (tCall sp dvs E ta) σ H R := fun H1 e Q q =>
  h H1 e _ fun H2 e2 => hs H2 (e.trans e2) Q (fun v H3 e3 hr => q v H3 (e2.trans e3) hr) E
/-- the promise's usual end: some value of which R tells, what stood stands -/
def Ret (R : V → Hp → Prop) (H : Hp) (Q : VK) : Prop := ∀ v H2, Ex H H2 → R v H2 → Q v H2
theorem Ret.go {Q : VK} (k : Ret R H Q) {v : V} (e : Ex H H') (hr : R v H') : Q v H' := k v H' e hr
end

section
variable {K : PySem.W.Frag} {σ : L2.St} {H H' : Hp} {ta tb te tx : TE} {t u : TT} {x y z v : V} {r : R2}
theorem ev_I0 {g : Int → Int → V} {i j : Int} (ha : Ev ta σ H (.int i)) (hb : Ev tb σ H (.int j)) : Ev (tOp (rI0 g) ta tb) σ H (g i j) := ev_op ha hb rv_I0
theorem ev_I {C : Int → Int → Prop} {g : Int → Int → V} {i j : Int} (ha : Ev ta σ H (.int i)) (hb : Ev tb σ H (.int j)) (hc : C i j) : Ev (tOp (rI C g) ta tb) σ H (g i j) := ev_op ha hb (rv_I hc)
theorem ex_l' {a : Addr} {xs : List V} (h : SqL K H a xs) (e : Ex H H') : SqL K H' a xs := ex_l e h
theorem ex_t' {a : Addr} {xs : List V} (h : SqT K H a xs) (e : Ex H H') : SqT K H' a xs := ex_t e h
theorem ev_e9 (ha : Ev ta σ H (.int 10)) (hb : Ev tb σ H (.int 9)) : Ev (tOp (rI CPow fun i j => .int (i ^ j.toNat)) ta tb) σ H (.int 1000000000) := by
  have h := ev_op ha hb (rv_I (C := CPow) (g := fun i j => .int (i ^ j.toNat)) (H := H) (i := 10) (j := 9) ⟨by decide, by decide, by decide⟩)
  exact h
theorem ev_eq (ha : Ev ta σ H x) (hb : Ev tb σ H y) (hc : scal x y = true) : Ev (tOp rEq ta tb) σ H (.bl (decide (x = y))) := ev_op ha hb (rv_eq hc)
theorem ev_ne (ha : Ev ta σ H x) (hb : Ev tb σ H y) (hc : scal x y = true) : Ev (tOp rNe ta tb) σ H (.bl (!decide (x = y))) := ev_op ha hb (rv_ne hc)
theorem ev_neg {i : Int} (ha : Ev ta σ H (.int i)) : Ev (tUn (rU fun i => .int (-i)) ta) σ H (.int (-i)) := ev_un ha ru_neg
theorem ev_ixL {p : Addr} {xs : List V} {i : Int} (ha : Ev ta σ H (.ref p)) (h : SqL K H p xs) (hb : Ev tb σ H (.int i)) (hi : atI xs i = some v) : Ev (tOp (rIxL K) ta tb) σ H v := ev_op ha hb (rv_ixL h hi)
theorem ev_ixT {p : Addr} {xs : List V} {i : Int} (ha : Ev ta σ H (.ref p)) (h : SqT K H p xs) (hb : Ev tb σ H (.int i)) (hi : atI xs i = some v) : Ev (tOp (rIxT K) ta tb) σ H v := ev_op ha hb (rv_ixT h hi)
theorem ev_ixN {tA : TA} {xs : List V} {i : Int} (ha : EvA tA σ H xs) (hb : Ev tb σ H (.int i)) (hl : xs.length ≤ 100000) (hi : atI xs i = some v) : Ev (tOp (rIxL K) (tLst tA) tb) σ H v :=
  ev_opL1 (el_lst ha hl) (fun _ e => hb.mono e) fun _ _ hz _ => rv_ixL (sq_of hz) hi
theorem ev_ixS {w : Str} {i : Int} {c : Nat} (ha : Ev ta σ H (.str w)) (hb : Ev tb σ H (.int i)) (h : w.length ≤ 100000) (hi : atI w.cps.toList i = some c) : Ev (tOp rIxS ta tb) σ H (.str ⟨#[c]⟩) := ev_op ha hb (rv_ixS h hi)
theorem ev_inN {tA : TA} {xs : List V} (ha : Ev ta σ H x) (hb : EvA tA σ H xs) (hl : xs.length ≤ 100000) (hx : flatV x = true) (hf : xs.all flatV = true) : Ev (tOp (rIn K false) ta (tLst tA)) σ H (.bl (inV x xs)) :=
  ev_opL ha (el_lst hb hl) fun _ _ hz _ => rv_isL (sq_of hz) hx hf
theorem ev_inT {p : Addr} {xs : List V} (ha : Ev ta σ H x) (hb : Ev tb σ H (.ref p)) (h : SqT K H p xs) (hx : flatV x = true) (hf : xs.all flatV = true) : Ev (tOp (rIn K false) ta tb) σ H (.bl (inV x xs)) := ev_op ha hb (rv_isT h hx hf)
theorem ev_len' {p : Addr} {xs : List V} (ha : Ev ta σ H (.ref p)) (h : SqL K H p xs) : Ev (tCB (rLenS K) (tCons ta tNil)) σ H (.int (xs.length : Int)) := ev_len ha h
theorem ev_add (x y : Str) (ha : Ev ta σ H (.str x)) (hb : Ev tb σ H (.str y)) (h : x.length + y.length ≤ 100000) : Ev (tOp rAddT ta tb) σ H (.str (x ++ y)) :=
  ev_op ha hb (rv_val fun H1 _ Q q => ⟨x, y, rfl, rfl, sz_of h, q⟩)
theorem ev_repS {w : Str} {k : Int} (ha : Ev ta σ H (.str w)) (hb : Ev tb σ H (.int k)) (h : MulOk w k) : Ev (tOp rRepS ta tb) σ H (.str (Txt.mul w k)) :=
  ev_op ha hb (rv_val fun H1 _ Q q => ⟨w, k, rfl, rfl, h, q⟩)
end
/-! ### rows of a sheet -/
inductive Src where
  | thing (n : Int)
  | word (w : Str)
def Src.v : Src → V
  | .thing n => .int n
  | .word w => .str w
inductive Rw where
  | lend (h k : Str) (s : Src)
  | pick (w : Str) (ts : List Int)
  | either | or | again | fin
  | back (h : Str) | look (h : Str) | change (h : Str)
namespace Rw
def tag : Rw → Str
  | .lend _ _ _ => "lend" | .pick _ _ => "pick" | .either => "either" | .or => "or" | .again => "again" | .fin => "end"
  | .back _ => "back" | .look _ => "look" | .change _ => "change"
def opens : Rw → Bool
  | .lend _ _ _ => true | .pick _ _ => true | .either => true | .again => true | _ => false
def named : Rw → Bool
  | .lend _ _ _ => true | .pick _ _ => true | _ => false
def isLend : Rw → Bool
  | .lend _ _ _ => true | _ => false
def isFin : Rw → Bool
  | .fin => true | _ => false
def isOr : Rw → Bool
  | .or => true | _ => false
def isEither : Rw → Bool
  | .either => true | _ => false
def word : Rw → Str
  | .lend h _ _ => h | .pick w _ => w | .back h => h | .look h => h | .change h => h | _ => ""
def kind : Rw → Str
  | .lend _ k _ => k | _ => ""
end Rw
/-- the row stands in the heap -/
def IsRow (H : Hp) (v : V) : Rw → Prop
  | .lend h k s => ∃ p, v = .ref p ∧ H p = some (.tup [.str "lend", .str h, .str k, s.v])
  | .pick w ts => ∃ p q, v = .ref p ∧ H p = some (.tup [.str "pick", .str w, .ref q]) ∧ H q = some (.tup (ts.map V.int))
  | .either => ∃ p, v = .ref p ∧ H p = some (.tup [.str "either"])
  | .or => ∃ p, v = .ref p ∧ H p = some (.tup [.str "or"])
  | .again => ∃ p, v = .ref p ∧ H p = some (.tup [.str "again"])
  | .fin => ∃ p, v = .ref p ∧ H p = some (.tup [.str "end"])
  | .back h => ∃ p, v = .ref p ∧ H p = some (.tup [.str "back", .str h])
  | .look h => ∃ p, v = .ref p ∧ H p = some (.tup [.str "look", .str h])
  | .change h => ∃ p, v = .ref p ∧ H p = some (.tup [.str "change", .str h])
/-- what stays of tuples -/
def ExT (H H' : Hp) : Prop := ∀ a xs, H a = some (.tup xs) → H' a = some (.tup xs)
theorem ExT.of {H H' : Hp} (e : Ex H H') : ExT H H' := fun a xs h => e a _ h
theorem ExT.refl (H : Hp) : ExT H H := fun _ _ h => h
theorem ExT.trans {H H1 H2 : Hp} (a : ExT H H1) (b : ExT H1 H2) : ExT H H2 := fun x o h => b x o (a x o h)
theorem ExT.lst {H : Hp} {p : Addr} {xs ys : List V} (h : H p = some (.lst xs)) : ExT H (upd H p (.lst ys)) := fun a zs e => by
  rw [upd_ne (ne_of e h (fun q => nomatch q))]
  exact e
theorem IsRow.upT {H H' : Hp} {v : V} {r : Rw} (e : ExT H H') (h : IsRow H v r) : IsRow H' v r := by
  cases r with
  | pick w ts => obtain ⟨p, q, h1, h2, h3⟩ := h; exact ⟨p, q, h1, e _ _ h2, e _ _ h3⟩
  | _ => obtain ⟨p, h1, h2⟩ := h; exact ⟨p, h1, e _ _ h2⟩
theorem IsRow.up {H H' : Hp} {v : V} {r : Rw} (e : Ex H H') (h : IsRow H v r) : IsRow H' v r := h.upT (ExT.of e)
def Rows (H : Hp) (vs : List V) (rs : List Rw) : Prop := Paired (IsRow H) vs rs
theorem Rows.upT {H H' : Hp} (e : ExT H H') : ∀ {vs : List V} {rs : List Rw}, Rows H vs rs → Rows H' vs rs
  | _, _, .nil => .nil
  | _, _, .cons r t => .cons (r.upT e) (Rows.upT e t)
theorem Rows.up {H H' : Hp} (e : Ex H H') {vs : List V} {rs : List Rw} (h : Rows H vs rs) : Rows H' vs rs := h.upT (ExT.of e)
theorem Rows.len {H : Hp} {vs : List V} {rs : List Rw} (h : Rows H vs rs) : vs.length = rs.length := Paired.length h
theorem Rows.append {H : Hp} : ∀ {vs ws : List V} {rs ss : List Rw}, Rows H vs rs → Rows H ws ss → Rows H (vs ++ ws) (rs ++ ss)
  | _, _, _, _, .nil, s => s
  | _, _, _, _, .cons r t, s => .cons r (Rows.append t s)
theorem Rows.at {H : Hp} : ∀ {vs : List V} {rs : List Rw} {i : Nat} {x : V}, Rows H vs rs → vs[i]? = some x → ∃ r, rs[i]? = some r ∧ IsRow H x r
  | _, _, _, _, .nil, e => by simp at e
  | _, _, 0, _, .cons r _, e => by simp at e; subst e; exact ⟨_, rfl, r⟩
  | _, _, i + 1, x, .cons _ t, e => by
    obtain ⟨u, h1, h2⟩ := Rows.at (i := i) (x := x) t (by simpa using e)
    exact ⟨u, by simpa using h1, h2⟩
theorem Rows.get {H : Hp} {vs : List V} {rs : List Rw} {i : Nat} {r : Rw} (h : Rows H vs rs) (e : rs[i]? = some r) : ∃ x, vs[i]? = some x ∧ IsRow H x r := by
  have hi : i < vs.length := by
    rw [h.len]
    exact (List.getElem?_eq_some_iff.mp e).1
  obtain ⟨r', e', q⟩ := h.at (List.getElem?_eq_getElem hi)
  rw [e] at e'
  cases e'
  exact ⟨_, List.getElem?_eq_getElem hi, q⟩
theorem Rows.dropLast {H : Hp} : ∀ {vs : List V} {rs : List Rw}, Rows H vs rs → Rows H vs.dropLast rs.dropLast
  | _, _, .nil => .nil
  | _, _, .cons r .nil => .nil
  | _, _, .cons r (.cons r2 t) => .cons r (Rows.dropLast (.cons r2 t))
theorem Rows.take {H : Hp} : ∀ {vs : List V} {rs : List Rw} (n : Nat), Rows H vs rs → Rows H (vs.take n) (rs.take n)
  | _, _, 0, _ => .nil
  | _, _, _ + 1, .nil => .nil
  | _, _, n + 1, .cons r t => .cons r (Rows.take n t)
/-- the tuple of a row, from its tag on -/
theorem IsRow.tup {H : Hp} {v : V} {r : Rw} (h : IsRow H v r) : ∃ p xs, v = .ref p ∧ H p = some (.tup (.str r.tag :: xs)) := by
  cases r with
  | pick w ts => obtain ⟨p, q, h1, h2, _⟩ := h; exact ⟨p, _, h1, h2⟩
  | _ => obtain ⟨p, h1, h2⟩ := h; exact ⟨p, _, h1, h2⟩
/-- a list of rows at an address, a row given back -/
def LRows (rs : List Rw) : V → Hp → Prop := fun v H => ∃ p vs, v = .ref p ∧ H p = some (.lst vs) ∧ Rows H vs rs
def ARow (r : Rw) : V → Hp → Prop := fun v H => IsRow H v r
theorem at_get {xs : List V} {i : Int} (h0 : 0 ≤ i) (h1 : i < xs.length) : atI xs i = some (xs.getD i.toNat .non) := by
  have e : i = ((i.toNat : Nat) : Int) := by omega
  have h2 : i.toNat < xs.length := by omega
  rw [e]
  refine atI_nat ?_
  rw [List.getElem?_eq_getElem h2, Int.toNat_natCast, List.getD_eq_getElem?_getD, List.getElem?_eq_getElem h2]
  rfl
theorem atI_hd {v : V} {xs : List V} : atI (v :: xs) 0 = some v := atI_nat (j := 0) rfl
theorem at_strs (l : List Str) {i : Int} (h0 : 0 ≤ i) (h1 : i < l.length) : atI (l.map V.str) i = some (.str (l.getD i.toNat "")) := by
  have e : i = ((i.toNat : Nat) : Int) := by omega
  have h2 : i.toNat < l.length := by omega
  rw [e]
  refine atI_nat ?_
  rw [List.getElem?_map, List.getElem?_eq_getElem h2, Int.toNat_natCast, List.getD_eq_getElem?_getD, List.getElem?_eq_getElem h2]
  rfl
theorem at_ints (l : List Int) {i : Int} (h0 : 0 ≤ i) (h1 : i < l.length) : atI (l.map V.int) i = some (.int (l.getD i.toNat 0)) := by
  have e : i = ((i.toNat : Nat) : Int) := by omega
  have h2 : i.toNat < l.length := by omega
  rw [e]
  refine atI_nat ?_
  rw [List.getElem?_map, List.getElem?_eq_getElem h2, Int.toNat_natCast, List.getD_eq_getElem?_getD, List.getElem?_eq_getElem h2]
  rfl
/-! ### rows made -/
section
variable {K : PySem.W.Frag} {σ : L2.St} {H H' : Hp} {ta tb te tr tw tt : TE} {r : Rw} {rs ss : List Rw}
theorem er_nil : EvAP tNil σ H (fun vs H2 => Rows H2 vs []) := fun H1 _ _ q => q [] H1 (Ex.refl H1) .nil
theorem er_cons {tr : TA} (h : EvP te σ H (ARow r)) (h2 : EvAP tr σ H (fun vs H2 => Rows H2 vs rs)) : EvAP (tCons te tr) σ H (fun vs H2 => Rows H2 vs (r :: rs)) := fun H1 e _ q =>
  h H1 e _ fun v H2 e2 hv => h2 H2 (e.trans e2) _ fun vs H3 e3 hvs => q _ H3 (e2.trans e3) (.cons (IsRow.up e3 hv) hvs)
theorem elr_lst {ta : TA} (h : EvAP ta σ H (fun vs H2 => Rows H2 vs rs)) (hl : rs.length ≤ 100000) : EvP (tLst ta) σ H (LRows rs) := fun H1 e _ q =>
  h H1 e _ fun vs H2 e2 hv => ⟨sz_of (by rw [hv.len]; exact hl), fun p hp => q _ _ (e2.trans (Ex.new hp)) ⟨p, vs, rfl, upd_same, hv.up (Ex.new hp)⟩⟩
theorem LRows.up {v : V} (e : Ex H H') (h : LRows rs v H) : LRows rs v H' := by
  obtain ⟨p, vs, h1, h2, h3⟩ := h
  exact ⟨p, vs, h1, e _ _ h2, h3.up e⟩
theorem elr_cat (ha : EvP ta σ H (LRows rs)) (hb : EvP tb σ H (LRows ss)) (hl : rs.length + ss.length ≤ 100000) : EvP (tOp rCat ta tb) σ H (LRows (rs ++ ss)) := fun H1 e Q q =>
  ha H1 e _ fun v H2 e2 hv => hb H2 (e.trans e2) _ fun u H3 e3 hu => by
    obtain ⟨p, vs, rfl, h1, h2⟩ := hv
    obtain ⟨p', us, rfl, h3, h4⟩ := hu
    refine ⟨p, p', vs, us, rfl, rfl, e3 _ _ h1, h3, sz_of (by rw [h2.len, h4.len]; exact hl), fun z hz => q _ _ (e2.trans (e3.trans (Ex.new hz))) ⟨z, _, rfl, upd_same, Rows.append ((h2.up e3).up (Ex.new hz)) (h4.up (Ex.new hz))⟩⟩
theorem er_var {i : Nat} {v : V} (h : σ[i]? = some (some v)) (hr : IsRow H v r) : EvP (tVar i) σ H (ARow r) := fun H1 e Q q => ⟨v, h, q v H1 (Ex.refl H1) (hr.up e)⟩
theorem elr_var {i : Nat} {v : V} (h : σ[i]? = some (some v)) (hr : LRows rs v H) : EvP (tVar i) σ H (LRows rs) := fun H1 e Q q => ⟨v, h, q v H1 (Ex.refl H1) (hr.up e)⟩
theorem er_tup {ta : TA} {xs : List V} (h : EvA ta σ H xs) (hl : xs.length ≤ 100000) (k : ∀ p H2, H2 p = some (.tup xs) → IsRow H2 (.ref p) r) : EvP (tTup ta) σ H (ARow r) := fun H1 e _ q =>
  h H1 e _ fun H2 e2 => ⟨sz_of hl, fun p hp => q _ _ (e2.trans (Ex.new hp)) (k p _ upd_same)⟩
theorem er_lendT {ta : TA} {h k : Str} {n : Int} (a : EvA ta σ H [.str "lend", .str h, .str k, .int n]) : EvP (tTup ta) σ H (ARow (.lend h k (.thing n))) := er_tup a (Nat.le_of_ble_eq_true rfl) fun p _ e => ⟨p, rfl, e⟩
theorem er_lendW {ta : TA} {h k : Str} {n : Str} (a : EvA ta σ H [.str "lend", .str h, .str k, .str n]) : EvP (tTup ta) σ H (ARow (.lend h k (.word n))) := er_tup a (Nat.le_of_ble_eq_true rfl) fun p _ e => ⟨p, rfl, e⟩
theorem er_either {ta : TA} (a : EvA ta σ H [.str "either"]) : EvP (tTup ta) σ H (ARow .either) := er_tup a (Nat.le_of_ble_eq_true rfl) fun p _ e => ⟨p, rfl, e⟩
theorem er_or {ta : TA} (a : EvA ta σ H [.str "or"]) : EvP (tTup ta) σ H (ARow .or) := er_tup a (Nat.le_of_ble_eq_true rfl) fun p _ e => ⟨p, rfl, e⟩
theorem er_again {ta : TA} (a : EvA ta σ H [.str "again"]) : EvP (tTup ta) σ H (ARow .again) := er_tup a (Nat.le_of_ble_eq_true rfl) fun p _ e => ⟨p, rfl, e⟩
theorem er_fin {ta : TA} (a : EvA ta σ H [.str "end"]) : EvP (tTup ta) σ H (ARow .fin) := er_tup a (Nat.le_of_ble_eq_true rfl) fun p _ e => ⟨p, rfl, e⟩
theorem er_back {ta : TA} {h : Str} (a : EvA ta σ H [.str "back", .str h]) : EvP (tTup ta) σ H (ARow (.back h)) := er_tup a (Nat.le_of_ble_eq_true rfl) fun p _ e => ⟨p, rfl, e⟩
theorem er_look {ta : TA} {h : Str} (a : EvA ta σ H [.str "look", .str h]) : EvP (tTup ta) σ H (ARow (.look h)) := er_tup a (Nat.le_of_ble_eq_true rfl) fun p _ e => ⟨p, rfl, e⟩
theorem er_change {ta : TA} {h : Str} (a : EvA ta σ H [.str "change", .str h]) : EvP (tTup ta) σ H (ARow (.change h)) := er_tup a (Nat.le_of_ble_eq_true rfl) fun p _ e => ⟨p, rfl, e⟩
theorem er_pick {tt : TA} {w : Str} {vs : List V} {ts : List Int} (a : Ev tw σ H (.str w)) (b : EvA tt σ H vs) (e : vs = ts.map V.int) (hl : vs.length ≤ 100000) : EvP (tTup (tCons (tC (.str "pick")) (tCons tw (tCons (tTup tt) tNil)))) σ H (ARow (.pick w ts)) := fun H1 e1 _ q =>
  a H1 e1 _ fun H2 e2 => b H2 (e1.trans e2) _ fun H3 e3 => ⟨sz_of hl, fun y hy => ⟨by show 3 ≤ sizeLine; decide, fun x hx => q _ _ (((e2.trans e3).trans (Ex.new hy)).trans (Ex.new hx)) ⟨x, y, rfl, upd_same, by
    subst e
    exact Ex.new hx _ _ upd_same⟩⟩⟩
end
def rTupS (K : PySem.W.Frag) : List V → Hp → VK → Prop := fun xs H Q => ∃ p ys, xs = [.ref p] ∧ ((SqL K H p ys ∧ ∀ l, H l = none → Q (.ref l) (upd H l (.tup ys))) ∨ (SqT K H p ys ∧ Q (.ref p) H))
section
variable {K : PySem.W.Frag} {σ : L2.St} {H H' : Hp} {ta tb te tr tw tl : TE} {t : TT} {r : Rw} {rs ss : List Rw}
theorem eu_tuple {xs : List V} (h : EvL ta σ H xs) : EvU (tCB (rTupS K) (tCons ta tNil)) σ H xs := fun H1 e Q q =>
  h H1 e _ fun p H2 hp e2 h2 => ⟨p, xs, rfl, .inl ⟨sq_of h2, fun l hl => q l _ (fresh_back e2 hl) (e2.trans (Ex.new hl)) upd_same⟩⟩
theorem et_yes : EvT tYes σ H true := fun H1 _ Q q => q H1 (Ex.refl H1)
theorem er_pickV {ta : TA} {w : Str} {q : Addr} {ts : List Int} (a : EvA ta σ H [.str "pick", .str w, .ref q]) (hq : H q = some (.tup (ts.map V.int))) : EvP (tTup ta) σ H (ARow (.pick w ts)) := fun H1 e1 _ k =>
  a H1 e1 _ fun H2 e2 => ⟨by show 3 ≤ sizeLine; decide, fun x hx => k _ _ (e2.trans (Ex.new hx)) ⟨x, q, rfl, upd_same, (Ex.new hx) _ _ ((e1.trans e2) _ _ hq)⟩⟩
theorem ev_tag {i : Nat} {x : V} (h : σ[i]? = some (some x)) (hr : IsRow H x r) : Ev (tOp (rIxT K) (tVar i) (tC (.int 0))) σ H (.str r.tag) := by
  obtain ⟨p, xs, rfl, hp⟩ := hr.tup
  exact ev_ixT (ev_var h) (st_of hp) ev_c (atI_nat (j := 0) rfl)
theorem given_rows {f : Nat → Bool} {v : Nat → V} {p : Rw → Bool} {vs : List V} (hR : Rows H vs rs) (hf : ∀ i r, rs[i]? = some r → f i = p r) (hv : ∀ i x, vs[i]? = some x → v i = x) : ∀ n, n ≤ rs.length → Rows H (given n f v) ((rs.take n).filter p)
  | 0, _ => .nil
  | n + 1, h => by
    have hn : n < rs.length := h
    obtain ⟨x, hx, hX⟩ := hR.get (List.getElem?_eq_getElem hn)
    have ih := given_rows hR hf hv n (by omega)
    have e1 : f n = p rs[n] := hf n _ (List.getElem?_eq_getElem hn)
    rw [List.take_add_one, List.getElem?_eq_getElem hn, List.filter_append]
    cases hp : p rs[n] with
    | true =>
      rw [given_yes (by rw [e1, hp]), hv n x hx]
      refine Rows.append ih ?_
      rw [show (some rs[n]).toList = [rs[n]] from rfl, List.filter_cons, if_pos hp]
      exact .cons hX .nil
    | false =>
      rw [given_no (by rw [e1, hp])]
      rw [show (some rs[n]).toList = [rs[n]] from rfl, List.filter_cons, if_neg (by rw [hp]; decide)]
      show Rows H _ (_ ++ [])
      rw [List.append_nil]
      exact ih
/-- [x for x in rows if p x] -/
theorem elr_filter {a : Addr} {vs : List V} {j : Nat} {ws : List Nat} {p : Rw → Bool} (h : Ev tl σ H (.ref a)) (hx : SqL K H a vs) (hR : Rows H vs rs) (hz : vs.length ≤ 40000) (hw : ∀ x, wipe ((wipe σ ws).set j (some x)) ws = wipe σ ws)
    (ht : ∀ x r H1, Ex H H1 → IsRow H1 x r → EvT t ((wipe σ ws).set j (some x)) H1 (p r)) (hj : ∀ x, ((wipe σ ws).set j (some x))[j]? = some (some x)) :
    ∃ us, EvL (tLc (iList K tl) (gName j) t (tVar j) ws) σ H us ∧ Rows H us (rs.filter p) := by
  have hl := hR.len
  refine ⟨given vs.length (fun i => p (rs.getD i .fin)) (fun i => vs.getD i .non), el_lcL _ _ h hx hz hw (fun i x H1 e hi => ?_) (fun i x H1 e hi _ => ?_), ?_⟩
  · obtain ⟨r, hr, hX⟩ := hR.at hi
    rw [List.getD_eq_getElem?_getD, hr]
    exact ht x r H1 e (hX.up e)
  · rw [List.getD_eq_getElem?_getD, hi]
    exact ev_var (hj x)
  · have := given_rows (f := fun i => p (rs.getD i .fin)) (v := fun i => vs.getD i .non) (p := p) hR (fun i r hr => by rw [List.getD_eq_getElem?_getD, hr]; rfl) (fun i x hx => by rw [List.getD_eq_getElem?_getD, hx]; rfl) rs.length (Nat.le_refl _)
    rw [List.take_length] at this
    rw [hl]
    exact this
end
section
variable {K : PySem.W.Frag} {σ : L2.St} {H H' : Hp} {ta tb te tr tw tl : TE} {t : TT} {r : Rw} {rs ss : List Rw} {D : Ends} {tz : TS}
theorem epl_filter (p : Rw → Bool) {a : Addr} {vs : List V} {j : Nat} {ws : List Nat} (h : Ev tl σ H (.ref a)) (hx : SqL K H a vs) (hR : Rows H vs rs) (hz : vs.length ≤ 40000) (hw : ∀ x, wipe ((wipe σ ws).set j (some x)) ws = wipe σ ws)
    (ht : ∀ x r H1, Ex H H1 → IsRow H1 x r → EvT t ((wipe σ ws).set j (some x)) H1 (p r)) (hj : ∀ x, ((wipe σ ws).set j (some x))[j]? = some (some x)) :
    EvPL (tLc (iList K tl) (gName j) t (tVar j) ws) σ H (fun us H2 => Rows H2 us (rs.filter p)) := fun H1 e Q q => by
  obtain ⟨us, h1, h2⟩ := elr_filter h hx hR hz hw ht hj
  exact h1 H1 e Q fun p H2 hp e2 hq => q p us H2 hp e2 hq (h2.up (e.trans e2))
theorem q_asgPL {i : Nat} {R : List V → Hp → Prop} (h : EvPL te σ H R) (k : ∀ p us H1, H p = none → Ex H H1 → H1 p = some (.lst us) → R us H1 → tz D (σ.set i (some (.ref p))) H1) : tSeq (tAsg te (gName i)) tz D σ H :=
  h H (Ex.refl H) _ fun p us H1 hp e h1 hr => k p us H1 hp e h1 hr
end
section
variable {K : PySem.W.Frag} {σ : L2.St} {H H' : Hp} {ta tb te tr tw tl : TE} {t : TT} {r : Rw} {rs ss : List Rw} {D : Ends} {tz : TS}
theorem s_asgPL {i : Nat} {R : List V → Hp → Prop} (h : EvPL te σ H R) (k : ∀ p us H1, H p = none → Ex H H1 → H1 p = some (.lst us) → R us H1 → D.nx (σ.set i (some (.ref p))) H1) : tAsg te (gName i) D σ H :=
  h H (Ex.refl H) _ fun p us H1 hp e h1 hr => k p us H1 hp e h1 hr
theorem elr_catL (ha : EvP ta σ H (LRows rs)) (hb : EvP tb σ H (LRows ss)) (hl : rs.length + ss.length ≤ 100000) : EvPL (tOp rCat ta tb) σ H (fun us H2 => Rows H2 us (rs ++ ss)) := fun H1 e Q q =>
  ha H1 e _ fun v H2 e2 hv => hb H2 (e.trans e2) _ fun u H3 e3 hu => by
    obtain ⟨p, vs, rfl, h1, h2⟩ := hv
    obtain ⟨p', us, rfl, h3, h4⟩ := hu
    refine ⟨p, p', vs, us, rfl, rfl, e3 _ _ h1, h3, sz_of (by rw [h2.len, h4.len]; exact hl), fun z hz => q z _ _ (fresh_back (e2.trans e3) hz) (e2.trans (e3.trans (Ex.new hz))) upd_same (Rows.append ((h2.up e3).up (Ex.new hz)) (h4.up (Ex.new hz)))⟩
theorem ep_PL {rs : List Rw} (h : EvPL te σ H (fun us H2 => Rows H2 us rs)) : EvP te σ H (LRows rs) := fun H1 e Q q => h H1 e Q fun p us H2 _ e2 h2 hr => q _ H2 e2 ⟨p, us, rfl, h2, hr⟩
theorem s_pop {l : Addr} {xs : List V} (hl : H l = some (.lst xs)) (ha : Ev ta σ H (.ref l)) (hz : 0 < xs.length) (k : ∀ H1, Ex H H1 → D.nx σ (upd H1 l (.lst xs.dropLast))) : tDrop (tBM0 K "list" rPop ta) D σ H := ha H (Ex.refl H) _ fun H1 e1 =>
  ⟨Or.inl ⟨rfl, xs, sq_of (e1 l _ hl)⟩, l, xs, xs[xs.length - 1]'(by omega), rfl, rfl, e1 l _ hl, List.getElem?_eq_getElem (by omega), k H1 e1⟩
theorem q_pop {l : Addr} {xs : List V} (hl : H l = some (.lst xs)) (ha : Ev ta σ H (.ref l)) (hz : 0 < xs.length) (k : ∀ H1, Ex H H1 → tz D σ (upd H1 l (.lst xs.dropLast))) : tSeq (tDrop (tBM0 K "list" rPop ta)) tz D σ H := s_pop (D := { D with nx := tz D }) hl ha hz k
/-- [row for x in xs], a new row each -/
theorem epl_map {a : Addr} {xs : List V} {j : Nat} {ws : List Nat} (g : Nat → Rw) (h : Ev tl σ H (.ref a)) (hx : SqL K H a xs) (hz : xs.length ≤ 40000) (hw : ∀ x, wipe ((wipe σ ws).set j (some x)) ws = wipe σ ws)
    (he : ∀ i x H1, Ex H H1 → xs[i]? = some x → EvP te ((wipe σ ws).set j (some x)) H1 (ARow (g i))) : EvPL (tLc (iList K tl) (gName j) tYes te ws) σ H (fun us H2 => Rows H2 us ((List.range xs.length).map g)) := fun H0 e Q q => h H0 e _ fun H1 e1 => ⟨a, rfl, ⟨xs, ex_l (e.trans e1) hx⟩, fun Dl hD =>
  lc_list (K := K) (a := a) (xs := xs) (fun i H' => H1 Dl = none ∧ Ex H1 H' ∧ ∃ acc, H' Dl = some (.lst acc) ∧ Rows H' acc ((List.range i).map g)) ⟨hD, Ex.new hD, [], upd_same, .nil⟩ (fun i H' _ p => ex_l ((e.trans e1).trans p.2.1) hx)
    (fun i x H' hi p => ⟨hw x, by
      obtain ⟨p1, p2, acc, p3, p4⟩ := p
      have hil : i < xs.length := (List.getElem?_eq_some_iff.mp hi).1
      have hal : acc.length = i := by rw [p4.len, List.length_map, List.length_range]
      show te ((wipe σ ws).set j (some x)) H' fun y H4 => ∃ acc, H4 Dl = some (.lst acc) ∧ acc.length < sizeLine ∧ (H1 Dl = none ∧ Ex H1 (upd H4 Dl (.lst (acc ++ [y]))) ∧ ∃ acc2, (upd H4 Dl (.lst (acc ++ [y]))) Dl = some (.lst acc2) ∧ Rows (upd H4 Dl (.lst (acc ++ [y]))) acc2 ((List.range (i + 1)).map g))
      refine he i x H' ((e.trans e1).trans p2) hi H' (Ex.refl H') _ fun y H4 e4 hy => ⟨acc, e4 _ _ p3, sz_lt (by omega), p1, Ex.mut (p2.trans e4) p1, acc ++ [y], upd_same, ?_⟩
      have x4 : ExT H4 (upd H4 Dl (.lst (acc ++ [y]))) := ExT.lst (e4 _ _ p3)
      rw [List.range_succ, List.map_append]
      exact Rows.append ((p4.up e4).upT x4) (.cons (IsRow.upT x4 hy) .nil)⟩) (fun H' p => by
      obtain ⟨p1, p2, acc, p3, p4⟩ := p
      exact q Dl acc H' (fresh_back e1 p1) (e1.trans p2) p3 p4)⟩
end
section
variable {K : PySem.W.Frag} {σ : L2.St} {H H' : Hp} {ta tb te tr tw tl : TE} {t : TT} {r : Rw} {rs ss : List Rw} {D : Ends} {tz tu : TS}
/-- for i, x in enumerate(xs) -/
theorem q_forE {a : Addr} {xs : List V} {j k : Nat} (h : Ev tl σ H (.ref a)) (hx : SqL K H a xs) (Pv : Nat → L2.St → Hp → Prop) (h0 : ∀ H1, Ex H H1 → Pv 0 σ H1) (hl : ∀ i σ' H', i ≤ xs.length → Pv i σ' H' → SqL K H' a xs)
    (hs : ∀ (i : Nat) x σ' H' H2, xs[i]? = some x → Pv i σ' H' → Ex H' H2 → tu { D with nx := Pv (i + 1), ct := Pv (i + 1), bk := tz D } ((σ'.set j (some (.int (i : Int)))).set k (some x)) H2) (hd : ∀ σ' H', Pv xs.length σ' H' → tz D σ' H') :
    tSeq (tFor (iEnum K (tCons tl tNil)) (gTup K 2 (gCons (gName j) (gCons (gName k) gNil))) tu) tz D σ H :=
  h H (Ex.refl H) _ fun H1 e => ⟨a, xs, rfl, ex_l e hx, for_it (D := { D with nx := tz D }) walk_enum Pv (h0 H1 e) hl (fun i v σ' H' H2 hi p y => by
    obtain ⟨T, x1, x2, rfl, hT, rfl, e1, e2⟩ := y
    cases e1
    exact ⟨T, [.int (i : Int), x2], rfl, SqT.of upd_same, rfl, _, _, rfl, _, _, rfl, rfl, hs i x2 σ' H' _ e2 p (Ex.new hT)⟩) hd⟩
theorem q_forEN {xs : List V} {j k : Nat} (h : EvL tl σ H xs) (Pv : Addr → Nat → L2.St → Hp → Prop) (h0 : ∀ p H1, H p = none → Ex H H1 → H1 p = some (.lst xs) → Pv p 0 σ H1) (hl : ∀ p i σ' H', i ≤ xs.length → Pv p i σ' H' → SqL K H' p xs)
    (hs : ∀ p (i : Nat) x σ' H' H2, xs[i]? = some x → Pv p i σ' H' → Ex H' H2 → tu { D with nx := Pv p (i + 1), ct := Pv p (i + 1), bk := tz D } ((σ'.set j (some (.int (i : Int)))).set k (some x)) H2) (hd : ∀ p σ' H', Pv p xs.length σ' H' → tz D σ' H') :
    tSeq (tFor (iEnum K (tCons tl tNil)) (gTup K 2 (gCons (gName j) (gCons (gName k) gNil))) tu) tz D σ H :=
  h H (Ex.refl H) _ fun p H1 hp e h1 => ⟨p, xs, rfl, sq_of h1, for_it (D := { D with nx := tz D }) walk_enum (Pv p) (h0 p H1 hp e h1) (hl p) (fun i v σ' H' H2 hi q y => by
    obtain ⟨T, x1, x2, rfl, hT, rfl, e1, e2⟩ := y
    cases e1
    exact ⟨T, [.int (i : Int), x2], rfl, SqT.of upd_same, rfl, _, _, rfl, _, _, rfl, rfl, hs p i x2 σ' H' _ e2 q (Ex.new hT)⟩) (hd p)⟩
end
theorem given_all (n : Nat) (v : Nat → V) : given n (fun _ => true) v = (List.range n).map v := by
  unfold given
  rw [List.filter_eq_self.mpr (fun _ _ => rfl)]
theorem tag_named (r : Rw) : inV (.str r.tag) [V.str "lend", V.str "pick"] = r.named := by cases r <;> rfl
theorem tag_opens (r : Rw) : inV (.str r.tag) [V.str "lend", V.str "pick", V.str "either", V.str "again"] = r.opens := by cases r <;> rfl
theorem tag_lend (r : Rw) : decide (V.str r.tag = V.str "lend") = r.isLend := by cases r <;> rfl
theorem tag_fin (r : Rw) : decide (V.str r.tag = V.str "end") = r.isFin := by cases r <;> rfl
theorem tag_or (r : Rw) : decide (V.str r.tag = V.str "or") = r.isOr := by cases r <;> rfl
theorem tag_either (r : Rw) : decide (V.str r.tag = V.str "either") = r.isEither := by cases r <;> rfl
theorem rows_last {H : Hp} {vs : List V} {rs : List Rw} (h : Rows H vs rs) (h1 : 0 < vs.length) : ∃ x, atI vs (-1) = some x ∧ IsRow H x (rs.getD (rs.length - 1) .fin) := by
  have hl := h.len
  have h2 : rs.length - 1 < rs.length := by omega
  obtain ⟨x, hx, hr⟩ := h.get (List.getElem?_eq_getElem h2)
  have hne : vs ≠ [] := fun z => by
    subst z
    simp at h1
  refine ⟨x, ?_, ?_⟩
  · have e : vs = vs.dropLast ++ [x] := by
      have h3 := List.dropLast_concat_getLast hne
      have h4 : vs.getLast hne = x := by
        rw [List.getLast_eq_getElem]
        have := (List.getElem?_eq_some_iff.mp hx).2
        rw [← this]
        congr 1
        omega
      rw [h4] at h3
      exact h3.symm
    rw [e]
    exact atI_last _ _
  · rw [List.getD_eq_getElem?_getD, List.getElem?_eq_getElem h2]
    exact hr
/-! ### menus -/
def kindM (x : Int) : Str := if x % 2 = 0 then "read" else "write"
def pick2 {α : Type} (x : Int) (a b : α) : α := if x % 2 = 0 then a else b
def pick3 {α : Type} (x : Int) (a b c : α) : α := if x % 3 = 0 then a else if x % 3 = 1 then b else c
theorem at_nat' {xs : List V} {z : Int} (j : Nat) {v : V} (e : z = (j : Int)) (h : xs[j]? = some v) : atI xs z = some v := by
  rw [e]
  exact atI_nat h
theorem at_kind {x : Int} : atI [V.str "read", V.str "write"] (x % 2) = some (V.str (kindM x)) := by
  unfold kindM
  by_cases h : x % 2 = 0
  · rw [if_pos h]; exact at_nat' 0 (by omega) rfl
  · rw [if_neg h]; exact at_nat' 1 (by omega) rfl
theorem at2s {a b : Str} {x : Int} : atI [V.str a, V.str b] (x % 2) = some (V.str (pick2 x a b)) := by
  unfold pick2
  by_cases h : x % 2 = 0
  · rw [if_pos h]; exact at_nat' 0 (by omega) rfl
  · rw [if_neg h]; exact at_nat' 1 (by omega) rfl
theorem at3s {a b c : Str} {x : Int} : atI [V.str a, V.str b, V.str c] (x % 3) = some (V.str (pick3 x a b c)) := by
  unfold pick3
  by_cases h : x % 3 = 0
  · rw [if_pos h]; exact at_nat' 0 (by omega) rfl
  · rw [if_neg h]
    by_cases h2 : x % 3 = 1
    · rw [if_pos h2]; exact at_nat' 1 (by omega) rfl
    · rw [if_neg h2]; exact at_nat' 2 (by omega) rfl
theorem at3i {a b c : Int} {x : Int} : atI [V.int a, V.int b, V.int c] (x % 3) = some (V.int (pick3 x a b c)) := by
  unfold pick3
  by_cases h : x % 3 = 0
  · rw [if_pos h]; exact at_nat' 0 (by omega) rfl
  · rw [if_neg h]
    by_cases h2 : x % 3 = 1
    · rw [if_pos h2]; exact at_nat' 1 (by omega) rfl
    · rw [if_neg h2]; exact at_nat' 2 (by omega) rfl
theorem dp_ints {K : PySem.W.Frag} {H : Hp} : ∀ ns : List Int, DpAll K H (ns.map V.int) (ns.map PyData.int)
  | [] => .nil
  | n :: r => .cons (.int n) (dp_ints r)
end BD
namespace BD
open PySem PySem.Spec PyProof.Rows L2 Evl
def topS (i : Nat) : Stmt := PySem.Challenge.pw_borrowdesk_k08_whole_shown.main.body.getD i (.Pass ⟨0, 0, 0, 0⟩)
local macro_rules | `(tactic| walk_at "ev") => `(tactic| first
  | ((with_reducible apply ev_var) ; rfl)
  | with_reducible exact ev_c
  | ((with_reducible apply ev_I0) <;> walk_at "ev")
  | ((with_reducible apply ev_e9) <;> walk_at "ev")
  | ((with_reducible apply ev_I) <;> walk_at "ev")
  | ((with_reducible apply ev_eq) <;> walk_at "ev")
  | ((with_reducible apply ev_ne) <;> walk_at "ev")
  | ((with_reducible apply ev_neg) <;> walk_at "ev")
  | ((with_reducible apply ev_ixN) <;> walk_at "ev")
  | ((with_reducible apply ev_ixL) <;> walk_at "ev")
  | ((with_reducible apply ev_inN) <;> walk_at "ev")
  | ((with_reducible apply ev_inT) <;> walk_at "ev")
  | ((with_reducible apply ev_ixT) <;> walk_at "ev")
  | ((with_reducible apply ev_ixS) <;> walk_at "ev")
  | ((with_reducible apply ev_len') <;> walk_at "ev")
  | ((with_reducible apply et_test) <;> walk_at "ev")
  | ((with_reducible apply et_and) <;> walk_at "ev")
  | ((with_reducible apply et_or) <;> walk_at "ev")
  | ((with_reducible apply et_not) <;> walk_at "ev")
  | ((with_reducible apply et_B) <;> walk_at "ev")
  | ((with_reducible apply el_lst) <;> walk_at "ev")
  | ((with_reducible apply eu_tup) <;> walk_at "ev")
  | ((with_reducible apply ea_cons) <;> walk_at "ev")
  | with_reducible exact ea_nil
  | with_reducible assumption
  | ((with_reducible apply ex_l' ; assumption) ; walk_at "ex")
  | ((with_reducible apply ex_t' ; assumption) ; walk_at "ex")
  | (intro _ ; walk_at "ev")
  | (with_reducible first | exact atI_hd | exact at_kind | exact at2s | exact at3s | exact at3i)
  | (first | exact rfl | exact Nat.le_of_ble_eq_true rfl | exact ⟨by decide, by decide⟩ | decide | exact Or.inl ⟨by omega, by omega⟩ | exact Or.inr ⟨by omega, by omega⟩ | omega)
  | skip)
local macro_rules | `(tactic| walk_at "ex") => `(tactic| first
  | assumption
  | exact Ex.refl _
  | (refine' Ex.trans ?_ (by assumption) ; walk_at "ex"))
local macro_rules | `(tactic| walk_at "row") => `(tactic| first
  | (with_reducible exact er_nil)
  | ((with_reducible apply er_cons) <;> walk_at "row")
  | (((with_reducible apply er_var) ; rfl) ; walk_at "isrow")
  | (((with_reducible apply elr_var) ; rfl) ; walk_at "isrow")
  | ((with_reducible apply elr_cat) <;> walk_at "row")
  | ((with_reducible apply elr_lst) <;> walk_at "row")
  | ((with_reducible apply er_fin) <;> walk_at "ev")
  | ((with_reducible apply er_lendT) <;> walk_at "ev")
  | ((with_reducible apply er_lendW) <;> walk_at "ev")
  | ((with_reducible apply er_pick) <;> walk_at "ev")
  | ((with_reducible apply er_either) <;> walk_at "ev")
  | ((with_reducible apply er_or) <;> walk_at "ev")
  | ((with_reducible apply er_again) <;> walk_at "ev")
  | ((with_reducible apply er_back) <;> walk_at "ev")
  | ((with_reducible apply er_look) <;> walk_at "ev")
  | ((with_reducible apply er_change) <;> walk_at "ev")
  | exact Nat.le_of_ble_eq_true rfl
  | skip)
local macro_rules | `(tactic| walk_at "isrow") => `(tactic| first
  | assumption
  | (refine IsRow.up ?_ (by assumption) ; walk_at "ex")
  | (refine LRows.up ?_ (by assumption) ; walk_at "ex"))

abbrev s_l_cell_at : Stmt := topS 58
theorem sc_l_cell_at : FnScope ["_law_script", "_law_k"] ["_law_script", "_law_k"] (defScope s_l_cell_at) := ⟨rfl, rfl, rfl, by decide +kernel, rfl, by decide +kernel, by decide +kernel⟩
abbrev s_l_thing : Stmt := topS 61
theorem sc_l_thing : FnScope ["_law_cell", "_law_base"] ["_law_cell", "_law_base"] (defScope s_l_thing) := ⟨rfl, rfl, rfl, by decide +kernel, rfl, by decide +kernel, by decide +kernel⟩
abbrev s_l_draw : Stmt := topS 60
theorem sc_l_draw : FnScope ["_law_script", "_law_base", "_law_style", "_law_size"] ["_law_script"] (defScope s_l_draw) := ⟨rfl, rfl, rfl, by decide +kernel, rfl, by decide +kernel, by decide +kernel⟩
section
variable {P : Program} {w : World} {K : PySem.W.Frag} {mg : Str → Option Value} {base : Heap}
def cellM (ns : List Int) (k : Int) : Int := ns.getD k.toNat 0
def spCell (K : PySem.W.Frag) : Sp := fun vs H Q _ => ∃ (a : Addr) (ns : List Int) (k : Int), vs = [.ref a, .int k] ∧ SqL K H a (ns.map V.int) ∧ 0 ≤ k ∧ RetV (.int (cellM ns k)) H Q
theorem ok_cell (D : Dn K mg "_law_cell_at" s_l_cell_at ["_law_script", "_law_k"]) (T : Blt mg) : Has P w K mg base "_law_cell_at" 1 ["_law_script", "_law_k"] (spCell K) := by
  refine D.ok sc_l_cell_at (fun vs H Q E h => ?_) (fun f cdv A outer s H vs Q E hr h => ?_)
  · obtain ⟨a, ns, k, rfl, _⟩ := h
    rfl
  · obtain ⟨a, ns, k, rfl, hS, h0, q⟩ := h
    refine ⟨_, (pss_cons (ps_if (pt_cmpR op_lt (pv 1) (pe_callB (show CallR _ _ (rLenS K) from call_len_seq) (by rfl) T.len_ (by decide +kernel) (pa_cons (pv 0) pa_nil)) (nomark _)) (pss_one (ps_ret (pe_ix (show IxR _ (rIxL K) from ix_list) (pv 0) (pv 1) (fun _ _ => rfl)))) pss_nil) (pss_one (ps_ret pe_int))), ?_⟩
    refine q_when (b := decide (k < ((ns.map V.int).length : Int))) ?_ (fun hb H1 e1 => ?_) (fun hb H1 e1 => ?_)
    · walk_at "ev"
    · have hb := of_decide_eq_true hb
      have hS := ex_l e1 hS
      refine s_ret (v := .int (cellM ns k)) ?_ (fun H2 e2 => q _ (e1.trans e2))
      rw [List.length_map] at hb
      walk_at "ev"
      exact at_ints ns h0 hb
    · have hb := of_decide_eq_false hb
      rw [List.length_map] at hb
      refine s_ret (v := .int 0) ?_ (fun H2 e2 => ?_)
      · walk_at "ev"
      · have := q H2 (e1.trans e2)
        unfold cellM at this
        rw [List.getD_eq_getElem?_getD, List.getElem?_eq_none (by omega)] at this
        exact this
theorem sp_cell {a : Addr} {ns : List Int} {k : Int} {H : Hp} (hS : SqL K H a (ns.map V.int)) (h0 : 0 ≤ k) : SpV (spCell K) [.ref a, .int k] H (.int (cellM ns k)) := fun H1 e Q q E =>
  ⟨a, ns, k, rfl, ex_l e hS, h0, q⟩
theorem ev_cell {a : Addr} {ns : List Int} {k : Int} {ta : TA} {σ : L2.St} {H : Hp} {E : XK} (h : EvA ta σ H [.ref a, .int k]) (hS : SqL K H a (ns.map V.int)) (h0 : 0 ≤ k) : Ev (tCall (spCell K) [] E ta) σ H (.int (cellM ns k)) :=
  ev_call h (sp_cell hS h0)
local macro_rules | `(tactic| walk_at "ev") => `(tactic| ((with_reducible apply ev_cell) <;> walk_at "ev"))
def thingM (c b : Int) : Int := if c % 8 = 7 then c / 8 % 1000000000 else (b + c % 3) % 1000000000
def spThing : Sp := fun vs H Q _ => ∃ (c b : Int), vs = [.int c, .int b] ∧ RetV (.int (thingM c b)) H Q
theorem ok_thing (D : Dn K mg "_law_thing" s_l_thing ["_law_cell", "_law_base"]) : Has P w K mg base "_law_thing" 1 ["_law_cell", "_law_base"] spThing := by
  refine D.ok sc_l_thing (fun vs H Q E h => ?_) (fun f cdv A outer s H vs Q E hr h => ?_)
  · obtain ⟨c, b, rfl, _⟩ := h
    rfl
  · obtain ⟨c, b, rfl, q⟩ := h
    refine ⟨_, (pss_cons (ps_if (pt_cmpR op_eq (pe_op op_mod (pv 0) pe_int) pe_int (nomark _)) (pss_one (ps_ret (pe_op op_mod (pe_op op_fdiv (pv 0) pe_int) (pe_op op_pow pe_int pe_int)))) pss_nil) (pss_one (ps_ret (pe_op op_mod (pe_op op_add (pv 1) (pe_op op_mod (pv 0) pe_int)) (pe_op op_pow pe_int pe_int))))), ?_⟩
    unfold thingM at q
    refine q_when (b := decide ((V.int (c % 8)) = V.int 7)) ?_ (fun hb H1 e1 => ?_) (fun hb H1 e1 => ?_)
    · walk_at "ev"
    · have hb := V.int.inj (of_decide_eq_true hb)
      rw [if_pos hb] at q
      refine s_ret ?_ (fun H2 e2 => q _ (e1.trans e2))
      walk_at "ev"
    · have hb : ¬ c % 8 = 7 := fun z => of_decide_eq_false hb (by rw [z])
      rw [if_neg hb] at q
      refine s_ret ?_ (fun H2 e2 => q _ (e1.trans e2))
      walk_at "ev"
theorem sp_thing {c b : Int} {H : Hp} : SpV spThing [.int c, .int b] H (.int (thingM c b)) := fun H1 e Q q E => ⟨c, b, rfl, q⟩
structure Draw where
  base : Int
  style : Int
  size : Int
  place : Int
  sign : Int
def Draw.vs (d : Draw) : List V := [.int d.base, .int d.style, .int d.size, .int d.place, .int d.sign]
structure Draw.Ok (d : Draw) : Prop where
  st0 : 0 ≤ d.style
  st4 : d.style < 4
  sz1 : 1 ≤ d.size
  sz12 : d.size ≤ 12
  pl0 : 0 ≤ d.place
  pl1 : d.place < d.size
  sg0 : 0 ≤ d.sign
  sg26 : d.sign < 26
def drawM (ns : List Int) : Draw where
  base := cellM ns 1 / 2 % 1000000000 * (cellM ns 1 % 2)
  style := cellM ns 2 / 8 % 4
  size := 1 + cellM ns 2 / 8 / 4 % 12
  place := cellM ns 1 % (1 + cellM ns 2 / 8 / 4 % 12)
  sign := cellM ns 0 % 26
theorem drawM_ok (ns : List Int) : (drawM ns).Ok := by
  have h : 0 < 1 + cellM ns 2 / 8 / 4 % 12 := by omega
  exact ⟨by show 0 ≤ cellM ns 2 / 8 % 4; omega, by show cellM ns 2 / 8 % 4 < 4; omega, by show 1 ≤ 1 + cellM ns 2 / 8 / 4 % 12; omega, by show 1 + cellM ns 2 / 8 / 4 % 12 ≤ 12; omega,
    Int.emod_nonneg _ (by omega), Int.emod_lt_of_pos _ h, by show 0 ≤ cellM ns 0 % 26; omega, by show cellM ns 0 % 26 < 26; omega⟩
def spDraw (K : PySem.W.Frag) : Sp := fun vs H Q _ => ∃ (a : Addr) (ns : List Int), vs = [.ref a] ∧ SqL K H a (ns.map V.int) ∧ RetL (drawM ns).vs H Q
theorem ok_draw (D : Dn K mg "_law_draw" s_l_draw ["_law_script"]) (h_l_cell_at : Has P w K mg base "_law_cell_at" 1 ["_law_script", "_law_k"] (spCell K)) : Has P w K mg base "_law_draw" 2 ["_law_script"] (spDraw K) := by
  refine D.ok sc_l_draw (fun vs H Q E h => ?_) (fun f cdv A outer s H vs Q E hr h => ?_)
  · obtain ⟨a, ns, rfl, _⟩ := h
    rfl
  · obtain ⟨a, ns, rfl, hS, q⟩ := h
    refine ⟨_, (pss_cons (ps_set (i := 1) sc_l_draw.nd rfl (Or.inl rfl) (pe_op op_mul (pe_op op_mod (pe_op op_fdiv (pe_own h_l_cell_at (hr.mono (by decide)) (by rfl) (pa_cons (pv 0) (pa_cons pe_int pa_nil))) pe_int) (pe_op op_pow pe_int pe_int)) (pe_op op_mod (pe_own h_l_cell_at (hr.mono (by decide)) (by rfl) (pa_cons (pv 0) (pa_cons pe_int pa_nil))) pe_int))) (pss_cons (ps_set (i := 2) sc_l_draw.nd rfl (Or.inl rfl) (pe_op op_fdiv (pe_own h_l_cell_at (hr.mono (by decide)) (by rfl) (pa_cons (pv 0) (pa_cons pe_int pa_nil))) pe_int)) (pss_cons (ps_set (i := 3) sc_l_draw.nd rfl (Or.inl rfl) (pe_op op_add pe_int (pe_op op_mod (pe_op op_fdiv (pv 2) pe_int) pe_int))) (pss_one (ps_ret (pe_lst (pa_cons (pv 1) (pa_cons (pe_op op_mod (pv 2) pe_int) (pa_cons (pv 3) (pa_cons (pe_op op_mod (pe_own h_l_cell_at (hr.mono (by decide)) (by rfl) (pa_cons (pv 0) (pa_cons pe_int pa_nil))) (pv 3)) (pa_cons (pe_op op_mod (pe_own h_l_cell_at (hr.mono (by decide)) (by rfl) (pa_cons (pv 0) (pa_cons pe_int pa_nil))) pe_int) pa_nil))))))))))), ?_⟩
    have hp : (0 : Int) < 1 + cellM ns 2 / 8 / 4 % 12 := by omega
    refine' q_asg ?_ (fun H1 e1 => ?_)
    rotate_left 1
    · walk_at "ev"
    refine' q_asg ?_ (fun H2 e2 => ?_)
    rotate_left 1
    · walk_at "ev"
    refine' q_asg ?_ (fun H3 e3 => ?_)
    rotate_left 1
    · walk_at "ev"
    refine s_retL (xs := (drawM ns).vs) ?_ (fun p H4 hp e4 h4 => q p H4 (fresh_back (show Ex H H3 by walk_at "ex") hp) (show Ex H H4 by walk_at "ex") h4)
    show EvL _ _ _ [.int (cellM ns 1 / 2 % 1000000000 * (cellM ns 1 % 2)), .int (cellM ns 2 / 8 % 4), .int (1 + cellM ns 2 / 8 / 4 % 12), .int (cellM ns 1 % (1 + cellM ns 2 / 8 / 4 % 12)), .int (cellM ns 0 % 26)]
    walk_at "ev"
end
end BD
namespace BD
open PySem PySem.Spec PyProof.Rows L2 Evl
local macro_rules | `(tactic| walk_at "ev") => `(tactic| first
  | ((with_reducible apply ev_var) ; rfl)
  | with_reducible exact ev_c
  | ((with_reducible apply ev_I0) <;> walk_at "ev")
  | ((with_reducible apply ev_e9) <;> walk_at "ev")
  | ((with_reducible apply ev_I) <;> walk_at "ev")
  | ((with_reducible apply ev_eq) <;> walk_at "ev")
  | ((with_reducible apply ev_ne) <;> walk_at "ev")
  | ((with_reducible apply ev_neg) <;> walk_at "ev")
  | ((with_reducible apply ev_ixN) <;> walk_at "ev")
  | ((with_reducible apply ev_ixL) <;> walk_at "ev")
  | ((with_reducible apply ev_inN) <;> walk_at "ev")
  | ((with_reducible apply ev_inT) <;> walk_at "ev")
  | ((with_reducible apply ev_ixT) <;> walk_at "ev")
  | ((with_reducible apply ev_ixS) <;> walk_at "ev")
  | ((with_reducible apply ev_len') <;> walk_at "ev")
  | ((with_reducible apply et_test) <;> walk_at "ev")
  | ((with_reducible apply et_and) <;> walk_at "ev")
  | ((with_reducible apply et_or) <;> walk_at "ev")
  | ((with_reducible apply et_not) <;> walk_at "ev")
  | ((with_reducible apply et_B) <;> walk_at "ev")
  | ((with_reducible apply el_lst) <;> walk_at "ev")
  | ((with_reducible apply eu_tup) <;> walk_at "ev")
  | ((with_reducible apply ea_cons) <;> walk_at "ev")
  | with_reducible exact ea_nil
  | with_reducible assumption
  | ((with_reducible apply ex_l' ; assumption) ; walk_at "ex")
  | ((with_reducible apply ex_t' ; assumption) ; walk_at "ex")
  | (intro _ ; walk_at "ev")
  | (with_reducible first | exact atI_hd | exact at_kind | exact at2s | exact at3s | exact at3i)
  | (first | exact rfl | exact Nat.le_of_ble_eq_true rfl | exact ⟨by decide, by decide⟩ | decide | exact Or.inl ⟨by omega, by omega⟩ | exact Or.inr ⟨by omega, by omega⟩ | omega)
  | skip)
local macro_rules | `(tactic| walk_at "ex") => `(tactic| first
  | assumption
  | exact Ex.refl _
  | (refine' Ex.trans ?_ (by assumption) ; walk_at "ex"))
local macro_rules | `(tactic| walk_at "row") => `(tactic| first
  | (with_reducible exact er_nil)
  | ((with_reducible apply er_cons) <;> walk_at "row")
  | (((with_reducible apply er_var) ; rfl) ; walk_at "isrow")
  | (((with_reducible apply elr_var) ; rfl) ; walk_at "isrow")
  | ((with_reducible apply elr_cat) <;> walk_at "row")
  | ((with_reducible apply elr_lst) <;> walk_at "row")
  | ((with_reducible apply er_fin) <;> walk_at "ev")
  | ((with_reducible apply er_lendT) <;> walk_at "ev")
  | ((with_reducible apply er_lendW) <;> walk_at "ev")
  | ((with_reducible apply er_pick) <;> walk_at "ev")
  | ((with_reducible apply er_either) <;> walk_at "ev")
  | ((with_reducible apply er_or) <;> walk_at "ev")
  | ((with_reducible apply er_again) <;> walk_at "ev")
  | ((with_reducible apply er_back) <;> walk_at "ev")
  | ((with_reducible apply er_look) <;> walk_at "ev")
  | ((with_reducible apply er_change) <;> walk_at "ev")
  | exact Nat.le_of_ble_eq_true rfl
  | skip)
local macro_rules | `(tactic| walk_at "isrow") => `(tactic| first
  | assumption
  | (refine IsRow.up ?_ (by assumption) ; walk_at "ex")
  | (refine LRows.up ?_ (by assumption) ; walk_at "ex"))

abbrev s_l_word : Stmt := topS 59
theorem sc_l_word : FnScope ["_law_one", "_law_two", "_law_deep", "_law_draw_here", "_law_letters", "_law_sign", "_law_found", "_law_k"] ["_law_one", "_law_two", "_law_deep", "_law_draw_here"] (defScope s_l_word) := ⟨rfl, rfl, rfl, by decide +kernel, rfl, by decide +kernel, by decide +kernel⟩
section
variable {P : Program} {w : World} {K : PySem.W.Frag} {mg : Str → Option Value} {base : Heap}
def mkS (l : List Nat) : Str := ⟨l.toArray⟩
theorem mkS_app (a b : List Nat) : mkS a ++ mkS b = mkS (a ++ b) := by
  show (⟨a.toArray ++ b.toArray⟩ : Str) = ⟨(a ++ b).toArray⟩
  rw [List.append_toArray]
theorem mkS_len (a : List Nat) : (mkS a).length = a.length := by
  show a.toArray.size = a.length
  exact List.size_toArray
theorem letters_at {i : Int} (h0 : 0 ≤ i) (h1 : i < 26) : atI ("abcdefghijklmnopqrstuvwxyz" : Str).cps.toList i = some (97 + i.toNat) := by
  have e : ("abcdefghijklmnopqrstuvwxyz" : Str).cps.toList = (List.range 26).map (97 + ·) := by decide +kernel
  rw [e]
  have e2 : i = ((i.toNat : Nat) : Int) := by omega
  have h2 : i.toNat < 26 := by omega
  rw [e2]
  refine atI_nat ?_
  rw [List.getElem?_map, List.getElem?_range h2, Int.toNat_natCast]
  rfl
theorem letters_len : ("abcdefghijklmnopqrstuvwxyz" : Str).length ≤ 100000 := by decide +kernel
theorem ev_letter {ta tb : TE} {σ : L2.St} {H : Hp} {i : Int} (ha : Ev ta σ H (.str "abcdefghijklmnopqrstuvwxyz")) (hb : Ev tb σ H (.int i)) (h0 : 0 ≤ i) (h1 : i < 26) : Ev (tOp rIxS ta tb) σ H (.str (mkS [97 + i.toNat])) :=
  ev_ixS ha hb letters_len (letters_at h0 h1)
local macro_rules | `(tactic| walk_at "ev") => `(tactic| ((with_reducible apply ev_letter) <;> walk_at "ev"))
def chM (one two deep : Int) (d : Draw) (k : Nat) : Nat :=
  if (k : Int) = d.place then 97 + ((d.sign + 5 * deep) % 26).toNat else if d.style = 1 then 97 + ((one + (k : Int) * two) % 26).toNat else 97 + d.size.toNat
def wordM (one two deep : Int) (d : Draw) : Str :=
  if d.style = 0 then Txt.mul (mkS [97 + (d.sign % 26).toNat]) (deep + 1) else mkS ((List.range d.size.toNat).map (chM one two deep d))
def spWord (K : PySem.W.Frag) : Sp := fun vs H Q _ => ∃ (one two deep : Int) (a : Addr) (d : Draw), vs = [.int one, .int two, .int deep, .ref a] ∧ SqL K H a d.vs ∧ d.Ok ∧ 0 ≤ deep ∧ deep ≤ 20 ∧ RetV (.str (wordM one two deep d)) H Q
theorem dvs0 {d : Draw} : atI d.vs 0 = some (.int d.base) := rfl
theorem dvs1 {d : Draw} : atI d.vs 1 = some (.int d.style) := rfl
theorem dvs2 {d : Draw} : atI d.vs 2 = some (.int d.size) := rfl
theorem dvs3 {d : Draw} : atI d.vs 3 = some (.int d.place) := rfl
theorem dvs4 {d : Draw} : atI d.vs 4 = some (.int d.sign) := rfl
theorem mulOk1 {c : Nat} {n : Int} (h0 : 1 ≤ n) (h1 : n ≤ 100) : MulOk (mkS [c]) n := by
  refine ⟨?_, fun _ _ => ?_, fun _ _ => ?_⟩
  · rw [decide_eq_false (by omega), decide_eq_false (by omega)]
    rfl
  · rw [mkS_len]
    show ¬ ((1 : Nat) : Int) > (2 ^ 63 - 1) / n
    have h2 : n * 1 ≤ 2 ^ 63 - 1 := by omega
    have h3 : (1 : Int) ≤ (2 ^ 63 - 1) / n := by
      rw [Int.le_ediv_iff_mul_le (by omega)]
      omega
    omega
  · rw [mkS_len]
    show Builtin.Str.tooLong (1 * n.toNat) = false
    unfold Builtin.Str.tooLong
    exact decide_eq_false (by
      have h4 : n.toNat ≤ 100 := by omega
      have h5 : (100 : Nat) < sizeLine := by decide
      omega)
theorem ok_word (D : Dn K mg "_law_word" s_l_word ["_law_one", "_law_two", "_law_deep", "_law_draw_here"]) (T : Blt mg) : Has P w K mg base "_law_word" 1 ["_law_one", "_law_two", "_law_deep", "_law_draw_here"] (spWord K) := by
  refine D.ok sc_l_word (fun vs H Q E h => ?_) (fun f cdv A outer s H vs Q E hr h => ?_)
  · obtain ⟨one, two, deep, a, d, rfl, _⟩ := h
    rfl
  · obtain ⟨one, two, deep, a, d, rfl, hS, ok, hd0, hd1, q⟩ := h
    obtain ⟨st0, st4, sz1, sz12, pl0, pl1, sg0, sg26⟩ := ok
    refine ⟨_, (pss_cons (ps_set (i := 4) sc_l_word.nd rfl (Or.inl rfl) pe_str) (pss_cons (ps_set (i := 5) sc_l_word.nd rfl (Or.inl rfl) (pe_ix ix_str (pv 4) (pe_op op_mod (pe_op op_add (pe_ix (show IxR _ (rIxL K) from ix_list) (pv 3) pe_int (fun _ _ => rfl)) (pe_op op_mul pe_int (pv 2))) pe_int) (fun _ _ => rfl))) (pss_cons (ps_if (pt_cmpR op_eq (pe_ix (show IxR _ (rIxL K) from ix_list) (pv 3) pe_int (fun _ _ => rfl)) pe_int (nomark _)) (pss_one (ps_ret (pe_op op_repS (pe_ix ix_str (pv 4) (pe_op op_mod (pe_ix (show IxR _ (rIxL K) from ix_list) (pv 3) pe_int (fun _ _ => rfl)) pe_int) (fun _ _ => rfl)) (pe_op op_add (pv 2) pe_int)))) pss_nil) (pss_cons (ps_set (i := 6) sc_l_word.nd rfl (Or.inl rfl) pe_str) (pss_cons (ps_for PassesOwn.never rfl (pi_range1 (by rfl) T.range_ (pa_cons (pe_ix (show IxR _ (rIxL K) from ix_list) (pv 3) pe_int (fun _ _ => rfl)) pa_nil)) (pg_name (i := 7) sc_l_word.nd rfl (Or.inl rfl)) (pss_one (ps_if (pt_cmpR op_eq (pv 7) (pe_ix (show IxR _ (rIxL K) from ix_list) (pv 3) pe_int (fun _ _ => rfl)) (nomark _)) (pss_one (ps_set (i := 6) sc_l_word.nd rfl (Or.inl rfl) (pe_op op_addT (pv 6) (pv 5)))) (pss_one (ps_if (pt_cmpR op_eq (pe_ix (show IxR _ (rIxL K) from ix_list) (pv 3) pe_int (fun _ _ => rfl)) pe_int (nomark _)) (pss_one (ps_set (i := 6) sc_l_word.nd rfl (Or.inl rfl) (pe_op op_addT (pv 6) (pe_ix ix_str (pv 4) (pe_op op_mod (pe_op op_add (pv 0) (pe_op op_mul (pv 7) (pv 1))) pe_int) (fun _ _ => rfl))))) (pss_one (ps_set (i := 6) sc_l_word.nd rfl (Or.inl rfl) (pe_op op_addT (pv 6) (pe_ix ix_str (pv 4) (pe_ix (show IxR _ (rIxL K) from ix_list) (pv 3) pe_int (fun _ _ => rfl)) (fun _ _ => rfl)))))))))) (pss_one (ps_ret (pv 6)))))))), ?_⟩
    refine' q_asg ev_c (fun H1 e1 => ?_)
    refine' q_asg (v := .str (mkS [97 + ((d.sign + 5 * deep) % 26).toNat])) ?_ (fun H2 e2 => ?_)
    · walk_at "ev"
    refine q_when (b := decide (V.int d.style = V.int 0)) ?_ (fun hb H3 e3 => ?_) (fun hb H3 e3 => ?_)
    · walk_at "ev"
    · have hb := V.int.inj (of_decide_eq_true hb)
      unfold wordM at q
      rw [if_pos hb] at q
      refine s_ret (v := .str (Txt.mul (mkS [97 + (d.sign % 26).toNat]) (deep + 1))) ?_ (fun H4 e4 => q H4 (by walk_at "ex"))
      refine ev_repS ?_ ?_ (mulOk1 (by omega) (by omega))
      · walk_at "ev"
      · walk_at "ev"
    · have hb : ¬ d.style = 0 := fun z => of_decide_eq_false hb (by rw [z])
      unfold wordM at q
      rw [if_neg hb] at q
      refine' q_asg ev_c (fun H4 e4 => ?_)
      refine q_forR1 (n := d.size) ?_ ⟨by omega, by omega⟩ (fun i σ' H' => Ex H4 H' ∧ ∃ x, σ' = [some (.int one), some (.int two), some (.int deep), some (.ref a), some (.str "abcdefghijklmnopqrstuvwxyz"), some (.str (mkS [97 + ((d.sign + 5 * deep) % 26).toNat])), some (.str (mkS ((List.range i).map (chM one two deep d)))), x]) ?_ ?_ ?_
      · walk_at "ev"
      · intro H5 e5
        exact ⟨e5, none, rfl⟩
      · rintro i σ' H' hi ⟨e5, x, rfl⟩
        have hS' : SqL K H' a d.vs := by walk_at "ev"
        have hl : (mkS ((List.range i).map (chM one two deep d))).length = i := by
          rw [mkS_len, List.length_map, List.length_range]
        have grow : ∀ c : Nat, chM one two deep d i = c → mkS ((List.range i).map (chM one two deep d)) ++ mkS [c] = mkS ((List.range (i + 1)).map (chM one two deep d)) := fun c hc => by
          rw [mkS_app, List.range_succ, List.map_append]
          show mkS (_ ++ [c]) = mkS (_ ++ [chM one two deep d i])
          rw [hc]
        refine s_if (b := decide (V.int (i : Int) = V.int d.place)) ?_ (fun hb2 H6 e6 => ?_) (fun hb2 H6 e6 => ?_)
        · walk_at "ev"
        · have hb2 := V.int.inj (of_decide_eq_true hb2)
          refine s_asg (v := .str (mkS ((List.range (i + 1)).map (chM one two deep d)))) ?_ (fun H7 e7 => ⟨by walk_at "ex", _, rfl⟩)
          rw [← grow _ (if_pos hb2)]
          refine ev_add _ _ ?_ ?_ (by rw [hl, mkS_len]; show i + 1 ≤ 100000; omega)
          · walk_at "ev"
          · walk_at "ev"
        · have hb2 : ¬ (i : Int) = d.place := fun z => of_decide_eq_false hb2 (by rw [z])
          refine s_if (b := decide (V.int d.style = V.int 1)) ?_ (fun hb3 H7 e7 => ?_) (fun hb3 H7 e7 => ?_)
          · walk_at "ev"
          · have hb3 := V.int.inj (of_decide_eq_true hb3)
            refine s_asg (v := .str (mkS ((List.range (i + 1)).map (chM one two deep d)))) ?_ (fun H8 e8 => ⟨by walk_at "ex", _, rfl⟩)
            rw [← grow _ ((if_neg hb2).trans (if_pos hb3))]
            refine ev_add _ _ ?_ ?_ (by rw [hl, mkS_len]; show i + 1 ≤ 100000; omega)
            · walk_at "ev"
            · walk_at "ev"
          · have hb3 : ¬ d.style = 1 := fun z => of_decide_eq_false hb3 (by rw [z])
            refine s_asg (v := .str (mkS ((List.range (i + 1)).map (chM one two deep d)))) ?_ (fun H8 e8 => ⟨by walk_at "ex", _, rfl⟩)
            rw [← grow _ ((if_neg hb2).trans (if_neg hb3))]
            refine ev_add _ _ ?_ ?_ (by rw [hl, mkS_len]; show i + 1 ≤ 100000; omega)
            · walk_at "ev"
            · walk_at "ev"
      · rintro σ' H' ⟨e5, x, rfl⟩
        refine s_ret (v := .str (mkS ((List.range d.size.toNat).map (chM one two deep d)))) ?_ (fun H4 e4 => q H4 (by walk_at "ex"))
        walk_at "ev"
theorem ev_word {one two deep : Int} {a : Addr} {d : Draw} {ta : TA} {σ : L2.St} {H : Hp} {E : XK} (h : EvA ta σ H [.int one, .int two, .int deep, .ref a]) (hS : SqL K H a d.vs) (ok : d.Ok) (h0 : 0 ≤ deep) (h1 : deep ≤ 20) :
    Ev (tCall (spWord K) [] E ta) σ H (.str (wordM one two deep d)) :=
  ev_call h fun H1 e Q q E => ⟨one, two, deep, a, d, rfl, ex_l e hS, ok, h0, h1, q⟩
end
end BD
namespace BD
open PySem PySem.Spec PyProof.Rows L2 Evl
/-! ### words and rows are well formed -/
def WordS (w : Str) : Prop := ∃ l : List Nat, w = mkS l ∧ 1 ≤ l.length ∧ l.length ≤ 12 ∧ ∀ c ∈ l, 97 ≤ c ∧ c ≤ 122
theorem fold_rep (c : Nat) : ∀ (n : Nat) (acc : List Nat), (List.replicate n #[c]).foldl (· ++ ·) acc.toArray = (acc ++ List.replicate n c).toArray
  | 0, acc => by simp
  | n + 1, acc => by
    rw [List.replicate_succ, List.foldl_cons]
    have e : acc.toArray ++ #[c] = (acc ++ [c]).toArray := by simp
    rw [e, fold_rep c n (acc ++ [c]), List.replicate_succ]
    simp
theorem mul_word {c : Nat} {n : Int} (h : 1 ≤ n) : Txt.mul (mkS [c]) n = mkS (List.replicate n.toNat c) := by
  unfold Txt.mul
  rw [if_neg (by omega)]
  by_cases h1 : n = 1
  · subst h1
    rfl
  · have e : (n == 1) = false := by simp [h1]
    have e2 : ((mkS [c]).length == 0) = false := rfl
    rw [e, e2]
    show (⟨(List.replicate n.toNat #[c]).foldl (· ++ ·) #[]⟩ : Str) = mkS (List.replicate n.toNat c)
    have := fold_rep c n.toNat []
    rw [List.nil_append] at this
    unfold mkS
    rw [← this]
theorem wordM_s {one two deep : Int} {d : Draw} (ok : d.Ok) (h0 : 0 ≤ deep) (h1 : deep ≤ 11) : WordS (wordM one two deep d) := by
  obtain ⟨st0, st4, sz1, sz12, pl0, pl1, sg0, sg26⟩ := ok
  unfold wordM
  split
  · rw [mul_word (by omega)]
    refine ⟨_, rfl, ?_, ?_, fun c hc => ?_⟩
    · rw [List.length_replicate]; omega
    · rw [List.length_replicate]; omega
    · have := (List.mem_replicate.mp hc).2
      subst this
      omega
  · refine ⟨_, rfl, ?_, ?_, fun c hc => ?_⟩
    · rw [List.length_map, List.length_range]; omega
    · rw [List.length_map, List.length_range]; omega
    · obtain ⟨k, _, rfl⟩ := List.mem_map.mp hc
      unfold chM
      split
      · omega
      split <;> omega
theorem word_ok {w : Str} (h : WordS w) : PyData.strOk w = true := by
  obtain ⟨l, rfl, _, _, hl⟩ := h
  unfold PyData.strOk mkS
  rw [List.all_toArray, List.all_eq_true]
  intro c hc
  have := hl c hc
  exact decide_eq_true (by omega)
end BD
namespace BD
open PySem PySem.Spec PyProof.Rows L2 Evl
local macro_rules | `(tactic| walk_at "ev") => `(tactic| first
  | ((with_reducible apply ev_var) ; rfl)
  | with_reducible exact ev_c
  | ((with_reducible apply ev_I0) <;> walk_at "ev")
  | ((with_reducible apply ev_e9) <;> walk_at "ev")
  | ((with_reducible apply ev_I) <;> walk_at "ev")
  | ((with_reducible apply ev_eq) <;> walk_at "ev")
  | ((with_reducible apply ev_ne) <;> walk_at "ev")
  | ((with_reducible apply ev_neg) <;> walk_at "ev")
  | ((with_reducible apply ev_ixN) <;> walk_at "ev")
  | ((with_reducible apply ev_ixL) <;> walk_at "ev")
  | ((with_reducible apply ev_inN) <;> walk_at "ev")
  | ((with_reducible apply ev_inT) <;> walk_at "ev")
  | ((with_reducible apply ev_ixT) <;> walk_at "ev")
  | ((with_reducible apply ev_ixS) <;> walk_at "ev")
  | ((with_reducible apply ev_len') <;> walk_at "ev")
  | ((with_reducible apply et_test) <;> walk_at "ev")
  | ((with_reducible apply et_and) <;> walk_at "ev")
  | ((with_reducible apply et_or) <;> walk_at "ev")
  | ((with_reducible apply et_not) <;> walk_at "ev")
  | ((with_reducible apply et_B) <;> walk_at "ev")
  | ((with_reducible apply el_lst) <;> walk_at "ev")
  | ((with_reducible apply eu_tup) <;> walk_at "ev")
  | ((with_reducible apply ea_cons) <;> walk_at "ev")
  | with_reducible exact ea_nil
  | with_reducible assumption
  | ((with_reducible apply ex_l' ; assumption) ; walk_at "ex")
  | ((with_reducible apply ex_t' ; assumption) ; walk_at "ex")
  | (intro _ ; walk_at "ev")
  | (with_reducible first | exact atI_hd | exact at_kind | exact at2s | exact at3s | exact at3i)
  | (first | exact rfl | exact Nat.le_of_ble_eq_true rfl | exact ⟨by decide, by decide⟩ | decide | exact Or.inl ⟨by omega, by omega⟩ | exact Or.inr ⟨by omega, by omega⟩ | omega)
  | skip)
local macro_rules | `(tactic| walk_at "ex") => `(tactic| first
  | assumption
  | exact Ex.refl _
  | (refine' Ex.trans ?_ (by assumption) ; walk_at "ex"))
local macro_rules | `(tactic| walk_at "row") => `(tactic| first
  | (with_reducible exact er_nil)
  | ((with_reducible apply er_cons) <;> walk_at "row")
  | (((with_reducible apply er_var) ; rfl) ; walk_at "isrow")
  | (((with_reducible apply elr_var) ; rfl) ; walk_at "isrow")
  | ((with_reducible apply elr_cat) <;> walk_at "row")
  | ((with_reducible apply elr_lst) <;> walk_at "row")
  | ((with_reducible apply er_fin) <;> walk_at "ev")
  | ((with_reducible apply er_lendT) <;> walk_at "ev")
  | ((with_reducible apply er_lendW) <;> walk_at "ev")
  | ((with_reducible apply er_pick) <;> walk_at "ev")
  | ((with_reducible apply er_either) <;> walk_at "ev")
  | ((with_reducible apply er_or) <;> walk_at "ev")
  | ((with_reducible apply er_again) <;> walk_at "ev")
  | ((with_reducible apply er_back) <;> walk_at "ev")
  | ((with_reducible apply er_look) <;> walk_at "ev")
  | ((with_reducible apply er_change) <;> walk_at "ev")
  | exact Nat.le_of_ble_eq_true rfl
  | skip)
local macro_rules | `(tactic| walk_at "isrow") => `(tactic| first
  | assumption
  | (refine IsRow.up ?_ (by assumption) ; walk_at "ex")
  | (refine LRows.up ?_ (by assumption) ; walk_at "ex"))

local macro_rules | `(tactic| walk_at "ev") => `(tactic| ((with_reducible apply ev_letter) <;> walk_at "ev"))
local macro_rules | `(tactic| walk_at "ev") => `(tactic| ((with_reducible apply ev_cell) <;> walk_at "ev"))
local macro_rules | `(tactic| walk_at "ev") => `(tactic| ((with_reducible apply ev_word) <;> walk_at "ev"))
abbrev s_l_lend : Stmt := topS 62
theorem sc_l_lend : FnScope ["_law_one", "_law_two", "_law_named", "_law_draw_here", "_law_kind", "_law_source", "_law_holder"] ["_law_one", "_law_two", "_law_named", "_law_draw_here"] (defScope s_l_lend) := ⟨rfl, rfl, rfl, by decide +kernel, rfl, by decide +kernel, by decide +kernel⟩
abbrev s_l_deed : Stmt := topS 63
theorem sc_l_deed : FnScope ["_law_one", "_law_two", "_law_hands_here", "_law_hand", "_law_word_here"] ["_law_one", "_law_two", "_law_hands_here"] (defScope s_l_deed) := ⟨rfl, rfl, rfl, by decide +kernel, rfl, by decide +kernel, by decide +kernel⟩
abbrev s_l_hands : Stmt := topS 65
theorem sc_l_hands : FnScope ["_law_one", "_law_two", "_law_deep", "_law_draw_here", "_law_found"] ["_law_one", "_law_two", "_law_deep", "_law_draw_here"] (defScope s_l_hands) := ⟨rfl, rfl, rfl, by decide +kernel, rfl, by decide +kernel, by decide +kernel⟩
section
variable {P : Program} {w : World} {K : PySem.W.Frag} {mg : Str → Option Value} {base : Heap}
theorem ev_thing {c b : Int} {ta : TA} {σ : L2.St} {H : Hp} {E : XK} (h : EvA ta σ H [.int c, .int b]) : Ev (tCall spThing [] E ta) σ H (.int (thingM c b)) := ev_call h sp_thing
local macro_rules | `(tactic| walk_at "ev") => `(tactic| ((with_reducible apply ev_thing) <;> walk_at "ev"))
theorem rows_at {H : Hp} {vs : List V} {rs : List Rw} {i : Int} (h : Rows H vs rs) (h0 : 0 ≤ i) (h1 : i < vs.length) : ∃ x, atI vs i = some x ∧ IsRow H x (rs.getD i.toNat .fin) := by
  have e : i = ((i.toNat : Nat) : Int) := by omega
  have h2 : i.toNat < rs.length := by
    rw [← h.len]
    omega
  obtain ⟨x, hx, hr⟩ := h.get (List.getElem?_eq_getElem h2)
  refine ⟨x, ?_, ?_⟩
  · rw [e]
    exact atI_nat hx
  · rw [List.getD_eq_getElem?_getD, List.getElem?_eq_getElem h2]
    exact hr
def lendM (one two : Int) (named : List Rw) (d : Draw) : Rw :=
  if one / 2 % 2 = 1 ∧ 0 < (named.length : Int) then
    .lend (wordM one two named.length d) (if (named.getD (two % named.length).toNat .fin).isLend = true ∧ (named.getD (two % named.length).toNat .fin).kind = "read" then "read" else kindM one) (.word (named.getD (two % named.length).toNat .fin).word)
  else .lend (wordM one two named.length d) (kindM one) (.thing (thingM two d.base))
def spLend (K : PySem.W.Frag) : Sp := fun vs H Q _ => ∃ (one two : Int) (n a : Addr) (ns : List V) (named : List Rw) (d : Draw), vs = [.int one, .int two, .ref n, .ref a] ∧ SqL K H n ns ∧ Rows H ns named ∧ (∀ r ∈ named, r.named = true) ∧ named.length ≤ 20 ∧
  SqL K H a d.vs ∧ d.Ok ∧ Ret (ARow (lendM one two named d)) H Q
theorem getD_mem {rs : List Rw} {i : Nat} (h : i < rs.length) : rs.getD i .fin ∈ rs := by
  rw [List.getD_eq_getElem?_getD, List.getElem?_eq_getElem h]
  exact List.getElem_mem h
theorem ok_lend (D : Dn K mg "_law_lend" s_l_lend ["_law_one", "_law_two", "_law_named", "_law_draw_here"]) (T : Blt mg) (h_l_thing : Has P w K mg base "_law_thing" 1 ["_law_cell", "_law_base"] spThing) (h_l_word : Has P w K mg base "_law_word" 1 ["_law_one", "_law_two", "_law_deep", "_law_draw_here"] (spWord K)) : Has P w K mg base "_law_lend" 2 ["_law_one", "_law_two", "_law_named", "_law_draw_here"] (spLend K) := by
  refine D.ok sc_l_lend (fun vs H Q E h => ?_) (fun f cdv A outer s H vs Q E hr h => ?_)
  · obtain ⟨one, two, n, a, ns, named, d, rfl, _⟩ := h
    rfl
  · obtain ⟨one, two, n, a, ns, named, d, rfl, hN, hR, hnm, hlen, hS, ok, q⟩ := h
    refine ⟨_, (pss_cons (ps_set (i := 4) sc_l_lend.nd rfl (Or.inl rfl) (pe_ix (show IxR _ (rIxL K) from ix_list) (pe_lst (pa_cons pe_str (pa_cons pe_str pa_nil))) (pe_op op_mod (pv 0) pe_int) (fun _ _ => rfl))) (pss_cons (ps_set (i := 5) sc_l_lend.nd rfl (Or.inl rfl) (pe_own h_l_thing (hr.mono (by decide)) (by rfl) (pa_cons (pv 1) (pa_cons (pe_ix (show IxR _ (rIxL K) from ix_list) (pv 3) pe_int (fun _ _ => rfl)) pa_nil)))) (pss_cons (ps_if (PW.pt (pw_and (pt_cmpR op_eq (pe_op op_mod (pe_op op_fdiv (pv 0) pe_int) pe_int) pe_int (nomark _)) (pw_and1 (pt_cmpR op_gt (pe_callB (show CallR _ _ (rLenS K) from call_len_seq) (by rfl) T.len_ (by decide +kernel) (pa_cons (pv 2) pa_nil)) pe_int (nomark _))))) (pss_cons (ps_set (i := 6) sc_l_lend.nd rfl (Or.inl rfl) (pe_ix (show IxR _ (rIxL K) from ix_list) (pv 2) (pe_op op_mod (pv 1) (pe_callB (show CallR _ _ (rLenS K) from call_len_seq) (by rfl) T.len_ (by decide +kernel) (pa_cons (pv 2) pa_nil))) (fun _ _ => rfl))) (pss_cons (ps_set (i := 5) sc_l_lend.nd rfl (Or.inl rfl) (pe_ix (show IxR _ (rIxT K) from ix_tup) (pv 6) pe_int (fun _ _ => rfl))) (pss_one (ps_if (PW.pt (pw_and (pt_cmpR op_eq (pe_ix (show IxR _ (rIxT K) from ix_tup) (pv 6) pe_int (fun _ _ => rfl)) pe_str (nomark _)) (pw_and1 (pt_cmpR op_eq (pe_ix (show IxR _ (rIxT K) from ix_tup) (pv 6) pe_int (fun _ _ => rfl)) pe_str (nomark _))))) (pss_one (ps_set (i := 4) sc_l_lend.nd rfl (Or.inl rfl) pe_str)) pss_nil)))) pss_nil) (pss_one (ps_ret (pe_tup (pa_cons pe_str (pa_cons (pe_own h_l_word (hr.mono (by decide)) (by rfl) (pa_cons (pv 0) (pa_cons (pv 1) (pa_cons (pe_callB (show CallR _ _ (rLenS K) from call_len_seq) (by rfl) T.len_ (by decide +kernel) (pa_cons (pv 2) pa_nil)) (pa_cons (pv 3) pa_nil))))) (pa_cons (pv 4) (pa_cons (pv 5) pa_nil)))))))))), ?_⟩
    have hl : ns.length = named.length := hR.len
    unfold lendM at q
    rw [← hl] at q hlen
    refine' q_asg (v := .str (kindM one)) ?_ (fun H1 e1 => ?_)
    · walk_at "ev"
    refine' q_asg (v := .int (thingM two d.base)) ?_ (fun H2 e2 => ?_)
    · walk_at "ev"
    refine' q_when ?_ (fun hb H3 e3 => ?_) (fun hb H3 e3 => ?_)
    rotate_left 1
    · walk_at "ev"
    · simp only [Bool.and_eq_true, decide_eq_true_eq, V.int.injEq] at hb
      rw [if_pos hb] at q
      have hpos : (0 : Int) < ns.length := hb.2
      obtain ⟨x, hx, hX⟩ := rows_at hR (i := two % ns.length) (Int.emod_nonneg _ (by omega)) (Int.emod_lt_of_pos _ hpos)
      have hm : named.getD (two % ns.length).toNat .fin ∈ named := getD_mem (by
        have := Int.emod_lt_of_pos two hpos
        have := Int.emod_nonneg two (show (ns.length : Int) ≠ 0 by omega)
        omega)
      have hnamed := hnm _ hm
      generalize named.getD (two % ns.length).toNat .fin = h at *
      cases h with
      | lend hh hk hs =>
        obtain ⟨p, rfl, hp⟩ := hX
        have hP : SqT K H p [.str "lend", .str hh, .str hk, hs.v] := st_of hp
        refine' q_asg (v := .ref p) ?_ (fun H4 e4 => ?_)
        · walk_at "ev"
        refine' q_asg (v := .str hh) ?_ (fun H5 e5 => ?_)
        · walk_at "ev"
        refine' q_when ?_ (fun hb2 H6 e6 => ?_) (fun hb2 H6 e6 => ?_)
        rotate_left 1
        · walk_at "ev"
        · simp only [Bool.and_eq_true, decide_eq_true_eq, V.str.injEq] at hb2
          rw [if_pos ⟨rfl, hb2.2⟩] at q
          refine' q_asg ev_c (fun H7 e7 => ?_)
          refine s_retP ?_ (fun v H8 e8 hv => q v H8 (by walk_at "ex") hv)
          walk_at "row"
        · simp only [Bool.and_eq_false_iff, decide_eq_false_iff_not, V.str.injEq] at hb2
          have hk2 : ¬ (True ∧ hk = "read") := fun z => by
            rcases hb2 with hb2 | hb2
            · exact hb2 (by first | trivial | rfl)
            · exact hb2 z.2
          rw [if_neg (fun z => hk2 ⟨trivial, z.2⟩)] at q
          refine s_retP ?_ (fun v H8 e8 hv => q v H8 (by walk_at "ex") hv)
          walk_at "row"
      | pick hh ts =>
        obtain ⟨p, pq, rfl, hp, _⟩ := hX
        have hP : SqT K H p [.str "pick", .str hh, .ref pq] := st_of hp
        refine' q_asg (v := .ref p) ?_ (fun H4 e4 => ?_)
        · walk_at "ev"
        refine' q_asg (v := .str hh) ?_ (fun H5 e5 => ?_)
        · walk_at "ev"
        refine' q_when (b := false) ?_ (fun hb2 H6 e6 => ?_) (fun hb2 H6 e6 => ?_)
        · refine et_is (et_and (a := false) (b := false) ?_ (fun z => by cases z)) rfl
          refine et_is ?_ (show decide (V.str "pick" = V.str "lend") = false by decide +kernel)
          walk_at "ev"
        · cases hb2
        · rw [if_neg (fun z => by cases z.1)] at q
          refine s_retP ?_ (fun v H8 e8 hv => q v H8 (by walk_at "ex") hv)
          walk_at "row"
      | _ => cases hnamed
    · simp only [Bool.and_eq_false_iff, decide_eq_false_iff_not, V.int.injEq] at hb
      rw [if_neg (fun z => hb.elim (fun y => y z.1) (fun y => y z.2))] at q
      refine s_retP ?_ (fun v H8 e8 hv => q v H8 (by walk_at "ex") hv)
      walk_at "row"
theorem ev_lend {one two : Int} {n a : Addr} {ns : List V} {named : List Rw} {d : Draw} {ta : TA} {σ : L2.St} {H : Hp} {E : XK} (h : EvA ta σ H [.int one, .int two, .ref n, .ref a]) (hN : SqL K H n ns) (hR : Rows H ns named)
    (hn : ∀ r ∈ named, r.named = true) (hl : named.length ≤ 20) (hS : SqL K H a d.vs) (ok : d.Ok) : EvP (tCall (spLend K) [] E ta) σ H (ARow (lendM one two named d)) :=
  ep_call h fun H1 e Q q E => ⟨one, two, n, a, ns, named, d, rfl, ex_l e hN, hR.up e, hn, hl, ex_l e hS, ok, q⟩
def deedM (one two : Int) (hands : List Rw) : Rw :=
  if one % 3 = 0 then .look (hands.getD (two % hands.length).toNat .fin).word
  else if one % 3 = 1 then .back (hands.getD (two % hands.length).toNat .fin).word
  else if (hands.getD (two % hands.length).toNat .fin).kind = "read" then .look (hands.getD (two % hands.length).toNat .fin).word else .change (hands.getD (two % hands.length).toNat .fin).word
def spDeed (K : PySem.W.Frag) : Sp := fun vs H Q _ => ∃ (one two : Int) (n : Addr) (ns : List V) (hands : List Rw), vs = [.int one, .int two, .ref n] ∧ SqL K H n ns ∧ Rows H ns hands ∧ (∀ r ∈ hands, r.isLend = true) ∧ 0 < hands.length ∧ Ret (ARow (deedM one two hands)) H Q
theorem ok_deed (D : Dn K mg "_law_deed" s_l_deed ["_law_one", "_law_two", "_law_hands_here"]) (T : Blt mg) : Has P w K mg base "_law_deed" 1 ["_law_one", "_law_two", "_law_hands_here"] (spDeed K) := by
  refine D.ok sc_l_deed (fun vs H Q E h => ?_) (fun f cdv A outer s H vs Q E hr h => ?_)
  · obtain ⟨one, two, n, ns, hands, rfl, _⟩ := h
    rfl
  · obtain ⟨one, two, n, ns, hands, rfl, hN, hR, hlend, hlen, q⟩ := h
    refine ⟨_, (pss_cons (ps_set (i := 3) sc_l_deed.nd rfl (Or.inl rfl) (pe_ix (show IxR _ (rIxL K) from ix_list) (pv 2) (pe_op op_mod (pv 1) (pe_callB (show CallR _ _ (rLenS K) from call_len_seq) (by rfl) T.len_ (by decide +kernel) (pa_cons (pv 2) pa_nil))) (fun _ _ => rfl))) (pss_cons (ps_set (i := 4) sc_l_deed.nd rfl (Or.inl rfl) (pe_ix (show IxR _ (rIxL K) from ix_list) (pe_lst (pa_cons pe_str (pa_cons pe_str (pa_cons pe_str pa_nil)))) (pe_op op_mod (pv 0) pe_int) (fun _ _ => rfl))) (pss_cons (ps_if (PW.pt (pw_and (pt_cmpR op_eq (pv 4) pe_str (nomark _)) (pw_and1 (pt_cmpR op_eq (pe_ix (show IxR _ (rIxT K) from ix_tup) (pv 3) pe_int (fun _ _ => rfl)) pe_str (nomark _))))) (pss_one (ps_set (i := 4) sc_l_deed.nd rfl (Or.inl rfl) pe_str)) pss_nil) (pss_one (ps_ret (pe_tup (pa_cons (pv 4) (pa_cons (pe_ix (show IxR _ (rIxT K) from ix_tup) (pv 3) pe_int (fun _ _ => rfl)) pa_nil)))))))), ?_⟩
    have hl : ns.length = hands.length := hR.len
    unfold deedM at q
    rw [← hl] at q hlen
    have hpos : (0 : Int) < ns.length := by omega
    obtain ⟨x, hx, hX⟩ := rows_at hR (i := two % ns.length) (Int.emod_nonneg _ (by omega)) (Int.emod_lt_of_pos _ hpos)
    have hm : hands.getD (two % ns.length).toNat .fin ∈ hands := getD_mem (by
      have := Int.emod_lt_of_pos two hpos
      have := Int.emod_nonneg two (show (ns.length : Int) ≠ 0 by omega)
      omega)
    have hnamed := hlend _ hm
    generalize hands.getD (two % ns.length).toNat .fin = h at *
    cases h with
    | lend hh hk hs =>
      obtain ⟨p, rfl, hp⟩ := hX
      have hP : SqT K H p [.str "lend", .str hh, .str hk, hs.v] := st_of hp
      refine' q_asg (v := .ref p) ?_ (fun H1 e1 => ?_)
      · walk_at "ev"
      refine' q_asg (v := .str (pick3 one "look" "back" "change")) ?_ (fun H2 e2 => ?_)
      · walk_at "ev"
      by_cases h0 : one % 3 = 0
      · rw [if_pos h0] at q
        have e0 : pick3 one ("look" : Str) "back" "change" = "look" := if_pos h0
        rw [e0]
        refine' q_when (b := false) ?_ (fun hb2 H6 e6 => ?_) (fun hb2 H6 e6 => ?_)
        · refine et_is (et_and (a := false) (b := false) ?_ (fun z => by cases z)) rfl
          refine et_is ?_ (show decide (V.str "look" = V.str "change") = false by decide +kernel)
          walk_at "ev"
        · cases hb2
        · refine s_retP ?_ (fun v H8 e8 hv => q v H8 (by walk_at "ex") hv)
          walk_at "row"
      · rw [if_neg h0] at q
        by_cases h1 : one % 3 = 1
        · rw [if_pos h1] at q
          have e0 : pick3 one ("look" : Str) "back" "change" = "back" := (if_neg h0).trans (if_pos h1)
          rw [e0]
          refine' q_when (b := false) ?_ (fun hb2 H6 e6 => ?_) (fun hb2 H6 e6 => ?_)
          · refine et_is (et_and (a := false) (b := false) ?_ (fun z => by cases z)) rfl
            refine et_is ?_ (show decide (V.str "back" = V.str "change") = false by decide +kernel)
            walk_at "ev"
          · cases hb2
          · refine s_retP ?_ (fun v H8 e8 hv => q v H8 (by walk_at "ex") hv)
            walk_at "row"
        · rw [if_neg h1] at q
          have e0 : pick3 one ("look" : Str) "back" "change" = "change" := (if_neg h0).trans (if_neg h1)
          rw [e0]
          refine' q_when ?_ (fun hb2 H6 e6 => ?_) (fun hb2 H6 e6 => ?_)
          rotate_left 1
          · walk_at "ev"
          · simp only [Bool.and_eq_true, decide_eq_true_eq, V.str.injEq] at hb2
            rw [if_pos (show (Rw.lend hh hk hs).kind = _ from hb2.2)] at q
            refine s_asg ev_c (fun H7 e7 => ?_)
            dsimp only
            refine s_retP ?_ (fun v H8 e8 hv => q v H8 (by walk_at "ex") hv)
            walk_at "row"
          · simp only [Bool.and_eq_false_iff, decide_eq_false_iff_not, V.str.injEq] at hb2
            have hk2 : ¬ (hk = "read") := fun z => by
              rcases hb2 with hb2 | hb2
              · exact hb2 (by first | trivial | rfl)
              · exact hb2 z
            rw [if_neg (show ¬ (Rw.lend hh hk hs).kind = _ from hk2)] at q
            refine s_retP ?_ (fun v H8 e8 hv => q v H8 (by walk_at "ex") hv)
            walk_at "row"
    | _ => cases hnamed
theorem ev_deed {one two : Int} {n : Addr} {ns : List V} {hands : List Rw} {ta : TA} {σ : L2.St} {H : Hp} {E : XK} (h : EvA ta σ H [.int one, .int two, .ref n]) (hN : SqL K H n ns) (hR : Rows H ns hands)
    (hn : ∀ r ∈ hands, r.isLend = true) (hl : 0 < hands.length) : EvP (tCall (spDeed K) [] E ta) σ H (ARow (deedM one two hands)) :=
  ep_call h fun H1 e Q q E => ⟨one, two, n, ns, hands, rfl, ex_l e hN, hR.up e, hn, hl, q⟩
theorem el_catV {ta tb : TE} {σ : L2.St} {H : Hp} {p : Addr} {xs ys : List V} (ha : Ev ta σ H (.ref p)) (hp : H p = some (.lst xs)) (hb : EvL tb σ H ys) (hl : xs.length + ys.length ≤ 100000) : EvL (tOp rCat ta tb) σ H (xs ++ ys) := fun H1 e Q q =>
  ha H1 e _ fun H2 e2 => hb H2 (e.trans e2) _ fun u H3 _ e3 hu => ⟨p, u, xs, ys, rfl, rfl, (e.trans (e2.trans e3)) _ _ hp, hu, sz_of hl, fun z hz => q z _ (fresh_back (e2.trans e3) hz) (e2.trans (e3.trans (Ex.new hz))) upd_same⟩
def namesM (one two deep : Int) (d : Draw) : List V := [.str (wordM one two deep d), .str (wordM two one (deep + 1) d), .str (wordM one one (deep + 2) d)]
def spHands (K : PySem.W.Frag) : Sp := fun vs H Q _ => ∃ (one two deep : Int) (a : Addr) (d : Draw), vs = [.int one, .int two, .int deep, .ref a] ∧ SqL K H a d.vs ∧ d.Ok ∧ 0 ≤ deep ∧ deep ≤ 18 ∧ RetL (namesM one two deep d) H Q
theorem ok_hands (D : Dn K mg "_law_hands" s_l_hands ["_law_one", "_law_two", "_law_deep", "_law_draw_here"]) (h_l_word : Has P w K mg base "_law_word" 1 ["_law_one", "_law_two", "_law_deep", "_law_draw_here"] (spWord K)) : Has P w K mg base "_law_hands" 2 ["_law_one", "_law_two", "_law_deep", "_law_draw_here"] (spHands K) := by
  refine D.ok sc_l_hands (fun vs H Q E h => ?_) (fun f cdv A outer s H vs Q E hr h => ?_)
  · obtain ⟨one, two, deep, a, d, rfl, _⟩ := h
    rfl
  · obtain ⟨one, two, deep, a, d, rfl, hS, ok, h0, h1, q⟩ := h
    refine ⟨_, (pss_cons (ps_set (i := 4) sc_l_hands.nd rfl (Or.inl rfl) (pe_lst (pa_cons (pe_own h_l_word (hr.mono (by decide)) (by rfl) (pa_cons (pv 0) (pa_cons (pv 1) (pa_cons (pv 2) (pa_cons (pv 3) pa_nil))))) (pa_cons (pe_own h_l_word (hr.mono (by decide)) (by rfl) (pa_cons (pv 1) (pa_cons (pv 0) (pa_cons (pe_op op_add (pv 2) pe_int) (pa_cons (pv 3) pa_nil))))) pa_nil)))) (pss_one (ps_ret (pe_op op_cat (pv 4) (pe_lst (pa_cons (pe_own h_l_word (hr.mono (by decide)) (by rfl) (pa_cons (pv 0) (pa_cons (pv 0) (pa_cons (pe_op op_add (pv 2) pe_int) (pa_cons (pv 3) pa_nil))))) pa_nil)))))), ?_⟩
    refine q_asgL (xs := [.str (wordM one two deep d), .str (wordM two one (deep + 1) d)]) ?_ (fun p H1 hp0 e1 hp => ?_)
    · walk_at "ev"
    refine s_retL (xs := namesM one two deep d) ?_ (fun p2 H2 hp2 e2 h2 => q p2 H2 (fresh_back e1 hp2) (by walk_at "ex") h2)
    refine el_catV (p := p) (xs := [.str (wordM one two deep d), .str (wordM two one (deep + 1) d)]) (ys := [.str (wordM one one (deep + 2) d)]) ?_ hp ?_ (by show 3 ≤ 100000; decide)
    · walk_at "ev"
    · walk_at "ev"
end
end BD
namespace BD
open PySem PySem.Spec PyProof.Rows L2 Evl
local macro_rules | `(tactic| walk_at "ev") => `(tactic| first
  | ((with_reducible apply ev_var) ; rfl)
  | with_reducible exact ev_c
  | ((with_reducible apply ev_I0) <;> walk_at "ev")
  | ((with_reducible apply ev_e9) <;> walk_at "ev")
  | ((with_reducible apply ev_I) <;> walk_at "ev")
  | ((with_reducible apply ev_eq) <;> walk_at "ev")
  | ((with_reducible apply ev_ne) <;> walk_at "ev")
  | ((with_reducible apply ev_neg) <;> walk_at "ev")
  | ((with_reducible apply ev_ixN) <;> walk_at "ev")
  | ((with_reducible apply ev_ixL) <;> walk_at "ev")
  | ((with_reducible apply ev_inN) <;> walk_at "ev")
  | ((with_reducible apply ev_inT) <;> walk_at "ev")
  | ((with_reducible apply ev_ixT) <;> walk_at "ev")
  | ((with_reducible apply ev_ixS) <;> walk_at "ev")
  | ((with_reducible apply ev_len') <;> walk_at "ev")
  | ((with_reducible apply et_test) <;> walk_at "ev")
  | ((with_reducible apply et_and) <;> walk_at "ev")
  | ((with_reducible apply et_or) <;> walk_at "ev")
  | ((with_reducible apply et_not) <;> walk_at "ev")
  | ((with_reducible apply et_B) <;> walk_at "ev")
  | ((with_reducible apply el_lst) <;> walk_at "ev")
  | ((with_reducible apply eu_tup) <;> walk_at "ev")
  | ((with_reducible apply ea_cons) <;> walk_at "ev")
  | with_reducible exact ea_nil
  | with_reducible assumption
  | ((with_reducible apply ex_l' ; assumption) ; walk_at "ex")
  | ((with_reducible apply ex_t' ; assumption) ; walk_at "ex")
  | (intro _ ; walk_at "ev")
  | (with_reducible first | exact atI_hd | exact at_kind | exact at2s | exact at3s | exact at3i)
  | (first | exact rfl | exact Nat.le_of_ble_eq_true rfl | exact ⟨by decide, by decide⟩ | decide | exact Or.inl ⟨by omega, by omega⟩ | exact Or.inr ⟨by omega, by omega⟩ | omega)
  | skip)
local macro_rules | `(tactic| walk_at "ex") => `(tactic| first
  | assumption
  | exact Ex.refl _
  | (refine' Ex.trans ?_ (by assumption) ; walk_at "ex"))
local macro_rules | `(tactic| walk_at "row") => `(tactic| first
  | (with_reducible exact er_nil)
  | ((with_reducible apply er_cons) <;> walk_at "row")
  | (((with_reducible apply er_var) ; rfl) ; walk_at "isrow")
  | (((with_reducible apply elr_var) ; rfl) ; walk_at "isrow")
  | ((with_reducible apply elr_cat) <;> walk_at "row")
  | ((with_reducible apply elr_lst) <;> walk_at "row")
  | ((with_reducible apply er_fin) <;> walk_at "ev")
  | ((with_reducible apply er_lendT) <;> walk_at "ev")
  | ((with_reducible apply er_lendW) <;> walk_at "ev")
  | ((with_reducible apply er_pick) <;> walk_at "ev")
  | ((with_reducible apply er_either) <;> walk_at "ev")
  | ((with_reducible apply er_or) <;> walk_at "ev")
  | ((with_reducible apply er_again) <;> walk_at "ev")
  | ((with_reducible apply er_back) <;> walk_at "ev")
  | ((with_reducible apply er_look) <;> walk_at "ev")
  | ((with_reducible apply er_change) <;> walk_at "ev")
  | exact Nat.le_of_ble_eq_true rfl
  | skip)
local macro_rules | `(tactic| walk_at "isrow") => `(tactic| first
  | assumption
  | (refine IsRow.up ?_ (by assumption) ; walk_at "ex")
  | (refine LRows.up ?_ (by assumption) ; walk_at "ex"))

local macro_rules | `(tactic| walk_at "ev") => `(tactic| ((with_reducible apply ev_letter) <;> walk_at "ev"))
local macro_rules | `(tactic| walk_at "ev") => `(tactic| ((with_reducible apply ev_cell) <;> walk_at "ev"))
local macro_rules | `(tactic| walk_at "ev") => `(tactic| ((with_reducible apply ev_word) <;> walk_at "ev"))
local macro_rules | `(tactic| walk_at "ev") => `(tactic| ((with_reducible apply ev_thing) <;> walk_at "ev"))

abbrev s_l_first_four : Stmt := topS 66
theorem sc_l_first_four : FnScope ["_law_way", "_law_one", "_law_two", "_law_names", "_law_thing_here", "_law_a", "_law_b", "_law_c", "_law_kind", "_law_end", "_law_rows", "_law_first"] ["_law_way", "_law_one", "_law_two", "_law_names", "_law_thing_here"] (defScope s_l_first_four) := ⟨rfl, rfl, rfl, by decide +kernel, rfl, by decide +kernel, by decide +kernel⟩
abbrev s_l_gadget : Stmt := topS 67
theorem sc_l_gadget : FnScope ["_law_one", "_law_two", "_law_deep", "_law_draw_here", "_law_names", "_law_a", "_law_b", "_law_thing_here", "_law_far", "_law_last_here", "_law_kind", "_law_end", "_law_way", "_law_rows"] ["_law_one", "_law_two", "_law_deep", "_law_draw_here"] (defScope s_l_gadget) := ⟨rfl, rfl, rfl, by decide +kernel, rfl, by decide +kernel, by decide +kernel⟩
section
variable {P : Program} {w : World} {K : PySem.W.Frag} {mg : Str → Option Value} {base : Heap}
def fourM (way one two : Int) (a b c : Str) (t : Int) : List Rw :=
  if way = 0 then [.lend a (kindM (one / 8)) (.thing t), .again, .look a, .back a, .fin, .fin]
  else if way = 1 then [.lend a (kindM (one / 8)) (.thing t), .either, .back a, .or, .look a, .fin] ++ [.look a, .fin]
  else if way = 2 then [.lend a "write" (.thing t), .lend b "write" (.word a), .lend c (kindM (one / 8)) (.word b)] ++ [.back (pick3 two a b a), .look (pick3 one c c b), .fin, .fin, .fin]
  else [.lend a "write" (.thing t), .lend b "read" (.word a), .lend c (kindM two) (.thing t), .again] ++ [.back b, .fin, .fin, .fin, .fin]
def spFour (K : PySem.W.Frag) : Sp := fun vs H Q _ => ∃ (way one two t : Int) (p : Addr) (a b c : Str), vs = [.int way, .int one, .int two, .ref p, .int t] ∧ SqL K H p [.str a, .str b, .str c] ∧ Ret (LRows (fourM way one two a b c t)) H Q
theorem ok_four (D : Dn K mg "_law_first_four" s_l_first_four ["_law_way", "_law_one", "_law_two", "_law_names", "_law_thing_here"]) : Has P w K mg base "_law_first_four" 1 ["_law_way", "_law_one", "_law_two", "_law_names", "_law_thing_here"] (spFour K) := by
  refine D.ok sc_l_first_four (fun vs H Q E h => ?_) (fun f cdv A outer s H vs Q E hr h => ?_)
  · obtain ⟨way, one, two, t, p, a, b, c, rfl, _⟩ := h
    rfl
  · obtain ⟨way, one, two, t, p, a, b, c, rfl, hS, q⟩ := h
    refine ⟨_, (pss_cons (ps_set (i := 5) sc_l_first_four.nd rfl (Or.inl rfl) (pe_ix (show IxR _ (rIxL K) from ix_list) (pv 3) pe_int (fun _ _ => rfl))) (pss_cons (ps_set (i := 6) sc_l_first_four.nd rfl (Or.inl rfl) (pe_ix (show IxR _ (rIxL K) from ix_list) (pv 3) pe_int (fun _ _ => rfl))) (pss_cons (ps_set (i := 7) sc_l_first_four.nd rfl (Or.inl rfl) (pe_ix (show IxR _ (rIxL K) from ix_list) (pv 3) pe_int (fun _ _ => rfl))) (pss_cons (ps_set (i := 8) sc_l_first_four.nd rfl (Or.inl rfl) (pe_ix (show IxR _ (rIxL K) from ix_list) (pe_lst (pa_cons pe_str (pa_cons pe_str pa_nil))) (pe_op op_mod (pe_op op_fdiv (pv 1) pe_int) pe_int) (fun _ _ => rfl))) (pss_cons (ps_set (i := 9) sc_l_first_four.nd rfl (Or.inl rfl) (pe_tup (pa_cons pe_str pa_nil))) (pss_cons (ps_if (pt_cmpR op_eq (pv 0) pe_int (nomark _)) (pss_one (ps_ret (pe_lst (pa_cons (pe_tup (pa_cons pe_str (pa_cons (pv 5) (pa_cons (pv 8) (pa_cons (pv 4) pa_nil))))) (pa_cons (pe_tup (pa_cons pe_str pa_nil)) (pa_cons (pe_tup (pa_cons pe_str (pa_cons (pv 5) pa_nil))) (pa_cons (pe_tup (pa_cons pe_str (pa_cons (pv 5) pa_nil))) (pa_cons (pv 9) (pa_cons (pv 9) pa_nil))))))))) pss_nil) (pss_cons (ps_if (pt_cmpR op_eq (pv 0) pe_int (nomark _)) (pss_cons (ps_set (i := 10) sc_l_first_four.nd rfl (Or.inl rfl) (pe_lst (pa_cons (pe_tup (pa_cons pe_str (pa_cons (pv 5) (pa_cons (pv 8) (pa_cons (pv 4) pa_nil))))) (pa_cons (pe_tup (pa_cons pe_str pa_nil)) (pa_cons (pe_tup (pa_cons pe_str (pa_cons (pv 5) pa_nil))) (pa_cons (pe_tup (pa_cons pe_str pa_nil)) (pa_cons (pe_tup (pa_cons pe_str (pa_cons (pv 5) pa_nil))) (pa_cons (pv 9) pa_nil)))))))) (pss_one (ps_ret (pe_op op_cat (pv 10) (pe_lst (pa_cons (pe_tup (pa_cons pe_str (pa_cons (pv 5) pa_nil))) (pa_cons (pv 9) pa_nil))))))) pss_nil) (pss_cons (ps_set (i := 11) sc_l_first_four.nd rfl (Or.inl rfl) (pe_tup (pa_cons pe_str (pa_cons (pv 5) (pa_cons pe_str (pa_cons (pv 4) pa_nil)))))) (pss_cons (ps_if (pt_cmpR op_eq (pv 0) pe_int (nomark _)) (pss_cons (ps_set (i := 10) sc_l_first_four.nd rfl (Or.inl rfl) (pe_lst (pa_cons (pv 11) (pa_cons (pe_tup (pa_cons pe_str (pa_cons (pv 6) (pa_cons pe_str (pa_cons (pv 5) pa_nil))))) (pa_cons (pe_tup (pa_cons pe_str (pa_cons (pv 7) (pa_cons (pv 8) (pa_cons (pv 6) pa_nil))))) pa_nil))))) (pss_one (ps_ret (pe_op op_cat (pv 10) (pe_lst (pa_cons (pe_tup (pa_cons pe_str (pa_cons (pe_ix (show IxR _ (rIxL K) from ix_list) (pe_lst (pa_cons (pv 5) (pa_cons (pv 6) (pa_cons (pv 5) pa_nil)))) (pe_op op_mod (pv 2) pe_int) (fun _ _ => rfl)) pa_nil))) (pa_cons (pe_tup (pa_cons pe_str (pa_cons (pe_ix (show IxR _ (rIxL K) from ix_list) (pe_lst (pa_cons (pv 7) (pa_cons (pv 7) (pa_cons (pv 6) pa_nil)))) (pe_op op_mod (pv 1) pe_int) (fun _ _ => rfl)) pa_nil))) (pa_cons (pv 9) (pa_cons (pv 9) (pa_cons (pv 9) pa_nil)))))))))) pss_nil) (pss_cons (ps_set (i := 10) sc_l_first_four.nd rfl (Or.inl rfl) (pe_lst (pa_cons (pv 11) (pa_cons (pe_tup (pa_cons pe_str (pa_cons (pv 6) (pa_cons pe_str (pa_cons (pv 5) pa_nil))))) (pa_cons (pe_tup (pa_cons pe_str (pa_cons (pv 7) (pa_cons (pe_ix (show IxR _ (rIxL K) from ix_list) (pe_lst (pa_cons pe_str (pa_cons pe_str pa_nil))) (pe_op op_mod (pv 2) pe_int) (fun _ _ => rfl)) (pa_cons (pv 4) pa_nil))))) (pa_cons (pe_tup (pa_cons pe_str pa_nil)) pa_nil)))))) (pss_one (ps_ret (pe_op op_cat (pv 10) (pe_lst (pa_cons (pe_tup (pa_cons pe_str (pa_cons (pv 6) pa_nil))) (pa_cons (pv 9) (pa_cons (pv 9) (pa_cons (pv 9) (pa_cons (pv 9) pa_nil))))))))))))))))))), ?_⟩
    show (_ : L2.TS) _ [_, _, _, _, _, _, _, _, _, _, _, _] _
    unfold fourM at q
    refine' q_asg (v := .str a) ?_ (fun H1 e1 => ?_)
    · walk_at "ev"
    show (_ : L2.TS) _ [_, _, _, _, _, _, _, _, _, _, _, _] _
    refine' q_asg (v := .str b) ?_ (fun H2 e2 => ?_)
    · walk_at "ev"
    show (_ : L2.TS) _ [_, _, _, _, _, _, _, _, _, _, _, _] _
    refine' q_asg (v := .str c) ?_ (fun H3 e3 => ?_)
    · walk_at "ev"
    show (_ : L2.TS) _ [_, _, _, _, _, _, _, _, _, _, _, _] _
    refine' q_asg (v := .str (kindM (one / 8))) ?_ (fun H4 e4 => ?_)
    · walk_at "ev"
    show (_ : L2.TS) _ [_, _, _, _, _, _, _, _, _, _, _, _] _
    refine' q_asgP (R := ARow .fin) ?_ (fun v H5 e5 hv => ?_)
    · walk_at "row"
    show (_ : L2.TS) _ [_, _, _, _, _, _, _, _, _, _, _, _] _
    have hv : IsRow H5 v .fin := hv
    refine' q_when (b := decide (V.int way = V.int 0)) ?_ (fun hb H6 e6 => ?_) (fun hb H6 e6 => ?_)
    · walk_at "ev"
    · simp only [decide_eq_true_eq, V.int.injEq] at hb
      rw [if_pos hb] at q
      refine s_retP ?_ (fun v H8 e8 hv => q v H8 (by walk_at "ex") hv)
      walk_at "row"
    · simp only [decide_eq_false_iff_not, V.int.injEq] at hb
      rw [if_neg hb] at q
      refine' q_when (b := decide (V.int way = V.int 1)) ?_ (fun hb H7 e7 => ?_) (fun hb H7 e7 => ?_)
      · walk_at "ev"
      · simp only [decide_eq_true_eq, V.int.injEq] at hb
        rw [if_pos hb] at q
        refine' q_asgP (R := LRows [.lend a (kindM (one / 8)) (.thing t), .either, .back a, .or, .look a, .fin]) ?_ (fun u H8 e8 hu => ?_)
        · walk_at "row"
        show (_ : L2.TS) _ [_, _, _, _, _, _, _, _, _, _, _, _] _
        refine s_retP ?_ (fun v H9 e9 hv => q v H9 (by walk_at "ex") hv)
        walk_at "row"
      · simp only [decide_eq_false_iff_not, V.int.injEq] at hb
        rw [if_neg hb] at q
        refine' q_asgP (R := ARow (.lend a "write" (.thing t))) ?_ (fun x H8 e8 hx => ?_)
        · walk_at "row"
        show (_ : L2.TS) _ [_, _, _, _, _, _, _, _, _, _, _, _] _
        have hx : IsRow H8 x (.lend a "write" (.thing t)) := hx
        refine' q_when (b := decide (V.int way = V.int 2)) ?_ (fun hb H9 e9 => ?_) (fun hb H9 e9 => ?_)
        · walk_at "ev"
        · simp only [decide_eq_true_eq, V.int.injEq] at hb
          rw [if_pos hb] at q
          refine' q_asgP (R := LRows [.lend a "write" (.thing t), .lend b "write" (.word a), .lend c (kindM (one / 8)) (.word b)]) ?_ (fun u H10 e10 hu => ?_)
          · walk_at "row"
          show (_ : L2.TS) _ [_, _, _, _, _, _, _, _, _, _, _, _] _
          refine s_retP ?_ (fun v H11 e11 hv => q v H11 (by walk_at "ex") hv)
          walk_at "row"
        · simp only [decide_eq_false_iff_not, V.int.injEq] at hb
          rw [if_neg hb] at q
          refine' q_asgP (R := LRows [.lend a "write" (.thing t), .lend b "read" (.word a), .lend c (kindM two) (.thing t), .again]) ?_ (fun u H10 e10 hu => ?_)
          · walk_at "row"
          show (_ : L2.TS) _ [_, _, _, _, _, _, _, _, _, _, _, _] _
          refine s_retP ?_ (fun v H11 e11 hv => q v H11 (by walk_at "ex") hv)
          walk_at "row"
theorem ep_four {way one two t : Int} {p : Addr} {a b c : Str} {ta : TA} {σ : L2.St} {H : Hp} {E : XK} (h : EvA ta σ H [.int way, .int one, .int two, .ref p, .int t]) (hS : SqL K H p [.str a, .str b, .str c]) :
    EvP (tCall (spFour K) [] E ta) σ H (LRows (fourM way one two a b c t)) :=
  ep_call h fun H1 e Q q E => ⟨way, one, two, t, p, a, b, c, rfl, ex_l e hS, q⟩
def gadA (one two : Int) (a b c : Str) (t : Int) : List Rw :=
  if one % 8 < 4 then fourM (one % 8) one two a b c t
  else if one % 8 = 4 then [.pick c [t, t, (t + 1) % 1000000000, (t + 1) % 1000000000, (t + 2) % 1000000000]] ++ [.lend a "write" (.thing (pick3 two t ((t + 1) % 1000000000) ((t + 2) % 1000000000))), .lend b (kindM (one / 8)) (.word c)] ++ [.fin, .fin, .fin]
  else if one % 8 = 5 then [.lend a "write" (.thing t), .lend b "read" (.word a), .either, .back (pick2 two a b)] ++ [.or, .look b, .fin, .look a, .fin, .fin]
  else if one % 8 = 6 then [.lend a (kindM (one / 8)) (.thing ((t + 1) % 1000000000)), .lend b (kindM two) (.thing t)] ++ [.lend c "write" (.thing t), .look b, .fin, .fin, .fin]
  else if two % 3 = 0 then [.lend a "write" (.thing t), .back a, .lend b (kindM (one / 8)) (.word a), .look b, .fin, .fin]
  else [.pick c [(t + 1) % 1000000000, t], .lend a "write" (.thing t), .either, .back a] ++ [.or, .fin, .lend b (kindM (one / 8)) (.word c), .look a, .fin, .fin, .fin]
def gadgetM (one two deep : Int) (d : Draw) : List Rw := gadA one two (wordM one two deep d) (wordM two one (deep + 1) d) (wordM one one (deep + 2) d) (thingM two d.base)
def spGadget (K : PySem.W.Frag) : Sp := fun vs H Q _ => ∃ (one two deep : Int) (a : Addr) (d : Draw), vs = [.int one, .int two, .int deep, .ref a] ∧ SqL K H a d.vs ∧ d.Ok ∧ 0 ≤ deep ∧ deep ≤ 18 ∧ Ret (LRows (gadgetM one two deep d)) H Q
theorem el_hands {one two deep : Int} {a : Addr} {d : Draw} {ta : TA} {σ : L2.St} {H : Hp} {E : XK} (h : EvA ta σ H [.int one, .int two, .int deep, .ref a]) (hS : SqL K H a d.vs) (ok : d.Ok) (h0 : 0 ≤ deep) (h1 : deep ≤ 18) :
    EvL (tCall (spHands K) [] E ta) σ H (namesM one two deep d) :=
  el_call h fun H1 e Q q E => ⟨one, two, deep, a, d, rfl, ex_l e hS, ok, h0, h1, fun p H2 hp e2 h2 => q p H2 hp e2 h2⟩
theorem ok_gadget (D : Dn K mg "_law_gadget" s_l_gadget ["_law_one", "_law_two", "_law_deep", "_law_draw_here"]) (h_l_hands : Has P w K mg base "_law_hands" 2 ["_law_one", "_law_two", "_law_deep", "_law_draw_here"] (spHands K)) (h_l_thing : Has P w K mg base "_law_thing" 1 ["_law_cell", "_law_base"] spThing) (h_l_first_four : Has P w K mg base "_law_first_four" 1 ["_law_way", "_law_one", "_law_two", "_law_names", "_law_thing_here"] (spFour K)) : Has P w K mg base "_law_gadget" 3 ["_law_one", "_law_two", "_law_deep", "_law_draw_here"] (spGadget K) := by
  refine D.ok sc_l_gadget (fun vs H Q E h => ?_) (fun f cdv A outer s H vs Q E hr h => ?_)
  · obtain ⟨one, two, deep, a, d, rfl, _⟩ := h
    rfl
  · obtain ⟨one, two, deep, ad, d, rfl, hS, ok, h0, h1, q⟩ := h
    refine ⟨_, (pss_cons (ps_set (i := 4) sc_l_gadget.nd rfl (Or.inl rfl) (pe_own h_l_hands (hr.mono (by decide)) (by rfl) (pa_cons (pv 0) (pa_cons (pv 1) (pa_cons (pv 2) (pa_cons (pv 3) pa_nil)))))) (pss_cons (ps_set (i := 5) sc_l_gadget.nd rfl (Or.inl rfl) (pe_ix (show IxR _ (rIxL K) from ix_list) (pv 4) pe_int (fun _ _ => rfl))) (pss_cons (ps_set (i := 6) sc_l_gadget.nd rfl (Or.inl rfl) (pe_ix (show IxR _ (rIxL K) from ix_list) (pv 4) pe_int (fun _ _ => rfl))) (pss_cons (ps_set (i := 7) sc_l_gadget.nd rfl (Or.inl rfl) (pe_own h_l_thing (hr.mono (by decide)) (by rfl) (pa_cons (pv 1) (pa_cons (pe_ix (show IxR _ (rIxL K) from ix_list) (pv 3) pe_int (fun _ _ => rfl)) pa_nil)))) (pss_cons (ps_set (i := 8) sc_l_gadget.nd rfl (Or.inl rfl) (pe_op op_mod (pe_op op_add (pv 7) pe_int) (pe_op op_pow pe_int pe_int))) (pss_cons (ps_set (i := 9) sc_l_gadget.nd rfl (Or.inl rfl) (pe_op op_mod (pe_op op_add (pv 7) pe_int) (pe_op op_pow pe_int pe_int))) (pss_cons (ps_set (i := 10) sc_l_gadget.nd rfl (Or.inl rfl) (pe_ix (show IxR _ (rIxL K) from ix_list) (pe_lst (pa_cons pe_str (pa_cons pe_str pa_nil))) (pe_op op_mod (pe_op op_fdiv (pv 0) pe_int) pe_int) (fun _ _ => rfl))) (pss_cons (ps_set (i := 11) sc_l_gadget.nd rfl (Or.inl rfl) (pe_tup (pa_cons pe_str pa_nil))) (pss_cons (ps_set (i := 12) sc_l_gadget.nd rfl (Or.inl rfl) (pe_op op_mod (pv 0) pe_int)) (pss_cons (ps_if (pt_cmpR op_lt (pv 12) pe_int (nomark _)) (pss_one (ps_ret (pe_own h_l_first_four (hr.mono (by decide)) (by rfl) (pa_cons (pv 12) (pa_cons (pv 0) (pa_cons (pv 1) (pa_cons (pv 4) (pa_cons (pv 7) pa_nil)))))))) pss_nil) (pss_cons (ps_if (pt_cmpR op_eq (pv 12) pe_int (nomark _)) (pss_cons (ps_set (i := 13) sc_l_gadget.nd rfl (Or.inl rfl) (pe_lst (pa_cons (pe_tup (pa_cons pe_str (pa_cons (pe_ix (show IxR _ (rIxL K) from ix_list) (pv 4) pe_int (fun _ _ => rfl)) (pa_cons (pe_tup (pa_cons (pv 7) (pa_cons (pv 7) (pa_cons (pv 8) (pa_cons (pv 8) (pa_cons (pv 9) pa_nil)))))) pa_nil)))) pa_nil))) (pss_cons (ps_set (i := 13) sc_l_gadget.nd rfl (Or.inl rfl) (pe_op op_cat (pv 13) (pe_lst (pa_cons (pe_tup (pa_cons pe_str (pa_cons (pv 5) (pa_cons pe_str (pa_cons (pe_ix (show IxR _ (rIxL K) from ix_list) (pe_lst (pa_cons (pv 7) (pa_cons (pv 8) (pa_cons (pv 9) pa_nil)))) (pe_op op_mod (pv 1) pe_int) (fun _ _ => rfl)) pa_nil))))) (pa_cons (pe_tup (pa_cons pe_str (pa_cons (pv 6) (pa_cons (pv 10) (pa_cons (pe_ix (show IxR _ (rIxL K) from ix_list) (pv 4) pe_int (fun _ _ => rfl)) pa_nil))))) pa_nil))))) (pss_one (ps_ret (pe_op op_cat (pv 13) (pe_lst (pa_cons (pv 11) (pa_cons (pv 11) (pa_cons (pv 11) pa_nil))))))))) pss_nil) (pss_cons (ps_if (pt_cmpR op_eq (pv 12) pe_int (nomark _)) (pss_cons (ps_set (i := 13) sc_l_gadget.nd rfl (Or.inl rfl) (pe_lst (pa_cons (pe_tup (pa_cons pe_str (pa_cons (pv 5) (pa_cons pe_str (pa_cons (pv 7) pa_nil))))) (pa_cons (pe_tup (pa_cons pe_str (pa_cons (pv 6) (pa_cons pe_str (pa_cons (pv 5) pa_nil))))) (pa_cons (pe_tup (pa_cons pe_str pa_nil)) (pa_cons (pe_tup (pa_cons pe_str (pa_cons (pe_ix (show IxR _ (rIxL K) from ix_list) (pe_lst (pa_cons (pv 5) (pa_cons (pv 6) pa_nil))) (pe_op op_mod (pv 1) pe_int) (fun _ _ => rfl)) pa_nil))) pa_nil)))))) (pss_one (ps_ret (pe_op op_cat (pv 13) (pe_lst (pa_cons (pe_tup (pa_cons pe_str pa_nil)) (pa_cons (pe_tup (pa_cons pe_str (pa_cons (pv 6) pa_nil))) (pa_cons (pv 11) (pa_cons (pe_tup (pa_cons pe_str (pa_cons (pv 5) pa_nil))) (pa_cons (pv 11) (pa_cons (pv 11) pa_nil))))))))))) pss_nil) (pss_cons (ps_if (pt_cmpR op_eq (pv 12) pe_int (nomark _)) (pss_cons (ps_set (i := 13) sc_l_gadget.nd rfl (Or.inl rfl) (pe_lst (pa_cons (pe_tup (pa_cons pe_str (pa_cons (pv 5) (pa_cons (pv 10) (pa_cons (pv 8) pa_nil))))) (pa_cons (pe_tup (pa_cons pe_str (pa_cons (pv 6) (pa_cons (pe_ix (show IxR _ (rIxL K) from ix_list) (pe_lst (pa_cons pe_str (pa_cons pe_str pa_nil))) (pe_op op_mod (pv 1) pe_int) (fun _ _ => rfl)) (pa_cons (pv 7) pa_nil))))) pa_nil)))) (pss_one (ps_ret (pe_op op_cat (pv 13) (pe_lst (pa_cons (pe_tup (pa_cons pe_str (pa_cons (pe_ix (show IxR _ (rIxL K) from ix_list) (pv 4) pe_int (fun _ _ => rfl)) (pa_cons pe_str (pa_cons (pv 7) pa_nil))))) (pa_cons (pe_tup (pa_cons pe_str (pa_cons (pv 6) pa_nil))) (pa_cons (pv 11) (pa_cons (pv 11) (pa_cons (pv 11) pa_nil)))))))))) pss_nil) (pss_cons (ps_if (pt_cmpR op_eq (pe_op op_mod (pv 1) pe_int) pe_int (nomark _)) (pss_one (ps_ret (pe_lst (pa_cons (pe_tup (pa_cons pe_str (pa_cons (pv 5) (pa_cons pe_str (pa_cons (pv 7) pa_nil))))) (pa_cons (pe_tup (pa_cons pe_str (pa_cons (pv 5) pa_nil))) (pa_cons (pe_tup (pa_cons pe_str (pa_cons (pv 6) (pa_cons (pv 10) (pa_cons (pv 5) pa_nil))))) (pa_cons (pe_tup (pa_cons pe_str (pa_cons (pv 6) pa_nil))) (pa_cons (pv 11) (pa_cons (pv 11) pa_nil))))))))) pss_nil) (pss_cons (ps_set (i := 13) sc_l_gadget.nd rfl (Or.inl rfl) (pe_lst (pa_cons (pe_tup (pa_cons pe_str (pa_cons (pe_ix (show IxR _ (rIxL K) from ix_list) (pv 4) pe_int (fun _ _ => rfl)) (pa_cons (pe_tup (pa_cons (pv 8) (pa_cons (pv 7) pa_nil))) pa_nil)))) (pa_cons (pe_tup (pa_cons pe_str (pa_cons (pv 5) (pa_cons pe_str (pa_cons (pv 7) pa_nil))))) (pa_cons (pe_tup (pa_cons pe_str pa_nil)) (pa_cons (pe_tup (pa_cons pe_str (pa_cons (pv 5) pa_nil))) pa_nil)))))) (pss_one (ps_ret (pe_op op_cat (pv 13) (pe_lst (pa_cons (pe_tup (pa_cons pe_str pa_nil)) (pa_cons (pv 11) (pa_cons (pe_tup (pa_cons pe_str (pa_cons (pv 6) (pa_cons (pv 10) (pa_cons (pe_ix (show IxR _ (rIxL K) from ix_list) (pv 4) pe_int (fun _ _ => rfl)) pa_nil))))) (pa_cons (pe_tup (pa_cons pe_str (pa_cons (pv 5) pa_nil))) (pa_cons (pv 11) (pa_cons (pv 11) (pa_cons (pv 11) pa_nil)))))))))))))))))))))))))), ?_⟩
    show (_ : L2.TS) _ [_, _, _, _, _, _, _, _, _, _, _, _, _, _] _
    unfold gadgetM at q
    refine q_asgL (xs := namesM one two deep d) ?_ (fun pn H1 hpn e1 h1n => ?_)
    · refine el_hands ?_ hS ok h0 h1
      walk_at "ev"
    unfold namesM at h1n
    generalize wordM one two deep d = a at *
    generalize wordM two one (deep + 1) d = b at *
    generalize wordM one one (deep + 2) d = c at *
    have hNm : SqL K H1 pn [.str a, .str b, .str c] := sq_of h1n
    refine' q_asg (v := .str a) ?_ (fun H2 e2 => ?_)
    · walk_at "ev"
    show (_ : L2.TS) _ [_, _, _, _, _, _, _, _, _, _, _, _, _, _] _
    refine' q_asg (v := .str b) ?_ (fun H3 e3 => ?_)
    · walk_at "ev"
    show (_ : L2.TS) _ [_, _, _, _, _, _, _, _, _, _, _, _, _, _] _
    refine' q_asg (v := .int (thingM two d.base)) ?_ (fun H4 e4 => ?_)
    · walk_at "ev"
    show (_ : L2.TS) _ [_, _, _, _, _, _, _, _, _, _, _, _, _, _] _
    generalize thingM two d.base = t at *
    unfold gadA at q
    refine' q_asg (v := .int ((t + 1) % 1000000000)) ?_ (fun H5 e5 => ?_)
    · walk_at "ev"
    show (_ : L2.TS) _ [_, _, _, _, _, _, _, _, _, _, _, _, _, _] _
    refine' q_asg (v := .int ((t + 2) % 1000000000)) ?_ (fun H6 e6 => ?_)
    · walk_at "ev"
    show (_ : L2.TS) _ [_, _, _, _, _, _, _, _, _, _, _, _, _, _] _
    generalize (t + 1) % 1000000000 = far at *
    generalize (t + 2) % 1000000000 = last at *
    refine' q_asg (v := .str (kindM (one / 8))) ?_ (fun H7 e7 => ?_)
    · walk_at "ev"
    show (_ : L2.TS) _ [_, _, _, _, _, _, _, _, _, _, _, _, _, _] _
    refine' q_asgP (R := ARow .fin) ?_ (fun v H8 e8 hv => ?_)
    · walk_at "row"
    show (_ : L2.TS) _ [_, _, _, _, _, _, _, _, _, _, _, _, _, _] _
    have hv : IsRow H8 v .fin := hv
    refine' q_asg (v := .int (one % 8)) ?_ (fun H9 e9 => ?_)
    · walk_at "ev"
    show (_ : L2.TS) _ [_, _, _, _, _, _, _, _, _, _, _, _, _, _] _
    refine' q_when (b := decide (one % 8 < 4)) ?_ (fun hb H10 e10 => ?_) (fun hb H10 e10 => ?_)
    · walk_at "ev"
    · simp only [decide_eq_true_eq] at hb
      rw [if_pos hb] at q
      refine s_retP (ep_four (p := pn) ?_ ?_) (fun v H11 e11 hv => q v H11 (by walk_at "ex") hv)
      · walk_at "ev"
      · walk_at "ev"
    · simp only [decide_eq_false_iff_not] at hb
      rw [if_neg hb] at q
      refine' q_when (b := decide (V.int (one % 8) = V.int 4)) ?_ (fun hb H11 e11 => ?_) (fun hb H11 e11 => ?_)
      · walk_at "ev"
      · simp only [decide_eq_true_eq, V.int.injEq] at hb
        rw [if_pos hb] at q
        refine' q_asgP (R := LRows [.pick c [t, t, far, far, last]]) ?_ (fun u H12 e12 hu => ?_)
        · walk_at "row"
        show (_ : L2.TS) _ [_, _, _, _, _, _, _, _, _, _, _, _, _, _] _
        refine' q_asgP (R := LRows ([.pick c [t, t, far, far, last]] ++ [.lend a "write" (.thing (pick3 two t far last)), .lend b (kindM (one / 8)) (.word c)])) ?_ (fun u H13 e13 hu => ?_)
        · walk_at "row"
        show (_ : L2.TS) _ [_, _, _, _, _, _, _, _, _, _, _, _, _, _] _
        refine s_retP ?_ (fun v H14 e14 hv => q v H14 (by walk_at "ex") hv)
        walk_at "row"
      · simp only [decide_eq_false_iff_not, V.int.injEq] at hb
        rw [if_neg hb] at q
        refine' q_when (b := decide (V.int (one % 8) = V.int 5)) ?_ (fun hb H12 e12 => ?_) (fun hb H12 e12 => ?_)
        · walk_at "ev"
        · simp only [decide_eq_true_eq, V.int.injEq] at hb
          rw [if_pos hb] at q
          refine' q_asgP (R := LRows [.lend a "write" (.thing t), .lend b "read" (.word a), .either, .back (pick2 two a b)]) ?_ (fun u H13 e13 hu => ?_)
          · walk_at "row"
          show (_ : L2.TS) _ [_, _, _, _, _, _, _, _, _, _, _, _, _, _] _
          refine s_retP ?_ (fun v H14 e14 hv => q v H14 (by walk_at "ex") hv)
          walk_at "row"
        · simp only [decide_eq_false_iff_not, V.int.injEq] at hb
          rw [if_neg hb] at q
          refine' q_when (b := decide (V.int (one % 8) = V.int 6)) ?_ (fun hb H13 e13 => ?_) (fun hb H13 e13 => ?_)
          · walk_at "ev"
          · simp only [decide_eq_true_eq, V.int.injEq] at hb
            rw [if_pos hb] at q
            refine' q_asgP (R := LRows [.lend a (kindM (one / 8)) (.thing far), .lend b (kindM two) (.thing t)]) ?_ (fun u H14 e14 hu => ?_)
            · walk_at "row"
            show (_ : L2.TS) _ [_, _, _, _, _, _, _, _, _, _, _, _, _, _] _
            refine s_retP ?_ (fun v H15 e15 hv => q v H15 (by walk_at "ex") hv)
            walk_at "row"
          · simp only [decide_eq_false_iff_not, V.int.injEq] at hb
            rw [if_neg hb] at q
            refine' q_when (b := decide (V.int (two % 3) = V.int 0)) ?_ (fun hb H14 e14 => ?_) (fun hb H14 e14 => ?_)
            · walk_at "ev"
            · simp only [decide_eq_true_eq, V.int.injEq] at hb
              rw [if_pos hb] at q
              refine s_retP ?_ (fun v H15 e15 hv => q v H15 (by walk_at "ex") hv)
              walk_at "row"
            · simp only [decide_eq_false_iff_not, V.int.injEq] at hb
              rw [if_neg hb] at q
              refine' q_asgP (R := LRows [.pick c [far, t], .lend a "write" (.thing t), .either, .back a]) ?_ (fun u H15 e15 hu => ?_)
              · walk_at "row"
              show (_ : L2.TS) _ [_, _, _, _, _, _, _, _, _, _, _, _, _, _] _
              refine s_retP ?_ (fun v H16 e16 hv => q v H16 (by walk_at "ex") hv)
              walk_at "row"
theorem ep_gadget {one two deep : Int} {a : Addr} {d : Draw} {ta : TA} {σ : L2.St} {H : Hp} {E : XK} (h : EvA ta σ H [.int one, .int two, .int deep, .ref a]) (hS : SqL K H a d.vs) (ok : d.Ok) (h0 : 0 ≤ deep) (h1 : deep ≤ 18) :
    EvP (tCall (spGadget K) [] E ta) σ H (LRows (gadgetM one two deep d)) :=
  ep_call h fun H1 e Q q E => ⟨one, two, deep, a, d, rfl, ex_l e hS, ok, h0, h1, q⟩
end
end BD
namespace BD
open PySem PySem.Spec PyProof.Rows L2 Evl
local macro_rules | `(tactic| walk_at "ev") => `(tactic| first
  | ((with_reducible apply ev_var) ; rfl)
  | with_reducible exact ev_c
  | ((with_reducible apply ev_I0) <;> walk_at "ev")
  | ((with_reducible apply ev_e9) <;> walk_at "ev")
  | ((with_reducible apply ev_I) <;> walk_at "ev")
  | ((with_reducible apply ev_eq) <;> walk_at "ev")
  | ((with_reducible apply ev_ne) <;> walk_at "ev")
  | ((with_reducible apply ev_neg) <;> walk_at "ev")
  | ((with_reducible apply ev_ixN) <;> walk_at "ev")
  | ((with_reducible apply ev_ixL) <;> walk_at "ev")
  | ((with_reducible apply ev_inN) <;> walk_at "ev")
  | ((with_reducible apply ev_inT) <;> walk_at "ev")
  | ((with_reducible apply ev_ixT) <;> walk_at "ev")
  | ((with_reducible apply ev_ixS) <;> walk_at "ev")
  | ((with_reducible apply ev_len') <;> walk_at "ev")
  | ((with_reducible apply et_test) <;> walk_at "ev")
  | ((with_reducible apply et_and) <;> walk_at "ev")
  | ((with_reducible apply et_or) <;> walk_at "ev")
  | ((with_reducible apply et_not) <;> walk_at "ev")
  | ((with_reducible apply et_B) <;> walk_at "ev")
  | ((with_reducible apply el_lst) <;> walk_at "ev")
  | ((with_reducible apply eu_tup) <;> walk_at "ev")
  | ((with_reducible apply ea_cons) <;> walk_at "ev")
  | with_reducible exact ea_nil
  | with_reducible assumption
  | ((with_reducible apply ex_l' ; assumption) ; walk_at "ex")
  | ((with_reducible apply ex_t' ; assumption) ; walk_at "ex")
  | (intro _ ; walk_at "ev")
  | (with_reducible first | exact atI_hd | exact at_kind | exact at2s | exact at3s | exact at3i)
  | (first | exact rfl | exact Nat.le_of_ble_eq_true rfl | exact ⟨by decide, by decide⟩ | decide | exact Or.inl ⟨by omega, by omega⟩ | exact Or.inr ⟨by omega, by omega⟩ | omega)
  | skip)
local macro_rules | `(tactic| walk_at "ex") => `(tactic| first
  | assumption
  | exact Ex.refl _
  | (refine' Ex.trans ?_ (by assumption) ; walk_at "ex"))
local macro_rules | `(tactic| walk_at "row") => `(tactic| first
  | (with_reducible exact er_nil)
  | ((with_reducible apply er_cons) <;> walk_at "row")
  | (((with_reducible apply er_var) ; rfl) ; walk_at "isrow")
  | (((with_reducible apply elr_var) ; rfl) ; walk_at "isrow")
  | ((with_reducible apply elr_cat) <;> walk_at "row")
  | ((with_reducible apply elr_lst) <;> walk_at "row")
  | ((with_reducible apply er_fin) <;> walk_at "ev")
  | ((with_reducible apply er_lendT) <;> walk_at "ev")
  | ((with_reducible apply er_lendW) <;> walk_at "ev")
  | ((with_reducible apply er_pick) <;> walk_at "ev")
  | ((with_reducible apply er_either) <;> walk_at "ev")
  | ((with_reducible apply er_or) <;> walk_at "ev")
  | ((with_reducible apply er_again) <;> walk_at "ev")
  | ((with_reducible apply er_back) <;> walk_at "ev")
  | ((with_reducible apply er_look) <;> walk_at "ev")
  | ((with_reducible apply er_change) <;> walk_at "ev")
  | exact Nat.le_of_ble_eq_true rfl
  | skip)
local macro_rules | `(tactic| walk_at "isrow") => `(tactic| first
  | assumption
  | (refine IsRow.up ?_ (by assumption) ; walk_at "ex")
  | (refine LRows.up ?_ (by assumption) ; walk_at "ex"))

local macro_rules | `(tactic| walk_at "ev") => `(tactic| ((with_reducible apply ev_letter) <;> walk_at "ev"))
local macro_rules | `(tactic| walk_at "ev") => `(tactic| ((with_reducible apply ev_cell) <;> walk_at "ev"))
local macro_rules | `(tactic| walk_at "ev") => `(tactic| ((with_reducible apply ev_word) <;> walk_at "ev"))
local macro_rules | `(tactic| walk_at "ev") => `(tactic| ((with_reducible apply ev_thing) <;> walk_at "ev"))

local macro_rules | `(tactic| walk_at "ev") => `(tactic| (((with_reducible apply ev_tag) ; rfl) ; walk_at "isrow"))
abbrev s_l_row : Stmt := topS 64
theorem sc_l_row : FnScope ["_law_way", "_law_one", "_law_two", "_law_opened", "_law_draw_here", "_law_named", "_law_hands_here", "_law_things", "_law_row_here", "_law_k"] ["_law_way", "_law_one", "_law_two", "_law_opened", "_law_draw_here"] (defScope s_l_row) := ⟨rfl, rfl, rfl, by decide +kernel, rfl, by decide +kernel, by decide +kernel⟩
section
variable {P : Program} {w : World} {K : PySem.W.Frag} {mg : Str → Option Value} {base : Heap}
def rowN (way one two : Int) (opened named hands : List Rw) (d : Draw) : Rw :=
  if way < 4 ∧ (hands.length : Int) < 6 then lendM one two named d
  else if way = 4 ∧ (named.length : Int) - hands.length < 3 then .pick (wordM one two named.length d) ((List.range (1 + one % 5).toNat).map fun (k : Nat) => thingM (two + (k : Int) * (1 + one % 2)) d.base)
  else if way = 5 ∧ (opened.length : Int) < 12 then .either
  else if way = 6 ∧ (opened.length : Int) < 12 then .again
  else if way = 7 ∧ 0 < (opened.length : Int) ∧ (opened.getD (opened.length - 1) .fin).isEither = true then .or
  else if way < 10 ∧ 0 < (hands.length : Int) then deedM one two hands
  else if 0 < (opened.length : Int) then .fin
  else lendM one two named d
def rowM (way one two : Int) (opened : List Rw) (d : Draw) : Rw := rowN way one two opened (opened.filter Rw.named) ((opened.filter Rw.named).filter Rw.isLend) d
def spRow (K : PySem.W.Frag) : Sp := fun vs H Q _ => ∃ (way one two : Int) (o a : Addr) (ov : List V) (opened : List Rw) (d : Draw), vs = [.int way, .int one, .int two, .ref o, .ref a] ∧ SqL K H o ov ∧ Rows H ov opened ∧ opened.length ≤ 1000 ∧ (opened.filter Rw.named).length ≤ 18 ∧
  SqL K H a d.vs ∧ d.Ok ∧ Ret (ARow (rowM way one two opened d)) H Q
theorem in56 (way : Int) : inV (.int way) [V.int 5, V.int 6] = decide (way = 5 ∨ way = 6) := by
  unfold inV
  show (List.any [V.int 5, V.int 6] fun y => eqV y (.int way)) = _
  show ((5 : Int) == way || ((6 : Int) == way || false)) = _
  by_cases h5 : way = 5
  · subst h5; rfl
  · by_cases h6 : way = 6
    · subst h6; rfl
    · rw [decide_eq_false (fun z => z.elim h5 h6), beq_eq_false_iff_ne.mpr (Ne.symm h5), beq_eq_false_iff_ne.mpr (Ne.symm h6)]
      rfl
theorem ok_row (D : Dn K mg "_law_row" s_l_row ["_law_way", "_law_one", "_law_two", "_law_opened", "_law_draw_here"]) (T : Blt mg) (h_l_lend : Has P w K mg base "_law_lend" 2 ["_law_one", "_law_two", "_law_named", "_law_draw_here"] (spLend K)) (h_l_thing : Has P w K mg base "_law_thing" 1 ["_law_cell", "_law_base"] spThing) (h_l_word : Has P w K mg base "_law_word" 1 ["_law_one", "_law_two", "_law_deep", "_law_draw_here"] (spWord K)) (h_l_deed : Has P w K mg base "_law_deed" 1 ["_law_one", "_law_two", "_law_hands_here"] (spDeed K)) : Has P w K mg base "_law_row" 3 ["_law_way", "_law_one", "_law_two", "_law_opened", "_law_draw_here"] (spRow K) := by
  refine D.ok sc_l_row (fun vs H Q E h => ?_) (fun f cdv A outer s H vs Q E hr h => ?_)
  · obtain ⟨way, one, two, o, a, ov, opened, d, rfl, _⟩ := h
    rfl
  · obtain ⟨way, one, two, o, a, ov, opened, d, rfl, hO, hR, hlen, hlen2, hS, ok, q⟩ := h
    have hlo := hR.len
    refine ⟨_, (pss_cons (ps_setLc (i := 5) (own := [("_law_row_here", 8)]) (g := (gName 8))  rfl sc_l_row.nd rfl rfl (sw_true rfl rfl rfl (by decide +kernel)) (pi_list (pv 3)) (blkOk_by (own := [("_law_row_here", 8)]) (N := ["_law_way", "_law_one", "_law_two", "_law_opened", "_law_draw_here", "_law_named", "_law_hands_here", "_law_things", "_law_row_here", "_law_k"]) (sc := defScope s_l_row) (by decide +kernel)) (fun _ _ _ _ _ => (pg_name (i := 8) sc_l_row.nd rfl (Or.inl rfl))) (fun _ _ _ _ _ => (pts_one (pt_cmpR (show OpR _ _ (rIn K false) from op_in_seq) (pe_ix (show IxR _ (rIxT K) from ix_tup) (pv 8) pe_int (fun _ _ => rfl)) (pe_lst (pa_cons pe_str (pa_cons pe_str pa_nil))) (by rfl)))) (fun _ _ _ _ _ => (pv 8))) (pss_cons (ps_setLc (i := 6) (own := [("_law_row_here", 8)]) (g := (gName 8))  rfl sc_l_row.nd rfl rfl (sw_true rfl rfl rfl (by decide +kernel)) (pi_list (pv 5)) (blkOk_by (own := [("_law_row_here", 8)]) (N := ["_law_way", "_law_one", "_law_two", "_law_opened", "_law_draw_here", "_law_named", "_law_hands_here", "_law_things", "_law_row_here", "_law_k"]) (sc := defScope s_l_row) (by decide +kernel)) (fun _ _ _ _ _ => (pg_name (i := 8) sc_l_row.nd rfl (Or.inl rfl))) (fun _ _ _ _ _ => (pts_one (pt_cmpR op_eq (pe_ix (show IxR _ (rIxT K) from ix_tup) (pv 8) pe_int (fun _ _ => rfl)) pe_str (nomark _)))) (fun _ _ _ _ _ => (pv 8))) (pss_cons (ps_if (PW.pt (pw_and (pt_cmpR op_lt (pv 0) pe_int (nomark _)) (pw_and1 (pt_cmpR op_lt (pe_callB (show CallR _ _ (rLenS K) from call_len_seq) (by rfl) T.len_ (by decide +kernel) (pa_cons (pv 6) pa_nil)) pe_int (nomark _))))) (pss_one (ps_ret (pe_own h_l_lend (hr.mono (by decide)) (by rfl) (pa_cons (pv 1) (pa_cons (pv 2) (pa_cons (pv 5) (pa_cons (pv 4) pa_nil))))))) pss_nil) (pss_cons (ps_if (PW.pt (pw_and (pt_cmpR op_eq (pv 0) pe_int (nomark _)) (pw_and1 (pt_cmpR op_lt (pe_op op_sub (pe_callB (show CallR _ _ (rLenS K) from call_len_seq) (by rfl) T.len_ (by decide +kernel) (pa_cons (pv 5) pa_nil)) (pe_callB (show CallR _ _ (rLenS K) from call_len_seq) (by rfl) T.len_ (by decide +kernel) (pa_cons (pv 6) pa_nil))) pe_int (nomark _))))) (pss_cons (ps_set (i := 7) sc_l_row.nd rfl (Or.inl rfl) (pe_callTy (show CallR _ _ (rTupS K) from call_tuple_of) (by rfl) T.tuple_ (by decide +kernel) (pa_cons (pe_lc (own := [("_law_k", 9)]) (g := (gName 9)) (tt := tYes) rfl sc_l_row.nd (pi_range1 (by rfl) T.range_ (pa_cons (pe_op op_add pe_int (pe_op op_mod (pv 1) pe_int)) pa_nil)) (blkOk_by (own := [("_law_k", 9)]) (N := ["_law_way", "_law_one", "_law_two", "_law_opened", "_law_draw_here", "_law_named", "_law_hands_here", "_law_things", "_law_row_here", "_law_k"]) (sc := defScope s_l_row) (by decide +kernel)) (fun _ _ _ _ _ => (pg_name (i := 9) sc_l_row.nd rfl (Or.inl rfl))) (fun _ _ _ _ _ => pts_nil) (fun _ _ _ _ _ => (pe_own h_l_thing (hr.mono (by decide)) (by rfl) (pa_cons (pe_op op_add (pv 2) (pe_op op_mul (pv 9) (pe_op op_add pe_int (pe_op op_mod (pv 1) pe_int)))) (pa_cons (pe_ix (show IxR _ (rIxL K) from ix_list) (pv 4) pe_int (fun _ _ => rfl)) pa_nil))))) pa_nil))) (pss_one (ps_ret (pe_tup (pa_cons pe_str (pa_cons (pe_own h_l_word (hr.mono (by decide)) (by rfl) (pa_cons (pv 1) (pa_cons (pv 2) (pa_cons (pe_callB (show CallR _ _ (rLenS K) from call_len_seq) (by rfl) T.len_ (by decide +kernel) (pa_cons (pv 5) pa_nil)) (pa_cons (pv 4) pa_nil))))) (pa_cons (pv 7) pa_nil))))))) pss_nil) (pss_cons (ps_if (PW.pt (pw_and (pt_cmpR (show OpR _ _ (rIn K false) from op_in_seq) (pv 0) (pe_lst (pa_cons pe_int (pa_cons pe_int pa_nil))) (by rfl)) (pw_and1 (pt_cmpR op_lt (pe_callB (show CallR _ _ (rLenS K) from call_len_seq) (by rfl) T.len_ (by decide +kernel) (pa_cons (pv 3) pa_nil)) pe_int (nomark _))))) (pss_one (ps_ret (pe_tup (pa_cons (pe_ix (show IxR _ (rIxL K) from ix_list) (pe_lst (pa_cons pe_str (pa_cons pe_str pa_nil))) (pe_op op_sub (pv 0) pe_int) (fun _ _ => rfl)) pa_nil)))) pss_nil) (pss_cons (ps_if (PW.pt (pw_and (pt_cmpR op_eq (pv 0) pe_int (nomark _)) (pw_and (pt_cmpR op_gt (pe_callB (show CallR _ _ (rLenS K) from call_len_seq) (by rfl) T.len_ (by decide +kernel) (pa_cons (pv 3) pa_nil)) pe_int (nomark _)) (pw_and1 (pt_cmpR op_eq (pe_ix (show IxR _ (rIxT K) from ix_tup) (pe_ix (show IxR _ (rIxL K) from ix_list) (pv 3) (pe_un un_neg pe_int) (fun _ _ => rfl)) pe_int (fun _ _ => rfl)) pe_str (nomark _)))))) (pss_one (ps_ret (pe_tup (pa_cons pe_str pa_nil)))) pss_nil) (pss_cons (ps_if (PW.pt (pw_and (pt_cmpR op_lt (pv 0) pe_int (nomark _)) (pw_and1 (pt_cmpR op_gt (pe_callB (show CallR _ _ (rLenS K) from call_len_seq) (by rfl) T.len_ (by decide +kernel) (pa_cons (pv 6) pa_nil)) pe_int (nomark _))))) (pss_one (ps_ret (pe_own h_l_deed (hr.mono (by decide)) (by rfl) (pa_cons (pv 1) (pa_cons (pv 2) (pa_cons (pv 6) pa_nil)))))) pss_nil) (pss_cons (ps_if (pt_cmpR op_gt (pe_callB (show CallR _ _ (rLenS K) from call_len_seq) (by rfl) T.len_ (by decide +kernel) (pa_cons (pv 3) pa_nil)) pe_int (nomark _)) (pss_one (ps_ret (pe_tup (pa_cons pe_str pa_nil)))) pss_nil) (pss_one (ps_ret (pe_own h_l_lend (hr.mono (by decide)) (by rfl) (pa_cons (pv 1) (pa_cons (pv 2) (pa_cons (pv 5) (pa_cons (pv 4) pa_nil))))))))))))))), ?_⟩
    show (_ : L2.TS) _ [_, _, _, _, _, _, _, _, _, _] _
    refine q_asgPL (epl_filter Rw.named (ev_var rfl) hO hR (by omega) (fun x => rfl) (fun x r H1 e hx => ?_) (fun x => rfl)) (fun pn nv H1 hpn e1 h1 hNv => ?_)
    · rw [← tag_named r]
      walk_at "ev"
    show (_ : L2.TS) _ [_, _, _, _, _, _, _, _, _, _] _
    have hN : SqL K H1 pn nv := sq_of h1
    have hln : nv.length = (opened.filter Rw.named).length := hNv.len
    have hln2 : (opened.filter Rw.named).length ≤ opened.length := List.length_filter_le _ _
    refine q_asgPL (epl_filter Rw.isLend (ev_var rfl) hN hNv (by omega) (fun x => rfl) (fun x r H1 e hx => ?_) (fun x => rfl)) (fun ph hv H2 hph e2 h2 hHv => ?_)
    · rw [← tag_lend r]
      walk_at "ev"
    show (_ : L2.TS) _ [_, _, _, _, _, _, _, _, _, _] _
    have hH : SqL K H2 ph hv := sq_of h2
    have hlh : hv.length = ((opened.filter Rw.named).filter Rw.isLend).length := hHv.len
    have hall : ∀ r ∈ opened.filter Rw.named, r.named = true := fun r hr => (List.mem_filter.mp hr).2
    have hallH : ∀ r ∈ (opened.filter Rw.named).filter Rw.isLend, r.isLend = true := fun r hr => (List.mem_filter.mp hr).2
    unfold rowM rowN at q
    generalize hnm : opened.filter Rw.named = named at *
    generalize hhm : named.filter Rw.isLend = hands at *
    have hlnm : named.length ≤ 20 := by omega
    have hNv2 := hNv.up e2
    rw [← hlo, ← hln, ← hlh] at q
    refine' q_when (b := decide (way < 4) && decide ((hv.length : Int) < 6)) ?_ (fun hb H3 e3 => ?_) (fun hb H3 e3 => ?_)
    · walk_at "ev"
    · simp only [Bool.and_eq_true, decide_eq_true_eq] at hb
      rw [if_pos hb] at q
      refine s_retP (ev_lend (n := pn) (a := a) (ns := nv) (d := d) ?_ ?_ (hNv2.up e3) hall hlnm ?_ ok) (fun v H4 e4 hv => q v H4 (by walk_at "ex") hv)
      · walk_at "ev"
      · walk_at "ev"
      · walk_at "ev"
    · simp only [Bool.and_eq_false_iff, decide_eq_false_iff_not] at hb
      rw [if_neg (fun z => hb.elim (fun y => y z.1) (fun y => y z.2))] at q
      refine' q_when (b := decide (V.int way = V.int 4) && decide ((nv.length : Int) - hv.length < 3)) ?_ (fun hb H4 e4 => ?_) (fun hb H4 e4 => ?_)
      · walk_at "ev"
      · simp only [Bool.and_eq_true, decide_eq_true_eq, V.int.injEq] at hb
        rw [if_pos hb] at q
        refine q_asgU (xs := ((List.range (1 + one % 5).toNat).map fun (k : Nat) => thingM (two + (k : Int) * (1 + one % 2)) d.base).map V.int) ?_ (fun pt H5 hpt e5 h5 => ?_)
        · refine eu_tuple ?_
          have hg := given_all (1 + one % 5).toNat (fun k => V.int (thingM (two + (k : Int) * (1 + one % 2)) d.base))
          rw [List.map_map]
          show EvL _ _ _ ((List.range (1 + one % 5).toNat).map fun (k : Nat) => V.int (thingM (two + (k : Int) * (1 + one % 2)) d.base))
          rw [← hg]
          refine el_lcR1 _ _ (n := 1 + one % 5) ?_ ⟨by omega, by omega⟩ (fun x => rfl) (fun i H6 e6 hi => et_yes) (fun i H6 e6 hi _ => ?_)
          · walk_at "ev"
          · walk_at "ev"
        · show (_ : L2.TS) _ [_, _, _, _, _, _, _, _, _, _] _
          refine s_retP (er_pickV (q := pt) ?_ h5) (fun v H6 e6 hv => q v H6 (by walk_at "ex") hv)
          walk_at "ev"
      · simp only [Bool.and_eq_false_iff, decide_eq_false_iff_not, V.int.injEq] at hb
        rw [if_neg (fun z => hb.elim (fun y => y z.1) (fun y => y z.2))] at q
        refine' q_when (b := decide (way = 5 ∨ way = 6) && decide ((ov.length : Int) < 12)) ?_ (fun hb H5 e5 => ?_) (fun hb H5 e5 => ?_)
        · rw [← in56]
          walk_at "ev"
        · simp only [Bool.and_eq_true, decide_eq_true_eq] at hb
          obtain ⟨hw | hw, hlt⟩ := hb
          · subst hw
            rw [if_pos ⟨rfl, hlt⟩] at q
            refine s_retP (er_either ?_) (fun v H6 e6 hv => q v H6 (by walk_at "ex") hv)
            walk_at "ev"
          · subst hw
            rw [if_neg (fun z => absurd z.1 (by decide)), if_pos ⟨rfl, hlt⟩] at q
            refine s_retP (er_again ?_) (fun v H6 e6 hv => q v H6 (by walk_at "ex") hv)
            walk_at "ev"
        · simp only [Bool.and_eq_false_iff, decide_eq_false_iff_not] at hb
          rw [if_neg (fun z => hb.elim (fun y => y (.inl z.1)) (fun y => y z.2)), if_neg (fun z => hb.elim (fun y => y (.inr z.1)) (fun y => y z.2))] at q
          by_cases h0 : 0 < ov.length
          · obtain ⟨x, hx, hX⟩ := rows_last hR h0
            rw [← hlo] at hX
            have hX5 : IsRow H5 x (opened.getD (ov.length - 1) .fin) := hX.up (by walk_at "ex")
            obtain ⟨px, xs, rfl, hpx⟩ := hX5.tup
            have hPx : SqT K H5 px (.str (opened.getD (ov.length - 1) .fin).tag :: xs) := st_of hpx
            refine' q_when (b := decide (V.int way = V.int 7) && (decide ((0 : Int) < ov.length) && (opened.getD (ov.length - 1) .fin).isEither)) ?_ (fun hb H6 e6 => ?_) (fun hb H6 e6 => ?_)
            · rw [← tag_either]
              walk_at "ev"
            · simp only [Bool.and_eq_true, decide_eq_true_eq, V.int.injEq] at hb
              rw [if_pos hb] at q
              refine s_retP (er_or ?_) (fun v H7 e7 hv => q v H7 (by walk_at "ex") hv)
              walk_at "ev"
            · simp only [Bool.and_eq_false_iff, decide_eq_false_iff_not, V.int.injEq] at hb
              rw [if_neg (fun z => hb.elim (fun y => y z.1) (fun y => y.elim (fun u => u z.2.1) (fun u => by rw [z.2.2] at u; cases u)))] at q
              refine' q_when (b := decide (way < 10) && decide ((0 : Int) < hv.length)) ?_ (fun hb H7 e7 => ?_) (fun hb H7 e7 => ?_)
              · walk_at "ev"
              · simp only [Bool.and_eq_true, decide_eq_true_eq] at hb
                rw [if_pos hb] at q
                refine s_retP (ev_deed (n := ph) (ns := hv) ?_ ?_ (hHv.up (by walk_at "ex")) hallH (by omega)) (fun v H8 e8 hv => q v H8 (by walk_at "ex") hv)
                · walk_at "ev"
                · walk_at "ev"
              · simp only [Bool.and_eq_false_iff, decide_eq_false_iff_not] at hb
                rw [if_neg (fun z => hb.elim (fun y => y z.1) (fun y => y z.2))] at q
                rw [if_pos (by omega)] at q
                refine' q_when (b := decide ((0 : Int) < ov.length)) ?_ (fun hb H8 e8 => ?_) (fun hb H8 e8 => ?_)
                · walk_at "ev"
                · refine s_retP (er_fin ?_) (fun v H9 e9 hv => q v H9 (by walk_at "ex") hv)
                  walk_at "ev"
                · exact absurd (by omega) (of_decide_eq_false hb)
          · have h00 : ¬ (0 : Int) < ov.length := by omega
            have hh0 : ¬ (0 : Int) < hv.length := by
              have := List.length_filter_le Rw.isLend named
              rw [hhm] at this
              omega
            rw [if_neg (fun z => h00 z.2.1), if_neg (fun z => hh0 z.2), if_neg h00] at q
            refine' q_when (b := false) ?_ (fun hb H6 e6 => ?_) (fun hb H6 e6 => ?_)
            · refine et_is (et_and (a := decide (V.int way = V.int 7)) (b := false) ?_ (fun _ => et_is (et_and (a := decide ((0 : Int) < ov.length)) (b := false) ?_ (fun z => absurd (of_decide_eq_true z) h00)) (Bool.and_false _))) (Bool.and_false _)
              · walk_at "ev"
              · walk_at "ev"
            · cases hb
            · refine' q_when (b := decide (way < 10) && decide ((0 : Int) < hv.length)) ?_ (fun hb H7 e7 => ?_) (fun hb H7 e7 => ?_)
              · walk_at "ev"
              · simp only [Bool.and_eq_true, decide_eq_true_eq] at hb
                exact absurd hb.2 hh0
              · refine' q_when (b := decide ((0 : Int) < ov.length)) ?_ (fun hb H8 e8 => ?_) (fun hb H8 e8 => ?_)
                · walk_at "ev"
                · exact absurd (of_decide_eq_true hb) h00
                · refine s_retP (ev_lend (n := pn) (a := a) (ns := nv) (d := d) ?_ ?_ (hNv2.up (by walk_at "ex")) hall hlnm ?_ ok) (fun v H4 e4 hv => q v H4 (by walk_at "ex") hv)
                  · walk_at "ev"
                  · walk_at "ev"
                  · walk_at "ev"
theorem ep_row {way one two : Int} {o a : Addr} {ov : List V} {opened : List Rw} {d : Draw} {ta : TA} {σ : L2.St} {H : Hp} {E : XK} (h : EvA ta σ H [.int way, .int one, .int two, .ref o, .ref a]) (hO : SqL K H o ov) (hR : Rows H ov opened) (hl : opened.length ≤ 1000) (hl2 : (opened.filter Rw.named).length ≤ 18)
    (hS : SqL K H a d.vs) (ok : d.Ok) : EvP (tCall (spRow K) [] E ta) σ H (ARow (rowM way one two opened d)) :=
  ep_call h fun H1 e Q q E => ⟨way, one, two, o, a, ov, opened, d, rfl, ex_l e hO, hR.up e, hl, hl2, ex_l e hS, ok, q⟩
end
end BD
namespace BD
open PySem PySem.Spec PyProof.Rows L2 Evl
local macro_rules | `(tactic| walk_at "ev") => `(tactic| first
  | ((with_reducible apply ev_var) ; rfl)
  | with_reducible exact ev_c
  | ((with_reducible apply ev_I0) <;> walk_at "ev")
  | ((with_reducible apply ev_e9) <;> walk_at "ev")
  | ((with_reducible apply ev_I) <;> walk_at "ev")
  | ((with_reducible apply ev_eq) <;> walk_at "ev")
  | ((with_reducible apply ev_ne) <;> walk_at "ev")
  | ((with_reducible apply ev_neg) <;> walk_at "ev")
  | ((with_reducible apply ev_ixN) <;> walk_at "ev")
  | ((with_reducible apply ev_ixL) <;> walk_at "ev")
  | ((with_reducible apply ev_inN) <;> walk_at "ev")
  | ((with_reducible apply ev_inT) <;> walk_at "ev")
  | ((with_reducible apply ev_ixT) <;> walk_at "ev")
  | ((with_reducible apply ev_ixS) <;> walk_at "ev")
  | ((with_reducible apply ev_len') <;> walk_at "ev")
  | ((with_reducible apply et_test) <;> walk_at "ev")
  | ((with_reducible apply et_and) <;> walk_at "ev")
  | ((with_reducible apply et_or) <;> walk_at "ev")
  | ((with_reducible apply et_not) <;> walk_at "ev")
  | ((with_reducible apply et_B) <;> walk_at "ev")
  | ((with_reducible apply el_lst) <;> walk_at "ev")
  | ((with_reducible apply eu_tup) <;> walk_at "ev")
  | ((with_reducible apply ea_cons) <;> walk_at "ev")
  | with_reducible exact ea_nil
  | with_reducible assumption
  | ((with_reducible apply ex_l' ; assumption) ; walk_at "ex")
  | ((with_reducible apply ex_t' ; assumption) ; walk_at "ex")
  | (intro _ ; walk_at "ev")
  | (with_reducible first | exact atI_hd | exact at_kind | exact at2s | exact at3s | exact at3i)
  | (first | exact rfl | exact Nat.le_of_ble_eq_true rfl | exact ⟨by decide, by decide⟩ | decide | exact Or.inl ⟨by omega, by omega⟩ | exact Or.inr ⟨by omega, by omega⟩ | omega)
  | skip)
local macro_rules | `(tactic| walk_at "ex") => `(tactic| first
  | assumption
  | exact Ex.refl _
  | (refine' Ex.trans ?_ (by assumption) ; walk_at "ex"))
local macro_rules | `(tactic| walk_at "row") => `(tactic| first
  | (with_reducible exact er_nil)
  | ((with_reducible apply er_cons) <;> walk_at "row")
  | (((with_reducible apply er_var) ; rfl) ; walk_at "isrow")
  | (((with_reducible apply elr_var) ; rfl) ; walk_at "isrow")
  | ((with_reducible apply elr_cat) <;> walk_at "row")
  | ((with_reducible apply elr_lst) <;> walk_at "row")
  | ((with_reducible apply er_fin) <;> walk_at "ev")
  | ((with_reducible apply er_lendT) <;> walk_at "ev")
  | ((with_reducible apply er_lendW) <;> walk_at "ev")
  | ((with_reducible apply er_pick) <;> walk_at "ev")
  | ((with_reducible apply er_either) <;> walk_at "ev")
  | ((with_reducible apply er_or) <;> walk_at "ev")
  | ((with_reducible apply er_again) <;> walk_at "ev")
  | ((with_reducible apply er_back) <;> walk_at "ev")
  | ((with_reducible apply er_look) <;> walk_at "ev")
  | ((with_reducible apply er_change) <;> walk_at "ev")
  | exact Nat.le_of_ble_eq_true rfl
  | skip)
local macro_rules | `(tactic| walk_at "isrow") => `(tactic| first
  | assumption
  | (refine IsRow.up ?_ (by assumption) ; walk_at "ex")
  | (refine LRows.up ?_ (by assumption) ; walk_at "ex"))

local macro_rules | `(tactic| walk_at "ev") => `(tactic| ((with_reducible apply ev_letter) <;> walk_at "ev"))
local macro_rules | `(tactic| walk_at "ev") => `(tactic| ((with_reducible apply ev_cell) <;> walk_at "ev"))
local macro_rules | `(tactic| walk_at "ev") => `(tactic| ((with_reducible apply ev_word) <;> walk_at "ev"))
local macro_rules | `(tactic| walk_at "ev") => `(tactic| ((with_reducible apply ev_thing) <;> walk_at "ev"))

local macro_rules | `(tactic| walk_at "ev") => `(tactic| (((with_reducible apply ev_tag) ; rfl) ; walk_at "isrow"))
abbrev s_l_sheet : Stmt := topS 68
theorem sc_l_sheet : FnScope ["_law_cells", "_law_draw_here", "_law_most", "_law_odd", "_law_rows", "_law_opened", "_law_k", "_law_row_here", "_law_named", "_law_way"] ["_law_cells", "_law_draw_here", "_law_most", "_law_odd"] (defScope s_l_sheet) := ⟨rfl, rfl, rfl, by decide +kernel, rfl, by decide +kernel, by decide +kernel⟩
abbrev s_l_drawn : Stmt := topS 69
theorem sc_l_drawn : FnScope ["_law_script", "_law_most", "_law_many", "_law_way", "_law_cells", "_law_rows", "_law_k"] ["_law_script", "_law_most"] (defScope s_l_drawn) := ⟨rfl, rfl, rfl, by decide +kernel, rfl, by decide +kernel, by decide +kernel⟩
/-! ### the sheet's mirror -/
def opUpd (op : List Rw) (r : Rw) : List Rw := if r.opens = true then op ++ [r] else if r.isFin = true then op.dropLast else op
def stepM (c0 c1 c2 most : Int) (odd : Bool) (d : Draw) (st : List Rw × List Rw) : List Rw × List Rw :=
  if odd = true ∧ c0 % 2 = 0 ∧ ((st.2.filter Rw.named).length : Int) < 3 then (st.1 ++ gadgetM c1 c2 (st.2.filter Rw.named).length d, st.2)
  else (st.1 ++ [rowM (c0 % most) c1 c2 st.2 d], opUpd st.2 (rowM (c0 % most) c1 c2 st.2 d))
def sheetSt (cells : List Int) (d : Draw) (most : Int) (odd : Bool) : Nat → List Rw × List Rw
  | 0 => ([], [])
  | i + 1 => stepM (cells.getD (3 * i) 0) (cells.getD (3 * i + 1) 0) (cells.getD (3 * i + 2) 0) most odd d (sheetSt cells d most odd i)
def sheetM (cells : List Int) (d : Draw) (most : Int) (odd : Bool) : List Rw :=
  (sheetSt cells d most odd (cells.length / 3)).1 ++ (List.range (sheetSt cells d most odd (cells.length / 3)).2.length).map fun _ => Rw.fin
/-- what is open is small: six lends, three picks -/
def Rw.isPick : Rw → Bool
  | .pick _ _ => true | _ => false
structure Few (op : List Rw) : Prop where
  lends : (op.filter Rw.isLend).length ≤ 6
  picks : (op.filter Rw.isPick).length ≤ 3
theorem named_len : ∀ op : List Rw, (op.filter Rw.named).length = (op.filter Rw.isLend).length + (op.filter Rw.isPick).length
  | [] => rfl
  | r :: op => by
    have ih := named_len op
    cases r <;> simp only [List.filter_cons, Rw.named, Rw.isLend, Rw.isPick, if_true, if_false, List.length_cons, Bool.false_eq_true] <;> omega
theorem lend_of_named (op : List Rw) : (op.filter Rw.named).filter Rw.isLend = op.filter Rw.isLend := by
  rw [List.filter_filter]
  congr 1
  funext r
  cases r <;> rfl
theorem Few.named {op : List Rw} (f : Few op) : (op.filter Rw.named).length ≤ 9 := by
  have := named_len op
  have := f.lends
  have := f.picks
  omega
theorem few_drop {op : List Rw} (f : Few op) : Few op.dropLast := by
  have h : List.Sublist op.dropLast op := List.dropLast_sublist op
  exact ⟨Nat.le_trans (h.filter _).length_le f.lends, Nat.le_trans (h.filter _).length_le f.picks⟩
theorem lendM_isLend (one two : Int) (named : List Rw) (d : Draw) : (lendM one two named d).isLend = true := by
  unfold lendM
  split <;> rfl
theorem deedM_not (one two : Int) (hands : List Rw) : (deedM one two hands).opens = false ∧ (deedM one two hands).isFin = false := by
  unfold deedM
  split
  · exact ⟨rfl, rfl⟩
  · split
    · exact ⟨rfl, rfl⟩
    · split <;> exact ⟨rfl, rfl⟩
theorem lend_few {op : List Rw} {r : Rw} (f : Few op) (hr : r.isLend = true) (h : (op.filter Rw.isLend).length < 6 ∨ op = []) : Few (opUpd op r) := by
  cases r with
  | lend a b c =>
    have e : opUpd op (.lend a b c) = op ++ [.lend a b c] := rfl
    rw [e]
    refine ⟨?_, ?_⟩
    · rw [List.filter_append, List.length_append]
      show _ + 1 ≤ 6
      rcases h with h | h
      · omega
      · subst h; decide
    · rw [List.filter_append, List.length_append]
      exact f.picks
  | _ => cases hr
theorem few_row {op : List Rw} (f : Few op) (way one two : Int) (d : Draw) : Few (opUpd op (rowM way one two op d)) := by
  unfold rowM
  rw [lend_of_named]
  have hn := named_len op
  unfold rowN
  split
  · rename_i h
    exact lend_few f (lendM_isLend _ _ _ _) (.inl (by omega))
  split
  · rename_i h
    show Few (op ++ [_])
    refine ⟨?_, ?_⟩
    · rw [List.filter_append, List.length_append]
      exact f.lends
    · rw [List.filter_append, List.length_append]
      show _ + 1 ≤ 3
      omega
  split
  · show Few (op ++ [_])
    refine ⟨?_, ?_⟩
    · rw [List.filter_append, List.length_append]
      exact f.lends
    · rw [List.filter_append, List.length_append]
      exact f.picks
  split
  · show Few (op ++ [_])
    refine ⟨?_, ?_⟩
    · rw [List.filter_append, List.length_append]
      exact f.lends
    · rw [List.filter_append, List.length_append]
      exact f.picks
  split
  · exact f
  split
  · have h := deedM_not one two (op.filter Rw.isLend)
    unfold opUpd
    rw [h.1, h.2]
    exact f
  split
  · exact few_drop f
  · rename_i h
    refine lend_few f (lendM_isLend _ _ _ _) (.inr ?_)
    cases op with
    | nil => rfl
    | cons a b => exact absurd (by show (0 : Int) < ((b.length + 1 : Nat) : Int); omega) h
theorem rowM_fin {op : List Rw} {way one two : Int} {d : Draw} (h : (rowM way one two op d).isFin = true) : 0 < op.length := by
  have hl : ∀ named : List Rw, (lendM one two named d).isFin = true → False := fun named z => by
    have := lendM_isLend one two named d
    generalize lendM one two named d = r at *
    cases r <;> simp_all [Rw.isFin, Rw.isLend]
  unfold rowM rowN at h
  split at h
  · exact (hl _ h).elim
  split at h
  · cases h
  split at h
  · cases h
  split at h
  · cases h
  split at h
  · cases h
  split at h
  · rw [(deedM_not _ _ _).2] at h; cases h
  split at h
  · omega
  · exact (hl _ h).elim
theorem few_st (cells : List Int) (d : Draw) (most : Int) (odd : Bool) : ∀ i, Few (sheetSt cells d most odd i).2
  | 0 => ⟨Nat.zero_le _, Nat.zero_le _⟩
  | i + 1 => by
    have ih := few_st cells d most odd i
    unfold sheetSt stepM
    split
    · exact ih
    · exact few_row ih _ _ _ _
theorem gad_len (one two : Int) (a b c : Str) (t : Int) : (gadA one two a b c t).length ≤ 12 := by
  unfold gadA
  split
  · unfold fourM
    split
    · exact Nat.le_of_ble_eq_true rfl
    split
    · exact Nat.le_of_ble_eq_true rfl
    split <;> exact Nat.le_of_ble_eq_true rfl
  split
  · show 6 ≤ 12
    exact Nat.le_of_ble_eq_true rfl
  split
  · exact Nat.le_of_ble_eq_true rfl
  split
  · exact Nat.le_of_ble_eq_true rfl
  split <;> exact Nat.le_of_ble_eq_true rfl
theorem opUpd_len (op : List Rw) (r : Rw) : (opUpd op r).length ≤ op.length + 1 := by
  unfold opUpd
  split
  · rw [List.length_append]; exact Nat.le_refl _
  split
  · rw [List.length_dropLast]; omega
  · omega
theorem st_len (cells : List Int) (d : Draw) (most : Int) (odd : Bool) : ∀ i, (sheetSt cells d most odd i).1.length ≤ 12 * i ∧ (sheetSt cells d most odd i).2.length ≤ i
  | 0 => ⟨Nat.le_refl _, Nat.le_refl _⟩
  | i + 1 => by
    have ih := st_len cells d most odd i
    unfold sheetSt stepM
    split
    · have h := gad_len (cells.getD (3 * i + 1) 0) (cells.getD (3 * i + 2) 0) (wordM (cells.getD (3 * i + 1) 0) (cells.getD (3 * i + 2) 0) ((sheetSt cells d most odd i).2.filter Rw.named).length d)
        (wordM (cells.getD (3 * i + 2) 0) (cells.getD (3 * i + 1) 0) (((sheetSt cells d most odd i).2.filter Rw.named).length + 1) d) (wordM (cells.getD (3 * i + 1) 0) (cells.getD (3 * i + 1) 0) (((sheetSt cells d most odd i).2.filter Rw.named).length + 2) d) (thingM (cells.getD (3 * i + 2) 0) d.base)
      show (_ ++ gadgetM _ _ _ _).length ≤ _ ∧ _
      rw [List.length_append]
      unfold gadgetM
      exact ⟨by omega, by show (sheetSt cells d most odd i).2.length ≤ i + 1; omega⟩
    · show (_ ++ [_]).length ≤ _ ∧ (opUpd _ _).length ≤ _
      rw [List.length_append]
      have h2 := opUpd_len (sheetSt cells d most odd i).2 (rowM (cells.getD (3 * i) 0 % most) (cells.getD (3 * i + 1) 0) (cells.getD (3 * i + 2) 0) (sheetSt cells d most odd i).2 d)
      exact ⟨by show _ + 1 ≤ _; omega, by omega⟩
theorem sheet_len (cells : List Int) (d : Draw) (most : Int) (odd : Bool) : (sheetM cells d most odd).length ≤ 13 * (cells.length / 3) := by
  have h := st_len cells d most odd (cells.length / 3)
  unfold sheetM
  rw [List.length_append, List.length_map, List.length_range]
  omega
section
variable {P : Program} {w : World} {K : PySem.W.Frag} {mg : Str → Option Value} {base : Heap}
def spSheet (K : PySem.W.Frag) : Sp := fun vs H Q _ => ∃ (ac a : Addr) (cells : List Int) (d : Draw) (most : Int) (odd : Bool), vs = [.ref ac, .ref a, .int most, .bl odd] ∧ SqL K H ac (cells.map V.int) ∧ cells.length ≤ 600 ∧ SqL K H a d.vs ∧ d.Ok ∧ 0 < most ∧
  Ret (LRows (sheetM cells d most odd)) H Q
theorem cell_at {cells : List Int} {n : Nat} (h : n < cells.length) {z : Int} (e : z = (n : Int)) : atI (cells.map V.int) z = some (.int (cells.getD n 0)) := by
  have := at_ints cells (i := (n : Int)) (by omega) (by omega)
  rw [e, this, Int.toNat_natCast]
theorem ok_sheet (D : Dn K mg "_law_sheet" s_l_sheet ["_law_cells", "_law_draw_here", "_law_most", "_law_odd"]) (T : Blt mg) (h_l_gadget : Has P w K mg base "_law_gadget" 3 ["_law_one", "_law_two", "_law_deep", "_law_draw_here"] (spGadget K)) (h_l_row : Has P w K mg base "_law_row" 3 ["_law_way", "_law_one", "_law_two", "_law_opened", "_law_draw_here"] (spRow K)) : Has P w K mg base "_law_sheet" 4 ["_law_cells", "_law_draw_here", "_law_most", "_law_odd"] (spSheet K) := by
  refine D.ok sc_l_sheet (fun vs H Q E h => ?_) (fun f cdv A outer s H vs Q E hr h => ?_)
  · obtain ⟨ac, a, cells, d, most, odd, rfl, _⟩ := h
    rfl
  · obtain ⟨ac, a, cells, d, most, odd, rfl, hC, hlen, hS, ok, hm, q⟩ := h
    refine ⟨_, (pss_cons (ps_set (i := 4) sc_l_sheet.nd rfl (Or.inl rfl) (pe_lst pa_nil)) (pss_cons (ps_set (i := 5) sc_l_sheet.nd rfl (Or.inl rfl) (pe_lst pa_nil)) (pss_cons (ps_for PassesOwn.never rfl (pi_range1 (by rfl) T.range_ (pa_cons (pe_op op_fdiv (pe_callB (show CallR _ _ (rLenS K) from call_len_seq) (by rfl) T.len_ (by decide +kernel) (pa_cons (pv 0) pa_nil)) pe_int) pa_nil)) (pg_name (i := 6) sc_l_sheet.nd rfl (Or.inl rfl)) (pss_cons (ps_setLc (i := 8) (own := [("_law_row_here", 7)]) (g := (gName 7))  rfl sc_l_sheet.nd rfl rfl (sw_true rfl rfl rfl (by decide +kernel)) (pi_list (pv 5)) (blkOk_by (own := [("_law_row_here", 7)]) (N := ["_law_cells", "_law_draw_here", "_law_most", "_law_odd", "_law_rows", "_law_opened", "_law_k", "_law_row_here", "_law_named", "_law_way"]) (sc := defScope s_l_sheet) (by decide +kernel)) (fun _ _ _ _ _ => (pg_name (i := 7) sc_l_sheet.nd rfl (Or.inl rfl))) (fun _ _ _ _ _ => (pts_one (pt_cmpR (show OpR _ _ (rIn K false) from op_in_seq) (pe_ix (show IxR _ (rIxT K) from ix_tup) (pv 7) pe_int (fun _ _ => rfl)) (pe_lst (pa_cons pe_str (pa_cons pe_str pa_nil))) (by rfl)))) (fun _ _ _ _ _ => (pv 7))) (pss_cons (ps_set (i := 9) sc_l_sheet.nd rfl (Or.inl rfl) (pe_ix (show IxR _ (rIxL K) from ix_list) (pv 0) (pe_op op_mul pe_int (pv 6)) (fun _ _ => rfl))) (pss_one (ps_if (PW.pt (pw_and (pt_val (pv 3)) (pw_and (pt_cmpR op_eq (pe_op op_mod (pv 9) pe_int) pe_int (nomark _)) (pw_and1 (pt_cmpR op_lt (pe_callB (show CallR _ _ (rLenS K) from call_len_seq) (by rfl) T.len_ (by decide +kernel) (pa_cons (pv 8) pa_nil)) pe_int (nomark _)))))) (pss_one (ps_set (i := 4) sc_l_sheet.nd rfl (Or.inl rfl) (pe_op op_cat (pv 4) (pe_own h_l_gadget (hr.mono (by decide)) (by rfl) (pa_cons (pe_ix (show IxR _ (rIxL K) from ix_list) (pv 0) (pe_op op_add (pe_op op_mul pe_int (pv 6)) pe_int) (fun _ _ => rfl)) (pa_cons (pe_ix (show IxR _ (rIxL K) from ix_list) (pv 0) (pe_op op_add (pe_op op_mul pe_int (pv 6)) pe_int) (fun _ _ => rfl)) (pa_cons (pe_callB (show CallR _ _ (rLenS K) from call_len_seq) (by rfl) T.len_ (by decide +kernel) (pa_cons (pv 8) pa_nil)) (pa_cons (pv 1) pa_nil)))))))) (pss_cons (ps_set (i := 7) sc_l_sheet.nd rfl (Or.inl rfl) (pe_own h_l_row (hr.mono (by decide)) (by rfl) (pa_cons (pe_op op_mod (pv 9) (pv 2)) (pa_cons (pe_ix (show IxR _ (rIxL K) from ix_list) (pv 0) (pe_op op_add (pe_op op_mul pe_int (pv 6)) pe_int) (fun _ _ => rfl)) (pa_cons (pe_ix (show IxR _ (rIxL K) from ix_list) (pv 0) (pe_op op_add (pe_op op_mul pe_int (pv 6)) pe_int) (fun _ _ => rfl)) (pa_cons (pv 5) (pa_cons (pv 1) pa_nil))))))) (pss_cons (ps_set (i := 4) sc_l_sheet.nd rfl (Or.inl rfl) (pe_op op_cat (pv 4) (pe_lst (pa_cons (pv 7) pa_nil)))) (pss_cons (ps_if (pt_cmpR (show OpR _ _ (rIn K false) from op_in_seq) (pe_ix (show IxR _ (rIxT K) from ix_tup) (pv 7) pe_int (fun _ _ => rfl)) (pe_lst (pa_cons pe_str (pa_cons pe_str (pa_cons pe_str (pa_cons pe_str pa_nil))))) (by rfl)) (pss_one (ps_expr (pe_bm PySem.F.plainAttrs_list PySem.F.slot_list_append PySem.F.type_list_append mt_append (pv 5) (pa_cons (pv 7) pa_nil)))) pss_nil) (pss_one (ps_if (pt_cmpR op_eq (pe_ix (show IxR _ (rIxT K) from ix_tup) (pv 7) pe_int (fun _ _ => rfl)) pe_str (nomark _)) (pss_one (ps_expr (pe_bm0 PySem.F.plainAttrs_list PySem.F.slot_list_pop PySem.F.type_list_pop mt_pop (pv 5)))) pss_nil)))))))))) (pss_one (ps_ret (pe_op op_cat (pv 4) (pe_lc (own := [("_law_row_here", 7)]) (g := (gName 7)) (tt := tYes) rfl sc_l_sheet.nd (pi_list (pv 5)) (blkOk_by (own := [("_law_row_here", 7)]) (N := ["_law_cells", "_law_draw_here", "_law_most", "_law_odd", "_law_rows", "_law_opened", "_law_k", "_law_row_here", "_law_named", "_law_way"]) (sc := defScope s_l_sheet) (by decide +kernel)) (fun _ _ _ _ _ => (pg_name (i := 7) sc_l_sheet.nd rfl (Or.inl rfl))) (fun _ _ _ _ _ => pts_nil) (fun _ _ _ _ _ => (pe_tup (pa_cons pe_str pa_nil)))))))))), ?_⟩
    show (_ : L2.TS) _ [_, _, _, _, _, _, _, _, _, _] _
    refine q_asgL (xs := []) ?_ (fun pr0 H1 hpr0 e1 h1 => ?_)
    · walk_at "ev"
    show (_ : L2.TS) _ [_, _, _, _, _, _, _, _, _, _] _
    refine q_asgL (xs := []) ?_ (fun po H2 hpo e2 h2 => ?_)
    · walk_at "ev"
    show (_ : L2.TS) _ [_, _, _, _, _, _, _, _, _, _] _
    have hpoH : H po = none := fresh_back e1 hpo
    refine q_forR1 (n := (((cells.map V.int).length : Nat) : Int) / 3) ?_ ?_ (fun i σ' H' => Ex H H' ∧ ∃ pr rv ov x6 x7 x8 x9, σ' = [some (.ref ac), some (.ref a), some (.int most), some (.bl odd), some (.ref pr), some (.ref po), x6, x7, x8, x9] ∧ pr ≠ po ∧
      H' pr = some (.lst rv) ∧ Rows H' rv (sheetSt cells d most odd i).1 ∧ H' po = some (.lst ov) ∧ Rows H' ov (sheetSt cells d most odd i).2) ?_ ?_ ?_
    · walk_at "ev"
    · rw [List.length_map]
      omega
    · intro H3 e3
      exact ⟨by walk_at "ex", pr0, [], [], none, none, none, none, rfl, (ne_of_none h1 hpo), e3 _ _ (e2 _ _ h1), .nil, e3 _ _ h2, .nil⟩
    · rintro i σ' H' hi ⟨e3, pr, rv, ov, x6, x7, x8, x9, rfl, hne, hpr, hRv, hpo', hOv⟩
      rw [List.length_map] at hi
      have hst := st_len cells d most odd i
      have hfew := (few_st cells d most odd i).named
      have hi3 : 3 * i + 2 < cells.length := by omega
      generalize hste : sheetSt cells d most odd i = st at *
      have hO : SqL K H' po ov := sq_of hpo'
      have hlo := hOv.len
      refine q_asgPL (epl_filter Rw.named (ev_var rfl) hO hOv (by omega) (fun x => rfl) (fun x r H1 e hx => ?_) (fun x => rfl)) (fun pn nv H4 hpn e4 h4 hNv => ?_)
      · rw [← tag_named r]
        walk_at "ev"
      show (_ : L2.TS) _ [_, _, _, _, _, _, _, _, _, _] _
      have hN : SqL K H4 pn nv := sq_of h4
      have hln := hNv.len
      refine' q_asg (v := .int (cells.getD (3 * i) 0)) ?_ (fun H5 e5 => ?_)
      · walk_at "ev"
        exact cell_at (by omega) (by omega)
      show (_ : L2.TS) _ [_, _, _, _, _, _, _, _, _, _] _
      refine' s_if (b := odd && (decide (V.int (cells.getD (3 * i) 0 % 2) = V.int 0) && decide ((nv.length : Int) < 3))) ?_ (fun hb H6 e6 => ?_) (fun hb H6 e6 => ?_)
      · walk_at "ev"
      · simp only [Bool.and_eq_true, decide_eq_true_eq, V.int.injEq] at hb
        rw [hln] at hb
        have hL6 : LRows st.1 (.ref pr) H6 := ⟨pr, rv, rfl, e6 _ _ (e5 _ _ (e4 _ _ hpr)), ((hRv.up e4).up e5).up e6⟩
        have hg := gad_len (cells.getD (3 * i + 1) 0) (cells.getD (3 * i + 2) 0) (wordM (cells.getD (3 * i + 1) 0) (cells.getD (3 * i + 2) 0) (st.2.filter Rw.named).length d)
          (wordM (cells.getD (3 * i + 2) 0) (cells.getD (3 * i + 1) 0) ((st.2.filter Rw.named).length + 1) d) (wordM (cells.getD (3 * i + 1) 0) (cells.getD (3 * i + 1) 0) ((st.2.filter Rw.named).length + 2) d) (thingM (cells.getD (3 * i + 2) 0) d.base)
        refine s_asgPL (elr_catL (elr_var rfl hL6) (ep_gadget (one := cells.getD (3 * i + 1) 0) (two := cells.getD (3 * i + 2) 0) (deep := ((st.2.filter Rw.named).length : Nat)) (a := a) (d := d) ?_ ?_ ok (by omega) (by omega)) ?_) (fun p us H7 hp e7 h7 hR => ?_)
        · rw [← hln]
          walk_at "ev"
          · exact cell_at (n := 3 * i + 1) (by omega) (by omega)
          · exact cell_at (n := 3 * i + 2) (by omega) (by omega)
        · walk_at "ev"
        · unfold gadgetM
          omega
        · have e37 : Ex H' H7 := by walk_at "ex"
          refine ⟨e3.trans e37, p, us, ov, _, _, _, _, rfl, (ne_of_none (e6 _ _ (e5 _ _ (e4 _ _ hpo'))) hp).symm, h7, ?_, e37 _ _ hpo', ?_⟩
          · unfold sheetSt stepM
            rw [hste, if_pos ⟨hb.1, hb.2.1, hb.2.2⟩]
            exact hR
          · unfold sheetSt stepM
            rw [hste, if_pos ⟨hb.1, hb.2.1, hb.2.2⟩]
            exact hOv.up e37
      · simp only [Bool.and_eq_false_iff, decide_eq_false_iff_not, V.int.injEq] at hb
        rw [hln] at hb
        have hneg : ¬ (odd = true ∧ cells.getD (3 * i) 0 % 2 = 0 ∧ ((st.2.filter Rw.named).length : Int) < 3) := fun z => by
          rcases hb with hb | hb | hb
          · rw [z.1] at hb; cases hb
          · exact hb z.2.1
          · exact hb z.2.2
        have est : sheetSt cells d most odd (i + 1) = (st.1 ++ [rowM (cells.getD (3 * i) 0 % most) (cells.getD (3 * i + 1) 0) (cells.getD (3 * i + 2) 0) st.2 d], opUpd st.2 (rowM (cells.getD (3 * i) 0 % most) (cells.getD (3 * i + 1) 0) (cells.getD (3 * i + 2) 0) st.2 d)) := by
          show stepM _ _ _ _ _ _ _ = _
          rw [hste]
          unfold stepM
          rw [if_neg hneg]
        have e46 : Ex H' H6 := by walk_at "ex"
        refine q_asgP (ep_row (way := cells.getD (3 * i) 0 % most) (one := cells.getD (3 * i + 1) 0) (two := cells.getD (3 * i + 2) 0) (o := po) (a := a) (ov := ov) (opened := st.2) (d := d) ?_ (sq_of (e46 _ _ hpo')) (hOv.up e46) (by omega) (by omega) ?_ ok) (fun v H7 e7 hv => ?_)
        · clear e46
          walk_at "ev"
          · exact cell_at (n := 3 * i + 1) (by omega) (by omega)
          · exact cell_at (n := 3 * i + 2) (by omega) (by omega)
        · clear e46
          walk_at "ev"
        show (_ : L2.TS) _ [_, _, _, _, _, _, _, _, _, _] _
        have hfin : (rowM (cells.getD (3 * i) 0 % most) (cells.getD (3 * i + 1) 0) (cells.getD (3 * i + 2) 0) st.2 d).isFin = true → 0 < st.2.length := rowM_fin
        generalize rowM (cells.getD (3 * i) 0 % most) (cells.getD (3 * i + 1) 0) (cells.getD (3 * i + 2) 0) st.2 d = r at *
        have hv : IsRow H7 v r := hv
        have e67 : Ex H' H7 := e46.trans e7
        have hL7 : LRows st.1 (.ref pr) H7 := ⟨pr, rv, rfl, e67 _ _ hpr, hRv.up e67⟩
        refine q_asgPL (elr_catL (elr_var rfl hL7) (elr_lst (er_cons (er_var rfl hv) er_nil) (Nat.le_of_ble_eq_true rfl)) (by show st.1.length + 1 ≤ 100000; omega)) (fun p us H8 hp e8 h8 hR => ?_)
        show (_ : L2.TS) _ [_, _, _, _, _, _, _, _, _, _] _
        have e68 : Ex H' H8 := e67.trans e8
        have hv8 : IsRow H8 v r := hv.up e8
        have hpo8 : H8 po = some (.lst ov) := e68 _ _ hpo'
        have hnp : p ≠ po := (ne_of_none (e67 _ _ hpo') hp).symm
        have eH8 : Ex H H8 := e3.trans e68
        clear e4 e5 e6 e7 e8 e46 e67
        have hR1 : Rows H8 us (sheetSt cells d most odd (i + 1)).1 := by
          rw [est]
          exact hR
        have e2nd : (sheetSt cells d most odd (i + 1)).2 = opUpd st.2 r := by rw [est]
        cases hro : r.opens with
        | true =>
          have hrf : r.isFin = false := by cases r <;> first | rfl | cases hro
          refine q_when (b := true) ?_ (fun _ H9 e9 => ?_) (fun hb _ _ => by cases hb)
          · refine et_is ?_ hro
            rw [← tag_opens r]
            walk_at "ev"
          · refine s_app (e9 _ _ hpo8) (ev_var rfl) (ev_var rfl) (by omega) (fun H10 e10 => ?_)
            have x10 : ExT H10 (upd H10 po (.lst (ov ++ [v]))) := ExT.lst (e10 _ _ (e9 _ _ hpo8))
            have eT : ExT H8 (upd H10 po (.lst (ov ++ [v]))) := (ExT.of (e9.trans e10)).trans x10
            have e11 : Ex H (upd H10 po (.lst (ov ++ [v]))) := Ex.mut (eH8.trans (e9.trans e10)) hpoH
            have hX : IsRow (upd H10 po (.lst (ov ++ [v]))) v r := hv8.upT eT
            dsimp only
            refine s_when (b := false) ?_ (fun hb _ _ => by cases hb) (fun _ H11 e12 => ?_)
            · refine et_is ?_ hrf
              rw [← tag_fin r]
              walk_at "ev"
            · refine ⟨e11.trans e12, p, us, ov ++ [v], _, _, _, _, rfl, hnp, e12 _ _ (by rw [upd_ne hnp]; exact e10 _ _ (e9 _ _ h8)), (hR1.upT eT).up e12, e12 _ _ upd_same, ?_⟩
              rw [e2nd]
              unfold opUpd
              rw [if_pos hro]
              exact (Rows.append ((hOv.up e68).upT eT) (.cons hX .nil)).up e12
        | false =>
          refine q_when (b := false) ?_ (fun hb _ _ => by cases hb) (fun _ H9 e9 => ?_)
          · refine et_is ?_ hro
            rw [← tag_opens r]
            walk_at "ev"
          · have hv9 : IsRow H9 v r := hv8.up e9
            cases hrf : r.isFin with
            | true =>
              have hpos : 0 < ov.length := by
                have := hfin hrf
                omega
              refine s_when (b := true) ?_ (fun _ H10 e10 => ?_) (fun hb _ _ => by cases hb)
              · refine et_is ?_ hrf
                rw [← tag_fin r]
                walk_at "ev"
              · refine s_pop (e10 _ _ (e9 _ _ hpo8)) (ev_var rfl) hpos (fun H11 e11 => ?_)
                have x10 : ExT H11 (upd H11 po (.lst ov.dropLast)) := ExT.lst (e11 _ _ (e10 _ _ (e9 _ _ hpo8)))
                have eT : ExT H8 (upd H11 po (.lst ov.dropLast)) := (ExT.of (e9.trans (e10.trans e11))).trans x10
                have e12 : Ex H (upd H11 po (.lst ov.dropLast)) := Ex.mut (eH8.trans (e9.trans (e10.trans e11))) hpoH
                refine ⟨e12, p, us, ov.dropLast, _, _, _, _, rfl, hnp, (by rw [upd_ne hnp]; exact e11 _ _ (e10 _ _ (e9 _ _ h8))), hR1.upT eT, upd_same, ?_⟩
                rw [e2nd]
                unfold opUpd
                rw [if_neg (by rw [hro]; decide), if_pos hrf]
                exact ((hOv.up e68).upT eT).dropLast
            | false =>
              refine s_when (b := false) ?_ (fun hb _ _ => by cases hb) (fun _ H10 e10 => ?_)
              · refine et_is ?_ hrf
                rw [← tag_fin r]
                walk_at "ev"
              · have e11 : Ex H8 H10 := e9.trans e10
                refine ⟨eH8.trans e11, p, us, ov, _, _, _, _, rfl, hnp, e11 _ _ h8, hR1.up e11, e11 _ _ hpo8, ?_⟩
                rw [e2nd]
                unfold opUpd
                rw [if_neg (by rw [hro]; decide), if_neg (by rw [hrf]; decide)]
                exact (hOv.up e68).up e11
    · rintro σ' H' ⟨e3, pr, rv, ov, x6, x7, x8, x9, rfl, hne, hpr, hRv, hpo', hOv⟩
      rw [show ((((cells.map V.int).length : Nat) : Int) / 3).toNat = cells.length / 3 by rw [List.length_map]; omega] at hRv hOv
      have hst := st_len cells d most odd (cells.length / 3)
      have hlo := hOv.len
      refine s_retP (ep_PL (elr_catL (elr_var rfl ⟨pr, rv, rfl, hpr, hRv⟩) (ep_PL (epl_map (fun _ => Rw.fin) (ev_var rfl) (sq_of hpo') (by omega) (fun x => rfl) (fun j x H4 e4 hx => ?_))) ?_)) (fun v H5 e5 hv => q v H5 (e3.trans e5) ?_)
      · walk_at "row"
      · rw [List.length_map, List.length_range]
        omega
      · unfold sheetM
        rw [← hlo]
        exact hv
theorem ep_sheet {ac a : Addr} {cells : List Int} {d : Draw} {most : Int} {odd : Bool} {ta : TA} {σ : L2.St} {H : Hp} {E : XK} (h : EvA ta σ H [.ref ac, .ref a, .int most, .bl odd]) (hC : SqL K H ac (cells.map V.int)) (hl : cells.length ≤ 600)
    (hS : SqL K H a d.vs) (ok : d.Ok) (hm : 0 < most) : EvP (tCall (spSheet K) [] E ta) σ H (LRows (sheetM cells d most odd)) :=
  ep_call h fun H1 e Q q E => ⟨ac, a, cells, d, most, odd, rfl, ex_l e hC, hl, ex_l e hS, ok, hm, q⟩
end
end BD
namespace BD
open PySem PySem.Spec PyProof.Rows L2 Evl
local macro_rules | `(tactic| walk_at "ev") => `(tactic| first
  | ((with_reducible apply ev_var) ; rfl)
  | with_reducible exact ev_c
  | ((with_reducible apply ev_I0) <;> walk_at "ev")
  | ((with_reducible apply ev_e9) <;> walk_at "ev")
  | ((with_reducible apply ev_I) <;> walk_at "ev")
  | ((with_reducible apply ev_eq) <;> walk_at "ev")
  | ((with_reducible apply ev_ne) <;> walk_at "ev")
  | ((with_reducible apply ev_neg) <;> walk_at "ev")
  | ((with_reducible apply ev_ixN) <;> walk_at "ev")
  | ((with_reducible apply ev_ixL) <;> walk_at "ev")
  | ((with_reducible apply ev_inN) <;> walk_at "ev")
  | ((with_reducible apply ev_inT) <;> walk_at "ev")
  | ((with_reducible apply ev_ixT) <;> walk_at "ev")
  | ((with_reducible apply ev_ixS) <;> walk_at "ev")
  | ((with_reducible apply ev_len') <;> walk_at "ev")
  | ((with_reducible apply et_test) <;> walk_at "ev")
  | ((with_reducible apply et_and) <;> walk_at "ev")
  | ((with_reducible apply et_or) <;> walk_at "ev")
  | ((with_reducible apply et_not) <;> walk_at "ev")
  | ((with_reducible apply et_B) <;> walk_at "ev")
  | ((with_reducible apply el_lst) <;> walk_at "ev")
  | ((with_reducible apply eu_tup) <;> walk_at "ev")
  | ((with_reducible apply ea_cons) <;> walk_at "ev")
  | with_reducible exact ea_nil
  | with_reducible assumption
  | ((with_reducible apply ex_l' ; assumption) ; walk_at "ex")
  | ((with_reducible apply ex_t' ; assumption) ; walk_at "ex")
  | (intro _ ; walk_at "ev")
  | (with_reducible first | exact atI_hd | exact at_kind | exact at2s | exact at3s | exact at3i)
  | (first | exact rfl | exact Nat.le_of_ble_eq_true rfl | exact ⟨by decide, by decide⟩ | decide | exact Or.inl ⟨by omega, by omega⟩ | exact Or.inr ⟨by omega, by omega⟩ | omega)
  | skip)
local macro_rules | `(tactic| walk_at "ex") => `(tactic| first
  | assumption
  | exact Ex.refl _
  | (refine' Ex.trans ?_ (by assumption) ; walk_at "ex"))
local macro_rules | `(tactic| walk_at "row") => `(tactic| first
  | (with_reducible exact er_nil)
  | ((with_reducible apply er_cons) <;> walk_at "row")
  | (((with_reducible apply er_var) ; rfl) ; walk_at "isrow")
  | (((with_reducible apply elr_var) ; rfl) ; walk_at "isrow")
  | ((with_reducible apply elr_cat) <;> walk_at "row")
  | ((with_reducible apply elr_lst) <;> walk_at "row")
  | ((with_reducible apply er_fin) <;> walk_at "ev")
  | ((with_reducible apply er_lendT) <;> walk_at "ev")
  | ((with_reducible apply er_lendW) <;> walk_at "ev")
  | ((with_reducible apply er_pick) <;> walk_at "ev")
  | ((with_reducible apply er_either) <;> walk_at "ev")
  | ((with_reducible apply er_or) <;> walk_at "ev")
  | ((with_reducible apply er_again) <;> walk_at "ev")
  | ((with_reducible apply er_back) <;> walk_at "ev")
  | ((with_reducible apply er_look) <;> walk_at "ev")
  | ((with_reducible apply er_change) <;> walk_at "ev")
  | exact Nat.le_of_ble_eq_true rfl
  | skip)
local macro_rules | `(tactic| walk_at "isrow") => `(tactic| first
  | assumption
  | (refine IsRow.up ?_ (by assumption) ; walk_at "ex")
  | (refine LRows.up ?_ (by assumption) ; walk_at "ex"))

local macro_rules | `(tactic| walk_at "ev") => `(tactic| ((with_reducible apply ev_letter) <;> walk_at "ev"))
local macro_rules | `(tactic| walk_at "ev") => `(tactic| ((with_reducible apply ev_cell) <;> walk_at "ev"))
local macro_rules | `(tactic| walk_at "ev") => `(tactic| ((with_reducible apply ev_word) <;> walk_at "ev"))
local macro_rules | `(tactic| walk_at "ev") => `(tactic| ((with_reducible apply ev_thing) <;> walk_at "ev"))

section
variable {P : Program} {w : World} {K : PySem.W.Frag} {mg : Str → Option Value} {base : Heap}
def mostM (way : Int) : Int := if way = 2 then 5 else if way = 3 ∨ way = 6 then 10 else 12
def wayM (ns : List Int) : Int := cellM ns 2 % 8
def manyM (ns : List Int) (most : Int) : Int :=
  if 3 < wayM ns then cellM ns 0 % (if cellM ns 2 / 384 % 4 = 3 then most + 10 else most) % 6 else cellM ns 0 % (if cellM ns 2 / 384 % 4 = 3 then most + 10 else most)
def cellsM (ns : List Int) (most : Int) : List Int := (List.range (3 * manyM ns most).toNat).map fun (k : Nat) => cellM ns (3 + (k : Int))
def baseM (ns : List Int) (most : Int) : List Rw := sheetM (cellsM ns most) (drawM ns) (mostM (wayM ns)) (decide (3 < wayM ns))
def drawnM (ns : List Int) (most : Int) : List Rw :=
  if (wayM ns = 1 ∨ wayM ns = 6) ∧ ((baseM ns most).length : Int) < 21 then baseM ns most ++ baseM ns most ++ baseM ns most ++ baseM ns most else baseM ns most
theorem in16 (way : Int) : inV (.int way) [V.int 1, V.int 6] = decide (way = 1 ∨ way = 6) := by
  unfold inV
  show ((1 : Int) == way || ((6 : Int) == way || false)) = _
  by_cases h5 : way = 1
  · subst h5; rfl
  · by_cases h6 : way = 6
    · subst h6; rfl
    · rw [decide_eq_false (fun z => z.elim h5 h6), beq_eq_false_iff_ne.mpr (Ne.symm h5), beq_eq_false_iff_ne.mpr (Ne.symm h6)]
      rfl
theorem at_most {way : Int} (h0 : 0 ≤ way) (h8 : way < 8) : atI [V.int 12, V.int 12, V.int 5, V.int 10, V.int 12, V.int 12, V.int 10, V.int 12] way = some (.int (mostM way)) := by
  have h : way = 0 ∨ way = 1 ∨ way = 2 ∨ way = 3 ∨ way = 4 ∨ way = 5 ∨ way = 6 ∨ way = 7 := by omega
  rcases h with h | h | h | h | h | h | h | h <;> subst h <;> rfl
theorem many_le (ns : List Int) {most : Int} (h : 0 < most) (h2 : most ≤ 100) : 0 ≤ manyM ns most ∧ manyM ns most < 110 := by
  unfold manyM
  have e : 0 < (if cellM ns 2 / 384 % 4 = 3 then most + 10 else most) ∧ (if cellM ns 2 / 384 % 4 = 3 then most + 10 else most) ≤ 110 := by
    split <;> omega
  have h3 := Int.emod_nonneg (cellM ns 0) (show (if cellM ns 2 / 384 % 4 = 3 then most + 10 else most) ≠ 0 by omega)
  have h4 := Int.emod_lt_of_pos (cellM ns 0) e.1
  split <;> omega
theorem cells_len (ns : List Int) (most : Int) : (cellsM ns most).length = (3 * manyM ns most).toNat := by
  unfold cellsM
  rw [List.length_map, List.length_range]
theorem base_len (ns : List Int) {most : Int} (h : 0 < most) (h2 : most ≤ 100) : (baseM ns most).length ≤ 1500 := by
  have h3 := sheet_len (cellsM ns most) (drawM ns) (mostM (wayM ns)) (decide (3 < wayM ns))
  have h4 := many_le ns h h2
  rw [cells_len] at h3
  unfold baseM
  omega
theorem drawn_len (ns : List Int) {most : Int} (h : 0 < most) (h2 : most ≤ 100) : (drawnM ns most).length ≤ 1500 := by
  have := base_len ns h h2
  unfold drawnM
  split
  · rw [List.length_append, List.length_append, List.length_append]
    omega
  · exact this
def spDrawn (K : PySem.W.Frag) : Sp := fun vs H Q _ => ∃ (a : Addr) (ns : List Int) (most : Int), vs = [.ref a, .int most] ∧ SqL K H a (ns.map V.int) ∧ 0 < most ∧ most ≤ 90 ∧ Ret (LRows (drawnM ns most)) H Q
theorem ok_drawn (D : Dn K mg "_law_drawn" s_l_drawn ["_law_script", "_law_most"]) (T : Blt mg) (h_l_cell_at : Has P w K mg base "_law_cell_at" 1 ["_law_script", "_law_k"] (spCell K)) (h_l_sheet : Has P w K mg base "_law_sheet" 4 ["_law_cells", "_law_draw_here", "_law_most", "_law_odd"] (spSheet K)) (h_l_draw : Has P w K mg base "_law_draw" 2 ["_law_script"] (spDraw K)) : Has P w K mg base "_law_drawn" 5 ["_law_script", "_law_most"] (spDrawn K) := by
  refine D.ok sc_l_drawn (fun vs H Q E h => ?_) (fun f cdv A outer s H vs Q E hr h => ?_)
  · obtain ⟨a, ns, most, rfl, _⟩ := h
    rfl
  · obtain ⟨a, ns, most, rfl, hS, hm0, hm1, q⟩ := h
    refine ⟨_, (pss_cons (ps_if (pt_cmpR op_eq (pe_op op_mod (pe_op op_fdiv (pe_own h_l_cell_at (hr.mono (by decide)) (by rfl) (pa_cons (pv 0) (pa_cons pe_int pa_nil))) pe_int) pe_int) pe_int (nomark _)) (pss_one (ps_set (i := 1) sc_l_drawn.nd rfl (Or.inl rfl) (pe_op op_add (pv 1) pe_int))) pss_nil) (pss_cons (ps_set (i := 2) sc_l_drawn.nd rfl (Or.inl rfl) (pe_op op_mod (pe_own h_l_cell_at (hr.mono (by decide)) (by rfl) (pa_cons (pv 0) (pa_cons pe_int pa_nil))) (pv 1))) (pss_cons (ps_set (i := 3) sc_l_drawn.nd rfl (Or.inl rfl) (pe_op op_mod (pe_own h_l_cell_at (hr.mono (by decide)) (by rfl) (pa_cons (pv 0) (pa_cons pe_int pa_nil))) pe_int)) (pss_cons (ps_if (pt_cmpR op_gt (pv 3) pe_int (nomark _)) (pss_one (ps_set (i := 2) sc_l_drawn.nd rfl (Or.inl rfl) (pe_op op_mod (pv 2) pe_int))) pss_nil) (pss_cons (ps_setLc (i := 4) (own := [("_law_k", 6)]) (g := (gName 6)) (tt := tYes) rfl sc_l_drawn.nd rfl rfl (sw_true rfl rfl rfl (by decide +kernel)) (pi_range1 (by rfl) T.range_ (pa_cons (pe_op op_mul pe_int (pv 2)) pa_nil)) (blkOk_by (own := [("_law_k", 6)]) (N := ["_law_script", "_law_most", "_law_many", "_law_way", "_law_cells", "_law_rows", "_law_k"]) (sc := defScope s_l_drawn) (by decide +kernel)) (fun _ _ _ _ _ => (pg_name (i := 6) sc_l_drawn.nd rfl (Or.inl rfl))) (fun _ _ _ _ _ => pts_nil) (fun _ _ _ _ _ => (pe_own h_l_cell_at (hr.mono (by decide)) (by rfl) (pa_cons (pv 0) (pa_cons (pe_op op_add pe_int (pv 6)) pa_nil))))) (pss_cons (ps_set (i := 5) sc_l_drawn.nd rfl (Or.inl rfl) (pe_own h_l_sheet (hr.mono (by decide)) (by rfl) (pa_cons (pv 4) (pa_cons (pe_own h_l_draw (hr.mono (by decide)) (by rfl) (pa_cons (pv 0) pa_nil)) (pa_cons (pe_ix (show IxR _ (rIxL K) from ix_list) (pe_lst (pa_cons pe_int (pa_cons pe_int (pa_cons pe_int (pa_cons pe_int (pa_cons pe_int (pa_cons pe_int (pa_cons pe_int (pa_cons pe_int pa_nil))))))))) (pv 3) (fun _ _ => rfl)) (pa_cons (pe_cmpR op_gt (pv 3) pe_int (nomark _)) pa_nil)))))) (pss_cons (ps_if (PW.pt (pw_and (pt_cmpR (show OpR _ _ (rIn K false) from op_in_seq) (pv 3) (pe_lst (pa_cons pe_int (pa_cons pe_int pa_nil))) (by rfl)) (pw_and1 (pt_cmpR op_lt (pe_callB (show CallR _ _ (rLenS K) from call_len_seq) (by rfl) T.len_ (by decide +kernel) (pa_cons (pv 5) pa_nil)) pe_int (nomark _))))) (pss_one (ps_set (i := 5) sc_l_drawn.nd rfl (Or.inl rfl) (pe_op op_cat (pe_op op_cat (pe_op op_cat (pv 5) (pv 5)) (pv 5)) (pv 5)))) pss_nil) (pss_one (ps_ret (pv 5)))))))))), ?_⟩
    show (_ : L2.TS) _ [_, _, _, _, _, _, _] _
    have hmany := many_le ns hm0 (by omega)
    have hbl := base_len ns hm0 (by omega)
    refine q_ifAsg (i := 1) (v := .int (if cellM ns 2 / 384 % 4 = 3 then most + 10 else most)) (b := decide (V.int (cellM ns 2 / 384 % 4) = V.int 3)) ?_ (fun hb => ?_) (fun hb => ?_) (fun H1 e1 => ?_)
    · walk_at "ev"
    · have hb := V.int.inj (of_decide_eq_true hb)
      rw [if_pos hb]
      walk_at "ev"
    · have hb : ¬ cellM ns 2 / 384 % 4 = 3 := fun z => of_decide_eq_false hb (by rw [z])
      rw [if_neg hb]
      rfl
    show (_ : L2.TS) _ [_, _, _, _, _, _, _] _
    have hmp : 0 < (if cellM ns 2 / 384 % 4 = 3 then most + 10 else most) := by split <;> omega
    generalize hmm : (if cellM ns 2 / 384 % 4 = 3 then most + 10 else most) = most2 at *
    refine' q_asg (v := .int (cellM ns 0 % most2)) ?_ (fun H2 e2 => ?_)
    · walk_at "ev"
    show (_ : L2.TS) _ [_, _, _, _, _, _, _] _
    refine' q_asg (v := .int (wayM ns)) ?_ (fun H3 e3 => ?_)
    · unfold wayM
      walk_at "ev"
    show (_ : L2.TS) _ [_, _, _, _, _, _, _] _
    have hw0 : 0 ≤ wayM ns := by unfold wayM; omega
    have hw8 : wayM ns < 8 := by unfold wayM; omega
    refine q_ifAsg (i := 2) (v := .int (manyM ns most)) (b := decide (3 < wayM ns)) ?_ (fun hb => ?_) (fun hb => ?_) (fun H4 e4 => ?_)
    · walk_at "ev"
    · have hb := of_decide_eq_true hb
      unfold manyM
      rw [if_pos hb, hmm]
      walk_at "ev"
    · have hb := of_decide_eq_false hb
      unfold manyM
      rw [if_neg hb, hmm]
      rfl
    show (_ : L2.TS) _ [_, _, _, _, _, _, _] _
    refine q_asgL (xs := (cellsM ns most).map V.int) ?_ (fun pc H5 hpc e5 h5 => ?_)
    · unfold cellsM
      have hg := given_all (3 * manyM ns most).toNat (fun k => V.int (cellM ns (3 + (k : Int))))
      rw [List.map_map]
      show EvL _ _ _ ((List.range (3 * manyM ns most).toNat).map fun (k : Nat) => V.int (cellM ns (3 + (k : Int))))
      rw [← hg]
      refine el_lcR1 _ _ (n := 3 * manyM ns most) ?_ ⟨by omega, by omega⟩ (fun x => rfl) (fun i H6 e6 hi => et_yes) (fun i H6 e6 hi _ => ?_)
      · walk_at "ev"
      · walk_at "ev"
    show (_ : L2.TS) _ [_, _, _, _, _, _, _] _
    have hcl := cells_len ns most
    have hPC : SqL K H5 pc ((cellsM ns most).map V.int) := sq_of h5
    have hS5 : SqL K H5 a (ns.map V.int) := ex_l (by walk_at "ex") hS
    refine q_asgP (R := LRows (baseM ns most)) ?_ (fun v H6 e6 hv => ?_)
    · refine fun H6 e6 Q' q' => ?_
      -- the arguments, one of them a new list
      refine ⟨.ref pc, rfl, ?_⟩
      refine (el_call (sp := spDraw K) (xs := (drawM ns).vs) (vs := [.ref a]) ?_ (fun H1 e Q q E => ⟨a, ns, rfl, ex_l e (ex_l e6 hS5), fun p H2 hp e2 h2 => q p H2 hp e2 h2⟩)) H6 (Ex.refl H6) _ fun pd H8 hpd e8 h8 => ?_
      · walk_at "ev"
      refine (show EvA _ _ H8 [.int (mostM (wayM ns)), .bl (decide (3 < wayM ns))] from ?_) H8 (Ex.refl H8) _ fun H9 e9 => ?_
      · walk_at "ev"
        exact at_most hw0 hw8
      have e69 : Ex H5 H9 := e6.trans (e8.trans e9)
      refine ⟨pc, pd, cellsM ns most, drawM ns, mostM (wayM ns), decide (3 < wayM ns), rfl, ex_l e69 hPC, by omega, sq_of (e9 _ _ h8), drawM_ok ns, ?_, fun v H10 e10 hv => q' v H10 (e8.trans (e9.trans e10)) hv⟩
      unfold mostM
      split
      · decide
      · split <;> decide
    show (_ : L2.TS) _ [_, _, _, _, _, _, _] _
    obtain ⟨pr, rv, rfl, hpr, hR⟩ := id hv
    have hPR : SqL K H6 pr rv := sq_of hpr
    have hlr := hR.len
    refine q_when (b := decide (wayM ns = 1 ∨ wayM ns = 6) && decide ((rv.length : Int) < 21)) ?_ (fun hb H7 e7 => ?_) (fun hb H7 e7 => ?_)
    · rw [← in16]
      walk_at "ev"
    · simp only [Bool.and_eq_true, decide_eq_true_eq] at hb
      rw [hlr] at hb
      have hv7 := hv.up e7
      have hsm : (baseM ns most).length < 21 := by omega
      unfold drawnM at q
      rw [if_pos hb] at q
      refine s_asgP (elr_cat (elr_cat (elr_cat (elr_var rfl hv7) (elr_var rfl hv7) ?_) (elr_var rfl hv7) ?_) (elr_var rfl hv7) ?_) (fun u H8 e8 hu => ?_)
      · omega
      · rw [List.length_append]; omega
      · rw [List.length_append, List.length_append]; omega
      · refine s_ret (v := u) (ev_var rfl) (fun H9 e9 => q u H9 (by walk_at "ex") (hu.up e9))
    · simp only [Bool.and_eq_false_iff, decide_eq_false_iff_not] at hb
      rw [hlr] at hb
      unfold drawnM at q
      rw [if_neg (fun z => hb.elim (fun y => y z.1) (fun y => y z.2))] at q
      refine s_ret (v := .ref pr) (ev_var rfl) (fun H9 e9 => q _ H9 (by walk_at "ex") ((hv.up e7).up e9))
theorem ep_drawn {a : Addr} {ns : List Int} {most : Int} {ta : TA} {σ : L2.St} {H : Hp} {E : XK} (h : EvA ta σ H [.ref a, .int most]) (hS : SqL K H a (ns.map V.int)) (h0 : 0 < most) (h1 : most ≤ 90) : EvP (tCall (spDrawn K) [] E ta) σ H (LRows (drawnM ns most)) :=
  ep_call h fun H1 e Q q E => ⟨a, ns, most, rfl, ex_l e hS, h0, h1, q⟩
end
end BD
namespace BD
open PySem PySem.Spec PyProof.Rows L2 Evl
/-! ### blocks: depth -/
def run : Nat → List Rw → Option Nat
  | d, [] => some d
  | d, r :: rs => if r.opens = true then run (d + 1) rs else if r.isFin = true then (if d = 0 then none else run (d - 1) rs) else run d rs
theorem run_app : ∀ (xs ys : List Rw) (d : Nat), run d (xs ++ ys) = (run d xs).bind fun e => run e ys
  | [], ys, d => rfl
  | r :: xs, ys, d => by
    show (if r.opens = true then run (d + 1) (xs ++ ys) else if r.isFin = true then (if d = 0 then none else run (d - 1) (xs ++ ys)) else run d (xs ++ ys)) =
      (if r.opens = true then run (d + 1) xs else if r.isFin = true then (if d = 0 then none else run (d - 1) xs) else run d xs).bind fun e => run e ys
    split
    · exact run_app xs ys _
    split
    · split
      · rfl
      · exact run_app xs ys _
    · exact run_app xs ys _
theorem run_gad (n : Nat) (one two : Int) (a b c : Str) (t : Int) : run n (gadA one two a b c t) = some n := by
  unfold gadA
  split
  · unfold fourM
    split
    · rfl
    split
    · rfl
    split <;> rfl
  split
  · rfl
  split
  · rfl
  split
  · rfl
  split <;> rfl
theorem run_row {op : List Rw} {r : Rw} (h : r.isFin = true → 0 < op.length) : run op.length [r] = some (opUpd op r).length := by
  unfold opUpd
  show (if r.opens = true then run (op.length + 1) [] else if r.isFin = true then (if op.length = 0 then none else run (op.length - 1) []) else run op.length []) = _
  split
  · rw [List.length_append]; rfl
  split
  · rename_i h2
    rw [if_neg (by have := h h2; omega), List.length_dropLast]
    rfl
  · rfl
theorem run_st (cells : List Int) (d : Draw) (most : Int) (odd : Bool) : ∀ i, run 0 (sheetSt cells d most odd i).1 = some (sheetSt cells d most odd i).2.length
  | 0 => rfl
  | i + 1 => by
    have ih := run_st cells d most odd i
    unfold sheetSt stepM
    split
    · show run 0 (_ ++ gadgetM _ _ _ _) = _
      rw [run_app, ih]
      exact run_gad _ _ _ _ _ _ _
    · show run 0 (_ ++ [_]) = _
      rw [run_app, ih]
      exact run_row rowM_fin
theorem run_fins : ∀ n, run n ((List.range n).map fun _ => Rw.fin) = some 0
  | 0 => rfl
  | n + 1 => by
    rw [List.range_succ_eq_map, List.map_cons, List.map_map]
    show (if n + 1 = 0 then none else run (n + 1 - 1) _) = _
    rw [if_neg (by omega)]
    exact run_fins n
theorem run_sheet (cells : List Int) (d : Draw) (most : Int) (odd : Bool) : run 0 (sheetM cells d most odd) = some 0 := by
  unfold sheetM
  rw [run_app, run_st]
  exact run_fins _
theorem run_drawn (ns : List Int) (most : Int) : run 0 (drawnM ns most) = some 0 := by
  have h : run 0 (baseM ns most) = some 0 := run_sheet _ _ _ _
  unfold drawnM
  split
  · rw [run_app, run_app, run_app, h]
    show ((((run 0 (baseM ns most)).bind fun e => run e (baseM ns most)).bind fun e => run e (baseM ns most))) = _
    rw [h]
    show (((run 0 (baseM ns most)).bind fun e => run e (baseM ns most))) = _
    rw [h]
    exact h
  · exact h
/-! ### the stack of openers -/
def pr (rs : List Rw) : Nat → List Nat
  | 0 => []
  | i + 1 => match rs[i]? with
    | some r => if r.opens = true then i :: pr rs i else if r.isFin = true then (pr rs i).tail else pr rs i
    | none => pr rs i
def hm (rs : List Rw) (i : Nat) : Int := match pr rs i with
  | [] => -1
  | h :: _ => (h : Int)
structure Good (rs : List Rw) : Prop where
  fin : ∀ i r, rs[i]? = some r → r.isFin = true → pr rs i ≠ []
  last : pr rs rs.length = []
theorem pr_next {rs : List Rw} {i : Nat} {r : Rw} (h : rs[i]? = some r) : pr rs (i + 1) = if r.opens = true then i :: pr rs i else if r.isFin = true then (pr rs i).tail else pr rs i := by
  show (match rs[i]? with
    | some r => if r.opens = true then i :: pr rs i else if r.isFin = true then (pr rs i).tail else pr rs i
    | none => pr rs i) = _
  rw [h]
theorem run_pr {rs : List Rw} (h : (run 0 rs).isSome = true) : ∀ i, i ≤ rs.length → run 0 (rs.take i) = some (pr rs i).length
  | 0, _ => by rw [List.take_zero]; rfl
  | i + 1, hi => by
    have hlt : i < rs.length := hi
    have ih := run_pr h i (by omega)
    have hg := List.getElem?_eq_getElem hlt
    have hs : (run 0 (rs.take (i + 1))).isSome = true := by
      have e := List.take_append_drop (i + 1) rs
      rw [← e, run_app] at h
      cases hh : run 0 (rs.take (i + 1)) with
      | none => rw [hh] at h; cases h
      | some _ => rfl
    rw [List.take_add_one, hg, run_app, ih] at hs
    rw [List.take_add_one, hg, run_app, ih, pr_next hg]
    show run (pr rs i).length [rs[i]] = _
    have hs : (run (pr rs i).length [rs[i]]).isSome = true := hs
    show (if rs[i].opens = true then some ((pr rs i).length + 1) else if rs[i].isFin = true then (if (pr rs i).length = 0 then none else some ((pr rs i).length - 1)) else some (pr rs i).length) = _
    split
    · rfl
    split
    · rename_i h1 h2
      have hs2 : (if rs[i].opens = true then some ((pr rs i).length + 1) else if rs[i].isFin = true then (if (pr rs i).length = 0 then none else some ((pr rs i).length - 1)) else some (pr rs i).length).isSome = true := hs
      rw [if_neg h1, if_pos h2] at hs2
      split at hs2
      · cases hs2
      · rename_i h3
        rw [if_neg h3, List.length_tail]
    · rfl
theorem good_of {rs : List Rw} (h : run 0 rs = some 0) : Good rs := by
  have hs : (run 0 rs).isSome = true := by rw [h]; rfl
  refine ⟨fun i r hr hf => ?_, ?_⟩
  · have hlt : i < rs.length := (List.getElem?_eq_some_iff.mp hr).1
    have h1 := run_pr hs i (by omega)
    have h2 := run_pr hs (i + 1) hlt
    rw [List.take_add_one, hr, run_app, h1] at h2
    have h3 : (if r.opens = true then some ((pr rs i).length + 1) else if r.isFin = true then (if (pr rs i).length = 0 then none else some ((pr rs i).length - 1)) else some (pr rs i).length) = some (pr rs (i + 1)).length := h2
    have ho : r.opens = false := by cases r <;> first | rfl | cases hf
    rw [if_neg (by rw [ho]; decide), if_pos hf] at h3
    intro z
    rw [z] at h3
    rw [if_pos (by rfl)] at h3
    cases h3
  · have h1 := run_pr hs rs.length (Nat.le_refl _)
    rw [List.take_length, h] at h1
    have h2 : (pr rs rs.length).length = 0 := (Option.some.inj h1).symm
    exact List.length_eq_zero_iff.mp h2
theorem good_drawn (ns : List Int) (most : Int) : Good (drawnM ns most) := good_of (run_drawn ns most)
/-- what is in the stack -/
theorem pr_mem {rs : List Rw} : ∀ i x, x ∈ pr rs i → x < i ∧ ∃ r, rs[x]? = some r ∧ r.opens = true
  | 0, x, h => by cases h
  | i + 1, x, h => by
    cases hg : rs[i]? with
    | none =>
      have e : pr rs (i + 1) = pr rs i := by
        show (match rs[i]? with
          | some r => if r.opens = true then i :: pr rs i else if r.isFin = true then (pr rs i).tail else pr rs i
          | none => pr rs i) = _
        rw [hg]
      rw [e] at h
      have := pr_mem i x h
      exact ⟨by omega, this.2⟩
    | some r =>
      rw [pr_next hg] at h
      split at h
      · rcases List.mem_cons.mp h with h | h
        · subst h
          exact ⟨Nat.lt_succ_self _, r, hg, by assumption⟩
        · have := pr_mem i x h
          exact ⟨by omega, this.2⟩
      split at h
      · have := pr_mem i x (List.mem_of_mem_tail h)
        exact ⟨by omega, this.2⟩
      · have := pr_mem i x h
        exact ⟨by omega, this.2⟩
theorem pr_nodup {rs : List Rw} : ∀ i, (pr rs i).Nodup
  | 0 => List.nodup_nil
  | i + 1 => by
    have ih := pr_nodup (rs := rs) i
    show (match rs[i]? with
      | some r => if r.opens = true then i :: pr rs i else if r.isFin = true then (pr rs i).tail else pr rs i
      | none => pr rs i).Nodup
    split
    · split
      · refine List.nodup_cons.mpr ⟨fun h => ?_, ih⟩
        have := (pr_mem i i h).1
        omega
      split
      · exact ih.sublist (List.tail_sublist _)
      · exact ih
    · exact ih
theorem hm_lt {rs : List Rw} (i : Nat) : hm rs i < i := by
  unfold hm
  cases h : pr rs i with
  | nil => show (-1 : Int) < i; omega
  | cons a t =>
    have := (pr_mem i a (by rw [h]; exact List.mem_cons_self)).1
    show (a : Int) < i
    omega
/-- at an end: the opener -/
theorem hm_fin {rs : List Rw} (g : Good rs) {i : Nat} {r : Rw} (h : rs[i]? = some r) (hf : r.isFin = true) : ∃ (a : Nat) (t : List Nat), pr rs i = a :: t ∧ hm rs i = (a : Int) ∧ a < i ∧ ∃ q, rs[a]? = some q ∧ q.opens = true := by
  cases hp : pr rs i with
  | nil => exact absurd hp (g.fin i r h hf)
  | cons a t =>
    have := pr_mem i a (by rw [hp]; exact List.mem_cons_self)
    refine ⟨a, t, rfl, ?_, this.1, this.2⟩
    unfold hm
    rw [hp]
/-- an end's opener leaves the stack for good -/
theorem gone {rs : List Rw} {p a : Nat} {t : List Nat} {r : Rw} (h : rs[p]? = some r) (hf : r.isFin = true) (hp : pr rs p = a :: t) (ha : a < p) : ∀ i, p < i → a ∉ pr rs i
  | 0, hi => by omega
  | i + 1, hi => by
    by_cases e : p = i
    · subst e
      have ho : r.opens = false := by cases r <;> first | rfl | cases hf
      rw [pr_next h, if_neg (by rw [ho]; decide), if_pos hf, hp]
      have := pr_nodup (rs := rs) p
      rw [hp] at this
      exact (List.nodup_cons.mp this).1
    · have ih := gone h hf hp ha i (by omega)
      show a ∉ (match rs[i]? with
        | some r => if r.opens = true then i :: pr rs i else if r.isFin = true then (pr rs i).tail else pr rs i
        | none => pr rs i)
      split
      · split
        · intro z
          rcases List.mem_cons.mp z with z | z
          · omega
          · exact ih z
        split
        · exact fun z => ih (List.mem_of_mem_tail z)
        · exact ih
      · exact ih
/-- rows behind the sheet do not reach back -/
theorem pr_app (rs ss : List Rw) : ∀ i, i ≤ rs.length → pr (rs ++ ss) i = pr rs i
  | 0, _ => rfl
  | i + 1, h => by
    have hlt : i < rs.length := h
    have e : (rs ++ ss)[i]? = rs[i]? := List.getElem?_append_left hlt
    have ih := pr_app rs ss i (by omega)
    rw [pr_next (e.trans (List.getElem?_eq_getElem hlt)), pr_next (List.getElem?_eq_getElem hlt), ih]
theorem hm_app (rs ss : List Rw) (i : Nat) (h : i ≤ rs.length) : hm (rs ++ ss) i = hm rs i := by
  unfold hm
  rw [pr_app rs ss i h]
end BD
namespace BD
open PySem PySem.Spec PyProof.Rows L2 Evl
local macro_rules | `(tactic| walk_at "ev") => `(tactic| first
  | ((with_reducible apply ev_var) ; rfl)
  | with_reducible exact ev_c
  | ((with_reducible apply ev_I0) <;> walk_at "ev")
  | ((with_reducible apply ev_e9) <;> walk_at "ev")
  | ((with_reducible apply ev_I) <;> walk_at "ev")
  | ((with_reducible apply ev_eq) <;> walk_at "ev")
  | ((with_reducible apply ev_ne) <;> walk_at "ev")
  | ((with_reducible apply ev_neg) <;> walk_at "ev")
  | ((with_reducible apply ev_ixN) <;> walk_at "ev")
  | ((with_reducible apply ev_ixL) <;> walk_at "ev")
  | ((with_reducible apply ev_inN) <;> walk_at "ev")
  | ((with_reducible apply ev_inT) <;> walk_at "ev")
  | ((with_reducible apply ev_ixT) <;> walk_at "ev")
  | ((with_reducible apply ev_ixS) <;> walk_at "ev")
  | ((with_reducible apply ev_len') <;> walk_at "ev")
  | ((with_reducible apply et_test) <;> walk_at "ev")
  | ((with_reducible apply et_and) <;> walk_at "ev")
  | ((with_reducible apply et_or) <;> walk_at "ev")
  | ((with_reducible apply et_not) <;> walk_at "ev")
  | ((with_reducible apply et_B) <;> walk_at "ev")
  | ((with_reducible apply el_lst) <;> walk_at "ev")
  | ((with_reducible apply eu_tup) <;> walk_at "ev")
  | ((with_reducible apply ea_cons) <;> walk_at "ev")
  | with_reducible exact ea_nil
  | with_reducible assumption
  | ((with_reducible apply ex_l' ; assumption) ; walk_at "ex")
  | ((with_reducible apply ex_t' ; assumption) ; walk_at "ex")
  | (intro _ ; walk_at "ev")
  | (with_reducible first | exact atI_hd | exact at_kind | exact at2s | exact at3s | exact at3i)
  | (first | exact rfl | exact Nat.le_of_ble_eq_true rfl | exact ⟨by decide, by decide⟩ | decide | exact Or.inl ⟨by omega, by omega⟩ | exact Or.inr ⟨by omega, by omega⟩ | omega)
  | skip)
local macro_rules | `(tactic| walk_at "ex") => `(tactic| first
  | assumption
  | exact Ex.refl _
  | (refine' Ex.trans ?_ (by assumption) ; walk_at "ex"))
local macro_rules | `(tactic| walk_at "row") => `(tactic| first
  | (with_reducible exact er_nil)
  | ((with_reducible apply er_cons) <;> walk_at "row")
  | (((with_reducible apply er_var) ; rfl) ; walk_at "isrow")
  | (((with_reducible apply elr_var) ; rfl) ; walk_at "isrow")
  | ((with_reducible apply elr_cat) <;> walk_at "row")
  | ((with_reducible apply elr_lst) <;> walk_at "row")
  | ((with_reducible apply er_fin) <;> walk_at "ev")
  | ((with_reducible apply er_lendT) <;> walk_at "ev")
  | ((with_reducible apply er_lendW) <;> walk_at "ev")
  | ((with_reducible apply er_pick) <;> walk_at "ev")
  | ((with_reducible apply er_either) <;> walk_at "ev")
  | ((with_reducible apply er_or) <;> walk_at "ev")
  | ((with_reducible apply er_again) <;> walk_at "ev")
  | ((with_reducible apply er_back) <;> walk_at "ev")
  | ((with_reducible apply er_look) <;> walk_at "ev")
  | ((with_reducible apply er_change) <;> walk_at "ev")
  | exact Nat.le_of_ble_eq_true rfl
  | skip)
local macro_rules | `(tactic| walk_at "isrow") => `(tactic| first
  | assumption
  | (refine IsRow.up ?_ (by assumption) ; walk_at "ex")
  | (refine LRows.up ?_ (by assumption) ; walk_at "ex"))

local macro_rules | `(tactic| walk_at "ev") => `(tactic| ((with_reducible apply ev_letter) <;> walk_at "ev"))
local macro_rules | `(tactic| walk_at "ev") => `(tactic| ((with_reducible apply ev_cell) <;> walk_at "ev"))
local macro_rules | `(tactic| walk_at "ev") => `(tactic| ((with_reducible apply ev_word) <;> walk_at "ev"))
local macro_rules | `(tactic| walk_at "ev") => `(tactic| ((with_reducible apply ev_thing) <;> walk_at "ev"))

local macro_rules | `(tactic| walk_at "ev") => `(tactic| (((with_reducible apply ev_tag) ; rfl) ; walk_at "isrow"))
section
variable {P : Program} {w : World} {K : PySem.W.Frag} {mg : Str → Option Value} {base : Heap}
/-! ### homes -/
def stV (rs : List Rw) (i : Nat) : List V := .int (-1) :: (pr rs i).reverse.map fun (n : Nat) => V.int (n : Int)
theorem stV_last (rs : List Rw) (i : Nat) : atI (stV rs i) (-1) = some (.int (hm rs i)) := by
  unfold stV hm
  cases pr rs i with
  | nil => exact atI_last [] _
  | cons a t =>
    rw [List.reverse_cons, List.map_append]
    exact atI_last (V.int (-1) :: t.reverse.map fun (n : Nat) => V.int (n : Int)) _
theorem stV_push {rs : List Rw} {i : Nat} {r : Rw} (h : rs[i]? = some r) (ho : r.opens = true) : stV rs (i + 1) = stV rs i ++ [.int (i : Int)] := by
  unfold stV
  rw [pr_next h, if_pos ho, List.reverse_cons, List.map_append]
  rfl
theorem stV_pop {rs : List Rw} {i : Nat} {r : Rw} (g : Good rs) (h : rs[i]? = some r) (hf : r.isFin = true) : stV rs (i + 1) = (stV rs i).dropLast ∧ 0 < (stV rs i).length := by
  obtain ⟨a, t, hp, _⟩ := hm_fin g h hf
  have ho : r.opens = false := by cases r <;> first | rfl | cases hf
  unfold stV
  rw [pr_next h, if_neg (by rw [ho]; decide), if_pos hf, hp, List.reverse_cons, List.map_append]
  refine ⟨?_, Nat.succ_pos _⟩
  show _ = ((V.int (-1) :: t.reverse.map fun (n : Nat) => V.int (n : Int)) ++ [V.int (a : Int)]).dropLast
  rw [List.dropLast_concat]
  rfl
theorem stV_keep {rs : List Rw} {i : Nat} {r : Rw} (h : rs[i]? = some r) (ho : r.opens = false) (hf : r.isFin = false) : stV rs (i + 1) = stV rs i := by
  unfold stV
  rw [pr_next h, if_neg (by rw [ho]; decide), if_neg (by rw [hf]; decide)]
theorem pr_len (rs : List Rw) : ∀ i, (pr rs i).length ≤ i
  | 0 => Nat.le_refl _
  | i + 1 => by
    have ih := pr_len rs i
    show (match rs[i]? with
      | some r => if r.opens = true then i :: pr rs i else if r.isFin = true then (pr rs i).tail else pr rs i
      | none => pr rs i).length ≤ _
    split
    · split
      · rw [List.length_cons]; omega
      split
      · rw [List.length_tail]; omega
      · omega
    · omega
theorem stV_len (rs : List Rw) (i : Nat) : (stV rs i).length ≤ i + 1 := by
  unfold stV
  rw [List.length_cons, List.length_map, List.length_reverse]
  have := pr_len rs i
  omega
def homesV (rs : List Rw) (n : Nat) : List V := (List.range n).map fun i => V.int (hm rs i)
theorem homesV_next (rs : List Rw) (n : Nat) : homesV rs (n + 1) = homesV rs n ++ [.int (hm rs n)] := by
  unfold homesV
  rw [List.range_succ, List.map_append]
  rfl
theorem homesV_len (rs : List Rw) (n : Nat) : (homesV rs n).length = n := by
  unfold homesV
  rw [List.length_map, List.length_range]
theorem homesV_at {rs : List Rw} {n i : Nat} (h : i < n) : (homesV rs n)[i]? = some (.int (hm rs i)) := by
  unfold homesV
  rw [List.getElem?_map, List.getElem?_range h]
  rfl
def spHomes (K : PySem.W.Frag) : Sp := fun vs H Q _ => ∃ (a : Addr) (rv : List V) (rs : List Rw), vs = [.ref a] ∧ SqL K H a rv ∧ Rows H rv rs ∧ Good rs ∧ rs.length ≤ 90000 ∧ RetL (homesV rs rs.length) H Q
end
end BD
namespace BD
open PySem PySem.Spec PyProof.Rows L2 Evl
local macro_rules | `(tactic| walk_at "ev") => `(tactic| first
  | ((with_reducible apply ev_var) ; rfl)
  | with_reducible exact ev_c
  | ((with_reducible apply ev_I0) <;> walk_at "ev")
  | ((with_reducible apply ev_e9) <;> walk_at "ev")
  | ((with_reducible apply ev_I) <;> walk_at "ev")
  | ((with_reducible apply ev_eq) <;> walk_at "ev")
  | ((with_reducible apply ev_ne) <;> walk_at "ev")
  | ((with_reducible apply ev_neg) <;> walk_at "ev")
  | ((with_reducible apply ev_ixN) <;> walk_at "ev")
  | ((with_reducible apply ev_ixL) <;> walk_at "ev")
  | ((with_reducible apply ev_inN) <;> walk_at "ev")
  | ((with_reducible apply ev_inT) <;> walk_at "ev")
  | ((with_reducible apply ev_ixT) <;> walk_at "ev")
  | ((with_reducible apply ev_ixS) <;> walk_at "ev")
  | ((with_reducible apply ev_len') <;> walk_at "ev")
  | ((with_reducible apply et_test) <;> walk_at "ev")
  | ((with_reducible apply et_and) <;> walk_at "ev")
  | ((with_reducible apply et_or) <;> walk_at "ev")
  | ((with_reducible apply et_not) <;> walk_at "ev")
  | ((with_reducible apply et_B) <;> walk_at "ev")
  | ((with_reducible apply el_lst) <;> walk_at "ev")
  | ((with_reducible apply eu_tup) <;> walk_at "ev")
  | ((with_reducible apply ea_cons) <;> walk_at "ev")
  | with_reducible exact ea_nil
  | with_reducible assumption
  | ((with_reducible apply ex_l' ; assumption) ; walk_at "ex")
  | ((with_reducible apply ex_t' ; assumption) ; walk_at "ex")
  | (intro _ ; walk_at "ev")
  | (with_reducible first | exact atI_hd | exact at_kind | exact at2s | exact at3s | exact at3i)
  | (first | exact rfl | exact Nat.le_of_ble_eq_true rfl | exact ⟨by decide, by decide⟩ | decide | exact Or.inl ⟨by omega, by omega⟩ | exact Or.inr ⟨by omega, by omega⟩ | omega)
  | skip)
local macro_rules | `(tactic| walk_at "ex") => `(tactic| first
  | assumption
  | exact Ex.refl _
  | (refine' Ex.trans ?_ (by assumption) ; walk_at "ex"))
local macro_rules | `(tactic| walk_at "row") => `(tactic| first
  | (with_reducible exact er_nil)
  | ((with_reducible apply er_cons) <;> walk_at "row")
  | (((with_reducible apply er_var) ; rfl) ; walk_at "isrow")
  | (((with_reducible apply elr_var) ; rfl) ; walk_at "isrow")
  | ((with_reducible apply elr_cat) <;> walk_at "row")
  | ((with_reducible apply elr_lst) <;> walk_at "row")
  | ((with_reducible apply er_fin) <;> walk_at "ev")
  | ((with_reducible apply er_lendT) <;> walk_at "ev")
  | ((with_reducible apply er_lendW) <;> walk_at "ev")
  | ((with_reducible apply er_pick) <;> walk_at "ev")
  | ((with_reducible apply er_either) <;> walk_at "ev")
  | ((with_reducible apply er_or) <;> walk_at "ev")
  | ((with_reducible apply er_again) <;> walk_at "ev")
  | ((with_reducible apply er_back) <;> walk_at "ev")
  | ((with_reducible apply er_look) <;> walk_at "ev")
  | ((with_reducible apply er_change) <;> walk_at "ev")
  | exact Nat.le_of_ble_eq_true rfl
  | skip)
local macro_rules | `(tactic| walk_at "isrow") => `(tactic| first
  | assumption
  | (refine IsRow.up ?_ (by assumption) ; walk_at "ex")
  | (refine LRows.up ?_ (by assumption) ; walk_at "ex"))

local macro_rules | `(tactic| walk_at "ev") => `(tactic| ((with_reducible apply ev_letter) <;> walk_at "ev"))
local macro_rules | `(tactic| walk_at "ev") => `(tactic| ((with_reducible apply ev_cell) <;> walk_at "ev"))
local macro_rules | `(tactic| walk_at "ev") => `(tactic| ((with_reducible apply ev_word) <;> walk_at "ev"))
local macro_rules | `(tactic| walk_at "ev") => `(tactic| ((with_reducible apply ev_thing) <;> walk_at "ev"))

local macro_rules | `(tactic| walk_at "ev") => `(tactic| (((with_reducible apply ev_tag) ; rfl) ; walk_at "isrow"))
def opAt (rs : List Rw) (i : Nat) : Bool := match rs[i]? with
  | some r => r.opens
  | none => false
def finF (rs : List Rw) (a p : Nat) : Bool := decide (hm rs p = (a : Int)) && (match rs[p]? with
  | some r => r.isFin
  | none => false)
def orF (rs : List Rw) (a p : Nat) : Bool := decide (hm rs p = (a : Int)) && (match rs[p]? with
  | some r => r.isOr
  | none => false)
theorem finF_low {rs : List Rw} {a p : Nat} (h : p ≤ a) : finF rs a p = false := by
  unfold finF
  have := hm_lt (rs := rs) p
  rw [decide_eq_false (by omega)]
  rfl
theorem orF_low {rs : List Rw} {a p : Nat} (h : p ≤ a) : orF rs a p = false := by
  unfold orF
  have := hm_lt (rs := rs) p
  rw [decide_eq_false (by omega)]
  rfl
theorem finF_at {rs : List Rw} {a p : Nat} {r : Rw} (h : rs[p]? = some r) : finF rs a p = (decide (hm rs p = (a : Int)) && r.isFin) := by
  unfold finF
  rw [h]
theorem orF_at {rs : List Rw} {a p : Nat} {r : Rw} (h : rs[p]? = some r) : orF rs a p = (decide (hm rs p = (a : Int)) && r.isOr) := by
  unfold orF
  rw [h]
/-- the first end of the block at a, of the rows below i -/
def endUp (rs : List Rw) (a i : Nat) : Int := match (List.range i).find? (finF rs a) with
  | some p => (p : Int)
  | none => -1
def endsV (rs : List Rw) (i : Nat) : List V := (List.range rs.length).map fun a => V.int (if opAt rs a = true then endUp rs a i else -1)
theorem endsV_len (rs : List Rw) (i : Nat) : (endsV rs i).length = rs.length := by
  unfold endsV
  rw [List.length_map, List.length_range]
theorem endUp_next {rs : List Rw} {a i : Nat} (h : finF rs a i = false) : endUp rs a (i + 1) = endUp rs a i := by
  unfold endUp
  rw [List.range_succ, List.find?_append, List.find?_cons, h]
  cases (List.range i).find? (finF rs a) <;> rfl
theorem endUp_hit {rs : List Rw} {a i : Nat} (h : finF rs a i = true) (hn : ∀ p, p < i → finF rs a p = false) : endUp rs a (i + 1) = (i : Int) := by
  unfold endUp
  have e : (List.range i).find? (finF rs a) = none := List.find?_eq_none.mpr fun x hx => by
    rw [hn x (List.mem_range.mp hx)]
    decide
  rw [List.range_succ, List.find?_append, List.find?_cons, h, e]
  rfl
theorem endUp_none {rs : List Rw} {a i : Nat} (hn : ∀ p, p < i → finF rs a p = false) : endUp rs a i = -1 := by
  unfold endUp
  have e : (List.range i).find? (finF rs a) = none := List.find?_eq_none.mpr fun x hx => by
    rw [hn x (List.mem_range.mp hx)]
    decide
  rw [e]
/-- behind a first hit nothing changes -/
theorem endUp_stay {rs : List Rw} {a p : Nat} (h : finF rs a p = true) (hn : ∀ q, q < p → finF rs a q = false) : ∀ i, p < i → endUp rs a i = (p : Int)
  | 0, hi => by omega
  | i + 1, hi => by
    by_cases e : p = i
    · subst e
      exact endUp_hit h hn
    · have ih := endUp_stay h hn i (by omega)
      unfold endUp at ih ⊢
      rw [List.range_succ, List.find?_append]
      cases hf : (List.range i).find? (finF rs a) with
      | none =>
        rw [hf] at ih
        exact absurd ih (by show ¬ (-1 : Int) = (p : Int); omega)
      | some q =>
        rw [hf] at ih
        exact ih
theorem first_end {rs : List Rw} (g : Good rs) {i a : Nat} {t : List Nat} {r : Rw} (hi : rs[i]? = some r) (hp : pr rs i = a :: t) : ∀ p, p < i → finF rs a p = false := fun p hpi => by
  cases hq : rs[p]? with
  | none => unfold finF; rw [hq, Bool.and_false]
  | some q =>
    rw [finF_at hq]
    cases hf : q.isFin with
    | false => exact Bool.and_false _
    | true =>
      rw [Bool.and_true]
      refine decide_eq_false fun z => ?_
      obtain ⟨b, u, e1, e2, e3, _⟩ := hm_fin g hq hf
      have eb : b = a := by rw [e2] at z; omega
      subst eb
      refine gone hq hf e1 e3 i hpi ?_
      rw [hp]
      exact List.mem_cons_self
theorem endsV_keep {rs : List Rw} {i : Nat} {r : Rw} (hi : rs[i]? = some r) (hf : r.isFin = false) : endsV rs (i + 1) = endsV rs i := by
  unfold endsV
  refine List.map_congr_left fun a _ => ?_
  rw [endUp_next (by rw [finF_at hi, hf, Bool.and_false])]
theorem endsV_set {rs : List Rw} (g : Good rs) {i a : Nat} {t : List Nat} {r : Rw} (hi : rs[i]? = some r) (hf : r.isFin = true) (hp : pr rs i = a :: t) (hm' : hm rs i = (a : Int)) (ho : opAt rs a = true) : endsV rs (i + 1) = (endsV rs i).set a (.int (i : Int)) := by
  have hil : i < rs.length := (List.getElem?_eq_some_iff.mp hi).1
  refine List.ext_getElem? fun b => ?_
  by_cases hb : b < rs.length
  · unfold endsV
    rw [List.getElem?_map, List.getElem?_range hb, List.getElem?_set]
    by_cases hab : a = b
    · subst hab
      rw [if_pos rfl, if_pos (by rw [List.length_map, List.length_range]; exact hb)]
      show some (V.int (if opAt rs a = true then endUp rs a (i + 1) else -1)) = _
      rw [if_pos ho, endUp_hit (by rw [finF_at hi, hf, hm', decide_eq_true rfl]; rfl) (first_end g hi hp)]
    · rw [if_neg hab, List.getElem?_map, List.getElem?_range hb]
      show some (V.int (if opAt rs b = true then endUp rs b (i + 1) else -1)) = some (V.int (if opAt rs b = true then endUp rs b i else -1))
      rw [endUp_next (by rw [finF_at hi, hm', decide_eq_false (by omega)]; rfl)]
  · rw [List.getElem?_eq_none (by rw [endsV_len]; omega), List.getElem?_eq_none (by rw [List.length_set, endsV_len]; omega)]
theorem endsV_zero (rs : List Rw) : endsV rs 0 = List.replicate rs.length (.int (-1)) := by
  refine List.ext_getElem? fun b => ?_
  by_cases hb : b < rs.length
  · unfold endsV
    rw [List.getElem?_map, List.getElem?_range hb, List.getElem?_replicate, if_pos hb]
    show some (V.int (if opAt rs b = true then -1 else -1)) = _
    split <;> rfl
  · rw [List.getElem?_eq_none (by rw [endsV_len]; omega), List.getElem?_eq_none (by rw [List.length_replicate]; omega)]
/-- the firsts of the branches, of the rows below i -/
def brV (rs : List Rw) (a i : Nat) : List V := .int ((a : Int) + 1) :: ((List.range i).filter (orF rs a)).map fun (p : Nat) => V.int ((p : Int) + 1)
theorem brV_yes {rs : List Rw} {a i : Nat} (h : orF rs a i = true) : brV rs a (i + 1) = brV rs a i ++ [.int ((i : Int) + 1)] := by
  unfold brV
  rw [List.range_succ, List.filter_append, List.map_append, List.filter_cons, if_pos h]
  rfl
theorem brV_no {rs : List Rw} {a i : Nat} (h : orF rs a i = false) : brV rs a (i + 1) = brV rs a i := by
  unfold brV
  rw [List.range_succ, List.filter_append, List.map_append, List.filter_cons, if_neg (by rw [h]; decide)]
  show _ :: (_ ++ []) = _
  rw [List.append_nil]
theorem brV_len (rs : List Rw) (a i : Nat) : (brV rs a i).length ≤ i + 1 := by
  unfold brV
  rw [List.length_cons, List.length_map]
  have := List.length_filter_le (orF rs a) (List.range i)
  rw [List.length_range] at this
  omega
theorem brV_low (rs : List Rw) (a : Nat) : ∀ i, i ≤ a + 1 → brV rs a i = [.int ((a : Int) + 1)]
  | 0, _ => rfl
  | i + 1, h => by rw [brV_no (orF_low (by omega)), brV_low rs a i (by omega)]
section
variable {P : Program} {w : World} {K : PySem.W.Frag} {mg : Str → Option Value} {base : Heap}
theorem el_rep {ta tb : TE} {σ : L2.St} {H : Hp} {xs : List V} {k : Int} (ha : EvL ta σ H xs) (hb : Ev tb σ H (.int k)) (h0 : 0 ≤ k) (h1 : k ≤ 90000) (hl : xs.length * k.toNat ≤ 100000) : EvL (tOp rRep ta tb) σ H (List.replicate k.toNat xs).flatten := fun H1 e Q q =>
  ha H1 e _ fun p H2 hp e2 h2 => hb H2 (e.trans e2) _ fun H3 e3 => ⟨p, k, xs, rfl, rfl, e3 _ _ h2, by omega, by omega, sz_of hl, fun z hz => q z _ (fresh_back (e2.trans e3) hz) ((e2.trans e3).trans (Ex.new hz)) upd_same⟩
theorem flat_rep (v : V) : ∀ n, (List.replicate n [v]).flatten = List.replicate n v
  | 0 => rfl
  | n + 1 => by
    rw [List.replicate_succ, List.flatten_cons, flat_rep v n]
    rfl
end
end BD
namespace BD
open PySem PySem.Spec PyProof.Rows L2 Evl
def Src.S : Src → Prop
  | .thing n => 0 ≤ n ∧ n ≤ 999999999
  | .word w => WordS w
def RowS : Rw → Prop
  | .lend h k s => WordS h ∧ (k = "read" ∨ k = "write") ∧ s.S
  | .pick w ts => WordS w ∧ 1 ≤ ts.length ∧ ts.length ≤ 5 ∧ ∀ t ∈ ts, 0 ≤ t ∧ t ≤ 999999999
  | .back h => WordS h
  | .look h => WordS h
  | .change h => WordS h
  | _ => True
theorem kindM_s (x : Int) : kindM x = "read" ∨ kindM x = "write" := by
  unfold kindM
  split
  · exact .inl rfl
  · exact .inr rfl
theorem thingM_s (c b : Int) : 0 ≤ thingM c b ∧ thingM c b ≤ 999999999 := by
  unfold thingM
  split <;> omega
theorem rowS_word {r : Rw} (h : RowS r) (hn : r.named = true) : WordS r.word := by
  cases r with
  | lend a b c => exact h.1
  | pick a b => exact h.1
  | _ => cases hn
theorem lendM_s {one two : Int} {named : List Rw} {d : Draw} (ok : d.Ok) (hl : named.length ≤ 11) (hn : ∀ r ∈ named, RowS r ∧ r.named = true) : RowS (lendM one two named d) := by
  have hw : WordS (wordM one two named.length d) := wordM_s ok (by omega) (by omega)
  unfold lendM
  split
  · rename_i h
    have hm : named.getD (two % named.length).toNat .fin ∈ named := getD_mem (by
      have := Int.emod_lt_of_pos two h.2
      have := Int.emod_nonneg two (show (named.length : Int) ≠ 0 by omega)
      omega)
    have := hn _ hm
    refine ⟨hw, ?_, rowS_word this.1 this.2⟩
    split
    · exact .inl rfl
    · exact kindM_s _
  · exact ⟨hw, kindM_s _, thingM_s _ _⟩
theorem deedM_s {one two : Int} {hands : List Rw} (hl : 0 < hands.length) (hn : ∀ r ∈ hands, RowS r ∧ r.isLend = true) : RowS (deedM one two hands) := by
  have hm : hands.getD (two % hands.length).toNat .fin ∈ hands := getD_mem (by
    have := Int.emod_lt_of_pos two (show (0 : Int) < hands.length by omega)
    have := Int.emod_nonneg two (show (hands.length : Int) ≠ 0 by omega)
    omega)
  have := hn _ hm
  have hw : WordS (hands.getD (two % hands.length).toNat .fin).word := rowS_word this.1 (by
    have h2 := this.2
    generalize hands.getD (two % hands.length).toNat .fin = r at *
    cases r <;> first | rfl | cases h2)
  unfold deedM
  split
  · exact hw
  split
  · exact hw
  split <;> exact hw
theorem rowM_s {way one two : Int} {op : List Rw} {d : Draw} (ok : d.Ok) (hf : Few op) (ho : ∀ r ∈ op, RowS r) : RowS (rowM way one two op d) := by
  have hnl := hf.named
  have hn : ∀ r ∈ op.filter Rw.named, RowS r ∧ r.named = true := fun r hr => ⟨ho r (List.mem_filter.mp hr).1, (List.mem_filter.mp hr).2⟩
  have hh : ∀ r ∈ (op.filter Rw.named).filter Rw.isLend, RowS r ∧ r.isLend = true := fun r hr => ⟨(hn r (List.mem_filter.mp hr).1).1, (List.mem_filter.mp hr).2⟩
  unfold rowM rowN
  split
  · exact lendM_s ok (by omega) hn
  split
  · refine ⟨wordM_s ok (by omega) (by omega), ?_, ?_, fun t ht => ?_⟩
    · rw [List.length_map, List.length_range]; omega
    · rw [List.length_map, List.length_range]; omega
    · obtain ⟨k, _, rfl⟩ := List.mem_map.mp ht
      exact thingM_s _ _
  split
  · trivial
  split
  · trivial
  split
  · trivial
  split
  · rename_i h
    exact deedM_s (by omega) hh
  split
  · trivial
  · exact lendM_s ok (by omega) hn
theorem pick3_s {α : Type} {p : α → Prop} (x : Int) {a b c : α} (ha : p a) (hb : p b) (hc : p c) : p (pick3 x a b c) := by
  unfold pick3
  split
  · exact ha
  split
  · exact hb
  · exact hc
theorem pick2_s {α : Type} {p : α → Prop} (x : Int) {a b : α} (ha : p a) (hb : p b) : p (pick2 x a b) := by
  unfold pick2
  split
  · exact ha
  · exact hb
theorem all_cons {α : Type} {p : α → Prop} {a : α} {l : List α} (h : p a) (t : ∀ x ∈ l, p x) : ∀ x ∈ a :: l, p x := fun x hx => by
  rcases List.mem_cons.mp hx with e | e
  · subst e; exact h
  · exact t x e
theorem all_nil {α : Type} {p : α → Prop} : ∀ x ∈ ([] : List α), p x := fun x hx => by cases hx
theorem all_app {α : Type} {p : α → Prop} {a b : List α} (h : ∀ x ∈ a, p x) (t : ∀ x ∈ b, p x) : ∀ x ∈ a ++ b, p x := fun x hx => (List.mem_append.mp hx).elim (h x) (t x)
theorem gadA_s {one two t : Int} {a b c : Str} (ha : WordS a) (hb : WordS b) (hc : WordS c) (ht : 0 ≤ t ∧ t ≤ 999999999) : ∀ r ∈ gadA one two a b c t, RowS r := by
  have k8 := kindM_s (one / 8)
  have k2 := kindM_s two
  have kr : ("read" : Str) = "read" ∨ ("read" : Str) = "write" := .inl rfl
  have kw : ("write" : Str) = "read" ∨ ("write" : Str) = "write" := .inr rfl
  have hf : 0 ≤ (t + 1) % 1000000000 ∧ (t + 1) % 1000000000 ≤ 999999999 := by omega
  have hl : 0 ≤ (t + 2) % 1000000000 ∧ (t + 2) % 1000000000 ≤ 999999999 := by omega
  have ba : RowS (.back a) := ha
  have bb : RowS (.back b) := hb
  have la : RowS (.look a) := ha
  have lb : RowS (.look b) := hb
  have tf : RowS .fin := trivial
  have te : RowS .either := trivial
  have to : RowS .or := trivial
  have tg : RowS .again := trivial
  have wwt : ∀ {x : Str} {k : Str} {n : Int}, WordS x → (k = "read" ∨ k = "write") → (0 ≤ n ∧ n ≤ 999999999) → RowS (.lend x k (.thing n)) := fun a b c => ⟨a, b, c⟩
  have www : ∀ {x k y : Str}, WordS x → (k = "read" ∨ k = "write") → WordS y → RowS (.lend x k (.word y)) := fun a b c => ⟨a, b, c⟩
  have p3 : RowS (.back (pick3 two a b a)) := pick3_s (p := WordS) two ha hb ha
  have q3 : RowS (.look (pick3 one c c b)) := pick3_s (p := WordS) one hc hc hb
  have p2 : RowS (.back (pick2 two a b)) := pick2_s (p := WordS) two ha hb
  have t3 : 0 ≤ pick3 two t ((t + 1) % 1000000000) ((t + 2) % 1000000000) ∧ pick3 two t ((t + 1) % 1000000000) ((t + 2) % 1000000000) ≤ 999999999 := pick3_s (p := fun n : Int => 0 ≤ n ∧ n ≤ 999999999) two ht hf hl
  have pk5 : RowS (.pick c [t, t, (t + 1) % 1000000000, (t + 1) % 1000000000, (t + 2) % 1000000000]) := ⟨hc, by show 1 ≤ 5; omega, by show 5 ≤ 5; omega, all_cons ht (all_cons ht (all_cons hf (all_cons hf (all_cons hl all_nil))))⟩
  have pk2 : RowS (.pick c [(t + 1) % 1000000000, t]) := ⟨hc, by show 1 ≤ 2; omega, by show 2 ≤ 5; omega, all_cons hf (all_cons ht all_nil)⟩
  unfold gadA
  split
  · unfold fourM
    split
    · exact all_cons (wwt ha k8 ht) (all_cons tg (all_cons la (all_cons ba (all_cons tf (all_cons tf all_nil)))))
    split
    · exact all_app (all_cons (wwt ha k8 ht) (all_cons te (all_cons ba (all_cons to (all_cons la (all_cons tf all_nil)))))) (all_cons la (all_cons tf all_nil))
    split
    · exact all_app (all_cons (wwt ha kw ht) (all_cons (www hb kw ha) (all_cons (www hc k8 hb) all_nil))) (all_cons p3 (all_cons q3 (all_cons tf (all_cons tf (all_cons tf all_nil)))))
    · exact all_app (all_cons (wwt ha kw ht) (all_cons (www hb kr ha) (all_cons (wwt hc k2 ht) (all_cons tg all_nil)))) (all_cons bb (all_cons tf (all_cons tf (all_cons tf (all_cons tf all_nil)))))
  split
  · exact all_app (all_app (all_cons pk5 all_nil) (all_cons (wwt ha kw t3) (all_cons (www hb k8 hc) all_nil))) (all_cons tf (all_cons tf (all_cons tf all_nil)))
  split
  · exact all_app (all_cons (wwt ha kw ht) (all_cons (www hb kr ha) (all_cons te (all_cons p2 all_nil)))) (all_cons to (all_cons lb (all_cons tf (all_cons la (all_cons tf (all_cons tf all_nil))))))
  split
  · exact all_app (all_cons (wwt ha k8 hf) (all_cons (wwt hb k2 ht) all_nil)) (all_cons (wwt hc kw ht) (all_cons lb (all_cons tf (all_cons tf (all_cons tf all_nil)))))
  split
  · exact all_cons (wwt ha kw ht) (all_cons ba (all_cons (www hb k8 ha) (all_cons lb (all_cons tf (all_cons tf all_nil)))))
  · exact all_app (all_cons pk2 (all_cons (wwt ha kw ht) (all_cons te (all_cons ba all_nil)))) (all_cons to (all_cons tf (all_cons (www hb k8 hc) (all_cons la (all_cons tf (all_cons tf (all_cons tf all_nil)))))))
theorem opUpd_s {op : List Rw} {r : Rw} (ho : ∀ x ∈ op, RowS x) (hr : RowS r) : ∀ x ∈ opUpd op r, RowS x := by
  unfold opUpd
  split
  · exact all_app ho (all_cons hr all_nil)
  split
  · exact fun x hx => ho x ((List.dropLast_sublist op).mem hx)
  · exact ho
theorem st_s {cells : List Int} {d : Draw} {most : Int} {odd : Bool} (ok : d.Ok) : ∀ i, (∀ r ∈ (sheetSt cells d most odd i).1, RowS r) ∧ (∀ r ∈ (sheetSt cells d most odd i).2, RowS r)
  | 0 => ⟨all_nil, all_nil⟩
  | i + 1 => by
    have ih := st_s (cells := cells) (most := most) (odd := odd) ok i
    have hf := few_st cells d most odd i
    have hn := hf.named
    unfold sheetSt stepM
    split
    · exact ⟨all_app ih.1 (gadA_s (wordM_s ok (by omega) (by omega)) (wordM_s ok (by omega) (by omega)) (wordM_s ok (by omega) (by omega)) (thingM_s _ _)), ih.2⟩
    · have hr := rowM_s (way := cells.getD (3 * i) 0 % most) (one := cells.getD (3 * i + 1) 0) (two := cells.getD (3 * i + 2) 0) ok hf ih.2
      exact ⟨all_app ih.1 (all_cons hr all_nil), opUpd_s ih.2 hr⟩
theorem drawn_s (ns : List Int) (most : Int) : ∀ r ∈ drawnM ns most, RowS r := by
  have h : ∀ r ∈ baseM ns most, RowS r := by
    have := st_s (cells := cellsM ns most) (most := mostM (wayM ns)) (odd := decide (3 < wayM ns)) (drawM_ok ns) ((cellsM ns most).length / 3)
    refine all_app this.1 fun r hr => ?_
    obtain ⟨_, _, rfl⟩ := List.mem_map.mp hr
    trivial
  unfold drawnM
  split
  · exact all_app (all_app (all_app h h) h) h
  · exact h
/-! ### rows as data -/
def Src.d : Src → PyData
  | .thing n => .int n
  | .word w => .str w
def rowD : Rw → PyData
  | .lend h k s => .tuple [.str "lend", .str h, .str k, s.d]
  | .pick w ts => .tuple [.str "pick", .str w, .tuple (ts.map PyData.int)]
  | .either => .tuple [.str "either"]
  | .or => .tuple [.str "or"]
  | .again => .tuple [.str "again"]
  | .fin => .tuple [.str "end"]
  | .back h => .tuple [.str "back", .str h]
  | .look h => .tuple [.str "look", .str h]
  | .change h => .tuple [.str "change", .str h]
theorem row_dp {K : PySem.W.Frag} {H : Hp} {v : V} {r : Rw} (h : IsRow H v r) : Dp K H v (rowD r) := by
  cases r with
  | lend a b s =>
    obtain ⟨p, rfl, hp⟩ := h
    cases s with
    | thing n => exact .tup (st_of hp) (.cons (.str _) (.cons (.str _) (.cons (.str _) (.cons (.int _) .nil))))
    | word w => exact .tup (st_of hp) (.cons (.str _) (.cons (.str _) (.cons (.str _) (.cons (.str _) .nil))))
  | pick w ts =>
    obtain ⟨p, q, rfl, hp, hq⟩ := h
    exact .tup (st_of hp) (.cons (.str _) (.cons (.str _) (.cons (.tup (st_of hq) (dp_ints ts)) .nil)))
  | either => obtain ⟨p, rfl, hp⟩ := h; exact .tup (st_of hp) (.cons (.str _) .nil)
  | or => obtain ⟨p, rfl, hp⟩ := h; exact .tup (st_of hp) (.cons (.str _) .nil)
  | again => obtain ⟨p, rfl, hp⟩ := h; exact .tup (st_of hp) (.cons (.str _) .nil)
  | fin => obtain ⟨p, rfl, hp⟩ := h; exact .tup (st_of hp) (.cons (.str _) .nil)
  | back a => obtain ⟨p, rfl, hp⟩ := h; exact .tup (st_of hp) (.cons (.str _) (.cons (.str _) .nil))
  | look a => obtain ⟨p, rfl, hp⟩ := h; exact .tup (st_of hp) (.cons (.str _) (.cons (.str _) .nil))
  | change a => obtain ⟨p, rfl, hp⟩ := h; exact .tup (st_of hp) (.cons (.str _) (.cons (.str _) .nil))
theorem kind_ok {k : Str} (h : k = "read" ∨ k = "write") : PyData.strOk k = true := by
  rcases h with h | h <;> subst h <;> decide +kernel
theorem ok_lend' : PyData.strOk "lend" = true := by decide +kernel
theorem ok_pick' : PyData.strOk "pick" = true := by decide +kernel
theorem ok_back' : PyData.strOk "back" = true := by decide +kernel
theorem ok_look' : PyData.strOk "look" = true := by decide +kernel
theorem ok_change' : PyData.strOk "change" = true := by decide +kernel
theorem row_lay {r : Rw} (h : RowS r) : (rowD r).canLay0 = true ∧ (rowD r).depth ≤ 64 := by
  cases r with
  | lend a b s =>
    have h1 := word_ok h.1
    have h2 := kind_ok h.2.1
    cases s with
    | thing n =>
      simp [rowD, Src.d, PyData.canLay0, PyData.canLayAll0, PyData.depth, PyData.depthAll, h1, h2, ok_lend']
    | word w =>
      have h3 := word_ok h.2.2
      simp [rowD, Src.d, PyData.canLay0, PyData.canLayAll0, PyData.depth, PyData.depthAll, h1, h2, h3, ok_lend']
  | pick w ts =>
    have h1 := word_ok h.1
    simp [rowD, PyData.canLay0, PyData.canLayAll0, PyData.depth, PyData.depthAll, h1, ok_pick', PySem.W.ke_canLayAll0, PySem.W.ke_depthAll]
  | either => exact ⟨by decide +kernel, by decide +kernel⟩
  | or => exact ⟨by decide +kernel, by decide +kernel⟩
  | again => exact ⟨by decide +kernel, by decide +kernel⟩
  | fin => exact ⟨by decide +kernel, by decide +kernel⟩
  | back a =>
    have h1 := word_ok h
    simp [rowD, PyData.canLay0, PyData.canLayAll0, PyData.depth, PyData.depthAll, h1, ok_back']
  | look a =>
    have h1 := word_ok h
    simp [rowD, PyData.canLay0, PyData.canLayAll0, PyData.depth, PyData.depthAll, h1, ok_look']
  | change a =>
    have h1 := word_ok h
    simp [rowD, PyData.canLay0, PyData.canLayAll0, PyData.depth, PyData.depthAll, h1, ok_change']
theorem row_shaped {r : Rw} (h : RowS r) : SeqAt.shaped (rowD r) = true := by
  have := row_lay h
  unfold SeqAt.shaped
  rw [this.1, decide_eq_true this.2]
  rfl
end BD
namespace BD
open PySem PySem.Spec PyProof.Rows L2 Evl
local macro_rules | `(tactic| walk_at "ev") => `(tactic| first
  | ((with_reducible apply ev_var) ; rfl)
  | with_reducible exact ev_c
  | ((with_reducible apply ev_I0) <;> walk_at "ev")
  | ((with_reducible apply ev_e9) <;> walk_at "ev")
  | ((with_reducible apply ev_I) <;> walk_at "ev")
  | ((with_reducible apply ev_eq) <;> walk_at "ev")
  | ((with_reducible apply ev_ne) <;> walk_at "ev")
  | ((with_reducible apply ev_neg) <;> walk_at "ev")
  | ((with_reducible apply ev_ixN) <;> walk_at "ev")
  | ((with_reducible apply ev_ixL) <;> walk_at "ev")
  | ((with_reducible apply ev_inN) <;> walk_at "ev")
  | ((with_reducible apply ev_inT) <;> walk_at "ev")
  | ((with_reducible apply ev_ixT) <;> walk_at "ev")
  | ((with_reducible apply ev_ixS) <;> walk_at "ev")
  | ((with_reducible apply ev_len') <;> walk_at "ev")
  | ((with_reducible apply et_test) <;> walk_at "ev")
  | ((with_reducible apply et_and) <;> walk_at "ev")
  | ((with_reducible apply et_or) <;> walk_at "ev")
  | ((with_reducible apply et_not) <;> walk_at "ev")
  | ((with_reducible apply et_B) <;> walk_at "ev")
  | ((with_reducible apply el_lst) <;> walk_at "ev")
  | ((with_reducible apply eu_tup) <;> walk_at "ev")
  | ((with_reducible apply ea_cons) <;> walk_at "ev")
  | with_reducible exact ea_nil
  | with_reducible assumption
  | ((with_reducible apply ex_l' ; assumption) ; walk_at "ex")
  | ((with_reducible apply ex_t' ; assumption) ; walk_at "ex")
  | (intro _ ; walk_at "ev")
  | (with_reducible first | exact atI_hd | exact at_kind | exact at2s | exact at3s | exact at3i)
  | (first | exact rfl | exact Nat.le_of_ble_eq_true rfl | exact ⟨by decide, by decide⟩ | decide | exact Or.inl ⟨by omega, by omega⟩ | exact Or.inr ⟨by omega, by omega⟩ | omega)
  | skip)
local macro_rules | `(tactic| walk_at "ex") => `(tactic| first
  | assumption
  | exact Ex.refl _
  | (refine' Ex.trans ?_ (by assumption) ; walk_at "ex"))
local macro_rules | `(tactic| walk_at "row") => `(tactic| first
  | (with_reducible exact er_nil)
  | ((with_reducible apply er_cons) <;> walk_at "row")
  | (((with_reducible apply er_var) ; rfl) ; walk_at "isrow")
  | (((with_reducible apply elr_var) ; rfl) ; walk_at "isrow")
  | ((with_reducible apply elr_cat) <;> walk_at "row")
  | ((with_reducible apply elr_lst) <;> walk_at "row")
  | ((with_reducible apply er_fin) <;> walk_at "ev")
  | ((with_reducible apply er_lendT) <;> walk_at "ev")
  | ((with_reducible apply er_lendW) <;> walk_at "ev")
  | ((with_reducible apply er_pick) <;> walk_at "ev")
  | ((with_reducible apply er_either) <;> walk_at "ev")
  | ((with_reducible apply er_or) <;> walk_at "ev")
  | ((with_reducible apply er_again) <;> walk_at "ev")
  | ((with_reducible apply er_back) <;> walk_at "ev")
  | ((with_reducible apply er_look) <;> walk_at "ev")
  | ((with_reducible apply er_change) <;> walk_at "ev")
  | exact Nat.le_of_ble_eq_true rfl
  | skip)
local macro_rules | `(tactic| walk_at "isrow") => `(tactic| first
  | assumption
  | (refine IsRow.up ?_ (by assumption) ; walk_at "ex")
  | (refine LRows.up ?_ (by assumption) ; walk_at "ex"))

local macro_rules | `(tactic| walk_at "ev") => `(tactic| ((with_reducible apply ev_letter) <;> walk_at "ev"))
local macro_rules | `(tactic| walk_at "ev") => `(tactic| ((with_reducible apply ev_cell) <;> walk_at "ev"))
local macro_rules | `(tactic| walk_at "ev") => `(tactic| ((with_reducible apply ev_word) <;> walk_at "ev"))
local macro_rules | `(tactic| walk_at "ev") => `(tactic| ((with_reducible apply ev_thing) <;> walk_at "ev"))

local macro_rules | `(tactic| walk_at "ev") => `(tactic| (((with_reducible apply ev_tag) ; rfl) ; walk_at "isrow"))
abbrev s_l_homes : Stmt := topS 70
theorem sc_l_homes : FnScope ["_law_rows", "_law_found", "_law_opened", "_law_at", "_law_row_here"] ["_law_rows"] (defScope s_l_homes) := ⟨rfl, rfl, rfl, by decide +kernel, rfl, by decide +kernel, by decide +kernel⟩
abbrev s_l_last : Stmt := topS 71
theorem sc_l_last : FnScope ["_law_rows", "_law_home", "_law_at", "_law_place"] ["_law_rows", "_law_home", "_law_at"] (defScope s_l_last) := ⟨rfl, rfl, rfl, by decide +kernel, rfl, by decide +kernel, by decide +kernel⟩
abbrev s_l_starts : Stmt := topS 72
theorem sc_l_starts : FnScope ["_law_rows", "_law_home", "_law_at", "_law_found", "_law_place"] ["_law_rows", "_law_home", "_law_at"] (defScope s_l_starts) := ⟨rfl, rfl, rfl, by decide +kernel, rfl, by decide +kernel, by decide +kernel⟩
section
variable {P : Program} {w : World} {K : PySem.W.Frag} {mg : Str → Option Value} {base : Heap}
theorem ok_lhomes (D : Dn K mg "_law_homes" s_l_homes ["_law_rows"]) (T : Blt mg) : Has P w K mg base "_law_homes" 1 ["_law_rows"] (spHomes K) := by
  refine D.ok sc_l_homes (fun vs H Q E h => ?_) (fun f cdv A outer s H vs Q E hr h => ?_)
  · obtain ⟨a, rv, rs, rfl, _⟩ := h
    rfl
  · obtain ⟨a, rv, rs, rfl, hS, hR, g, hlen, q⟩ := h
    have hlr := hR.len
    refine ⟨_, (pss_cons (ps_set (i := 1) sc_l_homes.nd rfl (Or.inl rfl) (pe_lst pa_nil)) (pss_cons (ps_set (i := 2) sc_l_homes.nd rfl (Or.inl rfl) (pe_lst (pa_cons (pe_un un_neg pe_int) pa_nil))) (pss_cons (ps_for PassesOwn.never rfl (pi_enum (by rfl) T.enumerate_ (pa_cons (pv 0) pa_nil)) (pg_tup rfl (pgs_cons (pg_name (i := 3) sc_l_homes.nd rfl (Or.inl rfl)) (pgs_cons (pg_name (i := 4) sc_l_homes.nd rfl (Or.inl rfl)) pgs_nil))) (pss_cons (ps_expr (pe_bm PySem.F.plainAttrs_list PySem.F.slot_list_append PySem.F.type_list_append mt_append (pv 1) (pa_cons (pe_ix (show IxR _ (rIxL K) from ix_list) (pv 2) (pe_un un_neg pe_int) (fun _ _ => rfl)) pa_nil))) (pss_cons (ps_if (pt_cmpR (show OpR _ _ (rIn K false) from op_in_seq) (pe_ix (show IxR _ (rIxT K) from ix_tup) (pv 4) pe_int (fun _ _ => rfl)) (pe_lst (pa_cons pe_str (pa_cons pe_str (pa_cons pe_str (pa_cons pe_str pa_nil))))) (by rfl)) (pss_one (ps_expr (pe_bm PySem.F.plainAttrs_list PySem.F.slot_list_append PySem.F.type_list_append mt_append (pv 2) (pa_cons (pv 3) pa_nil)))) pss_nil) (pss_one (ps_if (pt_cmpR op_eq (pe_ix (show IxR _ (rIxT K) from ix_tup) (pv 4) pe_int (fun _ _ => rfl)) pe_str (nomark _)) (pss_one (ps_expr (pe_bm0 PySem.F.plainAttrs_list PySem.F.slot_list_pop PySem.F.type_list_pop mt_pop (pv 2)))) pss_nil))))) (pss_one (ps_ret (pv 1)))))), ?_⟩
    show (_ : L2.TS) _ [_, _, _, _, _] _
    refine q_asgL (xs := []) ?_ (fun pf H1 hpf e1 h1 => ?_)
    · walk_at "ev"
    show (_ : L2.TS) _ [_, _, _, _, _] _
    refine q_asgL (xs := [.int (-1)]) ?_ (fun po H2 hpo e2 h2 => ?_)
    · walk_at "ev"
    show (_ : L2.TS) _ [_, _, _, _, _] _
    have hne : pf ≠ po := ne_of_none h1 hpo
    have hpoH : H po = none := fresh_back e1 hpo
    refine q_forE (K := K) (a := a) (xs := rv) (ev_var rfl) (ex_l (by walk_at "ex") hS) (fun i σ' H' => Ex H H' ∧ H' pf = some (.lst (homesV rs i)) ∧ H' po = some (.lst (stV rs i)) ∧ ∃ x3 x4, σ' = [some (.ref a), some (.ref pf), some (.ref po), x3, x4]) ?_ (fun i σ' H' _ h => ex_l h.1 hS) ?_ ?_
    · intro H3 e3
      exact ⟨by walk_at "ex", e3 _ _ (e2 _ _ h1), e3 _ _ h2, none, none, rfl⟩
    · rintro i x σ' H' H3 hi ⟨eH, hf, ho, x3, x4, rfl⟩ e3
      obtain ⟨r, hr, hX⟩ := hR.at hi
      have hi' : i < rv.length := (List.getElem?_eq_some_iff.mp hi).1
      have hO : SqL K H3 po (stV rs i) := sq_of (e3 _ _ ho)
      have hsl := stV_len rs i
      refine q_app (l := pf) (xs := homesV rs i) (v := .int (hm rs i)) (e3 _ _ hf) (ev_var rfl) ?_ (by rw [homesV_len]; omega) (fun H4 e4 => ?_)
      · refine ev_ixL (ev_var rfl) hO ?_ (stV_last rs i)
        walk_at "ev"
      rw [← homesV_next]
      have e5 : Ex H (upd H4 pf (.lst (homesV rs (i + 1)))) := Ex.mut (eH.trans (e3.trans e4)) hpf
      have hX5 : IsRow (upd H4 pf (.lst (homesV rs (i + 1)))) x r := hX.up e5
      have ho5 : (upd H4 pf (.lst (homesV rs (i + 1)))) po = some (.lst (stV rs i)) := by
        rw [upd_ne hne.symm]
        exact e4 _ _ (e3 _ _ ho)
      have hf5 : (upd H4 pf (.lst (homesV rs (i + 1)))) pf = some (.lst (homesV rs (i + 1))) := upd_same
      generalize upd H4 pf (.lst (homesV rs (i + 1))) = H5 at *
      cases hro : r.opens with
      | true =>
        have hrf : r.isFin = false := by cases r <;> first | rfl | cases hro
        refine q_when (b := true) ?_ (fun _ H6 e6 => ?_) (fun hb _ _ => by cases hb)
        · refine et_is ?_ hro
          rw [← tag_opens r]
          walk_at "ev"
        · refine s_app (e6 _ _ ho5) (ev_var rfl) (ev_var rfl) (by omega) (fun H7 e7 => ?_)
          dsimp only
          rw [← stV_push hr hro]
          have e8 : Ex H (upd H7 po (.lst (stV rs (i + 1)))) := Ex.mut (e5.trans (e6.trans e7)) hpoH
          have hX8 : IsRow (upd H7 po (.lst (stV rs (i + 1)))) x r := hX.up e8
          refine s_when (b := false) ?_ (fun hb _ _ => by cases hb) (fun _ H9 e9 => ?_)
          · refine et_is ?_ hrf
            rw [← tag_fin r]
            walk_at "ev"
          · refine ⟨e8.trans e9, e9 _ _ ?_, e9 _ _ upd_same, _, _, rfl⟩
            rw [upd_ne hne]
            exact e7 _ _ (e6 _ _ hf5)
      | false =>
        refine q_when (b := false) ?_ (fun hb _ _ => by cases hb) (fun _ H6 e6 => ?_)
        · refine et_is ?_ hro
          rw [← tag_opens r]
          walk_at "ev"
        · have hX6 := hX5.up e6
          refine s_when (b := r.isFin) ?_ (fun hrf H7 e7 => ?_) (fun hrf H7 e7 => ?_)
          · rw [← tag_fin]
            walk_at "ev"
          · have hp := stV_pop g hr hrf
            refine s_pop (e7 _ _ (e6 _ _ ho5)) (ev_var rfl) hp.2 (fun H8 e8 => ?_)
            dsimp only
            rw [← hp.1]
            refine ⟨Ex.mut (e5.trans (e6.trans (e7.trans e8))) hpoH, ?_, upd_same, _, _, rfl⟩
            rw [upd_ne hne]
            exact e8 _ _ (e7 _ _ (e6 _ _ hf5))
          · refine ⟨e5.trans (e6.trans e7), e7 _ _ (e6 _ _ hf5), ?_, _, _, rfl⟩
            rw [stV_keep hr hro hrf]
            exact e7 _ _ (e6 _ _ ho5)
    · rintro σ' H' ⟨eH, hf, ho, x3, x4, rfl⟩
      rw [hlr] at hf
      exact s_ret (v := .ref pf) (ev_var rfl) (fun H4 e4 => q pf H4 hpf (eH.trans e4) (e4 _ _ hf))
/-! ### the law's own ends and branches -/
def spLast (K : PySem.W.Frag) : Sp := fun vs H Q _ => ∃ (a hh : Addr) (n : Nat) (rv : List V) (rs : List Rw), vs = [.ref a, .ref hh, .int (n : Int)] ∧ SqL K H a rv ∧ Rows H rv rs ∧ SqL K H hh (homesV rs rs.length) ∧ n < rs.length ∧ rs.length ≤ 90000 ∧
  RetV (.int (endUp rs n rs.length)) H Q
theorem ok_last (D : Dn K mg "_law_last" s_l_last ["_law_rows", "_law_home", "_law_at"]) (T : Blt mg) : Has P w K mg base "_law_last" 1 ["_law_rows", "_law_home", "_law_at"] (spLast K) := by
  refine D.ok sc_l_last (fun vs H Q E h => ?_) (fun f cdv A outer s H vs Q E hr h => ?_)
  · obtain ⟨a, hh, n, rv, rs, rfl, _⟩ := h
    rfl
  · obtain ⟨a, hh, n, rv, rs, rfl, hS, hR, hHm, hn, hlen, q⟩ := h
    have hlr := hR.len
    refine ⟨_, (pss_cons (ps_for PassesOwn.never rfl (pi_range2 (by rfl) T.range_ (pa_cons (pe_op op_add (pv 2) pe_int) (pa_cons (pe_callB (show CallR _ _ (rLenS K) from call_len_seq) (by rfl) T.len_ (by decide +kernel) (pa_cons (pv 0) pa_nil)) pa_nil))) (pg_name (i := 3) sc_l_last.nd rfl (Or.inl rfl)) (pss_one (ps_if (PW.pt (pw_and (pt_cmpR op_eq (pe_ix (show IxR _ (rIxL K) from ix_list) (pv 1) (pv 3) (fun _ _ => rfl)) (pv 2) (nomark _)) (pw_and1 (pt_cmpR op_eq (pe_ix (show IxR _ (rIxT K) from ix_tup) (pe_ix (show IxR _ (rIxL K) from ix_list) (pv 0) (pv 3) (fun _ _ => rfl)) pe_int (fun _ _ => rfl)) pe_str (nomark _))))) (pss_one (ps_ret (pv 3))) pss_nil))) (pss_one (ps_ret (pe_un un_neg pe_int)))), ?_⟩
    show (_ : L2.TS) _ [_, _, _, _] _
    refine q_forR2 (lo := (n : Int) + 1) (n := ((rv.length : Nat) : Int)) ?_ ⟨by omega, by omega, by omega, by omega⟩ (fun i σ' H' => Ex H H' ∧ (∀ p, p < n + 1 + i → finF rs n p = false) ∧ ∃ x3, σ' = [some (.ref a), some (.ref hh), some (.int (n : Int)), x3]) ?_ ?_ ?_
    · walk_at "ev"
    · intro H1 e1
      exact ⟨e1, fun p hp => finF_low (by omega), none, rfl⟩
    · rintro i σ' H' hi ⟨eH, hno, x3, rfl⟩
      have ep : (n : Int) + 1 + (i : Int) = ((n + 1 + i : Nat) : Int) := by omega
      rw [ep]
      have hpl : n + 1 + i < rs.length := by omega
      generalize n + 1 + i = p at *
      have hgr := List.getElem?_eq_getElem hpl
      obtain ⟨y, hy, hY⟩ := hR.get hgr
      generalize rs[p] = r at hgr hY
      have hY2 : IsRow H' y r := hY.up eH
      obtain ⟨py, ys, rfl, hpy⟩ := hY2.tup
      have hPy : SqT K H' py (.str r.tag :: ys) := st_of hpy
      have hix : atI rv (p : Int) = some (.ref py) := atI_nat hy
      have hhx : atI (homesV rs rs.length) (p : Int) = some (.int (hm rs p)) := atI_nat (homesV_at hpl)
      refine s_when (b := decide (V.int (hm rs p) = V.int (n : Int)) && r.isFin) ?_ (fun hb H3 e3 => ?_) (fun hb H3 e3 => ?_)
      · rw [← tag_fin]
        walk_at "ev"
      · simp only [Bool.and_eq_true, decide_eq_true_eq, V.int.injEq] at hb
        have hfin : finF rs n p = true := by rw [finF_at hgr, decide_eq_true hb.1, hb.2]; rfl
        have hst := endUp_stay hfin (fun q hq => hno q (by omega)) rs.length hpl
        rw [hst] at q
        exact s_ret (v := .int (p : Int)) (ev_var rfl) (fun H4 e4 => q H4 (eH.trans (e3.trans e4)))
      · simp only [Bool.and_eq_false_iff, decide_eq_false_iff_not, V.int.injEq] at hb
        refine ⟨eH.trans e3, fun q hq => ?_, _, rfl⟩
        by_cases e : q = p
        · subst e
          rw [finF_at hgr]
          rcases hb with hb | hb
          · rw [decide_eq_false hb]; rfl
          · rw [hb, Bool.and_false]
        · exact hno q (by omega)
    · rintro σ' H' ⟨eH, hno, x3, rfl⟩
      rw [endUp_none (fun p hp => hno p (by omega))] at q
      refine s_ret (v := .int (-1)) ?_ (fun H4 e4 => q H4 (eH.trans e4))
      walk_at "ev"
theorem ev_last {a hh : Addr} {n : Nat} {rv : List V} {rs : List Rw} {ta : TA} {σ : L2.St} {H : Hp} {E : XK} (h : EvA ta σ H [.ref a, .ref hh, .int (n : Int)]) (hS : SqL K H a rv) (hR : Rows H rv rs) (hH : SqL K H hh (homesV rs rs.length)) (hn : n < rs.length) (hl : rs.length ≤ 90000) :
    Ev (tCall (spLast K) [] E ta) σ H (.int (endUp rs n rs.length)) := ev_call h fun H1 e Q q E => ⟨a, hh, n, rv, rs, rfl, ex_l e hS, hR.up e, ex_l e hH, hn, hl, q⟩
def spStarts (K : PySem.W.Frag) : Sp := fun vs H Q _ => ∃ (a hh : Addr) (n : Nat) (rv : List V) (rs : List Rw), vs = [.ref a, .ref hh, .int (n : Int)] ∧ SqL K H a rv ∧ Rows H rv rs ∧ SqL K H hh (homesV rs rs.length) ∧ n < rs.length ∧ rs.length ≤ 90000 ∧
  RetL (brV rs n rs.length) H Q
theorem ok_starts (D : Dn K mg "_law_starts" s_l_starts ["_law_rows", "_law_home", "_law_at"]) (T : Blt mg) : Has P w K mg base "_law_starts" 1 ["_law_rows", "_law_home", "_law_at"] (spStarts K) := by
  refine D.ok sc_l_starts (fun vs H Q E h => ?_) (fun f cdv A outer s H vs Q E hr h => ?_)
  · obtain ⟨a, hh, n, rv, rs, rfl, _⟩ := h
    rfl
  · obtain ⟨a, hh, n, rv, rs, rfl, hS, hR, hHm, hn, hlen, q⟩ := h
    have hlr := hR.len
    refine ⟨_, (pss_cons (ps_set (i := 3) sc_l_starts.nd rfl (Or.inl rfl) (pe_lst (pa_cons (pe_op op_add (pv 2) pe_int) pa_nil))) (pss_cons (ps_for PassesOwn.never rfl (pi_range2 (by rfl) T.range_ (pa_cons (pe_op op_add (pv 2) pe_int) (pa_cons (pe_callB (show CallR _ _ (rLenS K) from call_len_seq) (by rfl) T.len_ (by decide +kernel) (pa_cons (pv 0) pa_nil)) pa_nil))) (pg_name (i := 4) sc_l_starts.nd rfl (Or.inl rfl)) (pss_one (ps_if (PW.pt (pw_and (pt_cmpR op_eq (pe_ix (show IxR _ (rIxL K) from ix_list) (pv 1) (pv 4) (fun _ _ => rfl)) (pv 2) (nomark _)) (pw_and1 (pt_cmpR op_eq (pe_ix (show IxR _ (rIxT K) from ix_tup) (pe_ix (show IxR _ (rIxL K) from ix_list) (pv 0) (pv 4) (fun _ _ => rfl)) pe_int (fun _ _ => rfl)) pe_str (nomark _))))) (pss_one (ps_expr (pe_bm PySem.F.plainAttrs_list PySem.F.slot_list_append PySem.F.type_list_append mt_append (pv 3) (pa_cons (pe_op op_add (pv 4) pe_int) pa_nil)))) pss_nil))) (pss_one (ps_ret (pv 3))))), ?_⟩
    show (_ : L2.TS) _ [_, _, _, _, _] _
    refine q_asgL (xs := brV rs n (n + 1)) ?_ (fun pf H1 hpf e1 h1 => ?_)
    · rw [brV_low rs n (n + 1) (Nat.le_refl _)]
      walk_at "ev"
    show (_ : L2.TS) _ [_, _, _, _, _] _
    refine q_forR2 (lo := (n : Int) + 1) (n := ((rv.length : Nat) : Int)) ?_ ⟨by omega, by omega, by omega, by omega⟩ (fun i σ' H' => Ex H H' ∧ H' pf = some (.lst (brV rs n (n + 1 + i))) ∧ ∃ x3, σ' = [some (.ref a), some (.ref hh), some (.int (n : Int)), some (.ref pf), x3]) ?_ ?_ ?_
    · walk_at "ev"
    · intro H2 e2
      exact ⟨e1.trans e2, e2 _ _ h1, none, rfl⟩
    · rintro i σ' H' hi ⟨eH, hf, x3, rfl⟩
      have ep : (n : Int) + 1 + (i : Int) = ((n + 1 + i : Nat) : Int) := by omega
      rw [ep]
      have hpl : n + 1 + i < rs.length := by omega
      rw [show n + 1 + (i + 1) = (n + 1 + i) + 1 from rfl]
      generalize n + 1 + i = p at *
      have hgr := List.getElem?_eq_getElem hpl
      obtain ⟨y, hy, hY⟩ := hR.get hgr
      generalize rs[p] = r at hgr hY
      have hY2 : IsRow H' y r := hY.up eH
      obtain ⟨py, ys, rfl, hpy⟩ := hY2.tup
      have hPy : SqT K H' py (.str r.tag :: ys) := st_of hpy
      have hix : atI rv (p : Int) = some (.ref py) := atI_nat hy
      have hhx : atI (homesV rs rs.length) (p : Int) = some (.int (hm rs p)) := atI_nat (homesV_at hpl)
      have hbl := brV_len rs n p
      refine s_when (b := decide (V.int (hm rs p) = V.int (n : Int)) && r.isOr) ?_ (fun hb H3 e3 => ?_) (fun hb H3 e3 => ?_)
      · rw [← tag_or]
        walk_at "ev"
      · simp only [Bool.and_eq_true, decide_eq_true_eq, V.int.injEq] at hb
        refine s_app (l := pf) (xs := brV rs n p) (v := .int ((p : Int) + 1)) (e3 _ _ hf) (ev_var rfl) ?_ (by omega) (fun H4 e4 => ?_)
        · walk_at "ev"
        dsimp only
        rw [← brV_yes (by rw [orF_at hgr, decide_eq_true hb.1, hb.2]; rfl)]
        exact ⟨Ex.mut (eH.trans (e3.trans e4)) hpf, upd_same, _, rfl⟩
      · simp only [Bool.and_eq_false_iff, decide_eq_false_iff_not, V.int.injEq] at hb
        refine ⟨eH.trans e3, ?_, _, rfl⟩
        rw [brV_no (by
          rw [orF_at hgr]
          rcases hb with hb | hb
          · rw [decide_eq_false hb]; rfl
          · rw [hb, Bool.and_false])]
        exact e3 _ _ hf
    · rintro σ' H' ⟨eH, hf, x3, rfl⟩
      rw [show n + 1 + (((rv.length : Nat) : Int) - ((n : Int) + 1)).toNat = rs.length by omega] at hf
      exact s_ret (v := .ref pf) (ev_var rfl) (fun H4 e4 => q pf H4 hpf (eH.trans e4) (e4 _ _ hf))
theorem el_starts {a hh : Addr} {n : Nat} {rv : List V} {rs : List Rw} {ta : TA} {σ : L2.St} {H : Hp} {E : XK} (h : EvA ta σ H [.ref a, .ref hh, .int (n : Int)]) (hS : SqL K H a rv) (hR : Rows H rv rs) (hH : SqL K H hh (homesV rs rs.length)) (hn : n < rs.length) (hl : rs.length ≤ 90000) :
    EvL (tCall (spStarts K) [] E ta) σ H (brV rs n rs.length) := el_call h fun H1 e Q q E => ⟨a, hh, n, rv, rs, rfl, ex_l e hS, hR.up e, ex_l e hH, hn, hl, fun p H2 hp e2 h2 => q p H2 hp e2 h2⟩
end
end BD
namespace BD
open PySem PySem.Spec PyProof.Rows L2 Evl
local macro_rules | `(tactic| walk_at "ev") => `(tactic| first
  | ((with_reducible apply ev_var) ; rfl)
  | with_reducible exact ev_c
  | ((with_reducible apply ev_I0) <;> walk_at "ev")
  | ((with_reducible apply ev_e9) <;> walk_at "ev")
  | ((with_reducible apply ev_I) <;> walk_at "ev")
  | ((with_reducible apply ev_eq) <;> walk_at "ev")
  | ((with_reducible apply ev_ne) <;> walk_at "ev")
  | ((with_reducible apply ev_neg) <;> walk_at "ev")
  | ((with_reducible apply ev_ixN) <;> walk_at "ev")
  | ((with_reducible apply ev_ixL) <;> walk_at "ev")
  | ((with_reducible apply ev_inN) <;> walk_at "ev")
  | ((with_reducible apply ev_inT) <;> walk_at "ev")
  | ((with_reducible apply ev_ixT) <;> walk_at "ev")
  | ((with_reducible apply ev_ixS) <;> walk_at "ev")
  | ((with_reducible apply ev_len') <;> walk_at "ev")
  | ((with_reducible apply et_test) <;> walk_at "ev")
  | ((with_reducible apply et_and) <;> walk_at "ev")
  | ((with_reducible apply et_or) <;> walk_at "ev")
  | ((with_reducible apply et_not) <;> walk_at "ev")
  | ((with_reducible apply et_B) <;> walk_at "ev")
  | ((with_reducible apply el_lst) <;> walk_at "ev")
  | ((with_reducible apply eu_tup) <;> walk_at "ev")
  | ((with_reducible apply ea_cons) <;> walk_at "ev")
  | with_reducible exact ea_nil
  | with_reducible assumption
  | ((with_reducible apply ex_l' ; assumption) ; walk_at "ex")
  | ((with_reducible apply ex_t' ; assumption) ; walk_at "ex")
  | (intro _ ; walk_at "ev")
  | (with_reducible first | exact atI_hd | exact at_kind | exact at2s | exact at3s | exact at3i)
  | (first | exact rfl | exact Nat.le_of_ble_eq_true rfl | exact ⟨by decide, by decide⟩ | decide | exact Or.inl ⟨by omega, by omega⟩ | exact Or.inr ⟨by omega, by omega⟩ | omega)
  | skip)
local macro_rules | `(tactic| walk_at "ex") => `(tactic| first
  | assumption
  | exact Ex.refl _
  | (refine' Ex.trans ?_ (by assumption) ; walk_at "ex"))
local macro_rules | `(tactic| walk_at "row") => `(tactic| first
  | (with_reducible exact er_nil)
  | ((with_reducible apply er_cons) <;> walk_at "row")
  | (((with_reducible apply er_var) ; rfl) ; walk_at "isrow")
  | (((with_reducible apply elr_var) ; rfl) ; walk_at "isrow")
  | ((with_reducible apply elr_cat) <;> walk_at "row")
  | ((with_reducible apply elr_lst) <;> walk_at "row")
  | ((with_reducible apply er_fin) <;> walk_at "ev")
  | ((with_reducible apply er_lendT) <;> walk_at "ev")
  | ((with_reducible apply er_lendW) <;> walk_at "ev")
  | ((with_reducible apply er_pick) <;> walk_at "ev")
  | ((with_reducible apply er_either) <;> walk_at "ev")
  | ((with_reducible apply er_or) <;> walk_at "ev")
  | ((with_reducible apply er_again) <;> walk_at "ev")
  | ((with_reducible apply er_back) <;> walk_at "ev")
  | ((with_reducible apply er_look) <;> walk_at "ev")
  | ((with_reducible apply er_change) <;> walk_at "ev")
  | exact Nat.le_of_ble_eq_true rfl
  | skip)
local macro_rules | `(tactic| walk_at "isrow") => `(tactic| first
  | assumption
  | (refine IsRow.up ?_ (by assumption) ; walk_at "ex")
  | (refine LRows.up ?_ (by assumption) ; walk_at "ex"))

/-! ### entries of what is held -/
structure Ent where
  w : Str
  k : Str
  t : Int
  s : Str
  o : Bool
def Ent.vs (e : Ent) : List V := [.str e.w, .str e.k, .int e.t, .str e.s, .bl e.o]
def IsEnt (H : Hp) (v : V) (e : Ent) : Prop := ∃ p, v = .ref p ∧ H p = some (.tup e.vs)
def Ents (H : Hp) (vs : List V) (es : List Ent) : Prop := Paired (IsEnt H) vs es
/-- a tuple of entries; a standing -/
def AHeld (es : List Ent) : V → Hp → Prop := fun v H => ∃ p vs, v = .ref p ∧ H p = some (.tup vs) ∧ Ents H vs es
def AStand (i : Int) (es : List Ent) : V → Hp → Prop := fun v H => ∃ p q vs, v = .ref p ∧ H p = some (.tup [.int i, .ref q]) ∧ H q = some (.tup vs) ∧ Ents H vs es
theorem IsEnt.upT {H H' : Hp} {v : V} {e : Ent} (x : ExT H H') (h : IsEnt H v e) : IsEnt H' v e := by
  obtain ⟨p, h1, h2⟩ := h
  exact ⟨p, h1, x _ _ h2⟩
theorem Ents.upT {H H' : Hp} (e : ExT H H') : ∀ {vs : List V} {es : List Ent}, Ents H vs es → Ents H' vs es
  | _, _, .nil => .nil
  | _, _, .cons r t => .cons (r.upT e) (Ents.upT e t)
theorem Ents.up {H H' : Hp} (e : Ex H H') {vs : List V} {es : List Ent} (h : Ents H vs es) : Ents H' vs es := h.upT (ExT.of e)
theorem IsEnt.up {H H' : Hp} {v : V} {e : Ent} (x : Ex H H') (h : IsEnt H v e) : IsEnt H' v e := h.upT (ExT.of x)
theorem Ents.len {H : Hp} {vs : List V} {es : List Ent} (h : Ents H vs es) : vs.length = es.length := Paired.length h
theorem Ents.append {H : Hp} : ∀ {vs ws : List V} {rs ss : List Ent}, Ents H vs rs → Ents H ws ss → Ents H (vs ++ ws) (rs ++ ss)
  | _, _, _, _, .nil, s => s
  | _, _, _, _, .cons r t, s => .cons r (Ents.append t s)
theorem Ents.at {H : Hp} : ∀ {vs : List V} {rs : List Ent} {i : Nat} {x : V}, Ents H vs rs → vs[i]? = some x → ∃ r, rs[i]? = some r ∧ IsEnt H x r
  | _, _, _, _, .nil, e => by simp at e
  | _, _, 0, _, .cons r _, e => by simp at e; subst e; exact ⟨_, rfl, r⟩
  | _, _, i + 1, x, .cons _ t, e => by
    obtain ⟨u, h1, h2⟩ := Ents.at (i := i) (x := x) t (by simpa using e)
    exact ⟨u, by simpa using h1, h2⟩
theorem Ents.dropLast {H : Hp} : ∀ {vs : List V} {rs : List Ent}, Ents H vs rs → Ents H vs.dropLast rs.dropLast
  | _, _, .nil => .nil
  | _, _, .cons r .nil => .nil
  | _, _, .cons r (.cons r2 t) => .cons r (Ents.dropLast (.cons r2 t))
theorem AHeld.up {es : List Ent} {v : V} {H H' : Hp} (e : Ex H H') (h : AHeld es v H) : AHeld es v H' := by
  obtain ⟨p, vs, h1, h2, h3⟩ := h
  exact ⟨p, vs, h1, e _ _ h2, h3.up e⟩
theorem AStand.up {i : Int} {es : List Ent} {v : V} {H H' : Hp} (e : Ex H H') (h : AStand i es v H) : AStand i es v H' := by
  obtain ⟨p, q, vs, h1, h2, h3, h4⟩ := h
  exact ⟨p, q, vs, h1, e _ _ h2, e _ _ h3, h4.up e⟩
section
variable {K : PySem.W.Frag} {σ : L2.St} {H H' : Hp} {ta tb te tr tw tt : TE} {es fs : List Ent} {e : Ent}
theorem ep_heldvar {i : Nat} {v : V} (h : σ[i]? = some (some v)) (hr : AHeld es v H) : EvP (tVar i) σ H (AHeld es) := fun H1 x Q q => ⟨v, h, q v H1 (Ex.refl H1) (hr.up x)⟩
/-- t + u of entries -/
theorem ep_catT (ha : EvP ta σ H (AHeld es)) (hb : EvP tb σ H (AHeld fs)) (hl : es.length + fs.length ≤ 100000) : EvP (tOp (rCatA K) ta tb) σ H (AHeld (es ++ fs)) := fun H1 x Q q =>
  ha H1 x _ fun v H2 e2 hv => hb H2 (x.trans e2) _ fun u H3 e3 hu => by
    obtain ⟨p, vs, rfl, h1, h2⟩ := hv
    obtain ⟨p', us, rfl, h3, h4⟩ := hu
    have h2' := h2.up e3
    refine ⟨p, p', vs, us, rfl, rfl, st_of (e3 _ _ h1), st_of h3, sz_of (by rw [h2.len, h4.len]; exact hl), fun z => ?_, fun _ z => ?_, fun _ _ r hr => ?_⟩
    · refine q _ _ (e2.trans e3) ⟨p', us, rfl, h3, ?_⟩
      have := Ents.append h2' h4
      rw [z] at this
      exact this
    · refine q _ _ (e2.trans e3) ⟨p, vs, rfl, e3 _ _ h1, ?_⟩
      have := Ents.append h2' h4
      rw [z, List.append_nil] at this
      exact this
    · exact q _ _ (e2.trans (e3.trans (Ex.new hr))) ⟨r, _, rfl, upd_same, (Ents.append h2' h4).up (Ex.new hr)⟩
/-- (e,) -/
theorem ep_one (h : EvP te σ H (fun v H2 => IsEnt H2 v e)) : EvP (tTup (tCons te tNil)) σ H (AHeld [e]) := fun H1 x Q q =>
  h H1 x _ fun v H2 e2 hv => ⟨by show 1 ≤ sizeLine; decide, fun p hp => q _ _ (e2.trans (Ex.new hp)) ⟨p, [v], rfl, upd_same, .cons (hv.up (Ex.new hp)) .nil⟩⟩
end
theorem inV_strs (x : Str) : ∀ l : List Str, inV (.str x) (l.map V.str) = decide (x ∈ l)
  | [] => rfl
  | y :: l => by
    have ih := inV_strs x l
    unfold inV at ih ⊢
    rw [List.map_cons, List.any_cons, ih]
    show (y == x || decide (x ∈ l)) = decide (x ∈ y :: l)
    by_cases h : x = y
    · subst h
      rw [beq_self_eq_true, Bool.true_or, decide_eq_true List.mem_cons_self]
    · rw [beq_eq_false_iff_ne.mpr (fun z => h z.symm), Bool.false_or]
      by_cases h2 : x ∈ l
      · rw [decide_eq_true h2, decide_eq_true (List.mem_cons_of_mem _ h2)]
      · rw [decide_eq_false h2, decide_eq_false (fun z => (List.mem_cons.mp z).elim h h2)]
theorem flat_strs : ∀ l : List Str, (l.map V.str).all flatV = true
  | [] => rfl
  | _ :: l => flat_strs l
section
variable {K : PySem.W.Frag} {σ : L2.St} {H H' : Hp} {ta tb te tr tw tt : TE}
theorem ev_inLs {p : Addr} {x : Str} {l : List Str} (ha : Ev ta σ H (.str x)) (hb : Ev tb σ H (.ref p)) (h : SqL K H p (l.map V.str)) : Ev (tOp (rIn K false) ta tb) σ H (.bl (decide (x ∈ l))) := by
  rw [← inV_strs]
  exact ev_op ha hb (rv_isL h rfl (flat_strs l))
theorem ev_notInLs {p : Addr} {x : Str} {l : List Str} (ha : Ev ta σ H (.str x)) (hb : Ev tb σ H (.ref p)) (h : SqL K H p (l.map V.str)) : Ev (tOp (rIn K true) ta tb) σ H (.bl (!decide (x ∈ l))) := by
  rw [← inV_strs]
  exact ev_op ha hb (rv_niL h rfl (flat_strs l))
end
theorem paired_app {α β : Type} {F : α → β → Prop} : ∀ {a c : List α} {b d : List β}, Paired F a b → Paired F c d → Paired F (a ++ c) (b ++ d)
  | _, _, _, _, .nil, s => s
  | _, _, _, _, .cons r t, s => .cons r (paired_app t s)
theorem paired_drop {α β : Type} {F : α → β → Prop} : ∀ {a : List α} {b : List β}, Paired F a b → Paired F a.dropLast b.dropLast
  | _, _, .nil => .nil
  | _, _, .cons _ .nil => .nil
  | _, _, .cons r (.cons r2 t) => .cons r (paired_drop (.cons r2 t))
theorem given_rel {α : Type} {R : V → α → Prop} {f : Nat → Bool} {v : Nat → V} {p : α → Bool} {vs : List V} {rs : List α} (hR : Paired R vs rs) (hf : ∀ i r, rs[i]? = some r → f i = p r) (hv : ∀ i x, vs[i]? = some x → v i = x) : ∀ n, n ≤ rs.length → Paired R (given n f v) ((rs.take n).filter p)
  | 0, _ => .nil
  | n + 1, h => by
    have hn : n < rs.length := h
    have hl : vs.length = rs.length := Paired.length hR
    have hget : ∀ {vs : List V} {rs : List α} {i : Nat} {x : V} {r : α}, Paired R vs rs → vs[i]? = some x → rs[i]? = some r → R x r := fun {vs rs i x r} h => by
      induction h generalizing i with
      | nil => intro h1; simp at h1
      | cons a t ih =>
        intro h1 h2
        cases i with
        | zero =>
          cases h1
          cases h2
          exact a
        | succ i => exact ih (by simpa using h1) (by simpa using h2)
    have gv := List.getElem?_eq_getElem (show n < vs.length by omega)
    have gr := List.getElem?_eq_getElem hn
    have hX := hget hR gv gr
    have ih := given_rel hR hf hv n (by omega)
    have e1 : f n = p rs[n] := hf n _ gr
    rw [List.take_add_one, gr, List.filter_append]
    cases hp : p rs[n] with
    | true =>
      rw [given_yes (by rw [e1, hp]), hv n _ gv]
      refine paired_app ih ?_
      rw [show (some rs[n]).toList = [rs[n]] from rfl, List.filter_cons, if_pos hp]
      exact .cons hX .nil
    | false =>
      rw [given_no (by rw [e1, hp])]
      rw [show (some rs[n]).toList = [rs[n]] from rfl, List.filter_cons, if_neg (by rw [hp]; decide)]
      show Paired R _ (_ ++ [])
      rw [List.append_nil]
      exact ih
section
variable {K : PySem.W.Frag} {σ : L2.St} {H H' : Hp} {ta tb te tr tw tl : TE} {t : TT}
/-- a comprehension over a tuple -/
theorem el_lcT {a : Addr} {xs : List V} {tl : TE} {j : Nat} {vs : List Nat} (f : Nat → Bool) (v : Nat → V) (h : Ev tl σ H (.ref a)) (hx : SqT K H a xs) (hz : xs.length ≤ 40000) (hw : ∀ x, wipe ((wipe σ vs).set j (some x)) vs = wipe σ vs)
    (ht : ∀ (i : Nat) (x : V) H1, Ex H H1 → xs[i]? = some x → EvT t ((wipe σ vs).set j (some x)) H1 (f i)) (he : ∀ (i : Nat) (x : V) H1, Ex H H1 → xs[i]? = some x → f i = true → Ev te ((wipe σ vs).set j (some x)) H1 (v i)) :
    EvL (tLc (iTup K tl) (gName j) t te vs) σ H (given xs.length f v) := fun H0 e Q q => h H0 e _ fun H1 e1 => ⟨a, rfl, ⟨xs, ex_t (e.trans e1) hx⟩, fun Dl hD =>
  lc_tup (xs := xs) (Cw H1 f v Dl) ⟨hD, Ex.new hD, upd_same⟩ (fun i H' _ p => ex_t ((e.trans e1).trans p.2.1) hx) (fun i x H' hi p => ⟨hw x, cw_turn p (by have := (List.getElem?_eq_some_iff.mp hi).1; omega) (ht i x H1 (e.trans e1) hi) (fun hf => he i x H1 (e.trans e1) hi hf)⟩)
    (fun H' p => q Dl H' (fresh_back e1 p.1) (e1.trans p.2.1) p.2.2)⟩
theorem epl_filterT (p : Ent → Bool) {a : Addr} {vs : List V} {es : List Ent} {j : Nat} {ws : List Nat} (h : Ev tl σ H (.ref a)) (hx : SqT K H a vs) (hR : Ents H vs es) (hz : vs.length ≤ 40000) (hw : ∀ x, wipe ((wipe σ ws).set j (some x)) ws = wipe σ ws)
    (ht : ∀ x e H1, Ex H H1 → IsEnt H1 x e → EvT t ((wipe σ ws).set j (some x)) H1 (p e)) (hj : ∀ x, ((wipe σ ws).set j (some x))[j]? = some (some x)) :
    EvPL (tLc (iTup K tl) (gName j) t (tVar j) ws) σ H (fun us H2 => Ents H2 us (es.filter p)) := fun H1 e Q q => by
  have hl := hR.len
  have hev := el_lcT (K := K) (te := tVar j) (fun i => p (es.getD i ⟨"", "", 0, "", false⟩)) (fun i => vs.getD i .non) h hx hz hw (fun i x H3 e3 hi => by
    obtain ⟨r, hr, hX⟩ := hR.at hi
    rw [List.getD_eq_getElem?_getD, hr]
    exact ht x r H3 e3 (hX.up e3)) (fun i x H3 e3 hi _ => by
    rw [List.getD_eq_getElem?_getD, hi]
    exact ev_var (hj x))
  have hg := given_rel (f := fun i => p (es.getD i ⟨"", "", 0, "", false⟩)) (v := fun i => vs.getD i .non) (p := p) hR (fun i r hr => by rw [List.getD_eq_getElem?_getD, hr]; rfl) (fun i x hx => by rw [List.getD_eq_getElem?_getD, hx]; rfl) es.length (Nat.le_refl _)
  rw [List.take_length, ← hl] at hg
  exact hev H1 e Q fun pp H2 hp e2 hq => q pp _ H2 hp e2 hq (Ents.up (e.trans e2) hg)
theorem epl_filterE (p : Ent → Bool) {a : Addr} {vs : List V} {es : List Ent} {j : Nat} {ws : List Nat} (h : Ev tl σ H (.ref a)) (hx : SqL K H a vs) (hR : Ents H vs es) (hz : vs.length ≤ 40000) (hw : ∀ x, wipe ((wipe σ ws).set j (some x)) ws = wipe σ ws)
    (ht : ∀ x e H1, Ex H H1 → IsEnt H1 x e → EvT t ((wipe σ ws).set j (some x)) H1 (p e)) (hj : ∀ x, ((wipe σ ws).set j (some x))[j]? = some (some x)) :
    EvPL (tLc (iList K tl) (gName j) t (tVar j) ws) σ H (fun us H2 => Ents H2 us (es.filter p)) := fun H1 e Q q => by
  have hl := hR.len
  have hev := el_lcL (K := K) (te := tVar j) (fun i => p (es.getD i ⟨"", "", 0, "", false⟩)) (fun i => vs.getD i .non) h hx hz hw (fun i x H3 e3 hi => by
    obtain ⟨r, hr, hX⟩ := hR.at hi
    rw [List.getD_eq_getElem?_getD, hr]
    exact ht x r H3 e3 (hX.up e3)) (fun i x H3 e3 hi _ => by
    rw [List.getD_eq_getElem?_getD, hi]
    exact ev_var (hj x))
  have hg := given_rel (f := fun i => p (es.getD i ⟨"", "", 0, "", false⟩)) (v := fun i => vs.getD i .non) (p := p) hR (fun i r hr => by rw [List.getD_eq_getElem?_getD, hr]; rfl) (fun i x hx => by rw [List.getD_eq_getElem?_getD, hx]; rfl) es.length (Nat.le_refl _)
  rw [List.take_length, ← hl] at hg
  exact hev H1 e Q fun pp H2 hp e2 hq => q pp _ H2 hp e2 hq (Ents.up (e.trans e2) hg)
/-- [e.s for e if p] -/
theorem el_mapT (p : Ent → Bool) (g : Ent → Str) {a : Addr} {vs : List V} {es : List Ent} {j : Nat} {ws : List Nat} (h : Ev tl σ H (.ref a)) (hx : SqT K H a vs) (hR : Ents H vs es) (hz : vs.length ≤ 40000) (hw : ∀ x, wipe ((wipe σ ws).set j (some x)) ws = wipe σ ws)
    (ht : ∀ x e H1, Ex H H1 → IsEnt H1 x e → EvT t ((wipe σ ws).set j (some x)) H1 (p e)) (hg : ∀ x e H1, Ex H H1 → IsEnt H1 x e → Ev te ((wipe σ ws).set j (some x)) H1 (.str (g e))) :
    EvL (tLc (iTup K tl) (gName j) t te ws) σ H (((es.filter p).map g).map V.str) := by
  have hl := hR.len
  have hev := el_lcT (K := K) (te := te) (fun i => p (es.getD i ⟨"", "", 0, "", false⟩)) (fun i => .str (g (es.getD i ⟨"", "", 0, "", false⟩))) h hx hz hw (fun i x H3 e3 hi => by
    obtain ⟨r, hr, hX⟩ := hR.at hi
    rw [List.getD_eq_getElem?_getD, hr]
    exact ht x r H3 e3 (hX.up e3)) (fun i x H3 e3 hi _ => by
    obtain ⟨r, hr, hX⟩ := hR.at hi
    rw [List.getD_eq_getElem?_getD, hr]
    exact hg x r H3 e3 (hX.up e3))
  have e : given vs.length (fun i => p (es.getD i ⟨"", "", 0, "", false⟩)) (fun i => V.str (g (es.getD i ⟨"", "", 0, "", false⟩))) = ((es.filter p).map g).map V.str := by
    rw [hl]
    have key : ∀ n, n ≤ es.length → given n (fun i => p (es.getD i ⟨"", "", 0, "", false⟩)) (fun i => V.str (g (es.getD i ⟨"", "", 0, "", false⟩))) = (((es.take n).filter p).map g).map V.str := fun n => by
      induction n with
      | zero => intro _; rfl
      | succ n ih =>
        intro hn
        have hlt : n < es.length := hn
        have hgn := List.getElem?_eq_getElem hlt
        have hd : es.getD n ⟨"", "", 0, "", false⟩ = es[n] := by rw [List.getD_eq_getElem?_getD, hgn]; rfl
        rw [List.take_add_one, hgn, List.filter_append, List.map_append, List.map_append, ← ih (by omega)]
        cases hp : p es[n] with
        | true =>
          rw [given_yes (by rw [hd, hp])]
          rw [show (some es[n]).toList = [es[n]] from rfl, List.filter_cons, if_pos hp]
          rw [hd]
          rfl
        | false =>
          rw [given_no (by rw [hd, hp])]
          rw [show (some es[n]).toList = [es[n]] from rfl, List.filter_cons, if_neg (by rw [hp]; decide)]
          show _ = _ ++ []
          rw [List.append_nil]
    have := key es.length (Nat.le_refl _)
    rw [List.take_length] at this
    exact this
  rw [← e]
  exact hev
end
def ent0 : Ent := ⟨"", "", 0, "", false⟩
section
variable {K : PySem.W.Frag} {σ : L2.St} {H H' : Hp} {ta tb te tl tm : TE} {t : TT}
theorem ev_isi {ta : TA} {x : V} {m n : String} {b : Bool} (h : EvA ta σ H [x, .ty n]) (ty : TyX K H x (.type m)) (up : ∀ H1, Ex H H1 → TyX K H1 x (.type m)) (k : kitB m n = some b) : Ev (tCB (rIsi K) ta) σ H (.bl b) :=
  ev_cb h fun H1 e Q q => ⟨x, .ty n, .type m, .type n, b, rfl, ClsV.ty n, up H1 e, kit_ty k, q H1 (Ex.refl H1)⟩
theorem ev_isiI {ta : TA} {i : Int} {n : String} {b : Bool} (h : EvA ta σ H [.int i, .ty n]) (k : kitB "int" n = some b) : Ev (tCB (rIsi K) ta) σ H (.bl b) :=
  ev_isi h (.base (.int i)) (fun _ _ => .base (.int i)) k
theorem ev_isiS {ta : TA} {x : Str} {n : String} {b : Bool} (h : EvA ta σ H [.str x, .ty n]) (k : kitB "str" n = some b) : Ev (tCB (rIsi K) ta) σ H (.bl b) :=
  ev_isi h (.base (.str x)) (fun _ _ => .base (.str x)) k
theorem ev_isiB {ta : TA} {x : Bool} {n : String} {b : Bool} (h : EvA ta σ H [.bl x, .ty n]) (k : kitB "bool" n = some b) : Ev (tCB (rIsi K) ta) σ H (.bl b) :=
  ev_isi h (.base (.bl x)) (fun _ _ => .base (.bl x)) k
theorem ev_isiL {ta : TA} {p : Addr} {xs : List V} {n : String} {b : Bool} (h : EvA ta σ H [.ref p, .ty n]) (hp : H p = some (.lst xs)) (k : kitB "list" n = some b) : Ev (tCB (rIsi K) ta) σ H (.bl b) :=
  ev_isi h (.base (.lst hp)) (fun _ e => .base (.lst (e _ _ hp))) k
theorem ev_isiT {ta : TA} {p : Addr} {xs : List V} {n : String} {b : Bool} (h : EvA ta σ H [.ref p, .ty n]) (hp : H p = some (.tup xs)) (k : kitB "tuple" n = some b) : Ev (tCB (rIsi K) ta) σ H (.bl b) :=
  ev_isi h (.base (.tup hp)) (fun _ e => .base (.tup (e _ _ hp))) k
theorem ev_all {bs : List Bool} (h : EvL ta σ H (bs.map V.bl)) : Ev (tCB (rAll K) (tCons ta tNil)) σ H (.bl (bs.all id)) := fun H1 e Q q =>
  h H1 e _ fun p H2 _ e2 h2 => ⟨p, bs, rfl, sq_of h2, q H2 e2⟩
theorem ev_eqD {x y : V} {d e : PyData} (ha : Ev ta σ H x) (hb : Ev tb σ H y) (dx : ∀ H1, Ex H H1 → Dp K H1 x d) (dy : ∀ H1, Ex H H1 → Dp K H1 y e) (s1 : SeqAt.shaped d = true) (s2 : SeqAt.shaped e = true) : Ev (tOp (rEqD K) ta tb) σ H (.bl (PyData.eqv d e)) :=
  ev_op ha hb (rv_val fun H1 e1 Q q => ⟨d, e, dx H1 e1, dy H1 e1, s1, s2, q⟩)
theorem ev_neD {x y : V} {d e : PyData} (ha : Ev ta σ H x) (hb : Ev tb σ H y) (dx : ∀ H1, Ex H H1 → Dp K H1 x d) (dy : ∀ H1, Ex H H1 → Dp K H1 y e) (s1 : SeqAt.shaped d = true) (s2 : SeqAt.shaped e = true) : Ev (tOp (rNeD K) ta tb) σ H (.bl (!PyData.eqv d e)) :=
  ev_op ha hb (rv_val fun H1 e1 Q q => ⟨d, e, dx H1 e1, dy H1 e1, s1, s2, q⟩)
theorem dp_listI {p : Addr} {ns : List Int} (h : SqL K H p (ns.map V.int)) : Dp K H (.ref p) (.list (ns.map PyData.int)) := .lst h (dp_ints ns)
theorem eqv_ints (ns : List Int) : PyData.eqv (.list (ns.map PyData.int)) (.list (ns.map PyData.int)) = true :=
  SeqAt.eqv_refl _ (SeqAt.canLay_of_shaped (PySem.W.ke_shaped_ints ns))
theorem given_rep (n : Nat) (v : V) : given n (fun _ => true) (fun _ => v) = List.replicate n v := by
  rw [given_all]
  refine List.ext_getElem? fun i => ?_
  rw [List.getElem?_map, List.getElem?_replicate]
  by_cases h : i < n
  · rw [List.getElem?_range h, if_pos h]; rfl
  · rw [if_neg h, List.getElem?_eq_none (by rw [List.length_range]; omega)]; rfl
theorem rep_all : ∀ n, (List.replicate n true).all id = true
  | 0 => rfl
  | n + 1 => by rw [List.replicate_succ, List.all_cons, rep_all n]; rfl
theorem el_lcZ {a b : Addr} {xs ys : List V} {j k : Nat} {ws : List Nat} (v : V) (hxy : xs.length = ys.length) (h : Ev tl σ H (.ref a)) (h2 : Ev tm σ H (.ref b)) (hx : SqL K H a xs) (hy : SqL K H b ys) (hz : xs.length ≤ 40000)
    (hw : ∀ x y, wipe (((wipe σ ws).set j (some x)).set k (some y)) ws = wipe σ ws) (he : ∀ (i : Nat) x y H1, Ex H H1 → xs[i]? = some x → ys[i]? = some y → Ev te (((wipe σ ws).set j (some x)).set k (some y)) H1 v) :
    EvL (tLc (iZip K (tCons tl (tCons tm tNil))) (gTup K 2 (gCons (gName j) (gCons (gName k) gNil))) tYes te ws) σ H (List.replicate xs.length v) := fun H0 e Q q =>
  h H0 e _ fun H1 e1 => h2 H1 (e.trans e1) _ fun H2 e2 => ⟨a, b, xs, ys, rfl, ex_l ((e.trans e1).trans e2) hx, ex_l ((e.trans e1).trans e2) hy, fun Dl hD =>
    lc_it (walk_zip (K := K) (n := xs.length) (by omega)) (fun i H' => H2 Dl = none ∧ Ex H2 H' ∧ H' Dl = some (.lst (List.replicate i v))) ⟨hD, Ex.new hD, upd_same⟩ (fun i H' _ p => ⟨ex_l (((e.trans e1).trans e2).trans p.2.1) hx, ex_l (((e.trans e1).trans e2).trans p.2.1) hy⟩)
      (fun i z H' H3 hi p y => by
        obtain ⟨T, x1, x2, rfl, hT, rfl, g1, g2⟩ := y
        obtain ⟨p1, p2, p3⟩ := p
        have eT : Ex H' (upd H' T (.tup [x1, x2])) := Ex.new hT
        refine ⟨T, [x1, x2], rfl, SqT.of upd_same, rfl, _, _, rfl, _, _, rfl, rfl, hw x1 x2, ?_⟩
        show te _ _ _
        refine he i x1 x2 _ ((((e.trans e1).trans e2).trans p2).trans eT) g1 g2 _ (Ex.refl _) _ fun H4 e4 => ⟨List.replicate i v, e4 _ _ (eT _ _ p3), sz_lt (by rw [List.length_replicate]; omega), p1, Ex.mut ((p2.trans eT).trans e4) p1, ?_⟩
        rw [upd_same, List.replicate_succ']) (fun H' p => q Dl H' (fresh_back (e1.trans e2) p.1) ((e1.trans e2).trans p.2.1) p.2.2)⟩
end
theorem cut_take (xs : List V) (n : Nat) : cutV xs none (some (n : Int)) = xs.take n := by
  unfold cutV
  rw [HT.sIx_none, HT.sIx_nat, List.drop_zero, Nat.sub_zero]
  by_cases h : n ≤ xs.length
  · rw [Nat.min_eq_left h]
  · rw [Nat.min_eq_right (by omega), List.take_of_length_le (Nat.le_refl _), List.take_of_length_le (by omega)]
theorem ents_take {H : Hp} : ∀ {vs : List V} {rs : List Ent} (n : Nat), Ents H vs rs → Ents H (vs.take n) (rs.take n)
  | _, _, 0, _ => .nil
  | _, _, _ + 1, .nil => .nil
  | _, _, n + 1, .cons r t => .cons r (ents_take n t)
theorem any_range_succ (n : Nat) (f : Nat → Bool) : (List.range (n + 1)).any f = ((List.range n).any f || f n) := by
  rw [List.range_succ, List.any_append]
  simp
section
variable {K : PySem.W.Frag}
theorem ev_e0 {i : Nat} {x : V} {e : Ent} {σ : L2.St} {H : Hp} (h : σ[i]? = some (some x)) (hx : IsEnt H x e) : Ev (tOp (rIxT K) (tVar i) (tC (.int 0))) σ H (.str e.w) := by
  obtain ⟨p, rfl, hp⟩ := hx
  exact ev_ixT (ev_var h) (st_of hp) ev_c rfl
theorem ev_e1 {i : Nat} {x : V} {e : Ent} {σ : L2.St} {H : Hp} (h : σ[i]? = some (some x)) (hx : IsEnt H x e) : Ev (tOp (rIxT K) (tVar i) (tC (.int 1))) σ H (.str e.k) := by
  obtain ⟨p, rfl, hp⟩ := hx
  exact ev_ixT (ev_var h) (st_of hp) ev_c rfl
theorem ev_e2 {i : Nat} {x : V} {e : Ent} {σ : L2.St} {H : Hp} (h : σ[i]? = some (some x)) (hx : IsEnt H x e) : Ev (tOp (rIxT K) (tVar i) (tC (.int 2))) σ H (.int e.t) := by
  obtain ⟨p, rfl, hp⟩ := hx
  exact ev_ixT (ev_var h) (st_of hp) ev_c rfl
theorem ev_e3 {i : Nat} {x : V} {e : Ent} {σ : L2.St} {H : Hp} (h : σ[i]? = some (some x)) (hx : IsEnt H x e) : Ev (tOp (rIxT K) (tVar i) (tC (.int 3))) σ H (.str e.s) := by
  obtain ⟨p, rfl, hp⟩ := hx
  exact ev_ixT (ev_var h) (st_of hp) ev_c rfl
theorem ev_e4 {i : Nat} {x : V} {e : Ent} {σ : L2.St} {H : Hp} (h : σ[i]? = some (some x)) (hx : IsEnt H x e) : Ev (tOp (rIxT K) (tVar i) (tC (.int 4))) σ H (.bl e.o) := by
  obtain ⟨p, rfl, hp⟩ := hx
  exact ev_ixT (ev_var h) (st_of hp) ev_c rfl
theorem dec_str (a b : Str) : decide (V.str a = V.str b) = decide (a = b) := by
  by_cases h : a = b
  · rw [h, decide_eq_true rfl, decide_eq_true rfl]
  · rw [decide_eq_false h, decide_eq_false (fun z => h (V.str.inj z))]
theorem el_mapL (g : Ent → Str) {tl te : TE} {σ : L2.St} {H : Hp} {a : Addr} {vs : List V} {es : List Ent} {j : Nat} {ws : List Nat} (h : Ev tl σ H (.ref a)) (hx : SqL K H a vs) (hR : Ents H vs es) (hz : vs.length ≤ 40000) (hw : ∀ x, wipe ((wipe σ ws).set j (some x)) ws = wipe σ ws)
    (hg : ∀ x e H1, Ex H H1 → IsEnt H1 x e → Ev te ((wipe σ ws).set j (some x)) H1 (.str (g e))) : EvL (tLc (iList K tl) (gName j) tYes te ws) σ H ((es.map g).map V.str) := by
  have hl := hR.len
  have hev := el_lcL (K := K) (te := te) (t := tYes) (fun _ => true) (fun i => .str (g (es.getD i ent0))) h hx hz hw (fun i x H3 e3 hi => et_yes) (fun i x H3 e3 hi _ => by
    obtain ⟨r, hr, hX⟩ := hR.at hi
    rw [List.getD_eq_getElem?_getD, hr]
    exact hg x r H3 e3 (hX.up e3))
  have e : given vs.length (fun _ => true) (fun i => V.str (g (es.getD i ent0))) = (es.map g).map V.str := by
    rw [hl, given_all]
    refine List.ext_getElem? fun i => ?_
    by_cases hi : i < es.length
    · rw [List.getElem?_map, List.getElem?_range hi, List.getElem?_map, List.getElem?_map, List.getElem?_eq_getElem hi]
      show some (V.str (g (es.getD i ent0))) = some (V.str (g es[i]))
      rw [List.getD_eq_getElem?_getD, List.getElem?_eq_getElem hi]
      rfl
    · rw [List.getElem?_eq_none (by rw [List.length_map, List.length_range]; omega), List.getElem?_eq_none (by rw [List.length_map, List.length_map]; omega)]
  rw [← e]
  exact hev
theorem s_forNLn {D : Ends} {σ : L2.St} {H : Hp} {tu : TS} {xs : List V} {tl : TE} {j : Nat} (h : EvL tl σ H xs) (Pv : Addr → Nat → L2.St → Hp → Prop) (h0 : ∀ p H1, H p = none → Ex H H1 → H1 p = some (.lst xs) → Pv p 0 σ H1) (hl : ∀ p i σ' H', i ≤ xs.length → Pv p i σ' H' → SqL K H' p xs)
    (hs : ∀ p (i : Nat) x σ' H', xs[i]? = some x → Pv p i σ' H' → tu { D with nx := Pv p (i + 1), ct := Pv p (i + 1), bk := D.nx } (σ'.set j (some x)) H') (hd : ∀ p σ' H', Pv p xs.length σ' H' → D.nx σ' H') : tFor (iList K tl) (gName j) tu D σ H :=
  s_forNL h Pv h0 hl hs hd
end
section
variable {K : PySem.W.Frag} {σ : L2.St} {H H' : Hp} {ta tb te tr tw tt : TE} {es fs : List Ent} {e : Ent}
theorem ev_lenT {p : Addr} {xs : List V} (ha : Ev ta σ H (.ref p)) (h : SqT K H p xs) : Ev (tCB (rLenS K) (tCons ta tNil)) σ H (.int (xs.length : Int)) := fun H1 e Q q =>
  ha H1 e _ fun H2 e2 => ⟨p, xs, rfl, Or.inr (ex_t (e.trans e2) h), q H2 e2⟩
theorem ep_ent5 {ta : TA} {w k s : Str} {t : Int} {o : Bool} (h : EvA ta σ H [.str w, .str k, .int t, .str s, .bl o]) : EvP (tTup ta) σ H (fun v H2 => IsEnt H2 v ⟨w, k, t, s, o⟩) := fun H1 e Q q =>
  (eu_tup h (Nat.le_of_ble_eq_true rfl)) H1 e Q fun p H2 _ e2 h2 => q _ H2 e2 ⟨p, rfl, h2⟩
theorem ep_held_ev {v : V} (h : Ev te σ H v) (hr : AHeld es v H) : EvP te σ H (AHeld es) := fun H1 x Q q => h H1 x Q fun H2 e2 => q v H2 e2 (hr.up (x.trans e2))
theorem ep_dropT {te : TE} {th : TO} (h : EvP te σ H (AHeld es)) (h2 : EvO th σ H (some (-1))) : EvP (tSl (rSlA K) te tNoPart th) σ H (AHeld es.dropLast) := fun H1 e _ q =>
  h H1 e _ fun v H2 e2 hv => h2 H2 (e.trans e2) _ fun H4 e4 => by
    obtain ⟨p, vs, rfl, g1, g2⟩ := hv
    have hd : cutV vs none (some (-1)) = vs.dropLast := by
      unfold cutV
      rw [HT.sIx_none, List.drop_zero, Nat.sub_zero, List.dropLast_eq_take]
      congr 1
      show (if (-1 : Int) < 0 then ((-1 : Int) + (vs.length : Int)).toNat else min (-1 : Int).toNat vs.length) = _
      rw [if_pos (by omega)]
      omega
    refine ⟨p, vs, rfl, st_of (e4 _ _ g1), fun z => ?_, fun z r hr => ?_⟩
    · have hlen : vs.length = 0 := by
        have h3 := z.2
        have h4 : HT.sIx vs.length vs.length (some (-1)) = ((-1 : Int) + (vs.length : Int)).toNat := by
          show (if (-1 : Int) < 0 then ((-1 : Int) + (vs.length : Int)).toNat else min (-1 : Int).toNat vs.length) = _
          rw [if_pos (by omega)]
        rw [h4] at h3
        omega
      have hv0 : vs = [] := List.length_eq_zero_iff.mp hlen
      subst hv0
      cases g2
      exact q _ _ (e2.trans e4) ⟨p, [], rfl, e4 _ _ g1, .nil⟩
    · rw [hd]
      exact q _ _ ((e2.trans e4).trans (Ex.new hr)) ⟨r, _, rfl, upd_same, (g2.dropLast.up e4).up (Ex.new hr)⟩
end
end BD
namespace BD
open PySem PySem.Spec PyProof.Rows L2 Evl
local macro_rules | `(tactic| walk_at "ev") => `(tactic| first
  | ((with_reducible apply ev_var) ; rfl)
  | with_reducible exact ev_c
  | ((with_reducible apply ev_I0) <;> walk_at "ev")
  | ((with_reducible apply ev_e9) <;> walk_at "ev")
  | ((with_reducible apply ev_I) <;> walk_at "ev")
  | ((with_reducible apply ev_eq) <;> walk_at "ev")
  | ((with_reducible apply ev_ne) <;> walk_at "ev")
  | ((with_reducible apply ev_neg) <;> walk_at "ev")
  | ((with_reducible apply ev_ixN) <;> walk_at "ev")
  | ((with_reducible apply ev_ixL) <;> walk_at "ev")
  | ((with_reducible apply ev_inN) <;> walk_at "ev")
  | ((with_reducible apply ev_inT) <;> walk_at "ev")
  | ((with_reducible apply ev_ixT) <;> walk_at "ev")
  | ((with_reducible apply ev_ixS) <;> walk_at "ev")
  | ((with_reducible apply ev_len') <;> walk_at "ev")
  | ((with_reducible apply et_test) <;> walk_at "ev")
  | ((with_reducible apply et_and) <;> walk_at "ev")
  | ((with_reducible apply et_or) <;> walk_at "ev")
  | ((with_reducible apply et_not) <;> walk_at "ev")
  | ((with_reducible apply et_B) <;> walk_at "ev")
  | ((with_reducible apply el_lst) <;> walk_at "ev")
  | ((with_reducible apply eu_tup) <;> walk_at "ev")
  | ((with_reducible apply ea_cons) <;> walk_at "ev")
  | with_reducible exact ea_nil
  | with_reducible assumption
  | ((with_reducible apply ex_l' ; assumption) ; walk_at "ex")
  | ((with_reducible apply ex_t' ; assumption) ; walk_at "ex")
  | (intro _ ; walk_at "ev")
  | (with_reducible first | exact atI_hd | exact at_kind | exact at2s | exact at3s | exact at3i)
  | (first | exact rfl | exact Nat.le_of_ble_eq_true rfl | exact ⟨by decide, by decide⟩ | decide | exact Or.inl ⟨by omega, by omega⟩ | exact Or.inr ⟨by omega, by omega⟩ | omega)
  | skip)
local macro_rules | `(tactic| walk_at "ex") => `(tactic| first
  | assumption
  | exact Ex.refl _
  | (refine' Ex.trans ?_ (by assumption) ; walk_at "ex"))
local macro_rules | `(tactic| walk_at "row") => `(tactic| first
  | (with_reducible exact er_nil)
  | ((with_reducible apply er_cons) <;> walk_at "row")
  | (((with_reducible apply er_var) ; rfl) ; walk_at "isrow")
  | (((with_reducible apply elr_var) ; rfl) ; walk_at "isrow")
  | ((with_reducible apply elr_cat) <;> walk_at "row")
  | ((with_reducible apply elr_lst) <;> walk_at "row")
  | ((with_reducible apply er_fin) <;> walk_at "ev")
  | ((with_reducible apply er_lendT) <;> walk_at "ev")
  | ((with_reducible apply er_lendW) <;> walk_at "ev")
  | ((with_reducible apply er_pick) <;> walk_at "ev")
  | ((with_reducible apply er_either) <;> walk_at "ev")
  | ((with_reducible apply er_or) <;> walk_at "ev")
  | ((with_reducible apply er_again) <;> walk_at "ev")
  | ((with_reducible apply er_back) <;> walk_at "ev")
  | ((with_reducible apply er_look) <;> walk_at "ev")
  | ((with_reducible apply er_change) <;> walk_at "ev")
  | exact Nat.le_of_ble_eq_true rfl
  | skip)
local macro_rules | `(tactic| walk_at "isrow") => `(tactic| first
  | assumption
  | (refine IsRow.up ?_ (by assumption) ; walk_at "ex")
  | (refine LRows.up ?_ (by assumption) ; walk_at "ex"))

abbrev s_l_lent : Stmt := topS 73
theorem sc_l_lent : FnScope ["_law_held", "_law_row_here", "_law_thing_here", "_law_source", "_law_out", "_law_one"] ["_law_held", "_law_row_here"] (defScope s_l_lent) := ⟨rfl, rfl, rfl, by decide +kernel, rfl, by decide +kernel, by decide +kernel⟩
def lookE (es : List Ent) (w : Str) : Option Ent := es.find? fun e => decide (e.w = w)
def lentS (s : Src) (es : List Ent) : V × Str × Bool := match s with
  | .thing n => (.int n, "", true)
  | .word w => match lookE es w with
    | some e => (.int e.t, if e.k = "pick" then "" else e.w, e.o)
    | none => (.str w, "", true)
def lentE (es : List Ent) (h k : Str) (s : Src) : Ent := match s with
  | .thing n => ⟨h, k, n, "", true⟩
  | .word w => match lookE es w with
    | some e => ⟨h, k, e.t, if e.k = "pick" then "" else e.w, e.o⟩
    | none => ⟨h, k, 0, "", true⟩
theorem look_app (es fs : List Ent) (w : Str) : lookE (es ++ fs) w = match lookE es w with
    | some e => some e
    | none => lookE fs w := by
  unfold lookE
  rw [List.find?_append]
  cases es.find? fun e => decide (e.w = w) <;> rfl
theorem look_none {es : List Ent} {w : Str} (h : ∀ e ∈ es, e.w ≠ w) : lookE es w = none :=
  List.find?_eq_none.mpr fun e he => by
    rw [decide_eq_false (h e he)]
    decide
theorem look_some {es : List Ent} {w : Str} (h : ∃ e ∈ es, e.w = w) : ∃ e, lookE es w = some e ∧ e ∈ es ∧ e.w = w := by
  cases hl : lookE es w with
  | none =>
    obtain ⟨e, he, hw⟩ := h
    have := List.find?_eq_none.mp hl e he
    rw [decide_eq_true hw] at this
    exact absurd rfl this
  | some e => exact ⟨e, rfl, List.mem_of_find?_eq_some hl, of_decide_eq_true (List.find?_some (p := fun e : Ent => decide (e.w = w)) hl)⟩
section
variable {P : Program} {w : World} {K : PySem.W.Frag} {mg : Str → Option Value} {base : Heap}
def spLent (K : PySem.W.Frag) : Sp := fun vs H Q _ => ∃ (x y : V) (es : List Ent) (h k : Str) (s : Src), vs = [x, y] ∧ AHeld es x H ∧ IsRow H y (.lend h k s) ∧ (es.map Ent.w).Nodup ∧ (∀ u, s = .word u → ∃ e ∈ es, e.w = u) ∧ es.length ≤ 1000 ∧ Ret (AHeld (es ++ [lentE es h k s])) H Q
theorem ok_lent (D : Dn K mg "_law_lent" s_l_lent ["_law_held", "_law_row_here"]) : Has P w K mg base "_law_lent" 1 ["_law_held", "_law_row_here"] (spLent K) := by
  refine D.ok sc_l_lent (fun vs H Q E h => ?_) (fun f cdv A outer st H vs Q E hr h => ?_)
  · obtain ⟨x, y, es, h, k, s, rfl, _⟩ := h
    rfl
  · obtain ⟨x, y, es, h, k, s, rfl, hx, hy, hnd, hmt, hlen, q⟩ := h
    obtain ⟨p, hv, rfl, hp, hE⟩ := hx
    obtain ⟨py, rfl, hpy⟩ := hy
    have hPy : SqT K H py [.str "lend", .str h, .str k, s.v] := st_of hpy
    have hle := hE.len
    refine ⟨_, (pss_cons (ps_set (i := 2) sc_l_lent.nd rfl (Or.inl rfl) (pe_ix (show IxR _ (rIxT K) from ix_tup) (pv 1) pe_int (fun _ _ => rfl))) (pss_cons (ps_set (i := 3) sc_l_lent.nd rfl (Or.inl rfl) pe_str) (pss_cons (ps_set (i := 4) sc_l_lent.nd rfl (Or.inl rfl) pe_bl) (pss_cons (ps_for PassesOwn.never rfl (pi_tup (pv 0)) (pg_name (i := 5) sc_l_lent.nd rfl (Or.inl rfl)) (pss_one (ps_if (pt_cmpR op_eq (pe_ix (show IxR _ (rIxT K) from ix_tup) (pv 5) pe_int (fun _ _ => rfl)) (pe_ix (show IxR _ (rIxT K) from ix_tup) (pv 1) pe_int (fun _ _ => rfl)) (nomark _)) (pss_cons (ps_set (i := 2) sc_l_lent.nd rfl (Or.inl rfl) (pe_ix (show IxR _ (rIxT K) from ix_tup) (pv 5) pe_int (fun _ _ => rfl))) (pss_cons (ps_set (i := 4) sc_l_lent.nd rfl (Or.inl rfl) (pe_ix (show IxR _ (rIxT K) from ix_tup) (pv 5) pe_int (fun _ _ => rfl))) (pss_one (ps_if (pt_cmpR op_ne (pe_ix (show IxR _ (rIxT K) from ix_tup) (pv 5) pe_int (fun _ _ => rfl)) pe_str (nomark _)) (pss_one (ps_set (i := 3) sc_l_lent.nd rfl (Or.inl rfl) (pe_ix (show IxR _ (rIxT K) from ix_tup) (pv 5) pe_int (fun _ _ => rfl)))) pss_nil)))) pss_nil))) (pss_one (ps_ret (pe_op (show OpR _ _ (rCatA K) from op_catA) (pv 0) (pe_tup (pa_cons (pe_tup (pa_cons (pe_ix (show IxR _ (rIxT K) from ix_tup) (pv 1) pe_int (fun _ _ => rfl)) (pa_cons (pe_ix (show IxR _ (rIxT K) from ix_tup) (pv 1) pe_int (fun _ _ => rfl)) (pa_cons (pv 2) (pa_cons (pv 3) (pa_cons (pv 4) pa_nil)))))) pa_nil))))))))), ?_⟩
    show (_ : L2.TS) _ [_, _, _, _, _, _] _
    refine' q_asg (v := s.v) ?_ (fun H1 e1 => ?_)
    · walk_at "ev"
    show (_ : L2.TS) _ [_, _, _, _, _, _] _
    refine' q_asg ev_c (fun H2 e2 => ?_)
    show (_ : L2.TS) _ [_, _, _, _, _, _] _
    refine' q_asg ev_c (fun H3 e3 => ?_)
    show (_ : L2.TS) _ [_, _, _, _, _, _] _
    refine q_forT (K := K) (a := p) (xs := hv) (ev_var rfl) (ex_t (by walk_at "ex") (st_of hp)) (fun i σ' H' => Ex H H' ∧ ∃ o, σ' = [some (.ref p), some (.ref py), some (lentS s (es.take i)).1, some (.str (lentS s (es.take i)).2.1), some (.bl (lentS s (es.take i)).2.2), o]) ?_ (fun i σ' H' _ h => ex_t h.1 (st_of hp)) ?_ ?_
    · intro H4 e4
      refine ⟨by walk_at "ex", none, ?_⟩
      cases s <;> rfl
    · rintro i x σ' H' hi ⟨eH, o, rfl⟩
      obtain ⟨e, he, hX⟩ := hE.at hi
      have hil : i < es.length := (List.getElem?_eq_some_iff.mp he).1
      obtain ⟨pe, rfl, hpe⟩ := hX
      have hPe : SqT K H' pe e.vs := ex_t eH (st_of hpe)
      have htk : es.take (i + 1) = es.take i ++ [e] := by
        rw [List.take_add_one, he]
        rfl
      refine s_if (b := decide (V.str e.w = s.v)) ?_ (fun hb H4 e4 => ?_) (fun hb H4 e4 => ?_)
      · refine et_test (ev_eq ?_ ?_ (by cases s <;> rfl))
        · refine ev_ixT (ev_var rfl) hPe ev_c rfl
        · walk_at "ev"
      · have hb := of_decide_eq_true hb
        cases s with
        | thing n => cases hb
        | word u =>
          have hu : e.w = u := V.str.inj hb
          have hno : lookE (es.take i) u = none := look_none fun e' he' z => by
            have hs : es = es.take i ++ (e :: es.drop (i + 1)) := by
              have := List.take_append_drop i es
              rw [← this]
              congr 1
              · rw [List.take_append_drop]
              · rw [List.take_append_drop]
                exact List.drop_eq_getElem_cons hil ▸ by
                  rw [(List.getElem?_eq_some_iff.mp he).2]
            rw [hs, List.map_append, List.map_cons] at hnd
            have := (List.nodup_append.mp hnd).2.2 e'.w (List.mem_map.mpr ⟨e', he', rfl⟩) e.w List.mem_cons_self
            exact this (z.trans hu.symm)
          have hyes : lookE (es.take (i + 1)) u = some e := by
            rw [htk, look_app, hno]
            unfold lookE
            rw [List.find?_cons, decide_eq_true hu]
          have es1 : lentS (.word u) (es.take (i + 1)) = ((V.int e.t, if e.k = "pick" then ("" : Str) else e.w, e.o) : V × Str × Bool) := by
            unfold lentS
            dsimp only
            rw [hyes]
          have es0 : lentS (.word u) (es.take i) = ((V.str u, "", true) : V × Str × Bool) := by
            unfold lentS
            dsimp only
            rw [hno]
          rw [es0, es1]
          refine q_asg (v := .int e.t) (ev_ixT (ev_var rfl) (ex_t e4 hPe) ev_c rfl) (fun H5 e5 => ?_)
          refine q_asg (v := .bl e.o) (ev_ixT (ev_var rfl) (ex_t e5 (ex_t e4 hPe)) ev_c rfl) (fun H6 e6 => ?_)
          refine s_when (b := !decide (V.str e.k = V.str "pick")) ?_ (fun hk H7 e7 => ?_) (fun hk H7 e7 => ?_)
          · refine et_test (ev_ne ?_ ev_c rfl)
            exact ev_ixT (ev_var rfl) (ex_t e6 (ex_t e5 (ex_t e4 hPe))) ev_c rfl
          · have hk' : ¬ e.k = "pick" := fun z => by
              rw [decide_eq_true (by rw [z])] at hk
              cases hk
            refine s_asg (v := .str e.w) (ev_ixT (ev_var rfl) (ex_t e7 (ex_t e6 (ex_t e5 (ex_t e4 hPe)))) ev_c rfl) (fun H8 e8 => ⟨eH.trans (e4.trans (e5.trans (e6.trans (e7.trans e8)))), some (.ref pe), ?_⟩)
            rw [if_neg hk']
            rfl
          · have hk' : e.k = "pick" := by
              cases hd : decide (V.str e.k = V.str "pick") with
              | true => exact V.str.inj (of_decide_eq_true hd)
              | false => rw [hd] at hk; cases hk
            refine ⟨eH.trans (e4.trans (e5.trans (e6.trans e7))), some (.ref pe), ?_⟩
            rw [if_pos hk']
            rfl
      · have hb := of_decide_eq_false hb
        have hkeep : lentS s (es.take (i + 1)) = lentS s (es.take i) := by
          cases s with
          | thing n => rfl
          | word u =>
            have hu : ¬ e.w = u := fun z => hb (by rw [z]; rfl)
            unfold lentS
            dsimp only
            rw [htk, look_app]
            cases lookE (es.take i) u with
            | some e' => rfl
            | none =>
              dsimp only
              rw [look_none fun e' he' => by
                rcases List.mem_cons.mp he' with z | z
                · rw [z]; exact hu
                · cases z]
        rw [hkeep]
        exact ⟨eH.trans e4, _, rfl⟩
    · rintro σ' H' ⟨eH, o, rfl⟩
      rw [hle, List.take_length]
      have hPy' : SqT K H' py [.str "lend", .str h, .str k, s.v] := ex_t eH hPy
      have hHeld : AHeld es (.ref p) H' := ⟨p, hv, rfl, eH _ _ hp, hE.up eH⟩
      have key : ∃ n : Int, (lentS s es).1 = .int n ∧ lentE es h k s = ⟨h, k, n, (lentS s es).2.1, (lentS s es).2.2⟩ := by
        cases s with
        | thing n => exact ⟨n, rfl, rfl⟩
        | word u =>
          obtain ⟨e, h1, _, _⟩ := look_some (hmt u rfl)
          unfold lentS lentE
          dsimp only
          rw [h1]
          exact ⟨e.t, rfl, rfl⟩
      obtain ⟨n, hn1, hn2⟩ := key
      rw [hn2] at q
      refine s_retP (ep_catT (es := es) (fs := [⟨h, k, n, (lentS s es).2.1, (lentS s es).2.2⟩]) (ep_heldvar rfl hHeld) (ep_one ?_) (by show es.length + 1 ≤ 100000; omega)) (fun v H9 e9 hv => q v H9 (eH.trans e9) hv)
      rw [hn1]
      refine EvP.mono (ep_U (xs := [.str h, .str k, .int n, .str (lentS s es).2.1, .bl (lentS s es).2.2]) ?_) (fun v H2 h => ?_)
      · walk_at "ev"
      · obtain ⟨p', rfl, hp'⟩ := h
        exact ⟨p', rfl, hp'⟩
theorem ep_lent {x y : V} {es : List Ent} {h k : Str} {s : Src} {ta : TA} {σ : L2.St} {H : Hp} {E : XK} (a : EvA ta σ H [x, y]) (hx : AHeld es x H) (hy : IsRow H y (.lend h k s)) (hn : (es.map Ent.w).Nodup) (hm : ∀ u, s = .word u → ∃ e ∈ es, e.w = u) (hl : es.length ≤ 1000) :
    EvP (tCall (spLent K) [] E ta) σ H (AHeld (es ++ [lentE es h k s])) := ep_call a fun H1 e Q q E => ⟨x, y, es, h, k, s, rfl, hx.up e, hy.up e, hn, hm, hl, q⟩
end
end BD
namespace BD
open PySem PySem.Spec PyProof.Rows L2 Evl
local macro_rules | `(tactic| walk_at "ev") => `(tactic| first
  | ((with_reducible apply ev_var) ; rfl)
  | with_reducible exact ev_c
  | ((with_reducible apply ev_I0) <;> walk_at "ev")
  | ((with_reducible apply ev_e9) <;> walk_at "ev")
  | ((with_reducible apply ev_I) <;> walk_at "ev")
  | ((with_reducible apply ev_eq) <;> walk_at "ev")
  | ((with_reducible apply ev_ne) <;> walk_at "ev")
  | ((with_reducible apply ev_neg) <;> walk_at "ev")
  | ((with_reducible apply ev_ixN) <;> walk_at "ev")
  | ((with_reducible apply ev_ixL) <;> walk_at "ev")
  | ((with_reducible apply ev_inN) <;> walk_at "ev")
  | ((with_reducible apply ev_inT) <;> walk_at "ev")
  | ((with_reducible apply ev_ixT) <;> walk_at "ev")
  | ((with_reducible apply ev_ixS) <;> walk_at "ev")
  | ((with_reducible apply ev_len') <;> walk_at "ev")
  | ((with_reducible apply et_test) <;> walk_at "ev")
  | ((with_reducible apply et_and) <;> walk_at "ev")
  | ((with_reducible apply et_or) <;> walk_at "ev")
  | ((with_reducible apply et_not) <;> walk_at "ev")
  | ((with_reducible apply et_B) <;> walk_at "ev")
  | ((with_reducible apply el_lst) <;> walk_at "ev")
  | ((with_reducible apply eu_tup) <;> walk_at "ev")
  | ((with_reducible apply ea_cons) <;> walk_at "ev")
  | with_reducible exact ea_nil
  | with_reducible assumption
  | ((with_reducible apply ex_l' ; assumption) ; walk_at "ex")
  | ((with_reducible apply ex_t' ; assumption) ; walk_at "ex")
  | (intro _ ; walk_at "ev")
  | (with_reducible first | exact atI_hd | exact at_kind | exact at2s | exact at3s | exact at3i)
  | (first | exact rfl | exact Nat.le_of_ble_eq_true rfl | exact ⟨by decide, by decide⟩ | decide | exact Or.inl ⟨by omega, by omega⟩ | exact Or.inr ⟨by omega, by omega⟩ | omega)
  | skip)
local macro_rules | `(tactic| walk_at "ex") => `(tactic| first
  | assumption
  | exact Ex.refl _
  | (refine' Ex.trans ?_ (by assumption) ; walk_at "ex"))
local macro_rules | `(tactic| walk_at "row") => `(tactic| first
  | (with_reducible exact er_nil)
  | ((with_reducible apply er_cons) <;> walk_at "row")
  | (((with_reducible apply er_var) ; rfl) ; walk_at "isrow")
  | (((with_reducible apply elr_var) ; rfl) ; walk_at "isrow")
  | ((with_reducible apply elr_cat) <;> walk_at "row")
  | ((with_reducible apply elr_lst) <;> walk_at "row")
  | ((with_reducible apply er_fin) <;> walk_at "ev")
  | ((with_reducible apply er_lendT) <;> walk_at "ev")
  | ((with_reducible apply er_lendW) <;> walk_at "ev")
  | ((with_reducible apply er_pick) <;> walk_at "ev")
  | ((with_reducible apply er_either) <;> walk_at "ev")
  | ((with_reducible apply er_or) <;> walk_at "ev")
  | ((with_reducible apply er_again) <;> walk_at "ev")
  | ((with_reducible apply er_back) <;> walk_at "ev")
  | ((with_reducible apply er_look) <;> walk_at "ev")
  | ((with_reducible apply er_change) <;> walk_at "ev")
  | exact Nat.le_of_ble_eq_true rfl
  | skip)
local macro_rules | `(tactic| walk_at "isrow") => `(tactic| first
  | assumption
  | (refine IsRow.up ?_ (by assumption) ; walk_at "ex")
  | (refine LRows.up ?_ (by assumption) ; walk_at "ex"))

abbrev s_l_back : Stmt := topS 74
theorem sc_l_back : FnScope ["_law_held", "_law_word_here", "_law_gone", "_law_found", "_law_one"] ["_law_held", "_law_word_here"] (defScope s_l_back) := ⟨rfl, rfl, rfl, by decide +kernel, rfl, by decide +kernel, by decide +kernel⟩
def bkS (w : Str) (es : List Ent) : Nat → List Str × List Ent
  | 0 => ([w], [])
  | i + 1 => match es[i]? with
    | some e => if e.w ∈ (bkS w es i).1 ∨ e.s ∈ (bkS w es i).1 then ((bkS w es i).1 ++ [e.w], (bkS w es i).2 ++ [(⟨e.w, e.k, e.t, e.s, false⟩ : Ent)]) else ((bkS w es i).1, (bkS w es i).2 ++ [e])
    | none => bkS w es i
def backM (w : Str) (es : List Ent) : List Ent := (bkS w es es.length).2
theorem bkS_next {w : Str} {es : List Ent} {i : Nat} {e : Ent} (h : es[i]? = some e) : bkS w es (i + 1) =
    if e.w ∈ (bkS w es i).1 ∨ e.s ∈ (bkS w es i).1 then ((bkS w es i).1 ++ [e.w], (bkS w es i).2 ++ [(⟨e.w, e.k, e.t, e.s, false⟩ : Ent)]) else ((bkS w es i).1, (bkS w es i).2 ++ [e]) := by
  show (match es[i]? with
    | some e => if e.w ∈ (bkS w es i).1 ∨ e.s ∈ (bkS w es i).1 then ((bkS w es i).1 ++ [e.w], (bkS w es i).2 ++ [(⟨e.w, e.k, e.t, e.s, false⟩ : Ent)]) else ((bkS w es i).1, (bkS w es i).2 ++ [e])
    | none => bkS w es i) = _
  rw [h]
theorem bkS_len (w : Str) (es : List Ent) : ∀ i, (bkS w es i).1.length ≤ i + 1 ∧ (bkS w es i).2.length ≤ i
  | 0 => ⟨Nat.le_refl _, Nat.le_refl _⟩
  | i + 1 => by
    have ih := bkS_len w es i
    show (match es[i]? with
      | some e => if e.w ∈ (bkS w es i).1 ∨ e.s ∈ (bkS w es i).1 then ((bkS w es i).1 ++ [e.w], (bkS w es i).2 ++ [(⟨e.w, e.k, e.t, e.s, false⟩ : Ent)]) else ((bkS w es i).1, (bkS w es i).2 ++ [e])
      | none => bkS w es i).1.length ≤ _ ∧ (match es[i]? with
      | some e => if e.w ∈ (bkS w es i).1 ∨ e.s ∈ (bkS w es i).1 then ((bkS w es i).1 ++ [e.w], (bkS w es i).2 ++ [(⟨e.w, e.k, e.t, e.s, false⟩ : Ent)]) else ((bkS w es i).1, (bkS w es i).2 ++ [e])
      | none => bkS w es i).2.length ≤ _
    cases es[i]? with
    | none => exact ⟨by show (bkS w es i).1.length ≤ _; omega, by show (bkS w es i).2.length ≤ _; omega⟩
    | some e =>
      dsimp only
      split
      · exact ⟨by show (_ ++ [_]).length ≤ _; rw [List.length_append]; show _ + 1 ≤ _; omega, by show (_ ++ [_]).length ≤ _; rw [List.length_append]; show _ + 1 ≤ _; omega⟩
      · exact ⟨by show (bkS w es i).1.length ≤ _; omega, by show (_ ++ [_]).length ≤ _; rw [List.length_append]; show _ + 1 ≤ _; omega⟩
section
variable {P : Program} {w : World} {K : PySem.W.Frag} {mg : Str → Option Value} {base : Heap}
theorem cut4 (a b c d e : V) : cutV [a, b, c, d, e] none (some 4) = [a, b, c, d] := rfl
theorem ep_entvar {i : Nat} {v : V} {e : Ent} {σ : L2.St} {H : Hp} (h : σ[i]? = some (some v)) (hr : IsEnt H v e) : EvP (tVar i) σ H (fun v H2 => IsEnt H2 v e) := fun H1 x Q q => ⟨v, h, q v H1 (Ex.refl H1) (hr.up x)⟩
/-- t[lo:hi] of a tuple that is not whole behind it -/
theorem ep_slT {te : TE} {tl th : TO} {σ : L2.St} {H : Hp} {a : Addr} {xs ys : List V} {lo hi : Option Int} (h : Ev te σ H (.ref a)) (h1 : EvO tl σ H lo) (h2 : EvO th σ H hi) (hs : SqT K H a xs) (hc : cutV xs lo hi = ys) (hw : ¬ (HT.sIx xs.length 0 lo = 0 ∧ HT.sIx xs.length xs.length hi = xs.length)) :
    EvU (tSl (rSlA K) te tl th) σ H ys := fun H1 e _ q =>
  h H1 e _ fun H2 e2 => h1 H2 (e.trans e2) _ fun H3 e3 => h2 H3 ((e.trans e2).trans e3) _ fun H4 e4 =>
    ⟨a, xs, rfl, ex_t (((e.trans e2).trans e3).trans e4) hs, fun z => absurd z hw, fun _ p hp => q p _ (fresh_back ((e2.trans e3).trans e4) hp) (((e2.trans e3).trans e4).trans (Ex.new hp)) (by rw [hc]; exact upd_same)⟩
/-- t + u, both new, neither empty -/
theorem eu_catUU {ta tb : TE} {σ : L2.St} {H : Hp} {xs ys : List V} (ha : EvU ta σ H xs) (hb : EvU tb σ H ys) (h1 : xs ≠ []) (h2 : ys ≠ []) (hl : xs.length + ys.length ≤ 100000) : EvU (tOp (rCatA K) ta tb) σ H (xs ++ ys) := fun H1 e Q q =>
  ha H1 e _ fun p H2 hp e2 g1 => hb H2 (e.trans e2) _ fun u H3 hu e3 g2 => ⟨p, u, xs, ys, rfl, rfl, st_of (e3 _ _ g1), st_of g2, sz_of hl, fun z => absurd z h1, fun _ z => absurd z h2, fun _ _ r hr => q r _ (fresh_back (e2.trans e3) hr) (e2.trans (e3.trans (Ex.new hr))) upd_same⟩
def spBack (K : PySem.W.Frag) : Sp := fun vs H Q _ => ∃ (x : V) (es : List Ent) (u : Str), vs = [x, .str u] ∧ AHeld es x H ∧ es.length ≤ 1000 ∧ Ret (AHeld (backM u es)) H Q
theorem ok_back (D : Dn K mg "_law_back" s_l_back ["_law_held", "_law_word_here"]) : Has P w K mg base "_law_back" 1 ["_law_held", "_law_word_here"] (spBack K) := by
  refine D.ok sc_l_back (fun vs H Q E h => ?_) (fun f cdv A outer st H vs Q E hr h => ?_)
  · obtain ⟨x, es, u, rfl, _⟩ := h
    rfl
  · obtain ⟨x, es, u, rfl, hx, hlen, q⟩ := h
    obtain ⟨p, hv, rfl, hp, hE⟩ := hx
    have hle := hE.len
    refine ⟨_, (pss_cons (ps_set (i := 2) sc_l_back.nd rfl (Or.inl rfl) (pe_lst (pa_cons (pv 1) pa_nil))) (pss_cons (ps_set (i := 3) sc_l_back.nd rfl (Or.inl rfl) (pe_tup pa_nil)) (pss_cons (ps_for PassesOwn.never rfl (pi_tup (pv 0)) (pg_name (i := 4) sc_l_back.nd rfl (Or.inl rfl)) (pss_cons (ps_if (PW.pt (pw_or (pt_cmpR (show OpR _ _ (rIn K false) from op_in_seq) (pe_ix (show IxR _ (rIxT K) from ix_tup) (pv 4) pe_int (fun _ _ => rfl)) (pv 2) (by rfl)) (pw_or1 (pt_cmpR (show OpR _ _ (rIn K false) from op_in_seq) (pe_ix (show IxR _ (rIxT K) from ix_tup) (pv 4) pe_int (fun _ _ => rfl)) (pv 2) (by rfl))))) (pss_cons (ps_expr (pe_bm PySem.F.plainAttrs_list PySem.F.slot_list_append PySem.F.type_list_append mt_append (pv 2) (pa_cons (pe_ix (show IxR _ (rIxT K) from ix_tup) (pv 4) pe_int (fun _ _ => rfl)) pa_nil))) (pss_one (ps_set (i := 4) sc_l_back.nd rfl (Or.inl rfl) (pe_op (show OpR _ _ (rCatA K) from op_catA) (pe_slice sl_tupA (pv 4) po_none (po_some pe_int)) (pe_tup (pa_cons pe_bl pa_nil)))))) pss_nil) (pss_one (ps_set (i := 3) sc_l_back.nd rfl (Or.inl rfl) (pe_op (show OpR _ _ (rCatA K) from op_catA) (pv 3) (pe_tup (pa_cons (pv 4) pa_nil))))))) (pss_one (ps_ret (pv 3)))))), ?_⟩
    show (_ : L2.TS) _ [_, _, _, _, _] _
    refine q_asgL (xs := [.str u]) ?_ (fun pg H1 hpg e1 h1 => ?_)
    · walk_at "ev"
    show (_ : L2.TS) _ [_, _, _, _, _] _
    refine q_asgU (xs := []) ?_ (fun pf H2 hpf e2 h2 => ?_)
    · walk_at "ev"
    show (_ : L2.TS) _ [_, _, _, _, _] _
    refine q_forT (K := K) (a := p) (xs := hv) (ev_var rfl) (ex_t (by walk_at "ex") (st_of hp)) (fun i σ' H' => Ex H H' ∧ H' pg = some (.lst ((bkS u es i).1.map V.str)) ∧ ∃ v o, AHeld (bkS u es i).2 v H' ∧ σ' = [some (.ref p), some (.str u), some (.ref pg), some v, o]) ?_ (fun i σ' H' _ h => ex_t h.1 (st_of hp)) ?_ ?_
    · intro H4 e4
      exact ⟨by walk_at "ex", e4 _ _ (e2 _ _ h1), .ref pf, none, ⟨pf, [], rfl, e4 _ _ h2, .nil⟩, rfl⟩
    · rintro i x σ' H' hi ⟨eH, hgn, v, o, hfd, rfl⟩
      obtain ⟨e, he, hX⟩ := hE.at hi
      have hil : i < es.length := (List.getElem?_eq_some_iff.mp he).1
      have hX' : IsEnt H' x e := hX.up eH
      obtain ⟨pe, rfl, hpe⟩ := id hX'
      have hPe : SqT K H' pe e.vs := st_of hpe
      have hG : SqL K H' pg ((bkS u es i).1.map V.str) := sq_of hgn
      have hbl := bkS_len u es i
      have hnx := bkS_next (w := u) he
      refine q_when (b := decide (e.w ∈ (bkS u es i).1) || decide (e.s ∈ (bkS u es i).1)) ?_ (fun hb H4 e4 => ?_) (fun hb H4 e4 => ?_)
      · refine et_or (et_test (ev_inLs ?_ (ev_var rfl) hG)) (fun _ => et_test (ev_inLs ?_ (ev_var rfl) hG))
        · exact ev_ixT (ev_var rfl) hPe ev_c rfl
        · exact ev_ixT (ev_var rfl) hPe ev_c rfl
      · have hb' : e.w ∈ (bkS u es i).1 ∨ e.s ∈ (bkS u es i).1 := by simpa only [Bool.or_eq_true, decide_eq_true_eq] using hb
        rw [if_pos hb'] at hnx
        refine q_app (l := pg) (xs := (bkS u es i).1.map V.str) (v := .str e.w) (e4 _ _ hgn) (ev_var rfl) (ev_ixT (ev_var rfl) (ex_t e4 hPe) ev_c rfl) (by rw [List.length_map]; omega) (fun H5 e5 => ?_)
        have eg : (bkS u es i).1.map V.str ++ [V.str e.w] = (bkS u es (i + 1)).1.map V.str := by
          rw [hnx, List.map_append]
          rfl
        rw [eg]
        have x5 : ExT H5 (upd H5 pg (.lst ((bkS u es (i + 1)).1.map V.str))) := ExT.lst (e5 _ _ (e4 _ _ hgn))
        have xT : ExT H' (upd H5 pg (.lst ((bkS u es (i + 1)).1.map V.str))) := (ExT.of (e4.trans e5)).trans x5
        have eM : Ex H (upd H5 pg (.lst ((bkS u es (i + 1)).1.map V.str))) := Ex.mut (eH.trans (e4.trans e5)) hpg
        have hg5 : (upd H5 pg (.lst ((bkS u es (i + 1)).1.map V.str))) pg = some (.lst ((bkS u es (i + 1)).1.map V.str)) := upd_same
        have hfd5 : AHeld (bkS u es i).2 v (upd H5 pg (.lst ((bkS u es (i + 1)).1.map V.str))) := by
          obtain ⟨pv, vs, g1, g2, g3⟩ := hfd
          exact ⟨pv, vs, g1, xT _ _ g2, g3.upT xT⟩
        have hPe5 : SqT K (upd H5 pg (.lst ((bkS u es (i + 1)).1.map V.str))) pe e.vs := st_of (xT _ _ hpe)
        generalize upd H5 pg (.lst ((bkS u es (i + 1)).1.map V.str)) = H6 at *
        -- one = one[:4] + (False,)
        refine s_asgU (xs := [.str e.w, .str e.k, .int e.t, .str e.s] ++ [.bl false]) (eu_catUU (ep_slT (ev_var rfl) eo_none (eo_some ev_c) hPe5 (show cutV e.vs none (some 4) = [.str e.w, .str e.k, .int e.t, .str e.s] from rfl) (fun z => absurd z.2 (by show ¬ HT.sIx 5 5 (some 4) = 5; decide))) (eu_tup ?_ (Nat.le_of_ble_eq_true rfl)) (by simp) (by simp) (Nat.le_of_ble_eq_true rfl)) (fun po H7 hpo e7 h7 => ?_)
        · walk_at "ev"
        dsimp only
        refine s_asgP (ep_catT (es := (bkS u es i).2) (fs := [⟨e.w, e.k, e.t, e.s, false⟩]) (ep_heldvar rfl (hfd5.up e7)) (ep_one ?_) (by show (bkS u es i).2.length + 1 ≤ 100000; omega)) (fun z H8 e8 hz => ?_)
        · exact ep_entvar (v := .ref po) rfl ⟨po, rfl, h7⟩
        · refine ⟨eM.trans (e7.trans e8), e8 _ _ (e7 _ _ hg5), z, some (.ref po), ?_, rfl⟩
          rw [hnx]
          exact hz
      · have hb' : ¬ (e.w ∈ (bkS u es i).1 ∨ e.s ∈ (bkS u es i).1) := by simpa only [Bool.or_eq_false_iff, decide_eq_false_iff_not, not_or] using hb
        rw [if_neg hb'] at hnx
        refine s_asgP (ep_catT (es := (bkS u es i).2) (fs := [e]) (ep_heldvar rfl (hfd.up e4)) (ep_one (ep_entvar (v := .ref pe) rfl (hX'.up e4))) (by show (bkS u es i).2.length + 1 ≤ 100000; omega)) (fun z H8 e8 hz => ?_)
        refine ⟨eH.trans (e4.trans e8), ?_, z, some (.ref pe), ?_, rfl⟩
        · rw [hnx]
          exact e8 _ _ (e4 _ _ hgn)
        · rw [hnx]
          exact hz
    · rintro σ' H' ⟨eH, hgn, v, o, hfd, rfl⟩
      rw [hle] at hfd
      exact s_ret (v := v) (ev_var rfl) (fun H4 e4 => q v H4 (eH.trans e4) (hfd.up e4))
theorem ep_back {x : V} {es : List Ent} {u : Str} {ta : TA} {σ : L2.St} {H : Hp} {E : XK} (a : EvA ta σ H [x, .str u]) (hx : AHeld es x H) (hl : es.length ≤ 1000) : EvP (tCall (spBack K) [] E ta) σ H (AHeld (backM u es)) :=
  ep_call a fun H1 e Q q E => ⟨x, es, u, rfl, hx.up e, hl, q⟩
end
end BD
namespace BD
open PySem PySem.Spec PyProof.Rows L2 Evl
local macro_rules | `(tactic| walk_at "ev") => `(tactic| first
  | ((with_reducible apply ev_var) ; rfl)
  | with_reducible exact ev_c
  | ((with_reducible apply ev_I0) <;> walk_at "ev")
  | ((with_reducible apply ev_e9) <;> walk_at "ev")
  | ((with_reducible apply ev_I) <;> walk_at "ev")
  | ((with_reducible apply ev_eq) <;> walk_at "ev")
  | ((with_reducible apply ev_ne) <;> walk_at "ev")
  | ((with_reducible apply ev_neg) <;> walk_at "ev")
  | ((with_reducible apply ev_ixN) <;> walk_at "ev")
  | ((with_reducible apply ev_ixL) <;> walk_at "ev")
  | ((with_reducible apply ev_inN) <;> walk_at "ev")
  | ((with_reducible apply ev_inT) <;> walk_at "ev")
  | ((with_reducible apply ev_ixT) <;> walk_at "ev")
  | ((with_reducible apply ev_ixS) <;> walk_at "ev")
  | ((with_reducible apply ev_len') <;> walk_at "ev")
  | ((with_reducible apply et_test) <;> walk_at "ev")
  | ((with_reducible apply et_and) <;> walk_at "ev")
  | ((with_reducible apply et_or) <;> walk_at "ev")
  | ((with_reducible apply et_not) <;> walk_at "ev")
  | ((with_reducible apply et_B) <;> walk_at "ev")
  | ((with_reducible apply el_lst) <;> walk_at "ev")
  | ((with_reducible apply eu_tup) <;> walk_at "ev")
  | ((with_reducible apply ea_cons) <;> walk_at "ev")
  | with_reducible exact ea_nil
  | with_reducible assumption
  | ((with_reducible apply ex_l' ; assumption) ; walk_at "ex")
  | ((with_reducible apply ex_t' ; assumption) ; walk_at "ex")
  | (intro _ ; walk_at "ev")
  | (with_reducible first | exact atI_hd | exact at_kind | exact at2s | exact at3s | exact at3i)
  | (first | exact rfl | exact Nat.le_of_ble_eq_true rfl | exact ⟨by decide, by decide⟩ | decide | exact Or.inl ⟨by omega, by omega⟩ | exact Or.inr ⟨by omega, by omega⟩ | omega)
  | skip)
local macro_rules | `(tactic| walk_at "ex") => `(tactic| first
  | assumption
  | exact Ex.refl _
  | (refine' Ex.trans ?_ (by assumption) ; walk_at "ex"))
local macro_rules | `(tactic| walk_at "row") => `(tactic| first
  | (with_reducible exact er_nil)
  | ((with_reducible apply er_cons) <;> walk_at "row")
  | (((with_reducible apply er_var) ; rfl) ; walk_at "isrow")
  | (((with_reducible apply elr_var) ; rfl) ; walk_at "isrow")
  | ((with_reducible apply elr_cat) <;> walk_at "row")
  | ((with_reducible apply elr_lst) <;> walk_at "row")
  | ((with_reducible apply er_fin) <;> walk_at "ev")
  | ((with_reducible apply er_lendT) <;> walk_at "ev")
  | ((with_reducible apply er_lendW) <;> walk_at "ev")
  | ((with_reducible apply er_pick) <;> walk_at "ev")
  | ((with_reducible apply er_either) <;> walk_at "ev")
  | ((with_reducible apply er_or) <;> walk_at "ev")
  | ((with_reducible apply er_again) <;> walk_at "ev")
  | ((with_reducible apply er_back) <;> walk_at "ev")
  | ((with_reducible apply er_look) <;> walk_at "ev")
  | ((with_reducible apply er_change) <;> walk_at "ev")
  | exact Nat.le_of_ble_eq_true rfl
  | skip)
local macro_rules | `(tactic| walk_at "isrow") => `(tactic| first
  | assumption
  | (refine IsRow.up ?_ (by assumption) ; walk_at "ex")
  | (refine LRows.up ?_ (by assumption) ; walk_at "ex"))

local macro_rules | `(tactic| walk_at "ev") => `(tactic| (((with_reducible apply ev_tag) ; rfl) ; walk_at "isrow"))
local macro_rules | `(tactic| walk_at "skip") => `(tactic| (refine q_when (b := false) (et_is (et_test (ev_eq (ev_var rfl) ev_c rfl)) rfl) (fun hb _ _ => by cases hb) (fun _ _ _ => ?_)))
local macro_rules | `(tactic| walk_at "skip2") => `(tactic| (refine q_when (b := false) (et_is (et_and (a := false) (b := false) (et_is (et_test (ev_eq (ev_var rfl) ev_c rfl)) rfl) (fun hb => by cases hb)) rfl) (fun hb _ _ => by cases hb) (fun _ _ _ => ?_)))
local macro_rules | `(tactic| walk_at "hit") => `(tactic| (refine q_when (b := true) (et_is (et_test (ev_eq (ev_var rfl) ev_c rfl)) rfl) (fun _ _ _ => ?_) (fun hb _ _ => by cases hb)))
abbrev s_l_step : Stmt := topS 75
theorem sc_l_step : FnScope ["_law_rows", "_law_home", "_law_standing", "_law_choice", "_law_at", "_law_held", "_law_word_here", "_law_things", "_law_starts_here"] ["_law_rows", "_law_home", "_law_standing", "_law_choice"] (defScope s_l_step) := ⟨rfl, rfl, rfl, by decide +kernel, rfl, by decide +kernel, by decide +kernel⟩
def brI (rs : List Rw) (a n : Nat) : List Int := ((a : Int) + 1) :: ((List.range n).filter (orF rs a)).map fun (p : Nat) => (p : Int) + 1
theorem brV_I (rs : List Rw) (a n : Nat) : brV rs a n = (brI rs a n).map V.int := by
  unfold brV brI
  rw [List.map_cons, List.map_map]
  rfl
def Rw.isAgain : Rw → Bool
  | .again => true | _ => false
def goM (rs : List Rw) (i : Nat) (es : List Ent) (c : Int) : Int × List Ent := match rs[i]? with
  | some (.lend h k s) => ((i : Int) + 1, es ++ [lentE es h k s])
  | some (.pick w ts) => ((i : Int) + 1, es ++ [⟨w, "pick", ts.getD (c % ts.length).toNat 0, "", true⟩])
  | some (.back h) => ((i : Int) + 1, backM h es)
  | some .either => ((brI rs i rs.length).getD (c % (brI rs i rs.length).length).toNat 0, es)
  | some .or => (endUp rs (hm rs i).toNat rs.length, es)
  | some .again => if c % 2 = 0 then (endUp rs i rs.length + 1, es) else ((i : Int) + 1, es)
  | some .fin => if (rs.getD (hm rs i).toNat .fin).isAgain = true then (hm rs i, es) else if (rs.getD (hm rs i).toNat .fin).isEither = true then ((i : Int) + 1, es) else ((i : Int) + 1, es.dropLast)
  | _ => ((i : Int) + 1, es)
/-- what a step asks of the standing at row i -/
structure StepOk (rs : List Rw) (i : Nat) (es : List Ent) : Prop where
  lend : ∀ h k s, rs[i]? = some (.lend h k s) → (es.map Ent.w).Nodup ∧ ∀ u, s = .word u → ∃ e ∈ es, e.w = u
  pick : ∀ w ts, rs[i]? = some (.pick w ts) → 0 < ts.length
  or : rs[i]? = some .or → ∃ b : Nat, hm rs i = (b : Int)
section
variable {K : PySem.W.Frag} {σ : L2.St} {H H' : Hp} {ta tb te tr tw tt : TE} {es fs : List Ent} {e : Ent}
theorem ep_stand {i : Int} (ha : Ev ta σ H (.int i)) (hb : EvP tb σ H (AHeld es)) : EvP (tTup (tCons ta (tCons tb tNil))) σ H (AStand i es) := fun H1 x Q q =>
  ha H1 x _ fun H2 e2 => hb H2 (x.trans e2) _ fun v H3 e3 hv => ⟨by show 2 ≤ sizeLine; decide, fun p hp => by
    obtain ⟨r, vs, rfl, h1, h2⟩ := hv
    exact q _ _ ((e2.trans e3).trans (Ex.new hp)) ⟨p, r, vs, rfl, upd_same, (Ex.new hp) _ _ h1, h2.up (Ex.new hp)⟩⟩
end
section
variable {P : Program} {w : World} {K : PySem.W.Frag} {mg : Str → Option Value} {base : Heap}
def spStep (K : PySem.W.Frag) : Sp := fun vs H Q _ => ∃ (a hh : Addr) (x : V) (c : Int) (i : Nat) (es : List Ent) (rv : List V) (rs : List Rw), vs = [.ref a, .ref hh, x, .int c] ∧ SqL K H a rv ∧ Rows H rv rs ∧ SqL K H hh (homesV rs rs.length) ∧ AStand i es x H ∧
  i < rs.length ∧ rs.length ≤ 90000 ∧ Good rs ∧ StepOk rs i es ∧ es.length ≤ 900 ∧ Ret (AStand (goM rs i es c).1 (goM rs i es c).2) H Q
theorem ok_step (D : Dn K mg "_law_step" s_l_step ["_law_rows", "_law_home", "_law_standing", "_law_choice"]) (T : Blt mg) (h_l_lent : Has P w K mg base "_law_lent" 1 ["_law_held", "_law_row_here"] (spLent K)) (h_l_back : Has P w K mg base "_law_back" 1 ["_law_held", "_law_word_here"] (spBack K)) (h_l_starts : Has P w K mg base "_law_starts" 1 ["_law_rows", "_law_home", "_law_at"] (spStarts K)) (h_l_last : Has P w K mg base "_law_last" 1 ["_law_rows", "_law_home", "_law_at"] (spLast K)) : Has P w K mg base "_law_step" 2 ["_law_rows", "_law_home", "_law_standing", "_law_choice"] (spStep K) := by
  refine D.ok sc_l_step (fun vs H Q E h => ?_) (fun f cdv A outer st H vs Q E hr h => ?_)
  · obtain ⟨a, hh, x, c, i, es, rv, rs, rfl, _⟩ := h
    rfl
  · obtain ⟨a, hh, x, c, i, es, rv, rs, rfl, hS, hR, hM, hx, hi, hlen, g, ok, hes, q⟩ := h
    obtain ⟨px, pq, hv, rfl, hpx, hpq, hE⟩ := hx
    have hPx : SqT K H px [.int (i : Int), .ref pq] := st_of hpx
    have hHeld : AHeld es (.ref pq) H := ⟨pq, hv, rfl, hpq, hE⟩
    have hlr := hR.len
    have hgr := List.getElem?_eq_getElem hi
    obtain ⟨y, hy, hY⟩ := hR.get hgr
    generalize rs[i] = r at hgr hY
    obtain ⟨py, ys, rfl, hpy⟩ := hY.tup
    have hPy : SqT K H py (.str r.tag :: ys) := st_of hpy
    have hix : atI rv (i : Int) = some (.ref py) := atI_nat hy
    have hhx : atI (homesV rs rs.length) (i : Int) = some (.int (hm rs i)) := atI_nat (homesV_at hi)
    refine ⟨_, (pss_cons (ps_set (i := 4) sc_l_step.nd rfl (Or.inl rfl) (pe_ix (show IxR _ (rIxT K) from ix_tup) (pv 2) pe_int (fun _ _ => rfl))) (pss_cons (ps_set (i := 5) sc_l_step.nd rfl (Or.inl rfl) (pe_ix (show IxR _ (rIxT K) from ix_tup) (pv 2) pe_int (fun _ _ => rfl))) (pss_cons (ps_set (i := 6) sc_l_step.nd rfl (Or.inl rfl) (pe_ix (show IxR _ (rIxT K) from ix_tup) (pe_ix (show IxR _ (rIxL K) from ix_list) (pv 0) (pv 4) (fun _ _ => rfl)) pe_int (fun _ _ => rfl))) (pss_cons (ps_if (pt_cmpR op_eq (pv 6) pe_str (nomark _)) (pss_one (ps_set (i := 5) sc_l_step.nd rfl (Or.inl rfl) (pe_own h_l_lent (hr.mono (by decide)) (by rfl) (pa_cons (pv 5) (pa_cons (pe_ix (show IxR _ (rIxL K) from ix_list) (pv 0) (pv 4) (fun _ _ => rfl)) pa_nil))))) pss_nil) (pss_cons (ps_if (pt_cmpR op_eq (pv 6) pe_str (nomark _)) (pss_cons (ps_set (i := 7) sc_l_step.nd rfl (Or.inl rfl) (pe_ix (show IxR _ (rIxT K) from ix_tup) (pe_ix (show IxR _ (rIxL K) from ix_list) (pv 0) (pv 4) (fun _ _ => rfl)) pe_int (fun _ _ => rfl))) (pss_one (ps_set (i := 5) sc_l_step.nd rfl (Or.inl rfl) (pe_op (show OpR _ _ (rCatA K) from op_catA) (pv 5) (pe_tup (pa_cons (pe_tup (pa_cons (pe_ix (show IxR _ (rIxT K) from ix_tup) (pe_ix (show IxR _ (rIxL K) from ix_list) (pv 0) (pv 4) (fun _ _ => rfl)) pe_int (fun _ _ => rfl)) (pa_cons pe_str (pa_cons (pe_ix (show IxR _ (rIxT K) from ix_tup) (pv 7) (pe_op op_mod (pv 3) (pe_callB (show CallR _ _ (rLenS K) from call_len_seq) (by rfl) T.len_ (by decide +kernel) (pa_cons (pv 7) pa_nil))) (fun _ _ => rfl)) (pa_cons pe_str (pa_cons pe_bl pa_nil)))))) pa_nil)))))) pss_nil) (pss_cons (ps_if (pt_cmpR op_eq (pv 6) pe_str (nomark _)) (pss_one (ps_set (i := 5) sc_l_step.nd rfl (Or.inl rfl) (pe_own h_l_back (hr.mono (by decide)) (by rfl) (pa_cons (pv 5) (pa_cons (pe_ix (show IxR _ (rIxT K) from ix_tup) (pe_ix (show IxR _ (rIxL K) from ix_list) (pv 0) (pv 4) (fun _ _ => rfl)) pe_int (fun _ _ => rfl)) pa_nil))))) pss_nil) (pss_cons (ps_if (pt_cmpR op_eq (pv 6) pe_str (nomark _)) (pss_cons (ps_set (i := 8) sc_l_step.nd rfl (Or.inl rfl) (pe_own h_l_starts (hr.mono (by decide)) (by rfl) (pa_cons (pv 0) (pa_cons (pv 1) (pa_cons (pv 4) pa_nil))))) (pss_one (ps_ret (pe_tup (pa_cons (pe_ix (show IxR _ (rIxL K) from ix_list) (pv 8) (pe_op op_mod (pv 3) (pe_callB (show CallR _ _ (rLenS K) from call_len_seq) (by rfl) T.len_ (by decide +kernel) (pa_cons (pv 8) pa_nil))) (fun _ _ => rfl)) (pa_cons (pv 5) pa_nil)))))) pss_nil) (pss_cons (ps_if (pt_cmpR op_eq (pv 6) pe_str (nomark _)) (pss_one (ps_ret (pe_tup (pa_cons (pe_own h_l_last (hr.mono (by decide)) (by rfl) (pa_cons (pv 0) (pa_cons (pv 1) (pa_cons (pe_ix (show IxR _ (rIxL K) from ix_list) (pv 1) (pv 4) (fun _ _ => rfl)) pa_nil)))) (pa_cons (pv 5) pa_nil))))) pss_nil) (pss_cons (ps_if (PW.pt (pw_and (pt_cmpR op_eq (pv 6) pe_str (nomark _)) (pw_and1 (pt_cmpR op_eq (pe_op op_mod (pv 3) pe_int) pe_int (nomark _))))) (pss_one (ps_ret (pe_tup (pa_cons (pe_op op_add (pe_own h_l_last (hr.mono (by decide)) (by rfl) (pa_cons (pv 0) (pa_cons (pv 1) (pa_cons (pv 4) pa_nil)))) pe_int) (pa_cons (pv 5) pa_nil))))) pss_nil) (pss_cons (ps_if (PW.pt (pw_and (pt_cmpR op_eq (pv 6) pe_str (nomark _)) (pw_and1 (pt_cmpR op_eq (pe_ix (show IxR _ (rIxT K) from ix_tup) (pe_ix (show IxR _ (rIxL K) from ix_list) (pv 0) (pe_ix (show IxR _ (rIxL K) from ix_list) (pv 1) (pv 4) (fun _ _ => rfl)) (fun _ _ => rfl)) pe_int (fun _ _ => rfl)) pe_str (nomark _))))) (pss_one (ps_ret (pe_tup (pa_cons (pe_ix (show IxR _ (rIxL K) from ix_list) (pv 1) (pv 4) (fun _ _ => rfl)) (pa_cons (pv 5) pa_nil))))) pss_nil) (pss_cons (ps_if (PW.pt (pw_and (pt_cmpR op_eq (pv 6) pe_str (nomark _)) (pw_and1 (pt_cmpR op_ne (pe_ix (show IxR _ (rIxT K) from ix_tup) (pe_ix (show IxR _ (rIxL K) from ix_list) (pv 0) (pe_ix (show IxR _ (rIxL K) from ix_list) (pv 1) (pv 4) (fun _ _ => rfl)) (fun _ _ => rfl)) pe_int (fun _ _ => rfl)) pe_str (nomark _))))) (pss_one (ps_set (i := 5) sc_l_step.nd rfl (Or.inl rfl) (pe_slice sl_tupA (pv 5) po_none (po_some (pe_un un_neg pe_int))))) pss_nil) (pss_one (ps_ret (pe_tup (pa_cons (pe_op op_add (pv 4) pe_int) (pa_cons (pv 5) pa_nil)))))))))))))))), ?_⟩
    show (_ : L2.TS) _ [_, _, _, _, _, _, _, _, _] _
    refine' q_asg (v := .int (i : Int)) ?_ (fun H1 e1 => ?_)
    · walk_at "ev"
    show (_ : L2.TS) _ [_, _, _, _, _, _, _, _, _] _
    refine' q_asg (v := .ref pq) ?_ (fun H2 e2 => ?_)
    · walk_at "ev"
    show (_ : L2.TS) _ [_, _, _, _, _, _, _, _, _] _
    refine' q_asg (v := .str r.tag) ?_ (fun H3 e3 => ?_)
    · walk_at "ev"
    show (_ : L2.TS) _ [_, _, _, _, _, _, _, _, _] _
    have e03 : Ex H H3 := by walk_at "ex"
    have hS3 := ex_l e03 hS
    have hM3 := ex_l e03 hM
    have hR3 := hR.up e03
    have hY3 := hY.up e03
    have hPy3 := ex_t e03 hPy
    have hHeld3 := hHeld.up e03
    have q3 : Ret (AStand (goM rs i es c).1 (goM rs i es c).2) H3 Q := fun v H4 e4 h4 => q v H4 (e03.trans e4) h4
    clear e1 e2 e3 e03 hS hM hR hY hPy hHeld hPx hpx hpq hE q hpy
    unfold goM at q3
    rw [hgr] at q3
    cases r with
    | lend h k s =>
      have okl := ok.lend h k s hgr
      walk_at "hit"
      refine s_asgP (ep_lent (x := .ref pq) (y := .ref py) (h := h) (k := k) (s := s) ?_ (AHeld.up (by walk_at "ex") hHeld3) (IsRow.up (by walk_at "ex") hY3) okl.1 okl.2 (by omega)) (fun v4 H4 e4 hv4 => ?_)
      · walk_at "ev"
      dsimp only
      show (_ : L2.TS) _ [_, _, _, _, _, _, _, _, _] _
      walk_at "skip"
      walk_at "skip"
      walk_at "skip"
      walk_at "skip"
      walk_at "skip2"
      walk_at "skip2"
      walk_at "skip2"
      refine s_retP (ep_stand (i := (i : Int) + 1) ?_ (ep_heldvar rfl (AHeld.up (by walk_at "ex") hv4))) (fun v H9 e9 hv => q3 v H9 (by walk_at "ex") hv)
      walk_at "ev"
    | pick w ts =>
      have hts := ok.pick w ts hgr
      obtain ⟨p', q', hp1, hp2, hq2⟩ := id hY3
      cases hp1
      have hPp : SqT K H3 py [.str "pick", .str w, .ref q'] := st_of hp2
      have hPq : SqT K H3 q' (ts.map V.int) := st_of hq2
      have hidx : atI (ts.map V.int) (c % ((ts.map V.int).length : Int)) = some (.int (ts.getD (c % ts.length).toNat 0)) := by
        rw [List.length_map]
        exact at_ints ts (Int.emod_nonneg _ (by omega)) (Int.emod_lt_of_pos _ (by omega))
      have hposl : (0 : Int) < ((ts.map V.int).length : Int) := by rw [List.length_map]; omega
      walk_at "skip"
      walk_at "hit"
      refine q_asg (v := .ref q') (ev_ixT (ev_ixL (ev_var rfl) (ex_l (by walk_at "ex") hS3) (ev_var rfl) hix) (ex_t (by walk_at "ex") hPp) ev_c rfl) (fun H5 e5 => ?_)
      show (_ : L2.TS) _ [_, _, _, _, _, _, _, _, _] _
      refine s_asgP (ep_catT (es := es) (fs := [⟨w, "pick", ts.getD (c % ts.length).toNat 0, "", true⟩]) (ep_heldvar rfl (AHeld.up (by walk_at "ex") hHeld3)) (ep_one (ep_ent5 (ea_cons (ev_ixT (ev_ixL (ev_var rfl) (ex_l (by walk_at "ex") hS3) (ev_var rfl) hix) (ex_t (by walk_at "ex") hPp) ev_c rfl) (ea_cons ev_c (ea_cons (ev_ixT (ev_var rfl) (ex_t (by walk_at "ex") hPq) (ev_I (ev_var rfl) (ev_lenT (ev_var rfl) (ex_t (by walk_at "ex") hPq)) hposl) hidx) (ea_cons ev_c (ea_cons ev_c ea_nil))))))) (by show es.length + 1 ≤ 100000; omega)) (fun v4 H4 e4 hv4 => ?_)
      dsimp only
      show (_ : L2.TS) _ [_, _, _, _, _, _, _, _, _] _
      walk_at "skip"
      walk_at "skip"
      walk_at "skip"
      walk_at "skip2"
      walk_at "skip2"
      walk_at "skip2"
      refine s_retP (ep_stand (i := (i : Int) + 1) ?_ (ep_heldvar rfl (AHeld.up (by walk_at "ex") hv4))) (fun v H9 e9 hv => q3 v H9 (by walk_at "ex") hv)
      walk_at "ev"
    | back h =>
      obtain ⟨p', hp1, hp2⟩ := id hY3
      cases hp1
      have hPp : SqT K H3 py [.str "back", .str h] := st_of hp2
      walk_at "skip"
      walk_at "skip"
      walk_at "hit"
      refine s_asgP (ep_back (x := .ref pq) (u := h) ?_ (AHeld.up (by walk_at "ex") hHeld3) (by omega)) (fun v4 H4 e4 hv4 => ?_)
      · walk_at "ev"
      dsimp only
      show (_ : L2.TS) _ [_, _, _, _, _, _, _, _, _] _
      walk_at "skip"
      walk_at "skip"
      walk_at "skip2"
      walk_at "skip2"
      walk_at "skip2"
      refine s_retP (ep_stand (i := (i : Int) + 1) ?_ (ep_heldvar rfl (AHeld.up (by walk_at "ex") hv4))) (fun v H9 e9 hv => q3 v H9 (by walk_at "ex") hv)
      walk_at "ev"
    | either =>
      have hbi : atI (brV rs i rs.length) (c % ((brV rs i rs.length).length : Int)) = some (.int ((brI rs i rs.length).getD (c % (brI rs i rs.length).length).toNat 0)) := by
        rw [brV_I, List.length_map]
        exact at_ints _ (Int.emod_nonneg _ (by show ((((_ : List Int).length + 1 : Nat)) : Int) ≠ 0; omega)) (Int.emod_lt_of_pos _ (by show (0 : Int) < (((_ : List Int).length + 1 : Nat) : Int); omega))
      have hposl : (0 : Int) < ((brV rs i rs.length).length : Int) := by unfold brV; rw [List.length_cons]; omega
      walk_at "skip"
      walk_at "skip"
      walk_at "skip"
      walk_at "hit"
      refine q_asgL (xs := brV rs i rs.length) (el_starts (a := a) (hh := hh) (n := i) (rv := rv) (rs := rs) ?_ (ex_l (by walk_at "ex") hS3) (Rows.up (by walk_at "ex") hR3) (ex_l (by walk_at "ex") hM3) hi hlen) (fun ps H5 hps e5 h5 => ?_)
      · walk_at "ev"
      show (_ : L2.TS) _ [_, _, _, _, _, _, _, _, _] _
      refine s_retP (ep_stand (ev_ixL (ev_var rfl) (sq_of h5) (ev_I (ev_var rfl) (ev_len (ev_var rfl) (sq_of h5)) hposl) hbi) (ep_heldvar rfl (AHeld.up (by walk_at "ex") hHeld3))) (fun v H9 e9 hv => q3 v H9 (by walk_at "ex") hv)
    | or =>
      obtain ⟨b, hb⟩ := ok.or hgr
      have hlt := hm_lt (rs := rs) i
      walk_at "skip"
      walk_at "skip"
      walk_at "skip"
      walk_at "skip"
      walk_at "hit"
      rw [hb, Int.toNat_natCast] at q3
      rw [hb] at hhx
      refine s_retP (ep_stand (ev_last (a := a) (hh := hh) (n := b) (rv := rv) (rs := rs) ?_ (ex_l (by walk_at "ex") hS3) (Rows.up (by walk_at "ex") hR3) (ex_l (by walk_at "ex") hM3) (by omega) hlen) (ep_heldvar rfl (AHeld.up (by walk_at "ex") hHeld3))) (fun v H9 e9 hv => q3 v H9 (by walk_at "ex") hv)
      walk_at "ev"
    | again =>
      walk_at "skip"
      walk_at "skip"
      walk_at "skip"
      walk_at "skip"
      walk_at "skip"
      refine' q_when (b := true && decide (V.int (c % 2) = V.int 0)) ?_ (fun hb H9 e9 => ?_) (fun hb H9 e9 => ?_)
      · refine et_and (et_is (et_test (ev_eq (ev_var rfl) ev_c rfl)) rfl) (fun _ => ?_)
        walk_at "ev"
      · have hb := V.int.inj (of_decide_eq_true (by simpa using hb))
        rw [if_pos hb] at q3
        refine s_retP (ep_stand (i := endUp rs i rs.length + 1) (ev_I0 (i := endUp rs i rs.length) (j := 1) (ev_last (a := a) (hh := hh) (n := i) (rv := rv) (rs := rs) ?_ (ex_l (by walk_at "ex") hS3) (Rows.up (by walk_at "ex") hR3) (ex_l (by walk_at "ex") hM3) hi hlen) ev_c) (ep_heldvar rfl (AHeld.up (by walk_at "ex") hHeld3))) (fun v H9 e9 hv => q3 v H9 (by walk_at "ex") hv)
        walk_at "ev"
      · have hb : ¬ c % 2 = 0 := fun z => by
          rw [z] at hb
          cases hb
        rw [if_neg hb] at q3
        walk_at "skip2"
        walk_at "skip2"
        refine s_retP (ep_stand (i := (i : Int) + 1) ?_ (ep_heldvar rfl (AHeld.up (by walk_at "ex") hHeld3))) (fun v H9 e9 hv => q3 v H9 (by walk_at "ex") hv)
        walk_at "ev"
    | fin =>
      obtain ⟨b, t, hp1, hp2, hbi, z, hz, hzo⟩ := hm_fin g hgr rfl
      dsimp only at q3
      rw [hp2, Int.toNat_natCast, show rs.getD b .fin = z by rw [List.getD_eq_getElem?_getD, hz]; rfl] at q3
      rw [hp2] at hhx
      obtain ⟨y2, hy2, hY2⟩ := hR3.get hz
      obtain ⟨pz, zs, rfl, hpz⟩ := hY2.tup
      have hPz : SqT K H3 pz (.str z.tag :: zs) := st_of hpz
      have hizx : atI rv (b : Int) = some (.ref pz) := atI_nat hy2
      have ev_z : ∀ H9, Ex H3 H9 → ∀ σ9 : L2.St, σ9[0]? = some (some (.ref a)) → σ9[1]? = some (some (.ref hh)) → σ9[4]? = some (some (.int (i : Int))) → Ev (tOp (rIxT K) (tOp (rIxL K) (tVar 0) (tOp (rIxL K) (tVar 1) (tVar 4))) (tC (.int 0))) σ9 H9 (.str z.tag) := fun H9 e9 σ9 h0 h1 h4 =>
        ev_ixT (ev_ixL (ev_var h0) (ex_l e9 hS3) (ev_ixL (ev_var h1) (ex_l e9 hM3) (ev_var h4) hhx) hizx) (ex_t e9 hPz) ev_c atI_hd
      walk_at "skip"
      walk_at "skip"
      walk_at "skip"
      walk_at "skip"
      walk_at "skip"
      walk_at "skip2"
      cases hza : z.isAgain with
      | true =>
        have ez : z = .again := by cases z <;> first | rfl | cases hza
        subst ez
        rw [if_pos (show Rw.again.isAgain = true from rfl)] at q3
        refine q_when (b := true) (et_is (et_and (a := true) (b := true) (et_is (et_test (ev_eq (ev_var rfl) ev_c rfl)) rfl) (fun _ => et_is (et_test (ev_eq (ev_z _ (by walk_at "ex") _ rfl rfl rfl) ev_c rfl)) rfl)) rfl) (fun _ H9 e9 => ?_) (fun hb _ _ => by cases hb)
        refine s_retP (ep_stand (ev_ixL (ev_var rfl) (ex_l (by walk_at "ex") hM3) (ev_var rfl) hhx) (ep_heldvar rfl (AHeld.up (by walk_at "ex") hHeld3))) (fun v H9 e9 hv => q3 v H9 (by walk_at "ex") hv)
      | false =>
        have dz : decide (V.str z.tag = V.str "again") = false := by cases z <;> first | rfl | cases hza
        rw [hza, if_neg (by decide)] at q3
        refine q_when (b := false) (et_is (et_and (a := true) (b := false) (et_is (et_test (ev_eq (ev_var rfl) ev_c rfl)) rfl) (fun _ => et_is (et_test (ev_eq (ev_z _ (by walk_at "ex") _ rfl rfl rfl) ev_c rfl)) dz)) rfl) (fun hb _ _ => by cases hb) (fun _ H9 e9 => ?_)
        cases hze : z.isEither with
        | true =>
          have ez : z = .either := by cases z <;> first | rfl | cases hze
          subst ez
          rw [if_pos (show Rw.either.isEither = true from rfl)] at q3
          refine q_when (b := false) (et_is (et_and (a := true) (b := false) (et_is (et_test (ev_eq (ev_var rfl) ev_c rfl)) rfl) (fun _ => et_is (et_test (ev_ne (ev_z _ (by walk_at "ex") _ rfl rfl rfl) ev_c rfl)) rfl)) rfl) (fun hb _ _ => by cases hb) (fun _ Ha ea => ?_)
          refine s_retP (ep_stand (i := (i : Int) + 1) ?_ (ep_heldvar rfl (AHeld.up (by walk_at "ex") hHeld3))) (fun v H9 e9 hv => q3 v H9 (by walk_at "ex") hv)
          walk_at "ev"
        | false =>
          have dz2 : (!decide (V.str z.tag = V.str "either")) = true := by rw [tag_either, hze]; rfl
          rw [hze, if_neg (by decide)] at q3
          refine q_when (b := true) (et_is (et_and (a := true) (b := true) (et_is (et_test (ev_eq (ev_var rfl) ev_c rfl)) rfl) (fun _ => et_is (et_test (ev_ne (ev_z _ (by walk_at "ex") _ rfl rfl rfl) ev_c rfl)) dz2)) rfl) (fun _ Ha ea => ?_) (fun hb _ _ => by cases hb)
          refine s_asgP (ep_dropT (es := es) (ep_heldvar rfl (AHeld.up (by walk_at "ex") hHeld3)) (eo_some ?_)) (fun v4 H4 e4 hv4 => ?_)
          · walk_at "ev"
          dsimp only
          show (_ : L2.TS) _ [_, _, _, _, _, _, _, _, _] _
          refine s_retP (ep_stand (i := (i : Int) + 1) ?_ (ep_heldvar rfl hv4)) (fun v H9 e9 hv => q3 v H9 (by walk_at "ex") hv)
          walk_at "ev"
    | look h =>
      walk_at "skip"
      walk_at "skip"
      walk_at "skip"
      walk_at "skip"
      walk_at "skip"
      walk_at "skip2"
      walk_at "skip2"
      walk_at "skip2"
      refine s_retP (ep_stand (i := (i : Int) + 1) ?_ (ep_heldvar rfl (AHeld.up (by walk_at "ex") hHeld3))) (fun v H9 e9 hv => q3 v H9 (by walk_at "ex") hv)
      walk_at "ev"
    | change h =>
      walk_at "skip"
      walk_at "skip"
      walk_at "skip"
      walk_at "skip"
      walk_at "skip"
      walk_at "skip2"
      walk_at "skip2"
      walk_at "skip2"
      refine s_retP (ep_stand (i := (i : Int) + 1) ?_ (ep_heldvar rfl (AHeld.up (by walk_at "ex") hHeld3))) (fun v H9 e9 hv => q3 v H9 (by walk_at "ex") hv)
      walk_at "ev"
end
end BD
namespace BD
open PySem PySem.Spec PyProof.Rows L2 Evl
/-! ### a sheet is one: words, hands, branches -/
def Fresh (op : List Rw) (w : Str) : Prop := ∀ q ∈ op, q.named = true → q.word ≠ w
def Hand (op : List Rw) (w : Str) (k : Str → Prop) : Prop := ∃ q ∈ op, q.isLend = true ∧ q.word = w ∧ k q.kind
def Meant (op : List Rw) (w : Str) (k : Str) : Prop := ∃ q ∈ op, q.named = true ∧ q.word = w ∧ (k = "write" → q.isLend = true → q.kind = "write")
def OkRow (op : List Rw) : Rw → Prop
  | .lend h k s => Fresh op h ∧ (∀ u, s = .word u → Meant op u k) ∧ (op.filter Rw.isLend).length < 6
  | .pick w ts => Fresh op w ∧ 0 < ts.length ∧ (op.filter Rw.isPick).length < 3
  | .back h => Hand op h fun _ => True
  | .look h => Hand op h fun _ => True
  | .change h => Hand op h fun k => k = "write"
  | .or => op.getLast? = some .either
  | .fin => op ≠ []
  | _ => True
def VR : List Rw → List Rw → List Rw → Prop
  | op, [], op' => op = op'
  | op, r :: rs, op' => OkRow op r ∧ VR (opUpd op r) rs op'
theorem VR.app : ∀ {xs ys : List Rw} {op op1 op2 : List Rw}, VR op xs op1 → VR op1 ys op2 → VR op (xs ++ ys) op2
  | [], _, _, _, _, h, h2 => by
    cases h
    exact h2
  | _ :: _, _, _, _, _, h, h2 => ⟨h.1, VR.app h.2 h2⟩
/-! words at different depths differ -/
theorem mkS_inj {a b : List Nat} (h : mkS a = mkS b) : a = b := by
  have := congrArg (fun s : Str => s.cps.toList) h
  exact this
theorem word_ne {one two one' two' j j' : Int} {d : Draw} (ok : d.Ok) (h0 : 0 ≤ j) (h1 : j < 26) (h2 : 0 ≤ j') (h3 : j' < 26) (hne : j ≠ j') : wordM one two j d ≠ wordM one' two' j' d := by
  obtain ⟨st0, st4, sz1, sz12, pl0, pl1, sg0, sg26⟩ := ok
  intro h
  unfold wordM at h
  split at h
  · rw [mul_word (by omega), mul_word (by omega)] at h
    have := congrArg List.length (mkS_inj h)
    rw [List.length_replicate, List.length_replicate] at this
    omega
  · have hl := mkS_inj h
    have hp : d.place.toNat < d.size.toNat := by omega
    have e1 := congrArg (fun l : List Nat => l[d.place.toNat]?) hl
    simp only [List.getElem?_map, List.getElem?_range hp, Option.map_some, Option.some.injEq] at e1
    unfold chM at e1
    rw [if_pos (by omega), if_pos (by omega)] at e1
    omega
theorem wordM_ne_empty {one two j : Int} {d : Draw} (ok : d.Ok) (h0 : 0 ≤ j) (h1 : j ≤ 11) : wordM one two j d ≠ "" := by
  obtain ⟨l, hl, h2, _⟩ := wordM_s (one := one) (two := two) ok h0 h1
  rw [hl]
  intro h
  have e : (mkS l).length = ("" : Str).length := by rw [h]
  rw [mkS_len] at e
  have : ("" : Str).length = 0 := by decide +kernel
  omega
/-- the words of what is open: the j-th named one has a word of depth j -/
def WordsAt (d : Draw) (op : List Rw) : Prop := ∀ (j : Nat) (r : Rw), (op.filter Rw.named)[j]? = some r → ∃ one two, r.word = wordM one two (j : Int) d
theorem fresh_of {d : Draw} (ok : d.Ok) {op : List Rw} (h : WordsAt d op) (hl : (op.filter Rw.named).length ≤ 20) {one two deep : Int} (h0 : ((op.filter Rw.named).length : Int) ≤ deep) (h1 : deep < 26) : Fresh op (wordM one two deep d) := fun q hq hn => by
  have hm : q ∈ op.filter Rw.named := List.mem_filter.mpr ⟨hq, hn⟩
  obtain ⟨j, hj⟩ := List.getElem?_of_mem hm
  obtain ⟨o, t, e⟩ := h j q hj
  have hlt := (List.getElem?_eq_some_iff.mp hj).1
  rw [e]
  exact word_ne ok (by omega) (by omega) (by omega) h1 (by omega)
theorem wordsAt_push {d : Draw} {op : List Rw} {r : Rw} (h : WordsAt d op) (hr : r.named = true → ∃ one two, r.word = wordM one two ((op.filter Rw.named).length : Int) d) : WordsAt d (op ++ [r]) := fun j q hq => by
  rw [List.filter_append] at hq
  by_cases hj : j < (op.filter Rw.named).length
  · rw [List.getElem?_append_left hj] at hq
    exact h j q hq
  · rw [List.getElem?_append_right (by omega)] at hq
    cases hn : r.named with
    | true =>
      rw [List.filter_cons, if_pos hn] at hq
      have hlt := (List.getElem?_eq_some_iff.mp hq).1
      have ej : j - (op.filter Rw.named).length = 0 := by
        have : ([r] : List Rw).length = 1 := rfl
        have h5 : j - (op.filter Rw.named).length < 1 := hlt
        omega
      rw [ej] at hq
      have eq : r = q := Option.some.inj hq
      subst eq
      obtain ⟨o, t, e⟩ := hr hn
      exact ⟨o, t, by rw [e, show (j : Int) = ((op.filter Rw.named).length : Int) by omega]⟩
    | false =>
      rw [List.filter_cons, if_neg (by rw [hn]; decide)] at hq
      cases hq
theorem wordsAt_drop {d : Draw} {op : List Rw} (h : WordsAt d op) : WordsAt d op.dropLast := by
  cases hop : op.reverse with
  | nil =>
    have e : op = [] := List.reverse_eq_nil_iff.mp hop
    subst e
    exact h
  | cons a t =>
    have e : op = t.reverse ++ [a] := by
      have := congrArg List.reverse hop
      rw [List.reverse_reverse, List.reverse_cons] at this
      exact this
    subst e
    rw [List.dropLast_concat]
    intro j r hj
    refine h j r ?_
    rw [List.filter_append, List.getElem?_append_left (List.getElem?_eq_some_iff.mp hj).1]
    exact hj
theorem wordsAt_upd {d : Draw} {op : List Rw} {r : Rw} (h : WordsAt d op) (hr : r.named = true → ∃ one two, r.word = wordM one two ((op.filter Rw.named).length : Int) d) : WordsAt d (opUpd op r) := by
  unfold opUpd
  split
  · exact wordsAt_push h hr
  split
  · exact wordsAt_drop h
  · exact h
theorem lendM_word (one two : Int) (named : List Rw) (d : Draw) : (lendM one two named d).word = wordM one two named.length d := by
  unfold lendM
  split <;> rfl
theorem rowM_word {op : List Rw} {way one two : Int} {d : Draw} (hn : (rowM way one two op d).named = true) : ∃ o t, (rowM way one two op d).word = wordM o t ((op.filter Rw.named).length : Int) d := by
  have hd : (deedM one two ((op.filter Rw.named).filter Rw.isLend)).named = false := by
    have := deedM_not one two ((op.filter Rw.named).filter Rw.isLend)
    generalize deedM one two ((op.filter Rw.named).filter Rw.isLend) = r at *
    cases r <;> simp_all [Rw.opens, Rw.named, Rw.isFin]
  unfold rowM rowN at hn ⊢
  split at hn
  · rename_i h; rw [if_pos h]; exact ⟨one, two, lendM_word _ _ _ _⟩
  rename_i h; rw [if_neg h]
  split at hn
  · rename_i h; rw [if_pos h]; exact ⟨one, two, rfl⟩
  rename_i h; rw [if_neg h]
  split at hn
  · cases hn
  split at hn
  · cases hn
  split at hn
  · cases hn
  split at hn
  · rw [hd] at hn; cases hn
  split at hn
  · cases hn
  rename_i h1 h2 h3 h4 h5
  rw [if_neg h1, if_neg h2, if_neg h3, if_neg h4, if_neg h5]
  exact ⟨one, two, lendM_word _ _ _ _⟩
end BD
namespace BD
open PySem PySem.Spec PyProof.Rows L2 Evl
/-! ### each drawn sheet is one -/
theorem kind_write {x : Int} : kindM x = "write" → True := fun _ => trivial
theorem read_ne_write : ¬ (("read" : Str) = "write") := by decide +kernel
/-- a lend of the law's -/
theorem lendM_ok {one two : Int} {op : List Rw} {d : Draw} (ok : d.Ok) (hw : WordsAt d op) (hf : Few op) (hk : ∀ r ∈ op, RowS r) (h6 : (op.filter Rw.isLend).length < 6) : OkRow op (lendM one two (op.filter Rw.named) d) := by
  have hn := hf.named
  have hfr : Fresh op (wordM one two ((op.filter Rw.named).length : Int) d) := fresh_of ok hw (by omega) (Int.le_refl _) (by omega)
  unfold lendM
  split
  · rename_i h
    have hm : (op.filter Rw.named).getD (two % (op.filter Rw.named).length).toNat .fin ∈ op.filter Rw.named := getD_mem (by
      have := Int.emod_lt_of_pos two h.2
      have := Int.emod_nonneg two (show ((op.filter Rw.named).length : Int) ≠ 0 by omega)
      omega)
    generalize (op.filter Rw.named).getD (two % (op.filter Rw.named).length).toNat .fin = q at *
    have hq := List.mem_filter.mp hm
    refine ⟨hfr, fun u hu => ?_, h6⟩
    cases hu
    refine ⟨q, hq.1, hq.2, rfl, fun hkw hl => ?_⟩
    split at hkw
    · exact absurd hkw read_ne_write
    · rename_i h2
      have hs := hk q hq.1
      cases q with
      | lend a b c =>
        rcases hs.2.1 with hb | hb
        · exact absurd ⟨rfl, hb⟩ h2
        · exact hb
      | _ => cases hl
  · exact ⟨hfr, fun u hu => (by cases hu), h6⟩
theorem deedM_ok {one two : Int} {op hands : List Rw} (hh : hands = (op.filter Rw.named).filter Rw.isLend) (hk : ∀ r ∈ op, RowS r) (hl : 0 < hands.length) : OkRow op (deedM one two hands) := by
  have hm : hands.getD (two % hands.length).toNat .fin ∈ hands := getD_mem (by
    have := Int.emod_lt_of_pos two (show (0 : Int) < hands.length by omega)
    have := Int.emod_nonneg two (show (hands.length : Int) ≠ 0 by omega)
    omega)
  unfold deedM
  generalize hands.getD (two % hands.length).toNat .fin = q at *
  rw [hh] at hm
  have hq2 := List.mem_filter.mp hm
  have hq := List.mem_filter.mp hq2.1
  split
  · exact ⟨q, hq.1, hq2.2, rfl, trivial⟩
  split
  · exact ⟨q, hq.1, hq2.2, rfl, trivial⟩
  split
  · exact ⟨q, hq.1, hq2.2, rfl, trivial⟩
  · rename_i h
    refine ⟨q, hq.1, hq2.2, rfl, ?_⟩
    have hs := hk q hq.1
    have hl2 := hq2.2
    cases q with
    | lend a b c =>
      rcases hs.2.1 with hb | hb
      · exact absurd hb h
      · exact hb
    | _ => cases hl2
theorem getLast_getD {op : List Rw} (h : 0 < op.length) : op.getLast? = some (op.getD (op.length - 1) .fin) := by
  rw [List.getLast?_eq_getElem?, List.getD_eq_getElem?_getD, List.getElem?_eq_getElem (by omega)]
  rfl
theorem rowM_ok {way one two : Int} {op : List Rw} {d : Draw} (ok : d.Ok) (hw : WordsAt d op) (hf : Few op) (hk : ∀ r ∈ op, RowS r) : OkRow op (rowM way one two op d) := by
  have hn := hf.named
  have hnl := named_len op
  unfold rowM
  have hll : ((op.filter Rw.named).filter Rw.isLend).length = (op.filter Rw.isLend).length := by rw [lend_of_named]
  unfold rowN
  split
  · rename_i h
    exact lendM_ok ok hw hf hk (by omega)
  split
  · rename_i h
    refine ⟨fresh_of ok hw (by omega) (Int.le_refl _) (by omega), ?_, by omega⟩
    rw [List.length_map, List.length_range]
    omega
  split
  · trivial
  split
  · trivial
  split
  · rename_i h
    show op.getLast? = some .either
    rw [getLast_getD (by omega)]
    have h2 := h.2.2
    generalize op.getD (op.length - 1) .fin = q at *
    cases q <;> first | rfl | cases h2
  split
  · rename_i h
    exact deedM_ok rfl hk (by omega)
  split
  · rename_i h
    intro z
    rw [z] at h
    exact absurd h (by decide)
  · rename_i h
    refine lendM_ok ok hw hf hk ?_
    cases op with
    | nil => decide
    | cons a b => exact absurd (by show (0 : Int) < ((b.length + 1 : Nat) : Int); omega) h
/-! a gadget -/
theorem fresh_app {op : List Rw} {r : Rw} {w : Str} (h : Fresh op w) (hr : r.named = true → r.word ≠ w) : Fresh (op ++ [r]) w := fun q hq hn => by
  rcases List.mem_append.mp hq with hq | hq
  · exact h q hq hn
  · rcases List.mem_singleton.mp hq with rfl
    exact hr hn
theorem hand_last {op : List Rw} {h k : Str} {s : Src} {p : Str → Prop} (hp : p k) : Hand (op ++ [.lend h k s]) h p := ⟨_, List.mem_append.mpr (.inr List.mem_cons_self), rfl, rfl, hp⟩
theorem hand_app {op : List Rw} {r : Rw} {w : Str} {p : Str → Prop} (h : Hand op w p) : Hand (op ++ [r]) w p := by
  obtain ⟨q, h1, h2⟩ := h
  exact ⟨q, List.mem_append.mpr (.inl h1), h2⟩
theorem meant_last {op : List Rw} {r : Rw} {k : Str} (hn : r.named = true) (hk : k = "write" → r.isLend = true → r.kind = "write") : Meant (op ++ [r]) r.word k := ⟨r, List.mem_append.mpr (.inr List.mem_cons_self), hn, rfl, hk⟩
theorem meant_app {op : List Rw} {r : Rw} {w k : Str} (h : Meant op w k) : Meant (op ++ [r]) w k := by
  obtain ⟨q, h1, h2⟩ := h
  exact ⟨q, List.mem_append.mpr (.inl h1), h2⟩
theorem lends_app (op : List Rw) (r : Rw) : ((op ++ [r]).filter Rw.isLend).length = (op.filter Rw.isLend).length + (if r.isLend = true then 1 else 0) := by
  rw [List.filter_append, List.length_append, List.filter_cons]
  split <;> rfl
theorem picks_app (op : List Rw) (r : Rw) : ((op ++ [r]).filter Rw.isPick).length = (op.filter Rw.isPick).length + (if r.isPick = true then 1 else 0) := by
  rw [List.filter_append, List.length_append, List.filter_cons]
  split <;> rfl
theorem VR.lendT {op op' rs : List Rw} {h k : Str} {n : Int} (f : Fresh op h) (l : (op.filter Rw.isLend).length < 6) (t : VR (op ++ [.lend h k (.thing n)]) rs op') : VR op (.lend h k (.thing n) :: rs) op' := ⟨⟨f, fun u hu => (by cases hu), l⟩, t⟩
theorem VR.lendW {op op' rs : List Rw} {h k u : Str} (f : Fresh op h) (m : Meant op u k) (l : (op.filter Rw.isLend).length < 6) (t : VR (op ++ [.lend h k (.word u)]) rs op') : VR op (.lend h k (.word u) :: rs) op' := ⟨⟨f, fun v hv => (by cases hv; exact m), l⟩, t⟩
theorem VR.pickR {op op' rs : List Rw} {w : Str} {ts : List Int} (f : Fresh op w) (p : 0 < ts.length) (l : (op.filter Rw.isPick).length < 3) (t : VR (op ++ [.pick w ts]) rs op') : VR op (.pick w ts :: rs) op' := ⟨⟨f, p, l⟩, t⟩
theorem VR.againR {op op' rs : List Rw} (t : VR (op ++ [.again]) rs op') : VR op (.again :: rs) op' := ⟨trivial, t⟩
theorem VR.eitherR {op op' rs : List Rw} (t : VR (op ++ [.either]) rs op') : VR op (.either :: rs) op' := ⟨trivial, t⟩
theorem VR.lookR {op op' rs : List Rw} {h : Str} (a : Hand op h fun _ => True) (t : VR op rs op') : VR op (.look h :: rs) op' := ⟨a, t⟩
theorem VR.backR {op op' rs : List Rw} {h : Str} (a : Hand op h fun _ => True) (t : VR op rs op') : VR op (.back h :: rs) op' := ⟨a, t⟩
theorem VR.orR {op op' rs : List Rw} (t : VR (op ++ [.either]) rs op') : VR (op ++ [.either]) (.or :: rs) op' := ⟨by show (op ++ [Rw.either]).getLast? = _; rw [List.getLast?_concat], t⟩
theorem VR.finR {op op' rs : List Rw} {r : Rw} (t : VR op rs op') : VR (op ++ [r]) (.fin :: rs) op' := ⟨(by show op ++ [r] ≠ []; simp), by
  show VR (opUpd (op ++ [r]) .fin) rs op'
  have e : opUpd (op ++ [r]) .fin = op := by
    unfold opUpd
    rw [if_neg (by decide), if_pos (show Rw.fin.isFin = true from rfl), List.dropLast_concat]
  rw [e]
  exact t⟩
theorem VR.nilR {op : List Rw} : VR op [] op := rfl
theorem gad_vr {op : List Rw} {one two t : Int} {a b c : Str} (fa : Fresh op a) (fb : Fresh op b) (fc : Fresh op c) (ab : a ≠ b) (ac : a ≠ c) (bc : b ≠ c) (hl : (op.filter Rw.isLend).length ≤ 2) (hp : (op.filter Rw.isPick).length ≤ 2) : VR op (gadA one two a b c t) op := by
  have ww : ∀ {k : Str}, k = "write" → ("write" : Str) = "write" := fun _ => rfl
  unfold gadA
  split
  · unfold fourM
    split
    · exact VR.lendT fa (by first | omega | (simp only [lends_app, Rw.isLend, if_true, if_false, Bool.false_eq_true]; omega)) (VR.againR (VR.lookR (hand_app (hand_last trivial)) (VR.backR (hand_app (hand_last trivial)) (VR.finR (VR.finR VR.nilR)))))
    split
    · exact VR.lendT fa (by first | omega | (simp only [lends_app, Rw.isLend, if_true, if_false, Bool.false_eq_true]; omega)) (VR.eitherR (VR.backR (hand_app (hand_last trivial)) (VR.orR (VR.lookR (hand_app (hand_last trivial)) (VR.finR (VR.lookR (hand_last trivial) (VR.finR VR.nilR)))))))
    split
    · refine VR.lendT fa (by first | omega | (simp only [lends_app, Rw.isLend, if_true, if_false, Bool.false_eq_true]; omega)) (VR.lendW (fresh_app fb fun _ => ab) (meant_last (r := .lend a "write" (.thing t)) rfl fun _ _ => rfl) (by first | omega | (simp only [lends_app, Rw.isLend, if_true, if_false, Bool.false_eq_true]; omega)) (VR.lendW (fresh_app (fresh_app fc fun _ => ac) fun _ => bc) (meant_last (r := .lend b "write" (.word a)) rfl fun _ _ => rfl) (by first | omega | (simp only [lends_app, Rw.isLend, if_true, if_false, Bool.false_eq_true]; omega)) (VR.backR ?_ (VR.lookR ?_ (VR.finR (VR.finR (VR.finR VR.nilR)))))))
      · exact pick3_s (p := fun w => Hand _ w _) two (hand_app (hand_app (hand_last trivial))) (hand_app (hand_last trivial)) (hand_app (hand_app (hand_last trivial)))
      · exact pick3_s (p := fun w => Hand _ w _) one (hand_last trivial) (hand_last trivial) (hand_app (hand_last trivial))
    · exact VR.lendT fa (by first | omega | (simp only [lends_app, Rw.isLend, if_true, if_false, Bool.false_eq_true]; omega)) (VR.lendW (fresh_app fb fun _ => ab) (meant_last (r := .lend a "write" (.thing t)) rfl fun _ _ => rfl) (by first | omega | (simp only [lends_app, Rw.isLend, if_true, if_false, Bool.false_eq_true]; omega)) (VR.lendT (fresh_app (fresh_app fc fun _ => ac) fun _ => bc) (by first | omega | (simp only [lends_app, Rw.isLend, if_true, if_false, Bool.false_eq_true]; omega)) (VR.againR (VR.backR (hand_app (hand_app (hand_last trivial))) (VR.finR (VR.finR (VR.finR (VR.finR VR.nilR))))))))
  split
  · exact VR.pickR fc (by show 0 < 5; decide) (by first | omega | (simp only [picks_app, Rw.isPick, if_true, if_false, Bool.false_eq_true]; omega)) (VR.lendT (fresh_app fa fun _ => ac.symm) (by first | omega | (simp only [lends_app, Rw.isLend, if_true, if_false, Bool.false_eq_true]; omega)) (VR.lendW (fresh_app (fresh_app fb fun _ => bc.symm) fun _ => ab) (meant_app (meant_last (r := .pick c _) rfl fun _ z => (by cases z))) (by first | omega | (simp only [lends_app, Rw.isLend, if_true, if_false, Bool.false_eq_true]; omega)) (VR.finR (VR.finR (VR.finR VR.nilR)))))
  split
  · refine VR.lendT fa (by first | omega | (simp only [lends_app, Rw.isLend, if_true, if_false, Bool.false_eq_true]; omega)) (VR.lendW (fresh_app fb fun _ => ab) (meant_last (r := .lend a "write" (.thing t)) rfl fun _ _ => rfl) (by first | omega | (simp only [lends_app, Rw.isLend, if_true, if_false, Bool.false_eq_true]; omega)) (VR.eitherR (VR.backR ?_ (VR.orR (VR.lookR (hand_app (hand_last trivial)) (VR.finR (VR.lookR (hand_app (hand_last trivial)) (VR.finR (VR.finR VR.nilR)))))))))
    exact pick2_s (p := fun w => Hand _ w _) two (hand_app (hand_app (hand_last trivial))) (hand_app (hand_last trivial))
  split
  · exact VR.lendT fa (by first | omega | (simp only [lends_app, Rw.isLend, if_true, if_false, Bool.false_eq_true]; omega)) (VR.lendT (fresh_app fb fun _ => ab) (by first | omega | (simp only [lends_app, Rw.isLend, if_true, if_false, Bool.false_eq_true]; omega)) (VR.lendT (fresh_app (fresh_app fc fun _ => ac) fun _ => bc) (by first | omega | (simp only [lends_app, Rw.isLend, if_true, if_false, Bool.false_eq_true]; omega)) (VR.lookR (hand_app (hand_last trivial)) (VR.finR (VR.finR (VR.finR VR.nilR))))))
  split
  · exact VR.lendT fa (by first | omega | (simp only [lends_app, Rw.isLend, if_true, if_false, Bool.false_eq_true]; omega)) (VR.backR (hand_last trivial) (VR.lendW (fresh_app fb fun _ => ab) (meant_last (r := .lend a "write" (.thing t)) rfl fun _ _ => rfl) (by first | omega | (simp only [lends_app, Rw.isLend, if_true, if_false, Bool.false_eq_true]; omega)) (VR.lookR (hand_last trivial) (VR.finR (VR.finR VR.nilR)))))
  · exact VR.pickR fc (by show 0 < 2; decide) (by first | omega | (simp only [picks_app, Rw.isPick, if_true, if_false, Bool.false_eq_true]; omega)) (VR.lendT (fresh_app fa fun _ => ac.symm) (by first | omega | (simp only [lends_app, Rw.isLend, if_true, if_false, Bool.false_eq_true]; omega)) (VR.eitherR (VR.backR (hand_app (hand_last trivial)) (VR.orR (VR.finR (VR.lendW (fresh_app (fresh_app fb fun _ => bc.symm) fun _ => ab) (meant_app (meant_last (r := .pick c _) rfl fun _ z => (by cases z))) (by first | omega | (simp only [lends_app, Rw.isLend, if_true, if_false, Bool.false_eq_true]; omega)) (VR.lookR (hand_app (hand_last trivial)) (VR.finR (VR.finR (VR.finR VR.nilR))))))))))
theorem wordsAt_st {cells : List Int} {d : Draw} {most : Int} {odd : Bool} : ∀ i, WordsAt d (sheetSt cells d most odd i).2
  | 0 => fun j r h => by cases h
  | i + 1 => by
    have ih := wordsAt_st (cells := cells) (d := d) (most := most) (odd := odd) i
    unfold sheetSt stepM
    split
    · exact ih
    · exact wordsAt_upd ih rowM_word
theorem vr_st {cells : List Int} {d : Draw} {most : Int} {odd : Bool} (ok : d.Ok) : ∀ i, VR [] (sheetSt cells d most odd i).1 (sheetSt cells d most odd i).2
  | 0 => rfl
  | i + 1 => by
    have ih := vr_st (cells := cells) (most := most) (odd := odd) ok i
    have hw := wordsAt_st (cells := cells) (d := d) (most := most) (odd := odd) i
    have hf := few_st cells d most odd i
    have hs := (st_s (cells := cells) (most := most) (odd := odd) ok i).2
    have hn := hf.named
    have hnl := named_len (sheetSt cells d most odd i).2
    unfold sheetSt stepM
    split
    · rename_i h
      refine VR.app ih ?_
      exact gad_vr (fresh_of ok hw (by omega) (Int.le_refl _) (by omega)) (fresh_of ok hw (by omega) (by omega) (by omega)) (fresh_of ok hw (by omega) (by omega) (by omega))
        (word_ne ok (by omega) (by omega) (by omega) (by omega) (by omega)) (word_ne ok (by omega) (by omega) (by omega) (by omega) (by omega)) (word_ne ok (by omega) (by omega) (by omega) (by omega) (by omega)) (by omega) (by omega)
    · exact VR.app ih ⟨rowM_ok ok hw hf hs, rfl⟩
theorem vr_fins : ∀ (n : Nat) (op : List Rw), op.length = n → VR op ((List.range n).map fun _ => Rw.fin) []
  | 0, op, h => List.length_eq_zero_iff.mp h
  | n + 1, op, h => by
    have hne : op ≠ [] := fun z => by rw [z] at h; cases h
    rw [List.range_succ_eq_map, List.map_cons, List.map_map]
    rw [← List.dropLast_concat_getLast hne]
    exact VR.finR (vr_fins n op.dropLast (by rw [List.length_dropLast]; omega))
theorem vr_drawn (ns : List Int) (most : Int) : VR [] (drawnM ns most) [] := by
  have h : VR [] (baseM ns most) [] := by
    have := vr_st (cells := cellsM ns most) (most := mostM (wayM ns)) (odd := decide (3 < wayM ns)) (drawM_ok ns) ((cellsM ns most).length / 3)
    exact VR.app this (vr_fins _ _ rfl)
  unfold drawnM
  split
  · exact VR.app (VR.app (VR.app h h) h) h
  · exact h
end BD
namespace BD
open PySem PySem.Spec PyProof.Rows L2 Evl
/-! ### the stack by rows -/
def opL (rs : List Rw) : Nat → List Rw
  | 0 => []
  | i + 1 => match rs[i]? with
    | some r => opUpd (opL rs i) r
    | none => opL rs i
theorem opL_next {rs : List Rw} {i : Nat} {r : Rw} (h : rs[i]? = some r) : opL rs (i + 1) = opUpd (opL rs i) r := by
  show (match rs[i]? with
    | some r => opUpd (opL rs i) r
    | none => opL rs i) = _
  rw [h]
theorem vr_at {op' : List Rw} : ∀ {rs : List Rw} {op : List Rw}, VR op rs op' → ∀ (i : Nat) (r : Rw), rs[i]? = some r → ∃ opi, OkRow opi r ∧ VR (opUpd opi r) (rs.drop (i + 1)) op' ∧ (i = 0 → opi = op)
  | [], _, _, i, r, h => by simp at h
  | a :: rs, op, hv, 0, r, h => by
    have e : a = r := Option.some.inj h
    subst e
    exact ⟨op, hv.1, hv.2, fun _ => rfl⟩
  | a :: rs, op, hv, i + 1, r, h => by
    obtain ⟨opi, h1, h2, _⟩ := vr_at hv.2 i r h
    exact ⟨opi, h1, h2, fun z => by cases z⟩
theorem vr_opL {rs op' : List Rw} (hv : VR [] rs op') : ∀ i, i ≤ rs.length → VR (opL rs i) (rs.drop i) op'
  | 0, _ => hv
  | i + 1, h => by
    have hlt : i < rs.length := h
    have ih := vr_opL hv i (by omega)
    rw [List.drop_eq_getElem_cons hlt] at ih
    rw [opL_next (List.getElem?_eq_getElem hlt)]
    exact ih.2
theorem vr_ok {rs op' : List Rw} (hv : VR [] rs op') {i : Nat} {r : Rw} (h : rs[i]? = some r) : OkRow (opL rs i) r := by
  have hlt := (List.getElem?_eq_some_iff.mp h).1
  have ih := vr_opL hv i (by omega)
  rw [List.drop_eq_getElem_cons hlt, (List.getElem?_eq_some_iff.mp h).2] at ih
  exact ih.1
theorem vr_last {rs op' : List Rw} (hv : VR [] rs op') : opL rs rs.length = op' := by
  have := vr_opL hv rs.length (Nat.le_refl _)
  rw [List.drop_length] at this
  exact this
theorem opL_pr {rs : List Rw} (g : Good rs) : ∀ i, i ≤ rs.length → opL rs i = (pr rs i).reverse.map fun j => rs.getD j .fin
  | 0, _ => rfl
  | i + 1, h => by
    have hlt : i < rs.length := h
    have hg := List.getElem?_eq_getElem hlt
    have ih := opL_pr g i (by omega)
    rw [opL_next hg, pr_next hg, ih]
    unfold opUpd
    split
    · rw [List.reverse_cons, List.map_append]
      congr 1
      show [rs[i]] = [rs.getD i .fin]
      rw [List.getD_eq_getElem?_getD, hg]
      rfl
    split
    · rename_i h1 h2
      cases hp : pr rs i with
      | nil => exact absurd hp (g.fin i _ hg h2)
      | cons a t =>
        rw [List.reverse_cons, List.map_append]
        show (_ ++ [_]).dropLast = _
        rw [List.dropLast_concat]
        rfl
    · rfl
/-! ### where a block ends -/
theorem pr_suffix {rs : List Rw} {i : Nat} : ∀ p, i ∈ pr rs p → ∃ l, pr rs p = l ++ i :: pr rs i
  | 0, h => by cases h
  | p + 1, h => by
    cases hg : rs[p]? with
    | none =>
      have e : pr rs (p + 1) = pr rs p := by
        show (match rs[p]? with
          | some r => if r.opens = true then p :: pr rs p else if r.isFin = true then (pr rs p).tail else pr rs p
          | none => pr rs p) = _
        rw [hg]
      rw [e] at h ⊢
      exact pr_suffix p h
    | some r =>
      rw [pr_next hg] at h ⊢
      split
      · rename_i ho
        rw [if_pos ho] at h
        rcases List.mem_cons.mp h with h | h
        · subst h
          exact ⟨[], rfl⟩
        · obtain ⟨l, hl⟩ := pr_suffix p h
          exact ⟨p :: l, by rw [hl]; rfl⟩
      · rename_i ho
        rw [if_neg ho] at h
        split
        · rename_i hf
          rw [if_pos hf] at h
          obtain ⟨l, hl⟩ := pr_suffix p (List.mem_of_mem_tail h)
          cases l with
          | nil =>
            rw [hl] at h
            have h2 : i ∈ pr rs i := h
            have := (pr_mem i i h2).1
            omega
          | cons a l => exact ⟨l, by rw [hl]; rfl⟩
        · rename_i hf
          rw [if_neg hf] at h
          exact pr_suffix p h
theorem leaves {rs : List Rw} {i : Nat} : ∀ (k p : Nat), p + k = rs.length → i ∈ pr rs p → i ∉ pr rs rs.length → ∃ e, p ≤ e ∧ e < rs.length ∧ i ∈ pr rs e ∧ i ∉ pr rs (e + 1)
  | 0, p, hk, h, hn => by
    rw [← hk] at hn
    exact absurd h hn
  | k + 1, p, hk, h, hn => by
    by_cases h2 : i ∈ pr rs (p + 1)
    · obtain ⟨e, h3, h4, h5, h6⟩ := leaves k (p + 1) (by omega) h2 hn
      exact ⟨e, by omega, h4, h5, h6⟩
    · exact ⟨p, Nat.le_refl _, by omega, h, h2⟩
structure EndOf (rs : List Rw) (i e : Nat) : Prop where
  gt : i < e
  lt : e < rs.length
  fin : ∃ r, rs[e]? = some r ∧ r.isFin = true
  st : pr rs e = i :: pr rs i
  up : endUp rs i rs.length = (e : Int)
theorem end_of {rs : List Rw} (g : Good rs) {i : Nat} {r : Rw} (h : rs[i]? = some r) (ho : r.opens = true) : ∃ e, EndOf rs i e := by
  have hil := (List.getElem?_eq_some_iff.mp h).1
  have h1 : i ∈ pr rs (i + 1) := by
    rw [pr_next h, if_pos ho]
    exact List.mem_cons_self
  have hn : i ∉ pr rs rs.length := by
    rw [g.last]
    exact fun z => by cases z
  obtain ⟨e, h2, h3, h4, h5⟩ := leaves (rs.length - (i + 1)) (i + 1) (by omega) h1 hn
  have hg := List.getElem?_eq_getElem h3
  rw [pr_next hg] at h5
  have hno : ¬ rs[e].opens = true := fun z => by
    rw [if_pos z] at h5
    exact h5 (List.mem_cons_of_mem _ h4)
  rw [if_neg hno] at h5
  have hf : rs[e].isFin = true := by
    cases hf : rs[e].isFin with
    | true => rfl
    | false =>
      rw [hf, if_neg (by decide)] at h5
      exact absurd h4 h5
  rw [if_pos hf] at h5
  obtain ⟨l, hl⟩ := pr_suffix e h4
  cases l with
  | cons a l =>
    rw [hl] at h5
    exact absurd (List.mem_append.mpr (.inr List.mem_cons_self)) h5
  | nil =>
    have hst : pr rs e = i :: pr rs i := hl
    have hhm : hm rs e = (i : Int) := by unfold hm; rw [hst]
    exact ⟨e, by omega, h3, ⟨_, hg, hf⟩, hst, endUp_stay (by rw [finF_at hg, hf, hhm, decide_eq_true rfl]; rfl) (first_end g hg hst) rs.length h3⟩
/-- an end's own opener -/
theorem end_at {rs : List Rw} (g : Good rs) {e : Nat} {r : Rw} (h : rs[e]? = some r) (hf : r.isFin = true) : ∃ (i : Nat) (q : Rw), rs[i]? = some q ∧ q.opens = true ∧ hm rs e = (i : Int) ∧ EndOf rs i e := by
  obtain ⟨i, t, h1, h2, h3, q, hq, ho⟩ := hm_fin g h hf
  have hel := (List.getElem?_eq_some_iff.mp h).1
  have hm' : i ∈ pr rs e := by rw [h1]; exact List.mem_cons_self
  obtain ⟨l, hl⟩ := pr_suffix e hm'
  have hst : pr rs e = i :: pr rs i := by
    cases l with
    | nil => exact hl
    | cons a l =>
      rw [h1] at hl
      have hnd := pr_nodup (rs := rs) e
      rw [h1] at hnd
      injection hl with ha hb
      rw [hb] at hnd
      exact absurd (List.mem_append.mpr (.inr List.mem_cons_self)) (List.nodup_cons.mp hnd).1
  exact ⟨i, q, hq, ho, h2, h3, hel, ⟨r, h, hf⟩, hst, endUp_stay (by rw [finF_at h, hf, h2, decide_eq_true rfl]; rfl) (first_end g h hst) rs.length hel⟩
theorem EndOf.next {rs : List Rw} {i e : Nat} (h : EndOf rs i e) : pr rs (e + 1) = pr rs i := by
  obtain ⟨r, h1, h2⟩ := h.fin
  have ho : r.opens = false := by cases r <;> first | rfl | cases h2
  rw [pr_next h1, if_neg (by rw [ho]; decide), if_pos h2, h.st]
  rfl
theorem head_st {rs : List Rw} {p i : Nat} {t : List Nat} (h : pr rs p = i :: t) : pr rs p = i :: pr rs i := by
  have hm' : i ∈ pr rs p := by rw [h]; exact List.mem_cons_self
  obtain ⟨l, hl⟩ := pr_suffix p hm'
  cases l with
  | nil => exact hl
  | cons a l =>
    rw [h] at hl
    have hnd := pr_nodup (rs := rs) p
    rw [h] at hnd
    injection hl with ha hb
    rw [hb] at hnd
    exact absurd (List.mem_append.mpr (.inr List.mem_cons_self)) (List.nodup_cons.mp hnd).1
theorem hm_head {rs : List Rw} {p : Nat} {i : Nat} (h : hm rs p = (i : Int)) : pr rs p = i :: pr rs i := by
  unfold hm at h
  cases hp : pr rs p with
  | nil => rw [hp] at h; exact absurd h (by show ¬ (-1 : Int) = (i : Int); omega)
  | cons a t =>
    rw [hp] at h
    have e : a = i := by
      have h2 : (a : Int) = (i : Int) := h
      omega
    subst e
    rw [← hp]
    exact head_st hp
theorem opL_eq {rs : List Rw} (g : Good rs) {i j : Nat} (hi : i ≤ rs.length) (hj : j ≤ rs.length) (h : pr rs i = pr rs j) : opL rs i = opL rs j := by
  rw [opL_pr g i hi, opL_pr g j hj, h]
theorem opL_in {rs : List Rw} (g : Good rs) {i p : Nat} {q : Rw} (hp : p ≤ rs.length) (hq : rs[i]? = some q) (h : pr rs p = i :: pr rs i) : opL rs p = opL rs i ++ [q] := by
  have hil := (List.getElem?_eq_some_iff.mp hq).1
  rw [opL_pr g p hp, opL_pr g i (by omega), h, List.reverse_cons, List.map_append]
  congr 1
  show [rs.getD i .fin] = [q]
  rw [List.getD_eq_getElem?_getD, hq]
  rfl
/-! ### a sheet -/
structure Sheet (rs : List Rw) : Prop where
  vr : VR [] rs []
  g : Good rs
  s : ∀ r ∈ rs, RowS r
theorem sheet_drawn (ns : List Int) (most : Int) : Sheet (drawnM ns most) := ⟨vr_drawn ns most, good_drawn ns most, drawn_s ns most⟩
theorem or_home {rs : List Rw} (sh : Sheet rs) {i : Nat} (h : rs[i]? = some .or) : ∃ b : Nat, hm rs i = (b : Int) ∧ pr rs i = b :: pr rs b ∧ rs[b]? = some .either := by
  have ok : (opL rs i).getLast? = some .either := vr_ok sh.vr h
  have hil := (List.getElem?_eq_some_iff.mp h).1
  rw [opL_pr sh.g i (by omega)] at ok
  cases hp : pr rs i with
  | nil => rw [hp] at ok; cases ok
  | cons b t =>
    rw [hp, List.reverse_cons, List.map_append] at ok
    have ok2 : (t.reverse.map (fun j => rs.getD j .fin) ++ [rs.getD b .fin]).getLast? = some .either := ok
    rw [List.getLast?_concat] at ok2
    have hb := (pr_mem i b (by rw [hp]; exact List.mem_cons_self)).1
    have hbl := List.getElem?_eq_getElem (show b < rs.length by omega)
    refine ⟨b, by unfold hm; rw [hp], ?_, ?_⟩
    · rw [← hp]
      exact head_st hp
    · rw [List.getD_eq_getElem?_getD, hbl] at ok2
      rw [hbl]
      exact ok2
end BD
namespace BD
open PySem PySem.Spec PyProof.Rows L2 Evl
/-! ### what is held answers to the blocks -/
def Rw.kindE : Rw → Str
  | .lend _ k _ => k
  | _ => "pick"
structure EntOf (q : Rw) (e : Ent) : Prop where
  w : e.w = q.word
  k : e.k = q.kindE
def HeldOk (op : List Rw) (es : List Ent) : Prop := Paired EntOf (op.filter Rw.named) es
theorem held_words : ∀ {qs : List Rw} {es : List Ent}, Paired EntOf qs es → es.map Ent.w = qs.map Rw.word
  | _, _, .nil => rfl
  | _, _, .cons r t => by rw [List.map_cons, List.map_cons, r.w, held_words t]
theorem held_mem {qs : List Rw} {es : List Ent} (h : Paired EntOf qs es) {q : Rw} (hq : q ∈ qs) : ∃ e ∈ es, EntOf q e := by
  induction h with
  | nil => cases hq
  | cons r t ih =>
    rcases List.mem_cons.mp hq with z | z
    · subst z
      exact ⟨_, List.mem_cons_self, r⟩
    · obtain ⟨e, h1, h2⟩ := ih z
      exact ⟨e, List.mem_cons_of_mem _ h1, h2⟩
/-- the words of what is open differ -/
def WN (op : List Rw) : Prop := ((op.filter Rw.named).map Rw.word).Nodup
theorem wn_upd {op : List Rw} {r : Rw} (h : WN op) (ok : OkRow op r) : WN (opUpd op r) := by
  unfold opUpd
  split
  · unfold WN
    rw [List.filter_append, List.map_append]
    cases hn : r.named with
    | false =>
      rw [List.filter_cons, if_neg (by rw [hn]; decide)]
      show (_ ++ []).Nodup
      rw [List.append_nil]
      exact h
    | true =>
      have hf : Fresh op r.word := by
        cases r with
        | lend a b c => exact ok.1
        | pick a b => exact ok.1
        | _ => cases hn
      rw [List.filter_cons, if_pos hn]
      refine List.nodup_append.mpr ⟨h, by simp, fun a ha b hb => ?_⟩
      obtain ⟨q, hq, rfl⟩ := List.mem_map.mp ha
      rcases List.mem_singleton.mp hb with rfl
      have := List.mem_filter.mp hq
      exact hf q this.1 this.2
  split
  · unfold WN at h ⊢
    exact h.sublist (((List.dropLast_sublist op).filter _).map _)
  · exact h
theorem wn_at {rs : List Rw} (sh : Sheet rs) : ∀ i, i ≤ rs.length → WN (opL rs i)
  | 0, _ => List.nodup_nil
  | i + 1, h => by
    have hlt : i < rs.length := h
    have hg := List.getElem?_eq_getElem hlt
    rw [opL_next hg]
    exact wn_upd (wn_at sh i (by omega)) (vr_ok sh.vr hg)
theorem few_upd {op : List Rw} {r : Rw} (f : Few op) (ok : OkRow op r) : Few (opUpd op r) := by
  unfold opUpd
  split
  · cases r with
    | lend a b c => exact ⟨by rw [lends_app]; show _ + 1 ≤ 6; have := ok.2.2; omega, by rw [picks_app]; exact f.picks⟩
    | pick a b => exact ⟨by rw [lends_app]; exact f.lends, by rw [picks_app]; show _ + 1 ≤ 3; have := ok.2.2; omega⟩
    | either => exact ⟨by rw [lends_app]; exact f.lends, by rw [picks_app]; exact f.picks⟩
    | again => exact ⟨by rw [lends_app]; exact f.lends, by rw [picks_app]; exact f.picks⟩
    | _ => rename_i h; cases h
  split
  · exact few_drop f
  · exact f
theorem few_at {rs : List Rw} (sh : Sheet rs) : ∀ i, i ≤ rs.length → Few (opL rs i)
  | 0, _ => ⟨Nat.zero_le _, Nat.zero_le _⟩
  | i + 1, h => by
    have hlt : i < rs.length := h
    have hg := List.getElem?_eq_getElem hlt
    rw [opL_next hg]
    exact few_upd (few_at sh i (by omega)) (vr_ok sh.vr hg)
/-- a standing of the sheet -/
structure Std (rs : List Rw) (i : Nat) (es : List Ent) : Prop where
  le : i ≤ rs.length
  held : HeldOk (opL rs i) es
theorem Std.len {rs : List Rw} {i : Nat} {es : List Ent} (sh : Sheet rs) (h : Std rs i es) : es.length ≤ 9 := by
  have := (few_at sh i h.le).named
  have e := Paired.length h.held
  omega
theorem std0 (rs : List Rw) : Std rs 0 [] := ⟨Nat.zero_le _, .nil⟩
theorem Std.ok {rs : List Rw} {i : Nat} {es : List Ent} (sh : Sheet rs) (h : Std rs i es) : StepOk rs i es := by
  refine ⟨fun hh k s hr => ⟨?_, fun u hu => ?_⟩, fun w ts hr => ?_, fun hr => ?_⟩
  · rw [held_words h.held]
    exact wn_at sh i h.le
  · have ok : OkRow (opL rs i) (.lend hh k s) := vr_ok sh.vr hr
    obtain ⟨q, h1, h2, h3, _⟩ := ok.2.1 u hu
    obtain ⟨e, he, hE⟩ := held_mem h.held (List.mem_filter.mpr ⟨h1, h2⟩)
    exact ⟨e, he, hE.w.trans h3⟩
  · have ok : OkRow (opL rs i) (.pick w ts) := vr_ok sh.vr hr
    exact ok.2.1
  · obtain ⟨b, hb, _⟩ := or_home sh hr
    exact ⟨b, hb⟩
theorem heldOk_app {op : List Rw} {es : List Ent} {r : Rw} {e : Ent} (h : HeldOk op es) (hn : r.named = true) (he : EntOf r e) : HeldOk (op ++ [r]) (es ++ [e]) := by
  unfold HeldOk
  rw [List.filter_append, List.filter_cons, if_pos hn]
  exact paired_app h (.cons he .nil)
theorem heldOk_skip {op : List Rw} {es : List Ent} {r : Rw} (h : HeldOk op es) (hn : r.named = false) : HeldOk (op ++ [r]) es := by
  unfold HeldOk
  rw [List.filter_append, List.filter_cons, if_neg (by rw [hn]; decide)]
  show Paired EntOf (_ ++ []) es
  rw [List.append_nil]
  exact h
theorem heldOk_unskip {op : List Rw} {es : List Ent} {r : Rw} (h : HeldOk (op ++ [r]) es) (hn : r.named = false) : HeldOk op es := by
  unfold HeldOk at h
  rw [List.filter_append, List.filter_cons, if_neg (by rw [hn]; decide)] at h
  have h : Paired EntOf (op.filter Rw.named ++ []) es := h
  rw [List.append_nil] at h
  exact h
theorem heldOk_pop {op : List Rw} {es : List Ent} {r : Rw} (h : HeldOk (op ++ [r]) es) (hn : r.named = true) : HeldOk op es.dropLast := by
  unfold HeldOk at h
  rw [List.filter_append, List.filter_cons, if_pos hn] at h
  have := paired_drop h
  have e : (op.filter Rw.named ++ [r]).dropLast = op.filter Rw.named := List.dropLast_concat
  rw [show (op.filter Rw.named ++ r :: List.filter Rw.named []) = op.filter Rw.named ++ [r] from rfl, e] at this
  exact this
/-- giving back leaves words, kinds, things and sources -/
structure SameE (a b : Ent) : Prop where
  w : b.w = a.w
  k : b.k = a.k
  t : b.t = a.t
  s : b.s = a.s
theorem bk_same (u : Str) (es : List Ent) : ∀ i, i ≤ es.length → Paired SameE (es.take i) (bkS u es i).2
  | 0, _ => by rw [List.take_zero]; exact .nil
  | i + 1, h => by
    have hlt : i < es.length := h
    have hg := List.getElem?_eq_getElem hlt
    have ih := bk_same u es i (by omega)
    rw [List.take_add_one, hg, bkS_next hg]
    split
    · exact paired_app ih (.cons ⟨rfl, rfl, rfl, rfl⟩ .nil)
    · exact paired_app ih (.cons ⟨rfl, rfl, rfl, rfl⟩ .nil)
theorem back_same (u : Str) (es : List Ent) : Paired SameE es (backM u es) := by
  have := bk_same u es es.length (Nat.le_refl _)
  rw [List.take_length] at this
  exact this
theorem held_same : ∀ {qs : List Rw} {es fs : List Ent}, Paired EntOf qs es → Paired SameE es fs → Paired EntOf qs fs
  | _, _, _, .nil, .nil => .nil
  | _, _, _, .cons r t, .cons r2 t2 => .cons ⟨r2.w.trans r.w, r2.k.trans r.k⟩ (held_same t t2)
theorem lentE_of {es : List Ent} {h k : Str} {s : Src} : EntOf (.lend h k s) (lentE es h k s) := by
  unfold lentE
  cases s with
  | thing n => exact ⟨rfl, rfl⟩
  | word u =>
    dsimp only
    cases lookE es u <;> exact ⟨rfl, rfl⟩
/-! ### steps: where they go, what falls -/
def Rw.takes : Rw → Bool
  | .pick _ _ => true | .either => true | .again => true | _ => false
def posM (rs : List Rw) (i : Nat) : Nat := match rs[i]? with
  | some .again => 2 * (endUp rs i rs.length).toNat + 1
  | _ => 2 * i
theorem posM_ge {rs : List Rw} (g : Good rs) (i : Nat) : 2 * i ≤ posM rs i := by
  unfold posM
  split
  · rename_i h
    obtain ⟨e, he⟩ := end_of g h rfl
    rw [he.up]
    have := he.gt
    omega
  · omega
theorem posM_le {rs : List Rw} (g : Good rs) {i : Nat} (h : i ≤ rs.length) : posM rs i ≤ 2 * rs.length := by
  unfold posM
  split
  · rename_i h
    obtain ⟨e, he⟩ := end_of g h rfl
    rw [he.up]
    have := he.lt
    omega
  · omega
theorem posM_no {rs : List Rw} {i : Nat} {r : Rw} (h : rs[i]? = some r) (hn : r ≠ .again) : posM rs i = 2 * i := by
  unfold posM
  rw [h]
  split
  · rename_i h2
    exact absurd (Option.some.inj h2) hn
  · rfl
structure Goes (rs : List Rw) (i : Nat) (es : List Ent) (c : Int) (r : Rw) (j : Nat) : Prop where
  at_ : (goM rs i es c).1 = (j : Int)
  std : Std rs j (goM rs i es c).2
  pos : (r.takes = true → c = 0) → posM rs i < posM rs j
theorem goes {rs : List Rw} (sh : Sheet rs) {i : Nat} {es : List Ent} {c : Int} {r : Rw} (hs : Std rs i es) (hr : rs[i]? = some r) : ∃ j, Goes rs i es c r j := by
  have g := sh.g
  have hil := (List.getElem?_eq_some_iff.mp hr).1
  have ok := vr_ok sh.vr hr
  have hnext := opL_next hr
  have step1 : r ≠ .again → (posM rs i < posM rs (i + 1)) := fun hn => by
    rw [posM_no hr hn]
    have := posM_ge g (i + 1)
    omega
  have hgo : goM rs i es c = (match some r with
    | some (.lend h k s) => ((i : Int) + 1, es ++ [lentE es h k s])
    | some (.pick w ts) => ((i : Int) + 1, es ++ [⟨w, "pick", ts.getD (c % ts.length).toNat 0, "", true⟩])
    | some (.back h) => ((i : Int) + 1, backM h es)
    | some .either => ((brI rs i rs.length).getD (c % (brI rs i rs.length).length).toNat 0, es)
    | some .or => (endUp rs (hm rs i).toNat rs.length, es)
    | some .again => if c % 2 = 0 then (endUp rs i rs.length + 1, es) else ((i : Int) + 1, es)
    | some .fin => if (rs.getD (hm rs i).toNat .fin).isAgain = true then (hm rs i, es) else if (rs.getD (hm rs i).toNat .fin).isEither = true then ((i : Int) + 1, es) else ((i : Int) + 1, es.dropLast)
    | _ => ((i : Int) + 1, es)) := by
    unfold goM
    rw [hr]
    try (cases r <;> rfl)
  cases r with
  | lend h k s =>
    refine ⟨i + 1, by rw [hgo]; rfl, ⟨hil, ?_⟩, fun _ => step1 (fun z => nomatch z)⟩
    rw [hgo, hnext]
    exact heldOk_app hs.held rfl lentE_of
  | pick w ts =>
    refine ⟨i + 1, by rw [hgo]; rfl, ⟨hil, ?_⟩, fun _ => step1 (fun z => nomatch z)⟩
    rw [hgo, hnext]
    exact heldOk_app hs.held rfl ⟨rfl, rfl⟩
  | back h =>
    refine ⟨i + 1, by rw [hgo]; rfl, ⟨hil, ?_⟩, fun _ => step1 (fun z => nomatch z)⟩
    rw [hgo, hnext]
    exact held_same hs.held (back_same h es)
  | look h =>
    refine ⟨i + 1, by rw [hgo]; rfl, ⟨hil, ?_⟩, fun _ => step1 (fun z => nomatch z)⟩
    rw [hgo, hnext]
    exact hs.held
  | change h =>
    refine ⟨i + 1, by rw [hgo]; rfl, ⟨hil, ?_⟩, fun _ => step1 (fun z => nomatch z)⟩
    rw [hgo, hnext]
    exact hs.held
  | either =>
    have hlen : 0 < (brI rs i rs.length).length := Nat.succ_pos _
    have hk : (c % ((brI rs i rs.length).length : Int)).toNat < (brI rs i rs.length).length := by
      have := Int.emod_lt_of_pos c (show (0 : Int) < ((brI rs i rs.length).length : Int) by omega)
      have := Int.emod_nonneg c (show ((brI rs i rs.length).length : Int) ≠ 0 by omega)
      omega
    have hmem : (brI rs i rs.length).getD (c % ((brI rs i rs.length).length : Int)).toNat 0 ∈ brI rs i rs.length := by
      rw [List.getD_eq_getElem?_getD, List.getElem?_eq_getElem hk]
      exact List.getElem_mem hk
    have hto : ∃ j : Nat, (brI rs i rs.length).getD (c % ((brI rs i rs.length).length : Int)).toNat 0 = (j : Int) ∧ i < j ∧ j ≤ rs.length ∧ opL rs j = opL rs i ++ [.either] := by
      rcases List.mem_cons.mp hmem with hm' | hm'
      · exact ⟨i + 1, by rw [hm']; rfl, by omega, hil, by rw [hnext]; rfl⟩
      · obtain ⟨p, hp, he⟩ := List.mem_map.mp hm'
        have hp2 := List.mem_filter.mp hp
        have hpl := List.mem_range.mp hp2.1
        have hgp := List.getElem?_eq_getElem hpl
        have hor := hp2.2
        rw [orF_at hgp] at hor
        simp only [Bool.and_eq_true, decide_eq_true_eq] at hor
        have hst := hm_head hor.1
        have hip := (pr_mem p i (by rw [hst]; exact List.mem_cons_self)).1
        have hno : rs[p].opens = false ∧ rs[p].isFin = false := by
          have h2 := hor.2
          generalize rs[p] = q at *
          cases q <;> first | exact ⟨rfl, rfl⟩ | cases h2
        have hpn : pr rs (p + 1) = pr rs p := by
          rw [pr_next hgp, if_neg (by rw [hno.1]; decide), if_neg (by rw [hno.2]; decide)]
        exact ⟨p + 1, by rw [← he]; rfl, by omega, hpl, opL_in g hpl hr (by rw [hpn, hst])⟩
    obtain ⟨j, h1, h2, h3, h4⟩ := hto
    refine ⟨j, by rw [hgo]; exact h1, ⟨h3, ?_⟩, fun _ => ?_⟩
    · rw [hgo, h4]
      exact heldOk_skip hs.held rfl
    · rw [posM_no hr (fun z => nomatch z)]
      have := posM_ge g j
      omega
  | or =>
    obtain ⟨b, hb, hst, hbe⟩ := or_home sh hr
    obtain ⟨e, he⟩ := end_of g hbe rfl
    have hie : i < e := by
      obtain ⟨q, hq, hf⟩ := he.fin
      by_cases hlt : i < e
      · exact hlt
      · by_cases heq : e = i
        · subst heq
          rw [hr] at hq
          cases hq
          cases hf
        · have := gone hq hf he.st he.gt i (by omega)
          rw [hst] at this
          exact absurd List.mem_cons_self this
    refine ⟨e, by rw [hgo]; show endUp rs (hm rs i).toNat rs.length = _; rw [hb, Int.toNat_natCast]; exact he.up, ⟨by have := he.lt; omega, ?_⟩, fun _ => ?_⟩
    · rw [hgo, opL_eq g (by have := he.lt; omega) (by omega) (he.st.trans hst.symm)]
      exact hs.held
    · rw [posM_no hr (fun z => nomatch z)]
      have := posM_ge g e
      omega
  | again =>
    obtain ⟨e, he⟩ := end_of g hr rfl
    have hel := he.lt
    by_cases hc : c % 2 = 0
    · refine ⟨e + 1, by rw [hgo]; show (if c % 2 = 0 then _ else _ : Int × List Ent).1 = _; rw [if_pos hc, he.up]; rfl, ⟨by omega, ?_⟩, fun _ => ?_⟩
      · rw [hgo, opL_eq g (by omega) (by omega) he.next]
        show HeldOk _ (if c % 2 = 0 then _ else _ : Int × List Ent).2
        rw [if_pos hc]
        exact hs.held
      · unfold posM
        rw [hr]
        show 2 * (endUp rs i rs.length).toNat + 1 < posM rs (e + 1)
        have := posM_ge g (e + 1)
        rw [he.up, Int.toNat_natCast]
        omega
    · refine ⟨i + 1, by rw [hgo]; show (if c % 2 = 0 then _ else _ : Int × List Ent).1 = _; rw [if_neg hc]; rfl, ⟨hil, ?_⟩, fun h0 => ?_⟩
      · rw [hgo, hnext]
        show HeldOk _ (if c % 2 = 0 then _ else _ : Int × List Ent).2
        rw [if_neg hc]
        exact heldOk_skip hs.held rfl
      · exact absurd (by rw [h0 rfl]; rfl) hc
  | fin =>
    obtain ⟨b, z, hz, hzo, hh, he⟩ := end_at g hr rfl
    have hin : opL rs i = opL rs b ++ [z] := opL_in g (by omega) hz he.st
    have hout : opL rs (i + 1) = opL rs b := opL_eq g hil (by have := he.gt; omega) he.next
    have hgz : rs.getD (hm rs i).toNat .fin = z := by
      rw [hh, Int.toNat_natCast, List.getD_eq_getElem?_getD, hz]
      rfl
    have hheld := hs.held
    rw [hin] at hheld
    cases hza : z.isAgain with
    | true =>
      have ez : z = .again := by cases z <;> first | rfl | cases hza
      refine ⟨b, ?_, ⟨by have := he.gt; omega, ?_⟩, fun _ => ?_⟩
      · rw [hgo]
        show (if (rs.getD (hm rs i).toNat .fin).isAgain = true then _ else _ : Int × List Ent).1 = _
        rw [hgz, if_pos hza, hh]
      · rw [hgo]
        show HeldOk _ (if (rs.getD (hm rs i).toNat .fin).isAgain = true then _ else _ : Int × List Ent).2
        rw [hgz, if_pos hza]
        exact heldOk_unskip hheld (by rw [ez]; rfl)
      · rw [posM_no hr (fun y => nomatch y)]
        unfold posM
        rw [hz, ez]
        show 2 * i < 2 * (endUp rs b rs.length).toNat + 1
        rw [he.up, Int.toNat_natCast]
        omega
    | false =>
      refine ⟨i + 1, ?_, ⟨hil, ?_⟩, fun _ => step1 (fun y => nomatch y)⟩
      · rw [hgo]
        show (if (rs.getD (hm rs i).toNat .fin).isAgain = true then _ else if (rs.getD (hm rs i).toNat .fin).isEither = true then _ else _ : Int × List Ent).1 = _
        rw [hgz, hza, if_neg (by decide)]
        split <;> rfl
      · rw [hgo, hout]
        show HeldOk _ (if (rs.getD (hm rs i).toNat .fin).isAgain = true then _ else if (rs.getD (hm rs i).toNat .fin).isEither = true then _ else _ : Int × List Ent).2
        rw [hgz, hza, if_neg (by decide)]
        cases hze : z.isEither with
        | true =>
          have ez : z = .either := by cases z <;> first | rfl | cases hze
          rw [if_pos rfl]
          exact heldOk_unskip hheld (by rw [ez]; rfl)
        | false =>
          rw [if_neg (by decide)]
          have hzn : z.named = true := by cases z <;> first | rfl | (cases hzo ; done) | (cases hza ; done) | (cases hze ; done)
          exact heldOk_pop hheld hzn
end BD
namespace BD
open PySem PySem.Spec PyProof.Rows L2 Evl
local macro_rules | `(tactic| walk_at "ev") => `(tactic| first
  | ((with_reducible apply ev_var) ; rfl)
  | with_reducible exact ev_c
  | ((with_reducible apply ev_I0) <;> walk_at "ev")
  | ((with_reducible apply ev_e9) <;> walk_at "ev")
  | ((with_reducible apply ev_I) <;> walk_at "ev")
  | ((with_reducible apply ev_eq) <;> walk_at "ev")
  | ((with_reducible apply ev_ne) <;> walk_at "ev")
  | ((with_reducible apply ev_neg) <;> walk_at "ev")
  | ((with_reducible apply ev_ixN) <;> walk_at "ev")
  | ((with_reducible apply ev_ixL) <;> walk_at "ev")
  | ((with_reducible apply ev_inN) <;> walk_at "ev")
  | ((with_reducible apply ev_inT) <;> walk_at "ev")
  | ((with_reducible apply ev_ixT) <;> walk_at "ev")
  | ((with_reducible apply ev_ixS) <;> walk_at "ev")
  | ((with_reducible apply ev_len') <;> walk_at "ev")
  | ((with_reducible apply et_test) <;> walk_at "ev")
  | ((with_reducible apply et_and) <;> walk_at "ev")
  | ((with_reducible apply et_or) <;> walk_at "ev")
  | ((with_reducible apply et_not) <;> walk_at "ev")
  | ((with_reducible apply et_B) <;> walk_at "ev")
  | ((with_reducible apply el_lst) <;> walk_at "ev")
  | ((with_reducible apply eu_tup) <;> walk_at "ev")
  | ((with_reducible apply ea_cons) <;> walk_at "ev")
  | with_reducible exact ea_nil
  | with_reducible assumption
  | ((with_reducible apply ex_l' ; assumption) ; walk_at "ex")
  | ((with_reducible apply ex_t' ; assumption) ; walk_at "ex")
  | (intro _ ; walk_at "ev")
  | (with_reducible first | exact atI_hd | exact at_kind | exact at2s | exact at3s | exact at3i)
  | (first | exact rfl | exact Nat.le_of_ble_eq_true rfl | exact ⟨by decide, by decide⟩ | decide | exact Or.inl ⟨by omega, by omega⟩ | exact Or.inr ⟨by omega, by omega⟩ | omega)
  | skip)
local macro_rules | `(tactic| walk_at "ex") => `(tactic| first
  | assumption
  | exact Ex.refl _
  | (refine' Ex.trans ?_ (by assumption) ; walk_at "ex"))
local macro_rules | `(tactic| walk_at "row") => `(tactic| first
  | (with_reducible exact er_nil)
  | ((with_reducible apply er_cons) <;> walk_at "row")
  | (((with_reducible apply er_var) ; rfl) ; walk_at "isrow")
  | (((with_reducible apply elr_var) ; rfl) ; walk_at "isrow")
  | ((with_reducible apply elr_cat) <;> walk_at "row")
  | ((with_reducible apply elr_lst) <;> walk_at "row")
  | ((with_reducible apply er_fin) <;> walk_at "ev")
  | ((with_reducible apply er_lendT) <;> walk_at "ev")
  | ((with_reducible apply er_lendW) <;> walk_at "ev")
  | ((with_reducible apply er_pick) <;> walk_at "ev")
  | ((with_reducible apply er_either) <;> walk_at "ev")
  | ((with_reducible apply er_or) <;> walk_at "ev")
  | ((with_reducible apply er_again) <;> walk_at "ev")
  | ((with_reducible apply er_back) <;> walk_at "ev")
  | ((with_reducible apply er_look) <;> walk_at "ev")
  | ((with_reducible apply er_change) <;> walk_at "ev")
  | exact Nat.le_of_ble_eq_true rfl
  | skip)
local macro_rules | `(tactic| walk_at "isrow") => `(tactic| first
  | assumption
  | (refine IsRow.up ?_ (by assumption) ; walk_at "ex")
  | (refine LRows.up ?_ (by assumption) ; walk_at "ex"))

local macro_rules | `(tactic| walk_at "ev") => `(tactic| (((with_reducible apply ev_tag) ; rfl) ; walk_at "isrow"))
theorem tag_takes (r : Rw) : inV (.str r.tag) [V.str "pick", V.str "either", V.str "again"] = r.takes := by cases r <;> rfl
/-- a run: the choice that is taken, what is left -/
def takeC (r : Rw) (cs : List Int) : Int := if r.takes = true then cs.headD 0 else 0
def leftC (r : Rw) (cs : List Int) : List Int := if r.takes = true then cs.tail else cs
def runF (rs : List Rw) : Nat → Nat → List Ent → List Int → List (Nat × List Ent)
  | 0, _, _, _ => []
  | f + 1, i, es, cs => match rs[i]? with
    | none => []
    | some r => (i, es) :: runF rs f (goM rs i es (takeC r cs)).1.toNat (goM rs i es (takeC r cs)).2 (leftC r cs)
def mu (rs : List Rw) (i k : Nat) : Nat := k * (2 * rs.length + 3) + (2 * rs.length + 2 - posM rs i)
def runM (rs : List Rw) (cs : List Int) : List (Nat × List Ent) := runF rs (mu rs 0 cs.length) 0 [] cs
theorem runF_go {rs : List Rw} {f i : Nat} {es : List Ent} {cs : List Int} {r : Rw} (h : rs[i]? = some r) : runF rs (f + 1) i es cs = (i, es) :: runF rs f (goM rs i es (takeC r cs)).1.toNat (goM rs i es (takeC r cs)).2 (leftC r cs) := by
  show (match rs[i]? with
    | none => []
    | some r => (i, es) :: runF rs f (goM rs i es (takeC r cs)).1.toNat (goM rs i es (takeC r cs)).2 (leftC r cs)) = _
  rw [h]
theorem runF_stop {rs : List Rw} {i : Nat} {es : List Ent} {cs : List Int} (h : rs[i]? = none) : ∀ f, runF rs f i es cs = []
  | 0 => rfl
  | f + 1 => by
    show (match rs[i]? with
      | none => []
      | some r => (i, es) :: runF rs f (goM rs i es (takeC r cs)).1.toNat (goM rs i es (takeC r cs)).2 (leftC r cs)) = _
    rw [h]
/-- a turn makes the measure fall -/
theorem mu_falls {rs : List Rw} (sh : Sheet rs) {i j : Nat} {es : List Ent} {cs : List Int} {r : Rw} (hr : rs[i]? = some r) (hg : Goes rs i es (takeC r cs) r j) : mu rs j (leftC r cs).length < mu rs i cs.length := by
  have hil := (List.getElem?_eq_some_iff.mp hr).1
  have h1 := posM_le sh.g (show i ≤ rs.length by omega)
  have h2 := posM_le sh.g hg.std.le
  unfold mu
  by_cases ht : r.takes = true
  · have hl : leftC r cs = cs.tail := if_pos ht
    have hc : takeC r cs = cs.headD 0 := if_pos ht
    rw [hl]
    cases cs with
    | nil =>
      have := hg.pos (fun _ => hc)
      show 0 * _ + _ < 0 * _ + _
      omega
    | cons a t =>
      show t.length * _ + _ < (t.length + 1) * _ + _
      rw [Nat.add_mul]
      omega
  · have hl : leftC r cs = cs := if_neg ht
    have := hg.pos (fun z => absurd z ht)
    rw [hl]
    omega
theorem mu_pos {rs : List Rw} (sh : Sheet rs) {i k : Nat} (h : i ≤ rs.length) : 0 < mu rs i k := by
  have h1 := posM_le sh.g h
  unfold mu
  omega
theorem mu_le (rs : List Rw) (i k : Nat) : mu rs i k ≤ (k + 1) * (2 * rs.length + 3) := by
  unfold mu
  rw [Nat.add_mul]
  omega
def Stds (H : Hp) (vs : List V) (sts : List (Nat × List Ent)) : Prop := Paired (fun x (st : Nat × List Ent) => AStand (st.1 : Int) st.2 x H) vs sts
theorem AStand.upT {i : Int} {es : List Ent} {v : V} {H H' : Hp} (e : ExT H H') (h : AStand i es v H) : AStand i es v H' := by
  obtain ⟨p, q, vs, h1, h2, h3, h4⟩ := h
  exact ⟨p, q, vs, h1, e _ _ h2, e _ _ h3, h4.upT e⟩
theorem Stds.upT {H H' : Hp} (e : ExT H H') : ∀ {vs : List V} {sts : List (Nat × List Ent)}, Stds H vs sts → Stds H' vs sts
  | _, _, .nil => .nil
  | _, _, .cons r t => .cons (AStand.upT e r) (Stds.upT e t)
theorem Stds.up {H H' : Hp} (e : Ex H H') {vs : List V} {sts : List (Nat × List Ent)} (h : Stds H vs sts) : Stds H' vs sts := h.upT (ExT.of e)
section
variable {P : Program} {w : World} {K : PySem.W.Frag} {mg : Str → Option Value} {base : Heap}
theorem el_homes {a : Addr} {rv : List V} {rs : List Rw} {ta : TA} {σ : L2.St} {H : Hp} {E : XK} (h : EvA ta σ H [.ref a]) (hS : SqL K H a rv) (hR : Rows H rv rs) (g : Good rs) (hl : rs.length ≤ 90000) : EvL (tCall (spHomes K) [] E ta) σ H (homesV rs rs.length) :=
  el_call h fun H1 e Q q E => ⟨a, rv, rs, rfl, ex_l e hS, hR.up e, g, hl, fun p H2 hp e2 h2 => q p H2 hp e2 h2⟩
theorem ep_step {a hh : Addr} {x : V} {c : Int} {i : Nat} {es : List Ent} {rv : List V} {rs : List Rw} {ta : TA} {σ : L2.St} {H : Hp} {E : XK} (h : EvA ta σ H [.ref a, .ref hh, x, .int c]) (hS : SqL K H a rv) (hR : Rows H rv rs) (hM : SqL K H hh (homesV rs rs.length)) (hx : AStand i es x H)
    (hi : i < rs.length) (hl : rs.length ≤ 90000) (g : Good rs) (ok : StepOk rs i es) (he : es.length ≤ 900) : EvP (tCall (spStep K) [] E ta) σ H (AStand (goM rs i es c).1 (goM rs i es c).2) :=
  ep_call h fun H1 e Q q E => ⟨a, hh, x, c, i, es, rv, rs, rfl, ex_l e hS, hR.up e, ex_l e hM, hx.up e, hi, hl, g, ok, he, q⟩
def spRun (K : PySem.W.Frag) : Sp := fun vs H Q _ => ∃ (a pc : Addr) (cs : List Int) (rv : List V) (rs : List Rw), vs = [.ref a, .ref pc] ∧ SqL K H a rv ∧ Rows H rv rs ∧ SqL K H pc (cs.map V.int) ∧ Sheet rs ∧ rs.length ≤ 40000 ∧ (cs.length + 1) * (2 * rs.length + 3) ≤ 99000 ∧
  ∀ p vs H2, H p = none → Ex H H2 → H2 p = some (.lst vs) → Stds H2 vs (runM rs cs) → Q (.ref p) H2
end
end BD
namespace BD
open PySem PySem.Spec PyProof.Rows L2 Evl
local macro_rules | `(tactic| walk_at "ev") => `(tactic| first
  | ((with_reducible apply ev_var) ; rfl)
  | with_reducible exact ev_c
  | ((with_reducible apply ev_I0) <;> walk_at "ev")
  | ((with_reducible apply ev_e9) <;> walk_at "ev")
  | ((with_reducible apply ev_I) <;> walk_at "ev")
  | ((with_reducible apply ev_eq) <;> walk_at "ev")
  | ((with_reducible apply ev_ne) <;> walk_at "ev")
  | ((with_reducible apply ev_neg) <;> walk_at "ev")
  | ((with_reducible apply ev_ixN) <;> walk_at "ev")
  | ((with_reducible apply ev_ixL) <;> walk_at "ev")
  | ((with_reducible apply ev_inN) <;> walk_at "ev")
  | ((with_reducible apply ev_inT) <;> walk_at "ev")
  | ((with_reducible apply ev_ixT) <;> walk_at "ev")
  | ((with_reducible apply ev_ixS) <;> walk_at "ev")
  | ((with_reducible apply ev_len') <;> walk_at "ev")
  | ((with_reducible apply et_test) <;> walk_at "ev")
  | ((with_reducible apply et_and) <;> walk_at "ev")
  | ((with_reducible apply et_or) <;> walk_at "ev")
  | ((with_reducible apply et_not) <;> walk_at "ev")
  | ((with_reducible apply et_B) <;> walk_at "ev")
  | ((with_reducible apply el_lst) <;> walk_at "ev")
  | ((with_reducible apply eu_tup) <;> walk_at "ev")
  | ((with_reducible apply ea_cons) <;> walk_at "ev")
  | with_reducible exact ea_nil
  | with_reducible assumption
  | ((with_reducible apply ex_l' ; assumption) ; walk_at "ex")
  | ((with_reducible apply ex_t' ; assumption) ; walk_at "ex")
  | (intro _ ; walk_at "ev")
  | (with_reducible first | exact atI_hd | exact at_kind | exact at2s | exact at3s | exact at3i)
  | (first | exact rfl | exact Nat.le_of_ble_eq_true rfl | exact ⟨by decide, by decide⟩ | decide | exact Or.inl ⟨by omega, by omega⟩ | exact Or.inr ⟨by omega, by omega⟩ | omega)
  | skip)
local macro_rules | `(tactic| walk_at "ex") => `(tactic| first
  | assumption
  | exact Ex.refl _
  | (refine' Ex.trans ?_ (by assumption) ; walk_at "ex"))
local macro_rules | `(tactic| walk_at "row") => `(tactic| first
  | (with_reducible exact er_nil)
  | ((with_reducible apply er_cons) <;> walk_at "row")
  | (((with_reducible apply er_var) ; rfl) ; walk_at "isrow")
  | (((with_reducible apply elr_var) ; rfl) ; walk_at "isrow")
  | ((with_reducible apply elr_cat) <;> walk_at "row")
  | ((with_reducible apply elr_lst) <;> walk_at "row")
  | ((with_reducible apply er_fin) <;> walk_at "ev")
  | ((with_reducible apply er_lendT) <;> walk_at "ev")
  | ((with_reducible apply er_lendW) <;> walk_at "ev")
  | ((with_reducible apply er_pick) <;> walk_at "ev")
  | ((with_reducible apply er_either) <;> walk_at "ev")
  | ((with_reducible apply er_or) <;> walk_at "ev")
  | ((with_reducible apply er_again) <;> walk_at "ev")
  | ((with_reducible apply er_back) <;> walk_at "ev")
  | ((with_reducible apply er_look) <;> walk_at "ev")
  | ((with_reducible apply er_change) <;> walk_at "ev")
  | exact Nat.le_of_ble_eq_true rfl
  | skip)
local macro_rules | `(tactic| walk_at "isrow") => `(tactic| first
  | assumption
  | (refine IsRow.up ?_ (by assumption) ; walk_at "ex")
  | (refine LRows.up ?_ (by assumption) ; walk_at "ex"))

abbrev s_l_awake : Stmt := topS 77
theorem sc_l_awake : FnScope ["_law_held", "_law_lending", "_law_hands_here", "_law_one"] ["_law_held"] (defScope s_l_awake) := ⟨rfl, rfl, rfl, by decide +kernel, rfl, by decide +kernel, by decide +kernel⟩
def awakeM (es : List Ent) : List Ent :=
  (es.filter fun e => !decide (e.k = ("pick" : Str)) && e.o).filter fun e => !decide (e.w ∈ (es.filter fun e : Ent => e.o).map fun e : Ent => e.s)
theorem ent_at {H : Hp} {x : V} {e : Ent} (h : IsEnt H x e) : ∃ p, x = .ref p ∧ H p = some (.tup e.vs) := h
section
variable {P : Program} {w : World} {K : PySem.W.Frag} {mg : Str → Option Value} {base : Heap}
def spAwake (K : PySem.W.Frag) : Sp := fun vs H Q _ => ∃ (x : V) (es : List Ent), vs = [x] ∧ AHeld es x H ∧ es.length ≤ 1000 ∧ ∀ p us H2, H p = none → Ex H H2 → H2 p = some (.lst us) → Ents H2 us (awakeM es) → Q (.ref p) H2
theorem ok_awake (D : Dn K mg "_law_awake" s_l_awake ["_law_held"]) : Has P w K mg base "_law_awake" 1 ["_law_held"] (spAwake K) := by
  refine D.ok sc_l_awake (fun vs H Q E h => ?_) (fun f cdv A outer st H vs Q E hr h => ?_)
  · obtain ⟨x, es, rfl, _⟩ := h
    rfl
  · obtain ⟨x, es, rfl, hx, hlen, q⟩ := h
    obtain ⟨p, hv, rfl, hp, hE⟩ := hx
    have hP : SqT K H p hv := st_of hp
    have hle := hE.len
    refine ⟨_, (pss_cons (ps_set (i := 1) sc_l_awake.nd rfl (Or.inr rfl) (pe_lc (own := [("_law_one", 3)]) (g := (gName 3))  rfl sc_l_awake.nd (pi_tup (pv 0)) (blkOk_by (own := [("_law_one", 3)]) (N := ["_law_held", "_law_lending", "_law_hands_here", "_law_one"]) (sc := defScope s_l_awake) (by decide +kernel)) (fun _ _ _ _ _ => (pg_name (i := 3) sc_l_awake.nd rfl (Or.inl rfl))) (fun _ _ _ _ _ => (pts_one (pt_val (pe_ix (show IxR _ (rIxT K) from ix_tup) (pv 3) pe_int (fun _ _ => rfl))))) (fun _ _ _ _ _ => (pe_ix (show IxR _ (rIxT K) from ix_tup) (pv 3) pe_int (fun _ _ => rfl))))) (pss_cons (ps_setLc (i := 2) (own := [("_law_one", 3)]) (g := (gName 3))  rfl sc_l_awake.nd rfl rfl (sw_true rfl rfl rfl (by decide +kernel)) (pi_tup (pv 0)) (blkOk_by (own := [("_law_one", 3)]) (N := ["_law_held", "_law_lending", "_law_hands_here", "_law_one"]) (sc := defScope s_l_awake) (by decide +kernel)) (fun _ _ _ _ _ => (pg_name (i := 3) sc_l_awake.nd rfl (Or.inl rfl))) (fun _ _ _ _ _ => (pts_one (PW.pt (pw_and (pt_cmpR op_ne (pe_ix (show IxR _ (rIxT K) from ix_tup) (pv 3) pe_int (fun _ _ => rfl)) pe_str (nomark _)) (pw_and1 (pt_val (pe_ix (show IxR _ (rIxT K) from ix_tup) (pv 3) pe_int (fun _ _ => rfl)))))))) (fun _ _ _ _ _ => (pv 3))) (pss_one (ps_ret (pe_lc (own := [("_law_one", 3)]) (g := (gName 3))  rfl sc_l_awake.nd (pi_list (pv 2)) (blkOk_by (own := [("_law_one", 3)]) (N := ["_law_held", "_law_lending", "_law_hands_here", "_law_one"]) (sc := defScope s_l_awake) (by decide +kernel)) (fun _ _ _ _ _ => (pg_name (i := 3) sc_l_awake.nd rfl (Or.inl rfl))) (fun _ _ _ _ _ => (pts_one (pt_cmpR (show OpR _ _ (rIn K true) from op_notIn_seq) (pe_ix (show IxR _ (rIxT K) from ix_tup) (pv 3) pe_int (fun _ _ => rfl)) (pv 1) (by rfl)))) (fun _ _ _ _ _ => (pv 3))))))), ?_⟩
    show (_ : L2.TS) _ [_, _, _, _] _
    refine q_asgL (el_mapT (K := K) (fun e : Ent => e.o) (fun e : Ent => e.s) (ev_var rfl) hP hE (by omega) (fun x => rfl) (fun x e H1 _ hx => ?_) (fun x e H1 _ hx => ?_)) (fun pl H1 hpl e1 h1 => ?_)
    · exact et_B (ev_e4 rfl hx)
    · exact ev_e3 rfl hx
    show (_ : L2.TS) _ [_, _, _, _] _
    refine q_asgPL (epl_filterT (fun e => !decide (e.k = ("pick" : Str)) && e.o) (ev_var rfl) (ex_t e1 hP) (hE.up e1) (by omega) (fun x => rfl) (fun x e H2 _ hx => ?_) (fun x => rfl)) (fun ph us H2 hph e2 h2 hU => ?_)
    · rw [← dec_str]
      exact et_and (et_test (ev_ne (ev_e1 rfl hx) ev_c rfl)) (fun _ => et_B (ev_e4 rfl hx))
    show (_ : L2.TS) _ [_, _, _, _] _
    have hL2 : SqL K H2 pl (((es.filter fun e : Ent => e.o).map fun e : Ent => e.s).map V.str) := ex_l e2 (sq_of h1)
    have hul := hU.len
    have hfl := List.length_filter_le (fun e : Ent => !decide (e.k = ("pick" : Str)) && e.o) es
    refine (epl_filterE (fun e => !decide (e.w ∈ (es.filter fun e : Ent => e.o).map fun e : Ent => e.s)) (ev_var rfl) (sq_of h2) hU (by omega) (fun x => rfl) (fun x e H3 e3 hx => ?_) (fun x => rfl)) H2 (Ex.refl H2) _ fun pz zs H3 hpz e3 h3 hZ => q pz zs H3 (fresh_back (e1.trans e2) hpz) ((e1.trans e2).trans e3) h3 hZ
    exact et_test (ev_notInLs (ev_e0 rfl hx) (ev_var rfl) (ex_l e3 hL2))
theorem epl_awake {x : V} {es : List Ent} {ta : TA} {σ : L2.St} {H : Hp} {E : XK} (h : EvA ta σ H [x]) (hx : AHeld es x H) (hl : es.length ≤ 1000) : EvPL (tCall (spAwake K) [] E ta) σ H (fun us H2 => Ents H2 us (awakeM es)) := fun H1 e Q q =>
  h H1 e _ fun H2 e2 => ⟨x, es, rfl, hx.up (e.trans e2), hl, fun p us H3 hp e3 h3 hs => q p us H3 (fresh_back e2 hp) (e2.trans e3) h3 hs⟩
end
end BD
namespace BD
open PySem PySem.Spec PyProof.Rows L2 Evl
local macro_rules | `(tactic| walk_at "ev") => `(tactic| first
  | ((with_reducible apply ev_var) ; rfl)
  | with_reducible exact ev_c
  | ((with_reducible apply ev_I0) <;> walk_at "ev")
  | ((with_reducible apply ev_e9) <;> walk_at "ev")
  | ((with_reducible apply ev_I) <;> walk_at "ev")
  | ((with_reducible apply ev_eq) <;> walk_at "ev")
  | ((with_reducible apply ev_ne) <;> walk_at "ev")
  | ((with_reducible apply ev_neg) <;> walk_at "ev")
  | ((with_reducible apply ev_ixN) <;> walk_at "ev")
  | ((with_reducible apply ev_ixL) <;> walk_at "ev")
  | ((with_reducible apply ev_inN) <;> walk_at "ev")
  | ((with_reducible apply ev_inT) <;> walk_at "ev")
  | ((with_reducible apply ev_ixT) <;> walk_at "ev")
  | ((with_reducible apply ev_ixS) <;> walk_at "ev")
  | ((with_reducible apply ev_len') <;> walk_at "ev")
  | ((with_reducible apply et_test) <;> walk_at "ev")
  | ((with_reducible apply et_and) <;> walk_at "ev")
  | ((with_reducible apply et_or) <;> walk_at "ev")
  | ((with_reducible apply et_not) <;> walk_at "ev")
  | ((with_reducible apply et_B) <;> walk_at "ev")
  | ((with_reducible apply el_lst) <;> walk_at "ev")
  | ((with_reducible apply eu_tup) <;> walk_at "ev")
  | ((with_reducible apply ea_cons) <;> walk_at "ev")
  | with_reducible exact ea_nil
  | with_reducible assumption
  | ((with_reducible apply ex_l' ; assumption) ; walk_at "ex")
  | ((with_reducible apply ex_t' ; assumption) ; walk_at "ex")
  | (intro _ ; walk_at "ev")
  | (with_reducible first | exact atI_hd | exact at_kind | exact at2s | exact at3s | exact at3i)
  | (first | exact rfl | exact Nat.le_of_ble_eq_true rfl | exact ⟨by decide, by decide⟩ | decide | exact Or.inl ⟨by omega, by omega⟩ | exact Or.inr ⟨by omega, by omega⟩ | omega)
  | skip)
local macro_rules | `(tactic| walk_at "ex") => `(tactic| first
  | assumption
  | exact Ex.refl _
  | (refine' Ex.trans ?_ (by assumption) ; walk_at "ex"))
local macro_rules | `(tactic| walk_at "row") => `(tactic| first
  | (with_reducible exact er_nil)
  | ((with_reducible apply er_cons) <;> walk_at "row")
  | (((with_reducible apply er_var) ; rfl) ; walk_at "isrow")
  | (((with_reducible apply elr_var) ; rfl) ; walk_at "isrow")
  | ((with_reducible apply elr_cat) <;> walk_at "row")
  | ((with_reducible apply elr_lst) <;> walk_at "row")
  | ((with_reducible apply er_fin) <;> walk_at "ev")
  | ((with_reducible apply er_lendT) <;> walk_at "ev")
  | ((with_reducible apply er_lendW) <;> walk_at "ev")
  | ((with_reducible apply er_pick) <;> walk_at "ev")
  | ((with_reducible apply er_either) <;> walk_at "ev")
  | ((with_reducible apply er_or) <;> walk_at "ev")
  | ((with_reducible apply er_again) <;> walk_at "ev")
  | ((with_reducible apply er_back) <;> walk_at "ev")
  | ((with_reducible apply er_look) <;> walk_at "ev")
  | ((with_reducible apply er_change) <;> walk_at "ev")
  | exact Nat.le_of_ble_eq_true rfl
  | skip)
local macro_rules | `(tactic| walk_at "isrow") => `(tactic| first
  | assumption
  | (refine IsRow.up ?_ (by assumption) ; walk_at "ex")
  | (refine LRows.up ?_ (by assumption) ; walk_at "ex"))

local macro_rules | `(tactic| walk_at "ev") => `(tactic| (((with_reducible apply ev_tag) ; rfl) ; walk_at "isrow"))
abbrev s_l_fault : Stmt := topS 78
theorem sc_l_fault : FnScope ["_law_row_here", "_law_held", "_law_loans", "_law_place", "_law_one", "_law_other", "_law_hand"] ["_law_row_here", "_law_held"] (defScope s_l_fault) := ⟨rfl, rfl, rfl, by decide +kernel, rfl, by decide +kernel, by decide +kernel⟩
def clash (a b : Ent) : Bool := decide (a.t = b.t) && decide (("write" : Str) ∈ [a.k, b.k])
def besideM (ls : List Ent) : Bool := (List.range ls.length).any fun i => (ls.take i).any fun o => clash (ls.getD i ent0) o
def handM : Rw → Str
  | .look h => h
  | .change h => h
  | .lend _ _ (.word u) => u
  | _ => ""
def Rw.sees : Rw → Bool
  | .look _ => true | .change _ => true | _ => false
def faultM (r : Rw) (es : List Ent) : Str :=
  if besideM (awakeM es) = true then "beside"
  else if (es.any fun e => decide (e.w = handM r) && !e.o) = true then "empty"
  else if (r.sees && !decide (handM r ∈ (awakeM es).map Ent.w)) = true then "asleep" else ""
theorem tag_sees (r : Rw) : inV (.str r.tag) [V.str "look", V.str "change"] = r.sees := by cases r <;> rfl
section
variable {P : Program} {w : World} {K : PySem.W.Frag} {mg : Str → Option Value} {base : Heap}
def spFault (K : PySem.W.Frag) : Sp := fun vs H Q _ => ∃ (y x : V) (r : Rw) (es : List Ent), vs = [y, x] ∧ IsRow H y r ∧ AHeld es x H ∧ es.length ≤ 1000 ∧ RetV (.str (faultM r es)) H Q
theorem ok_fault (D : Dn K mg "_law_fault" s_l_fault ["_law_row_here", "_law_held"]) (T : Blt mg) (h_l_awake : Has P w K mg base "_law_awake" 1 ["_law_held"] (spAwake K)) : Has P w K mg base "_law_fault" 2 ["_law_row_here", "_law_held"] (spFault K) := by
  refine D.ok sc_l_fault (fun vs H Q E h => ?_) (fun f cdv A outer st H vs Q E hr h => ?_)
  · obtain ⟨y, x, r, es, rfl, _⟩ := h
    rfl
  · obtain ⟨y, x, r, es, rfl, hY, hx, hlen, q⟩ := h
    obtain ⟨p, hv, rfl, hp, hE⟩ := id hx
    have hP : SqT K H p hv := st_of hp
    have hle := hE.len
    obtain ⟨py, ys, rfl, hpy⟩ := hY.tup
    refine ⟨_, (pss_cons (ps_set (i := 2) sc_l_fault.nd rfl (Or.inl rfl) (pe_own h_l_awake (hr.mono (by decide)) (by rfl) (pa_cons (pv 1) pa_nil))) (pss_cons (ps_for PassesOwn.never rfl (pi_enum (by rfl) T.enumerate_ (pa_cons (pv 2) pa_nil)) (pg_tup rfl (pgs_cons (pg_name (i := 3) sc_l_fault.nd rfl (Or.inl rfl)) (pgs_cons (pg_name (i := 4) sc_l_fault.nd rfl (Or.inl rfl)) pgs_nil))) (pss_one (ps_for PassesOwn.never rfl (pi_list (pe_slice sl_list (pv 2) po_none (po_some (pv 3)))) (pg_name (i := 5) sc_l_fault.nd rfl (Or.inl rfl)) (pss_one (ps_if (PW.pt (pw_and (pt_cmpR op_eq (pe_ix (show IxR _ (rIxT K) from ix_tup) (pv 4) pe_int (fun _ _ => rfl)) (pe_ix (show IxR _ (rIxT K) from ix_tup) (pv 5) pe_int (fun _ _ => rfl)) (nomark _)) (pw_and1 (pt_cmpR (show OpR _ _ (rIn K false) from op_in_seq) pe_str (pe_lst (pa_cons (pe_ix (show IxR _ (rIxT K) from ix_tup) (pv 4) pe_int (fun _ _ => rfl)) (pa_cons (pe_ix (show IxR _ (rIxT K) from ix_tup) (pv 5) pe_int (fun _ _ => rfl)) pa_nil))) (by rfl))))) (pss_one (ps_ret pe_str)) pss_nil))))) (pss_cons (ps_set (i := 6) sc_l_fault.nd rfl (Or.inl rfl) pe_str) (pss_cons (ps_if (pt_cmpR (show OpR _ _ (rIn K false) from op_in_seq) (pe_ix (show IxR _ (rIxT K) from ix_tup) (pv 0) pe_int (fun _ _ => rfl)) (pe_lst (pa_cons pe_str (pa_cons pe_str pa_nil))) (by rfl)) (pss_one (ps_set (i := 6) sc_l_fault.nd rfl (Or.inl rfl) (pe_ix (show IxR _ (rIxT K) from ix_tup) (pv 0) pe_int (fun _ _ => rfl)))) pss_nil) (pss_cons (ps_if (PW.pt (pw_and (pt_cmpR op_eq (pe_ix (show IxR _ (rIxT K) from ix_tup) (pv 0) pe_int (fun _ _ => rfl)) pe_str (nomark _)) (pw_and1 (pt_val (pe_callB (show CallR _ _ (rIsi K) from call_isi) (by rfl) T.isinstance_ (by decide +kernel) (pa_cons (pe_ix (show IxR _ (rIxT K) from ix_tup) (pv 0) pe_int (fun _ _ => rfl)) (pa_cons (pe_bltn (v := .ty "str") (by rfl) T.str_ (by decide +kernel) rfl) pa_nil))))))) (pss_one (ps_set (i := 6) sc_l_fault.nd rfl (Or.inl rfl) (pe_ix (show IxR _ (rIxT K) from ix_tup) (pv 0) pe_int (fun _ _ => rfl)))) pss_nil) (pss_cons (ps_for PassesOwn.never rfl (pi_tup (pv 1)) (pg_name (i := 4) sc_l_fault.nd rfl (Or.inl rfl)) (pss_one (ps_if (PW.pt (pw_and (pt_cmpR op_eq (pe_ix (show IxR _ (rIxT K) from ix_tup) (pv 4) pe_int (fun _ _ => rfl)) (pv 6) (nomark _)) (pw_and1 (pt_not (pt_val (pe_ix (show IxR _ (rIxT K) from ix_tup) (pv 4) pe_int (fun _ _ => rfl))))))) (pss_one (ps_ret pe_str)) pss_nil))) (pss_cons (ps_if (PW.pt (pw_and (pt_cmpR (show OpR _ _ (rIn K false) from op_in_seq) (pe_ix (show IxR _ (rIxT K) from ix_tup) (pv 0) pe_int (fun _ _ => rfl)) (pe_lst (pa_cons pe_str (pa_cons pe_str pa_nil))) (by rfl)) (pw_and1 (pt_cmpR (show OpR _ _ (rIn K true) from op_notIn_seq) (pv 6) (pe_lc (own := [("_law_one", 4)]) (g := (gName 4)) (tt := tYes) rfl sc_l_fault.nd (pi_list (pv 2)) (blkOk_by (own := [("_law_one", 4)]) (N := ["_law_row_here", "_law_held", "_law_loans", "_law_place", "_law_one", "_law_other", "_law_hand"]) (sc := defScope s_l_fault) (by decide +kernel)) (fun _ _ _ _ _ => (pg_name (i := 4) sc_l_fault.nd rfl (Or.inl rfl))) (fun _ _ _ _ _ => pts_nil) (fun _ _ _ _ _ => (pe_ix (show IxR _ (rIxT K) from ix_tup) (pv 4) pe_int (fun _ _ => rfl)))) (by rfl))))) (pss_one (ps_ret pe_str)) pss_nil) (pss_one (ps_ret pe_str))))))))), ?_⟩
    show (_ : L2.TS) _ [_, _, _, _, _, _, _] _
    unfold faultM at q
    refine q_asgPL (epl_awake (x := .ref p) (es := es) ?_ hx hlen) (fun pl us H1 hpl e1 h1 hU => ?_)
    · walk_at "ev"
    show (_ : L2.TS) _ [_, _, _, _, _, _, _] _
    have hul := hU.len
    have hal : (awakeM es).length ≤ 1000 := by
      have h1 := List.length_filter_le (fun e : Ent => !decide (e.w ∈ (es.filter fun e : Ent => e.o).map fun e : Ent => e.s)) (es.filter fun e => !decide (e.k = ("pick" : Str)) && e.o)
      have h2 := List.length_filter_le (fun e : Ent => !decide (e.k = ("pick" : Str)) && e.o) es
      unfold awakeM
      omega
    generalize awakeM es = ls at *
    have hL1 : SqL K H1 pl us := sq_of h1
    refine q_forE (K := K) (a := pl) (xs := us) (ev_var rfl) hL1 (fun i σ' H' => Ex H1 H' ∧ ((List.range i).any fun i => (ls.take i).any fun o => clash (ls.getD i ent0) o) = false ∧ ∃ a b c, σ' = [some (.ref py), some (.ref p), some (.ref pl), a, b, c, none]) ?_ (fun i σ' H' _ h => ex_l h.1 hL1) ?_ ?_
    · intro H2 e2
      exact ⟨e2, rfl, none, none, none, rfl⟩
    · rintro i x σ' H' H2 hi ⟨eH, hno, a, b, c, rfl⟩ e2
      obtain ⟨e, he, hX⟩ := hU.at hi
      have hil := (List.getElem?_eq_some_iff.mp he).1
      have e12 : Ex H1 H2 := eH.trans e2
      have hX2 : IsEnt H2 x e := hX.up e12
      have hU2 : Ents H2 (us.take i) (ls.take i) := ents_take i (hU.up e12)
      have hed : ls.getD i ent0 = e := by rw [List.getD_eq_getElem?_getD, he]; rfl
      refine s_forNLn (xs := us.take i) ?_ (fun p2 j σ2 H3 => Ex H2 H3 ∧ SqL K H3 p2 (us.take i) ∧ (((ls.take i).take j).any fun o => clash e o) = false ∧ ∃ c, σ2 = [some (.ref py), some (.ref p), some (.ref pl), some (.int (i : Int)), some x, c, none]) ?_ (fun p2 j σ2 H3 _ h => h.2.1) ?_ ?_
      · rw [← cut_take]
        exact el_sl (ev_var rfl) eo_none (eo_some (ev_var rfl)) (ex_l e12 hL1)
      · intro p2 H3 hp2 e3 h3
        exact ⟨e3, sq_of h3, rfl, c, rfl⟩
      · rintro p2 j z σ2 H3 hj ⟨e3, h3, hno2, c2, rfl⟩
        obtain ⟨o, ho, hO⟩ := hU2.at hj
        have hX3 := hX2.up e3
        have hO3 := hO.up e3
        refine s_when (b := decide (V.int e.t = V.int o.t) && decide (("write" : Str) ∈ [e.k, o.k])) ?_ (fun hb H4 e4 => ?_) (fun hb H4 e4 => ?_)
        · refine et_and (et_test (ev_eq (ev_e2 rfl hX3) (ev_e2 rfl hO3) rfl)) (fun _ => et_test ?_)
          rw [← inV_strs]
          exact ev_inN ev_c (ea_cons (ev_e1 rfl hX3) (ea_cons (ev_e1 rfl hO3) ea_nil)) (Nat.le_of_ble_eq_true rfl) rfl rfl
        · have hcl : clash e o = true := by
            unfold clash
            simp only [Bool.and_eq_true, decide_eq_true_eq, V.int.injEq] at hb ⊢
            exact hb
          have hbes : besideM ls = true := by
            unfold besideM
            refine List.any_eq_true.mpr ⟨i, List.mem_range.mpr hil, List.any_eq_true.mpr ⟨o, List.mem_of_getElem? ho, ?_⟩⟩
            rw [hed]
            exact hcl
          rw [if_pos hbes] at q
          exact s_ret ev_c (fun H5 e5 => q H5 (e1.trans (e12.trans (e3.trans (e4.trans e5)))))
        · have hcl : clash e o = false := by
            unfold clash
            simp only [Bool.and_eq_false_iff, decide_eq_false_iff_not, V.int.injEq] at hb ⊢
            exact hb
          refine ⟨e3.trans e4, ex_l e4 h3, ?_, some z, rfl⟩
          rw [List.take_add_one, ho, List.any_append, hno2]
          show (false || ([o].any fun o => clash e o)) = false
          rw [List.any_cons, hcl]
          rfl
      · rintro p2 σ2 H3 ⟨e3, h3, hno2, c2, rfl⟩
        refine ⟨e12.trans e3, ?_, some (.int (i : Int)), some x, c2, rfl⟩
        rw [any_range_succ, hno, hed]
        have hll : (us.take i).length = (ls.take i).length := hU2.len
        rw [hll, List.take_length] at hno2
        rw [hno2]
        rfl
    · rintro σ' H' ⟨eH, hno, a, b, c, rfl⟩
      have hbes : ¬ besideM ls = true := by
        unfold besideM
        rw [hul] at hno
        rw [hno]
        decide
      rw [if_neg hbes] at q
      have e0 : Ex H H' := e1.trans eH
      have hY' := hY.up e0
      have hL' := ex_l eH hL1
      have hU' := hU.up eH
      have hP' := ex_t e0 hP
      have hE' := hE.up e0
      clear e1 eH hL1 h1 hpl
      refine q_asg ev_c (fun H2 e2 => ?_)
      show (_ : L2.TS) _ [_, _, _, _, _, _, _] _
      have hY2 := hY'.up e2
      -- the hand of a look, of a change
      refine q_ifAsg (i := 6) (v := .str (if r.sees = true then handM r else "")) (b := r.sees) ?_ (fun hb => ?_) (fun hb => ?_) (fun H3 e3 => ?_)
      · rw [← tag_sees]
        walk_at "ev"
      · rw [if_pos hb]
        cases r with
        | look h => obtain ⟨p', hp1, hp2⟩ := hY2; cases hp1; exact ev_ixT (ev_var rfl) (st_of hp2) ev_c rfl
        | change h => obtain ⟨p', hp1, hp2⟩ := hY2; cases hp1; exact ev_ixT (ev_var rfl) (st_of hp2) ev_c rfl
        | _ => cases hb
      · rw [hb]
        rfl
      show (_ : L2.TS) _ [_, _, _, _, _, _, _] _
      have hY3 := hY2.up e3
      -- the hand of a lend's source
      refine q_ifAsg (i := 6) (v := .str (handM r)) (b := r.isLend && (match r with
        | .lend _ _ (.word _) => true
        | _ => false)) ?_ (fun hb => ?_) (fun hb => ?_) (fun H4 e4 => ?_)
      · rw [← tag_lend]
        cases r with
        | lend h k s =>
          obtain ⟨p', hp1, hp2⟩ := id hY3
          cases hp1
          refine et_and (et_test (ev_eq (ev_tag rfl hY3) ev_c rfl)) (fun _ => et_B ?_)
          cases s with
          | thing n => exact ev_isiI (ea_cons (ev_ixT (ev_var rfl) (st_of hp2) ev_c rfl) (ea_cons ev_c ea_nil)) (show kitB "int" "str" = some false by decide +kernel)
          | word u => exact ev_isiS (ea_cons (ev_ixT (ev_var rfl) (st_of hp2) ev_c rfl) (ea_cons ev_c ea_nil)) (show kitB "str" "str" = some true by decide +kernel)
        | _ => exact et_is (et_and (b := false) (et_test (ev_eq (ev_tag rfl hY3) ev_c rfl)) (fun hz => absurd hz (by simp [Rw.tag, tag_lend] <;> decide))) (Bool.and_false _)
      · cases r with
        | lend h k s =>
          cases s with
          | thing n => cases hb
          | word u => obtain ⟨p', hp1, hp2⟩ := hY3; cases hp1; exact ev_ixT (ev_var rfl) (st_of hp2) ev_c rfl
        | _ => cases hb
      · cases r with
        | lend h k s =>
          cases s with
          | thing n => rfl
          | word u => cases hb
        | _ => rfl
      show (_ : L2.TS) _ [_, _, _, _, _, _, _] _
      have e24 : Ex H' H4 := e2.trans (e3.trans e4)
      refine q_forT (K := K) (a := p) (xs := hv) (ev_var rfl) (ex_t e24 hP') (fun i σ2 H5 => Ex H4 H5 ∧ ((es.take i).any fun e => decide (e.w = handM r) && !e.o) = false ∧ ∃ b, σ2 = [some (.ref py), some (.ref p), some (.ref pl), a, b, c, some (.str (handM r))]) ?_ (fun i σ2 H5 _ h => ex_t (e24.trans h.1) hP') ?_ ?_
      · intro H5 e5
        exact ⟨e5, rfl, b, rfl⟩
      · rintro i x σ2 H5 hi ⟨e5, hno5, b5, rfl⟩
        obtain ⟨e, he, hX⟩ := hE'.at hi
        have hX5 : IsEnt H5 x e := hX.up (e24.trans e5)
        refine s_when (b := decide (V.str e.w = V.str (handM r)) && !e.o) ?_ (fun hb H6 e6 => ?_) (fun hb H6 e6 => ?_)
        · exact et_and (et_test (ev_eq (ev_e0 rfl hX5) (ev_var rfl) rfl)) (fun _ => et_not (et_B (ev_e4 rfl hX5)))
        · rw [dec_str] at hb
          have hany : (es.any fun e => decide (e.w = handM r) && !e.o) = true := List.any_eq_true.mpr ⟨e, List.mem_of_getElem? he, hb⟩
          rw [if_pos hany] at q
          exact s_ret ev_c (fun H7 e7 => q H7 (e0.trans (e24.trans (e5.trans (e6.trans e7)))))
        · rw [dec_str] at hb
          refine ⟨e5.trans e6, ?_, some x, rfl⟩
          rw [List.take_add_one, he, List.any_append, hno5]
          show (false || ([e].any fun e => decide (e.w = handM r) && !e.o)) = false
          rw [List.any_cons, hb]
          rfl
      · rintro σ2 H5 ⟨e5, hno5, b5, rfl⟩
        rw [hle, List.take_length] at hno5
        rw [if_neg (by rw [hno5]; decide)] at q
        have e25 : Ex H' H5 := e24.trans e5
        have hY5 := hY'.up e25
        refine q_when (b := r.sees && !decide (handM r ∈ ls.map Ent.w)) ?_ (fun hb H6 e6 => ?_) (fun hb H6 e6 => ?_)
        · rw [← tag_sees]
          refine et_and (et_test (ev_inN (ev_tag rfl hY5) (ea_cons ev_c (ea_cons ev_c ea_nil)) (Nat.le_of_ble_eq_true rfl) rfl rfl)) (fun _ => et_test ?_)
          have hml := el_mapL (K := K) (tl := tVar 2) (te := tOp (rIxT K) (tVar 4) (tC (.int 0))) (σ := [some (.ref py), some (.ref p), some (.ref pl), a, b5, c, some (.str (handM r))]) (j := 4) (ws := [4]) Ent.w (ev_var rfl) (ex_l e25 hL') (hU'.up e25) (by omega) (fun x => rfl) (fun x e H6 _ hx => ev_e0 rfl hx)
          rw [← inV_strs]
          exact ev_opL (ev_var rfl) hml fun _ _ hz _ => rv_niL (sq_of hz) rfl (flat_strs _)
        · rw [if_pos hb] at q
          exact s_ret ev_c (fun H7 e7 => q H7 (e0.trans (e25.trans (e6.trans e7))))
        · rw [if_neg (by rw [hb]; decide)] at q
          exact s_ret ev_c (fun H7 e7 => q H7 (e0.trans (e25.trans (e6.trans e7))))
theorem ev_fault {y x : V} {r : Rw} {es : List Ent} {ta : TA} {σ : L2.St} {H : Hp} {E : XK} (h : EvA ta σ H [y, x]) (hY : IsRow H y r) (hx : AHeld es x H) (hl : es.length ≤ 1000) : Ev (tCall (spFault K) [] E ta) σ H (.str (faultM r es)) :=
  ev_call h fun H1 e Q q E => ⟨y, x, r, es, rfl, hY.up e, hx.up e, hl, q⟩
end
end BD
namespace BD
open PySem PySem.Spec PyProof.Rows L2 Evl
/-! ### dicts whose keys are standings -/
abbrev SE := Int × List Ent
def entK (e : Ent) : NestedKey := .tup [.text e.w, .text e.k, .num e.t, .text e.s, .num (if e.o = true then 1 else 0)]
def stK (st : SE) : NestedKey := .tup [.num st.1, .tup (st.2.map entK)]
theorem entK_inj {a b : Ent} (h : entK a = entK b) : a = b := by
  obtain ⟨w, k, t, s, o⟩ := a
  obtain ⟨w', k', t', s', o'⟩ := b
  unfold entK at h
  simp only [NestedKey.tup.injEq, List.cons.injEq, NestedKey.text.injEq, NestedKey.num.injEq, and_true] at h
  obtain ⟨h1, h2, h3, h4, h5⟩ := h
  subst h1; subst h2; subst h3; subst h4
  cases o <;> cases o' <;> first | rfl | (simp at h5)
theorem entsK_inj : ∀ {as bs : List Ent}, as.map entK = bs.map entK → as = bs
  | [], [], _ => rfl
  | [], _ :: _, h => by simp at h
  | _ :: _, [], h => by simp at h
  | a :: as, b :: bs, h => by
    rw [List.map_cons, List.map_cons, List.cons.injEq] at h
    rw [entK_inj h.1, entsK_inj h.2]
theorem stK_inj {a b : SE} (h : stK a = stK b) : a = b := by
  obtain ⟨i, es⟩ := a
  obtain ⟨j, fs⟩ := b
  unfold stK at h
  simp only [NestedKey.tup.injEq, List.cons.injEq, NestedKey.num.injEq, and_true] at h
  rw [h.1, entsK_inj h.2]
theorem entsK_depth : ∀ es : List Ent, NestedKey.depthAll (es.map entK) ≤ 1
  | [] => Nat.zero_le _
  | e :: es => by
    have ih := entsK_depth es
    have h1 : (entK e).depth = 1 := rfl
    rw [List.map_cons]
    simp only [NestedKey.depthAll, h1]
    omega
theorem stK_depth (st : SE) : (stK st).depth ≤ 8 := by
  have h := entsK_depth st.2
  simp only [stK, NestedKey.depth, NestedKey.depthAll]
  omega
section
variable {P : Program} {w : World} {H : Hp} {h : Heap} {a : Addr}
theorem key_ent {v : V} {u : Value} {e : Ent} (ok : HOk P w H h) (hx : IsEnt H v e) (r : RelV v u) : NestedIs h (entK e) u := by
  obtain ⟨p, rfl, hp⟩ := hx
  obtain rfl : u = Value.ref p := r
  obtain ⟨_, its, rs, o, h1, h2, n, h3⟩ := (show ObjOk P w H h p (.tup e.vs) from ok p _ hp)
  refine .tup h1 h2 h3 ?_
  unfold Ent.vs at rs
  cases rs with
  | cons r1 rs =>
    cases rs with
    | cons r2 rs =>
      cases rs with
      | cons r3 rs =>
        cases rs with
        | cons r4 rs =>
          cases rs with
          | cons r5 rs =>
            cases rs
            obtain ⟨t1, rfl⟩ := r1
            obtain ⟨t2, rfl⟩ := r2
            obtain ⟨t3, rfl⟩ := r3
            obtain ⟨t4, rfl⟩ := r4
            cases r5
            exact .cons (.text _ _) (.cons (.text _ _) (.cons (.int _ _) (.cons (.text _ _) (.cons (.bool rfl) .nil))))
theorem key_ents (ok : HOk P w H h) : ∀ {vs : List V} {es : List Ent} {us : List Value}, Ents H vs es → Vals vs us → NestedAll h (es.map entK) us
  | _, _, _, .nil, r => by cases r; exact .nil
  | _, _, _, .cons hx hs, r => by
    cases r with
    | cons r1 rs => exact .cons (key_ent ok hx r1) (key_ents ok hs rs)
theorem key_std {st : SE} (ok : HOk P w H h) (hx : AStand st.1 st.2 (.ref a) H) : (nestedKind P w).is h (stK st) a := by
  obtain ⟨p, q, vs, e, h1, h2, h3⟩ := hx
  cases e
  refine ⟨?_, stK_depth st⟩
  obtain ⟨_, its, rs, o, g1, g2, n, g3⟩ := (show ObjOk P w H h a (.tup [.int st.1, .ref q]) from ok a _ h1)
  refine .tup g1 g2 g3 ?_
  cases rs with
  | cons r1 rs =>
    cases rs with
    | cons r2 rs =>
      cases rs
      obtain ⟨t1, rfl⟩ := r1
      cases r2
      obtain ⟨_, its2, rs2, o2, k1, k2, n2, k3⟩ := (show ObjOk P w H h q (.tup vs) from ok q _ h2)
      exact .cons (.int _ _) (.cons (.tup k1 k2 k3 (key_ents ok h3 (by simpa using rs2))) .nil)
end
/-- what a value is: None, True, False or an object -/
def plainV : V → Bool
  | .non => true | .bl _ => true | .ref _ => true | _ => false
def valOf : V → Value
  | .bl b => .bool b
  | .ref a => .ref a
  | _ => .none
theorem rel_valOf {v : V} (h : plainV v = true) : RelV v (valOf v) := by
  cases v <;> first | rfl | (cases h)
theorem valOf_of {v : V} {u : Value} (h : plainV v = true) (r : RelV v u) : u = valOf v := by
  cases v with
  | non => exact r
  | bl b => exact r
  | ref a => exact r
  | _ => cases h
abbrev SX := SE × Addr × V
def rawS (x : SX) : NestedKey × Addr × Value := (stK x.1, x.2.1, valOf x.2.2)
def NDict (P : Program) (w : World) (d : Addr) (ep : Nat) (kvs : List SX) : HO := .ext fun h => (d == sysModules) = false ∧ ∃ (o : Obj) (es : Array DictEntry), h.get? d = some o ∧ o.ExactDict ∧ o.data = .dict es ep ∧ es.toList = (kvs.map rawS).map (entryOfKey (nestedKind P w))
structure SD (P : Program) (w : World) (H : Hp) (d : Addr) (ep : Nat) (kvs : List SX) : Prop where
  at_ : H d = some (NDict P w d ep kvs)
  keys : ∀ x ∈ kvs, AStand x.1.1 x.1.2 (.ref x.2.1) H
  nd : (kvs.map (·.1)).Nodup
  plain : ∀ x ∈ kvs, plainV x.2.2 = true
  len : kvs.length ≤ 100000
theorem SD.upX {P : Program} {w : World} {H H' : Hp} {d : Addr} {ep : Nat} {kvs : List SX} (S : SD P w H d ep kvs) (e : Ex H H') : SD P w H' d ep kvs := ⟨e _ _ S.at_, fun x hx => (S.keys x hx).up e, S.nd, S.plain, S.len⟩
/-- other objects may change -/
theorem SD.upT {P : Program} {w : World} {H H' : Hp} {d : Addr} {ep : Nat} {kvs : List SX} (S : SD P w H d ep kvs) (e : ExT H H') (hd : H' d = some (NDict P w d ep kvs)) : SD P w H' d ep kvs := ⟨hd, fun x hx => (S.keys x hx).upT e, S.nd, S.plain, S.len⟩
def lkS (kvs : List SX) (st : SE) : Option (Addr × V) := (kvs.find? fun x => decide (stK x.1 = stK st)).map (·.2)
theorem lkS_at (kvs : List SX) (st : SE) : atKey (kvs.map rawS) (stK st) = (lkS kvs st).map fun p => (p.1, valOf p.2) := by
  unfold atKey lkS
  rw [List.find?_map]
  have e : ((fun x : NestedKey × Addr × Value => decide (x.1 = stK st)) ∘ rawS) = fun x : SX => decide (stK x.1 = stK st) := rfl
  rw [e]
  cases (kvs.find? fun x : SX => decide (stK x.1 = stK st)) <;> rfl
theorem lkS_none {kvs : List SX} {st : SE} (h : lkS kvs st = none) : st ∉ kvs.map (·.1) := fun z => by
  obtain ⟨x, hx, hs⟩ := List.mem_map.mp z
  unfold lkS at h
  rw [Option.map_eq_none_iff, List.find?_eq_none] at h
  exact h x hx (decide_eq_true (by rw [hs]))
theorem lkS_some {kvs : List SX} {st : SE} {p : Addr × V} (h : lkS kvs st = some p) : (st, p) ∈ kvs := by
  unfold lkS at h
  obtain ⟨x, hx, hp⟩ := Option.map_eq_some_iff.mp h
  have h1 := List.mem_of_find?_eq_some hx
  have h0 : (fun x : SX => decide (stK x.1 = stK st)) x = true := List.find?_some (p := fun x : SX => decide (stK x.1 = stK st)) hx
  have h2 := stK_inj (of_decide_eq_true h0)
  obtain ⟨s, q⟩ := x
  dsimp only at h2 hp
  rw [← h2, ← hp]
  exact h1
theorem lkS_mem {kvs : List SX} (nd : (kvs.map (·.1)).Nodup) {x : SX} (h : x ∈ kvs) : lkS kvs x.1 = some x.2 := by
  unfold lkS
  induction kvs with
  | nil => cases h
  | cons y t ih =>
    rw [List.map_cons, List.nodup_cons] at nd
    rw [List.find?_cons]
    rcases List.mem_cons.mp h with z | z
    · rw [z, decide_eq_true rfl]
      rfl
    · have : ¬ stK y.1 = stK x.1 := fun e => nd.1 (by rw [stK_inj e]; exact List.mem_map.mpr ⟨x, z, rfl⟩)
      rw [decide_eq_false this]
      exact ih nd.2 z
theorem lkS_has {kvs : List SX} (nd : (kvs.map (·.1)).Nodup) {st : SE} : (lkS kvs st).isSome = true ↔ st ∈ kvs.map (·.1) := by
  constructor
  · intro h
    obtain ⟨p, hp⟩ := Option.isSome_iff_exists.mp h
    exact List.mem_map.mpr ⟨_, lkS_some hp, rfl⟩
  · intro h
    obtain ⟨x, hx, hs⟩ := List.mem_map.mp h
    rw [← hs, lkS_mem nd hx]
    rfl
section
variable {P : Program} {w : World} {H H' : Hp} {h h' : Heap} {d : Addr} {ep : Nat} {kvs : List SX}
theorem SD.dict (S : SD P w H d ep kvs) (ok : HOk P w H h) : h.DictOfH (nestedKind P w) d (kvs.map rawS) := by
  obtain ⟨⟨_, o, es, h1, h2, h3, h4⟩, _⟩ := ok d _ S.at_
  refine ⟨o, es, ep, h1, h2, h3, h4, fun x hx => ?_, ?_⟩
  · obtain ⟨y, hy, rfl⟩ := List.mem_map.mp hx
    exact key_std ok (S.keys y hy)
  · have e : (kvs.map rawS).map (·.1) = (kvs.map (·.1)).map stK := by rw [List.map_map, List.map_map]; rfl
    rw [e]
    have inj : ∀ {l : List SE}, l.Nodup → (l.map stK).Nodup := fun {l} hl => by
      induction l with
      | nil => exact List.nodup_nil
      | cons a t ih =>
        rw [List.nodup_cons] at hl
        rw [List.map_cons, List.nodup_cons]
        refine ⟨fun z => ?_, ih hl.2⟩
        obtain ⟨b, hb, hab⟩ := List.mem_map.mp z
        rw [stK_inj hab] at hb
        exact hl.1 hb
    exact inj S.nd
theorem SD.sys (S : SD P w H d ep kvs) (ok : HOk P w H h) : (d == sysModules) = false := (ok d _ S.at_).1.1
theorem nd_new (hs : (d == sysModules) = false) (dd : h'.DictOfH (nestedKind P w) d (kvs.map rawS)) : ∃ ep', ObjOk P w H' h' d (NDict P w d ep' kvs) := by
  obtain ⟨o, es, ep, h1, h2, h3, h4, _⟩ := dd
  exact ⟨ep, ⟨hs, o, es, h1, h2, h3, h4⟩, ⟨o, h1⟩, fun h1 h2 ⟨a, o, es, e, r⟩ k => ⟨a, o, es, k _ e, r⟩⟩
theorem nd_empty (H : Hp) (h : Heap) (hb : sysModules < h.objs.size) : ObjOk P w H (h.push { cls := .type "dict", data := .dict #[] }) h.objs.size (NDict P w h.objs.size 0 []) :=
  ⟨⟨beq_eq_false_iff_ne.mpr (Ne.symm (Nat.ne_of_lt hb)), _, #[], Heap.get?_push_size _ rfl, ⟨rfl, rfl, rfl⟩, rfl, rfl⟩, ⟨_, Heap.get?_push_size _ rfl⟩, fun h1 h2 ⟨a, o, es, e, r⟩ k => ⟨a, o, es, k _ e, r⟩⟩
theorem nd_nil (hp : H d = some (NDict P w d ep [])) : SD P w H d ep [] := ⟨hp, (fun x hx => nomatch hx), List.nodup_nil, (fun x hx => nomatch hx), Nat.zero_le _⟩
theorem SD.add {st : SE} {a : Addr} {v : V} {ep' : Nat} (S : SD P w H d ep kvs) (hx : AStand st.1 st.2 (.ref a) H) (hn : lkS kvs st = none) (hv : plainV v = true) (hl : kvs.length < 100000) : SD P w (upd H d (NDict P w d ep' (kvs ++ [(st, a, v)]))) d ep' (kvs ++ [(st, a, v)]) := by
  have eT : ExT H (upd H d (NDict P w d ep' (kvs ++ [(st, a, v)]))) := fun b us hb => by
    by_cases hbd : b = d
    · rw [hbd, S.at_] at hb
      cases hb
    · rw [upd_ne hbd]
      exact hb
  refine ⟨upd_same, fun x hx' => ?_, ?_, fun x hx' => ?_, by rw [List.length_append]; show kvs.length + 1 ≤ _; omega⟩
  · rcases List.mem_append.mp hx' with z | z
    · exact (S.keys x z).upT eT
    · rcases List.mem_singleton.mp z with rfl
      exact hx.upT eT
  · rw [List.map_append]
    refine List.nodup_append.mpr ⟨S.nd, by simp, fun p hp q hq => ?_⟩
    rcases List.mem_singleton.mp hq with rfl
    exact fun z => lkS_none hn (by rw [← z]; exact hp)
  · rcases List.mem_append.mp hx' with z | z
    · exact S.plain x z
    · rcases List.mem_singleton.mp z with rfl
      exact hv
end
/-! ### the rules -/
def rNin (P : Program) (w : World) : R2 := fun x y H Q => ∃ (a d : Addr) (ep : Nat) (kvs : List SX) (st : SE), x = .ref a ∧ y = .ref d ∧ SD P w H d ep kvs ∧ AStand st.1 st.2 x H ∧ Q (.bl (!(lkS kvs st).isSome)) H
def tNGet (P : Program) (w : World) (td ty : TE) : TE := fun σ H Q => td σ H fun x H1 => ty σ H1 fun y H2 => ∃ (d a b : Addr) (ep : Nat) (kvs : List SX) (st : SE) (v : V), x = .ref d ∧ y = .ref a ∧ SD P w H2 d ep kvs ∧ AStand st.1 st.2 y H2 ∧ lkS kvs st = some (b, v) ∧ Q v H2
def sNPut (P : Program) (w : World) (td ty tv : TE) : TS := fun D σ H => tv σ H fun v H1 => td σ H1 fun x H2 => ty σ H2 fun y H3 => ∃ (d a : Addr) (ep : Nat) (kvs : List SX) (st : SE), x = .ref d ∧ y = .ref a ∧ SD P w H3 d ep kvs ∧ AStand st.1 st.2 y H3 ∧ lkS kvs st = none ∧ plainV v = true ∧ kvs.length < 100000 ∧
  ∀ ep', D.nx σ (upd H3 d (NDict P w d ep' (kvs ++ [(st, a, v)])))
def tNNew (P : Program) (w : World) : TE := fun _ H Q => ∀ p, H p = none → Q (.ref p) (upd H p (NDict P w p 0 []))
def tNDisp (P : Program) (w : World) (tk tv : TE) : TE := fun σ H Q => ∀ p, H p = none → tk σ (upd H p (NDict P w p 0 [])) fun x H1 => tv σ H1 fun v H2 => ∃ x' v', [(x, v)] = [(x', v')] ∧ ∃ (a : Addr) (st : SE), x' = .ref a ∧ H2 p = some (NDict P w p 0 []) ∧ AStand st.1 st.2 x' H2 ∧ plainV v' = true ∧ ∀ ep', Q (.ref p) (upd H2 p (NDict P w p ep' [(st, a, v')]))
def Itn (P : Program) (w : World) (d : Addr) (ep : Nat) (kvs : List SX) : It := ⟨fun i H => H d = some (NDict P w d ep kvs) ∧ i < kvs.length, fun i H x H' => H' = H ∧ ∃ y, kvs[i]? = some y ∧ x = .ref y.2.1, fun i H => H d = some (NDict P w d ep kvs) ∧ kvs.length ≤ i⟩
def iNKeys (P : Program) (w : World) (td : TE) : TI := fun σ H R => td σ H fun x H1 => ∃ d ep kvs, x = .ref d ∧ H1 d = some (NDict P w d ep kvs) ∧ R (Itn P w d ep kvs) H1
section
variable {X : Cx} {k : Nat}
theorem nroom (hr : Room k X.A) : (nestedKind X.prog X.w).room X.A.in1 := by
  have := hr.un
  have e : cLine = cLine := rfl
  show X.A.units + 1 + 8 < cLine
  omega
theorem nroom0 (hr : Room k X.A) : (nestedKind X.prog X.w).room X.A := by
  have := hr.un
  show X.A.units + 8 < cLine
  omega
theorem op_nin (hr : Room k X.A) : OpR X (compareOp .NotIn) (rNin X.prog X.w) := by
  intro pins s σ H x y v u Q I rx ry h
  obtain ⟨a, d, ep, kvs, st, rfl, rfl, S, hx, q⟩ := h
  cases rx
  cases ry
  refine wpAny_notIn_heap (nroom hr) (key_std I.hok hx) (S.sys I.hok) (S.dict I.hok) ⟨.bl (!(lkS kvs st).isSome), H, I.tok _, ?_, q⟩
  rw [lkS_at]
  cases lkS kvs st <;> rfl
variable {o i e value : Expr} {pos pos' : Pos} {td ty tv tk : TE}
theorem pe_nget (hr : Room k X.A) (ho : PE X o td) (hi : PE X i ty) (hs : NoSl i) : PE X (.Subscript o i pos) (tNGet X.prog X.w td ty) := by
  refine ⟨fun pins s σ H Q I h => ?_⟩
  refine subD_of PySem.F.slot_dict_getitem.lookup hs (thn (ho.run pins s σ H _ I h) fun u s1 ⟨x, H1, I1, rx, q1⟩ => thn (hi.run pins s1 σ H1 _ I1 q1) fun iv s2 ⟨y, H2, I2, ry, d, a, b, ep, kvs, st, v, ex, ey, S, hx, l, q2⟩ => ?_)
  subst ex
  subst ey
  obtain rfl : u = Value.ref d := rx
  obtain rfl : iv = Value.ref a := ry
  have dd := S.dict I2.hok
  have hp : atKey (kvs.map rawS) (stK st) = some (b, valOf v) := by rw [lkS_at, l]; rfl
  exact ⟨dd.typeIs, wpAny_getItem_heap (nroom hr) (key_std I2.hok hx) dd hp ⟨v, H2, I2.tok _, rel_valOf (S.plain _ (lkS_some l)), q2⟩⟩
theorem ps_nput (hr : Room k X.A) (ho : PE X o td) (hi : PE X i ty) (hv : PE X value tv) (hs : swapsWith value (some (.Subscript o i pos')) pos.line X.env = pure false) :
    PS X (.Assign [.Subscript o i pos'] value pos) (sNPut X.prog X.w td ty tv) := by
  refine ⟨fun pins s σ H D I h => ?_⟩
  refine wpAny_Assign_Subscript (thn (hv.run pins s σ H _ I h) fun r s1 ⟨v, H1, I1, rv, q1⟩ => thn (ho.run pins s1 σ H1 _ I1 q1) fun u s2 ⟨x, H2, I2, rx, q2⟩ => thn (hi.run pins s2 σ H2 _ I2 q2) fun iv s3 ⟨y, H3, I3, ry, d, a, ep, kvs, st, ex, ey, S, hx, l, hv, hl, q3⟩ => ?_) hs
  subst ex
  subst ey
  obtain rfl : u = Value.ref d := rx
  obtain rfl : iv = Value.ref a := ry
  obtain rfl := valOf_of hv rv
  have hz : (kvs.map rawS).length ≤ sizeLine := by
    rw [List.length_map]
    exact Nat.le_trans S.len (by decide)
  refine wpAny_setItem_heap (hsz := hz) (nroom hr) (key_std I3.hok hx) (S.dict I3.hok) fun h' dd' hs => ?_
  have e : storedH (kvs.map rawS) (stK st) a (valOf v) = (kvs ++ [(st, a, v)]).map rawS := by
    rw [storedH_new (by rw [lkS_at, l]; rfl), List.map_append]
    rfl
  rw [e] at dd'
  obtain ⟨ep', new⟩ := nd_new (H' := upd H3 d (NDict X.prog X.w d 0 [])) (S.sys I3.hok) dd'
  obtain ⟨ob, _, _, hq, _⟩ := id dd'
  refine ⟨σ, _, d_write (ob := NDict X.prog X.w d ep' (kvs ++ [(st, a, v)])) I3 (by rw [S.at_]; exact True.intro) hs ⟨ob, hq⟩ new, q3 ep'⟩
theorem pe_nnew : PE X (.Dict [] [] pos) (tNNew X.prog X.w) := ⟨fun pins s σ H Q I h =>
  wpAny_Dict_empty ⟨.ref s.heap.objs.size, _, I.laid (a := s.heap.objs.size) (o := NDict X.prog X.w s.heap.objs.size 0 []) (t' := s.toks) (fun _ _ q => Heap.get?_push_of_some _ q) (Nat.le_refl _) (nd_empty _ s.heap I.big), rfl, h _ (I.hok.fresh (Nat.le_refl _))⟩⟩
theorem pe_ndisp {ke ve : Expr} (hr : Room k X.A) (hk : PE X ke tk) (hv : PE X ve tv) : PE X (.Dict [some ke] [ve] pos) (tNDisp X.prog X.w tk tv) := by
  refine ⟨fun pins s σ H Q I q => ?_⟩
  have hn := I.hok.fresh (Nat.le_refl s.heap.objs.size)
  have I1 := I.laid (a := s.heap.objs.size) (o := NDict X.prog X.w s.heap.objs.size 0 []) (h' := s.heap.push { cls := .type "dict", data := .dict #[] }) (t' := s.toks) (fun _ _ q => Heap.get?_push_of_some _ q) (Nat.le_refl _) (nd_empty _ s.heap I.big)
  refine wpAny_Dict_any rfl rfl (by simp) (Nat.le_of_ble_eq_true rfl) (thn ((pps_cons hk hv pps_nil).run pins _ σ _ (fun ps H2 => ∃ x v, ps = [(x, v)] ∧ ∃ (a : Addr) (st : SE), x = .ref a ∧ H2 s.heap.objs.size = some (NDict X.prog X.w s.heap.objs.size 0 []) ∧ AStand st.1 st.2 x H2 ∧ plainV v = true ∧ ∀ ep', Q (.ref s.heap.objs.size) (upd H2 s.heap.objs.size (NDict X.prog X.w s.heap.objs.size ep' [(st, a, v)]))) I1 ?_) fun ws s2 ⟨ps, H2, I2, rel, x, v, ep, a, st, ex, hd, hx, hpl, q2⟩ => ?_)
  · exact q _ hn
  · subst ep
    subst ex
    cases rel with
    | @cons _ b _ bs r t =>
      cases t
      obtain ⟨b1, b2⟩ := b
      obtain ⟨r1, r2⟩ := r
      obtain rfl : b1 = Value.ref a := r1
      obtain rfl := valOf_of hpl r2
      have S := nd_nil hd
      have sy := S.sys I2.hok
      unfold storeAll
      rw [List.forIn_cons]
      refine wpAny_bind (wpAny_bind (wpAny_dictSet_heap (xs := []) (hsz := Nat.zero_le _) (nroom0 hr) (key_std I2.hok hx) (S.dict I2.hok) fun h' dd' hs => wpAny_pure ?_))
      show wpAny _ _ (forIn [] PUnit.unit _) _ _ _
      rw [List.forIn_nil]
      refine wpAny_pure ?_
      have dd2 : h'.DictOfH (nestedKind X.prog X.w) s.heap.objs.size ([(st, a, v)].map rawS) := dd'
      obtain ⟨ep', new⟩ := nd_new (H' := upd H2 s.heap.objs.size (NDict X.prog X.w s.heap.objs.size 0 [])) sy dd2
      obtain ⟨ob, _, _, hq, _⟩ := id dd2
      exact ⟨.ref s.heap.objs.size, _, d_write (ob := NDict X.prog X.w s.heap.objs.size ep' [(st, a, v)]) I2 (by rw [hd]; exact True.intro) hs ⟨ob, hq⟩ new, rfl, q2 ep'⟩
end
/-! ### for st in d -/
section
variable {P : Program} {w : World} {K : PySem.W.Frag} {tg : Expr}
theorem turn_nkeys {kvs : List SX} {d : Addr} {ep : Nat} (it : Addr) : Turn P w K tg (Itn P w d ep kvs) [it] it (fun i h => h.IsKeyIter it d i kvs.length ep) where
  mem := by simp
  obj := fun i h st b hb => by
    have e : b = it := by simpa using hb
    subst e
    obtain ⟨oi, e, c, dd⟩ := st
    exact ⟨oi, e, fun v z => by rw [dd] at z; cases z⟩
  keep := fun i h h' st k => st.at fun oi e => k it (by simp) oi e
  item := by
    intro X hP hw hK hc i pins s σ H E I hf st hg
    subst hP hw hK
    obtain ⟨hd, hi⟩ := hg
    obtain ⟨f0, f1, f2, f3, f4, f5⟩ := hf it (by simp)
    obtain ⟨⟨_, o, es, hgd, hx, hdt, he⟩, _⟩ := I.hok d _ hd
    have hsz : es.size = kvs.length := by
      have := congrArg List.length he
      simpa using this
    have hen : es[i]? = some (entryOfKey (nestedKind X.prog X.w) (rawS kvs[i])) := by
      rw [← Array.getElem?_toList, he, List.getElem?_map, List.getElem?_map, List.getElem?_eq_getElem hi]
      rfl
    refine next_key_item st hgd hdt hsz hen fun h' st' sb => ?_
    have I1 : Inv X pins σ H { s with heap := h' } := I.turned (t' := s.toks) (fun b ob hb e => (sb.2 b hb).trans e) f0 f1 f3 f4 f5
    obtain ⟨oi, e, c, dd⟩ := id st'
    exact ⟨_, rfl, go_of (s := { s with heap := h' }) e c dd (by decide) ⟨.ref kvs[i].2.1, H, I1, rfl, ⟨rfl, kvs[i], List.getElem?_eq_getElem hi, rfl⟩, st', fun b hb => (hf b hb).1⟩⟩
  done := by
    intro X hP hw hK hc i pins s σ H E I hf st hg
    subst hP hw hK
    obtain ⟨hd, hi⟩ := hg
    obtain ⟨f0, f1, f2, f3, f4, f5⟩ := hf it (by simp)
    obtain ⟨⟨_, o, es, hgd, hx, hdt, he⟩, _⟩ := I.hok d _ hd
    have hsz : es.size = kvs.length := by
      have := congrArg List.length he
      simpa using this
    exact next_key_end (I.ok.hd hc) st hgd hdt hsz hi fun h' eb => ⟨rfl, I.turned (t' := s.toks) (fun b ob hb e => eb b ob hb e) f0 f1 f3 f4 f5⟩
  self := fun A i s Q E st h => by
    refine wpAny_pyIter_slot st.typeIs F.slot_dict_keyiterator_iter (wpAny_call_entry F.slot_dict_keyiterator_iter st.typeIs F.entry_dict_keyiterator_iter ?_ (F.args_dict_keyiterator_iter_1 _))
    show wpAny _ _ (ret (.ref it)) _ _ s
    exact wpAny_pure ⟨_, rfl, "dict_keyiterator", _, st.typeIs, F.slot_dict_keyiterator_next.lookup, h⟩
end
section
variable {X : Cx} {tg e : Expr} {td : TE}
theorem pi_nkeys (he : PE X e td) : PI X tg e (iNKeys X.prog X.w td) := by
  refine ⟨fun pins s σ H R I h => ?_⟩
  refine thn (he.run pins s σ H _ I h) fun u s1 ⟨x, H1, I1, rx, d, ep, kvs, ex, hd, q⟩ => ?_
  subst ex
  obtain rfl : u = Value.ref d := rx
  obtain ⟨⟨hs, o, es, hgd, hx, hdt, he⟩, _⟩ := I1.hok d _ hd
  have hsz : es.size = kvs.length := by
    have := congrArg List.length he
    simpa using this
  refine iter_keys hs hgd hx hdt (pi_one (tk := s1.toks) I1 _ (turn_nkeys _) ⟨_, Heap.get?_push_size _ rfl, rfl, ?_⟩ q)
  rw [hsz] <;> rfl
end
/-! ### in short -/
section
variable {P : Program} {w : World} {K : PySem.W.Frag} {σ : L2.St} {H : Hp} {ta tb td te : TE} {D : Ends} {tz tu : TS} {d a : Addr} {ep : Nat} {kvs : List SX} {st : SE}
/-- st not in d -/
theorem ev_nin (ha : Ev ta σ H (.ref a)) (hx : AStand st.1 st.2 (.ref a) H) (hb : Ev tb σ H (.ref d)) (S : SD P w H d ep kvs) : Ev (tOp (rNin P w) ta tb) σ H (.bl (!(lkS kvs st).isSome)) :=
  ev_op ha hb (rv_val fun H1 e Q q => ⟨a, d, ep, kvs, st, rfl, rfl, S.upX e, hx.up e, q⟩)
theorem ev_nget {b : Addr} {v : V} (h : Ev td σ H (.ref d)) (S : SD P w H d ep kvs) (ha : Ev ta σ H (.ref a)) (hx : AStand st.1 st.2 (.ref a) H) (hl : lkS kvs st = some (b, v)) : Ev (tNGet P w td ta) σ H v := fun H1 e Q q =>
  h H1 e _ fun H2 e2 => ha H2 (e.trans e2) _ fun H3 e3 => ⟨d, a, b, ep, kvs, st, v, rfl, rfl, S.upX (e.trans (e2.trans e3)), hx.up (e.trans (e2.trans e3)), hl, q H3 (e2.trans e3)⟩
/-- d[st] = v, st new there -/
theorem s_nput {R : V → Hp → Prop} (hv : EvP te σ H R) (h : Ev td σ H (.ref d)) (S : SD P w H d ep kvs) (ha : Ev ta σ H (.ref a)) (hx : AStand st.1 st.2 (.ref a) H) (hl : lkS kvs st = none) (hz : kvs.length < 100000) (hp : ∀ v H1, R v H1 → plainV v = true)
    (k : ∀ v H1 ep', Ex H H1 → R v H1 → SD P w (upd H1 d (NDict P w d ep' (kvs ++ [(st, a, v)]))) d ep' (kvs ++ [(st, a, v)]) → D.nx σ (upd H1 d (NDict P w d ep' (kvs ++ [(st, a, v)])))) (hR : ∀ v H1 H2, Ex H1 H2 → R v H1 → R v H2) : sNPut P w td ta te D σ H :=
  hv H (Ex.refl H) _ fun v H1 e1 hr => h H1 e1 _ fun H2 e2 => ha H2 (e1.trans e2) _ fun H3 e3 =>
    have e03 := e1.trans (e2.trans e3)
    ⟨d, a, ep, kvs, st, rfl, rfl, S.upX e03, hx.up e03, hl, hp v H1 hr, hz, fun ep' => k v H3 ep' e03 (hR v H1 H3 (e2.trans e3) hr) ((S.upX e03).add (hx.up e03) hl (hp v H1 hr) hz)⟩
/-- x = {} -/
theorem q_nnew {i : Nat} (k : ∀ p H1, H p = none → Ex H H1 → SD P w H1 p 0 [] → H1 = upd H p (NDict P w p 0 []) → tz D (σ.set i (some (.ref p))) H1) : tSeq (tAsg (tNNew P w) (gName i)) tz D σ H := fun p hp =>
  k p _ hp (Ex.new hp) (nd_nil upd_same) rfl
end
end BD
namespace BD
open PySem PySem.Spec PyProof.Rows L2 Evl
local macro_rules | `(tactic| walk_at "ev") => `(tactic| first
  | ((with_reducible apply ev_var) ; rfl)
  | with_reducible exact ev_c
  | ((with_reducible apply ev_I0) <;> walk_at "ev")
  | ((with_reducible apply ev_e9) <;> walk_at "ev")
  | ((with_reducible apply ev_I) <;> walk_at "ev")
  | ((with_reducible apply ev_eq) <;> walk_at "ev")
  | ((with_reducible apply ev_ne) <;> walk_at "ev")
  | ((with_reducible apply ev_neg) <;> walk_at "ev")
  | ((with_reducible apply ev_ixN) <;> walk_at "ev")
  | ((with_reducible apply ev_ixL) <;> walk_at "ev")
  | ((with_reducible apply ev_inN) <;> walk_at "ev")
  | ((with_reducible apply ev_inT) <;> walk_at "ev")
  | ((with_reducible apply ev_ixT) <;> walk_at "ev")
  | ((with_reducible apply ev_ixS) <;> walk_at "ev")
  | ((with_reducible apply ev_len') <;> walk_at "ev")
  | ((with_reducible apply et_test) <;> walk_at "ev")
  | ((with_reducible apply et_and) <;> walk_at "ev")
  | ((with_reducible apply et_or) <;> walk_at "ev")
  | ((with_reducible apply et_not) <;> walk_at "ev")
  | ((with_reducible apply et_B) <;> walk_at "ev")
  | ((with_reducible apply el_lst) <;> walk_at "ev")
  | ((with_reducible apply eu_tup) <;> walk_at "ev")
  | ((with_reducible apply ea_cons) <;> walk_at "ev")
  | with_reducible exact ea_nil
  | with_reducible assumption
  | ((with_reducible apply ex_l' ; assumption) ; walk_at "ex")
  | ((with_reducible apply ex_t' ; assumption) ; walk_at "ex")
  | (intro _ ; walk_at "ev")
  | (with_reducible first | exact atI_hd | exact at_kind | exact at2s | exact at3s | exact at3i)
  | (first | exact rfl | exact Nat.le_of_ble_eq_true rfl | exact ⟨by decide, by decide⟩ | decide | exact Or.inl ⟨by omega, by omega⟩ | exact Or.inr ⟨by omega, by omega⟩ | omega)
  | skip)
local macro_rules | `(tactic| walk_at "ex") => `(tactic| first
  | assumption
  | exact Ex.refl _
  | (refine' Ex.trans ?_ (by assumption) ; walk_at "ex"))
local macro_rules | `(tactic| walk_at "row") => `(tactic| first
  | (with_reducible exact er_nil)
  | ((with_reducible apply er_cons) <;> walk_at "row")
  | (((with_reducible apply er_var) ; rfl) ; walk_at "isrow")
  | (((with_reducible apply elr_var) ; rfl) ; walk_at "isrow")
  | ((with_reducible apply elr_cat) <;> walk_at "row")
  | ((with_reducible apply elr_lst) <;> walk_at "row")
  | ((with_reducible apply er_fin) <;> walk_at "ev")
  | ((with_reducible apply er_lendT) <;> walk_at "ev")
  | ((with_reducible apply er_lendW) <;> walk_at "ev")
  | ((with_reducible apply er_pick) <;> walk_at "ev")
  | ((with_reducible apply er_either) <;> walk_at "ev")
  | ((with_reducible apply er_or) <;> walk_at "ev")
  | ((with_reducible apply er_again) <;> walk_at "ev")
  | ((with_reducible apply er_back) <;> walk_at "ev")
  | ((with_reducible apply er_look) <;> walk_at "ev")
  | ((with_reducible apply er_change) <;> walk_at "ev")
  | exact Nat.le_of_ble_eq_true rfl
  | skip)
local macro_rules | `(tactic| walk_at "isrow") => `(tactic| first
  | assumption
  | (refine IsRow.up ?_ (by assumption) ; walk_at "ex")
  | (refine LRows.up ?_ (by assumption) ; walk_at "ex"))

local macro_rules | `(tactic| walk_at "ev") => `(tactic| (((with_reducible apply ev_tag) ; rfl) ; walk_at "isrow"))
abbrev s_opens : Stmt := topS 2
theorem sc_opens : FnScope ["row"] ["row"] (defScope s_opens) := ⟨rfl, rfl, rfl, by decide +kernel, rfl, by decide +kernel, by decide +kernel⟩
abbrev s_Blocks_init : Stmt := inClass (topS 3) 0
theorem sc_Blocks_init : FnScope ["self", "rows", "opened", "at", "row", "home"] ["self", "rows"] (defScope s_Blocks_init) := ⟨rfl, rfl, rfl, by decide +kernel, rfl, by decide +kernel, by decide +kernel⟩
/-- a class whose __init__ keeps a promise -/
structure HasC (P : Program) (w : World) (K : PySem.W.Frag) (mg : Str → Option Value) (base : Heap) (x : Str) (C : Addr) (k : Nat) (ps : List Str) (sp : Sp) : Prop where
  ex : ∃ f fd, FnOk P w K mg base CX0 k f fd ps sp ∧ Mk K C f ∧ mg x = some (.ref C) ∧ Binds K fd ps []
theorem pe_cls {X : Cx} {x : Str} {C : Addr} {k : Nat} {ps : List Str} {sp : Sp} {e : Expr} {es : List Expr} {p pos : Pos} {t : TA} (h : HasC X.prog X.w X.K X.mg X.base x C k ps sp) (hr : Room (k + 1) X.A) (hg : Gl X x) (ha : PA X (e :: es) t)
    (hdb : (x == ("__debug__" : Str)) = false := by decide) (he : starEach (e :: es) X.env = (false, eval e X.env) :: starEach es X.env := by rfl) (hpl : (backTo pos (starEach es X.env)).any (·.1) = false := by rfl) :
    PE X (.Call (.Name x p) (e :: es) [] pos) (tMake C sp [] E0 t) := by
  obtain ⟨f, fd, F, M, m, b⟩ := h.ex
  exact pe_make M F hr hg m b .nil pass0 ha hdb he hpl
/-- what the class is -/
structure BlkC (K : PySem.W.Frag) (C : Addr) : Prop where
  cl : Cls K C
  nA : NoAttr K C "around"
  nC : NoAttr K C "closing"
  nF : NoAttr K C "firsts"
def flds (pa pc pf : Addr) : List (Str × V) := putF "firsts" (.ref pf) (putF "closing" (.ref pc) (putF "around" (.ref pa) []))
theorem neAC : ¬ (("around" : Str) = "closing") := by decide +kernel
theorem neAF : ¬ (("around" : Str) = "firsts") := by decide +kernel
theorem neCF : ¬ (("closing" : Str) = "firsts") := by decide +kernel
theorem flds_a (pa pc pf : Addr) : (flds pa pc pf).lookup ("around" : Str) = some (.ref pa) := by
  unfold flds
  rw [lookup_putF, if_neg neAF, lookup_putF, if_neg neAC, lookup_putF, if_pos rfl]
theorem flds_c (pa pc pf : Addr) : (flds pa pc pf).lookup ("closing" : Str) = some (.ref pc) := by
  unfold flds
  rw [lookup_putF, if_neg neCF, lookup_putF, if_pos rfl]
theorem flds_f (pa pc pf : Addr) : (flds pa pc pf).lookup ("firsts" : Str) = some (.ref pf) := by
  unfold flds
  rw [lookup_putF, if_pos rfl]
theorem putF_len (f : Str) (v : V) : ∀ fs : List (Str × V), (putF f v fs).length ≤ fs.length + 1
  | [] => Nat.le_refl _
  | (g, x) :: r => by
    show (if g = f then (g, v) :: r else (g, x) :: putF f v r).length ≤ _
    split
    · rw [List.length_cons, List.length_cons]; omega
    · have := putF_len f v r
      rw [List.length_cons, List.length_cons]; omega
def OrOk (rs : List Rw) : Prop := ∀ i, rs[i]? = some .or → ∃ b : Nat, hm rs i = (b : Int) ∧ rs[b]? = some .either
/-- what the first branches' dict holds of the rows below i -/
structure Firsts (Hb : Hp) (rs : List Rw) (pa pc po : Addr) (i : Nat) (kvs : List (Key × V)) (H : Hp) : Prop where
  at_ : ∀ a : Nat, a < i → rs[a]? = some .either → ∃ q, valV kvs (Sum.inl (a : Int)) = some (.ref q) ∧ H q = some (.lst (brV rs a i)) ∧ Hb q = none ∧ q ≠ pa ∧ q ≠ pc ∧ q ≠ po
  inj : ∀ (a b : Nat) q, valV kvs (Sum.inl (a : Int)) = some (.ref q) → valV kvs (Sum.inl (b : Int)) = some (.ref q) → a = b
  low : ∀ (a : Nat) v, valV kvs (Sum.inl (a : Int)) = some v → a < i ∧ rs[a]? = some .either
  len : kvs.length ≤ i
theorem Firsts.skip {Hb : Hp} {rs : List Rw} {pa pc po : Addr} {i : Nat} {kvs : List (Key × V)} {H H' : Hp} (F : Firsts Hb rs pa pc po i kvs H) {r : Rw} (hr : rs[i]? = some r) (no : r.isOr = false) (ne : r.isEither = false)
    (k : ∀ q xs, q ≠ pa → q ≠ pc → q ≠ po → H q = some (.lst xs) → H' q = some (.lst xs)) : Firsts Hb rs pa pc po (i + 1) kvs H' where
  at_ := fun a h1 h2 => by
    have hai : a < i := by
      rcases Nat.lt_or_ge a i with z | z
      · exact z
      · have e : a = i := by omega
        subst e
        rw [hr] at h2
        cases h2
        cases ne
    obtain ⟨q, q1, q2, q3, q4, q5, q6⟩ := F.at_ a hai h2
    refine ⟨q, q1, ?_, q3, q4, q5, q6⟩
    rw [brV_no (by rw [orF_at hr, no, Bool.and_false])]
    exact k q _ q4 q5 q6 q2
  inj := F.inj
  low := fun a v h => ⟨by have := (F.low a v h).1; omega, (F.low a v h).2⟩
  len := by have := F.len; omega
theorem Firsts.new {Hb : Hp} {rs : List Rw} {pa pc po : Addr} {i : Nat} {kvs : List (Key × V)} {H H' : Hp} (F : Firsts Hb rs pa pc po i kvs H) (hr : rs[i]? = some .either) {q0 : Addr} (n0 : H q0 = none) (nb : Hb q0 = none) (na : q0 ≠ pa) (nc : q0 ≠ pc) (np : q0 ≠ po)
    (h0 : H' q0 = some (.lst [.int ((i : Int) + 1)])) (k : ∀ q xs, H q = some (.lst xs) → H' q = some (.lst xs)) : Firsts Hb rs pa pc po (i + 1) (putK kvs (Sum.inl (i : Int)) (.ref q0)) H' where
  at_ := fun a h1 h2 => by
    by_cases e : a = i
    · subst e
      refine ⟨q0, by rw [valV_put, if_pos rfl], ?_, nb, na, nc, np⟩
      rw [brV_low _ _ _ (Nat.le_refl _)]
      exact h0
    · obtain ⟨q, q1, q2, q3⟩ := F.at_ a (by omega) h2
      refine ⟨q, ?_, ?_, q3⟩
      · rw [valV_put, if_neg (fun z => e (by have := Sum.inl.inj z; omega))]
        exact q1
      · rw [brV_no (by rw [orF_at hr]; exact Bool.and_false _)]
        exact k q _ q2
  inj := fun a b q h1 h2 => by
    rw [valV_put] at h1 h2
    have old : ∀ c : Nat, c ≠ i → valV kvs (Sum.inl (c : Int)) = some (.ref q0) → False := fun c _ hc => by
      obtain ⟨l1, l2⟩ := F.low c _ hc
      obtain ⟨q', q1, q2, _⟩ := F.at_ c l1 l2
      rw [hc] at q1
      cases q1
      rw [n0] at q2
      cases q2
    by_cases ea : a = i
    · by_cases eb : b = i
      · rw [ea, eb]
      · rw [if_pos (by rw [ea])] at h1
        rw [if_neg (fun z => eb (by have := Sum.inl.inj z; omega))] at h2
        cases h1
        exact (old b eb h2).elim
    · rw [if_neg (fun z => ea (by have := Sum.inl.inj z; omega))] at h1
      by_cases eb : b = i
      · rw [if_pos (by rw [eb])] at h2
        cases h2
        exact (old a ea h1).elim
      · rw [if_neg (fun z => eb (by have := Sum.inl.inj z; omega))] at h2
        exact F.inj a b q h1 h2
  low := fun a v h => by
    rw [valV_put] at h
    by_cases e : a = i
    · rw [e]
      exact ⟨by omega, hr⟩
    · rw [if_neg (fun z => e (by have := Sum.inl.inj z; omega))] at h
      have := F.low a v h
      exact ⟨by omega, this.2⟩
  len := by
    have := length_putK kvs (Sum.inl (i : Int)) (.ref q0)
    have := F.len
    omega
theorem Firsts.or {Hb : Hp} {rs : List Rw} {pa pc po : Addr} {i : Nat} {kvs : List (Key × V)} {H H' : Hp} (F : Firsts Hb rs pa pc po i kvs H) (hr : rs[i]? = some .or) {b : Nat} (hb : hm rs i = (b : Int)) {q0 : Addr} (hq : valV kvs (Sum.inl (b : Int)) = some (.ref q0))
    (h0 : H' q0 = some (.lst (brV rs b (i + 1)))) (k : ∀ q xs, q ≠ q0 → H q = some (.lst xs) → H' q = some (.lst xs)) : Firsts Hb rs pa pc po (i + 1) kvs H' where
  at_ := fun a h1 h2 => by
    have hai : a < i := by
      rcases Nat.lt_or_ge a i with z | z
      · exact z
      · have e : a = i := by omega
        subst e
        rw [hr] at h2
        cases h2
    obtain ⟨q, q1, q2, q3⟩ := F.at_ a hai h2
    by_cases e : a = b
    · subst e
      rw [hq] at q1
      cases q1
      exact ⟨q0, hq, h0, q3⟩
    · refine ⟨q, q1, ?_, q3⟩
      rw [brV_no (by rw [orF_at hr, hb, decide_eq_false (by omega)]; rfl)]
      refine k q _ (fun z => e ?_) q2
      subst z
      exact F.inj a b q q1 hq
  inj := F.inj
  low := fun a v h => ⟨by have := (F.low a v h).1; omega, (F.low a v h).2⟩
  len := by have := F.len; omega
/-- the blocks of a sheet, read off -/
def BlkAt (C : Addr) (rs : List Rw) (Hb : Hp) (x : Addr) (H : Hp) : Prop := ∃ dx pa pc pf kvs, H x = some (.ins C dx (flds pa pc pf)) ∧ H pa = some (.lst (homesV rs rs.length)) ∧ H pc = some (.lst (endsV rs rs.length)) ∧ H pf = some (.dK kvs) ∧ Hb pa = none ∧ Hb pc = none ∧
  ∀ a : Nat, rs[a]? = some .either → ∃ q, valV kvs (Sum.inl (a : Int)) = some (.ref q) ∧ H q = some (.lst (brV rs a rs.length)) ∧ Hb q = none
theorem BlkAt.up {C : Addr} {rs : List Rw} {Hb : Hp} {x : Addr} {H H' : Hp} (e : Ex H H') (h : BlkAt C rs Hb x H) : BlkAt C rs Hb x H' := by
  obtain ⟨dx, pa, pc, pf, kvs, h1, h2, h3, h4, h6, h7, h5⟩ := h
  exact ⟨dx, pa, pc, pf, kvs, e _ _ h1, e _ _ h2, e _ _ h3, e _ _ h4, h6, h7, fun a ha => by
    obtain ⟨q, q1, q2, q3⟩ := h5 a ha
    exact ⟨q, q1, e _ _ q2, q3⟩⟩
section
variable {P : Program} {w : World} {K : PySem.W.Frag} {mg : Str → Option Value} {base : Heap}
def spOpens : Sp := fun vs H Q _ => ∃ (x : V) (r : Rw), vs = [x] ∧ IsRow H x r ∧ RetV (.bl r.opens) H Q
theorem ok_opens (D : Dn K mg "opens" s_opens ["row"]) {a_OPENERS : Addr} (g_OPENERS : mg "OPENERS" = some (.ref a_OPENERS)) (hOP : ∀ H, SqT K H a_OPENERS [.str "lend", .str "pick", .str "either", .str "again"]) : Has P w K mg base "opens" 1 ["row"] spOpens := by
  refine D.ok sc_opens (fun vs H Q E h => ?_) (fun f cdv A outer s H vs Q E hr h => ?_)
  · obtain ⟨x, r, rfl, _⟩ := h
    rfl
  · obtain ⟨x, r, rfl, hX, q⟩ := h
    refine ⟨_, (pss_one (ps_ret (pe_cmpR (show OpR _ _ (rIn K false) from op_in_seq) (pe_ix (show IxR _ (rIxT K) from ix_tup) (pv 0) pe_int (fun _ _ => rfl)) (pe_glob (v := .ref a_OPENERS) rfl g_OPENERS rfl) (by rfl)))), ?_⟩
    refine s_ret (v := .bl r.opens) ?_ (fun H2 e2 => q H2 e2)
    rw [← tag_opens]
    refine ev_inT ?_ ev_c (hOP H) rfl rfl
    walk_at "ev"
theorem ev_opens {x : V} {r : Rw} {ta : TA} {σ : L2.St} {H : Hp} {E : XK} (h : EvA ta σ H [x]) (hX : IsRow H x r) : Ev (tCall spOpens [] E ta) σ H (.bl r.opens) :=
  ev_call h fun H1 e Q q E => ⟨x, r, rfl, hX.up e, q⟩
/-! ### Evl for fields and dicts -/
variable {σ : L2.St} {H H' : Hp} {ta tb te tv : TE} {D : Ends} {tz : TS} {v : V} {C : Addr}
theorem ev_fld {p dx : Addr} {fs : List (Str × V)} {f : Str} (h : Ev ta σ H (.ref p)) (hp : H p = some (.ins C dx fs)) (cl : Cls K C) (na : NoAttr K C f) (l : fs.lookup f = some v) : Ev (tFld K ta f) σ H v := fun H1 e Q q =>
  h H1 e _ fun H2 e2 => ⟨p, C, dx, fs, v, rfl, e2 _ _ (e _ _ hp), cl, na, l, q H2 e2⟩
theorem q_fldL {p dx : Addr} {fs : List (Str × V)} {f : Str} {xs : List V} (hp : H p = some (.ins C dx fs)) (cl : Cls K C) (na : NoAttr K C f) (few : fs.length < 1000) (h : Ev ta σ H (.ref p)) (hv : EvL tv σ H xs)
    (k : ∀ q H1, H q = none → Ex H H1 → H1 q = some (.lst xs) → tz D σ (upd H1 p (.ins C dx (putF f (.ref q) fs)))) : tSeq (sFld K ta tv f) tz D σ H := hv H (Ex.refl H) _ fun q H1 hq e1 h1 =>
  h H1 e1 _ fun H2 e2 => ⟨p, C, dx, fs, rfl, e2 _ _ (e1 _ _ hp), cl, na, few, k q H2 hq (e1.trans e2) (e2 _ _ h1)⟩
theorem q_fldD {p dx : Addr} {fs : List (Str × V)} {f : Str} (hp : H p = some (.ins C dx fs)) (cl : Cls K C) (na : NoAttr K C f) (few : fs.length < 1000) (h : Ev ta σ H (.ref p))
    (k : ∀ q H1, H q = none → Ex H H1 → H1 q = some (.dK []) → tz D σ (upd H1 p (.ins C dx (putF f (.ref q) fs)))) : tSeq (sFld K ta tDNewK f) tz D σ H := fun q hq =>
  h _ (Ex.new hq) _ fun H2 e2 => ⟨p, C, dx, fs, rfl, e2 _ _ (Ex.new hq _ _ hp), cl, na, few, k q H2 hq ((Ex.new hq).trans e2) (e2 _ _ upd_same)⟩
theorem ev_dget {d : Addr} {kvs : List (Key × V)} {i : Int} (h : Ev ta σ H (.ref d)) (hd : H d = some (.dK kvs)) (hi : Ev tb σ H (.int i)) (hv : valV kvs (Sum.inl i) = some v) : Ev (tDGet ta tb) σ H v := fun H1 e Q q =>
  h H1 e _ fun H2 e2 => hi H2 (e.trans e2) _ fun H3 e3 => ⟨d, v, rfl, by
    have := DGet.k (k := Sum.inl i) (e3 _ _ (e2 _ _ (e _ _ hd)))
    rw [hv] at this
    exact this, q H3 (e2.trans e3)⟩
theorem s_dputL {d : Addr} {kvs : List (Key × V)} {i : Int} {xs : List V} (hd : H d = some (.dK kvs)) (hl : kvs.length < 100000) (h : Ev ta σ H (.ref d)) (hi : Ev tb σ H (.int i)) (hv : EvL tv σ H xs)
    (k : ∀ q H1, H q = none → Ex H H1 → H1 q = some (.lst xs) → D.nx σ (upd H1 d (.dK (putK kvs (Sum.inl i) (.ref q))))) : sDPut ta tb tv D σ H := hv H (Ex.refl H) _ fun q H1 hq e1 h1 =>
  h H1 e1 _ fun H2 e2 => hi H2 (e1.trans e2) _ fun H3 e3 => ⟨d, _, rfl, DPut.k (k := Sum.inl i) (e3 _ _ (e2 _ _ (e1 _ _ hd))) (sz_lt hl), k q H3 hq (e1.trans (e2.trans e3)) (e3 _ _ (e2 _ _ h1))⟩
/-- xs[ys.pop()] = e -/
theorem s_setPop {l m : Addr} {xs ys : List V} {j : Nat} (hl : H l = some (.lst xs)) (hm' : H m = some (.lst ys)) (hne : l ≠ m) (h : Ev te σ H v) (ho : Ev ta σ H (.ref l)) (hi : Ev tb σ H (.ref m)) (hy : ys[ys.length - 1]? = some (.int (j : Int))) (hj : j < xs.length)
    (k : ∀ H1, Ex H H1 → D.nx σ (upd (upd H1 m (.lst ys.dropLast)) l (.lst (xs.set j v)))) : tAsg te (gSub ta (tBM0 K "list" rPop tb) rSetL) D σ H := h H (Ex.refl H) _ fun H1 e1 => ho H1 e1 _ fun H2 e2 => hi H2 (e1.trans e2) _ fun H3 e3 =>
  have e := e1.trans (e2.trans e3)
  ⟨Or.inl ⟨rfl, ys, sq_of (e _ _ hm')⟩, m, ys, _, rfl, rfl, e _ _ hm', hy, l, xs, (j : Int), j, rfl, rfl, by rw [upd_ne hne]; exact e _ _ hl, ixN_nat hj, k H3 e⟩
end
theorem s_forE {K : PySem.W.Frag} {D : Ends} {σ : L2.St} {H : Hp} {tl : TE} {tu : TS} {a : Addr} {xs : List V} {j k : Nat} (h : Ev tl σ H (.ref a)) (hx : SqL K H a xs) (Pv : Nat → L2.St → Hp → Prop) (h0 : ∀ H1, Ex H H1 → Pv 0 σ H1) (hl : ∀ i σ' H', i ≤ xs.length → Pv i σ' H' → SqL K H' a xs)
    (hs : ∀ (i : Nat) x σ' H' H2, xs[i]? = some x → Pv i σ' H' → Ex H' H2 → tu { D with nx := Pv (i + 1), ct := Pv (i + 1), bk := D.nx } ((σ'.set j (some (.int (i : Int)))).set k (some x)) H2) (hd : ∀ σ' H', Pv xs.length σ' H' → D.nx σ' H') :
    tFor (iEnum K (tCons tl tNil)) (gTup K 2 (gCons (gName j) (gCons (gName k) gNil))) tu D σ H :=
  h H (Ex.refl H) _ fun H1 e => ⟨a, xs, rfl, ex_l e hx, for_it walk_enum Pv (h0 H1 e) hl (fun i v σ' H' H2 hi p y => by
    obtain ⟨T, x1, x2, rfl, hT, rfl, e1, e2⟩ := y
    cases e1
    exact ⟨T, [.int (i : Int), x2], rfl, SqT.of upd_same, rfl, _, _, rfl, _, _, rfl, rfl, hs i x2 σ' H' _ e2 p (Ex.new hT)⟩) hd⟩
/-! ### the blocks are read off -/
section
variable {P : Program} {w : World} {K : PySem.W.Frag} {mg : Str → Option Value} {base : Heap} {C : Addr}
def spBInit (K : PySem.W.Frag) (C : Addr) : Sp := fun vs H Q _ => ∃ (p dx a : Addr) (Hb : Hp) (rv : List V) (rs : List Rw), vs = [.ref p, .ref a] ∧ H = upd (upd Hb dx (.own p)) p (.ins C dx []) ∧ Hb p = none ∧ Hb dx = none ∧ dx ≠ p ∧ SqL K Hb a rv ∧ Rows Hb rv rs ∧ Good rs ∧ OrOk rs ∧ rs.length ≤ 40000 ∧
  ∀ H2, Ex Hb H2 → BlkAt C rs Hb p H2 → Q .non H2
/-- while the rows are gone through -/
structure BlkI (C : Addr) (Hb : Hp) (rs : List Rw) (p dx pa pc pf po : Addr) (i : Nat) (H : Hp) : Prop where
  ex : Ex Hb H
  ob : H p = some (.ins C dx (flds pa pc pf))
  ar : H pa = some (.lst (homesV rs i))
  cl : H pc = some (.lst (endsV rs i))
  op : H po = some (.lst (stV rs i))
  fi : ∃ kvs, H pf = some (.dK kvs) ∧ Firsts Hb rs pa pc po i kvs H
theorem stV_top (rs : List Rw) (i : Nat) : (stV rs i)[(stV rs i).length - 1]? = some (.int (hm rs i)) := by
  unfold stV hm
  cases pr rs i with
  | nil => rfl
  | cons a t =>
    rw [List.reverse_cons, List.map_append]
    show ((V.int (-1) :: t.reverse.map fun (n : Nat) => V.int (n : Int)) ++ [V.int (a : Int)])[((V.int (-1) :: t.reverse.map fun (n : Nat) => V.int (n : Int)) ++ [V.int (a : Int)]).length - 1]? = _
    rw [List.length_append]
    exact List.getElem?_concat_length
theorem ok_binit {f : Addr} {fd : FuncData} (F : Fun K "__init__" "Blocks.__init__" s_Blocks_init f fd) (T : Blt mg) (B : BlkC K C) (h_opens : Has P w K mg base "opens" 1 ["row"] spOpens) : FnOk P w K mg base CX0 2 f fd ["self", "rows"] (spBInit K C) := by
  refine F.ok sc_Blocks_init (fun vs H Q E h => ?_) (fun cdv A outer s H vs Q E hr h => ?_)
  · obtain ⟨p, dx, a, Hb, rv, rs, rfl, _⟩ := h
    rfl
  · obtain ⟨p, dx, a, Hb, rv, rs, rfl, hH, hbp, hbd, hdp, hSb, hRb, g, ok, hlen, q⟩ := h
    have hlr := hRb.len
    have eb : Ex Hb H := fun x o hx => by rw [hH, upd_ne (ne_of_none hx hbp), upd_ne (ne_of_none hx hbd)]; exact hx
    have hp0 : H p = some (.ins C dx []) := by rw [hH, upd_same]
    clear hH
    have hrT : Room 1 _ := hr
    refine ⟨_, (pss_cons (ps_fld (pv 0) (pe_lst pa_nil) rfl) (pss_cons (ps_fld (pv 0) (pe_op op_rep (pe_lst (pa_cons (pe_un un_neg pe_int) pa_nil)) (pe_callB (show CallR _ _ (rLenS K) from call_len_seq) (by rfl) T.len_ (by decide +kernel) (pa_cons (pv 1) pa_nil))) rfl) (pss_cons (ps_fld (pv 0) pe_dnewK rfl) (pss_cons (ps_set (i := 2) sc_Blocks_init.nd rfl (Or.inl rfl) (pe_lst (pa_cons (pe_un un_neg pe_int) pa_nil))) (pss_one (ps_for PassesOwn.never rfl (pi_enum (by rfl) T.enumerate_ (pa_cons (pv 1) pa_nil)) (pg_tup rfl (pgs_cons (pg_name (i := 3) sc_Blocks_init.nd rfl (Or.inl rfl)) (pgs_cons (pg_name (i := 4) sc_Blocks_init.nd rfl (Or.inl rfl)) pgs_nil))) (pss_cons (ps_set (i := 5) sc_Blocks_init.nd rfl (Or.inl rfl) (pe_ix (show IxR _ (rIxL K) from ix_list) (pv 2) (pe_un un_neg pe_int) (fun _ _ => rfl))) (pss_cons (ps_expr (pe_bm PySem.F.plainAttrs_list PySem.F.slot_list_append PySem.F.type_list_append mt_append (pe_fld (pv 0) rfl) (pa_cons (pv 5) pa_nil))) (pss_cons (ps_if (pt_val (pe_own h_opens (hr.mono (by decide)) (by rfl) (pa_cons (pv 4) pa_nil))) (pss_one (ps_expr (pe_bm PySem.F.plainAttrs_list PySem.F.slot_list_append PySem.F.type_list_append mt_append (pv 2) (pa_cons (pv 3) pa_nil)))) pss_nil) (pss_one (ps_if (pt_cmpR op_eq (pe_ix (show IxR _ (rIxT K) from ix_tup) (pv 4) pe_int (fun _ _ => rfl)) pe_str (nomark _)) (pss_one (ps_dput (hu_of hr) (pe_fld (pv 0) rfl) (pv 3) (pe_lst (pa_cons (pe_op op_add (pv 3) pe_int) pa_nil)) rfl)) (pss_one (ps_if (pt_cmpR op_eq (pe_ix (show IxR _ (rIxT K) from ix_tup) (pv 4) pe_int (fun _ _ => rfl)) pe_str (nomark _)) (pss_one (ps_expr (pe_bm PySem.F.plainAttrs_list PySem.F.slot_list_append PySem.F.type_list_append mt_append (pe_dget (hu_of hr) (pe_fld (pv 0) rfl) (pv 5) (fun _ _ => rfl)) (pa_cons (pe_op op_add (pv 3) pe_int) pa_nil)))) (pss_one (ps_if (pt_cmpR op_eq (pe_ix (show IxR _ (rIxT K) from ix_tup) (pv 4) pe_int (fun _ _ => rfl)) pe_str (nomark _)) (pss_one (ps_asg (pv 3) (pg_sub (pe_fld (pv 0) rfl) (pe_bm0 PySem.F.plainAttrs_list PySem.F.slot_list_pop PySem.F.type_list_pop mt_pop (pv 2)) set_list))) pss_nil))))))))))))))), ?_⟩
    show (_ : L2.TS) _ [_, _, _, _, _, _] _
    refine q_fldL (xs := []) hp0 B.cl B.nA (by decide) (ev_var rfl) ?_ (fun pa H1 hpa e1 h1 => ?_)
    · walk_at "ev"
    have hbpa : Hb pa = none := fresh_back eb hpa
    have npa : pa ≠ p := (ne_of_none hp0 hpa).symm
    have x1 : Ex Hb (upd H1 p (.ins C dx (putF "around" (.ref pa) []))) := Ex.mut (eb.trans e1) hbp
    have p1 : (upd H1 p (.ins C dx (putF "around" (.ref pa) []))) p = some (.ins C dx (putF "around" (.ref pa) [])) := upd_same
    have a1 : (upd H1 p (.ins C dx (putF "around" (.ref pa) []))) pa = some (.lst []) := by rw [upd_ne npa]; exact h1
    generalize upd H1 p (.ins C dx (putF "around" (.ref pa) [])) = G1 at *
    clear e1 h1 hpa hp0 eb
    show (_ : L2.TS) _ [_, _, _, _, _, _] _
    refine q_fldL (xs := endsV rs 0) p1 B.cl B.nC (by have := putF_len "around" (.ref pa) []; show _ < 1000; simp at this ⊢; omega) (ev_var rfl) ?_ (fun pc H2 hpc e2 h2 => ?_)
    · rw [endsV_zero, ← flat_rep, ← hlr]
      have e : rv.length = ((rv.length : Nat) : Int).toNat := by omega
      rw [e]
      have hS1 : SqL K G1 a rv := ex_l x1 hSb
      refine el_rep ?_ ?_ (by omega) (by omega) (by show 1 * _ ≤ _; omega)
      · walk_at "ev"
      · walk_at "ev"
    have hbpc : Hb pc = none := fresh_back x1 hpc
    have npc : pc ≠ p := (ne_of_none p1 hpc).symm
    have nac : pa ≠ pc := ne_of_none a1 hpc
    have x2 : Ex Hb (upd H2 p (.ins C dx (putF "closing" (.ref pc) (putF "around" (.ref pa) [])))) := Ex.mut (x1.trans e2) hbp
    have p2 : (upd H2 p (.ins C dx (putF "closing" (.ref pc) (putF "around" (.ref pa) [])))) p = some (.ins C dx (putF "closing" (.ref pc) (putF "around" (.ref pa) []))) := upd_same
    have a2 : (upd H2 p (.ins C dx (putF "closing" (.ref pc) (putF "around" (.ref pa) [])))) pa = some (.lst []) := by rw [upd_ne npa]; exact e2 _ _ a1
    have c2 : (upd H2 p (.ins C dx (putF "closing" (.ref pc) (putF "around" (.ref pa) [])))) pc = some (.lst (endsV rs 0)) := by rw [upd_ne npc]; exact h2
    generalize upd H2 p (.ins C dx (putF "closing" (.ref pc) (putF "around" (.ref pa) []))) = G2 at *
    clear e2 h2 hpc p1 a1 x1
    show (_ : L2.TS) _ [_, _, _, _, _, _] _
    refine q_fldD p2 B.cl B.nF (by have := putF_len "around" (.ref pa) []; have := putF_len "closing" (.ref pc) (putF "around" (.ref pa) []); show _ < 1000; simp at *; omega) (ev_var rfl) (fun pf H3 hpf e3 h3 => ?_)
    have npf : pf ≠ p := (ne_of_none p2 hpf).symm
    have hbpf : Hb pf = none := fresh_back x2 hpf
    have x3 : Ex Hb (upd H3 p (.ins C dx (flds pa pc pf))) := Ex.mut (x2.trans e3) hbp
    have p3 : (upd H3 p (.ins C dx (flds pa pc pf))) p = some (.ins C dx (flds pa pc pf)) := upd_same
    have a3 : (upd H3 p (.ins C dx (flds pa pc pf))) pa = some (.lst (homesV rs 0)) := by rw [upd_ne npa]; exact e3 _ _ a2
    have c3 : (upd H3 p (.ins C dx (flds pa pc pf))) pc = some (.lst (endsV rs 0)) := by rw [upd_ne npc]; exact e3 _ _ c2
    have f3 : (upd H3 p (.ins C dx (flds pa pc pf))) pf = some (.dK []) := by rw [upd_ne npf]; exact h3
    show tSeq _ _ _ _ (upd H3 p (.ins C dx (flds pa pc pf)))
    generalize upd H3 p (.ins C dx (flds pa pc pf)) = G3 at *
    clear e3 h3 hpf p2 a2 c2 x2
    refine q_asgL (xs := [.int (-1)]) ?_ (fun po H4 hpo e4 h4 => ?_)
    · walk_at "ev"
    show (_ : L2.TS) _ [_, _, _, _, _, _] _
    have hbpo : Hb po = none := fresh_back x3 hpo
    have nao : pa ≠ po := ne_of_none a3 hpo
    have nco : pc ≠ po := ne_of_none c3 hpo
    have hS4 : SqL K H4 a rv := ex_l (x3.trans e4) hSb
    refine s_forE (K := K) (a := a) (xs := rv) (ev_var rfl) hS4 (fun i σ' H' => BlkI C Hb rs p dx pa pc pf po i H' ∧ ∃ b c d, σ' = [some (.ref p), some (.ref a), some (.ref po), b, c, d]) ?_ (fun i σ' H' _ h => ex_l h.1.ex hSb) ?_ ?_
    · intro H5 e5
      refine ⟨⟨x3.trans (e4.trans e5), e5 _ _ (e4 _ _ p3), e5 _ _ (e4 _ _ a3), e5 _ _ (e4 _ _ c3), e5 _ _ h4, [], e5 _ _ (e4 _ _ f3), fun b hb => absurd hb (Nat.not_lt_zero b), fun _ _ _ z => (nomatch z), fun _ _ z => (nomatch z), Nat.le_refl _⟩, none, none, none, rfl⟩
    · rintro i x σ' H' H5 hi ⟨I, b, c, d, rfl⟩ e5
      obtain ⟨xI, pI, aI, cI, oI, kvs, fI, FI⟩ := I
      have hil : i < rv.length := (List.getElem?_eq_some_iff.mp hi).1
      obtain ⟨r, hr1, hX⟩ := hRb.at hi
      have x5 := xI.trans e5
      have p5 := e5 _ _ pI
      have a5 := e5 _ _ aI
      have c5 := e5 _ _ cI
      have o5 := e5 _ _ oI
      have f5 := e5 _ _ fI
      have FA : ∀ a : Nat, a < i → rs[a]? = some .either → ∃ q, valV kvs (Sum.inl (a : Int)) = some (.ref q) ∧ H5 q = some (.lst (brV rs a i)) ∧ Hb q = none ∧ q ≠ pa ∧ q ≠ pc ∧ q ≠ po := fun a h1 h2 => by
        obtain ⟨q, q1, q2, q3⟩ := FI.at_ a h1 h2
        exact ⟨q, q1, e5 _ _ q2, q3⟩
      clear xI pI aI cI oI fI e5
      -- home = opened[-1]
      refine q_asg (v := .int (hm rs i)) ?_ (fun H6 e6 => ?_)
      · have hO : SqL K H5 po (stV rs i) := sq_of o5
        refine ev_ixL (ev_var rfl) hO ?_ (stV_last rs i)
        walk_at "ev"
      show (_ : L2.TS) _ [_, _, _, _, _, _] _
      -- self.around.append(home)
      refine q_app (l := pa) (xs := homesV rs i) (v := .int (hm rs i)) (e6 _ _ a5) (ev_fld (ev_var rfl) (e6 _ _ p5) B.cl B.nA (flds_a pa pc pf)) (ev_var rfl) (by rw [homesV_len]; omega) (fun H7 e7 => ?_)
      rw [← homesV_next]
      have e57 := e6.trans e7
      have x8 : Ex Hb (upd H7 pa (.lst (homesV rs (i + 1)))) := Ex.mut (x5.trans e57) hbpa
      have p8 : (upd H7 pa (.lst (homesV rs (i + 1)))) p = some (.ins C dx (flds pa pc pf)) := by rw [upd_ne npa.symm]; exact e57 _ _ p5
      have a8 : (upd H7 pa (.lst (homesV rs (i + 1)))) pa = some (.lst (homesV rs (i + 1))) := upd_same
      have c8 : (upd H7 pa (.lst (homesV rs (i + 1)))) pc = some (.lst (endsV rs i)) := by rw [upd_ne nac.symm]; exact e57 _ _ c5
      have o8 : (upd H7 pa (.lst (homesV rs (i + 1)))) po = some (.lst (stV rs i)) := by rw [upd_ne nao.symm]; exact e57 _ _ o5
      have npaf : pf ≠ pa := ne_of f5 a5 (fun z => nomatch z)
      have f8 : (upd H7 pa (.lst (homesV rs (i + 1)))) pf = some (.dK kvs) := by rw [upd_ne npaf]; exact e57 _ _ f5
      have F8 : ∀ a : Nat, a < i → rs[a]? = some .either → ∃ q, valV kvs (Sum.inl (a : Int)) = some (.ref q) ∧ (upd H7 pa (.lst (homesV rs (i + 1)))) q = some (.lst (brV rs a i)) ∧ Hb q = none ∧ q ≠ pa ∧ q ≠ pc ∧ q ≠ po := fun a h1 h2 => by
        obtain ⟨q, q1, q2, q3, q4, q5⟩ := FA a h1 h2
        exact ⟨q, q1, by rw [upd_ne q4]; exact e57 _ _ q2, q3, q4, q5⟩
      have hX8 : IsRow (upd H7 pa (.lst (homesV rs (i + 1)))) x r := hX.up x8
      generalize upd H7 pa (.lst (homesV rs (i + 1))) = G8 at *
      clear e6 e7 e57 x5 p5 a5 c5 o5 f5 FA
      have npof : pf ≠ po := ne_of f8 o8 (fun z => nomatch z)
      have npo : po ≠ p := ne_of o8 p8 (fun z => nomatch z)
      have npcf : pf ≠ pc := ne_of f8 c8 (fun z => nomatch z)
      -- if opens(row): opened.append(at)
      refine q_when (b := r.opens) (et_B (ev_opens (ea_cons (ev_var rfl) ea_nil) hX8)) (fun hro H9 e9 => ?_) (fun hro H9 e9 => ?_)
      · have e89 := e9
        refine s_app (l := po) (xs := stV rs i) (v := .int (i : Int)) (e9 _ _ o8) (ev_var rfl) (ev_var rfl) (by have := stV_len rs i; omega) (fun Ha ea => ?_)
        dsimp only
        rw [← stV_push hr1 hro]
        have e8a := e9.trans ea
        have xb : Ex Hb (upd Ha po (.lst (stV rs (i + 1)))) := Ex.mut (x8.trans e8a) hbpo
        have pb : (upd Ha po (.lst (stV rs (i + 1)))) p = some (.ins C dx (flds pa pc pf)) := by rw [upd_ne npo.symm]; exact e8a _ _ p8
        have ab : (upd Ha po (.lst (stV rs (i + 1)))) pa = some (.lst (homesV rs (i + 1))) := by rw [upd_ne nao]; exact e8a _ _ a8
        have cb : (upd Ha po (.lst (stV rs (i + 1)))) pc = some (.lst (endsV rs i)) := by rw [upd_ne nco]; exact e8a _ _ c8
        have ob : (upd Ha po (.lst (stV rs (i + 1)))) po = some (.lst (stV rs (i + 1))) := upd_same
        have fb : (upd Ha po (.lst (stV rs (i + 1)))) pf = some (.dK kvs) := by rw [upd_ne npof]; exact e8a _ _ f8
        have Fb : Firsts Hb rs pa pc po i kvs (upd Ha po (.lst (stV rs (i + 1)))) := ⟨fun a h1 h2 => by
          obtain ⟨q, q1, q2, q3, q4, q5, q6⟩ := F8 a h1 h2
          exact ⟨q, q1, by rw [upd_ne q6]; exact e8a _ _ q2, q3, q4, q5, q6⟩, FI.inj, FI.low, FI.len⟩
        have hXb : IsRow (upd Ha po (.lst (stV rs (i + 1)))) x r := hX.up xb
        generalize upd Ha po (.lst (stV rs (i + 1))) = Gb at *
        clear ea e9 e89 e8a x8 p8 a8 c8 o8 f8 F8 hX8
        have hfn : r.isFin = false := by cases r <;> first | rfl | cases hro
        have hon : r.isOr = false := by cases r <;> first | rfl | cases hro
        rw [← endsV_keep hr1 hfn] at cb
        refine s_if (b := r.isEither) ?_ (fun hre Hc ec => ?_) (fun hre Hc ec => ?_)
        · rw [← tag_either]
          walk_at "ev"
        · have er : r = .either := by cases r <;> first | rfl | cases hre
          subst er
          refine s_dputL (d := pf) (kvs := kvs) (i := (i : Int)) (xs := [.int ((i : Int) + 1)]) (ec _ _ fb) (by have := Fb.len; omega) (ev_fld (ev_var rfl) (ec _ _ pb) B.cl B.nF (flds_f pa pc pf)) (ev_var rfl) ?_ (fun q0 Hd hq0 ed hd => ?_)
          · walk_at "ev"
          · have ebd := ec.trans ed
            have n0 : Gb q0 = none := fresh_back ec hq0
            have nq : ∀ {z o}, Gb z = some o → q0 ≠ z := fun hz => (ne_of_none hz n0).symm
            refine ⟨⟨Ex.mut (xb.trans ebd) hbpf, ?_, ?_, ?_, ?_, _, upd_same, Fb.new hr1 n0 (fresh_back xb n0) (nq ab) (nq cb) (nq ob) ?_ (fun z xs hz => ?_)⟩, _, _, _, rfl⟩
            · rw [upd_ne npf.symm]; exact ebd _ _ pb
            · rw [upd_ne (ne_of fb ab (fun z => nomatch z)).symm]; exact ebd _ _ ab
            · rw [upd_ne npcf.symm]; exact ebd _ _ cb
            · rw [upd_ne npof.symm]; exact ebd _ _ ob
            · rw [upd_ne (nq fb)]; exact hd
            · rw [upd_ne (ne_of hz fb (fun z => nomatch z))]; exact ebd _ _ hz
        · refine s_if (b := r.isOr) ?_ (fun hb _ _ => by rw [hon] at hb; cases hb) (fun _ Hd ed => ?_)
          · have hXc := hXb.up ec
            rw [← tag_or]
            walk_at "ev"
          · refine s_when (b := r.isFin) ?_ (fun hb _ _ => by rw [hfn] at hb; cases hb) (fun _ He ee => ?_)
            · have hXd := (hXb.up ec).up ed
              rw [← tag_fin]
              walk_at "ev"
            · have ebe := ec.trans (ed.trans ee)
              exact ⟨⟨xb.trans ebe, ebe _ _ pb, ebe _ _ ab, ebe _ _ cb, ebe _ _ ob, kvs, ebe _ _ fb, Fb.skip hr1 hon hre fun q xs _ _ _ hq => ebe _ _ hq⟩, _, _, _, rfl⟩
      · have hre : r.isEither = false := by cases r <;> first | rfl | cases hro
        have Fb : Firsts Hb rs pa pc po i kvs G8 := ⟨F8, FI.inj, FI.low, FI.len⟩
        refine s_if (b := r.isEither) ?_ (fun hb _ _ => by rw [hre] at hb; cases hb) (fun _ Hc ec => ?_)
        · have hX9 := hX8.up e9
          rw [← tag_either]
          walk_at "ev"
        have e8c := e9.trans ec
        refine s_if (b := r.isOr) ?_ (fun hor Hd ed => ?_) (fun hor Hd ed => ?_)
        · have hXc := hX8.up e8c
          rw [← tag_or]
          walk_at "ev"
        · have er : r = .or := by cases r <;> first | rfl | cases hor
          subst er
          obtain ⟨b, hb1, hb2⟩ := ok i hr1
          have hbi : b < i := by have := hm_lt (rs := rs) i; omega
          obtain ⟨q0, q1, q2, q3, q4, q5, q6⟩ := Fb.at_ b hbi hb2
          have e8d := e8c.trans ed
          rw [hb1]
          refine s_app (l := q0) (xs := brV rs b i) (v := .int ((i : Int) + 1)) (e8d _ _ q2) (ev_dget (ev_fld (ev_var rfl) (e8d _ _ p8) B.cl B.nF (flds_f pa pc pf)) (e8d _ _ f8) (ev_var rfl) q1) ?_ (by have := brV_len rs b i; omega) (fun He ee => ?_)
          · walk_at "ev"
          · dsimp only
            rw [← brV_yes (by rw [orF_at hr1, hb1, decide_eq_true rfl]; rfl)]
            have e8e := e8d.trans ee
            rw [← endsV_keep hr1 rfl] at c8
            rw [← stV_keep hr1 rfl rfl] at o8
            refine ⟨⟨Ex.mut (x8.trans e8e) q3, ?_, ?_, ?_, ?_, kvs, ?_, Fb.or hr1 hb1 q1 upd_same (fun z xs hz h => ?_)⟩, _, _, _, rfl⟩
            · rw [upd_ne (ne_of p8 q2 (fun z => nomatch z))]; exact e8e _ _ p8
            · rw [upd_ne q4.symm]; exact e8e _ _ a8
            · rw [upd_ne q5.symm]; exact e8e _ _ c8
            · rw [upd_ne q6.symm]; exact e8e _ _ o8
            · rw [upd_ne (ne_of f8 q2 (fun z => nomatch z))]; exact e8e _ _ f8
            · rw [upd_ne hz]; exact e8e _ _ h
        · refine s_when (b := r.isFin) ?_ (fun hrf He ee => ?_) (fun hrf He ee => ?_)
          · have hXd := (hX8.up e8c).up ed
            rw [← tag_fin]
            walk_at "ev"
          · obtain ⟨b, t, hp1, hp2, hp3, qr, hq1, hq2⟩ := hm_fin g hr1 hrf
            have e8e := e8c.trans (ed.trans ee)
            have hpop := stV_pop g hr1 hrf
            refine s_setPop (l := pc) (m := po) (xs := endsV rs i) (ys := stV rs i) (j := b) (v := .int (i : Int)) (e8e _ _ c8) (e8e _ _ o8) nco (ev_var rfl) (ev_fld (ev_var rfl) (e8e _ _ p8) B.cl B.nC (flds_c pa pc pf)) (ev_var rfl) (by rw [stV_top, hp2]) (by rw [endsV_len]; have := (List.getElem?_eq_some_iff.mp hq1).1; exact this) (fun Hf ef => ?_)
            dsimp only
            rw [← endsV_set g hr1 hrf hp1 hp2 (show opAt rs b = true by unfold opAt; rw [hq1]; exact hq2), ← hpop.1]
            have e8f := e8e.trans ef
            have up2 : ∀ {z o}, z ≠ po → z ≠ pc → G8 z = some o → (upd (upd Hf po (.lst (stV rs (i + 1)))) pc (.lst (endsV rs (i + 1)))) z = some o := fun h1 h2 h3 => by rw [upd_ne h2, upd_ne h1]; exact e8f _ _ h3
            refine ⟨⟨Ex.mut (Ex.mut (x8.trans e8f) hbpo) hbpc, up2 npo.symm npc.symm p8, up2 nao nac a8, upd_same, by rw [upd_ne nco.symm, upd_same], kvs, up2 npof npcf f8, Fb.skip hr1 hor hre fun q xs z1 z2 z3 hq => up2 z3 z2 hq⟩, _, _, _, rfl⟩
          · have e8e := e8c.trans (ed.trans ee)
            rw [← endsV_keep hr1 hrf] at c8
            rw [← stV_keep hr1 hro hrf] at o8
            exact ⟨⟨x8.trans e8e, e8e _ _ p8, e8e _ _ a8, e8e _ _ c8, e8e _ _ o8, kvs, e8e _ _ f8, Fb.skip hr1 hor hre fun q xs _ _ _ hq => e8e _ _ hq⟩, _, _, _, rfl⟩
    · rintro σ' H' ⟨I, b, c, d, rfl⟩
      rw [hlr] at I
      obtain ⟨xI, pI, aI, cI, oI, kvs, fI, FI⟩ := I
      refine q H' xI ⟨dx, pa, pc, pf, kvs, pI, aI, cI, fI, hbpa, hbpc, fun a ha => ?_⟩
      obtain ⟨q1, h1, h2, h3, _⟩ := FI.at_ a (List.getElem?_eq_some_iff.mp ha).1 ha
      exact ⟨q1, h1, h2, h3⟩
def ABlk (C : Addr) (rs : List Rw) (Hb : Hp) : V → Hp → Prop := fun v H => ∃ x, v = .ref x ∧ BlkAt C rs Hb x H
theorem ABlk.up {rs : List Rw} {Hb : Hp} {v : V} {H H' : Hp} (e : Ex H H') (h : ABlk C rs Hb v H) : ABlk C rs Hb v H' := by
  obtain ⟨x, h1, h2⟩ := h
  exact ⟨x, h1, h2.up e⟩
/-- Blocks(rows) -/
theorem ep_blocks {ta : TE} {σ : L2.St} {H : Hp} {a : Addr} {rv : List V} {rs : List Rw} {E : XK} (h : Ev ta σ H (.ref a)) (hS : SqL K H a rv) (hR : Rows H rv rs) (g : Good rs) (ok : OrOk rs) (hl : rs.length ≤ 40000) :
    EvP (tMake C (spBInit K C) [] E (tCons ta tNil)) σ H (fun v H2 => ABlk C rs H v H2) := fun H1 e Q q =>
  h H1 e _ fun H2 e2 => fun x dx hx hd hne => ⟨x, dx, a, H2, rv, rs, rfl, rfl, hx, hd, hne, ex_l (e.trans e2) hS, hR.up (e.trans e2), g, ok, hl, fun H3 e3 hB => ⟨rfl, q _ H3 (e2.trans e3) ⟨x, rfl, by
    obtain ⟨dx, pa, pc, pf, kvs, h1, h2, h3, h4, h6, h7, h5⟩ := hB
    exact ⟨dx, pa, pc, pf, kvs, h1, h2, h3, h4, fresh_back (e.trans e2) h6, fresh_back (e.trans e2) h7, fun a ha => by
      obtain ⟨q, q1, q2, q3⟩ := h5 a ha
      exact ⟨q, q1, q2, fresh_back (e.trans e2) q3⟩⟩⟩⟩⟩
end
end BD
namespace BD
open PySem PySem.Spec PyProof.Rows L2 Evl
local macro_rules | `(tactic| walk_at "ev") => `(tactic| first
  | ((with_reducible apply ev_var) ; rfl)
  | with_reducible exact ev_c
  | ((with_reducible apply ev_I0) <;> walk_at "ev")
  | ((with_reducible apply ev_e9) <;> walk_at "ev")
  | ((with_reducible apply ev_I) <;> walk_at "ev")
  | ((with_reducible apply ev_eq) <;> walk_at "ev")
  | ((with_reducible apply ev_ne) <;> walk_at "ev")
  | ((with_reducible apply ev_neg) <;> walk_at "ev")
  | ((with_reducible apply ev_ixN) <;> walk_at "ev")
  | ((with_reducible apply ev_ixL) <;> walk_at "ev")
  | ((with_reducible apply ev_inN) <;> walk_at "ev")
  | ((with_reducible apply ev_inT) <;> walk_at "ev")
  | ((with_reducible apply ev_ixT) <;> walk_at "ev")
  | ((with_reducible apply ev_ixS) <;> walk_at "ev")
  | ((with_reducible apply ev_len') <;> walk_at "ev")
  | ((with_reducible apply et_test) <;> walk_at "ev")
  | ((with_reducible apply et_and) <;> walk_at "ev")
  | ((with_reducible apply et_or) <;> walk_at "ev")
  | ((with_reducible apply et_not) <;> walk_at "ev")
  | ((with_reducible apply et_B) <;> walk_at "ev")
  | ((with_reducible apply el_lst) <;> walk_at "ev")
  | ((with_reducible apply eu_tup) <;> walk_at "ev")
  | ((with_reducible apply ea_cons) <;> walk_at "ev")
  | with_reducible exact ea_nil
  | with_reducible assumption
  | ((with_reducible apply ex_l' ; assumption) ; walk_at "ex")
  | ((with_reducible apply ex_t' ; assumption) ; walk_at "ex")
  | (intro _ ; walk_at "ev")
  | (with_reducible first | exact atI_hd | exact at_kind | exact at2s | exact at3s | exact at3i)
  | (first | exact rfl | exact Nat.le_of_ble_eq_true rfl | exact ⟨by decide, by decide⟩ | decide | exact Or.inl ⟨by omega, by omega⟩ | exact Or.inr ⟨by omega, by omega⟩ | omega)
  | skip)
local macro_rules | `(tactic| walk_at "ex") => `(tactic| first
  | assumption
  | exact Ex.refl _
  | (refine' Ex.trans ?_ (by assumption) ; walk_at "ex"))
local macro_rules | `(tactic| walk_at "row") => `(tactic| first
  | (with_reducible exact er_nil)
  | ((with_reducible apply er_cons) <;> walk_at "row")
  | (((with_reducible apply er_var) ; rfl) ; walk_at "isrow")
  | (((with_reducible apply elr_var) ; rfl) ; walk_at "isrow")
  | ((with_reducible apply elr_cat) <;> walk_at "row")
  | ((with_reducible apply elr_lst) <;> walk_at "row")
  | ((with_reducible apply er_fin) <;> walk_at "ev")
  | ((with_reducible apply er_lendT) <;> walk_at "ev")
  | ((with_reducible apply er_lendW) <;> walk_at "ev")
  | ((with_reducible apply er_pick) <;> walk_at "ev")
  | ((with_reducible apply er_either) <;> walk_at "ev")
  | ((with_reducible apply er_or) <;> walk_at "ev")
  | ((with_reducible apply er_again) <;> walk_at "ev")
  | ((with_reducible apply er_back) <;> walk_at "ev")
  | ((with_reducible apply er_look) <;> walk_at "ev")
  | ((with_reducible apply er_change) <;> walk_at "ev")
  | exact Nat.le_of_ble_eq_true rfl
  | skip)
local macro_rules | `(tactic| walk_at "isrow") => `(tactic| first
  | assumption
  | (refine IsRow.up ?_ (by assumption) ; walk_at "ex")
  | (refine LRows.up ?_ (by assumption) ; walk_at "ex"))

abbrev s_awake : Stmt := topS 7
theorem sc_awake : FnScope ["held", "lenders", "entry"] ["held"] (defScope s_awake) := ⟨rfl, rfl, rfl, by decide +kernel, rfl, by decide +kernel, by decide +kernel⟩
theorem awakeM_one (es : List Ent) : (es.filter fun e => !decide (e.k = ("pick" : Str)) && (e.o && !decide (e.w ∈ (es.filter fun e : Ent => e.o).map fun e : Ent => e.s))) = awakeM es := by
  unfold awakeM
  rw [List.filter_filter]
  refine List.filter_congr fun e _ => ?_
  cases decide (e.k = ("pick" : Str)) <;> cases e.o <;> cases decide (e.w ∈ (es.filter fun e : Ent => e.o).map fun e : Ent => e.s) <;> rfl
section
variable {P : Program} {w : World} {K : PySem.W.Frag} {mg : Str → Option Value} {base : Heap}
theorem ok_pawake1 (D : Dn K mg "awake" s_awake ["held"]) : Has P w K mg base "awake" 1 ["held"] (spAwake K) := by
  refine D.ok sc_awake (fun vs H Q E h => ?_) (fun f cdv A outer st H vs Q E hr h => ?_)
  · obtain ⟨x, es, rfl, _⟩ := h
    rfl
  · obtain ⟨x, es, rfl, hx, hlen, q⟩ := h
    obtain ⟨p, hv, rfl, hp, hE⟩ := hx
    have hP : SqT K H p hv := st_of hp
    have hle := hE.len
    refine ⟨_, (pss_cons (ps_set (i := 1) sc_awake.nd rfl (Or.inr rfl) (pe_lc (own := [("entry", 2)]) (g := (gName 2))  rfl sc_awake.nd (pi_tup (pv 0)) (blkOk_by (own := [("entry", 2)]) (N := ["held", "lenders", "entry"]) (sc := defScope s_awake) (by decide +kernel)) (fun _ _ _ _ _ => (pg_name (i := 2) sc_awake.nd rfl (Or.inl rfl))) (fun _ _ _ _ _ => (pts_one (pt_val (pe_ix (show IxR _ (rIxT K) from ix_tup) (pv 2) pe_int (fun _ _ => rfl))))) (fun _ _ _ _ _ => (pe_ix (show IxR _ (rIxT K) from ix_tup) (pv 2) pe_int (fun _ _ => rfl))))) (pss_one (ps_ret (pe_lc (own := [("entry", 2)]) (g := (gName 2))  rfl sc_awake.nd (pi_tup (pv 0)) (blkOk_by (own := [("entry", 2)]) (N := ["held", "lenders", "entry"]) (sc := defScope s_awake) (by decide +kernel)) (fun _ _ _ _ _ => (pg_name (i := 2) sc_awake.nd rfl (Or.inl rfl))) (fun _ _ _ _ _ => (pts_one (PW.pt (pw_and (pt_cmpR op_ne (pe_ix (show IxR _ (rIxT K) from ix_tup) (pv 2) pe_int (fun _ _ => rfl)) pe_str (nomark _)) (pw_and (pt_val (pe_ix (show IxR _ (rIxT K) from ix_tup) (pv 2) pe_int (fun _ _ => rfl))) (pw_and1 (pt_cmpR (show OpR _ _ (rIn K true) from op_notIn_seq) (pe_ix (show IxR _ (rIxT K) from ix_tup) (pv 2) pe_int (fun _ _ => rfl)) (pv 1) (by rfl)))))))) (fun _ _ _ _ _ => (pv 2)))))), ?_⟩
    show (_ : L2.TS) _ [_, _, _] _
    refine q_asgL (el_mapT (K := K) (fun e : Ent => e.o) (fun e : Ent => e.s) (ev_var rfl) hP hE (by omega) (fun x => rfl) (fun x e H1 _ hx => ?_) (fun x e H1 _ hx => ?_)) (fun pl H1 hpl e1 h1 => ?_)
    · exact et_B (ev_e4 rfl hx)
    · exact ev_e3 rfl hx
    show (_ : L2.TS) _ [_, _, _] _
    have hL1 : SqL K H1 pl (((es.filter fun e : Ent => e.o).map fun e : Ent => e.s).map V.str) := sq_of h1
    refine (epl_filterT (fun e => !decide (e.k = ("pick" : Str)) && (e.o && !decide (e.w ∈ (es.filter fun e : Ent => e.o).map fun e : Ent => e.s))) (ev_var rfl) (ex_t e1 hP) (hE.up e1) (by omega) (fun x => rfl) (fun x e H2 e2 hx => ?_) (fun x => rfl)) H1 (Ex.refl H1) _ fun pz zs H3 hpz e3 h3 hZ => q pz zs H3 (fresh_back e1 hpz) (e1.trans e3) h3 (by rw [← awakeM_one]; exact hZ)
    rw [← dec_str]
    exact et_and (et_test (ev_ne (ev_e1 rfl hx) ev_c rfl)) (fun _ => et_and (et_B (ev_e4 rfl hx)) (fun _ => et_test (ev_notInLs (ev_e0 rfl hx) (ev_var rfl) (ex_l e2 hL1))))
theorem ok_pawake (D : Dn K mg "awake" s_awake ["held"]) : Has P w K mg base "awake" 3 ["held"] (spAwake K) := (ok_pawake1 D).mono (by decide)
end
end BD
/-! ### generator expressions handed to any and all: the element is any expression of the layer -/
namespace GX
open PySem PySem.Spec PyProof.Rows L2 Evl
open GxR (TabB)
/-- the table at P of a code object, whatever stands in it -/
def TabX (P : Addr) : HO := .ext fun h => ∃ ps : Array Value, h.get? P = some { cls := .none, data := .fields ps } ∧ TriplesOk ps.toList
theorem tabX_ok {P : Program} {w : World} {H : Hp} {h : Heap} {a : Addr} (r : ∃ ps : Array Value, h.get? a = some { cls := .none, data := .fields ps } ∧ TriplesOk ps.toList) : ObjOk P w H h a (TabX a) :=
  ⟨r, let ⟨_, e, _⟩ := r; ⟨_, e⟩, fun h1 h2 ⟨ps, e, t⟩ k => ⟨ps, k _ e, t⟩⟩
theorem tabX_ne {P a : Addr} {xs : List V} : TabX P ≠ .tup xs := fun z => nomatch z
section
variable {X : Cx} {pins : List (Addr × Obj)} {σ : L2.St} {H : Hp} {s : Shared}
theorem tabX_get {P : Addr} (I : Inv X pins σ H s) (hP : H P = some (TabX P)) : ∃ ps : Array Value, s.heap.get? P = some { cls := .none, data := .fields ps } ∧ TriplesOk ps.toList := (I.hok P _ hP).1
theorem inv_tabX {P : Addr} {h' : Heap} {g' : Array GenState} {d' : Drawn} {t' : Nat} (I : Inv X pins σ H s) (hP : H P = some (TabX P)) (k : ∀ b o, b ≠ P → s.heap.get? b = some o → h'.get? b = some o)
    (hm : ∃ ps : Array Value, h'.get? P = some { cls := .none, data := .fields ps } ∧ TriplesOk ps.toList) (hg : AllBare g') : Inv X pins σ H { s with heap := h', gens := g', drawn := d', toks := t' } := by
  have nN : ∀ b, H b = none → b ≠ P := fun b e z => by
    rw [z, hP] at e
    cases e
  refine I.step (g' := g') (d' := d') (ch := []) (fun b hb => absurd hb (by simp)) (fun b o _ _ _ e n => k b o (nN b n) e) (fun b o _ _ _ e n => ⟨o.slots, k b o (nN b n) e⟩)
    (fun b o _ e n => n) (fun b o _ e => ?_) (fun b xs e => e) (fun b o u e => e) (fun b qs e => ⟨#[], by rw [e]; simp⟩) (fun m hn => ?_) (fun b u e => ?_) hg
  · by_cases hb : b = P
    · rw [hb]
      obtain ⟨ps, e2, _⟩ := hm
      exact ⟨_, e2⟩
    · exact ⟨o, k b o hb e⟩
  · obtain ⟨ob, es, ep, ho, r⟩ := hn
    exact ⟨ob, es, ep, k _ ob (nN _ I.free) ho, r⟩
  · by_cases hb2 : b = P
    · rw [hb2] at e ⊢
      rw [hP] at e
      cases e
      exact tabX_ok hm
    · refine (I.hok b u e).stay (fun d v hd q => k d v ?_ q) (fun d q => q) fun d xs q => q
      rcases hd with z | z
      · rw [z]
        exact hb2
      · intro y
        rw [y, hP] at z
        cases z
/-- what is kept may be read further -/
theorem inv_kept {s' : Shared} (I : Inv X pins σ H s) (ho : s'.os = s.os) (hb : AllBare s'.gens) (k : ∀ b o, s.heap.get? b = some o → s'.heap.get? b = some o) : Inv X pins σ H s' :=
  I.call' (ch := []) ho (Un.kept k) (I.hok.kept k) hb (fun b hb => absurd hb (by simp))
end
/-! ### the generator's frame -/
/-- the scope of a generator expression -/
structure GScp (N : List Str) (sc scope : Scope) (own : List (Str × Nat)) : Prop where
  blk : BlkOk N sc scope own
  co : scope.isCoroutine = false
  cell : ∀ y ∈ scope.names, y.2 ≠ .cell
  dot : scope.names.lookup (".0" : Str) = some NameKind.local
def gscpB (scope : Scope) : Bool :=
  !scope.isCoroutine && (scope.names.all fun y => !decide (y.2 = .cell)) && decide (scope.names.lookup (".0" : Str) = some NameKind.local)
theorem gscp_by {N : List Str} {sc scope : Scope} {own : List (Str × Nat)} (b : BlkOk N sc scope own) (h : gscpB scope = true) : GScp N sc scope own := by
  unfold gscpB at h
  simp only [Bool.and_eq_true, Bool.not_eq_true', decide_eq_true_eq, List.all_eq_true, decide_eq_false_iff_not] at h
  exact ⟨b, h.1.1, h.1.2, h.2⟩
abbrev gArd (A : Around) (c : Code) : Around := A.over c []
/-- the context of the element -/
abbrev Cxg (X : Cx) (A : Around) (s : Shared) (H : Hp) (cenv : Env) (fp : List Addr) : Cx := { X with A := A, s_0 := s, H_0 := H, env := cenv, outer := X.stack, stack := cenv :: X.stack, ex := fp, fn := fun _ => false, calm := true, pn := [], xe := fun _ _ => False }
section
variable {X : Cx} {pins : List (Addr × Obj)} {σ : L2.St} {H : Hp} {s : Shared}
theorem gen_start {scope : Scope} {own : List (Str × Nat)} {fp : List Addr} {A : Around} {code : Value} {s' : Shared} {itv : Value} (I : Inv X pins σ H s) (G : GScp X.N X.env.scope scope own) (hN : X.N.Nodup) (hfp : ∀ b ∈ fp, FpOk X pins H b ∧ b < s.heap.objs.size)
    (hA : A.handled = none) (hF : A.frames = some (genEnv scope (cloFrom X.env.cells scope.names []) s.heap.objs.size code builtinsNs X.env :: X.stack))
    (hns : s'.heap.Ns s.heap.objs.size (fun y => if y = ".0" then some itv else none)) (kp : ∀ b o, s.heap.get? b = some o → s'.heap.get? b = some o) (hos : s'.os = s.os) (hbare : AllBare s'.gens) :
    Inv (Cxg X A s H (genEnv scope (cloFrom X.env.cells scope.names []) s.heap.objs.size code builtinsNs X.env) fp) [] (wipe σ (own.map (·.2))) H s' := by
  have ok := G.blk
  have hfree : ∀ y ∈ scope.names, y.2 = .free → ∃ c, X.env.cells.lookup y.1 = some c := fun y hy e => by
    rcases ok.free y hy e with k | k
    · exact I.ok.has _ (.inl k)
    · exact I.ok.has _ (.inr k)
  generalize hcenv : genEnv scope (cloFrom X.env.cells scope.names []) s.heap.objs.size code builtinsNs X.env = cenv at hF
  have hL : cenv.locals = s.heap.objs.size := by rw [← hcenv]; rfl
  have hcl : cenv.cells = cloFrom X.env.cells scope.names [] := by rw [← hcenv]; rfl
  have hsc : cenv.scope = scope := by rw [← hcenv]; rfl
  have cm : ∀ {y c}, cenv.cells.lookup y = some c → X.env.cells.lookup y = some c ∧ c < s.heap.objs.size := fun {y c} e => by
    rw [hcl] at e
    rcases cloFrom_mem (PySem.mem_of_lookup e) with hm | ⟨h1, rfl⟩
    · cases hm
    · obtain ⟨c, hc⟩ := hfree _ h1 rfl
      rw [hc]
      obtain ⟨w, z⟩ := I.cell _ _ hc
      exact ⟨rfl, z.lt⟩
  have look : ∀ {y}, scope.names.lookup y = some .free → ∃ c, cenv.cells.lookup y = some c ∧ X.env.cells.lookup y = some c := fun {y} hl => by
    have hy : (y, NameKind.free) ∈ scope.names := PySem.mem_of_lookup hl
    obtain ⟨c', e'⟩ := mem_lookup (cloFrom_has (cells := X.env.cells) (acc := []) hy)
    rw [← hcl] at e'
    exact ⟨c', e', (cm e').1⟩
  have kno : ∀ {y}, cenv.kindOf y = some .cell → False := fun {y} e => by
    unfold Env.kindOf at e
    rw [hsc] at e
    exact G.cell _ (PySem.mem_of_lookup e) rfl
  have okB : (Cxg X A s H cenv fp).Ok := by
    refine ⟨I.ok.mod, by show cenv.scope.kind = _; rw [hsc]; exact ok.kind, by show cenv.globals = _; rw [← hcenv]; exact I.ok.glob, by show cenv.builtins = _; rw [← hcenv]; rfl, by show s.heap.objs.size ≤ cenv.locals; rw [hL]; exact Nat.le_refl _,
      fun y z c e1 e2 => I.ok.inj y z c (cm e1).1 (cm e2).1, fun y hy => ?_, fun y c z e => (by cases z), fun _ => hA, hF, .inr ⟨rfl, by show cenv.frame = some cenv.locals; rw [← hcenv]; rfl⟩, fun b hb => ⟨?_, fun y c e z => ?_⟩, I.bs, Nat.le_trans I.ok.bsz I.sz, fun b o e hb => ?_, fun b hb z => ?_, I.stack, I.stkFree⟩
    · show ∃ c, cenv.cells.lookup y = some c
      rcases hy with hy | hy
      · exact (kno hy).elim
      · have hy : cenv.scope.names.lookup y = some .free := hy
        rw [hsc] at hy
        obtain ⟨c, h1, _⟩ := look hy
        exact ⟨c, h1⟩
    · show b ≠ cenv.locals
      rw [hL]; exact Nat.ne_of_lt (hfp b hb).2
    · exact (hfp b hb).1.2.2.2.2.1 y c (cm e).1 z
    · rcases (hfp b hb).1.2.2.2.1 with z | z
      · exact I.ok.noex b o e z
      · exact absurd (Nat.lt_of_lt_of_le (Heap.lt_size e) (Nat.le_trans I.ok.bsz z)) (Nat.lt_irrefl _)
    · rcases List.mem_cons.mp (I.stkSub b z) with z | z
      · exact (hfp b hb).1.2.1 z
      · exact (hfp b hb).1.2.2.1 z
  refine ⟨okB, hos, hbare, Un.kept kp, ⟨_, by show s'.heap.Ns cenv.locals _; rw [hL]; exact hns, fun i y av e1 e2 e3 => ?_⟩, fun y c e => ?_, ?_, fun y c e => ?_, fun p hp => ?_, I.hok.kept kp, by rw [wipe_length]; exact I.len⟩
  · obtain ⟨e2, hne⟩ := wipe_some e2
    have e3 : Vis cenv.scope y := e3
    rw [hsc] at e3
    have no : ∀ k, scope.names.lookup y = some k → ¬ (k = .local ∨ k = .cell) := fun k e hh => by
      rcases ok.own _ (PySem.mem_of_lookup e) hh with e' | e'
      · obtain ⟨p, hp, hpy⟩ := List.mem_map.mp e'
        have e3 := ok.ix p hp
        have : p.1 = y := hpy
        rw [this] at e3
        exact hne (List.mem_map.mpr ⟨p, hp, nodup_ix hN e3 e1⟩)
      · exact e' (List.mem_of_getElem? e1)
    have hfr : scope.names.lookup y = some .free := by
      rcases e3 with e3 | e3 | e3
      · exact absurd (.inl rfl) (no _ e3)
      · exact absurd (.inr rfl) (no _ e3)
      · exact e3
    obtain ⟨m, hn, hl⟩ := I.loc
    have hvis : Vis X.env.scope y := (ok.free _ (PySem.mem_of_lookup hfr) rfl).elim (fun k => .inr (.inl k)) (fun k => .inr (.inr k))
    obtain ⟨w, r, q⟩ := hl i y av e1 e2 hvis
    refine ⟨w, r, .inr ⟨.inr (by show cenv.scope.names.lookup y = _; rw [hsc]; exact hfr), ?_⟩⟩
    obtain ⟨c, h1, h2⟩ := look hfr
    rcases q with ⟨k, _⟩ | ⟨_, c', e', z⟩
    · have k : X.env.scope.names.lookup y = some .local := k
      rcases ok.free _ (PySem.mem_of_lookup hfr) rfl with k' | k' <;> rw [show X.env.scope.names.lookup y = _ from k'] at k <;> cases k
    · rw [h2] at e'; cases e'
      exact ⟨c, h1, z.keeps kp⟩
  · obtain ⟨w, z⟩ := I.cell y c (cm e).1
    exact ⟨w, z.keeps kp⟩
  · show H cenv.locals = none
    rw [hL]; exact I.hok.fresh (Nat.le_refl _)
  · exact I.freeC y c (cm e).1
  · exact absurd (show p ∈ ([] : List (Addr × Obj)) ++ [] from hp) (by simp)
end
end GX
namespace GX
open PySem PySem.Spec PyProof.Rows L2 Evl
open Sem (wp)
abbrev gLoop (elt tg iter : Expr) (scope : Scope) (pos : Pos) (it : Addr) (env : Env) : Code := .compLoop (.GeneratorExp elt [⟨tg, iter, [], 0⟩] scope pos) 0 (.ref it) .none env
/-- what stood stands, nothing hangs -/
structure Slp (s s' : Shared) : Prop where
  os : s'.os = s.os
  bare : AllBare s'.gens
  keep : ∀ b o, s.heap.get? b = some o → s'.heap.get? b = some o
def GYx (Z : Cx) (a : Addr) (obj : Obj) (cont : Bool) (Q : VK) : Protocol := fun n s₀ v s kap => ∃ (b : Bool) (H : Hp) (σ' : L2.St), v = .bool b ∧ Inv Z [(a, obj)] σ' H s ∧ (b = !cont → Q (.bl (!cont)) H) ∧ (b = cont → ∀ s'', Slp s s'' → kap (.send .none) s'')
def GRx (Z : Cx) (a : Addr) (obj : Obj) (cont : Bool) (Q : VK) : Nat → Shared → Shared → Prop := fun n s₀ s => ∃ (H : Hp) (σ' : L2.St), Inv Z [(a, obj)] σ' H s ∧ Q (.bl cont) H
/-- what the element's turns keep -/
def Turns (J : It) (g : TG) (te : TE) (σ : L2.St) (vs : List Nat) (cont : Bool) (W : Nat → Nat → Hp → Prop) (Q : VK) : Prop := ∀ i m H, W i m H → (J.stop i H ∧ Q (.bl cont) H) ∨ (J.go i H ∧ ∀ x H', J.yld i H x H' → g x (wipe σ vs) H' fun σ2 H2 => wipe σ2 vs = wipe σ vs ∧
  te σ2 H2 fun y H3 => ∃ b : Bool, y = .bl b ∧ (b = !cont → Q (.bl (!cont)) H3) ∧ (b = cont → ∃ m', m' < m ∧ W (i + 1) m' H3))
theorem seg_gx {Z : Cx} {A : Around} {elt tg iter : Expr} {scope : Scope} {pos : Pos} {J : It} {fp : List Addr} {it : Addr} {tn : Nat → Heap → Prop} {g : TG} {te : TE} {σ : L2.St} {vs : List Nat} {a : Addr} {obj : Obj} {W : Nat → Nat → Hp → Prop} {Q : VK} {cont : Bool}
    (hZ : Z.A = A.over (gLoop elt tg iter scope pos it Z.env) []) (hcalm : Z.calm = true) (hxe : Z.xe = fun _ _ => False) (hpn : Z.pn = []) (hex : ∀ b ∈ fp, b ∈ Z.ex) (ha : a ∉ fp) (hco : Z.env.scope.isCoroutine = false)
    (T : Turn Z.prog Z.w Z.K tg J fp it tn) (pg : PG Z tg g) (pe : PE Z elt te) (hW : Turns J g te σ vs cont W Q) :
    ∀ (m i : Nat) (s₀ s : Shared) (H : Hp), (∃ m', m' ≤ m ∧ W i m' H) → Inv Z [(a, obj)] (wipe σ vs) H s → tn i s.heap → (∀ b ∈ fp, H b = none) →
      Seg (model Z.prog Z.w) A (fun n s₀ r s₁ => r = .ok .next ∧ GRx Z a obj cont Q n s₀ s₁) (GYx Z a obj cont Q) (m + 1) s₀ (gLoop elt tg iter scope pos it Z.env) ((model Z.prog Z.w).den (gLoop elt tg iter scope pos it Z.env)) [] s := by
  have stat : ∀ {σ' : L2.St} {H' : Hp} {s' : Shared}, Inv Z [(a, obj)] σ' H' s' → (∀ b ∈ fp, H' b = none) → ∀ b ∈ fp, FpOk Z [(a, obj)] H' b := fun {σ' H' s'} I' hn b hb =>
    ⟨hn b hb, (I'.ok.exf b (hex b hb)).1, I'.ok.exfs b (hex b hb), .inl (hex b hb), fun x c e => (I'.ok.exf b (hex b hb)).2 x c e, fun p hp => by
      rw [hpn] at hp
      have hp : p ∈ [(a, obj)] := hp
      rcases List.mem_singleton.mp hp with rfl
      exact fun z => ha (by rw [show a = b from z]; exact hb)⟩
  intro m
  induction m using Nat.strongRecOn with
  | ind m ih =>
    intro i s₀ s H hw I st hn
    obtain ⟨m0, hm0, w0⟩ := hw
    show Seg _ A _ _ _ s₀ _ ((compTurn (.GeneratorExp elt [⟨tg, iter, [], 0⟩] scope pos) 0 (.ref it) .none Z.env).onRaise (leaving Z.env)) [] s
    rw [compTurn_gen, Sem.onRaise_eq_wrap]
    refine seg_bind_wrap (wpAny_standAt ?_)
    rcases hW i m0 H w0 with ⟨stop, qq⟩ | ⟨go, step⟩
    · have td := T.done Z rfl rfl rfl hcalm i [(a, obj)] s _ H (fun _ _ => False) I (stat I hn) st stop
      rw [hZ] at td
      refine seg_bind_wrap (thnF td fun r s6 ⟨hr, I6⟩ => ?_)
      subst hr
      exact seg_end (.ok .next) ⟨rfl, H, _, I6, qq⟩
    · have ti := T.item Z rfl rfl rfl hcalm i [(a, obj)] s _ H (fun _ _ => False) I (stat I hn) st go
      rw [hZ] at ti
      refine seg_bind_wrap (thnF ti fun r s6 ⟨u, hr, h6⟩ => ?_)
      subst hr
      refine seg_bind_wrap (thnF h6 fun _ s7 ⟨x, H7, I7, r7, y7, st7, n7⟩ => ?_)
      have I7' := I7.pinned (stat I7 n7) (T.obj _ _ st7)
      have hg := pg.run _ s7 _ H7 x u _ I7' r7 (step x H7 y7)
      rw [hZ, hxe] at hg
      refine seg_bind_wrap (thnF hg fun _ s8 ⟨σ8, H8, I8, hw8, q8⟩ => ?_)
      refine seg_bind_wrap (wpAny_tests_nil ?_)
      simp only [if_true]
      have hy : ∀ v, yieldOut Z.env v = yieldValue v := fun v => by simp only [yieldOut, hco, Bool.false_eq_true, if_false]
      simp only [hy]
      rw [Sem.bind_eq_wrap', Sem.bind_eq_wrap', Sem.wrap_wrap, Sem.wrap_wrap]
      have he := pe.run _ s8 σ8 H8 _ I8 q8
      rw [hZ, hxe] at he
      refine seg_wrap (thnF he fun z s9 ⟨yv, H9, I9, r9, b, eb, q1, q2⟩ => ?_)
      subst eb
      obtain rfl : z = Value.bool b := r9
      refine seg_at (seg_yield rfl rfl rfl ⟨b, H9, σ8, rfl, I9.unpinned, q1, fun hb s'' hal => ?_⟩)
      obtain ⟨m', hm', w'⟩ := q2 hb
      obtain ⟨k, rfl⟩ : ∃ k, m = k + 1 := ⟨m - 1, by omega⟩
      have I10 : Inv Z ([(a, obj)] ++ pinsAt fp s7.heap) σ8 H9 s'' := inv_kept I9 hal.os hal.bare hal.keep
      have pin' : ∀ b ∈ fp, ∀ o, s7.heap.get? b = some o → s''.heap.get? b = some o ∧ H9 b = none := fun b hb o e =>
        let z := I10.pin (b, o) (List.mem_append_right _ (List.mem_append_right _ (mem_pinsAt hb e)))
        ⟨z.1, z.2.1⟩
      have hl : (wipe σ vs).length = σ8.length := by rw [← hw8, wipe_length]
      refine seg_again rfl (ih k (Nat.lt_succ_self _) (i + 1) s'' s'' H9 ⟨m', by omega, w'⟩ ((I10.unpinned (pins := [(a, obj)])).weak hl (fun j v e => ?_)) (T.keep _ _ _ st7 fun b hb o e => (pin' b hb o e).1) fun b hb => ?_)
      · rw [← hw8] at e
        exact (wipe_some e).1
      · obtain ⟨o, e, _⟩ := T.obj _ _ st7 b hb
        exact (pin' b hb o e).2
/-- from the start -/
theorem seg_gxStart {Z : Cx} {A : Around} {elt tg iter : Expr} {scope : Scope} {pos : Pos} {J : It} {fp : List Addr} {it : Addr} {tn : Nat → Heap → Prop} {R : GenEnd} {Y : Protocol} {n : Nat} {s₀ s : Shared} (T : Turn Z.prog Z.w Z.K tg J fp it tn) (st : tn 0 s.heap)
    (loop : Seg (model Z.prog Z.w) A R Y n s₀ (gLoop elt tg iter scope pos it Z.env) ((model Z.prog Z.w).den (gLoop elt tg iter scope pos it Z.env)) [] s) :
    Seg (model Z.prog Z.w) A R Y n s₀ (.compStart (.GeneratorExp elt [⟨tg, iter, [], 0⟩] scope pos) 0 (.ref it) .none Z.env) ((model Z.prog Z.w).den (.compStart (.GeneratorExp elt [⟨tg, iter, [], 0⟩] scope pos) 0 (.ref it) .none Z.env)) [] s := by
  show Seg _ A _ _ _ s₀ _ ((compStart (.GeneratorExp elt [⟨tg, iter, [], 0⟩] scope pos) 0 (.ref it) .none Z.env).onRaise (leaving Z.env)) [] s
  unfold compStart
  rw [Sem.onRaise_eq_wrap]
  show Seg _ A _ _ _ s₀ _ ((ask >>= _).wrap _ _ _ _) [] s
  refine seg_bind_wrap (wpAny_askSetting ?_)
  split
  · exact seg_again rfl loop
  · first
      | exact seg_bind_wrap (wpAny_rule (seg_bind_wrap (wpAny_standAt (seg_bind_wrap (T.self _ 0 s _ _ st (seg_again rfl loop))))))
      | (refine seg_bind_wrap (wpAny_rule ?_); show Seg _ A _ _ _ s₀ _ ((standAt iter.pos >>= _).wrap _ _ _ _) [] s; exact seg_bind_wrap (wpAny_standAt (seg_bind_wrap (T.self _ 0 s _ _ st (seg_again rfl loop)))))
end GX
namespace GX
open PySem PySem.Spec PyProof.Rows L2 Evl
open GxR (TabB)
/-- the generator stands ready: n hand-outs at most are left -/
def GSt (Z : Cx) (A : Around) (a : Addr) (obj : Obj) (gi : Nat) (cont : Bool) (Q : VK) (n : Nat) (s : Shared) : Prop := ∃ (gs : GenState) (H : Hp) (σ' : L2.St), s.gens[gi]? = some gs ∧ Inv Z [(a, obj)] σ' H s ∧
  ∀ s'', Slp s s'' → gs.Goes (model Z.prog Z.w) A (fun n s₀ r s₁ => r = .ok .next ∧ GRx Z a obj cont Q n s₀ s₁) (GYx Z a obj cont Q) n (.send .none) s''
theorem slp_setGen {s : Shared} {gi : Nat} {x : GenState} (hb : AllBare s.gens) (hx : x.bare = true) : Slp s (s.setGen gi x) := ⟨rfl, allBare_setGen hb hx, fun _ _ e => e⟩
/-- one pyNext of it -/
theorem next_gx {Z : Cx} {A : Around} {a : Addr} {obj : Obj} {gi : Nat} {cont : Bool} {Q : VK} {n : Nat} {s : Shared} {P : Option Value → Shared → Prop} {E : Value → Shared → Prop} (hh : A.handled = none) (hroom : A.depth < recursionLimit) (hobj : ∀ h : Heap, h.get? a = some obj → h.IsGen a gi)
    (h : GSt Z A.in1 a obj gi cont Q n s) (hgo : ∀ s', (∃ m, n = m + 1 ∧ GSt Z A.in1 a obj gi cont Q m s') → P (some (.bool cont)) s') (hstop : ∀ s' H σ', Inv Z [(a, obj)] σ' H s' → Q (.bl (!cont)) H → P (some (.bool (!cont))) s')
    (hend : ∀ s' H σ', Inv Z [(a, obj)] σ' H s' → Q (.bl cont) H → P none s') : wpAny (model Z.prog Z.w) A (pyNext (.ref a)) P E s := by
  obtain ⟨gs, H, σ', hgs, I, hal⟩ := h
  have hpa : s.heap.get? a = some obj := (I.pin (a, obj) (List.mem_append_right _ List.mem_cons_self)).1
  have hgl : gi + 1 ≤ s.gens.size := (Array.getElem?_eq_some_iff.mp hgs).1
  refine GenW.wpAny_gsz hgl ?_
  refine wpAny_pyNext_genexpQ (P := GRx Z a obj cont Q) hh I.nolimit hroom (hobj _ hpa) hgs (hal _ (slp_setGen I.bare rfl)) (fun v s₁ gs' hb hv => ?_) (fun s₁ hp h' hk => ?_)
  · obtain ⟨b, H1, σ1, rfl, I1, q1, q2⟩ := hv
    intro hsz
    have I2 : Inv Z [(a, obj)] σ1 H1 (s₁.setGen gi gs') := inv_kept I1 rfl (allBare_setGen I1.bare hb) (fun _ _ e => e)
    by_cases hbc : b = cont
    · subst hbc
      refine hgo _ ?_
      cases n with
      | zero => exact (q2 rfl s₁ ⟨rfl, I1.bare, fun _ _ e => e⟩).elim
      | succ m =>
        refine ⟨m, rfl, gs', H1, σ1, ?_, I2, fun s'' z => q2 rfl s'' ⟨z.os, z.bare, z.keep⟩⟩
        rw [GenW.setGen_size] at hsz
        obtain ⟨y, hy⟩ : ∃ y, s₁.gens[gi]? = some y := ⟨_, Array.getElem?_eq_getElem (by omega)⟩
        exact setGen_self hy
    · have hbn : b = !cont := by cases b <;> cases cont <;> first | rfl | exact absurd rfl hbc
      subst hbn
      exact hstop _ H1 σ1 I2 (q1 rfl)
  · obtain ⟨H1, σ1, I1, q⟩ := hp
    intro _
    exact hend _ H1 σ1 (inv_kept (s' := { s₁.setGen gi .finished with heap := h' }) I1 rfl (allBare_setGen I1.bare rfl) hk) q
theorem any_loop {Z : Cx} {A : Around} {a : Addr} {obj : Obj} {gi : Nat} {Q : VK} {R : Result → Shared → Prop} (hh : A.handled = none) (hroom : A.depth < recursionLimit) (hobj : ∀ h : Heap, h.get? a = some obj → h.IsGen a gi)
    (hR : ∀ b s' H σ', Inv Z [(a, obj)] σ' H s' → Q (.bl b) H → R (.ok (.ret (.bool b))) s') : ∀ (n : Nat) (s : Shared), GSt Z A.in1.in1 a obj gi false Q n s → codeAny (model Z.prog Z.w) A (.builtin "any.loop" ⟨[.ref a], []⟩) R s := by
  intro n
  induction n using Nat.strongRecOn with
  | ind n ih =>
    intro s h
    refine codeAny_builtin F.entry_any_loop ?_
    rw [Around.under_plainId F.plain_any_loop _]
    show wpAny _ A.in1 (pyNext (.ref a) >>= _) _ _ s
    refine wpAny_bind (next_gx hh hroom hobj h (fun s' ⟨m, hm, hs⟩ => ?_) (fun s' H σ' I q => ?_) (fun s' H σ' I q => ?_))
    · refine wpAny_bind (wpAny_holding (wpAny_truthy_bool ?_))
      refine wpAny_bind (wpAny_letGo ?_)
      simp only [Bool.false_eq_true, if_false]
      exact wpAny_pure ⟨plainId_quiet F.plain_any_loop _, ih m (by omega) s' hs⟩
    · refine wpAny_bind (wpAny_holding (wpAny_truthy_bool ?_))
      refine wpAny_bind (wpAny_letGo ?_)
      simp only [Bool.not_false, if_true]
      refine wpAny_bind (wpAny_rule (wpAny_pure ?_))
      exact hR true s' H σ' I q
    · refine wpAny_bind (wpAny_rule (wpAny_pure ?_))
      exact hR false s' H σ' I q
theorem all_loop {Z : Cx} {A : Around} {a : Addr} {obj : Obj} {gi : Nat} {Q : VK} {R : Result → Shared → Prop} (hh : A.handled = none) (hroom : A.depth < recursionLimit) (hobj : ∀ h : Heap, h.get? a = some obj → h.IsGen a gi)
    (hR : ∀ b s' H σ', Inv Z [(a, obj)] σ' H s' → Q (.bl b) H → R (.ok (.ret (.bool b))) s') : ∀ (n : Nat) (s : Shared), GSt Z A.in1.in1 a obj gi true Q n s → codeAny (model Z.prog Z.w) A (.builtin "all.loop" ⟨[.ref a], []⟩) R s := by
  intro n
  induction n using Nat.strongRecOn with
  | ind n ih =>
    intro s h
    refine codeAny_builtin F.entry_all_loop ?_
    rw [Around.under_plainId F.plain_all_loop _]
    show wpAny _ A.in1 (pyNext (.ref a) >>= _) _ _ s
    refine wpAny_bind (next_gx hh hroom hobj h (fun s' ⟨m, hm, hs⟩ => ?_) (fun s' H σ' I q => ?_) (fun s' H σ' I q => ?_))
    · refine wpAny_bind (wpAny_holding (wpAny_truthy_bool ?_))
      refine wpAny_bind (wpAny_letGo ?_)
      simp only [if_true]
      exact wpAny_pure ⟨plainId_quiet F.plain_all_loop _, ih m (by omega) s' hs⟩
    · refine wpAny_bind (wpAny_holding (wpAny_truthy_bool ?_))
      refine wpAny_bind (wpAny_letGo ?_)
      simp only [Bool.not_true, Bool.false_eq_true, if_false]
      refine wpAny_bind (wpAny_rule (wpAny_pure ?_))
      exact hR false s' H σ' I q
    · refine wpAny_bind (wpAny_rule (wpAny_pure ?_))
      exact hR true s' H σ' I q
/-! ### the expression -/
/-- any (cont: False), all (cont: True) of e for x in iter; P: the table of the def's code object -/
def tGx (P : Addr) (cont : Bool) (wi : TI) (g : TG) (te : TE) (vs : List Nat) : TE := fun σ H Q => wi σ H fun J H1 => H1 P = some (TabX P) ∧ ∃ W : Nat → Nat → Hp → Prop, (∃ m, W 0 m H1) ∧ Turns J g te σ vs cont W Q
section
variable {X : Cx} {pins : List (Addr × Obj)} {σ : L2.St} {H : Hp} {s : Shared}
theorem gen_gx {c P : Addr} {elt tg iter : Expr} {scope : Scope} {own : List (Str × Nat)} {gpos : Pos} {k : Nat} {wi : TI} {g : TG} {te : TE} {cont : Bool} {Q : VK} {Qf : Value → Shared → Prop}
    (hr : Room (k + 1) X.A) (TB : TabB X.base X.mg c P) (hcode : X.env.code = .ref c) (hN : X.N.Nodup) (S : GScp X.N X.env.scope scope own) (hi : PI X tg iter wi)
    (hPG : ∀ (A : Around) (s : Shared) (H : Hp) (C : Addr) (cl : List (Str × Addr)) (cd : Value) (fp : List Addr), PG (Cxg X A s H (genEnv scope cl C cd builtinsNs X.env) fp) tg g)
    (he : ∀ (A : Around) (s : Shared) (H : Hp) (C : Addr) (cl : List (Str × Addr)) (cd : Value) (fp : List Addr), Room k A → PE (Cxg X A s H (genEnv scope cl C cd builtinsNs X.env) fp) elt te)
    (hs : ∀ v, genFold iter X.env v = pure v) (I : Inv X pins σ H s) (h : tGx P cont wi g te (own.map (·.2)) σ H Q)
    (hQ : ∀ (Z : Cx) (a : Addr) (obj : Obj) (gi n : Nat) (s5 : Shared), Z.prog = X.prog → Z.w = X.w → (∀ h : Heap, h.get? a = some obj → h.IsGen a gi) → (s5.heap.get? a = some obj) → GSt Z X.A.in1.in1 a obj gi cont Q n s5 →
      (∀ s' H' σ', Inv Z [(a, obj)] σ' H' s' → Inv X pins σ H' s') → Qf (.ref a) s5) :
    wpAny (model X.prog X.w) X.A (eval (.GeneratorExp elt [⟨tg, iter, [], 0⟩] scope gpos) X.env) Qf X.xe s := by
  have ok := S.blk
  have hfree : ∀ y ∈ scope.names, y.2 = .free → ∃ c, X.env.cells.lookup y.1 = some c := fun y hy e => by
    rcases ok.free y hy e with k | k
    · exact I.ok.has _ (.inl k)
    · exact I.ok.has _ (.inr k)
  refine wpAny_GeneratorExp_make S.co (closure_ok hfree) S.cell S.dot ok.kind (by have := hr.dp; omega) ?_ hs
  refine thn (hi.run pins s σ H _ I h) fun xv s1 hx => thn hx fun itv s2 h2 => ?_
  obtain ⟨it, fp, tn, J, H2, rfl, I2, T, st2, f2, hP, W, ⟨m0, w0⟩, hW⟩ := h2
  refine ⟨I2.nolimit, ?_⟩
  obtain ⟨ps, hP2, ht⟩ := tabX_get I2 hP
  have cd : PySem.W.CodeHd s2.heap c P := TB.code.keeps I2.bk
  have nfp : ∀ b ∈ fp, b ≠ P := fun b hb z => by
    have := (f2 b hb).1
    rw [z, hP] at this
    cases this
  -- what follows, the code object found or made
  have cont' : ∀ (code : Value) (s3 : Shared), Inv X pins σ H2 s3 → (∀ b o, b ≠ P → s2.heap.get? b = some o → s3.heap.get? b = some o) → wpAny (model X.prog X.w) X.A (builtinsFor X.env.globals X.env.builtins) (fun bi s₄ => ∀ h', h'.Ns s₄.heap.objs.size (fun y => if y = ".0" then some (.ref it) else none) → Heap.SameBut s₄.heap.objs.size (s₄.heap.push { cls := .type "frame", data := .dict #[] }) h' →
      Qf (.ref h'.objs.size) { s₄ with
        gens := s₄.gens.push (.fresh (.compStart (.GeneratorExp elt [⟨tg, iter, [], 0⟩] scope gpos) 0 (.ref it) .none (genEnv scope (cloFrom X.env.cells scope.names []) s₄.heap.objs.size code bi X.env))),
        toks := s₄.toks + 1 + 1 + 1,
        heap := h'.push { cls := .type "generator", data := .fields #[.int s₄.gens.size 0, .str "<genexpr>" (s₄.toks + 1), .str (X.env.qual ++ "<genexpr>") (s₄.toks + 1 + 1)] } }) X.xe s3 := by
    intro code s3 I3 kp3
    obtain ⟨bm, ob, e1, e2, e3, e4, e5, e6, e7, e8⟩ := TB.bm
    refine wpAny_builtinsFor (m := X.mg) (by rw [I3.ok.glob]; exact I3.ok.mod.glob.keeps I3.bk) e1 e2 (I3.bk _ _ e5) e6 e7 e8 ?_
    intro h' hns hsb
    have hsz : h'.objs.size = s3.heap.objs.size + 1 := by rw [hsb.1, Heap.size_push]
    have hfreed : ({ cls := .type "generator", data := .fields #[.int s3.gens.size 0, .str "<genexpr>" (s3.toks + 1), .str (X.env.qual ++ "<genexpr>") (s3.toks + 1 + 1)] } : Obj).isFreed = false := rfl
    generalize hobj : ({ cls := .type "generator", data := .fields #[.int s3.gens.size 0, .str "<genexpr>" (s3.toks + 1), .str (X.env.qual ++ "<genexpr>") (s3.toks + 1 + 1)] } : Obj) = obj at hfreed
    generalize hs5 : ({ s3 with gens := s3.gens.push (.fresh (.compStart (.GeneratorExp elt [⟨tg, iter, [], 0⟩] scope gpos) 0 (.ref it) .none (genEnv scope (cloFrom X.env.cells scope.names []) s3.heap.objs.size code builtinsNs X.env))), toks := s3.toks + 1 + 1 + 1, heap := h'.push obj } : Shared) = s5
    have hh5 : s5.heap = h'.push obj := by rw [← hs5]
    have hg5 : s5.gens = s3.gens.push (.fresh (.compStart (.GeneratorExp elt [⟨tg, iter, [], 0⟩] scope gpos) 0 (.ref it) .none (genEnv scope (cloFrom X.env.cells scope.names []) s3.heap.objs.size code builtinsNs X.env))) := by rw [← hs5]
    have kp : ∀ b o, s3.heap.get? b = some o → s5.heap.get? b = some o := fun b o e => by
      rw [hh5]
      refine Heap.get?_push_of_some _ ?_
      exact hsb.extBut b o (Nat.ne_of_lt (Heap.lt_size e)) (Heap.get?_push_of_some _ e)
    have f3 : ∀ b ∈ fp, FpOk X pins H2 b ∧ b < s3.heap.objs.size := fun b hb => ⟨f2 b hb, by
      obtain ⟨o, e, _⟩ := T.obj _ _ st2 b hb
      exact Heap.lt_size (kp3 b o (nfp b hb) e)⟩
    have hbare : AllBare s5.gens := by
      rw [hg5]
      exact I3.bare.push rfl
    have hos : s5.os = s3.os := by rw [← hs5]
    generalize hce : genEnv scope (cloFrom X.env.cells scope.names []) s3.heap.objs.size code builtinsNs X.env = cenv at hg5
    have hfr : X.A.frames = some X.stack := I3.ok.frames
    have I5 := gen_start (A := X.A.in1.in1.over (gLoop elt tg iter scope gpos it (genEnv scope (cloFrom X.env.cells scope.names []) s3.heap.objs.size code builtinsNs X.env)) []) (code := code) (s' := s5) (itv := .ref it) I3 S hN f3 (by exact hr.hd) (by
      show pushEnvs [genEnv scope (cloFrom X.env.cells scope.names []) s3.heap.objs.size code builtinsNs X.env] (pushEnvs [] X.A.frames) = _
      rw [hfr]
      rfl) (by rw [hh5]; exact hns.push _) kp hos hbare
    have hdep : (X.A.in1.in1.over (gLoop elt tg iter scope gpos it (genEnv scope (cloFrom X.env.cells scope.names []) s3.heap.objs.size code builtinsNs X.env)) []).depth ≤ X.A.in1.in1.depth + 1 := Nat.le_of_eq rfl
    have huni : (X.A.in1.in1.over (gLoop elt tg iter scope gpos it (genEnv scope (cloFrom X.env.cells scope.names []) s3.heap.objs.size code builtinsNs X.env)) []).units ≤ X.A.in1.in1.units + 3 := Nat.le_of_eq rfl
    have hdep1 : X.A.in1.in1.depth = X.A.depth := rfl
    have huni1 : X.A.in1.in1.units ≤ X.A.units + 2 := Nat.le_of_eq rfl
    have hA' : Room k (X.A.in1.in1.over (gLoop elt tg iter scope gpos it (genEnv scope (cloFrom X.env.cells scope.names []) s3.heap.objs.size code builtinsNs X.env)) []) := ⟨hr.hd, Nat.lt_of_le_of_lt (Nat.add_le_add_right (Nat.add_le_add_right (hdep1 ▸ hdep) _) _) (by have := hr.dp; omega), Nat.lt_of_le_of_lt (Nat.add_le_add_right (Nat.add_le_add_right (Nat.le_trans huni (Nat.add_le_add_right huni1 3)) _) _) (by have := hr.un; omega)⟩
    have pg := hPG (X.A.in1.in1.over (gLoop elt tg iter scope gpos it (genEnv scope (cloFrom X.env.cells scope.names []) s3.heap.objs.size code builtinsNs X.env)) []) s3 H2 s3.heap.objs.size (cloFrom X.env.cells scope.names []) code fp
    have pe := he (X.A.in1.in1.over (gLoop elt tg iter scope gpos it (genEnv scope (cloFrom X.env.cells scope.names []) s3.heap.objs.size code builtinsNs X.env)) []) s3 H2 s3.heap.objs.size (cloFrom X.env.cells scope.names []) code fp hA'
    rw [hce] at I5 pg pe
    have hcs : cenv.scope = scope := by rw [← hce]; rfl
    have hcl : cenv.locals = s3.heap.objs.size := by rw [← hce]; rfl
    have ha5 : s5.heap.get? h'.objs.size = some obj := by rw [hh5]; exact Heap.get?_push_size _ hfreed
    have hage : s3.heap.objs.size ≤ h'.objs.size := by omega
    have I6 : Inv (Cxg X (X.A.in1.in1.over (gLoop elt tg iter scope gpos it cenv) []) s3 H2 cenv fp) [(h'.objs.size, obj)] (wipe σ (own.map (·.2))) H2 s5 := I5.pins_of fun p hp => by
      rcases List.mem_singleton.mp hp with rfl
      refine ⟨ha5, I3.hok.fresh hage, by show h'.objs.size ≠ cenv.locals; rw [hcl, hsz]; exact Nat.succ_ne_self _, fun z => ?_, fun v z => ?_⟩
      · rcases List.mem_cons.mp (I3.stkSub _ z) with z | z
        · have := I3.lt
          rw [← z] at this
          exact absurd (Nat.lt_of_lt_of_le this hage) (Nat.lt_irrefl _)
        · exact I3.nofs hage z
      · rw [← hobj] at z
        cases z
    have hafp : h'.objs.size ∉ fp := fun z => absurd (Nat.lt_of_lt_of_le (f3 _ z).2 hage) (Nat.lt_irrefl _)
    have st5 : tn 0 s5.heap := T.keep _ _ _ st2 fun b hb o e => kp b o (kp3 b o (nfp b hb) e)
    refine hQ (Cxg X (X.A.in1.in1.over (gLoop elt tg iter scope gpos it cenv) []) s3 H2 cenv fp) h'.objs.size obj s3.gens.size (m0 + 1) s5 rfl rfl (fun h e => ?_) ha5 ⟨.fresh (.compStart (.GeneratorExp elt [⟨tg, iter, [], 0⟩] scope gpos) 0 (.ref it) .none cenv), H2, _, by rw [hg5]; exact Array.getElem?_push_size .., I6, fun s'' hal => ⟨rfl, ?_⟩⟩ (fun s' H' σ' I' => ?_)
    · rw [← hobj] at e
      exact ⟨_, _, _, e, rfl, rfl, rfl⟩
    · have I7 := inv_kept I6 hal.os hal.bare hal.keep
      have st7 : tn 0 s''.heap := T.keep _ _ _ st5 fun b _ o e => hal.keep b o e
      exact seg_gxStart (Z := Cxg X (X.A.in1.in1.over (gLoop elt tg iter scope gpos it cenv) []) s3 H2 cenv fp) T st7 (seg_gx (Z := Cxg X (X.A.in1.in1.over (gLoop elt tg iter scope gpos it cenv) []) s3 H2 cenv fp) rfl rfl rfl rfl (fun b hb => hb) hafp (by show cenv.scope.isCoroutine = false; rw [hcs]; exact S.co) T pg pe hW m0 0 s'' s'' H2 ⟨m0, Nat.le_refl _, w0⟩ I7 st7 fun b hb => (f2 b hb).1)
    · exact I3.call' (ch := fp) I'.os I'.base I'.hok I'.bare fun b hb => ⟨(f3 b hb).1.2.2.2.1, (f3 b hb).1.2.1, (f3 b hb).1.2.2.2.2.1, (f3 b hb).1.2.2.2.2.2⟩
  cases hf : codeAmong gpos ps.toList with
  | none =>
    refine wpAny_genexprCodeX hcode (cd.code hP2 ht) (cd.tab hP2) hf fun c' h' tk hx hge hlt hco' _ htab' _ => ?_
    obtain ⟨o1, vs, f1, tf, fl, tg', inF, tx, tt, op, _, _, _, _, _, _, _, _, _, htr, _⟩ := hco'
    exact cont' _ _ (inv_tabX (h' := h') (g' := s2.gens) (d' := s2.drawn) (t' := tk) I2 hP (fun b o hb e => hx b o hb e) ⟨_, htab'.2, htr⟩ I2.bare) (fun b o hb e => hx b o hb e)
  | some cv =>
    refine wpAny_genexprCode_hit hcode (cd.code hP2 ht) hf ?_
    exact cont' cv s2 I2 (fun b o _ e => e)
theorem pe_anyG {c P : Addr} {elt tg iter : Expr} {scope : Scope} {own : List (Str × Nat)} {p pos gpos : Pos} {k : Nat} {wi : TI} {g : TG} {te : TE}
    (hr : Room (k + 1) X.A) (hg : Gl X "any") (hm : X.mg "any" = none) (TB : TabB X.base X.mg c P) (hcode : X.env.code = .ref c) (hN : X.N.Nodup) (S : GScp X.N X.env.scope scope own) (hi : PI X tg iter wi)
    (hPG : ∀ (A : Around) (s : Shared) (H : Hp) (C : Addr) (cl : List (Str × Addr)) (cd : Value) (fp : List Addr), PG (Cxg X A s H (genEnv scope cl C cd builtinsNs X.env) fp) tg g)
    (he : ∀ (A : Around) (s : Shared) (H : Hp) (C : Addr) (cl : List (Str × Addr)) (cd : Value) (fp : List Addr), Room k A → PE (Cxg X A s H (genEnv scope cl C cd builtinsNs X.env) fp) elt te)
    (hs : ∀ v, genFold iter X.env v = pure v := by intro _; rfl)
    (hst : starEach [.GeneratorExp elt [⟨tg, iter, [], 0⟩] scope gpos] X.env = (false, eval (.GeneratorExp elt [⟨tg, iter, [], 0⟩] scope gpos) X.env) :: starEach [] X.env := by rfl) :
    PE X (.Call (.Name "any" p) [.GeneratorExp elt [⟨tg, iter, [], 0⟩] scope gpos] [] pos) (tGx P false wi g te (own.map (·.2))) := by
  refine ⟨fun pins s σ H Q I h => ?_⟩
  refine wpAny_Call_Name_kw (ld_blt I hg hm boot_any ?_)
  refine PyProof.Rows.callWith_builtin1 ?_ hst (by rfl)
  rw [hst]
  show wpAny _ _ (spliced ((false, eval (.GeneratorExp elt [⟨tg, iter, [], 0⟩] scope gpos) X.env) :: backTo pos (starEach [] X.env))) _ _ s
  refine Calls.spliced_cons (gen_gx hr TB hcode hN S hi hPG he hs I h fun Z a obj gi n s5 hp hw hob ha5 hG hb => ?_)
  refine Calls.spliced_nil ?_
  refine call_function_tree F.kind_any F.plain_any F.entry_any (F.args_any1 _) ?_
  unfold Builtin.«any»
  refine wpAny_bind (m := oneArg "any" _) (wpAny_pure ?_)
  refine wpAny_bind (wpAny_pyIter_gen (hob _ ha5) ?_)
  refine wpAny_pure ⟨plainId_quiet F.plain_any_loop _, ?_⟩
  rw [← hp, ← hw]
  refine any_loop (Z := Z) (Q := Q) hr.hd (by have := hr.dp; show X.A.depth < _; omega) hob (fun b s' H' σ' I' q => ?_) n s5 hG
  exact ⟨.bl b, H', hb s' H' σ' I', rfl, q⟩
theorem pe_allG {c P : Addr} {elt tg iter : Expr} {scope : Scope} {own : List (Str × Nat)} {p pos gpos : Pos} {k : Nat} {wi : TI} {g : TG} {te : TE}
    (hr : Room (k + 1) X.A) (hg : Gl X "all") (hm : X.mg "all" = none) (TB : TabB X.base X.mg c P) (hcode : X.env.code = .ref c) (hN : X.N.Nodup) (S : GScp X.N X.env.scope scope own) (hi : PI X tg iter wi)
    (hPG : ∀ (A : Around) (s : Shared) (H : Hp) (C : Addr) (cl : List (Str × Addr)) (cd : Value) (fp : List Addr), PG (Cxg X A s H (genEnv scope cl C cd builtinsNs X.env) fp) tg g)
    (he : ∀ (A : Around) (s : Shared) (H : Hp) (C : Addr) (cl : List (Str × Addr)) (cd : Value) (fp : List Addr), Room k A → PE (Cxg X A s H (genEnv scope cl C cd builtinsNs X.env) fp) elt te)
    (hs : ∀ v, genFold iter X.env v = pure v := by intro _; rfl)
    (hst : starEach [.GeneratorExp elt [⟨tg, iter, [], 0⟩] scope gpos] X.env = (false, eval (.GeneratorExp elt [⟨tg, iter, [], 0⟩] scope gpos) X.env) :: starEach [] X.env := by rfl) :
    PE X (.Call (.Name "all" p) [.GeneratorExp elt [⟨tg, iter, [], 0⟩] scope gpos] [] pos) (tGx P true wi g te (own.map (·.2))) := by
  refine ⟨fun pins s σ H Q I h => ?_⟩
  refine wpAny_Call_Name_kw (ld_blt I hg hm boot_all ?_)
  refine PyProof.Rows.callWith_builtin1 ?_ hst (by rfl)
  rw [hst]
  show wpAny _ _ (spliced ((false, eval (.GeneratorExp elt [⟨tg, iter, [], 0⟩] scope gpos) X.env) :: backTo pos (starEach [] X.env))) _ _ s
  refine Calls.spliced_cons (gen_gx hr TB hcode hN S hi hPG he hs I h fun Z a obj gi n s5 hp hw hob ha5 hG hb => ?_)
  refine Calls.spliced_nil ?_
  refine call_function_tree F.kind_all F.plain_all F.entry_all (F.args_all1 _) ?_
  unfold Builtin.«all»
  refine wpAny_bind (m := oneArg "all" _) (wpAny_pure ?_)
  refine wpAny_bind (wpAny_pyIter_gen (hob _ ha5) ?_)
  refine wpAny_pure ⟨plainId_quiet F.plain_all_loop _, ?_⟩
  rw [← hp, ← hw]
  refine all_loop (Z := Z) (Q := Q) hr.hd (by have := hr.dp; show X.A.depth < _; omega) hob (fun b s' H' σ' I' q => ?_) n s5 hG
  exact ⟨.bl b, H', hb s' H' σ' I', rfl, q⟩
end
end GX
namespace GX
open PySem PySem.Spec PyProof.Rows L2 Evl
open GxR (TabB)
section
variable {K : PySem.W.Frag} {σ : L2.St} {H : Hp} {tl te : TE} {P a : Addr} {xs : List V} {j : Nat} {ws : List Nat} {p : Nat → Bool} {Q : VK}
theorem range_hit {p : Nat → Bool} {n i : Nat} (hi : i < n) (h : p i = true) : (List.range n).any p = true := List.any_eq_true.mpr ⟨i, List.mem_range.mpr hi, h⟩
theorem range_out {p : Nat → Bool} {n i : Nat} (hi : i < n) (h : p i = false) : (List.range n).all p = false := List.all_eq_false.mpr ⟨i, List.mem_range.mpr hi, by rw [h]; decide⟩
theorem gx_anyL (hT : H P = some (TabX P)) (hx : SqL K H a xs) (hw : ∀ x, wipe ((wipe σ ws).set j (some x)) ws = wipe σ ws) (he : ∀ i x H1, Ex H H1 → xs[i]? = some x → Ev te ((wipe σ ws).set j (some x)) H1 (.bl (p i)))
    (q : ∀ H1, Ex H H1 → Q (.bl ((List.range xs.length).any p)) H1) : H P = some (TabX P) ∧ ∃ W : Nat → Nat → Hp → Prop, (∃ m, W 0 m H) ∧ Turns (Itl K a) (gName j) te σ ws false W Q := by
  refine ⟨hT, fun i m H' => i + m = xs.length ∧ Ex H H' ∧ (List.range i).any p = false, ⟨xs.length, by omega, Ex.refl H, rfl⟩, ?_⟩
  rintro i m H' ⟨him, eH, hno⟩
  by_cases hi : i < xs.length
  · refine .inr ⟨⟨xs, xs[i], ex_l eH hx, List.getElem?_eq_getElem hi⟩, ?_⟩
    rintro x H2 ⟨rfl, hx2⟩
    have hix := hx2 xs (ex_l eH hx)
    refine ⟨hw x, he i x _ eH hix _ (Ex.refl _) _ fun H3 e3 => ⟨p i, rfl, fun hb => ?_, fun hb => ⟨m - 1, by omega, by omega, eH.trans e3, ?_⟩⟩⟩
    · have g := q H3 (eH.trans e3)
      rw [range_hit hi hb] at g
      exact g
    · rw [List.range_succ, List.any_append, hno, List.any_cons, hb]
      rfl
  · obtain rfl : i = xs.length := by omega
    refine .inl ⟨⟨xs, ex_l eH hx, Nat.le_refl _⟩, ?_⟩
    have g := q H' eH
    rw [hno] at g
    exact g
theorem gx_allL (hT : H P = some (TabX P)) (hx : SqL K H a xs) (hw : ∀ x, wipe ((wipe σ ws).set j (some x)) ws = wipe σ ws) (he : ∀ i x H1, Ex H H1 → xs[i]? = some x → Ev te ((wipe σ ws).set j (some x)) H1 (.bl (p i)))
    (q : ∀ H1, Ex H H1 → Q (.bl ((List.range xs.length).all p)) H1) : H P = some (TabX P) ∧ ∃ W : Nat → Nat → Hp → Prop, (∃ m, W 0 m H) ∧ Turns (Itl K a) (gName j) te σ ws true W Q := by
  refine ⟨hT, fun i m H' => i + m = xs.length ∧ Ex H H' ∧ (List.range i).all p = true, ⟨xs.length, by omega, Ex.refl H, rfl⟩, ?_⟩
  rintro i m H' ⟨him, eH, hno⟩
  by_cases hi : i < xs.length
  · refine .inr ⟨⟨xs, xs[i], ex_l eH hx, List.getElem?_eq_getElem hi⟩, ?_⟩
    rintro x H2 ⟨rfl, hx2⟩
    have hix := hx2 xs (ex_l eH hx)
    refine ⟨hw x, he i x _ eH hix _ (Ex.refl _) _ fun H3 e3 => ⟨p i, rfl, fun hb => ?_, fun hb => ⟨m - 1, by omega, by omega, eH.trans e3, ?_⟩⟩⟩
    · have g := q H3 (eH.trans e3)
      rw [range_out hi hb] at g
      exact g
    · rw [List.range_succ, List.all_append, hno, List.all_cons, hb]
      rfl
  · obtain rfl : i = xs.length := by omega
    refine .inl ⟨⟨xs, ex_l eH hx, Nat.le_refl _⟩, ?_⟩
    have g := q H' eH
    rw [hno] at g
    exact g
theorem gx_anyT (hT : H P = some (TabX P)) (hx : SqT K H a xs) (hw : ∀ x, wipe ((wipe σ ws).set j (some x)) ws = wipe σ ws) (he : ∀ i x H1, Ex H H1 → xs[i]? = some x → Ev te ((wipe σ ws).set j (some x)) H1 (.bl (p i)))
    (q : ∀ H1, Ex H H1 → Q (.bl ((List.range xs.length).any p)) H1) : H P = some (TabX P) ∧ ∃ W : Nat → Nat → Hp → Prop, (∃ m, W 0 m H) ∧ Turns (Itt K a) (gName j) te σ ws false W Q := by
  refine ⟨hT, fun i m H' => i + m = xs.length ∧ Ex H H' ∧ (List.range i).any p = false, ⟨xs.length, by omega, Ex.refl H, rfl⟩, ?_⟩
  rintro i m H' ⟨him, eH, hno⟩
  by_cases hi : i < xs.length
  · refine .inr ⟨⟨xs, xs[i], ex_t eH hx, List.getElem?_eq_getElem hi⟩, ?_⟩
    rintro x H2 ⟨rfl, hx2⟩
    have hix := hx2 xs (ex_t eH hx)
    refine ⟨hw x, he i x _ eH hix _ (Ex.refl _) _ fun H3 e3 => ⟨p i, rfl, fun hb => ?_, fun hb => ⟨m - 1, by omega, by omega, eH.trans e3, ?_⟩⟩⟩
    · have g := q H3 (eH.trans e3)
      rw [range_hit hi hb] at g
      exact g
    · rw [List.range_succ, List.any_append, hno, List.any_cons, hb]
      rfl
  · obtain rfl : i = xs.length := by omega
    refine .inl ⟨⟨xs, ex_t eH hx, Nat.le_refl _⟩, ?_⟩
    have g := q H' eH
    rw [hno] at g
    exact g
theorem gx_allT (hT : H P = some (TabX P)) (hx : SqT K H a xs) (hw : ∀ x, wipe ((wipe σ ws).set j (some x)) ws = wipe σ ws) (he : ∀ i x H1, Ex H H1 → xs[i]? = some x → Ev te ((wipe σ ws).set j (some x)) H1 (.bl (p i)))
    (q : ∀ H1, Ex H H1 → Q (.bl ((List.range xs.length).all p)) H1) : H P = some (TabX P) ∧ ∃ W : Nat → Nat → Hp → Prop, (∃ m, W 0 m H) ∧ Turns (Itt K a) (gName j) te σ ws true W Q := by
  refine ⟨hT, fun i m H' => i + m = xs.length ∧ Ex H H' ∧ (List.range i).all p = true, ⟨xs.length, by omega, Ex.refl H, rfl⟩, ?_⟩
  rintro i m H' ⟨him, eH, hno⟩
  by_cases hi : i < xs.length
  · refine .inr ⟨⟨xs, xs[i], ex_t eH hx, List.getElem?_eq_getElem hi⟩, ?_⟩
    rintro x H2 ⟨rfl, hx2⟩
    have hix := hx2 xs (ex_t eH hx)
    refine ⟨hw x, he i x _ eH hix _ (Ex.refl _) _ fun H3 e3 => ⟨p i, rfl, fun hb => ?_, fun hb => ⟨m - 1, by omega, by omega, eH.trans e3, ?_⟩⟩⟩
    · have g := q H3 (eH.trans e3)
      rw [range_out hi hb] at g
      exact g
    · rw [List.range_succ, List.all_append, hno, List.all_cons, hb]
      rfl
  · obtain rfl : i = xs.length := by omega
    refine .inl ⟨⟨xs, ex_t eH hx, Nat.le_refl _⟩, ?_⟩
    have g := q H' eH
    rw [hno] at g
    exact g
theorem ev_anyT (hT : H P = some (TabX P)) (h : Ev tl σ H (.ref a)) (hx : SqT K H a xs) (hw : ∀ x, wipe ((wipe σ ws).set j (some x)) ws = wipe σ ws) (he : ∀ i x H1, Ex H H1 → xs[i]? = some x → Ev te ((wipe σ ws).set j (some x)) H1 (.bl (p i))) :
    Ev (tGx P false (iTup K tl) (gName j) te ws) σ H (.bl ((List.range xs.length).any p)) := fun H1 e Q q => h H1 e _ fun H2 e2 => ⟨a, rfl, ⟨xs, ex_t (e.trans e2) hx⟩, gx_anyT ((e.trans e2) _ _ hT) (ex_t (e.trans e2) hx) hw (fun i x H3 e3 hi => he i x H3 (e.trans (e2.trans e3)) hi) fun H3 e3 => q H3 (e2.trans e3)⟩
theorem ev_allT (hT : H P = some (TabX P)) (h : Ev tl σ H (.ref a)) (hx : SqT K H a xs) (hw : ∀ x, wipe ((wipe σ ws).set j (some x)) ws = wipe σ ws) (he : ∀ i x H1, Ex H H1 → xs[i]? = some x → Ev te ((wipe σ ws).set j (some x)) H1 (.bl (p i))) :
    Ev (tGx P true (iTup K tl) (gName j) te ws) σ H (.bl ((List.range xs.length).all p)) := fun H1 e Q q => h H1 e _ fun H2 e2 => ⟨a, rfl, ⟨xs, ex_t (e.trans e2) hx⟩, gx_allT ((e.trans e2) _ _ hT) (ex_t (e.trans e2) hx) hw (fun i x H3 e3 hi => he i x H3 (e.trans (e2.trans e3)) hi) fun H3 e3 => q H3 (e2.trans e3)⟩
theorem ev_anyNL (hT : H P = some (TabX P)) (h : EvL tl σ H xs) (hw : ∀ x, wipe ((wipe σ ws).set j (some x)) ws = wipe σ ws) (he : ∀ i x H1, Ex H H1 → xs[i]? = some x → Ev te ((wipe σ ws).set j (some x)) H1 (.bl (p i))) :
    Ev (tGx P false (iList K tl) (gName j) te ws) σ H (.bl ((List.range xs.length).any p)) := fun H1 e Q q => h H1 e _ fun a H2 _ e2 h2 => ⟨a, rfl, ⟨xs, sq_of h2⟩, gx_anyL ((e.trans e2) _ _ hT) (sq_of h2) hw (fun i x H3 e3 hi => he i x H3 (e.trans (e2.trans e3)) hi) fun H3 e3 => q H3 (e2.trans e3)⟩
end
end GX
namespace BD
open PySem PySem.Spec PyProof.Rows L2 Evl GX
section
variable {K : PySem.W.Frag} {σ : L2.St} {H : Hp} {tl te : TE} {P a : Addr} {xs : List V} {j n : Nat} {ws : List Nat} {p : Nat → Bool} {R : List V → Hp → Prop}
theorem ev_anyPL (hT : H P = some (TabX P)) (h : EvPL tl σ H R) (hw : ∀ x, wipe ((wipe σ ws).set j (some x)) ws = wipe σ ws) (hn : ∀ us H2, R us H2 → us.length = n) (he : ∀ us H2, Ex H H2 → R us H2 → ∀ i x H1, Ex H2 H1 → us[i]? = some x → Ev te ((wipe σ ws).set j (some x)) H1 (.bl (p i))) :
    Ev (tGx P false (iList K tl) (gName j) te ws) σ H (.bl ((List.range n).any p)) := fun H1 e Q q => h H1 e _ fun a us H2 _ e2 h2 hR => ⟨a, rfl, ⟨us, sq_of h2⟩, gx_anyL ((e.trans e2) _ _ hT) (sq_of h2) hw (fun i x H3 e3 hi => he us H2 (e.trans e2) hR i x H3 e3 hi) fun H3 e3 => by
  rw [hn us H2 hR]
  exact q H3 (e2.trans e3)⟩
end
/-! ### a def whose code object is told -/
def DnC (K : PySem.W.Frag) (mg : Str → Option Value) (x : Str) (st : Stmt) (ps : List Str) (c : Addr) : Prop := ∃ f fd, Fun K x x st f fd ∧ mg x = some (.ref f) ∧ Binds K fd ps [] ∧ fd.code = .ref c
theorem dnC_mk {K : PySem.W.Frag} {h : Heap} {mg : Str → Option Value} (X : K.In h) (G : h.Ns mainGlobals mg) {x : Str} {st : Stmt} {ps : List Str} {f cc : Addr} {oc kV dc pm cd ct : Value} {od an : Option Addr} {sl : Array (Option Value)}
    (a : PySem.W.nsIn K mainGlobals x = some (some (.ref f))) (l : K.lookup f = some ⟨oc, od, .func (PySem.W.fnOf x x (defArgs st) (defBody st) (defScope st) .none kV dc pm an cd ct), sl⟩) (c : PySem.W.codeIn K cd x = true) (k : PySem.W.keepIn K (.ref f) = true) (hc : cd = .ref cc)
    (hb : ∀ (kV doc pm : Value) (an : Option Addr) (cdv ct : Value) (us : List Value), us.length = ps.length → bindArgs (PySem.W.fnOf x x (defArgs st) (defBody st) (defScope st) .none kV doc pm an cdv ct) ⟨us, []⟩ = pure (ps.zip us)) : DnC K mg x st ps cc :=
  ⟨f, _, fun_mk l c k, PySem.W.mg_of X G a, (fun_mk l c k).binds hb, hc⟩
theorem DnC.ok {P : Program} {w : World} {K : PySem.W.Frag} {mg : Str → Option Value} {base : Heap} {x : Str} {st : Stmt} {N ps : List Str} {k : Nat} {sp : Sp} {c : Addr} (D : DnC K mg x st ps c) (S : FnScope N ps (defScope st)) (len : ∀ vs H Q E, sp vs H Q E → vs.length = ps.length)
    (hbody : ∀ (f : Addr) (cdv : Value) (A : Around) (outer : List Env) (s : Shared) (H : Hp) (vs : List V) (Q : VK) (E : XK), cdv = .ref c → Room k (A.deeper (envOfC x (defScope st) s.heap.objs.size f cdv)) → sp vs H Q E →
      ∃ t, PSs (cxOf CX0 P w K mg base N x (defScope st) f cdv A outer s H E).nox (defBody st) t ∧ t { nx := fun _ H' => Q .non H', rt := Q } (start N vs) H) : Has P w K mg base x (k + 1) ps sp := by
  obtain ⟨f, fd, F, m, b, hc⟩ := D
  refine ⟨f, fd, ?_, m, F.kp, b⟩
  obtain ⟨oc, od, kV, doc, pm, an, cdv, ct, osl, rfl, lk, hcd⟩ := F.ex
  refine fn_of lk hcd S len fun A outer s H vs Q E hr hsp => ?_
  obtain ⟨t, h, q⟩ := hbody f cdv A outer s H vs Q E hc hr hsp
  exact ⟨t, h.nox, q⟩
end BD
namespace BD
open PySem PySem.Spec PyProof.Rows L2 Evl GX
open GxR (TabB)
local macro_rules | `(tactic| walk_at "ev") => `(tactic| first
  | ((with_reducible apply ev_var) ; rfl)
  | with_reducible exact ev_c
  | ((with_reducible apply ev_I0) <;> walk_at "ev")
  | ((with_reducible apply ev_e9) <;> walk_at "ev")
  | ((with_reducible apply ev_I) <;> walk_at "ev")
  | ((with_reducible apply ev_eq) <;> walk_at "ev")
  | ((with_reducible apply ev_ne) <;> walk_at "ev")
  | ((with_reducible apply ev_neg) <;> walk_at "ev")
  | ((with_reducible apply ev_ixN) <;> walk_at "ev")
  | ((with_reducible apply ev_ixL) <;> walk_at "ev")
  | ((with_reducible apply ev_inN) <;> walk_at "ev")
  | ((with_reducible apply ev_inT) <;> walk_at "ev")
  | ((with_reducible apply ev_ixT) <;> walk_at "ev")
  | ((with_reducible apply ev_ixS) <;> walk_at "ev")
  | ((with_reducible apply ev_len') <;> walk_at "ev")
  | ((with_reducible apply et_test) <;> walk_at "ev")
  | ((with_reducible apply et_and) <;> walk_at "ev")
  | ((with_reducible apply et_or) <;> walk_at "ev")
  | ((with_reducible apply et_not) <;> walk_at "ev")
  | ((with_reducible apply et_B) <;> walk_at "ev")
  | ((with_reducible apply el_lst) <;> walk_at "ev")
  | ((with_reducible apply eu_tup) <;> walk_at "ev")
  | ((with_reducible apply ea_cons) <;> walk_at "ev")
  | with_reducible exact ea_nil
  | with_reducible assumption
  | ((with_reducible apply ex_l' ; assumption) ; walk_at "ex")
  | ((with_reducible apply ex_t' ; assumption) ; walk_at "ex")
  | (intro _ ; walk_at "ev")
  | (with_reducible first | exact atI_hd | exact at_kind | exact at2s | exact at3s | exact at3i)
  | (first | exact rfl | exact Nat.le_of_ble_eq_true rfl | exact ⟨by decide, by decide⟩ | decide | exact Or.inl ⟨by omega, by omega⟩ | exact Or.inr ⟨by omega, by omega⟩ | omega)
  | skip)
local macro_rules | `(tactic| walk_at "ex") => `(tactic| first
  | assumption
  | exact Ex.refl _
  | (refine' Ex.trans ?_ (by assumption) ; walk_at "ex"))
local macro_rules | `(tactic| walk_at "row") => `(tactic| first
  | (with_reducible exact er_nil)
  | ((with_reducible apply er_cons) <;> walk_at "row")
  | (((with_reducible apply er_var) ; rfl) ; walk_at "isrow")
  | (((with_reducible apply elr_var) ; rfl) ; walk_at "isrow")
  | ((with_reducible apply elr_cat) <;> walk_at "row")
  | ((with_reducible apply elr_lst) <;> walk_at "row")
  | ((with_reducible apply er_fin) <;> walk_at "ev")
  | ((with_reducible apply er_lendT) <;> walk_at "ev")
  | ((with_reducible apply er_lendW) <;> walk_at "ev")
  | ((with_reducible apply er_pick) <;> walk_at "ev")
  | ((with_reducible apply er_either) <;> walk_at "ev")
  | ((with_reducible apply er_or) <;> walk_at "ev")
  | ((with_reducible apply er_again) <;> walk_at "ev")
  | ((with_reducible apply er_back) <;> walk_at "ev")
  | ((with_reducible apply er_look) <;> walk_at "ev")
  | ((with_reducible apply er_change) <;> walk_at "ev")
  | exact Nat.le_of_ble_eq_true rfl
  | skip)
local macro_rules | `(tactic| walk_at "isrow") => `(tactic| first
  | assumption
  | (refine IsRow.up ?_ (by assumption) ; walk_at "ex")
  | (refine LRows.up ?_ (by assumption) ; walk_at "ex"))

local macro_rules | `(tactic| walk_at "ev") => `(tactic| (((with_reducible apply ev_tag) ; rfl) ; walk_at "isrow"))
abbrev s_clash : Stmt := topS 8
theorem sc_clash : FnScope ["one", "other"] ["one", "other"] (defScope s_clash) := ⟨rfl, rfl, rfl, by decide +kernel, rfl, by decide +kernel, by decide +kernel⟩
abbrev s_beside : Stmt := topS 9
theorem sc_beside : FnScope ["held", "hands", "count", "one", "other"] ["held"] (defScope s_beside) := ⟨rfl, rfl, rfl, by decide +kernel, rfl, by decide +kernel, by decide +kernel⟩
abbrev s_is_gone : Stmt := topS 10
theorem sc_is_gone : FnScope ["held", "word", "entry"] ["held", "word"] (defScope s_is_gone) := ⟨rfl, rfl, rfl, by decide +kernel, rfl, by decide +kernel, by decide +kernel⟩
abbrev s_is_awake : Stmt := topS 11
theorem sc_is_awake : FnScope ["held", "word", "entry"] ["held", "word"] (defScope s_is_awake) := ⟨rfl, rfl, rfl, by decide +kernel, rfl, by decide +kernel, by decide +kernel⟩
abbrev s_fault : Stmt := topS 12
theorem sc_fault : FnScope ["rows", "standing", "at", "held", "row"] ["rows", "standing"] (defScope s_fault) := ⟨rfl, rfl, rfl, by decide +kernel, rfl, by decide +kernel, by decide +kernel⟩
theorem any_getD {α : Type} (f : α → Bool) (d : α) (l : List α) : ((List.range l.length).any fun k => f (l.getD k d)) = l.any f := by
  have key : ∀ n, n ≤ l.length → ((List.range n).any fun k => f (l.getD k d)) = (l.take n).any f := fun n => by
    induction n with
    | zero => intro _; rfl
    | succ n ih =>
      intro hn
      have hg := List.getElem?_eq_getElem (show n < l.length from hn)
      rw [List.range_succ, List.any_append, ih (by omega), List.take_add_one, hg, List.any_append, List.any_cons, List.any_nil, List.getD_eq_getElem?_getD, hg]
      show _ = (_ || ([l[n]].any f))
      rw [List.any_cons, List.any_nil]
      rfl
  rw [key l.length (Nat.le_refl _), List.take_length]
/-- the word stands at an entry that is not out -/
def goneE (s : Src) (e : Ent) : Bool := decide (V.str e.w = s.v) && !e.o
def goneM (s : Src) (es : List Ent) : Bool := es.any (goneE s)
theorem std_word {rs : List Rw} {i : Nat} {es : List Ent} (sh : Sheet rs) (h : Std rs i es) : ∀ e ∈ es, e.w ≠ "" := fun e he => by
  have h1 : e.w ∈ ((opL rs i).filter Rw.named).map Rw.word := by
    rw [← held_words h.held]
    exact List.mem_map.mpr ⟨e, he, rfl⟩
  obtain ⟨q, hq, hw⟩ := List.mem_map.mp h1
  obtain ⟨hq1, hn⟩ := List.mem_filter.mp hq
  rw [opL_pr sh.g i h.le] at hq1
  obtain ⟨j, hj, hjq⟩ := List.mem_map.mp hq1
  obtain ⟨hji, r, hr, _⟩ := pr_mem i j (List.mem_reverse.mp hj)
  have hqr : q = r := by
    rw [← hjq, List.getD_eq_getElem?_getD, hr]
    rfl
  subst hqr
  obtain ⟨l, h2, h3, _⟩ := rowS_word (sh.s q (List.mem_of_getElem? hr)) hn
  rw [← hw, h2]
  intro z
  have z2 : (mkS l).cps.size = 0 := by rw [z]; rfl
  have z3 : (mkS l).cps.size = l.length := by simp [mkS]
  omega
section
variable {K : PySem.W.Frag} {σ : L2.St} {H H' : Hp} {ta tb te : TE} {tA : TA} {x : V}
theorem ev_inU {xs : List V} (ha : Ev ta σ H x) (hb : EvA tA σ H xs) (hl : xs.length ≤ 100000) (hx : flatV x = true) (hf : xs.all flatV = true) : Ev (tOp (rIn K false) ta (tTup tA)) σ H (.bl (inV x xs)) :=
  ev_opU ha (eu_tup hb hl) fun _ _ hz _ => rv_isT (st_of hz) hx hf
end
section
variable {P : Program} {w : World} {K : PySem.W.Frag} {mg : Str → Option Value} {base : Heap}
def spClash : Sp := fun vs H Q _ => ∃ (x y : V) (a b : Ent), vs = [x, y] ∧ IsEnt H x a ∧ IsEnt H y b ∧ RetV (.bl (clash a b)) H Q
theorem ok_clash (D : Dn K mg "clash" s_clash ["one", "other"]) : Has P w K mg base "clash" 1 ["one", "other"] spClash := by
  refine D.ok sc_clash (fun vs H Q E h => ?_) (fun f cdv A outer st H vs Q E hr h => ?_)
  · obtain ⟨x, y, a, b, rfl, _⟩ := h
    rfl
  · obtain ⟨x, y, a, b, rfl, hx, hy, q⟩ := h
    refine ⟨_, (pss_one (ps_ret (pe_and (pe_cmpR op_eq (pe_ix (show IxR _ (rIxT K) from ix_tup) (pv 0) pe_int (fun _ _ => rfl)) (pe_ix (show IxR _ (rIxT K) from ix_tup) (pv 1) pe_int (fun _ _ => rfl)) (nomark _)) (pe_one (pe_cmpR (show OpR _ _ (rIn K false) from op_in_seq) pe_str (pe_tup (pa_cons (pe_ix (show IxR _ (rIxT K) from ix_tup) (pv 0) pe_int (fun _ _ => rfl)) (pa_cons (pe_ix (show IxR _ (rIxT K) from ix_tup) (pv 1) pe_int (fun _ _ => rfl)) pa_nil))) (by rfl)))))), ?_⟩
    show (_ : L2.TS) _ [_, _] _
    refine s_ret (ev_is (ev_andV (ev_eq (ev_e2 rfl hx) (ev_e2 rfl hy) rfl) (fun _ => ev_inU ev_c (ea_cons (ev_e1 rfl hx) (ea_cons (ev_e1 rfl hy) ea_nil)) (Nat.le_of_ble_eq_true rfl) rfl rfl)) ?_) q
    unfold clash
    rw [show [V.str a.k, V.str b.k] = ([a.k, b.k].map V.str) from rfl, inV_strs]
    by_cases hab : a.t = b.t
    · rw [hab, decide_eq_true rfl, decide_eq_true rfl]
    · rw [decide_eq_false hab, decide_eq_false (fun z => hab (V.int.inj z))]
def spBeside (P0 : Addr) : Sp := fun vs H Q _ => ∃ (x : V) (es : List Ent), vs = [x] ∧ AHeld es x H ∧ es.length ≤ 1000 ∧ H P0 = some (TabX P0) ∧ RetV (.bl (besideM (awakeM es))) H Q
theorem ok_beside {c P0 : Addr} (D : DnC K mg "beside" s_beside ["held"] c) (T : Blt mg) (hany : mg "any" = none) (TB : TabB base mg c P0) (h_awake : Has P w K mg base "awake" 1 ["held"] (spAwake K)) (h_clash : Has P w K mg base "clash" 1 ["one", "other"] spClash) : Has P w K mg base "beside" 3 ["held"] (spBeside P0) := by
  refine D.ok sc_beside (fun vs H Q E h => ?_) (fun f cdv A outer st H vs Q E hcd hr h => ?_)
  · obtain ⟨x, es, rfl, _⟩ := h
    rfl
  · obtain ⟨x, es, rfl, hx, hlen, hT, q⟩ := h
    obtain ⟨p, hv, rfl, hp, hE⟩ := id hx
    refine ⟨_, (pss_cons (ps_set (i := 1) sc_beside.nd rfl (Or.inl rfl) (pe_own h_awake (hr.mono (by decide)) (by rfl) (pa_cons (pv 0) pa_nil))) (pss_cons (ps_for PassesOwn.never rfl (pi_enum (by rfl) T.enumerate_ (pa_cons (pv 1) pa_nil)) (pg_tup rfl (pgs_cons (pg_name (i := 2) sc_beside.nd rfl (Or.inl rfl)) (pgs_cons (pg_name (i := 3) sc_beside.nd rfl (Or.inr rfl)) pgs_nil))) (pss_one (ps_if (pt_val (pe_anyG (own := [("other", 4)]) (g := (gName 4)) hr (by rfl) hany TB hcd sc_beside.nd (gscp_by (blkOk_by (own := [("other", 4)]) (N := ["held", "hands", "count", "one", "other"]) (sc := defScope s_beside) (by decide +kernel)) (by decide +kernel)) (pi_list (pe_slice sl_list (pv 1) po_none (po_some (pv 2)))) (fun _ _ _ _ _ _ _ => (pg_name (i := 4) sc_beside.nd rfl (Or.inl rfl))) (fun _ _ _ _ _ _ _ hr => (pe_own h_clash (hr.mono (by decide)) (by rfl) (pa_cons (pv 3) (pa_cons (pv 4) pa_nil)))))) (pss_one (ps_ret pe_bl)) pss_nil))) (pss_one (ps_ret pe_bl)))), ?_⟩
    show (_ : L2.TS) _ [_, _, _, _, _] _
    refine q_asgPL (epl_awake (x := .ref p) (es := es) (ea_cons (ev_var rfl) ea_nil) hx hlen) (fun pl us H1 hpl e1 h1 hU => ?_)
    show (_ : L2.TS) _ [_, _, _, _, _] _
    have hT1 := e1 _ _ hT
    have hul := hU.len
    generalize awakeM es = ls at *
    have hL1 : SqL K H1 pl us := sq_of h1
    refine q_forE (K := K) (a := pl) (xs := us) (ev_var rfl) hL1 (fun i σ' H' => Ex H1 H' ∧ ((List.range i).any fun i => (ls.take i).any fun o => clash (ls.getD i ent0) o) = false ∧ ∃ a b c, σ' = [some (.ref p), some (.ref pl), a, b, c]) ?_ (fun i σ' H' _ h => ex_l h.1 hL1) ?_ ?_
    · intro H2 e2
      exact ⟨e2, rfl, none, none, none, rfl⟩
    · rintro i x σ' H' H2 hi ⟨eH, hno, a, b, c2, rfl⟩ e2
      obtain ⟨e, he, hX⟩ := hU.at hi
      have hil := (List.getElem?_eq_some_iff.mp he).1
      have e12 : Ex H1 H2 := eH.trans e2
      have hX2 : IsEnt H2 x e := hX.up e12
      have hU2 : Ents H2 (us.take i) (ls.take i) := ents_take i (hU.up e12)
      have hed : ls.getD i ent0 = e := by rw [List.getD_eq_getElem?_getD, he]; rfl
      dsimp only [List.set]
      refine s_when (b := (ls.take i).any fun o => clash e o) (et_B (ev_is (ev_anyNL (P := P0) (xs := us.take i) (p := fun k => clash e ((ls.take i).getD k ent0)) (e12 _ _ hT1) ?_ (fun x => rfl) (fun k y H3 e3 hk => ?_)) ?_)) (fun hb H3 e3 => ?_) (fun hb H3 e3 => ?_)
      · rw [← cut_take]
        exact el_sl (ev_var rfl) eo_none (eo_some (ev_var rfl)) (ex_l e12 hL1)
      · obtain ⟨o, ho, hO⟩ := hU2.at hk
        have hod : (ls.take i).getD k ent0 = o := by rw [List.getD_eq_getElem?_getD, ho]; rfl
        rw [hod]
        exact ev_call (ea_cons (ev_var rfl) (ea_cons (ev_var rfl) ea_nil)) fun H4 e4 Q q E => ⟨x, y, e, o, rfl, hX2.up (e3.trans e4), hO.up (e3.trans e4), q⟩
      · rw [hU2.len, any_getD]
      · have hbes : besideM ls = true := by
          unfold besideM
          refine List.any_eq_true.mpr ⟨i, List.mem_range.mpr hil, ?_⟩
          show ((ls.take i).any fun o => clash (ls.getD i ent0) o) = true
          rw [hed]
          exact hb
        rw [hbes] at q
        exact s_ret ev_c (fun H5 e5 => q H5 (e1.trans (e12.trans (e3.trans e5))))
      · refine ⟨e12.trans e3, ?_, some (.int (i : Int)), some x, c2, rfl⟩
        rw [any_range_succ, hno, hed, hb]
        rfl
    · rintro σ' H' ⟨eH, hno, a, b, c2, rfl⟩
      have hbes : besideM ls = false := by
        unfold besideM
        rw [hul] at hno
        exact hno
      rw [hbes] at q
      exact s_ret ev_c (fun H5 e5 => q H5 (e1.trans (eH.trans e5)))
def spGone (P0 : Addr) : Sp := fun vs H Q _ => ∃ (x : V) (s : Src) (es : List Ent), vs = [x, s.v] ∧ AHeld es x H ∧ H P0 = some (TabX P0) ∧ RetV (.bl (goneM s es)) H Q
theorem ok_is_gone {c P0 : Addr} (D : DnC K mg "is_gone" s_is_gone ["held", "word"] c) (hany : mg "any" = none) (TB : TabB base mg c P0) : Has P w K mg base "is_gone" 2 ["held", "word"] (spGone P0) := by
  refine D.ok sc_is_gone (fun vs H Q E h => ?_) (fun f cdv A outer st H vs Q E hcd hr h => ?_)
  · obtain ⟨x, s, es, rfl, _⟩ := h
    rfl
  · obtain ⟨x, s, es, rfl, hx, hT, q⟩ := h
    obtain ⟨p, hv, rfl, hp, hE⟩ := hx
    refine ⟨_, (pss_one (ps_ret (pe_anyG (own := [("entry", 2)]) (g := (gName 2)) hr (by rfl) hany TB hcd sc_is_gone.nd (gscp_by (blkOk_by (own := [("entry", 2)]) (N := ["held", "word", "entry"]) (sc := defScope s_is_gone) (by decide +kernel)) (by decide +kernel)) (pi_tup (pv 0)) (fun _ _ _ _ _ _ _ => (pg_name (i := 2) sc_is_gone.nd rfl (Or.inl rfl))) (fun _ _ _ _ _ _ _ hr => (pe_and (pe_cmpR op_eq (pe_ix (show IxR _ (rIxT K) from ix_tup) (pv 2) pe_int (fun _ _ => rfl)) (pv 1) (nomark _)) (pe_one (pe_not (pe_ix (show IxR _ (rIxT K) from ix_tup) (pv 2) pe_int (fun _ _ => rfl))))))))), ?_⟩
    show (_ : L2.TS) _ [_, _, _] _
    refine s_ret (v := .bl (goneM s es)) (ev_is (ev_anyT (P := P0) (xs := hv) (p := fun k => goneE s (es.getD k ent0)) hT (ev_var rfl) (st_of hp) (fun x => rfl) (fun k y H1 e1 hk => ?_)) ?_) q
    · obtain ⟨e, he, hX⟩ := hE.at hk
      have hed : es.getD k ent0 = e := by rw [List.getD_eq_getElem?_getD, he]; rfl
      rw [hed]
      unfold goneE
      refine ev_andV (ev_eq (ev_e0 rfl (hX.up e1)) (ev_var rfl) ?_) (fun _ => ev_notV (ev_e4 rfl (hX.up e1)))
      cases s <;> rfl
    · rw [hE.len, any_getD]
      rfl
def spIsAwake (K : PySem.W.Frag) (P0 : Addr) : Sp := fun vs H Q _ => ∃ (x : V) (u : Str) (es : List Ent), vs = [x, .str u] ∧ AHeld es x H ∧ es.length ≤ 1000 ∧ H P0 = some (TabX P0) ∧ RetV (.bl (decide (u ∈ (awakeM es).map Ent.w))) H Q
theorem ok_is_awake {c P0 : Addr} (D : DnC K mg "is_awake" s_is_awake ["held", "word"] c) (hany : mg "any" = none) (TB : TabB base mg c P0) (h_awake : Has P w K mg base "awake" 1 ["held"] (spAwake K)) : Has P w K mg base "is_awake" 2 ["held", "word"] (spIsAwake K P0) := by
  refine D.ok sc_is_awake (fun vs H Q E h => ?_) (fun f cdv A outer st H vs Q E hcd hr h => ?_)
  · obtain ⟨x, u, es, rfl, _⟩ := h
    rfl
  · obtain ⟨x, u, es, rfl, hx, hlen, hT, q⟩ := h
    refine ⟨_, (pss_one (ps_ret (pe_anyG (own := [("entry", 2)]) (g := (gName 2)) hr (by rfl) hany TB hcd sc_is_awake.nd (gscp_by (blkOk_by (own := [("entry", 2)]) (N := ["held", "word", "entry"]) (sc := defScope s_is_awake) (by decide +kernel)) (by decide +kernel)) (pi_list (pe_own h_awake (hr.mono (by decide)) (by rfl) (pa_cons (pv 0) pa_nil))) (fun _ _ _ _ _ _ _ => (pg_name (i := 2) sc_is_awake.nd rfl (Or.inl rfl))) (fun _ _ _ _ _ _ _ hr => (pe_cmpR op_eq (pe_ix (show IxR _ (rIxT K) from ix_tup) (pv 2) pe_int (fun _ _ => rfl)) (pv 1) (nomark _)))))), ?_⟩
    show (_ : L2.TS) _ [_, _, _] _
    refine s_ret (ev_is (ev_anyPL (K := K) (P := P0) (n := (awakeM es).length) (p := fun k => decide (V.str ((awakeM es).getD k ent0).w = V.str u)) hT (epl_awake (x := x) (es := es) (ea_cons (ev_var rfl) ea_nil) hx hlen) (fun x => rfl) (fun us H2 h => h.len) (fun us H2 e2 hU k y H1 e1 hk => ?_)) ?_) q
    · obtain ⟨e, he, hX⟩ := hU.at hk
      have hed : (awakeM es).getD k ent0 = e := by rw [List.getD_eq_getElem?_getD, he]; rfl
      rw [hed]
      exact ev_eq (ev_e0 rfl (hX.up e1)) (ev_var rfl) rfl
    · rw [any_getD (fun e : Ent => decide (V.str e.w = V.str u)) ent0 (awakeM es)]
      congr 1
      rw [Bool.eq_iff_iff, List.any_eq_true, decide_eq_true_eq, List.mem_map]
      exact ⟨fun ⟨e, h1, h2⟩ => ⟨e, h1, V.str.inj (of_decide_eq_true h2)⟩, fun ⟨e, h1, h2⟩ => ⟨e, h1, decide_eq_true (by rw [h2])⟩⟩
end
end BD
namespace BD
open PySem PySem.Spec PyProof.Rows L2 Evl GX
open GxR (TabB)
local macro_rules | `(tactic| walk_at "ev") => `(tactic| first
  | ((with_reducible apply ev_var) ; rfl)
  | with_reducible exact ev_c
  | ((with_reducible apply ev_I0) <;> walk_at "ev")
  | ((with_reducible apply ev_e9) <;> walk_at "ev")
  | ((with_reducible apply ev_I) <;> walk_at "ev")
  | ((with_reducible apply ev_eq) <;> walk_at "ev")
  | ((with_reducible apply ev_ne) <;> walk_at "ev")
  | ((with_reducible apply ev_neg) <;> walk_at "ev")
  | ((with_reducible apply ev_ixN) <;> walk_at "ev")
  | ((with_reducible apply ev_ixL) <;> walk_at "ev")
  | ((with_reducible apply ev_inN) <;> walk_at "ev")
  | ((with_reducible apply ev_inT) <;> walk_at "ev")
  | ((with_reducible apply ev_ixT) <;> walk_at "ev")
  | ((with_reducible apply ev_ixS) <;> walk_at "ev")
  | ((with_reducible apply ev_len') <;> walk_at "ev")
  | ((with_reducible apply et_test) <;> walk_at "ev")
  | ((with_reducible apply et_and) <;> walk_at "ev")
  | ((with_reducible apply et_or) <;> walk_at "ev")
  | ((with_reducible apply et_not) <;> walk_at "ev")
  | ((with_reducible apply et_B) <;> walk_at "ev")
  | ((with_reducible apply el_lst) <;> walk_at "ev")
  | ((with_reducible apply eu_tup) <;> walk_at "ev")
  | ((with_reducible apply ea_cons) <;> walk_at "ev")
  | with_reducible exact ea_nil
  | with_reducible assumption
  | ((with_reducible apply ex_l' ; assumption) ; walk_at "ex")
  | ((with_reducible apply ex_t' ; assumption) ; walk_at "ex")
  | (intro _ ; walk_at "ev")
  | (with_reducible first | exact atI_hd | exact at_kind | exact at2s | exact at3s | exact at3i)
  | (first | exact rfl | exact Nat.le_of_ble_eq_true rfl | exact ⟨by decide, by decide⟩ | decide | exact Or.inl ⟨by omega, by omega⟩ | exact Or.inr ⟨by omega, by omega⟩ | omega)
  | skip)
local macro_rules | `(tactic| walk_at "ex") => `(tactic| first
  | assumption
  | exact Ex.refl _
  | (refine' Ex.trans ?_ (by assumption) ; walk_at "ex"))
local macro_rules | `(tactic| walk_at "row") => `(tactic| first
  | (with_reducible exact er_nil)
  | ((with_reducible apply er_cons) <;> walk_at "row")
  | (((with_reducible apply er_var) ; rfl) ; walk_at "isrow")
  | (((with_reducible apply elr_var) ; rfl) ; walk_at "isrow")
  | ((with_reducible apply elr_cat) <;> walk_at "row")
  | ((with_reducible apply elr_lst) <;> walk_at "row")
  | ((with_reducible apply er_fin) <;> walk_at "ev")
  | ((with_reducible apply er_lendT) <;> walk_at "ev")
  | ((with_reducible apply er_lendW) <;> walk_at "ev")
  | ((with_reducible apply er_pick) <;> walk_at "ev")
  | ((with_reducible apply er_either) <;> walk_at "ev")
  | ((with_reducible apply er_or) <;> walk_at "ev")
  | ((with_reducible apply er_again) <;> walk_at "ev")
  | ((with_reducible apply er_back) <;> walk_at "ev")
  | ((with_reducible apply er_look) <;> walk_at "ev")
  | ((with_reducible apply er_change) <;> walk_at "ev")
  | exact Nat.le_of_ble_eq_true rfl
  | skip)
local macro_rules | `(tactic| walk_at "isrow") => `(tactic| first
  | assumption
  | (refine IsRow.up ?_ (by assumption) ; walk_at "ex")
  | (refine LRows.up ?_ (by assumption) ; walk_at "ex"))

local macro_rules | `(tactic| walk_at "ev") => `(tactic| (((with_reducible apply ev_tag) ; rfl) ; walk_at "isrow"))
theorem gone_word (u : Str) (es : List Ent) : goneM (.word u) es = (es.any fun e => decide (e.w = u) && !e.o) := by
  unfold goneM
  congr 1
  funext e
  show (decide (V.str e.w = V.str u) && !e.o) = _
  rw [dec_str]
theorem gone_thing (n : Int) (es : List Ent) : goneM (.thing n) es = false := by
  unfold goneM
  refine List.any_eq_false.mpr fun e _ => ?_
  show ¬ ((decide (V.str e.w = V.int n) && !e.o) = true)
  rw [decide_eq_false (fun z => by cases z)]
  intro z
  cases z
theorem gone_empty {es : List Ent} (hw : ∀ e ∈ es, e.w ≠ "") : (es.any fun e => decide (e.w = ("" : Str)) && !e.o) = false := by
  refine List.any_eq_false.mpr fun e he => ?_
  rw [decide_eq_false (hw e he)]
  exact fun z => by cases z
/-- a lend's source gone -/
def goneL (r : Rw) (es : List Ent) : Bool := match r with
  | .lend _ _ s => goneM s es
  | _ => false
def faultP (r : Rw) (es : List Ent) : Str := if besideM (awakeM es) = true then "beside" else if (r.isLend && goneL r es) = true then "empty" else if (r.sees && goneM (.word (handM r)) es) = true then "empty"
    else if (r.sees && !decide (handM r ∈ (awakeM es).map Ent.w)) = true then "asleep" else ""
theorem fault_split {r : Rw} {es : List Ent} (hw : ∀ e ∈ es, e.w ≠ "") : faultM r es = faultP r es := by
  unfold faultM faultP
  cases besideM (awakeM es) with
  | true => rfl
  | false =>
    cases r with
    | lend h k s =>
      cases s with
      | thing n =>
        show (if (es.any fun e => decide (e.w = ("" : Str)) && !e.o) = true then _ else _) = (if goneM (.thing n) es = true then _ else _)
        rw [gone_empty hw, gone_thing]
        rfl
      | word u =>
        show (if (es.any fun e => decide (e.w = u) && !e.o) = true then _ else _) = (if goneM (.word u) es = true then _ else _)
        rw [gone_word]
        rfl
    | look h =>
      show (if (es.any fun e => decide (e.w = h) && !e.o) = true then _ else _) = (if goneM (.word h) es = true then _ else _)
      rw [gone_word]
    | change h =>
      show (if (es.any fun e => decide (e.w = h) && !e.o) = true then _ else _) = (if goneM (.word h) es = true then _ else _)
      rw [gone_word]
    | _ =>
      show (if (es.any fun e => decide (e.w = ("" : Str)) && !e.o) = true then _ else _) = _
      rw [gone_empty hw]
      rfl
section
variable {K : PySem.W.Frag} {σ : L2.St} {H : Hp} {te : TE} {D : Ends} {tz : TS}
theorem q_unF {x : V} {n : Int} {es : List Ent} {i j : Nat} (h : Ev te σ H x) (hx : AStand n es x H) (kk : ∀ v H1, Ex H H1 → AHeld es v H1 → tz D ((σ.set i (some (.int n))).set j (some v)) H1) : tSeq (tAsg te (gTup K 2 (gCons (gName i) (gCons (gName j) gNil)))) tz D σ H :=
  h H (Ex.refl H) _ fun H1 e => by
    obtain ⟨p, q, vs, rfl, h1, h2, h3⟩ := hx
    exact ⟨p, _, rfl, st_of (e _ _ h1), rfl, .int n, [.ref q], rfl, .ref q, [], rfl, rfl, kk _ H1 e ⟨q, vs, rfl, e _ _ h2, h3.up e⟩⟩
end
section
variable {P : Program} {w : World} {K : PySem.W.Frag} {mg : Str → Option Value} {base : Heap}
/-- the program's fault, with the tables of its defs -/
def spPF (K : PySem.W.Frag) (cs : List (Addr × Addr)) : Sp := fun vs H Q _ => ∃ (a : Addr) (x : V) (rv : List V) (rs : List Rw) (i : Nat) (es : List Ent) (r : Rw), vs = [.ref a, x] ∧ SqL K H a rv ∧ Rows H rv rs ∧ AStand (i : Int) es x H ∧ Sheet rs ∧ Std rs i es ∧ rs[i]? = some r ∧ rs.length ≤ 40000 ∧
  (∀ p ∈ cs, H p.2 = some (TabX p.2)) ∧ RetV (.str (faultM r es)) H Q
theorem ok_pfault {c1 P1 c2 P2 c3 P3 : Addr} (D : Dn K mg "fault" s_fault ["rows", "standing"]) {a_LOOKS : Addr} (g_LOOKS : mg "LOOKS" = some (.ref a_LOOKS)) (hLK : ∀ H, SqT K H a_LOOKS [.str "look", .str "change"]) (h_beside : Has P w K mg base "beside" 3 ["held"] (spBeside P1)) (h_is_gone : Has P w K mg base "is_gone" 2 ["held", "word"] (spGone P2)) (h_is_awake : Has P w K mg base "is_awake" 2 ["held", "word"] (spIsAwake K P3)) :
    Has P w K mg base "fault" 4 ["rows", "standing"] (spPF K [(c1, P1), (c2, P2), (c3, P3)]) := by
  refine D.ok sc_fault (fun vs H Q E h => ?_) (fun f cdv A outer st H vs Q E hr h => ?_)
  · obtain ⟨a, x, rv, rs, i, es, r, rfl, _⟩ := h
    rfl
  · obtain ⟨a, x, rv, rs, i, es, r, rfl, hS, hR, hx, sh, hst, hg, hl, hT, q⟩ := h
    have hT1 : H P1 = some (TabX P1) := hT (c1, P1) (by simp)
    have hT2 : H P2 = some (TabX P2) := hT (c2, P2) (by simp)
    have hT3 : H P3 = some (TabX P3) := hT (c3, P3) (by simp)
    have hw := std_word sh hst
    have hel := hst.len sh
    obtain ⟨y, hy, hY⟩ := hR.get hg
    have hix : atI rv (i : Int) = some y := atI_nat hy
    rw [fault_split hw] at q
    unfold faultP at q
    refine ⟨_, (pss_cons (ps_asg (pv 1) (pg_tup rfl (pgs_cons (pg_name (i := 2) sc_fault.nd rfl (Or.inl rfl)) (pgs_cons (pg_name (i := 3) sc_fault.nd rfl (Or.inl rfl)) pgs_nil)))) (pss_cons (ps_set (i := 4) sc_fault.nd rfl (Or.inl rfl) (pe_ix (show IxR _ (rIxL K) from ix_list) (pv 0) (pv 2) (fun _ _ => rfl))) (pss_cons (ps_if (pt_val (pe_own h_beside (hr.mono (by decide)) (by rfl) (pa_cons (pv 3) pa_nil))) (pss_one (ps_ret pe_str)) pss_nil) (pss_cons (ps_if (PW.pt (pw_and (pt_cmpR op_eq (pe_ix (show IxR _ (rIxT K) from ix_tup) (pv 4) pe_int (fun _ _ => rfl)) pe_str (nomark _)) (pw_and1 (pt_val (pe_own h_is_gone (hr.mono (by decide)) (by rfl) (pa_cons (pv 3) (pa_cons (pe_ix (show IxR _ (rIxT K) from ix_tup) (pv 4) pe_int (fun _ _ => rfl)) pa_nil))))))) (pss_one (ps_ret pe_str)) pss_nil) (pss_cons (ps_if (PW.pt (pw_and (pt_cmpR (show OpR _ _ (rIn K false) from op_in_seq) (pe_ix (show IxR _ (rIxT K) from ix_tup) (pv 4) pe_int (fun _ _ => rfl)) (pe_glob (v := .ref a_LOOKS) rfl g_LOOKS rfl) (by rfl)) (pw_and1 (pt_val (pe_own h_is_gone (hr.mono (by decide)) (by rfl) (pa_cons (pv 3) (pa_cons (pe_ix (show IxR _ (rIxT K) from ix_tup) (pv 4) pe_int (fun _ _ => rfl)) pa_nil))))))) (pss_one (ps_ret pe_str)) pss_nil) (pss_cons (ps_if (PW.pt (pw_and (pt_cmpR (show OpR _ _ (rIn K false) from op_in_seq) (pe_ix (show IxR _ (rIxT K) from ix_tup) (pv 4) pe_int (fun _ _ => rfl)) (pe_glob (v := .ref a_LOOKS) rfl g_LOOKS rfl) (by rfl)) (pw_and1 (pt_not (pt_val (pe_own h_is_awake (hr.mono (by decide)) (by rfl) (pa_cons (pv 3) (pa_cons (pe_ix (show IxR _ (rIxT K) from ix_tup) (pv 4) pe_int (fun _ _ => rfl)) pa_nil)))))))) (pss_one (ps_ret pe_str)) pss_nil) (pss_one (ps_ret pe_str)))))))), ?_⟩
    show (_ : L2.TS) _ [_, _, _, _, _] _
    refine q_unF (ev_var rfl) hx (fun v H1 e1 hv => ?_)
    show (_ : L2.TS) _ [_, _, _, _, _] _
    refine q_asg (ev_ixL (ev_var rfl) (ex_l e1 hS) (ev_var rfl) hix) (fun H2 e2 => ?_)
    show (_ : L2.TS) _ [_, _, _, _, _] _
    have e02 := e1.trans e2
    have hv2 := hv.up e2
    have hY2 := hY.up e02
    refine q_when (b := besideM (awakeM es)) (et_B (ev_call (ea_cons (ev_var rfl) ea_nil) fun H4 e4 Q q E => ⟨v, es, rfl, hv2.up e4, by omega, e4 _ _ (e02 _ _ hT1), q⟩)) (fun hb H3 e3 => ?_) (fun hb H3 e3 => ?_)
    · rw [if_pos hb] at q
      exact s_ret ev_c (fun H5 e5 => q H5 (e02.trans (e3.trans e5)))
    rw [if_neg (by rw [hb]; decide)] at q
    have e03 := e02.trans e3
    have hv3 := hv2.up e3
    have hY3 := hY2.up e3
    refine q_when (b := r.isLend && goneL r es) ?_ (fun hb H4 e4 => ?_) (fun hb H4 e4 => ?_)
    · rw [← tag_lend]
      refine et_and (et_test (ev_eq (ev_tag rfl hY3) ev_c rfl)) (fun hz => et_B ?_)
      cases r with
      | lend h k s =>
        obtain ⟨p', hp1, hp2⟩ := id hY3
        cases hp1
        exact ev_call (ea_cons (ev_var rfl) (ea_cons (ev_ixT (ev_var rfl) (st_of hp2) ev_c rfl) ea_nil)) fun H5 e5 Q q E => ⟨v, s, es, rfl, hv3.up e5, e5 _ _ (e03 _ _ hT2), q⟩
      | _ => rw [tag_lend] at hz; cases hz
    · rw [if_pos hb] at q
      exact s_ret ev_c (fun H5 e5 => q H5 (e03.trans (e4.trans e5)))
    rw [if_neg (by rw [hb]; decide)] at q
    have e04 := e03.trans e4
    have hv4 := hv3.up e4
    have hY4 := hY3.up e4
    refine q_when (b := r.sees && goneM (.word (handM r)) es) ?_ (fun hb H5 e5 => ?_) (fun hb H5 e5 => ?_)
    · rw [← tag_sees]
      refine et_and (et_test (ev_inT (ev_tag rfl hY4) ev_c (hLK _) rfl rfl)) (fun hz => et_B ?_)
      cases r with
      | look h =>
        obtain ⟨p', hp1, hp2⟩ := id hY4
        cases hp1
        exact ev_call (ea_cons (ev_var rfl) (ea_cons (ev_ixT (ev_var rfl) (st_of hp2) ev_c rfl) ea_nil)) fun H5 e5 Q q E => ⟨v, .word h, es, rfl, hv4.up e5, e5 _ _ (e04 _ _ hT2), q⟩
      | change h =>
        obtain ⟨p', hp1, hp2⟩ := id hY4
        cases hp1
        exact ev_call (ea_cons (ev_var rfl) (ea_cons (ev_ixT (ev_var rfl) (st_of hp2) ev_c rfl) ea_nil)) fun H5 e5 Q q E => ⟨v, .word h, es, rfl, hv4.up e5, e5 _ _ (e04 _ _ hT2), q⟩
      | _ => rw [tag_sees] at hz; cases hz
    · rw [if_pos hb] at q
      exact s_ret ev_c (fun H6 e6 => q H6 (e04.trans (e5.trans e6)))
    rw [if_neg (by rw [hb]; decide)] at q
    have e05 := e04.trans e5
    have hv5 := hv4.up e5
    have hY5 := hY4.up e5
    refine q_when (b := r.sees && !decide (handM r ∈ (awakeM es).map Ent.w)) ?_ (fun hb H6 e6 => ?_) (fun hb H6 e6 => ?_)
    · rw [← tag_sees]
      refine et_and (et_test (ev_inT (ev_tag rfl hY5) ev_c (hLK _) rfl rfl)) (fun hz => et_not (et_B ?_))
      cases r with
      | look h =>
        obtain ⟨p', hp1, hp2⟩ := id hY5
        cases hp1
        exact ev_call (ea_cons (ev_var rfl) (ea_cons (ev_ixT (ev_var rfl) (st_of hp2) ev_c rfl) ea_nil)) fun H5 e5 Q q E => ⟨v, h, es, rfl, hv5.up e5, by omega, e5 _ _ (e05 _ _ hT3), q⟩
      | change h =>
        obtain ⟨p', hp1, hp2⟩ := id hY5
        cases hp1
        exact ev_call (ea_cons (ev_var rfl) (ea_cons (ev_ixT (ev_var rfl) (st_of hp2) ev_c rfl) ea_nil)) fun H5 e5 Q q E => ⟨v, h, es, rfl, hv5.up e5, by omega, e5 _ _ (e05 _ _ hT3), q⟩
      | _ => rw [tag_sees] at hz; cases hz
    · rw [if_pos hb] at q
      exact s_ret ev_c (fun H7 e7 => q H7 (e05.trans (e6.trans e7)))
    rw [if_neg (by rw [hb]; decide)] at q
    exact s_ret ev_c (fun H7 e7 => q H7 (e05.trans (e6.trans e7)))
end
end BD
namespace BD
open PySem PySem.Spec PyProof.Rows L2 Evl GX
open GxR (TabB)
local macro_rules | `(tactic| walk_at "ev") => `(tactic| first
  | ((with_reducible apply ev_var) ; rfl)
  | with_reducible exact ev_c
  | ((with_reducible apply ev_I0) <;> walk_at "ev")
  | ((with_reducible apply ev_e9) <;> walk_at "ev")
  | ((with_reducible apply ev_I) <;> walk_at "ev")
  | ((with_reducible apply ev_eq) <;> walk_at "ev")
  | ((with_reducible apply ev_ne) <;> walk_at "ev")
  | ((with_reducible apply ev_neg) <;> walk_at "ev")
  | ((with_reducible apply ev_ixN) <;> walk_at "ev")
  | ((with_reducible apply ev_ixL) <;> walk_at "ev")
  | ((with_reducible apply ev_inN) <;> walk_at "ev")
  | ((with_reducible apply ev_inT) <;> walk_at "ev")
  | ((with_reducible apply ev_ixT) <;> walk_at "ev")
  | ((with_reducible apply ev_ixS) <;> walk_at "ev")
  | ((with_reducible apply ev_len') <;> walk_at "ev")
  | ((with_reducible apply et_test) <;> walk_at "ev")
  | ((with_reducible apply et_and) <;> walk_at "ev")
  | ((with_reducible apply et_or) <;> walk_at "ev")
  | ((with_reducible apply et_not) <;> walk_at "ev")
  | ((with_reducible apply et_B) <;> walk_at "ev")
  | ((with_reducible apply el_lst) <;> walk_at "ev")
  | ((with_reducible apply eu_tup) <;> walk_at "ev")
  | ((with_reducible apply ea_cons) <;> walk_at "ev")
  | with_reducible exact ea_nil
  | with_reducible assumption
  | ((with_reducible apply ex_l' ; assumption) ; walk_at "ex")
  | ((with_reducible apply ex_t' ; assumption) ; walk_at "ex")
  | (intro _ ; walk_at "ev")
  | (with_reducible first | exact atI_hd | exact at_kind | exact at2s | exact at3s | exact at3i)
  | (first | exact rfl | exact Nat.le_of_ble_eq_true rfl | exact ⟨by decide, by decide⟩ | decide | exact Or.inl ⟨by omega, by omega⟩ | exact Or.inr ⟨by omega, by omega⟩ | omega)
  | skip)
local macro_rules | `(tactic| walk_at "ex") => `(tactic| first
  | assumption
  | exact Ex.refl _
  | (refine' Ex.trans ?_ (by assumption) ; walk_at "ex"))
local macro_rules | `(tactic| walk_at "row") => `(tactic| first
  | (with_reducible exact er_nil)
  | ((with_reducible apply er_cons) <;> walk_at "row")
  | (((with_reducible apply er_var) ; rfl) ; walk_at "isrow")
  | (((with_reducible apply elr_var) ; rfl) ; walk_at "isrow")
  | ((with_reducible apply elr_cat) <;> walk_at "row")
  | ((with_reducible apply elr_lst) <;> walk_at "row")
  | ((with_reducible apply er_fin) <;> walk_at "ev")
  | ((with_reducible apply er_lendT) <;> walk_at "ev")
  | ((with_reducible apply er_lendW) <;> walk_at "ev")
  | ((with_reducible apply er_pick) <;> walk_at "ev")
  | ((with_reducible apply er_either) <;> walk_at "ev")
  | ((with_reducible apply er_or) <;> walk_at "ev")
  | ((with_reducible apply er_again) <;> walk_at "ev")
  | ((with_reducible apply er_back) <;> walk_at "ev")
  | ((with_reducible apply er_look) <;> walk_at "ev")
  | ((with_reducible apply er_change) <;> walk_at "ev")
  | exact Nat.le_of_ble_eq_true rfl
  | skip)
local macro_rules | `(tactic| walk_at "isrow") => `(tactic| first
  | assumption
  | (refine IsRow.up ?_ (by assumption) ; walk_at "ex")
  | (refine LRows.up ?_ (by assumption) ; walk_at "ex"))

abbrev s_is_word : Stmt := topS 30
theorem sc_is_word : FnScope ["text", "sign"] ["text"] (defScope s_is_word) := ⟨rfl, rfl, rfl, by decide +kernel, rfl, by decide +kernel, by decide +kernel⟩
abbrev s_is_thing : Stmt := topS 31
theorem sc_is_thing : FnScope ["number"] ["number"] (defScope s_is_thing) := ⟨rfl, rfl, rfl, by decide +kernel, rfl, by decide +kernel, by decide +kernel⟩
abbrev s_are_things : Stmt := topS 32
theorem sc_are_things : FnScope ["things", "number"] ["things"] (defScope s_are_things) := ⟨rfl, rfl, rfl, by decide +kernel, rfl, by decide +kernel, by decide +kernel⟩
abbrev s_is_lend : Stmt := topS 33
theorem sc_is_lend : FnScope ["rest", "hand", "kind", "source"] ["rest"] (defScope s_is_lend) := ⟨rfl, rfl, rfl, by decide +kernel, rfl, by decide +kernel, by decide +kernel⟩
abbrev s_is_pick : Stmt := topS 34
theorem sc_is_pick : FnScope ["rest"] ["rest"] (defScope s_is_pick) := ⟨rfl, rfl, rfl, by decide +kernel, rfl, by decide +kernel, by decide +kernel⟩
abbrev s_is_use : Stmt := topS 35
theorem sc_is_use : FnScope ["rest"] ["rest"] (defScope s_is_use) := ⟨rfl, rfl, rfl, by decide +kernel, rfl, by decide +kernel, by decide +kernel⟩
abbrev s_is_row : Stmt := topS 36
theorem sc_is_row : FnScope ["row", "name", "rest"] ["row"] (defScope s_is_row) := ⟨rfl, rfl, rfl, by decide +kernel, rfl, by decide +kernel, by decide +kernel⟩
def lettersT : Str := "abcdefghijklmnopqrstuvwxyz"
theorem letters26 : lettersT.cps.toList = (List.range 26).map (· + 97) := by decide +kernel
theorem letters_in {c : Nat} (h : 97 ≤ c ∧ c ≤ 122) : decide (c ∈ lettersT.cps.toList) = true := by
  rw [letters26]
  exact decide_eq_true (List.mem_map.mpr ⟨c - 97, List.mem_range.mpr (by omega), by show c - 97 + 97 = c; omega⟩)
def Src.isW : Src → Bool
  | .word _ => true | .thing _ => false
section
variable {X : Cx} {st : Stmt}
/-- a row that is not come to -/
theorem ps_any : PS X st (fun _ _ _ => False) := ⟨fun _ _ _ _ _ _ h => h.elim⟩
end
section
variable {K : PySem.W.Frag} {σ : L2.St} {H : Hp} {ta tb tc te tl : TE} {P0 : Addr} {D : Ends} {tz : TS}
theorem ev_chain {i j k : Int} (ha : Ev ta σ H (.int i)) (hb : Ev tb σ H (.int j)) (hc : Ev tc σ H (.int k)) : Ev (tChain (rI0 fun i j => .bl (decide (i ≤ j))) (rI0 fun i j => .bl (decide (i ≤ j))) ta tb tc) σ H (.bl (decide (i ≤ j) && decide (j ≤ k))) := fun H1 e Q q =>
  ha H1 e _ fun H2 e2 => hb H2 (e.trans e2) _ fun H3 e3 => ⟨i, j, rfl, rfl, _, rfl, by
    by_cases h : i ≤ j
    · rw [decide_eq_true h, if_pos rfl]
      exact hc H3 (e.trans (e2.trans e3)) _ fun H4 e4 => ⟨j, k, rfl, rfl, by
        have := q H4 (e2.trans (e3.trans e4))
        rw [decide_eq_true h] at this
        exact this⟩
    · rw [decide_eq_false h, if_neg (by decide)]
      have := q H3 (e2.trans e3)
      rw [decide_eq_false h] at this
      exact this⟩
theorem ev_lenS {x : Str} (ha : Ev ta σ H (.str x)) (hl : x.length ≤ 100000) : Ev (tCB (fun xs H Q => ∃ z, xs = [.str z] ∧ z.length ≤ sizeLine ∧ Q (.int z.length) H) (tCons ta tNil)) σ H (.int (x.length : Int)) := fun H1 e Q q =>
  ha H1 e _ fun H2 e2 => ⟨x, rfl, Nat.le_trans hl (by decide), q H2 e2⟩
/-- all(.. for c in text) -/
theorem ev_allS {x : Str} {p : Nat → Bool} {j : Nat} {ws : List Nat} (hT : H P0 = some (TabX P0)) (h : Ev tl σ H (.str x)) (hw : ∀ y, wipe ((wipe σ ws).set j (some y)) ws = wipe σ ws)
    (he : ∀ (i c : Nat) H1, Ex H H1 → x.cps[i]? = some c → Ev te ((wipe σ ws).set j (some (.str ⟨#[c]⟩))) H1 (.bl (p i))) : Ev (tGx P0 true (iStr tl) (gName j) te ws) σ H (.bl ((List.range x.cps.size).all p)) := fun H0 e0 Q q => h H0 e0 _ fun H e2 => by
  refine ⟨x, rfl, (e0.trans e2) _ _ hT, fun i m H' => i + m = x.cps.size ∧ Ex H H' ∧ (List.range i).all p = true, ⟨x.cps.size, by omega, Ex.refl H, rfl⟩, ?_⟩
  rintro i m H' ⟨him, eH, hno⟩
  by_cases hi : i < x.cps.size
  · refine .inr ⟨hi, ?_⟩
    rintro v H2 ⟨rfl, c, hc, rfl⟩
    refine ⟨hw _, he i c _ (e0.trans (e2.trans eH)) hc _ (Ex.refl _) _ fun H3 e3 => ⟨p i, rfl, fun hb => ?_, fun hb => ⟨m - 1, by omega, by omega, eH.trans e3, ?_⟩⟩⟩
    · have g := q H3 (e2.trans (eH.trans e3))
      rw [range_out hi hb] at g
      exact g
    · rw [List.range_succ, List.all_append, hno, List.all_cons, hb]
      rfl
  · obtain rfl : i = x.cps.size := by omega
    refine .inl ⟨Nat.le_refl _, ?_⟩
    have g := q H' (e2.trans eH)
    rw [hno] at g
    exact g
theorem q_un3T {p : Addr} {a b c : V} {i j k : Nat} (h : Ev te σ H (.ref p)) (hp : SqT K H p [a, b, c]) (kk : ∀ H1, Ex H H1 → tz D (((σ.set i (some a)).set j (some b)).set k (some c)) H1) : tSeq (tAsg te (gTup K 3 (gCons (gName i) (gCons (gName j) (gCons (gName k) gNil))))) tz D σ H :=
  h H (Ex.refl H) _ fun H1 e => ⟨p, _, rfl, ex_t e hp, rfl, a, [b, c], rfl, b, [c], rfl, c, [], rfl, rfl, kk H1 e⟩
theorem eu_sl1T {p : Addr} {x : V} {xs : List V} (h : Ev te σ H (.ref p)) (hp : H p = some (.tup (x :: xs))) : EvU (tSl (rSlA K) te (tPart (tC (.int 1))) tNoPart) σ H xs := fun H1 e Q q =>
  h H1 e _ fun H2 e2 => ⟨1, rfl, p, x :: xs, rfl, st_of (e2 _ _ (e _ _ hp)), fun z => by
      have h1 := z.1
      have h2 : HT.sIx (x :: xs).length 0 (some 1) = min 1 (x :: xs).length := HT.sIx_nat _ _ 1
      rw [h2, List.length_cons] at h1
      omega, fun z r hr => by
      have hc : cutV (x :: xs) (some 1) none = xs := by
        unfold cutV
        have h2 : HT.sIx (x :: xs).length 0 (some 1) = min 1 (x :: xs).length := HT.sIx_nat _ _ 1
        rw [h2, HT.sIx_none, List.length_cons, Nat.min_eq_left (by omega)]
        show List.take _ xs = xs
        exact List.take_of_length_le (by omega)
      rw [hc]
      exact q r _ (fresh_back e2 hr) (e2.trans (Ex.new hr)) upd_same⟩
end
section
variable {P : Program} {w : World} {K : PySem.W.Frag} {mg : Str → Option Value} {base : Heap}
def spIsWord (P0 : Addr) : Sp := fun vs H Q _ => ∃ s : Src, vs = [s.v] ∧ s.S ∧ H P0 = some (TabX P0) ∧ RetV (.bl s.isW) H Q
theorem ok_is_word {c P0 : Addr} {t1 t2 : Tok} (D : DnC K mg "is_word" s_is_word ["text"] c) (T : Blt mg) (TB : TabB base mg c P0) (g_LONGEST_WORD : mg "LONGEST_WORD" = some (.int 12 t1)) (g_LETTERS : mg "LETTERS" = some (.str "abcdefghijklmnopqrstuvwxyz" t2)) : Has P w K mg base "is_word" 2 ["text"] (spIsWord P0) := by
  have hall := T.all_
  refine D.ok sc_is_word (fun vs H Q E h => ?_) (fun f cdv A outer st H vs Q E hcd hr h => ?_)
  · obtain ⟨s, rfl, _⟩ := h
    rfl
  · obtain ⟨s, rfl, hs, hT, q⟩ := h
    refine ⟨_, (pss_cons (ps_if (PW.pt (pw_or (pt_not (pt_val (pe_callB (show CallR _ _ (rIsi K) from call_isi) (by rfl) T.isinstance_ (by decide +kernel) (pa_cons (pv 0) (pa_cons (pe_bltn (v := .ty "str") (by rfl) T.str_ (by decide +kernel) rfl) pa_nil))))) (pw_or1 (pt_not (pt_chain op_le op_le pe_int (pe_callB call_len_str (by rfl) T.len_ (by decide +kernel) (pa_cons (pv 0) pa_nil)) (pe_glob (v := .int 12) rfl g_LONGEST_WORD ⟨_, rfl⟩)))))) (pss_one (ps_ret pe_bl)) pss_nil) (pss_one (ps_ret (pe_allG (own := [("sign", 1)]) (g := (gName 1)) hr (by rfl) hall TB hcd sc_is_word.nd (gscp_by (blkOk_by (own := [("sign", 1)]) (N := ["text", "sign"]) (sc := defScope s_is_word) (by decide +kernel)) (by decide +kernel)) (pi_str (pv 0)) (fun _ _ _ _ _ _ _ => (pg_name (i := 1) sc_is_word.nd rfl (Or.inl rfl))) (fun _ _ _ _ _ _ _ hr => (pe_cmpR op_in_sign (pv 1) (pe_glob (v := .str "abcdefghijklmnopqrstuvwxyz") rfl g_LETTERS ⟨_, rfl⟩) (by rfl))))))), ?_⟩
    show (_ : L2.TS) _ [_, _] _
    cases s with
    | thing n =>
      refine q_when (b := true) (et_is (et_or (a := true) (b := false) (et_is (et_not (et_B (ev_isiI (ea_cons (ev_var rfl) (ea_cons ev_c ea_nil)) (show kitB "int" "str" = some false by decide +kernel)))) rfl) (fun hz => by cases hz)) rfl) (fun _ H1 e1 => s_ret ev_c (fun H2 e2 => q H2 (e1.trans e2))) (fun hb => by cases hb)
    | word u =>
      obtain ⟨l, rfl, h1, h2, h3⟩ := hs
      have hl : (mkS l).length = l.length := mkS_len l
      refine q_when (b := false) (et_is (et_or (a := false) (et_is (et_not (et_B (ev_isiS (ea_cons (ev_var rfl) (ea_cons ev_c ea_nil)) (show kitB "str" "str" = some true by decide +kernel)))) rfl) (fun _ => et_not (et_test (ev_chain ev_c (ev_lenS (ev_var rfl) (by omega)) ev_c)))) ?_) (fun hb => by cases hb) (fun _ H1 e1 => ?_)
      · rw [hl, decide_eq_true (show (1 : Int) ≤ (l.length : Int) by omega), decide_eq_true (show (l.length : Int) ≤ 12 by omega)]
        rfl
      · refine s_ret (v := .bl true) (ev_is (ev_allS (P0 := P0) (x := mkS l) (p := fun _ => true) (e1 _ _ hT) (ev_var rfl) (fun y => rfl) (fun i c H2 e2 hc => ?_)) ?_) (fun H2 e2 => q H2 (e1.trans e2))
        · have hm : c ∈ l := by
            have : (mkS l).cps = l.toArray := rfl
            rw [this] at hc
            simp only [List.getElem?_toArray] at hc
            exact List.mem_of_getElem? hc
          exact fun H3 e3 Q q => ⟨_, rfl, c, lettersT, rfl, rfl, by
            rw [letters_in (h3 c hm)]
            exact q H3 (Ex.refl _)⟩
        · congr 1
          exact List.all_eq_true.mpr fun _ _ => rfl
def spIsThing : Sp := fun vs H Q _ => ∃ s : Src, vs = [s.v] ∧ s.S ∧ RetV (.bl (!s.isW)) H Q
theorem ok_is_thing {t1 : Tok} (D : Dn K mg "is_thing" s_is_thing ["number"]) (T : Blt mg) (g_GREATEST_THING : mg "GREATEST_THING" = some (.int 999999999 t1)) : Has P w K mg base "is_thing" 1 ["number"] spIsThing := by
  refine D.ok sc_is_thing (fun vs H Q E h => ?_) (fun f cdv A outer st H vs Q E hr h => ?_)
  · obtain ⟨s, rfl, _⟩ := h
    rfl
  · obtain ⟨s, rfl, hs, q⟩ := h
    refine ⟨_, (pss_cons (ps_if (PW.pt (pw_or (pt_val (pe_callB (show CallR _ _ (rIsi K) from call_isi) (by rfl) T.isinstance_ (by decide +kernel) (pa_cons (pv 0) (pa_cons (pe_bltn (v := .ty "bool") (by rfl) T.bool_ (by decide +kernel) rfl) pa_nil)))) (pw_or1 (pt_not (pt_val (pe_callB (show CallR _ _ (rIsi K) from call_isi) (by rfl) T.isinstance_ (by decide +kernel) (pa_cons (pv 0) (pa_cons (pe_bltn (v := .ty "int") (by rfl) T.int_ (by decide +kernel) rfl) pa_nil)))))))) (pss_one (ps_ret pe_bl)) pss_nil) (pss_one (ps_ret (pe_chain op_le op_le pe_int (pv 0) (pe_glob (v := .int 999999999) rfl g_GREATEST_THING ⟨_, rfl⟩))))), ?_⟩
    show (_ : L2.TS) _ [_] _
    cases s with
    | thing n =>
      refine q_when (b := false) (et_is (et_or (a := false) (et_B (ev_isiI (ea_cons (ev_var rfl) (ea_cons ev_c ea_nil)) (show kitB "int" "bool" = some false by decide +kernel))) (fun _ => et_not (et_B (ev_isiI (ea_cons (ev_var rfl) (ea_cons ev_c ea_nil)) (show kitB "int" "int" = some true by decide +kernel))))) rfl) (fun hb => by cases hb) (fun _ H1 e1 => ?_)
      refine s_ret (v := .bl true) (ev_is (ev_chain ev_c (ev_var rfl) ev_c) ?_) (fun H2 e2 => q H2 (e1.trans e2))
      rw [decide_eq_true hs.1, decide_eq_true hs.2]
      rfl
    | word u =>
      refine q_when (b := true) (et_is (et_or (a := false) (et_B (ev_isiS (ea_cons (ev_var rfl) (ea_cons ev_c ea_nil)) (show kitB "str" "bool" = some false by decide +kernel))) (fun _ => et_not (et_B (ev_isiS (ea_cons (ev_var rfl) (ea_cons ev_c ea_nil)) (show kitB "str" "int" = some false by decide +kernel))))) rfl) (fun _ H1 e1 => s_ret ev_c (fun H2 e2 => q H2 (e1.trans e2))) (fun hb => by cases hb)
def spAreThings (P0 : Addr) : Sp := fun vs H Q _ => ∃ (p : Addr) (ts : List Int), vs = [.ref p] ∧ H p = some (.tup (ts.map V.int)) ∧ 1 ≤ ts.length ∧ ts.length ≤ 5 ∧ (∀ t ∈ ts, 0 ≤ t ∧ t ≤ 999999999) ∧ H P0 = some (TabX P0) ∧ RetV (.bl true) H Q
theorem ok_are_things {c P0 : Addr} {t1 : Tok} (D : DnC K mg "are_things" s_are_things ["things"] c) (T : Blt mg) (TB : TabB base mg c P0) (g_MOST_THINGS : mg "MOST_THINGS" = some (.int 5 t1)) (h_is_thing : Has P w K mg base "is_thing" 1 ["number"] spIsThing) : Has P w K mg base "are_things" 3 ["things"] (spAreThings P0) := by
  have hall := T.all_
  refine D.ok sc_are_things (fun vs H Q E h => ?_) (fun f cdv A outer st H vs Q E hcd hr h => ?_)
  · obtain ⟨p, ts, rfl, _⟩ := h
    rfl
  · obtain ⟨p, ts, rfl, hp, h1, h2, h3, hT, q⟩ := h
    have hP : SqT K H p (ts.map V.int) := st_of hp
    refine ⟨_, (pss_cons (ps_if (PW.pt (pw_or (pt_not (pt_val (pe_callB (show CallR _ _ (rIsi K) from call_isi) (by rfl) T.isinstance_ (by decide +kernel) (pa_cons (pv 0) (pa_cons (pe_bltn (v := .ty "tuple") (by rfl) T.tuple_ (by decide +kernel) rfl) pa_nil))))) (pw_or1 (pt_not (pt_chain op_le op_le pe_int (pe_callB (show CallR _ _ (rLenS K) from call_len_seq) (by rfl) T.len_ (by decide +kernel) (pa_cons (pv 0) pa_nil)) (pe_glob (v := .int 5) rfl g_MOST_THINGS ⟨_, rfl⟩)))))) (pss_one (ps_ret pe_bl)) pss_nil) (pss_one (ps_ret (pe_allG (own := [("number", 1)]) (g := (gName 1)) hr (by rfl) hall TB hcd sc_are_things.nd (gscp_by (blkOk_by (own := [("number", 1)]) (N := ["things", "number"]) (sc := defScope s_are_things) (by decide +kernel)) (by decide +kernel)) (pi_tup (pv 0)) (fun _ _ _ _ _ _ _ => (pg_name (i := 1) sc_are_things.nd rfl (Or.inl rfl))) (fun _ _ _ _ _ _ _ hr => (pe_own h_is_thing (hr.mono (by decide)) (by rfl) (pa_cons (pv 1) pa_nil))))))), ?_⟩
    show (_ : L2.TS) _ [_, _] _
    refine q_when (b := false) (et_is (et_or (a := false) (et_is (et_not (et_B (ev_isiT (ea_cons (ev_var rfl) (ea_cons ev_c ea_nil)) hp (show kitB "tuple" "tuple" = some true by decide +kernel)))) rfl) (fun _ => et_not (et_test (ev_chain ev_c (ev_lenT (ev_var rfl) hP) ev_c)))) ?_) (fun hb => by cases hb) (fun _ H1 e1 => ?_)
    · rw [List.length_map, decide_eq_true (show (1 : Int) ≤ (ts.length : Int) by omega), decide_eq_true (show (ts.length : Int) ≤ 5 by omega)]
      rfl
    · refine s_ret (v := .bl true) (ev_is (ev_allT (P := P0) (xs := ts.map V.int) (p := fun _ => true) (e1 _ _ hT) (ev_var rfl) (ex_t e1 hP) (fun y => rfl) (fun i x H2 e2 hi => ?_)) ?_) (fun H2 e2 => q H2 (e1.trans e2))
      · rw [List.getElem?_map] at hi
        obtain ⟨t, ht, rfl⟩ := Option.map_eq_some_iff.mp hi
        exact ev_call (ea_cons (ev_var rfl) ea_nil) fun H3 e3 Q q E => ⟨.thing t, rfl, h3 t (List.mem_of_getElem? ht), q⟩
      · congr 1
        exact List.all_eq_true.mpr fun _ _ => rfl
def spIsLend (P0 : Addr) : Sp := fun vs H Q _ => ∃ (p : Addr) (h k : Str) (s : Src), vs = [.ref p] ∧ H p = some (.tup [.str h, .str k, s.v]) ∧ WordS h ∧ (k = "read" ∨ k = "write") ∧ s.S ∧ H P0 = some (TabX P0) ∧ RetV (.bl true) H Q
theorem ev_is_word {P0 : Addr} {s : Src} {ta : TA} {σ : L2.St} {H : Hp} {E : XK} (h : EvA ta σ H [s.v]) (hs : s.S) (hT : H P0 = some (TabX P0)) : Ev (tCall (spIsWord P0) [] E ta) σ H (.bl s.isW) := ev_call h fun H1 e Q q E => ⟨s, rfl, hs, e _ _ hT, q⟩
theorem ok_is_lend {P0 : Addr} (D : Dn K mg "is_lend" s_is_lend ["rest"]) (T : Blt mg) {a_KINDS : Addr} (g_KINDS : mg "KINDS" = some (.ref a_KINDS)) (hKI : ∀ H, SqT K H a_KINDS [.str "read", .str "write"]) (h_is_word : Has P w K mg base "is_word" 2 ["text"] (spIsWord P0)) (h_is_thing : Has P w K mg base "is_thing" 1 ["number"] spIsThing) : Has P w K mg base "is_lend" 3 ["rest"] (spIsLend P0) := by
  refine D.ok sc_is_lend (fun vs H Q E h => ?_) (fun f cdv A outer st H vs Q E hr h => ?_)
  · obtain ⟨p, h, k, s, rfl, _⟩ := h
    rfl
  · obtain ⟨p, h, k, s, rfl, hp, hh, hk, hs, hT, q⟩ := h
    have hP : SqT K H p [.str h, .str k, s.v] := st_of hp
    refine ⟨_, (pss_cons (ps_if (pt_cmpR op_ne (pe_callB (show CallR _ _ (rLenS K) from call_len_seq) (by rfl) T.len_ (by decide +kernel) (pa_cons (pv 0) pa_nil)) pe_int (nomark _)) (pss_one (ps_ret pe_bl)) pss_nil) (pss_cons (ps_asg (pv 0) (pg_tup rfl (pgs_cons (pg_name (i := 1) sc_is_lend.nd rfl (Or.inl rfl)) (pgs_cons (pg_name (i := 2) sc_is_lend.nd rfl (Or.inl rfl)) (pgs_cons (pg_name (i := 3) sc_is_lend.nd rfl (Or.inl rfl)) pgs_nil))))) (pss_one (ps_ret (pe_and (pe_own h_is_word (hr.mono (by decide)) (by rfl) (pa_cons (pv 1) pa_nil)) (pe_and (pe_cmpR (show OpR _ _ (rIn K false) from op_in_seq) (pv 2) (pe_glob (v := .ref a_KINDS) rfl g_KINDS rfl) (by rfl)) (pe_one (pe_or (pe_own h_is_thing (hr.mono (by decide)) (by rfl) (pa_cons (pv 3) pa_nil)) (pe_one (pe_own h_is_word (hr.mono (by decide)) (by rfl) (pa_cons (pv 3) pa_nil))))))))))), ?_⟩
    show (_ : L2.TS) _ [_, _, _, _] _
    refine q_when (b := false) (et_is (et_test (ev_ne (ev_lenT (ev_var rfl) hP) ev_c rfl)) rfl) (fun hb => by cases hb) (fun _ H1 e1 => ?_)
    refine q_un3T (ev_var rfl) (ex_t e1 hP) (fun H2 e2 => ?_)
    show (_ : L2.TS) _ [_, _, _, _] _
    have e02 := e1.trans e2
    refine s_ret (v := .bl true) (ev_is (ev_andV (a := true) (b := true) (ev_is (ev_is_word (s := .word h) (ea_cons (ev_var rfl) ea_nil) hh (e02 _ _ hT)) rfl) (fun _ => ev_is (ev_andV (a := true) (b := true) (ev_is (ev_inT (ev_var rfl) ev_c (hKI H2) rfl rfl) ?_) (fun _ => ?_)) rfl)) rfl) (fun H3 e3 => q H3 (e02.trans e3))
    · rcases hk with rfl | rfl <;> rfl
    · refine ev_is (ev_orV (a := !s.isW) (b := s.isW) (ev_call (ea_cons (ev_var rfl) ea_nil) fun H3 e3 Q q E => ⟨s, rfl, hs, q⟩) (fun _ => ev_is_word (ea_cons (ev_var rfl) ea_nil) hs (e02 _ _ hT))) ?_
      cases s <;> rfl
def spIsPick (P0 P1 : Addr) : Sp := fun vs H Q _ => ∃ (p r : Addr) (u : Str) (ts : List Int), vs = [.ref p] ∧ H p = some (.tup [.str u, .ref r]) ∧ H r = some (.tup (ts.map V.int)) ∧ WordS u ∧ 1 ≤ ts.length ∧ ts.length ≤ 5 ∧ (∀ t ∈ ts, 0 ≤ t ∧ t ≤ 999999999) ∧ H P0 = some (TabX P0) ∧ H P1 = some (TabX P1) ∧ RetV (.bl true) H Q
theorem ok_is_pick {P0 P1 : Addr} (D : Dn K mg "is_pick" s_is_pick ["rest"]) (T : Blt mg) (h_is_word : Has P w K mg base "is_word" 2 ["text"] (spIsWord P0)) (h_are_things : Has P w K mg base "are_things" 3 ["things"] (spAreThings P1)) : Has P w K mg base "is_pick" 4 ["rest"] (spIsPick P0 P1) := by
  refine D.ok sc_is_pick (fun vs H Q E h => ?_) (fun f cdv A outer st H vs Q E hr h => ?_)
  · obtain ⟨p, r, u, ts, rfl, _⟩ := h
    rfl
  · obtain ⟨p, r, u, ts, rfl, hp, hr2, hu, h1, h2, h3, hT, hT1, q⟩ := h
    have hP : SqT K H p [.str u, .ref r] := st_of hp
    refine ⟨_, (pss_one (ps_ret (pe_and (pe_cmpR op_eq (pe_callB (show CallR _ _ (rLenS K) from call_len_seq) (by rfl) T.len_ (by decide +kernel) (pa_cons (pv 0) pa_nil)) pe_int (nomark _)) (pe_and (pe_own h_is_word (hr.mono (by decide)) (by rfl) (pa_cons (pe_ix (show IxR _ (rIxT K) from ix_tup) (pv 0) pe_int (fun _ _ => rfl)) pa_nil)) (pe_one (pe_own h_are_things (hr.mono (by decide)) (by rfl) (pa_cons (pe_ix (show IxR _ (rIxT K) from ix_tup) (pv 0) pe_int (fun _ _ => rfl)) pa_nil))))))), ?_⟩
    show (_ : L2.TS) _ [_] _
    refine s_ret (v := .bl true) (ev_is (ev_andV (a := true) (b := true) (ev_is (ev_eq (ev_lenT (ev_var rfl) hP) ev_c rfl) rfl) (fun _ => ev_is (ev_andV (a := true) (b := true) (ev_is (ev_is_word (s := .word u) (ea_cons (ev_ixT (ev_var rfl) hP ev_c rfl) ea_nil) hu hT) rfl) (fun _ => ?_)) rfl)) rfl) q
    exact ev_call (ea_cons (ev_ixT (ev_var rfl) hP ev_c rfl) ea_nil) fun H3 e3 Q q E => ⟨r, ts, rfl, e3 _ _ hr2, h1, h2, h3, e3 _ _ hT1, q⟩
def spIsUse (P0 : Addr) : Sp := fun vs H Q _ => ∃ (p : Addr) (u : Str), vs = [.ref p] ∧ H p = some (.tup [.str u]) ∧ WordS u ∧ H P0 = some (TabX P0) ∧ RetV (.bl true) H Q
theorem ok_is_use {P0 : Addr} (D : Dn K mg "is_use" s_is_use ["rest"]) (T : Blt mg) (h_is_word : Has P w K mg base "is_word" 2 ["text"] (spIsWord P0)) : Has P w K mg base "is_use" 3 ["rest"] (spIsUse P0) := by
  refine D.ok sc_is_use (fun vs H Q E h => ?_) (fun f cdv A outer st H vs Q E hr h => ?_)
  · obtain ⟨p, u, rfl, _⟩ := h
    rfl
  · obtain ⟨p, u, rfl, hp, hu, hT, q⟩ := h
    have hP : SqT K H p [.str u] := st_of hp
    refine ⟨_, (pss_one (ps_ret (pe_and (pe_cmpR op_eq (pe_callB (show CallR _ _ (rLenS K) from call_len_seq) (by rfl) T.len_ (by decide +kernel) (pa_cons (pv 0) pa_nil)) pe_int (nomark _)) (pe_one (pe_own h_is_word (hr.mono (by decide)) (by rfl) (pa_cons (pe_ix (show IxR _ (rIxT K) from ix_tup) (pv 0) pe_int (fun _ _ => rfl)) pa_nil)))))), ?_⟩
    show (_ : L2.TS) _ [_] _
    exact s_ret (v := .bl true) (ev_is (ev_andV (a := true) (b := true) (ev_is (ev_eq (ev_lenT (ev_var rfl) hP) ev_c rfl) rfl) (fun _ => ev_is (ev_is_word (s := .word u) (ea_cons (ev_ixT (ev_var rfl) hP ev_c rfl) ea_nil) hu hT) rfl)) rfl) q
end
end BD
namespace BD
open PySem PySem.Spec PyProof.Rows L2 Evl GX
open GxR (TabB)
local macro_rules | `(tactic| walk_at "ev") => `(tactic| first
  | ((with_reducible apply ev_var) ; rfl)
  | with_reducible exact ev_c
  | ((with_reducible apply ev_I0) <;> walk_at "ev")
  | ((with_reducible apply ev_e9) <;> walk_at "ev")
  | ((with_reducible apply ev_I) <;> walk_at "ev")
  | ((with_reducible apply ev_eq) <;> walk_at "ev")
  | ((with_reducible apply ev_ne) <;> walk_at "ev")
  | ((with_reducible apply ev_neg) <;> walk_at "ev")
  | ((with_reducible apply ev_ixN) <;> walk_at "ev")
  | ((with_reducible apply ev_ixL) <;> walk_at "ev")
  | ((with_reducible apply ev_inN) <;> walk_at "ev")
  | ((with_reducible apply ev_inT) <;> walk_at "ev")
  | ((with_reducible apply ev_ixT) <;> walk_at "ev")
  | ((with_reducible apply ev_ixS) <;> walk_at "ev")
  | ((with_reducible apply ev_len') <;> walk_at "ev")
  | ((with_reducible apply et_test) <;> walk_at "ev")
  | ((with_reducible apply et_and) <;> walk_at "ev")
  | ((with_reducible apply et_or) <;> walk_at "ev")
  | ((with_reducible apply et_not) <;> walk_at "ev")
  | ((with_reducible apply et_B) <;> walk_at "ev")
  | ((with_reducible apply el_lst) <;> walk_at "ev")
  | ((with_reducible apply eu_tup) <;> walk_at "ev")
  | ((with_reducible apply ea_cons) <;> walk_at "ev")
  | with_reducible exact ea_nil
  | with_reducible assumption
  | ((with_reducible apply ex_l' ; assumption) ; walk_at "ex")
  | ((with_reducible apply ex_t' ; assumption) ; walk_at "ex")
  | (intro _ ; walk_at "ev")
  | (with_reducible first | exact atI_hd | exact at_kind | exact at2s | exact at3s | exact at3i)
  | (first | exact rfl | exact Nat.le_of_ble_eq_true rfl | exact ⟨by decide, by decide⟩ | decide | exact Or.inl ⟨by omega, by omega⟩ | exact Or.inr ⟨by omega, by omega⟩ | omega)
  | skip)
local macro_rules | `(tactic| walk_at "ex") => `(tactic| first
  | assumption
  | exact Ex.refl _
  | (refine' Ex.trans ?_ (by assumption) ; walk_at "ex"))
local macro_rules | `(tactic| walk_at "row") => `(tactic| first
  | (with_reducible exact er_nil)
  | ((with_reducible apply er_cons) <;> walk_at "row")
  | (((with_reducible apply er_var) ; rfl) ; walk_at "isrow")
  | (((with_reducible apply elr_var) ; rfl) ; walk_at "isrow")
  | ((with_reducible apply elr_cat) <;> walk_at "row")
  | ((with_reducible apply elr_lst) <;> walk_at "row")
  | ((with_reducible apply er_fin) <;> walk_at "ev")
  | ((with_reducible apply er_lendT) <;> walk_at "ev")
  | ((with_reducible apply er_lendW) <;> walk_at "ev")
  | ((with_reducible apply er_pick) <;> walk_at "ev")
  | ((with_reducible apply er_either) <;> walk_at "ev")
  | ((with_reducible apply er_or) <;> walk_at "ev")
  | ((with_reducible apply er_again) <;> walk_at "ev")
  | ((with_reducible apply er_back) <;> walk_at "ev")
  | ((with_reducible apply er_look) <;> walk_at "ev")
  | ((with_reducible apply er_change) <;> walk_at "ev")
  | exact Nat.le_of_ble_eq_true rfl
  | skip)
local macro_rules | `(tactic| walk_at "isrow") => `(tactic| first
  | assumption
  | (refine IsRow.up ?_ (by assumption) ; walk_at "ex")
  | (refine LRows.up ?_ (by assumption) ; walk_at "ex"))

local macro_rules | `(tactic| walk_at "ev") => `(tactic| (((with_reducible apply ev_tag) ; rfl) ; walk_at "isrow"))
abbrev s_refuse_form : Stmt := topS 37
theorem sc_refuse_form : FnScope ["row", "at"] ["row", "at"] (defScope s_refuse_form) := ⟨rfl, rfl, rfl, by decide +kernel, rfl, by decide +kernel, by decide +kernel⟩
abbrev s_refuse_block : Stmt := topS 38
theorem sc_refuse_block : FnScope ["rows", "opened", "at", "name"] ["rows", "opened", "at"] (defScope s_refuse_block) := ⟨rfl, rfl, rfl, by decide +kernel, rfl, by decide +kernel, by decide +kernel⟩
abbrev s_refuse_use : Stmt := topS 39
theorem sc_refuse_use : FnScope ["meant", "row", "at", "kind"] ["meant", "row", "at"] (defScope s_refuse_use) := ⟨rfl, rfl, rfl, by decide +kernel, rfl, by decide +kernel, by decide +kernel⟩
abbrev s_refuse_naming : Stmt := topS 40
theorem sc_refuse_naming : FnScope ["meant", "row", "at", "lends"] ["meant", "row", "at"] (defScope s_refuse_naming) := ⟨rfl, rfl, rfl, by decide +kernel, rfl, by decide +kernel, by decide +kernel⟩
abbrev s_bind : Stmt := topS 41
theorem sc_bind : FnScope ["meant", "row"] ["meant", "row"] (defScope s_bind) := ⟨rfl, rfl, rfl, by decide +kernel, rfl, by decide +kernel, by decide +kernel⟩
abbrev s_free : Stmt := topS 42
theorem sc_free : FnScope ["meant", "row"] ["meant", "row"] (defScope s_free) := ⟨rfl, rfl, rfl, by decide +kernel, rfl, by decide +kernel, by decide +kernel⟩
def Rw.uses : Rw → Bool
  | .back _ => true | .look _ => true | .change _ => true | _ => false
def Rw.bare : Rw → Bool
  | .either => true | .or => true | .again => true | .fin => true | _ => false
theorem tag_pick (r : Rw) : decide (V.str r.tag = V.str "pick") = r.isPick := by cases r <;> rfl
theorem tag_uses (r : Rw) : inV (.str r.tag) [V.str "back", V.str "look", V.str "change"] = r.uses := by cases r <;> rfl
theorem tag_bare (r : Rw) : inV (.str r.tag) [V.str "either", V.str "or", V.str "again", V.str "end"] = r.bare := by cases r <;> rfl
section
variable {K : PySem.W.Frag} {σ : L2.St} {H : Hp} {ta tb td : TE} {D : Ends} {tv : TE} {d : Addr} {kvs : List (Key × V)} {u : Key} {v : V} {tz : TS}
theorem ev_notInT {p : Addr} {x : V} {xs : List V} (ha : Ev ta σ H x) (hb : Ev tb σ H (.ref p)) (h : SqT K H p xs) (hx : flatV x = true) (hf : xs.all flatV = true) : Ev (tOp (rIn K true) ta tb) σ H (.bl (!inV x xs)) := ev_op ha hb (rv_niT h hx hf)
theorem ev_dget1 (h : Ev td σ H (.ref d)) (hd : H d = some (.dK kvs)) (hi : Ev ta σ H (kV u)) : Ev (tDGet1 td ta) σ H ((valV kvs u).getD .non) := fun H1 e Q q =>
  h H1 e _ fun H2 e2 => ⟨d, rfl, .inl ⟨kvs, .inl ((e.trans e2) _ _ hd)⟩, hi H2 (e.trans e2) _ fun H3 e3 => ⟨_, .k ((e.trans (e2.trans e3)) _ _ hd), q H3 (e2.trans e3)⟩⟩
theorem ev_din (hi : Ev ta σ H (kV u)) (h : Ev td σ H (.ref d)) (hd : H d = some (.dK kvs)) : Ev (tDIn ta td) σ H (.bl (valV kvs u).isSome) := fun H1 e Q q =>
  hi H1 e _ fun H2 e2 => h H2 (e.trans e2) _ fun H3 e3 => ⟨d, _, rfl, .k ((e.trans (e2.trans e3)) _ _ hd), q H3 (e2.trans e3)⟩
theorem ev_dnotin (hi : Ev ta σ H (kV u)) (h : Ev td σ H (.ref d)) (hd : H d = some (.dK kvs)) : Ev (tDNotIn ta td) σ H (.bl (!(valV kvs u).isSome)) := fun H1 e Q q =>
  hi H1 e _ fun H2 e2 => h H2 (e.trans e2) _ fun H3 e3 => ⟨d, _, rfl, .k ((e.trans (e2.trans e3)) _ _ hd), q H3 (e2.trans e3)⟩
theorem s_dput (hd : H d = some (.dK kvs)) (hl : kvs.length < 100000) (h : Ev td σ H (.ref d)) (hi : Ev ta σ H (kV u)) (hv : Ev tv σ H v) (k : ∀ H1, Ex H H1 → D.nx σ (upd H1 d (.dK (putK kvs u v)))) : sDPut td ta tv D σ H :=
  hv H (Ex.refl H) _ fun H1 e1 => h H1 e1 _ fun H2 e2 => hi H2 (e1.trans e2) _ fun H3 e3 => ⟨d, _, rfl, .k ((e1.trans (e2.trans e3)) _ _ hd) (Nat.lt_of_lt_of_le hl (by decide)), k H3 (e1.trans (e2.trans e3))⟩
theorem s_ddel (hd : H d = some (.dK kvs)) (h : Ev td σ H (.ref d)) (hi : Ev ta σ H (kV u)) (hv : (valV kvs u).isSome = true) (k : ∀ H1, Ex H H1 → D.nx σ (upd H1 d (.dK (dropK kvs u)))) : sDDel td ta D σ H :=
  h H (Ex.refl H) _ fun H1 e1 => hi H1 e1 _ fun H2 e2 => ⟨d, kvs, u, rfl, (e1.trans e2) _ _ hd, rfl, hv, k H2 (e1.trans e2)⟩
end
/-- what the words stand for -/
structure MeantOk (kvs : List (Key × V)) (op : List Rw) (n : Nat) : Prop where
  at_ : ∀ u : Str, valV kvs (Sum.inr u) = ((op.filter Rw.named).find? fun q => decide (q.word = u)).map fun q => V.str q.kindE
  no : ∀ n : Int, valV kvs (Sum.inl n) = none
  len : kvs.length ≤ n
theorem MeantOk.has {kvs : List (Key × V)} {op : List Rw} {n : Nat} (M : MeantOk kvs op n) (wn : WN op) {q : Rw} (hq : q ∈ op) (hn : q.named = true) : valV kvs (Sum.inr q.word) = some (.str q.kindE) := by
  rw [M.at_]
  have hm : q ∈ op.filter Rw.named := List.mem_filter.mpr ⟨hq, hn⟩
  unfold WN at wn
  have key : ∀ {l : List Rw}, (l.map Rw.word).Nodup → q ∈ l → l.find? (fun x => decide (x.word = q.word)) = some q := fun {l} nd h => by
    induction l with
    | nil => cases h
    | cons y t ih =>
      rw [List.map_cons, List.nodup_cons] at nd
      rw [List.find?_cons]
      rcases List.mem_cons.mp h with z | z
      · rw [z, decide_eq_true rfl]
      · rw [decide_eq_false fun e => nd.1 (by rw [e]; exact List.mem_map.mpr ⟨q, z, rfl⟩)]
        exact ih nd.2 z
  rw [key wn hm]
  rfl
theorem MeantOk.fresh {kvs : List (Key × V)} {op : List Rw} {n : Nat} (M : MeantOk kvs op n) {u : Str} (f : Fresh op u) : valV kvs (Sum.inr u) = none := by
  rw [M.at_, Option.map_eq_none_iff, List.find?_eq_none]
  intro q hq
  obtain ⟨h1, h2⟩ := List.mem_filter.mp hq
  rw [decide_eq_false (f q h1 h2)]
  exact fun z => by cases z
theorem MeantOk.push {kvs : List (Key × V)} {op : List Rw} {n : Nat} (M : MeantOk kvs op n) {r : Rw} (hn : r.named = true) (f : Fresh op r.word) : MeantOk (putK kvs (Sum.inr r.word) (.str r.kindE)) (op ++ [r]) (n + 1) := by
  refine ⟨fun u => ?_, fun m => ?_, ?_⟩
  · rw [valV_put, List.filter_append, List.find?_append, List.filter_cons, if_pos hn]
    by_cases h : (Sum.inr u : Key) = Sum.inr r.word
    · have h2 : u = r.word := Sum.inr.inj h
      rw [if_pos h, h2]
      have h3 := M.fresh f
      rw [M.at_, Option.map_eq_none_iff] at h3
      rw [h3]
      show _ = Option.map _ (Option.or none (List.find? _ [r]))
      rw [List.find?_cons, decide_eq_true rfl]
      rfl
    · rw [if_neg h, M.at_]
      have h2 : ¬ r.word = u := fun z => h (by rw [z])
      have h3 : List.find? (fun q : Rw => decide (q.word = u)) (r :: List.filter Rw.named []) = none := by
        rw [List.find?_cons, decide_eq_false h2]
        rfl
      rw [h3, Option.or_none]
  · rw [valV_put, if_neg (fun z => by cases z), M.no]
  · have := length_putK kvs (Sum.inr r.word) (.str r.kindE)
    have := M.len
    omega
theorem MeantOk.same {kvs : List (Key × V)} {op : List Rw} {n : Nat} (M : MeantOk kvs op n) {r : Rw} (hn : r.named = false) : MeantOk kvs (op ++ [r]) (n + 1) := by
  refine ⟨fun u => ?_, M.no, Nat.le_succ_of_le M.len⟩
  rw [M.at_, List.filter_append, List.filter_cons, if_neg (by rw [hn]; decide)]
  show _ = (Option.map _ (List.find? _ (_ ++ [])))
  rw [List.append_nil]
theorem valV_drop (kvs : List (Key × V)) (k j : Key) : valV (dropK kvs k) j = if j = k then none else valV kvs j := by
  unfold valV dropK
  rw [List.find?_filter]
  by_cases h : j = k
  · rw [if_pos h, Option.map_eq_none_iff, List.find?_eq_none]
    intro x _
    subst h
    by_cases hx : x.1 = j
    · simp [hx]
    · simp [hx]
  · rw [if_neg h]
    congr 2
    funext x
    by_cases hx : x.1 = j
    · have : ¬ x.1 = k := fun z => h (hx.symm.trans z)
      simp [hx, h]
    · simp [hx]
theorem MeantOk.pop {kvs : List (Key × V)} {op : List Rw} {q : Rw} {n : Nat} (M : MeantOk kvs (op ++ [q]) n) (wn : WN (op ++ [q])) : MeantOk (if q.named = true then dropK kvs (Sum.inr q.word) else kvs) op (n + 1) := by
  by_cases hn : q.named = true
  · rw [if_pos hn]
    refine ⟨fun u => ?_, fun m => ?_, Nat.le_trans (dropK_le _ _) (Nat.le_succ_of_le M.len)⟩
    · rw [valV_drop]
      have hM := M.at_ u
      rw [List.filter_append, List.find?_append, List.filter_cons, if_pos hn] at hM
      by_cases h : (Sum.inr u : Key) = Sum.inr q.word
      · have h2 : u = q.word := Sum.inr.inj h
        rw [if_pos h, h2]
        refine ((Option.map_eq_none_iff).mpr (List.find?_eq_none.mpr fun x hx => ?_)).symm
        unfold WN at wn
        rw [List.filter_append, List.map_append, List.filter_cons, if_pos hn] at wn
        have := (List.nodup_append.mp wn).2.2 x.word (List.mem_map.mpr ⟨x, hx, rfl⟩) q.word (by simp)
        rw [decide_eq_false this]
        exact fun z => by cases z
      · rw [if_neg h, hM]
        have h2 : ¬ q.word = u := fun z => h (by rw [z])
        have h3 : List.find? (fun q : Rw => decide (q.word = u)) (q :: List.filter Rw.named []) = none := by
          rw [List.find?_cons, decide_eq_false h2]
          rfl
        rw [h3, Option.or_none]
    · rw [valV_drop, if_neg (fun z => by cases z), M.no]
  · rw [if_neg hn]
    refine ⟨fun u => ?_, M.no, Nat.le_succ_of_le M.len⟩
    rw [M.at_, List.filter_append, List.filter_cons, if_neg hn]
    show Option.map _ (List.find? _ (_ ++ [])) = _
    rw [List.append_nil]
theorem MeantOk.more {kvs : List (Key × V)} {op : List Rw} {n m : Nat} (M : MeantOk kvs op n) (h : n ≤ m) : MeantOk kvs op m := ⟨M.at_, M.no, Nat.le_trans M.len h⟩
section
variable {P : Program} {w : World} {K : PySem.W.Frag} {mg : Str → Option Value} {base : Heap}
def spIsRow (P0 P1 : Addr) : Sp := fun vs H Q _ => ∃ (y : V) (r : Rw), vs = [y] ∧ IsRow H y r ∧ RowS r ∧ H P0 = some (TabX P0) ∧ H P1 = some (TabX P1) ∧ RetV (.bl true) H Q
theorem ok_is_row {P0 P1 : Addr} (D : Dn K mg "is_row" s_is_row ["row"]) (T : Blt mg) {a_USES a_BARE_ROWS : Addr} (g_USES : mg "USES" = some (.ref a_USES)) (hUS : ∀ H, SqT K H a_USES [.str "back", .str "look", .str "change"]) (g_BARE_ROWS : mg "BARE_ROWS" = some (.ref a_BARE_ROWS)) (hBR : ∀ H, SqT K H a_BARE_ROWS [.str "either", .str "or", .str "again", .str "end"])
    (h_is_lend : Has P w K mg base "is_lend" 3 ["rest"] (spIsLend P0)) (h_is_pick : Has P w K mg base "is_pick" 4 ["rest"] (spIsPick P0 P1)) (h_is_use : Has P w K mg base "is_use" 3 ["rest"] (spIsUse P0)) : Has P w K mg base "is_row" 5 ["row"] (spIsRow P0 P1) := by
  refine D.ok sc_is_row (fun vs H Q E h => ?_) (fun f cdv A outer st H vs Q E hr h => ?_)
  · obtain ⟨y, r, rfl, _⟩ := h
    rfl
  · obtain ⟨y, r, rfl, hY, hS, hT, hT1, q⟩ := h
    obtain ⟨py, ys, rfl, hpy⟩ := hY.tup
    have hP : SqT K H py (.str r.tag :: ys) := st_of hpy
    refine ⟨_, (pss_cons (ps_if (PW.pt (pw_or (pt_not (pt_val (pe_callB (show CallR _ _ (rIsi K) from call_isi) (by rfl) T.isinstance_ (by decide +kernel) (pa_cons (pv 0) (pa_cons (pe_bltn (v := .ty "tuple") (by rfl) T.tuple_ (by decide +kernel) rfl) pa_nil))))) (pw_or1 (pt_cmpR op_eq (pe_callB (show CallR _ _ (rLenS K) from call_len_seq) (by rfl) T.len_ (by decide +kernel) (pa_cons (pv 0) pa_nil)) pe_int (nomark _))))) (pss_one (ps_ret pe_bl)) pss_nil) (pss_cons (ps_set (i := 1) sc_is_row.nd rfl (Or.inl rfl) (pe_ix (show IxR _ (rIxT K) from ix_tup) (pv 0) pe_int (fun _ _ => rfl))) (pss_cons (ps_set (i := 2) sc_is_row.nd rfl (Or.inl rfl) (pe_slice sl_tupA (pv 0) (po_some pe_int) po_none)) (pss_cons (ps_if (pt_cmpR op_eq (pv 1) pe_str (nomark _)) (pss_one (ps_ret (pe_own h_is_lend (hr.mono (by decide)) (by rfl) (pa_cons (pv 2) pa_nil)))) pss_nil) (pss_cons (ps_if (pt_cmpR op_eq (pv 1) pe_str (nomark _)) (pss_one (ps_ret (pe_own h_is_pick (hr.mono (by decide)) (by rfl) (pa_cons (pv 2) pa_nil)))) pss_nil) (pss_cons (ps_if (pt_cmpR (show OpR _ _ (rIn K false) from op_in_seq) (pv 1) (pe_glob (v := .ref a_USES) rfl g_USES rfl) (by rfl)) (pss_one (ps_ret (pe_own h_is_use (hr.mono (by decide)) (by rfl) (pa_cons (pv 2) pa_nil)))) pss_nil) (pss_one (ps_ret (pe_and (pe_cmpR (show OpR _ _ (rIn K false) from op_in_seq) (pv 1) (pe_glob (v := .ref a_BARE_ROWS) rfl g_BARE_ROWS rfl) (by rfl)) (pe_one (pe_cmpR op_eq (pe_callB (show CallR _ _ (rLenS K) from call_len_seq) (by rfl) T.len_ (by decide +kernel) (pa_cons (pv 2) pa_nil)) pe_int (nomark _)))))))))))), ?_⟩
    show (_ : L2.TS) _ [_, _, _] _
    refine q_when (b := false) (et_is (et_or (a := false) (et_is (et_not (et_B (ev_isiT (ea_cons (ev_var rfl) (ea_cons ev_c ea_nil)) hpy (show kitB "tuple" "tuple" = some true by decide +kernel)))) rfl) (fun _ => et_test (ev_eq (ev_lenT (ev_var rfl) hP) ev_c rfl))) ?_) (fun hb => by cases hb) (fun _ H1 e1 => ?_)
    · rw [decide_eq_false fun z => by
        have := V.int.inj z
        rw [List.length_cons] at this
        omega]
      rfl
    refine q_asg (v := .str r.tag) (ev_ixT (ev_var rfl) (ex_t e1 hP) ev_c atI_hd) (fun H2 e2 => ?_)
    show (_ : L2.TS) _ [_, _, _] _
    have e02 := e1.trans e2
    refine q_asgU (eu_sl1T (ev_var rfl) (e02 _ _ hpy)) (fun p H3 hp3 e3 h3 => ?_)
    show (_ : L2.TS) _ [_, _, _] _
    have e03 := e02.trans e3
    have hP3 : SqT K H3 p ys := st_of h3
    refine q_when (b := decide (V.str r.tag = V.str "lend")) (et_test (ev_eq (ev_var rfl) ev_c rfl)) (fun hb H4 e4 => ?_) (fun hb H4 e4 => ?_)
    · rw [tag_lend] at hb
      cases r with
      | lend h k s =>
        obtain ⟨p', hp1, hp2⟩ := hY
        cases hp1
        rw [hp2] at hpy
        cases hpy
        exact s_ret (ev_call (ea_cons (ev_var rfl) ea_nil) fun H5 e5 Q q E => ⟨p, h, k, s, rfl, (e4.trans e5) _ _ h3, hS.1, hS.2.1, hS.2.2, (e03.trans (e4.trans e5)) _ _ hT, q⟩) (fun H5 e5 => q H5 (e03.trans (e4.trans e5)))
      | _ => cases hb
    have e04 := e03.trans e4
    have h4 := e4 _ _ h3
    rw [tag_lend] at hb
    refine q_when (b := decide (V.str r.tag = V.str "pick")) (et_test (ev_eq (ev_var rfl) ev_c rfl)) (fun hb5 H5 e5 => ?_) (fun hb5 H5 e5 => ?_)
    · rw [tag_pick] at hb5
      cases r with
      | pick u ts =>
        obtain ⟨p', q', hp1, hp2, hp3⟩ := hY
        cases hp1
        rw [hp2] at hpy
        cases hpy
        exact s_ret (ev_call (ea_cons (ev_var rfl) ea_nil) fun H6 e6 Q q E => ⟨p, q', u, ts, rfl, (e5.trans e6) _ _ h4, (e04.trans (e5.trans e6)) _ _ hp3, hS.1, hS.2.1, hS.2.2.1, hS.2.2.2, (e04.trans (e5.trans e6)) _ _ hT, (e04.trans (e5.trans e6)) _ _ hT1, q⟩) (fun H6 e6 => q H6 (e04.trans (e5.trans e6)))
      | _ => cases hb5
    rw [tag_pick] at hb5
    have e05 := e04.trans e5
    have h5 := e5 _ _ h4
    refine q_when (b := r.uses) (et_is (et_test (ev_inT (ev_var rfl) ev_c (hUS H5) rfl rfl)) (tag_uses r)) (fun hb6 H6 e6 => ?_) (fun hb6 H6 e6 => ?_)
    · have use : ∃ u : Str, WordS u ∧ ys = [.str u] := by
        cases r with
        | back u => obtain ⟨p', hp1, hp2⟩ := hY; cases hp1; rw [hp2] at hpy; cases hpy; exact ⟨u, hS, rfl⟩
        | look u => obtain ⟨p', hp1, hp2⟩ := hY; cases hp1; rw [hp2] at hpy; cases hpy; exact ⟨u, hS, rfl⟩
        | change u => obtain ⟨p', hp1, hp2⟩ := hY; cases hp1; rw [hp2] at hpy; cases hpy; exact ⟨u, hS, rfl⟩
        | _ => cases hb6
      obtain ⟨u, hu, rfl⟩ := use
      exact s_ret (ev_call (ea_cons (ev_var rfl) ea_nil) fun H7 e7 Q q E => ⟨p, u, rfl, (e6.trans e7) _ _ h5, hu, (e05.trans (e6.trans e7)) _ _ hT, q⟩) (fun H7 e7 => q H7 (e05.trans (e6.trans e7)))
    have bare : r.bare = true ∧ ys = [] := by
      cases r with
      | either => obtain ⟨p', hp1, hp2⟩ := hY; cases hp1; rw [hp2] at hpy; cases hpy; exact ⟨rfl, rfl⟩
      | or => obtain ⟨p', hp1, hp2⟩ := hY; cases hp1; rw [hp2] at hpy; cases hpy; exact ⟨rfl, rfl⟩
      | again => obtain ⟨p', hp1, hp2⟩ := hY; cases hp1; rw [hp2] at hpy; cases hpy; exact ⟨rfl, rfl⟩
      | fin => obtain ⟨p', hp1, hp2⟩ := hY; cases hp1; rw [hp2] at hpy; cases hpy; exact ⟨rfl, rfl⟩
      | lend a b c => cases hb
      | pick a b => cases hb5
      | _ => cases hb6
    obtain ⟨hbare, rfl⟩ := bare
    have h6 := e6 _ _ h5
    exact s_ret (v := .bl true) (ev_is (ev_andV (a := true) (b := true) (ev_is (ev_inT (ev_var rfl) ev_c (hBR H6) rfl rfl) (by rw [tag_bare, hbare])) (fun _ => ev_is (ev_eq (ev_lenT (ev_var rfl) (st_of h6)) ev_c rfl) rfl)) rfl) (fun H7 e7 => q H7 (e05.trans (e6.trans e7)))
def spRForm (P0 P1 : Addr) : Sp := fun vs H Q _ => ∃ (y v : V) (r : Rw), vs = [y, v] ∧ IsRow H y r ∧ RowS r ∧ H P0 = some (TabX P0) ∧ H P1 = some (TabX P1) ∧ RetV .non H Q
theorem ok_rform {P0 P1 : Addr} (D : Dn K mg "refuse_form" s_refuse_form ["row", "at"]) (h_is_row : Has P w K mg base "is_row" 5 ["row"] (spIsRow P0 P1)) : Has P w K mg base "refuse_form" 6 ["row", "at"] (spRForm P0 P1) := by
  refine D.ok sc_refuse_form (fun vs H Q E h => ?_) (fun f cdv A outer st H vs Q E hr h => ?_)
  · obtain ⟨y, v, r, rfl, _⟩ := h
    rfl
  · obtain ⟨y, v, r, rfl, hY, hS, hT, hT1, q⟩ := h
    refine ⟨_, (pss_one (ps_if (pt_not (pt_val (pe_own h_is_row (hr.mono (by decide)) (by rfl) (pa_cons (pv 0) pa_nil)))) (pss_one ps_any) pss_nil)), ?_⟩
    show (_ : L2.TS) _ [_, _] _
    exact s_when (b := false) (et_is (et_not (et_B (ev_call (ea_cons (ev_var rfl) ea_nil) fun H5 e5 Q q E => ⟨y, r, rfl, hY.up e5, hS, e5 _ _ hT, e5 _ _ hT1, q⟩))) rfl) (fun hb => by cases hb) (fun _ H1 e1 => q H1 e1)
end
end BD
namespace BD
open PySem PySem.Spec PyProof.Rows L2 Evl GX
open GxR (TabB)
local macro_rules | `(tactic| walk_at "ev") => `(tactic| first
  | ((with_reducible apply ev_var) ; rfl)
  | with_reducible exact ev_c
  | ((with_reducible apply ev_I0) <;> walk_at "ev")
  | ((with_reducible apply ev_e9) <;> walk_at "ev")
  | ((with_reducible apply ev_I) <;> walk_at "ev")
  | ((with_reducible apply ev_eq) <;> walk_at "ev")
  | ((with_reducible apply ev_ne) <;> walk_at "ev")
  | ((with_reducible apply ev_neg) <;> walk_at "ev")
  | ((with_reducible apply ev_ixN) <;> walk_at "ev")
  | ((with_reducible apply ev_ixL) <;> walk_at "ev")
  | ((with_reducible apply ev_inN) <;> walk_at "ev")
  | ((with_reducible apply ev_inT) <;> walk_at "ev")
  | ((with_reducible apply ev_ixT) <;> walk_at "ev")
  | ((with_reducible apply ev_ixS) <;> walk_at "ev")
  | ((with_reducible apply ev_len') <;> walk_at "ev")
  | ((with_reducible apply et_test) <;> walk_at "ev")
  | ((with_reducible apply et_and) <;> walk_at "ev")
  | ((with_reducible apply et_or) <;> walk_at "ev")
  | ((with_reducible apply et_not) <;> walk_at "ev")
  | ((with_reducible apply et_B) <;> walk_at "ev")
  | ((with_reducible apply el_lst) <;> walk_at "ev")
  | ((with_reducible apply eu_tup) <;> walk_at "ev")
  | ((with_reducible apply ea_cons) <;> walk_at "ev")
  | with_reducible exact ea_nil
  | with_reducible assumption
  | ((with_reducible apply ex_l' ; assumption) ; walk_at "ex")
  | ((with_reducible apply ex_t' ; assumption) ; walk_at "ex")
  | (intro _ ; walk_at "ev")
  | (with_reducible first | exact atI_hd | exact at_kind | exact at2s | exact at3s | exact at3i)
  | (first | exact rfl | exact Nat.le_of_ble_eq_true rfl | exact ⟨by decide, by decide⟩ | decide | exact Or.inl ⟨by omega, by omega⟩ | exact Or.inr ⟨by omega, by omega⟩ | omega)
  | skip)
local macro_rules | `(tactic| walk_at "ex") => `(tactic| first
  | assumption
  | exact Ex.refl _
  | (refine' Ex.trans ?_ (by assumption) ; walk_at "ex"))
local macro_rules | `(tactic| walk_at "row") => `(tactic| first
  | (with_reducible exact er_nil)
  | ((with_reducible apply er_cons) <;> walk_at "row")
  | (((with_reducible apply er_var) ; rfl) ; walk_at "isrow")
  | (((with_reducible apply elr_var) ; rfl) ; walk_at "isrow")
  | ((with_reducible apply elr_cat) <;> walk_at "row")
  | ((with_reducible apply elr_lst) <;> walk_at "row")
  | ((with_reducible apply er_fin) <;> walk_at "ev")
  | ((with_reducible apply er_lendT) <;> walk_at "ev")
  | ((with_reducible apply er_lendW) <;> walk_at "ev")
  | ((with_reducible apply er_pick) <;> walk_at "ev")
  | ((with_reducible apply er_either) <;> walk_at "ev")
  | ((with_reducible apply er_or) <;> walk_at "ev")
  | ((with_reducible apply er_again) <;> walk_at "ev")
  | ((with_reducible apply er_back) <;> walk_at "ev")
  | ((with_reducible apply er_look) <;> walk_at "ev")
  | ((with_reducible apply er_change) <;> walk_at "ev")
  | exact Nat.le_of_ble_eq_true rfl
  | skip)
local macro_rules | `(tactic| walk_at "isrow") => `(tactic| first
  | assumption
  | (refine IsRow.up ?_ (by assumption) ; walk_at "ex")
  | (refine LRows.up ?_ (by assumption) ; walk_at "ex"))

local macro_rules | `(tactic| walk_at "ev") => `(tactic| (((with_reducible apply ev_tag) ; rfl) ; walk_at "isrow"))
/-- the rows that opened what is open -/
def stP (rs : List Rw) (i : Nat) : List V := (pr rs i).reverse.map fun n : Nat => V.int (n : Int)
theorem stP_len (rs : List Rw) (i : Nat) : (stP rs i).length = (pr rs i).length := by simp [stP]
theorem stP_last {rs : List Rw} {i b : Nat} {t : List Nat} (h : pr rs i = b :: t) : atI (stP rs i) (-1) = some (.int (b : Int)) := by
  unfold stP
  rw [h, List.reverse_cons, List.map_append]
  exact atI_last _ _
theorem stP_push {rs : List Rw} {i : Nat} {r : Rw} (h : rs[i]? = some r) (ho : r.opens = true) : stP rs (i + 1) = stP rs i ++ [.int (i : Int)] := by
  unfold stP
  rw [pr_next h, if_pos ho, List.reverse_cons, List.map_append]
  rfl
theorem stP_keep {rs : List Rw} {i : Nat} {r : Rw} (h : rs[i]? = some r) (ho : r.opens = false) (hf : r.isFin = false) : stP rs (i + 1) = stP rs i := by
  unfold stP
  rw [pr_next h, if_neg (by rw [ho]; decide), if_neg (by rw [hf]; decide)]
theorem stP_pop {rs : List Rw} {i b : Nat} {t : List Nat} {r : Rw} (h : rs[i]? = some r) (hf : r.isFin = true) (hp : pr rs i = b :: t) : stP rs (i + 1) = (stP rs i).dropLast ∧ (stP rs i)[(stP rs i).length - 1]? = some (.int (b : Int)) ∧ 0 < (stP rs i).length := by
  have ho : r.opens = false := by cases r <;> first | rfl | (cases hf)
  have e : stP rs i = (t.reverse.map fun n : Nat => V.int (n : Int)) ++ [.int (b : Int)] := by
    unfold stP
    rw [hp, List.reverse_cons, List.map_append]
    rfl
  refine ⟨?_, ?_, ?_⟩
  · rw [e, List.dropLast_concat]
    unfold stP
    rw [pr_next h, if_neg (by rw [ho]; decide), if_pos hf, hp]
    rfl
  · rw [e, List.length_append]
    show (_ ++ _)[_ + 1 - 1]? = _
    rw [Nat.add_sub_cancel, List.getElem?_append_right (Nat.le_refl _), Nat.sub_self]
    rfl
  · rw [e, List.length_append]
    exact Nat.succ_pos _
section
variable {P : Program} {w : World} {K : PySem.W.Frag} {mg : Str → Option Value} {base : Heap}
def spRBlock (K : PySem.W.Frag) : Sp := fun vs H Q _ => ∃ (a po : Addr) (i : Nat) (rv : List V) (rs : List Rw) (r : Rw), vs = [.ref a, .ref po, .int (i : Int)] ∧ SqL K H a rv ∧ Rows H rv rs ∧ H po = some (.lst (stP rs i)) ∧ rs[i]? = some r ∧ (r.isFin = true → pr rs i ≠ []) ∧ (r = .or → ∃ b t, pr rs i = b :: t ∧ rs[b]? = some .either) ∧ RetV .non H Q
theorem ok_rblock (D : Dn K mg "refuse_block" s_refuse_block ["rows", "opened", "at"]) (T : Blt mg) : Has P w K mg base "refuse_block" 1 ["rows", "opened", "at"] (spRBlock K) := by
  refine D.ok sc_refuse_block (fun vs H Q E h => ?_) (fun f cdv A outer st H vs Q E hr h => ?_)
  · obtain ⟨a, po, i, rv, rs, r, rfl, _⟩ := h
    rfl
  · obtain ⟨a, po, i, rv, rs, r, rfl, hS, hR, hpo, hg, hfin, hor, q⟩ := h
    have hO : SqL K H po (stP rs i) := sq_of hpo
    obtain ⟨y, hy, hY⟩ := hR.get hg
    obtain ⟨py, ys, rfl, hpy⟩ := hY.tup
    refine ⟨_, (pss_cons (ps_set (i := 3) sc_refuse_block.nd rfl (Or.inl rfl) (pe_ix (show IxR _ (rIxT K) from ix_tup) (pe_ix (show IxR _ (rIxL K) from ix_list) (pv 0) (pv 2) (fun _ _ => rfl)) pe_int (fun _ _ => rfl))) (pss_cons (ps_if (PW.pt (pw_and (pt_cmpR op_eq (pv 3) pe_str (nomark _)) (pw_and1 (pt_cmpR op_eq (pe_callB (show CallR _ _ (rLenS K) from call_len_seq) (by rfl) T.len_ (by decide +kernel) (pa_cons (pv 1) pa_nil)) pe_int (nomark _))))) (pss_one ps_any) pss_nil) (pss_one (ps_if (PW.pt (pw_and (pt_cmpR op_eq (pv 3) pe_str (nomark _)) (pw_and1 (PW.pt (pw_or (pt_cmpR op_eq (pe_callB (show CallR _ _ (rLenS K) from call_len_seq) (by rfl) T.len_ (by decide +kernel) (pa_cons (pv 1) pa_nil)) pe_int (nomark _)) (pw_or1 (pt_cmpR op_ne (pe_ix (show IxR _ (rIxT K) from ix_tup) (pe_ix (show IxR _ (rIxL K) from ix_list) (pv 0) (pe_ix (show IxR _ (rIxL K) from ix_list) (pv 1) (pe_un un_neg pe_int) (fun _ _ => rfl)) (fun _ _ => rfl)) pe_int (fun _ _ => rfl)) pe_str (nomark _)))))))) (pss_one ps_any) pss_nil)))), ?_⟩
    show (_ : L2.TS) _ [_, _, _, _] _
    refine q_asg (v := .str r.tag) (ev_ixT (ev_ixL (ev_var rfl) hS (ev_var rfl) (atI_nat hy)) (st_of hpy) ev_c atI_hd) (fun H1 e1 => ?_)
    show (_ : L2.TS) _ [_, _, _, _] _
    refine q_when (b := false) (et_is (et_and (et_test (ev_eq (ev_var rfl) ev_c rfl)) (fun hz => et_test (ev_eq (ev_len' (ev_var rfl) (ex_l e1 hO)) ev_c rfl))) ?_) (fun hb => by cases hb) (fun _ H2 e2 => ?_)
    · rw [tag_fin]
      cases hf : r.isFin with
      | false => rfl
      | true =>
        have h1 := hfin hf
        rw [decide_eq_false fun z => h1 ?_]
        · rfl
        · have z1 := V.int.inj z
          rw [stP_len] at z1
          exact List.length_eq_zero_iff.mp (by omega)
    have e02 := e1.trans e2
    refine s_when (b := false) (et_is (et_and (b := false) (et_test (ev_eq (ev_var rfl) ev_c rfl)) (fun hz => ?_)) (Bool.and_false _)) (fun hb => by cases hb) (fun _ H3 e3 => q H3 (e02.trans e3))
    rw [tag_or] at hz
    have hro : r = .or := by cases r <;> first | rfl | (cases hz)
    obtain ⟨b, t, hp, hb⟩ := hor hro
    obtain ⟨yb, hyb, hYb⟩ := hR.get hb
    obtain ⟨pb, rfl, hpb⟩ := id hYb
    refine et_is (et_or (a := false) (et_is (et_test (ev_eq (ev_len' (ev_var rfl) (ex_l e02 hO)) ev_c rfl)) ?_) (fun _ => et_test (ev_ne (ev_ixT (ev_ixL (ev_var rfl) (ex_l e02 hS) (ev_ixL (ev_var rfl) (ex_l e02 hO) ?_ (stP_last hp)) (atI_nat hyb)) (ex_t e02 (st_of hpb)) ev_c atI_hd) ev_c rfl))) ?_
    · refine decide_eq_false fun z => ?_
      have z1 := V.int.inj z
      rw [stP_len, hp, List.length_cons] at z1
      omega
    · walk_at "ev"
    · rfl
def spRUse (K : PySem.W.Frag) : Sp := fun vs H Q _ => ∃ (d : Addr) (y v : V) (kvs : List (Key × V)) (op : List Rw) (n : Nat) (r : Rw), vs = [.ref d, y, v] ∧ H d = some (.dK kvs) ∧ MeantOk kvs op n ∧ WN op ∧ (∀ q ∈ op, RowS q) ∧ IsRow H y r ∧ OkRow op r ∧ RetV .non H Q
theorem ok_ruse (D : Dn K mg "refuse_use" s_refuse_use ["meant", "row", "at"]) (T : Blt mg) {a_USES a_KINDS : Addr} (g_USES : mg "USES" = some (.ref a_USES)) (hUS : ∀ H, SqT K H a_USES [.str "back", .str "look", .str "change"]) (g_KINDS : mg "KINDS" = some (.ref a_KINDS)) (hKI : ∀ H, SqT K H a_KINDS [.str "read", .str "write"]) : Has P w K mg base "refuse_use" 1 ["meant", "row", "at"] (spRUse K) := by
  refine D.ok sc_refuse_use (fun vs H Q E h => ?_) (fun f cdv A outer st H vs Q E hr h => ?_)
  · obtain ⟨d, y, v, kvs, op, n, r, rfl, _⟩ := h
    rfl
  · obtain ⟨d, y, v, kvs, op, n, r, rfl, hd, M, wn, hRS, hY, ok, q⟩ := h
    obtain ⟨py, ys, rfl, hpy⟩ := hY.tup
    have hP : SqT K H py (.str r.tag :: ys) := st_of hpy
    refine ⟨_, (pss_cons (ps_if (pt_cmpR (show OpR _ _ (rIn K true) from op_notIn_seq) (pe_ix (show IxR _ (rIxT K) from ix_tup) (pv 1) pe_int (fun _ _ => rfl)) (pe_glob (v := .ref a_USES) rfl g_USES rfl) (by rfl)) (pss_one ps_retN) pss_nil) (pss_cons (ps_set (i := 3) sc_refuse_use.nd rfl (Or.inl rfl) (pe_dget1 (hu_of hr) (pv 0) (pe_ix (show IxR _ (rIxT K) from ix_tup) (pv 1) pe_int (fun _ _ => rfl)) ⟨rfl, rfl, rfl, rfl⟩)) (pss_cons (ps_if (pt_cmpR (show OpR _ _ (rIn K true) from op_notIn_seq) (pv 3) (pe_glob (v := .ref a_KINDS) rfl g_KINDS rfl) (by rfl)) (pss_one ps_any) pss_nil) (pss_one (ps_if (PW.pt (pw_and (pt_cmpR op_eq (pe_ix (show IxR _ (rIxT K) from ix_tup) (pv 1) pe_int (fun _ _ => rfl)) pe_str (nomark _)) (pw_and1 (pt_cmpR op_eq (pv 3) pe_str (nomark _))))) (pss_one ps_any) pss_nil))))), ?_⟩
    show (_ : L2.TS) _ [_, _, _, _] _
    refine q_when (b := !r.uses) (et_is (et_test (ev_notInT (ev_ixT (ev_var rfl) hP ev_c atI_hd) ev_c (hUS H) rfl rfl)) (by rw [tag_uses])) (fun hb H1 e1 => q H1 e1) (fun hb H1 e1 => ?_)
    have hu : ∃ (u k : Str), ys = [.str u] ∧ valV kvs (Sum.inr u) = some (.str k) ∧ (k = "read" ∨ k = "write") ∧ (r.tag = "change" → k = "write") := by
      have hand : ∀ (u : Str) (p : Str → Prop), Hand op u p → ∃ k, valV kvs (Sum.inr u) = some (.str k) ∧ (k = "read" ∨ k = "write") ∧ p k := fun u p ⟨z, hz, hl, hw, hp⟩ => by
        have h1 := M.has wn hz (by cases z <;> first | rfl | (cases hl))
        have h2 := hRS z hz
        cases z with
        | lend a b c =>
          rw [← hw]
          exact ⟨b, h1, h2.2.1, hp⟩
        | _ => cases hl
      cases r with
      | back u =>
        obtain ⟨p', hp1, hp2⟩ := hY
        cases hp1
        rw [hp2] at hpy
        cases hpy
        obtain ⟨k, h1, h2, _⟩ := hand u (fun _ => True) ok
        exact ⟨u, k, rfl, h1, h2, fun z => absurd (show ("back" : Str) = "change" from z) (by decide +kernel)⟩
      | look u =>
        obtain ⟨p', hp1, hp2⟩ := hY
        cases hp1
        rw [hp2] at hpy
        cases hpy
        obtain ⟨k, h1, h2, _⟩ := hand u (fun _ => True) ok
        exact ⟨u, k, rfl, h1, h2, fun z => absurd (show ("look" : Str) = "change" from z) (by decide +kernel)⟩
      | change u =>
        obtain ⟨p', hp1, hp2⟩ := hY
        cases hp1
        rw [hp2] at hpy
        cases hpy
        obtain ⟨k, h1, h2, h3⟩ := hand u (fun k => k = "write") ok
        exact ⟨u, k, rfl, h1, h2, fun _ => h3⟩
      | _ => cases hb
    obtain ⟨u, k, rfl, hk, hkk, hch⟩ := hu
    have hP1 : SqT K H1 py [.str r.tag, .str u] := ex_t e1 hP
    refine q_asg (v := .str k) (ev_is (ev_dget1 (u := Sum.inr u) (ev_var rfl) (e1 _ _ hd) (ev_ixT (ev_var rfl) hP1 ev_c (atI_nat (j := 1) rfl))) (by rw [hk]; rfl)) (fun H2 e2 => ?_)
    show (_ : L2.TS) _ [_, _, _, _] _
    refine q_when (b := false) (et_is (et_test (ev_notInT (ev_var rfl) ev_c (hKI H2) rfl rfl)) ?_) (fun hb => by cases hb) (fun _ H3 e3 => ?_)
    · rcases hkk with rfl | rfl <;> rfl
    have e03 := e1.trans (e2.trans e3)
    refine s_when (b := false) (et_is (et_and (et_test (ev_eq (ev_ixT (ev_var rfl) (ex_t e03 hP) ev_c atI_hd) ev_c rfl)) (fun hz => et_test (ev_eq (ev_var rfl) ev_c rfl))) ?_) (fun hb => by cases hb) (fun _ H4 e4 => q H4 (e03.trans e4))
    by_cases hc : r.tag = "change"
    · rw [hch hc]
      exact Bool.and_false _
    · rw [decide_eq_false fun z => hc (V.str.inj z)]
      rfl
def spRName (K : PySem.W.Frag) (P0 : Addr) : Sp := fun vs H Q _ => ∃ (d : Addr) (y v : V) (kvs : List (Key × V)) (op : List Rw) (n : Nat) (r : Rw), vs = [.ref d, y, v] ∧ H d = some (.dK kvs) ∧ MeantOk kvs op n ∧ WN op ∧ IsRow H y r ∧ RowS r ∧ OkRow op r ∧ H P0 = some (TabX P0) ∧ RetV .non H Q
theorem ok_rname {P0 : Addr} (D : Dn K mg "refuse_naming" s_refuse_naming ["meant", "row", "at"]) (T : Blt mg) {a_NAMERS : Addr} (g_NAMERS : mg "NAMERS" = some (.ref a_NAMERS)) (hNM : ∀ H, SqT K H a_NAMERS [.str "lend", .str "pick"]) (h_is_word : Has P w K mg base "is_word" 2 ["text"] (spIsWord P0)) : Has P w K mg base "refuse_naming" 3 ["meant", "row", "at"] (spRName K P0) := by
  refine D.ok sc_refuse_naming (fun vs H Q E h => ?_) (fun f cdv A outer st H vs Q E hr h => ?_)
  · obtain ⟨d, y, v, kvs, op, n, r, rfl, _⟩ := h
    rfl
  · obtain ⟨d, y, v, kvs, op, n, r, rfl, hd, M, wn, hY, hS, ok, hT, q⟩ := h
    obtain ⟨py, ys, rfl, hpy⟩ := hY.tup
    have hP : SqT K H py (.str r.tag :: ys) := st_of hpy
    refine ⟨_, (pss_cons (ps_if (pt_cmpR (show OpR _ _ (rIn K true) from op_notIn_seq) (pe_ix (show IxR _ (rIxT K) from ix_tup) (pv 1) pe_int (fun _ _ => rfl)) (pe_glob (v := .ref a_NAMERS) rfl g_NAMERS rfl) (by rfl)) (pss_one ps_retN) pss_nil) (pss_cons (ps_set (i := 3) sc_refuse_naming.nd rfl (Or.inl rfl) (pe_cmpR op_eq (pe_ix (show IxR _ (rIxT K) from ix_tup) (pv 1) pe_int (fun _ _ => rfl)) pe_str (nomark _))) (pss_cons (ps_if (PW.pt (pw_and (pt_val (pv 3)) (pw_and (pt_val (pe_own h_is_word (hr.mono (by decide)) (by rfl) (pa_cons (pe_ix (show IxR _ (rIxT K) from ix_tup) (pv 1) pe_int (fun _ _ => rfl)) pa_nil))) (pw_and1 (pt_cmp (pc_dnotin (hu_of hr) (pe_ix (show IxR _ (rIxT K) from ix_tup) (pv 1) pe_int (fun _ _ => rfl)) (pv 0))))))) (pss_one ps_any) pss_nil) (pss_cons (ps_if (pt_cmp (pc_din (hu_of hr) (pe_ix (show IxR _ (rIxT K) from ix_tup) (pv 1) pe_int (fun _ _ => rfl)) (pv 0))) (pss_one ps_any) pss_nil) (pss_one (ps_if (PW.pt (pw_and (pt_val (pv 3)) (pw_and (pt_cmpR op_eq (pe_ix (show IxR _ (rIxT K) from ix_tup) (pv 1) pe_int (fun _ _ => rfl)) pe_str (nomark _)) (pw_and1 (pt_cmpR op_eq (pe_dget1 (hu_of hr) (pv 0) (pe_ix (show IxR _ (rIxT K) from ix_tup) (pv 1) pe_int (fun _ _ => rfl)) ⟨rfl, rfl, rfl, rfl⟩) pe_str (nomark _)))))) (pss_one ps_any) pss_nil)))))), ?_⟩
    show (_ : L2.TS) _ [_, _, _, _] _
    refine q_when (b := !r.named) (et_is (et_test (ev_notInT (ev_ixT (ev_var rfl) hP ev_c atI_hd) ev_c (hNM H) rfl rfl)) (by rw [tag_named])) (fun hb H1 e1 => q H1 e1) (fun hb H1 e1 => ?_)
    refine q_asg (v := .bl r.isLend) (ev_is (ev_eq (ev_ixT (ev_var rfl) (ex_t e1 hP) ev_c atI_hd) ev_c rfl) (by rw [tag_lend])) (fun H2 e2 => ?_)
    show (_ : L2.TS) _ [_, _, _, _] _
    have e02 := e1.trans e2
    have hd2 := e02 _ _ hd
    have hT2 := e02 _ _ hT
    cases r with
    | lend h k s =>
      obtain ⟨p', hp1, hp2⟩ := hY
      cases hp1
      have hP2 : SqT K H2 py [.str "lend", .str h, .str k, s.v] := st_of (e02 _ _ hp2)
      refine q_when (b := false) (et_is (et_and (a := true) (et_B (ev_var rfl)) (fun _ => et_and (a := s.isW) (et_B (ev_is_word (ea_cons (ev_ixT (ev_var rfl) hP2 ev_c (atI_nat (j := 3) rfl)) ea_nil) hS.2.2 hT2)) (fun hz => ?_))) (by rw [Bool.and_false]; rfl)) (fun hb => by cases hb) (fun _ H3 e3 => ?_)
      · cases s with
        | thing m => cases hz
        | word u =>
          obtain ⟨z, hz1, hz2, hz3, _⟩ := ok.2.1 u rfl
          have h1 := M.has wn hz1 hz2
          rw [hz3] at h1
          exact et_is (et_B (ev_dnotin (u := Sum.inr u) (ev_ixT (ev_var rfl) hP2 ev_c (atI_nat (j := 3) rfl)) (ev_var rfl) hd2)) (by rw [h1]; rfl)
      have hd3 := e3 _ _ hd2
      have hP3 := ex_t e3 hP2
      refine q_when (b := false) (et_is (et_B (ev_din (u := Sum.inr h) (ev_ixT (ev_var rfl) hP3 ev_c (atI_nat (j := 1) rfl)) (ev_var rfl) hd3)) (by rw [M.fresh ok.1]; rfl)) (fun hb => by cases hb) (fun _ H4 e4 => ?_)
      have hd4 := e4 _ _ hd3
      have hP4 := ex_t e4 hP3
      refine s_when (b := false) (et_is (et_and (a := true) (et_B (ev_var rfl)) (fun _ => et_and (b := decide ((valV kvs (match s with
        | .word u => Sum.inr u
        | .thing m => Sum.inl m)).getD .non = V.str "read")) (et_test (ev_eq (ev_ixT (ev_var rfl) hP4 ev_c (atI_nat (j := 2) rfl)) ev_c rfl)) (fun hz => ?_))) ?_) (fun hb => by cases hb) (fun _ H5 e5 => q H5 (e02.trans (e3.trans (e4.trans e5))))
      · cases s with
        | thing m =>
          refine et_test (ev_eq (ev_dget1 (u := Sum.inl m) (ev_var rfl) hd4 (ev_ixT (ev_var rfl) hP4 ev_c (atI_nat (j := 3) rfl))) ev_c ?_)
          rw [M.no]
          rfl
        | word u =>
          obtain ⟨z, hz1, hz2, hz3, _⟩ := ok.2.1 u rfl
          have h1 := M.has wn hz1 hz2
          rw [hz3] at h1
          refine et_test (ev_eq (ev_dget1 (u := Sum.inr u) (ev_var rfl) hd4 (ev_ixT (ev_var rfl) hP4 ev_c (atI_nat (j := 3) rfl))) ev_c ?_)
          rw [h1]
          rfl
      · show (true && (decide (V.str k = V.str "write") && _)) = false
        cases s with
        | thing m =>
          rw [M.no]
          show (true && (_ && decide (V.non = V.str "read"))) = false
          rw [decide_eq_false (show ¬ (V.non = V.str "read") from fun z => by cases z)]
          simp
        | word u =>
          obtain ⟨z, hz1, hz2, hz3, hz4⟩ := ok.2.1 u rfl
          have h1 := M.has wn hz1 hz2
          rw [hz3] at h1
          show (true && (_ && decide ((valV kvs (Sum.inr u)).getD .non = V.str "read"))) = false
          rw [h1]
          show (true && (decide (V.str k = V.str "write") && decide (V.str z.kindE = V.str "read"))) = false
          by_cases hk : k = "write"
          · have hne : z.kindE ≠ "read" := by
              cases z with
              | lend a b c =>
                have := hz4 hk rfl
                show b ≠ "read"
                rw [show b = "write" from this]
                decide +kernel
              | pick a b => show ("pick" : Str) ≠ "read"; decide +kernel
              | _ => cases hz2
            rw [decide_eq_false fun z => hne (V.str.inj z)]
            simp
          · rw [decide_eq_false fun z => hk (V.str.inj z)]
            rfl
    | pick u ts =>
      obtain ⟨p', q', hp1, hp2, hp3⟩ := hY
      cases hp1
      have hP2 : SqT K H2 py [.str "pick", .str u, .ref q'] := st_of (e02 _ _ hp2)
      refine q_when (b := false) (et_is (et_and (a := false) (b := false) (et_B (ev_var rfl)) (fun hz => by cases hz)) rfl) (fun hb => by cases hb) (fun _ H3 e3 => ?_)
      refine q_when (b := false) (et_is (et_B (ev_din (u := Sum.inr u) (ev_ixT (ev_var rfl) (ex_t e3 hP2) ev_c (atI_nat (j := 1) rfl)) (ev_var rfl) (e3 _ _ hd2))) (by rw [M.fresh ok.1]; rfl)) (fun hb => by cases hb) (fun _ H4 e4 => ?_)
      exact s_when (b := false) (et_is (et_and (a := false) (b := false) (et_B (ev_var rfl)) (fun hz => by cases hz)) rfl) (fun hb => by cases hb) (fun _ H5 e5 => q H5 (e02.trans (e3.trans (e4.trans e5))))
    | _ => cases hb
def spBind : Sp := fun vs H Q _ => ∃ (d : Addr) (y : V) (kvs : List (Key × V)) (r : Rw), vs = [.ref d, y] ∧ H d = some (.dK kvs) ∧ kvs.length < 100000 ∧ IsRow H y r ∧ ∀ H1, Ex H H1 → Q .non (if r.named = true then upd H1 d (.dK (putK kvs (Sum.inr r.word) (.str r.kindE))) else H1)
theorem ok_bind (D : Dn K mg "bind" s_bind ["meant", "row"]) : Has P w K mg base "bind" 1 ["meant", "row"] spBind := by
  refine D.ok sc_bind (fun vs H Q E h => ?_) (fun f cdv A outer st H vs Q E hr h => ?_)
  · obtain ⟨d, y, kvs, r, rfl, _⟩ := h
    rfl
  · obtain ⟨d, y, kvs, r, rfl, hd, hl, hY, q⟩ := h
    obtain ⟨py, ys, rfl, hpy⟩ := hY.tup
    have hP : SqT K H py (.str r.tag :: ys) := st_of hpy
    refine ⟨_, (pss_one (ps_if (pt_cmpR op_eq (pe_ix (show IxR _ (rIxT K) from ix_tup) (pv 1) pe_int (fun _ _ => rfl)) pe_str (nomark _)) (pss_one (ps_dput (hu_of hr) (pv 0) (pe_ix (show IxR _ (rIxT K) from ix_tup) (pv 1) pe_int (fun _ _ => rfl)) (pe_ix (show IxR _ (rIxT K) from ix_tup) (pv 1) pe_int (fun _ _ => rfl)) rfl)) (pss_one (ps_if (pt_cmpR op_eq (pe_ix (show IxR _ (rIxT K) from ix_tup) (pv 1) pe_int (fun _ _ => rfl)) pe_str (nomark _)) (pss_one (ps_dput (hu_of hr) (pv 0) (pe_ix (show IxR _ (rIxT K) from ix_tup) (pv 1) pe_int (fun _ _ => rfl)) pe_str rfl)) pss_nil)))), ?_⟩
    show (_ : L2.TS) _ [_, _] _
    refine s_if (b := r.isLend) (et_is (et_test (ev_eq (ev_ixT (ev_var rfl) hP ev_c atI_hd) ev_c rfl)) (tag_lend r)) (fun hb H1 e1 => ?_) (fun hb H1 e1 => ?_)
    · cases r with
      | lend h k s =>
        obtain ⟨p', hp1, hp2⟩ := hY
        cases hp1
        have hP2 : SqT K H1 py [.str "lend", .str h, .str k, s.v] := st_of (e1 _ _ hp2)
        refine s_dput (u := Sum.inr h) (v := .str k) (e1 _ _ hd) hl (ev_var rfl) (ev_ixT (ev_var rfl) hP2 ev_c (atI_nat (j := 1) rfl)) (ev_ixT (ev_var rfl) hP2 ev_c (atI_nat (j := 2) rfl)) (fun H2 e2 => ?_)
        have g := q H2 (e1.trans e2)
        rw [if_pos (show (Rw.lend h k s).named = true from rfl)] at g
        exact g
      | _ => cases hb
    · refine s_when (b := r.isPick) (et_is (et_test (ev_eq (ev_ixT (ev_var rfl) (ex_t e1 hP) ev_c atI_hd) ev_c rfl)) (tag_pick r)) (fun hb2 H2 e2 => ?_) (fun hb2 H2 e2 => ?_)
      · cases r with
        | pick u ts =>
          obtain ⟨p', q', hp1, hp2, hp3⟩ := hY
          cases hp1
          have hP2 : SqT K H2 py [.str "pick", .str u, .ref q'] := st_of ((e1.trans e2) _ _ hp2)
          refine s_dput (u := Sum.inr u) (v := .str "pick") ((e1.trans e2) _ _ hd) hl (ev_var rfl) (ev_ixT (ev_var rfl) hP2 ev_c (atI_nat (j := 1) rfl)) ev_c (fun H3 e3 => ?_)
          have g := q H3 ((e1.trans e2).trans e3)
          rw [if_pos (show (Rw.pick u ts).named = true from rfl)] at g
          exact g
        | _ => cases hb2
      · have g := q H2 (e1.trans e2)
        rw [if_neg (by
          rw [show r.named = false from by cases r <;> first | rfl | (cases hb; done) | (cases hb2; done)]
          decide)] at g
        exact g
def spFree (K : PySem.W.Frag) : Sp := fun vs H Q _ => ∃ (d : Addr) (y : V) (kvs : List (Key × V)) (r : Rw), vs = [.ref d, y] ∧ H d = some (.dK kvs) ∧ IsRow H y r ∧ (r.named = true → (valV kvs (Sum.inr r.word)).isSome = true) ∧ ∀ H1, Ex H H1 → Q .non (if r.named = true then upd H1 d (.dK (dropK kvs (Sum.inr r.word))) else H1)
theorem ok_free (D : Dn K mg "free" s_free ["meant", "row"]) {a_NAMERS : Addr} (g_NAMERS : mg "NAMERS" = some (.ref a_NAMERS)) (hNM : ∀ H, SqT K H a_NAMERS [.str "lend", .str "pick"]) : Has P w K mg base "free" 1 ["meant", "row"] (spFree K) := by
  refine D.ok sc_free (fun vs H Q E h => ?_) (fun f cdv A outer st H vs Q E hr h => ?_)
  · obtain ⟨d, y, kvs, r, rfl, _⟩ := h
    rfl
  · obtain ⟨d, y, kvs, r, rfl, hd, hY, hv, q⟩ := h
    obtain ⟨py, ys, rfl, hpy⟩ := hY.tup
    have hP : SqT K H py (.str r.tag :: ys) := st_of hpy
    refine ⟨_, (pss_one (ps_if (pt_cmpR (show OpR _ _ (rIn K false) from op_in_seq) (pe_ix (show IxR _ (rIxT K) from ix_tup) (pv 1) pe_int (fun _ _ => rfl)) (pe_glob (v := .ref a_NAMERS) rfl g_NAMERS rfl) (by rfl)) (pss_one (ps_ddel (pv 0) (pe_ix (show IxR _ (rIxT K) from ix_tup) (pv 1) pe_int (fun _ _ => rfl)))) pss_nil)), ?_⟩
    show (_ : L2.TS) _ [_, _] _
    refine s_when (b := r.named) (et_is (et_test (ev_inT (ev_ixT (ev_var rfl) hP ev_c atI_hd) ev_c (hNM H) rfl rfl)) (tag_named r)) (fun hb H1 e1 => ?_) (fun hb H1 e1 => ?_)
    · have hw : ∃ zs, ys = .str r.word :: zs := by
        cases r with
        | lend h k s => obtain ⟨p', hp1, hp2⟩ := hY; cases hp1; rw [hp2] at hpy; cases hpy; exact ⟨_, rfl⟩
        | pick u ts => obtain ⟨p', q', hp1, hp2, _⟩ := hY; cases hp1; rw [hp2] at hpy; cases hpy; exact ⟨_, rfl⟩
        | _ => cases hb
      obtain ⟨zs, rfl⟩ := hw
      refine s_ddel (u := Sum.inr r.word) (e1 _ _ hd) (ev_var rfl) (ev_ixT (ev_var rfl) (ex_t e1 hP) ev_c (atI_nat (j := 1) rfl)) (hv hb) (fun H2 e2 => ?_)
      have g := q H2 (e1.trans e2)
      rw [if_pos hb] at g
      exact g
    · have g := q H1 e1
      rw [if_neg (by rw [hb]; decide)] at g
      exact g
end
end BD
namespace BD
open PySem PySem.Spec PyProof.Rows L2 Evl GX
open GxR (TabB)
local macro_rules | `(tactic| walk_at "ev") => `(tactic| first
  | ((with_reducible apply ev_var) ; rfl)
  | with_reducible exact ev_c
  | ((with_reducible apply ev_I0) <;> walk_at "ev")
  | ((with_reducible apply ev_e9) <;> walk_at "ev")
  | ((with_reducible apply ev_I) <;> walk_at "ev")
  | ((with_reducible apply ev_eq) <;> walk_at "ev")
  | ((with_reducible apply ev_ne) <;> walk_at "ev")
  | ((with_reducible apply ev_neg) <;> walk_at "ev")
  | ((with_reducible apply ev_ixN) <;> walk_at "ev")
  | ((with_reducible apply ev_ixL) <;> walk_at "ev")
  | ((with_reducible apply ev_inN) <;> walk_at "ev")
  | ((with_reducible apply ev_inT) <;> walk_at "ev")
  | ((with_reducible apply ev_ixT) <;> walk_at "ev")
  | ((with_reducible apply ev_ixS) <;> walk_at "ev")
  | ((with_reducible apply ev_len') <;> walk_at "ev")
  | ((with_reducible apply et_test) <;> walk_at "ev")
  | ((with_reducible apply et_and) <;> walk_at "ev")
  | ((with_reducible apply et_or) <;> walk_at "ev")
  | ((with_reducible apply et_not) <;> walk_at "ev")
  | ((with_reducible apply et_B) <;> walk_at "ev")
  | ((with_reducible apply el_lst) <;> walk_at "ev")
  | ((with_reducible apply eu_tup) <;> walk_at "ev")
  | ((with_reducible apply ea_cons) <;> walk_at "ev")
  | with_reducible exact ea_nil
  | with_reducible assumption
  | ((with_reducible apply ex_l' ; assumption) ; walk_at "ex")
  | ((with_reducible apply ex_t' ; assumption) ; walk_at "ex")
  | (intro _ ; walk_at "ev")
  | (with_reducible first | exact atI_hd | exact at_kind | exact at2s | exact at3s | exact at3i)
  | (first | exact rfl | exact Nat.le_of_ble_eq_true rfl | exact ⟨by decide, by decide⟩ | decide | exact Or.inl ⟨by omega, by omega⟩ | exact Or.inr ⟨by omega, by omega⟩ | omega)
  | skip)
local macro_rules | `(tactic| walk_at "ex") => `(tactic| first
  | assumption
  | exact Ex.refl _
  | (refine' Ex.trans ?_ (by assumption) ; walk_at "ex"))
local macro_rules | `(tactic| walk_at "row") => `(tactic| first
  | (with_reducible exact er_nil)
  | ((with_reducible apply er_cons) <;> walk_at "row")
  | (((with_reducible apply er_var) ; rfl) ; walk_at "isrow")
  | (((with_reducible apply elr_var) ; rfl) ; walk_at "isrow")
  | ((with_reducible apply elr_cat) <;> walk_at "row")
  | ((with_reducible apply elr_lst) <;> walk_at "row")
  | ((with_reducible apply er_fin) <;> walk_at "ev")
  | ((with_reducible apply er_lendT) <;> walk_at "ev")
  | ((with_reducible apply er_lendW) <;> walk_at "ev")
  | ((with_reducible apply er_pick) <;> walk_at "ev")
  | ((with_reducible apply er_either) <;> walk_at "ev")
  | ((with_reducible apply er_or) <;> walk_at "ev")
  | ((with_reducible apply er_again) <;> walk_at "ev")
  | ((with_reducible apply er_back) <;> walk_at "ev")
  | ((with_reducible apply er_look) <;> walk_at "ev")
  | ((with_reducible apply er_change) <;> walk_at "ev")
  | exact Nat.le_of_ble_eq_true rfl
  | skip)
local macro_rules | `(tactic| walk_at "isrow") => `(tactic| first
  | assumption
  | (refine IsRow.up ?_ (by assumption) ; walk_at "ex")
  | (refine LRows.up ?_ (by assumption) ; walk_at "ex"))

abbrev s_checked : Stmt := topS 43
theorem sc_checked : FnScope ["rows", "opened", "meant", "at", "row"] ["rows"] (defScope s_checked) := ⟨rfl, rfl, rfl, by decide +kernel, rfl, by decide +kernel, by decide +kernel⟩
section
variable {K : PySem.W.Frag} {σ : L2.St} {H : Hp} {ta : TE} {D : Ends} {tz : TS}
theorem et_truL {p : Addr} {xs : List V} (h : Ev ta σ H (.ref p)) (hp : SqL K H p xs) : EvT (fun σ H Q => ta σ H fun x H' => ∃ k, TruV K x H' k ∧ Q k H') σ H (!xs.isEmpty) := fun H1 e Q q =>
  h H1 e _ fun H2 e2 => ⟨_, .inl ⟨xs, ex_l (e.trans e2) hp, rfl⟩, q H2 e2⟩
theorem q_dnew {i : Nat} (k : ∀ p H1, H p = none → Ex H H1 → H1 p = some (.dK []) → tz D (σ.set i (some (.ref p))) H1) : tSeq (tAsg tDNewK (gName i)) tz D σ H := fun p hp => k p _ hp (Ex.new hp) upd_same
theorem s_dropCall {sp : Sp} {vs : List V} {E : XK} {tA : TA} (h : EvA tA σ H vs) (k : ∀ H1, Ex H H1 → sp (vs ++ []) H1 (fun _ H' => D.nx σ H') E) : tDrop (tCall sp [] E tA) D σ H := h H (Ex.refl H) _ fun H1 e1 => k H1 e1
/-- f(d, xs[ys.pop()]) -/
theorem s_dropPop {sp : Sp} {E : XK} {td tb : TE} {d a m : Addr} {xs ys : List V} {j : Nat} {v : V} (hd : Ev td σ H (.ref d)) (ho : Ev ta σ H (.ref a)) (hi : Ev tb σ H (.ref m)) (hm : H m = some (.lst ys)) (hy : ys[ys.length - 1]? = some (.int (j : Int)))
    (ha : ∀ H1, Ex H H1 → SqL K (upd H1 m (.lst ys.dropLast)) a xs) (hx : xs[j]? = some v) (k : ∀ H1, Ex H H1 → sp [.ref d, v] (upd H1 m (.lst ys.dropLast)) (fun _ H' => D.nx σ H') E) : tDrop (tCall sp [] E (tCons td (tCons (tOp (rIxL K) ta (tBM0 K "list" rPop tb)) tNil))) D σ H :=
  hd H (Ex.refl H) _ fun H1 e1 => ho H1 e1 _ fun H2 e2 => hi H2 (e1.trans e2) _ fun H3 e3 =>
    have e := e1.trans (e2.trans e3)
    ⟨Or.inl ⟨rfl, ys, sq_of (e _ _ hm)⟩, m, ys, _, rfl, rfl, e _ _ hm, hy, a, xs, (j : Int), v, rfl, rfl, ha H3 e, atI_nat hx, k H3 e⟩
end
theorem opL_last {rs : List Rw} (g : Good rs) {i b : Nat} {t : List Nat} (hi : i ≤ rs.length) (hp : pr rs i = b :: t) : opL rs i = (opL rs i).dropLast ++ [rs.getD b .fin] := by
  rw [opL_pr g i hi, hp, List.reverse_cons, List.map_append]
  show _ = (_ ++ [_]).dropLast ++ [_]
  rw [List.dropLast_concat]
  rfl
theorem opL_s {rs : List Rw} (sh : Sheet rs) {i : Nat} (hi : i ≤ rs.length) : ∀ q ∈ opL rs i, RowS q := fun q hq => by
  rw [opL_pr sh.g i hi] at hq
  obtain ⟨j, hj, hjq⟩ := List.mem_map.mp hq
  obtain ⟨_, r, hr, _⟩ := pr_mem i j (List.mem_reverse.mp hj)
  have hqr : q = r := by
    rw [← hjq, List.getD_eq_getElem?_getD, hr]
    rfl
  rw [hqr]
  exact sh.s r (List.mem_of_getElem? hr)
section
variable {P : Program} {w : World} {K : PySem.W.Frag} {mg : Str → Option Value} {base : Heap}
def spChecked (K : PySem.W.Frag) (P0 P1 : Addr) : Sp := fun vs H Q _ => ∃ (a : Addr) (rv : List V) (rs : List Rw), vs = [.ref a] ∧ SqL K H a rv ∧ Rows H rv rs ∧ Sheet rs ∧ rs.length ≤ 40000 ∧ H P0 = some (TabX P0) ∧ H P1 = some (TabX P1) ∧ RetV .non H Q
theorem ok_checked {P0 P1 : Addr} (D : Dn K mg "checked" s_checked ["rows"]) (T : Blt mg) (h_refuse_form : Has P w K mg base "refuse_form" 6 ["row", "at"] (spRForm P0 P1)) (h_refuse_block : Has P w K mg base "refuse_block" 1 ["rows", "opened", "at"] (spRBlock K)) (h_refuse_use : Has P w K mg base "refuse_use" 1 ["meant", "row", "at"] (spRUse K)) (h_refuse_naming : Has P w K mg base "refuse_naming" 3 ["meant", "row", "at"] (spRName K P0)) (h_opens : Has P w K mg base "opens" 1 ["row"] spOpens) (h_bind : Has P w K mg base "bind" 1 ["meant", "row"] spBind) (h_free : Has P w K mg base "free" 1 ["meant", "row"] (spFree K)) : Has P w K mg base "checked" 7 ["rows"] (spChecked K P0 P1) := by
  refine D.ok sc_checked (fun vs H Q E h => ?_) (fun f cdv A outer st H vs Q E hr h => ?_)
  · obtain ⟨a, rv, rs, rfl, _⟩ := h
    rfl
  · obtain ⟨a, rv, rs, rfl, hS, hR, sh, hl, hT, hT1, q⟩ := h
    have hlr := hR.len
    refine ⟨_, (pss_cons (ps_set (i := 1) sc_checked.nd rfl (Or.inl rfl) (pe_lst pa_nil)) (pss_cons (ps_set (i := 2) sc_checked.nd rfl (Or.inl rfl) pe_dnewK) (pss_cons (ps_for PassesOwn.never rfl (pi_enum (by rfl) T.enumerate_ (pa_cons (pv 0) pa_nil)) (pg_tup rfl (pgs_cons (pg_name (i := 3) sc_checked.nd rfl (Or.inl rfl)) (pgs_cons (pg_name (i := 4) sc_checked.nd rfl (Or.inl rfl)) pgs_nil))) (pss_cons (ps_expr (pe_own h_refuse_form (hr.mono (by decide)) (by rfl) (pa_cons (pv 4) (pa_cons (pv 3) pa_nil)))) (pss_cons (ps_expr (pe_own h_refuse_block (hr.mono (by decide)) (by rfl) (pa_cons (pv 0) (pa_cons (pv 1) (pa_cons (pv 3) pa_nil))))) (pss_cons (ps_expr (pe_own h_refuse_use (hr.mono (by decide)) (by rfl) (pa_cons (pv 2) (pa_cons (pv 4) (pa_cons (pv 3) pa_nil))))) (pss_cons (ps_expr (pe_own h_refuse_naming (hr.mono (by decide)) (by rfl) (pa_cons (pv 2) (pa_cons (pv 4) (pa_cons (pv 3) pa_nil))))) (pss_one (ps_if (pt_val (pe_own h_opens (hr.mono (by decide)) (by rfl) (pa_cons (pv 4) pa_nil))) (pss_cons (ps_expr (pe_bm PySem.F.plainAttrs_list PySem.F.slot_list_append PySem.F.type_list_append mt_append (pv 1) (pa_cons (pv 3) pa_nil))) (pss_one (ps_expr (pe_own h_bind (hr.mono (by decide)) (by rfl) (pa_cons (pv 2) (pa_cons (pv 4) pa_nil)))))) (pss_one (ps_if (pt_cmpR op_eq (pe_ix (show IxR _ (rIxT K) from ix_tup) (pv 4) pe_int (fun _ _ => rfl)) pe_str (nomark _)) (pss_one (ps_expr (pe_own h_free (hr.mono (by decide)) (by rfl) (pa_cons (pv 2) (pa_cons (pe_ix (show IxR _ (rIxL K) from ix_list) (pv 0) (pe_bm0 PySem.F.plainAttrs_list PySem.F.slot_list_pop PySem.F.type_list_pop mt_pop (pv 1)) (fun _ _ => rfl)) pa_nil))))) pss_nil))))))))) (pss_one (ps_if (pt_truth (pv 1) (by intro _; rfl)) (pss_one ps_any) pss_nil))))), ?_⟩
    show (_ : L2.TS) _ [_, _, _, _, _] _
    refine q_asgL (xs := []) ?_ (fun po H1 hpo e1 h1 => ?_)
    · walk_at "ev"
    show (_ : L2.TS) _ [_, _, _, _, _] _
    refine q_dnew (fun d H2 hd e2 h2 => ?_)
    show (_ : L2.TS) _ [_, _, _, _, _] _
    have e02 := e1.trans e2
    have hd0 : H d = none := fresh_back e1 hd
    have hpd : po ≠ d := ne_of_none h1 hd
    have hS2 := ex_l e02 hS
    refine q_forE (K := K) (a := a) (xs := rv) (ev_var rfl) hS2 (fun i σ' H' => Ex H H' ∧ H' po = some (.lst (stP rs i)) ∧ (∃ kvs, H' d = some (.dK kvs) ∧ MeantOk kvs (opL rs i) i) ∧ ∃ x4 x5, σ' = [some (.ref a), some (.ref po), some (.ref d), x4, x5]) ?_ (fun i σ' H' _ h => ex_l h.1 hS) ?_ ?_
    · intro H3 e3
      exact ⟨e02.trans e3, e3 _ _ (e2 _ _ h1), ⟨[], e3 _ _ h2, fun u => rfl, fun n => rfl, Nat.le_refl _⟩, none, none, rfl⟩
    · rintro i x σ' H' H3 hi ⟨eH, hO, ⟨kvs, hD, M⟩, x4, x5, rfl⟩ e3
      have hil : i < rv.length := (List.getElem?_eq_some_iff.mp hi).1
      obtain ⟨r, hg, hX⟩ := hR.at hi
      have e0 := eH.trans e3
      have hO3 := e3 _ _ hO
      have hD3 := e3 _ _ hD
      have hX3 : IsRow H3 x r := hX.up e0
      have hrs := sh.s r (List.mem_of_getElem? hg)
      have ok := vr_ok sh.vr hg
      have wn := wn_at sh i (by omega)
      clear eH hO hD e3
      dsimp only [List.set]
      refine q_drop (v := .non) (ev_call (ea_cons (ev_var rfl) (ea_cons (ev_var rfl) ea_nil)) fun H4 e4 Q q E => ⟨x, .int (i : Int), r, rfl, hX3.up e4, hrs, (e0.trans e4) _ _ hT, (e0.trans e4) _ _ hT1, q⟩) (fun H4 e4 => ?_)
      refine q_drop (v := .non) (ev_call (ea_cons (ev_var rfl) (ea_cons (ev_var rfl) (ea_cons (ev_var rfl) ea_nil))) fun H5 e5 Q q E => ⟨a, po, i, rv, rs, r, rfl, ex_l (e0.trans (e4.trans e5)) hS, hR.up (e0.trans (e4.trans e5)), (e4.trans e5) _ _ hO3, hg, sh.g.fin i r hg, fun hro => ?_, q⟩) (fun H5 e5 => ?_)
      · subst hro
        obtain ⟨b, _, h3, h4⟩ := or_home sh hg
        exact ⟨b, _, h3, h4⟩
      refine q_drop (v := .non) (ev_call (ea_cons (ev_var rfl) (ea_cons (ev_var rfl) (ea_cons (ev_var rfl) ea_nil))) fun H6 e6 Q q E => ⟨d, x, .int (i : Int), kvs, opL rs i, i, r, rfl, (e4.trans (e5.trans e6)) _ _ hD3, M, wn, opL_s sh (by omega), hX3.up (e4.trans (e5.trans e6)), ok, q⟩) (fun H6 e6 => ?_)
      refine q_drop (v := .non) (ev_call (ea_cons (ev_var rfl) (ea_cons (ev_var rfl) (ea_cons (ev_var rfl) ea_nil))) fun H7 e7 Q q E => ⟨d, x, .int (i : Int), kvs, opL rs i, i, r, rfl, (e4.trans (e5.trans (e6.trans e7))) _ _ hD3, M, wn, hX3.up (e4.trans (e5.trans (e6.trans e7))), hrs, ok, (e0.trans (e4.trans (e5.trans (e6.trans e7)))) _ _ hT, q⟩) (fun H7 e7 => ?_)
      have e37 := e4.trans (e5.trans (e6.trans e7))
      have e07 := e0.trans e37
      have hO7 := e37 _ _ hO3
      have hD7 := e37 _ _ hD3
      have hX7 := hX3.up e37
      clear e4 e5 e6 e7 e37 e0 hO3 hD3 hX3
      refine s_if (b := r.opens) (et_B (ev_opens (ea_cons (ev_var rfl) ea_nil) hX7)) (fun hb H8 e8 => ?_) (fun hb H8 e8 => ?_)
      · refine q_app (l := po) (xs := stP rs i) (v := .int (i : Int)) (e8 _ _ hO7) (ev_var rfl) (ev_var rfl) (by rw [stP_len]; have := stV_len rs i; unfold stV at this; rw [List.length_cons, List.length_map, List.length_reverse] at this; omega) (fun H9 e9 => ?_)
        have e09 := e07.trans (e8.trans e9)
        have x10 : Ex H (upd H9 po (.lst (stP rs i ++ [.int (i : Int)]))) := Ex.mut e09 hpo
        have hD10 : (upd H9 po (.lst (stP rs i ++ [.int (i : Int)]))) d = some (.dK kvs) := by rw [upd_ne hpd.symm]; exact (e8.trans e9) _ _ hD7
        have hO10 : (upd H9 po (.lst (stP rs i ++ [.int (i : Int)]))) po = some (.lst (stP rs (i + 1))) := by rw [upd_same, stP_push hg hb]
        generalize upd H9 po (.lst (stP rs i ++ [.int (i : Int)])) = G at *
        have eT : IsRow G x r := hX.up x10
        refine s_dropCall (ea_cons (ev_var rfl) (ea_cons (ev_var rfl) ea_nil)) fun H11 e11 => ⟨d, x, kvs, r, rfl, e11 _ _ hD10, by have := M.len; omega, eT.up e11, fun H12 e12 => ?_⟩
        have e1012 := e11.trans e12
        cases hn : r.named with
        | true =>
          rw [if_pos rfl]
          refine ⟨Ex.mut (x10.trans e1012) hd0, by rw [upd_ne hpd]; exact e1012 _ _ hO10, ⟨_, upd_same, ?_⟩, some (.int (i : Int)), some x, rfl⟩
          rw [opL_next hg]
          unfold opUpd
          rw [if_pos hb]
          refine M.push hn ?_
          cases r with
          | lend a b c => exact ok.1
          | pick a b => exact ok.1
          | _ => cases hn
        | false =>
          rw [if_neg (by decide)]
          refine ⟨x10.trans e1012, e1012 _ _ hO10, ⟨kvs, e1012 _ _ hD10, ?_⟩, some (.int (i : Int)), some x, rfl⟩
          rw [opL_next hg]
          unfold opUpd
          rw [if_pos hb]
          exact M.same hn
      · obtain ⟨py, ys, rfl, hpy⟩ := (hX7.up e8).tup
        refine s_when (b := r.isFin) (et_is (et_test (ev_eq (ev_ixT (ev_var rfl) (st_of hpy) ev_c atI_hd) ev_c rfl)) (tag_fin r)) (fun hf H9 e9 => ?_) (fun hf H9 e9 => ?_)
        · have e09 := e07.trans (e8.trans e9)
          cases hp : pr rs i with
          | nil => exact absurd hp (sh.g.fin i r hg hf)
          | cons b t =>
            obtain ⟨k1, k2, k3⟩ := stP_pop hg hf hp
            have hbq : ∃ qr, rs[b]? = some qr := by
              obtain ⟨_, qr, h5, _⟩ := pr_mem i b (by rw [hp]; exact List.mem_cons_self)
              exact ⟨qr, h5⟩
            obtain ⟨qr, hqr⟩ := hbq
            obtain ⟨yq, hyq, hYq⟩ := hR.get hqr
            have hol := opL_last sh.g (show i ≤ rs.length by omega) hp
            have hqd : rs.getD b .fin = qr := by rw [List.getD_eq_getElem?_getD, hqr]; rfl
            rw [hqd] at hol
            rw [hol] at M wn
            have hvq : qr.named = true → valV kvs (Sum.inr qr.word) = some (.str qr.kindE) := fun hn => M.has wn (by simp) hn
            refine s_dropPop (K := K) (xs := rv) (ev_var rfl) (ev_var rfl) (ev_var rfl) ((e8.trans e9) _ _ hO7) k2 (fun H10 e10 => ex_l (Ex.mut (e09.trans e10) hpo) hS) hyq (fun H10 e10 => ?_)
            have x10 : Ex H (upd H10 po (.lst (stP rs i).dropLast)) := Ex.mut (e09.trans e10) hpo
            have hD10 : (upd H10 po (.lst (stP rs i).dropLast)) d = some (.dK kvs) := by rw [upd_ne hpd.symm]; exact (e8.trans (e9.trans e10)) _ _ hD7
            have hO10 : (upd H10 po (.lst (stP rs i).dropLast)) po = some (.lst (stP rs (i + 1))) := by rw [upd_same, k1]
            generalize upd H10 po (.lst (stP rs i).dropLast) = G at *
            refine ⟨d, yq, kvs, qr, rfl, hD10, hYq.up x10, fun hn => by rw [hvq hn]; rfl, fun H12 e12 => ?_⟩
            have hop : opL rs (i + 1) = (opL rs i).dropLast := by
              rw [opL_next hg]
              unfold opUpd
              rw [if_neg (by rw [hb]; decide), if_pos hf]
            have M2 := M.pop wn
            cases hn : qr.named with
            | true =>
              rw [if_pos rfl]
              rw [if_pos hn] at M2
              exact ⟨Ex.mut (x10.trans e12) hd0, by rw [upd_ne hpd]; exact e12 _ _ hO10, ⟨_, upd_same, by rw [hop]; exact M2⟩, some (.int (i : Int)), some (.ref py), rfl⟩
            | false =>
              rw [if_neg (by decide)]
              rw [if_neg (by rw [hn]; decide)] at M2
              exact ⟨x10.trans e12, e12 _ _ hO10, ⟨kvs, e12 _ _ hD10, by rw [hop]; exact M2⟩, some (.int (i : Int)), some (.ref py), rfl⟩
        · refine ⟨e07.trans (e8.trans e9), ?_, ⟨kvs, (e8.trans e9) _ _ hD7, ?_⟩, some (.int (i : Int)), some (.ref py), rfl⟩
          · rw [stP_keep hg hb hf]
            exact (e8.trans e9) _ _ hO7
          · rw [opL_next hg]
            unfold opUpd
            rw [if_neg (by rw [hb]; decide), if_neg (by rw [hf]; decide)]
            exact M.more (Nat.le_succ i)
    · rintro σ' H' ⟨eH, hO, ⟨kvs, hD, M⟩, x4, x5, rfl⟩
      refine s_when (b := false) (et_is (et_truL (K := K) (ev_var rfl) (sq_of hO)) ?_) (fun hb => by cases hb) (fun _ H3 e3 => q H3 (eH.trans e3))
      have h0 : stP rs rv.length = [] := by
        unfold stP
        rw [hlr, sh.g.last]
        rfl
      rw [h0]
      rfl
end
end BD
namespace BD
open PySem PySem.Spec PyProof.Rows L2 Evl
/-! ### {e}, e a key -/
def tSet1 (P : Program) (w : World) (te : TE) : TE := fun σ H Q => ∀ p, H p = none → te σ (upd H p (SetK P w p (fun _ => false) 0)) fun v H1 => ∃ k : Key, v = kV k ∧ H1 p = some (SetK P w p (fun _ => false) 0) ∧ Q (.ref p) (upd H1 p (SetK P w p (fun j => false || decide (j = k)) 1))
theorem pe_set1 {X : Cx} {e : Expr} {te : TE} {pos : Pos} (hcd : PySem.W.kdsCode X.K X.env.code = true) (he : PE X e te) (hp : [e].all PySem.W.kdsPlain = true := by rfl) : PE X (.Set [e] 0 pos) (tSet1 X.prog X.w te) := by
  refine ⟨fun pins s σ H Q I h => ?_⟩
  rw [arm_eval_Set]
  refine wpAny_bind (wpAny_standAt ?_)
  refine wpAny_bind (PySem.W.kds_main I.kIn hcd fun b => ?_)
  rw [PySem.W.kds_star [e] hp, List.map_map]
  refine PySem.W.kds_core (ts := (evalEach [e] X.env).map fun t => do let v ← t; standAt pos; pure v) (by rfl) (by rfl) (by show 1 ≤ 30; decide) (by rw [List.map_map]; rfl) fun led => ?_
  have hn : H s.heap.objs.size = none := I.hok.fresh (Nat.le_refl _)
  have new : (s.heap.push { cls := .type "set", dict := none, data := .set #[] 0 (.fresh 0 0 led) }).SetOf (mixKind X.prog X.w) s.heap.objs.size (fun _ => false) 0 :=
    ⟨_, #[], 0, _, Heap.get?_push_size _ rfl, ⟨rfl, rfl, rfl⟩, rfl, (fun e he => by simp at he), (fun k => by simp), (by decide), (by rfl), rfl⟩
  have I1 : Inv X pins σ (upd H s.heap.objs.size (SetK X.prog X.w s.heap.objs.size (fun _ => false) 0)) { s with heap := s.heap.push { cls := .type "set", dict := none, data := .set #[] 0 (.fresh 0 0 led) } } :=
    I.laid (t' := s.toks) (fun b u e => Heap.get?_push_of_some _ e) (Nat.le_refl _) (setK_new new)
  refine PySem.W.kds_all pos [e] _ _ ?_
  refine thn (he.run pins _ σ _ _ I1 (h _ hn)) fun v s2 ⟨x, H2, I2, r2, k, ex, hS, q⟩ => ?_
  subst ex
  refine PySem.W.kds_fill_cons ?_
  unfold setAdd
  refine wpAny_holding (wpAny_bind ((mixKind X.prog X.w).pyHash (kV_is r2) ?_))
  refine wpAny_setAddHashed_of (s := { s2 with toks := s2.toks + 1 }) (kV_is r2) (key_scan r2) (setK_get (I2.tok _) hS) (by decide) fun h' hsb hS' => ?_
  refine PySem.W.kds_fill_nil (by rfl) ?_
  have he' : ∃ u, h'.get? s.heap.objs.size = some u := by
    have ⟨o, _, _, _, ho, _⟩ := hS'
    exact ⟨o, ho⟩
  exact ⟨.ref s.heap.objs.size, upd H2 s.heap.objs.size (SetK X.prog X.w s.heap.objs.size (fun j => false || decide (j = k)) 1), I2.write (e := s.heap.objs.size) (t' := s2.toks + 1) (by rw [hS]; trivial) (.inl rfl) (fun b u hb hu => (hsb.2 b hb).trans hu) he' (setK_new hS'), rfl, q⟩
/-- a def that is told its own code object -/
theorem Dn.okC {P : Program} {w : World} {K : PySem.W.Frag} {mg : Str → Option Value} {base : Heap} {x : Str} {st : Stmt} {N ps : List Str} {k : Nat} {sp : Sp} (D : Dn K mg x st ps) (S : FnScope N ps (defScope st)) (len : ∀ vs H Q E, sp vs H Q E → vs.length = ps.length)
    (hbody : ∀ (f : Addr) (cdv : Value) (A : Around) (outer : List Env) (s : Shared) (H : Hp) (vs : List V) (Q : VK) (E : XK), PySem.W.kdsCode K cdv = true → Room k (A.deeper (envOfC x (defScope st) s.heap.objs.size f cdv)) → sp vs H Q E →
      ∃ t, PSs (cxOf CX0 P w K mg base N x (defScope st) f cdv A outer s H E).nox (defBody st) t ∧ t { nx := fun _ H' => Q .non H', rt := Q } (start N vs) H) : Has P w K mg base x (k + 1) ps sp := by
  obtain ⟨f, fd, F, m, b⟩ := D
  refine ⟨f, fd, ?_, m, F.kp, b⟩
  obtain ⟨oc, od, kV, doc, pm, an, cdv, ct, osl, rfl, lk, hcd⟩ := F.ex
  refine fn_of lk hcd S len fun A outer s H vs Q E hr hsp => ?_
  obtain ⟨t, h, q⟩ := hbody f cdv A outer s H vs Q E (kdsCode_of hcd) hr hsp
  exact ⟨t, h.nox, q⟩
section
variable {P : Program} {w : World} {σ : L2.St} {H : Hp} {ta tb te : TE} {D : Ends} {tz : TS}
theorem ev_inK {p : Addr} {S : Key → Bool} {n : Nat} {x : Str} (ha : Ev ta σ H (.str x)) (hb : Ev tb σ H (.ref p)) (hp : H p = some (SetK P w p S n)) : Ev (tOp (rSInK P w false) ta tb) σ H (.bl (S (Sum.inr x))) :=
  ev_op ha hb (rv_val fun H1 e Q q => ⟨Sum.inr x, p, S, n, rfl, rfl, e _ _ hp, q⟩)
theorem q_set1 {i : Nat} {x : Str} (h : ∀ H1, Ev te σ H1 (.str x)) (k : ∀ p H1, H p = none → Ex H H1 → H1 p = some (SetK P w p (fun j => decide (j = Sum.inr x)) 1) → tz D (σ.set i (some (.ref p))) H1) : tSeq (tAsg (tSet1 P w te) (gName i)) tz D σ H := fun p hp =>
  h _ _ (Ex.refl _) _ fun H2 e2 => ⟨Sum.inr x, rfl, e2 _ _ upd_same, k p _ hp (Ex.mut ((Ex.new hp).trans e2) hp) upd_same⟩
theorem q_saddK {p : Addr} {S : Key → Bool} {n : Nat} {x : Str} (hp : H p = some (SetK P w p S n)) (hn : n < 1000) (h : Ev ta σ H (.ref p)) (hx : Ev te σ H (.str x))
    (k : ∀ H1, Ex H H1 → tz D σ (upd H1 p (SetK P w p (fun j => S j || decide (j = Sum.inr x)) (if S (Sum.inr x) = true then n else n + 1)))) : tSeq (tDrop (tSAddK P w ta (tCons te tNil))) tz D σ H :=
  h H (Ex.refl H) _ fun H1 e1 => ⟨⟨p, S, n, rfl, e1 _ _ hp⟩, hx H1 e1 _ fun H2 e2 => ⟨p, Sum.inr x, S, n, rfl, rfl, e2 _ _ (e1 _ _ hp), Nat.lt_of_le_of_lt (by omega : n + 1 ≤ 1000) (by decide), k H2 (e1.trans e2)⟩⟩
end
end BD
namespace BD
open PySem PySem.Spec PyProof.Rows L2 Evl
local macro_rules | `(tactic| walk_at "ev") => `(tactic| first
  | ((with_reducible apply ev_var) ; rfl)
  | with_reducible exact ev_c
  | ((with_reducible apply ev_I0) <;> walk_at "ev")
  | ((with_reducible apply ev_e9) <;> walk_at "ev")
  | ((with_reducible apply ev_I) <;> walk_at "ev")
  | ((with_reducible apply ev_eq) <;> walk_at "ev")
  | ((with_reducible apply ev_ne) <;> walk_at "ev")
  | ((with_reducible apply ev_neg) <;> walk_at "ev")
  | ((with_reducible apply ev_ixN) <;> walk_at "ev")
  | ((with_reducible apply ev_ixL) <;> walk_at "ev")
  | ((with_reducible apply ev_inN) <;> walk_at "ev")
  | ((with_reducible apply ev_inT) <;> walk_at "ev")
  | ((with_reducible apply ev_ixT) <;> walk_at "ev")
  | ((with_reducible apply ev_ixS) <;> walk_at "ev")
  | ((with_reducible apply ev_len') <;> walk_at "ev")
  | ((with_reducible apply et_test) <;> walk_at "ev")
  | ((with_reducible apply et_and) <;> walk_at "ev")
  | ((with_reducible apply et_or) <;> walk_at "ev")
  | ((with_reducible apply et_not) <;> walk_at "ev")
  | ((with_reducible apply et_B) <;> walk_at "ev")
  | ((with_reducible apply el_lst) <;> walk_at "ev")
  | ((with_reducible apply eu_tup) <;> walk_at "ev")
  | ((with_reducible apply ea_cons) <;> walk_at "ev")
  | with_reducible exact ea_nil
  | with_reducible assumption
  | ((with_reducible apply ex_l' ; assumption) ; walk_at "ex")
  | ((with_reducible apply ex_t' ; assumption) ; walk_at "ex")
  | (intro _ ; walk_at "ev")
  | (with_reducible first | exact atI_hd | exact at_kind | exact at2s | exact at3s | exact at3i)
  | (first | exact rfl | exact Nat.le_of_ble_eq_true rfl | exact ⟨by decide, by decide⟩ | decide | exact Or.inl ⟨by omega, by omega⟩ | exact Or.inr ⟨by omega, by omega⟩ | omega)
  | skip)
local macro_rules | `(tactic| walk_at "ex") => `(tactic| first
  | assumption
  | exact Ex.refl _
  | (refine' Ex.trans ?_ (by assumption) ; walk_at "ex"))
local macro_rules | `(tactic| walk_at "row") => `(tactic| first
  | (with_reducible exact er_nil)
  | ((with_reducible apply er_cons) <;> walk_at "row")
  | (((with_reducible apply er_var) ; rfl) ; walk_at "isrow")
  | (((with_reducible apply elr_var) ; rfl) ; walk_at "isrow")
  | ((with_reducible apply elr_cat) <;> walk_at "row")
  | ((with_reducible apply elr_lst) <;> walk_at "row")
  | ((with_reducible apply er_fin) <;> walk_at "ev")
  | ((with_reducible apply er_lendT) <;> walk_at "ev")
  | ((with_reducible apply er_lendW) <;> walk_at "ev")
  | ((with_reducible apply er_pick) <;> walk_at "ev")
  | ((with_reducible apply er_either) <;> walk_at "ev")
  | ((with_reducible apply er_or) <;> walk_at "ev")
  | ((with_reducible apply er_again) <;> walk_at "ev")
  | ((with_reducible apply er_back) <;> walk_at "ev")
  | ((with_reducible apply er_look) <;> walk_at "ev")
  | ((with_reducible apply er_change) <;> walk_at "ev")
  | exact Nat.le_of_ble_eq_true rfl
  | skip)
local macro_rules | `(tactic| walk_at "isrow") => `(tactic| first
  | assumption
  | (refine IsRow.up ?_ (by assumption) ; walk_at "ex")
  | (refine LRows.up ?_ (by assumption) ; walk_at "ex"))

local macro_rules | `(tactic| walk_at "ev") => `(tactic| (((with_reducible apply ev_tag) ; rfl) ; walk_at "isrow"))
abbrev s_picked : Stmt := topS 47
theorem sc_picked : FnScope ["row", "thing"] ["row", "thing"] (defScope s_picked) := ⟨rfl, rfl, rfl, by decide +kernel, rfl, by decide +kernel, by decide +kernel⟩
abbrev s_lent : Stmt := topS 48
theorem sc_lent : FnScope ["row", "held", "hand", "kind", "source", "word", "source_kind", "thing", "_", "out", "lender"] ["row", "held"] (defScope s_lent) := ⟨rfl, rfl, rfl, by decide +kernel, rfl, by decide +kernel, by decide +kernel⟩
abbrev s_given_back : Stmt := topS 49
theorem sc_given_back : FnScope ["held", "hand", "gone", "left", "word", "kind", "thing", "lender", "out"] ["held", "hand"] (defScope s_given_back) := ⟨rfl, rfl, rfl, by decide +kernel, rfl, by decide +kernel, by decide +kernel⟩
section
variable {K : PySem.W.Frag} {σ : L2.St} {H : Hp} {te ta tb : TE} {D : Ends} {tz : TS}
/-- t[1:] -/
theorem eu_sl1 {p : Addr} {x : V} {xs : List V} (h : Ev te σ H (.ref p)) (hp : H p = some (.tup (x :: xs))) : EvU (tSl (rSlA K) te (tPart (tC (.int 1))) tNoPart) σ H xs := fun H1 e Q q =>
  h H1 e _ fun H2 e2 => ⟨1, rfl, p, x :: xs, rfl, st_of (e2 _ _ (e _ _ hp)), fun z => by
      have h1 := z.1
      have h2 : HT.sIx (x :: xs).length 0 (some 1) = min 1 (x :: xs).length := HT.sIx_nat _ _ 1
      rw [h2, List.length_cons] at h1
      omega, fun z r hr => by
      have hc : cutV (x :: xs) (some 1) none = xs := by
        unfold cutV
        have h2 : HT.sIx (x :: xs).length 0 (some 1) = min 1 (x :: xs).length := HT.sIx_nat _ _ 1
        rw [h2, HT.sIx_none, List.length_cons, Nat.min_eq_left (by omega)]
        show List.take _ xs = xs
        exact List.take_of_length_le (by omega)
      rw [hc]
      exact q r _ (fresh_back e2 hr) (e2.trans (Ex.new hr)) upd_same⟩
theorem eu_tupleL {p : Addr} {xs : List V} (h : Ev te σ H (.ref p)) (hp : SqL K H p xs) : EvU (tCB (rTupS K) (tCons te tNil)) σ H xs := fun H1 e Q q =>
  h H1 e _ fun H2 e2 => ⟨p, xs, rfl, .inl ⟨ex_l (e.trans e2) hp, fun l hl => q l _ (fresh_back e2 hl) (e2.trans (Ex.new hl)) upd_same⟩⟩
/-- a, b, c = t -/
theorem q_un3 {xs : List V} {a b c : V} {i j k : Nat} (h : EvU te σ H [a, b, c]) (kk : ∀ H1, Ex H H1 → tz D (((σ.set i (some a)).set j (some b)).set k (some c)) H1) : tSeq (tAsg te (gTup K 3 (gCons (gName i) (gCons (gName j) (gCons (gName k) gNil))))) tz D σ H :=
  h H (Ex.refl H) _ fun p H1 _ e hp => ⟨p, _, rfl, st_of hp, rfl, a, [b, c], rfl, b, [c], rfl, c, [], rfl, rfl, kk H1 e⟩
/-- at, held = standing -/
theorem q_unS {x : V} {n : Int} {es : List Ent} {i j : Nat} (h : Ev te σ H x) (hx : AStand n es x H) (kk : ∀ v H1, Ex H H1 → AHeld es v H1 → tz D ((σ.set i (some (.int n))).set j (some v)) H1) : tSeq (tAsg te (gTup K 2 (gCons (gName i) (gCons (gName j) gNil)))) tz D σ H :=
  h H (Ex.refl H) _ fun H1 e => by
    obtain ⟨p, q, vs, rfl, h1, h2, h3⟩ := hx
    exact ⟨p, _, rfl, st_of (e _ _ h1), rfl, .int n, [.ref q], rfl, .ref q, [], rfl, rfl, kk _ H1 e ⟨q, vs, rfl, e _ _ h2, h3.up e⟩⟩
/-- for w, k, t, s, o in held -/
theorem g_ent {x : V} {e : Ent} {a b c d f : Nat} {Q : L2.St → Hp → Prop} (hx : IsEnt H x e) (k : Q (((((σ.set a (some (.str e.w))).set b (some (.str e.k))).set c (some (.int e.t))).set d (some (.str e.s))).set f (some (.bl e.o))) H) :
    gTup K 5 (gCons (gName a) (gCons (gName b) (gCons (gName c) (gCons (gName d) (gCons (gName f) gNil))))) x σ H Q := by
  obtain ⟨p, rfl, hp⟩ := hx
  exact ⟨p, _, rfl, st_of hp, rfl, _, _, rfl, _, _, rfl, _, _, rfl, _, _, rfl, _, _, rfl, rfl, k⟩
end
section
variable {P : Program} {w : World} {K : PySem.W.Frag} {mg : Str → Option Value} {base : Heap}
def spPicked : Sp := fun vs H Q _ => ∃ (y : V) (t : Int) (u : Str) (ts : List Int), vs = [y, .int t] ∧ IsRow H y (.pick u ts) ∧ Ret (fun v H2 => IsEnt H2 v ⟨u, "pick", t, "", true⟩) H Q
theorem ok_picked (D : Dn K mg "picked" s_picked ["row", "thing"]) : Has P w K mg base "picked" 1 ["row", "thing"] spPicked := by
  refine D.ok sc_picked (fun vs H Q E h => ?_) (fun f cdv A outer st H vs Q E hr h => ?_)
  · obtain ⟨y, t, u, ts, rfl, _⟩ := h
    rfl
  · obtain ⟨y, t, u, ts, rfl, hy, q⟩ := h
    obtain ⟨p, r, rfl, h1, h2⟩ := hy
    refine ⟨_, (pss_one (ps_ret (pe_tup (pa_cons (pe_ix (show IxR _ (rIxT K) from ix_tup) (pv 0) pe_int (fun _ _ => rfl)) (pa_cons pe_str (pa_cons (pv 1) (pa_cons pe_str (pa_cons pe_bl pa_nil)))))))), ?_⟩
    show (_ : L2.TS) _ [_, _] _
    refine s_retP (ep_ent5 ?_) (fun v H1 e1 hv => q v H1 e1 hv)
    have hT : SqT K H p [.str "pick", .str u, .ref r] := st_of h1
    exact ea_cons (ev_ixT (ev_var rfl) hT ev_c (atI_nat (j := 1) rfl)) (ea_cons ev_c (ea_cons (ev_var rfl) (ea_cons ev_c (ea_cons ev_c ea_nil))))
def spPLent (K : PySem.W.Frag) : Sp := fun vs H Q _ => ∃ (y x : V) (es : List Ent) (h k : Str) (s : Src), vs = [y, x] ∧ AHeld es x H ∧ IsRow H y (.lend h k s) ∧ (∀ u, s = .word u → ∃ e ∈ es, e.w = u) ∧ es.length ≤ 1000 ∧ Ret (fun v H2 => IsEnt H2 v (lentE es h k s)) H Q
theorem ok_plent (D : Dn K mg "lent" s_lent ["row", "held"]) : Has P w K mg base "lent" 1 ["row", "held"] (spPLent K) := by
  refine D.ok sc_lent (fun vs H Q E h => ?_) (fun f cdv A outer st H vs Q E hr h => ?_)
  · obtain ⟨y, x, es, h, k, s, rfl, _⟩ := h
    rfl
  · obtain ⟨y, x, es, h, k, s, rfl, hx, hy, hmt, hlen, q⟩ := h
    obtain ⟨p, hv, rfl, hp, hE⟩ := hx
    obtain ⟨py, rfl, hpy⟩ := hy
    have hle := hE.len
    refine ⟨_, (pss_cons (ps_asg (pe_slice sl_tupA (pv 0) (po_some pe_int) po_none) (pg_tup rfl (pgs_cons (pg_name (i := 2) sc_lent.nd rfl (Or.inl rfl)) (pgs_cons (pg_name (i := 3) sc_lent.nd rfl (Or.inl rfl)) (pgs_cons (pg_name (i := 4) sc_lent.nd rfl (Or.inl rfl)) pgs_nil))))) (pss_cons (ps_for PassesOwn.never rfl (pi_tup (pv 1)) (pg_tup rfl (pgs_cons (pg_name (i := 5) sc_lent.nd rfl (Or.inl rfl)) (pgs_cons (pg_name (i := 6) sc_lent.nd rfl (Or.inl rfl)) (pgs_cons (pg_name (i := 7) sc_lent.nd rfl (Or.inl rfl)) (pgs_cons (pg_name (i := 8) sc_lent.nd rfl (Or.inl rfl)) (pgs_cons (pg_name (i := 9) sc_lent.nd rfl (Or.inl rfl)) pgs_nil)))))) (pss_one (ps_if (pt_cmpR op_eq (pv 5) (pv 4) (nomark _)) (pss_cons (ps_set (i := 10) sc_lent.nd rfl (Or.inl rfl) (pe_ifExp (pt_cmpR op_eq (pv 6) pe_str (nomark _)) pe_str (pv 5))) (pss_one (ps_ret (pe_tup (pa_cons (pv 2) (pa_cons (pv 3) (pa_cons (pv 7) (pa_cons (pv 10) (pa_cons (pv 9) pa_nil))))))))) pss_nil))) (pss_one (ps_ret (pe_tup (pa_cons (pv 2) (pa_cons (pv 3) (pa_cons (pv 4) (pa_cons pe_str (pa_cons pe_bl pa_nil)))))))))), ?_⟩
    show (_ : L2.TS) _ [_, _, _, _, _, _, _, _, _, _, _] _
    refine q_un3 (xs := []) (eu_sl1 (ev_var rfl) hpy) (fun H1 e1 => ?_)
    show (_ : L2.TS) _ [_, _, _, _, _, _, _, _, _, _, _] _
    refine q_forT (K := K) (a := p) (xs := hv) (ev_var rfl) (ex_t e1 (st_of hp)) (fun i σ' H' => Ex H H' ∧ (∀ e ∈ es.take i, V.str e.w ≠ s.v) ∧ ∃ a b c d f g, σ' = [some (.ref py), some (.ref p), some (.str h), some (.str k), some s.v, a, b, c, d, f, g]) ?_ (fun i σ' H' _ h => ex_t h.1 (st_of hp)) ?_ ?_
    · intro H2 e2
      exact ⟨e1.trans e2, (fun e he => by cases he), none, none, none, none, none, none, rfl⟩
    · rintro i x σ' H' hi ⟨eH, hno, a, b, c, d, f, g, rfl⟩
      obtain ⟨e, he, hX⟩ := hE.at hi
      refine g_ent (hX.up eH) ?_
      dsimp only [List.set]
      refine s_when (b := decide (V.str e.w = s.v)) ?_ (fun hb H2 e2 => ?_) (fun hb H2 e2 => ?_)
      · refine et_test (ev_eq (ev_var rfl) (ev_var rfl) ?_)
        cases s <;> rfl
      · have hb := of_decide_eq_true hb
        cases s with
        | thing n => cases hb
        | word u =>
          have hw : e.w = u := V.str.inj hb
          have hlk : lookE es u = some e := by
            unfold lookE
            have hil := (List.getElem?_eq_some_iff.mp he).1
            rw [← List.take_append_drop i es, List.find?_append]
            have h1 : (es.take i).find? (fun e => decide (e.w = u)) = none := List.find?_eq_none.mpr fun z hz => by
              have := hno z hz
              rw [decide_eq_false (fun y => this (by rw [y]; rfl))]
              decide
            rw [h1, List.drop_eq_getElem_cons hil, List.find?_cons]
            have h2 : es[i] = e := (List.getElem?_eq_some_iff.mp he).2
            rw [h2, decide_eq_true hw]
            rfl
          refine q_asg (v := .str (if e.k = "pick" then "" else e.w)) ?_ (fun H3 e3 => ?_)
          · refine ev_if (b := decide (e.k = ("pick" : Str))) (et_is (et_test (ev_eq (ev_var rfl) ev_c rfl)) (dec_str _ _)) (fun hk => ?_) (fun hk => ?_)
            · rw [if_pos (of_decide_eq_true hk)]
              exact ev_c
            · rw [if_neg (of_decide_eq_false hk)]
              exact ev_var rfl
          dsimp only [List.set]
          refine s_retP (ep_ent5 (w := h) (k := k) (t := e.t) (s := if e.k = "pick" then "" else e.w) (o := e.o) ?_) (fun v H4 e4 hv => q v H4 (eH.trans (e2.trans (e3.trans e4))) ?_)
          · exact ea_cons (ev_var rfl) (ea_cons (ev_var rfl) (ea_cons (ev_var rfl) (ea_cons (ev_var rfl) (ea_cons (ev_var rfl) ea_nil))))
          · unfold lentE
            dsimp only
            rw [hlk]
            exact hv
      · have hb := of_decide_eq_false hb
        refine ⟨eH.trans e2, fun z hz => ?_, _, _, _, _, _, _, rfl⟩
        rw [List.take_add_one, he] at hz
        rcases List.mem_append.mp hz with hz | hz
        · exact hno z hz
        · rcases List.mem_singleton.mp hz with rfl
          exact hb
    · rintro σ' H' ⟨eH, hno, a, b, c, d, f, g, rfl⟩
      rw [hle, List.take_length] at hno
      cases s with
      | word u =>
        obtain ⟨e, he, hw⟩ := hmt u rfl
        exact absurd (by rw [hw]; rfl) (hno e he)
      | thing n =>
        refine s_retP (ep_ent5 (w := h) (k := k) (t := n) (s := "") (o := true) ?_) (fun v H4 e4 hv => q v H4 (eH.trans e4) hv)
        exact ea_cons (ev_var rfl) (ea_cons (ev_var rfl) (ea_cons (ev_var rfl) (ea_cons ev_c (ea_cons ev_c ea_nil))))
def spGBack (K : PySem.W.Frag) : Sp := fun vs H Q _ => ∃ (x : V) (u : Str) (es : List Ent), vs = [x, .str u] ∧ AHeld es x H ∧ es.length ≤ 900 ∧ Ret (AHeld (backM u es)) H Q
theorem ok_gback (D : Dn K mg "given_back" s_given_back ["held", "hand"]) (T : Blt mg) : Has P w K mg base "given_back" 1 ["held", "hand"] (spGBack K) := by
  refine D.okC sc_given_back (fun vs H Q E h => ?_) (fun f cdv A outer st H vs Q E hcd hr h => ?_)
  · obtain ⟨x, u, es, rfl, _⟩ := h
    rfl
  · obtain ⟨x, u, es, rfl, hx, hlen, q⟩ := h
    obtain ⟨p, hv, rfl, hp, hE⟩ := hx
    have hle := hE.len
    refine ⟨_, (pss_cons (ps_set (i := 2) sc_given_back.nd rfl (Or.inl rfl) (pe_set1 hcd (pv 1))) (pss_cons (ps_set (i := 3) sc_given_back.nd rfl (Or.inl rfl) (pe_lst pa_nil)) (pss_cons (ps_for PassesOwn.never rfl (pi_tup (pv 0)) (pg_tup rfl (pgs_cons (pg_name (i := 4) sc_given_back.nd rfl (Or.inl rfl)) (pgs_cons (pg_name (i := 5) sc_given_back.nd rfl (Or.inl rfl)) (pgs_cons (pg_name (i := 6) sc_given_back.nd rfl (Or.inl rfl)) (pgs_cons (pg_name (i := 7) sc_given_back.nd rfl (Or.inl rfl)) (pgs_cons (pg_name (i := 8) sc_given_back.nd rfl (Or.inl rfl)) pgs_nil)))))) (pss_one (ps_if (PW.pt (pw_or (pt_cmpR or_sinK (pv 4) (pv 2) (by rfl)) (pw_or1 (pt_cmpR or_sinK (pv 7) (pv 2) (by rfl))))) (pss_cons (ps_expr (pe_saddK (pv 2) (pa_cons (pv 4) pa_nil))) (pss_one (ps_expr (pe_bm PySem.F.plainAttrs_list PySem.F.slot_list_append PySem.F.type_list_append mt_append (pv 3) (pa_cons (pe_tup (pa_cons (pv 4) (pa_cons (pv 5) (pa_cons (pv 6) (pa_cons (pv 7) (pa_cons pe_bl pa_nil)))))) pa_nil))))) (pss_one (ps_expr (pe_bm PySem.F.plainAttrs_list PySem.F.slot_list_append PySem.F.type_list_append mt_append (pv 3) (pa_cons (pe_tup (pa_cons (pv 4) (pa_cons (pv 5) (pa_cons (pv 6) (pa_cons (pv 7) (pa_cons (pv 8) pa_nil)))))) pa_nil))))))) (pss_one (ps_ret (pe_callTy (show CallR _ _ (rTupS K) from call_tuple_of) (by rfl) T.tuple_ (by decide +kernel) (pa_cons (pv 3) pa_nil))))))), ?_⟩
    show (_ : L2.TS) _ [_, _, _, _, _, _, _, _, _] _
    refine q_set1 (P := P) (w := w) (x := u) (fun H1 => ev_var rfl) (fun pg H1 hpg e1 h1 => ?_)
    show (_ : L2.TS) _ [_, _, _, _, _, _, _, _, _] _
    refine q_asgL (xs := []) (el_lst ea_nil (by decide)) (fun pl H2 hpl e2 h2 => ?_)
    show (_ : L2.TS) _ [_, _, _, _, _, _, _, _, _] _
    have hbl : H pl = none := fresh_back e1 hpl
    have ngl : pg ≠ pl := ne_of_none h1 hpl
    have hT2 : SqT K H2 p hv := ex_t (e1.trans e2) (st_of hp)
    refine q_forT (K := K) (a := p) (xs := hv) (ev_var rfl) hT2 (fun i σ' H' => Ex H H' ∧ (∃ (S : Key → Bool) (n : Nat), H' pg = some (SetK P w pg S n) ∧ n ≤ i + 1 ∧ ∀ z : Str, S (Sum.inr z) = decide (z ∈ (bkS u es i).1)) ∧ (∃ lv, H' pl = some (.lst lv) ∧ Ents H' lv (bkS u es i).2) ∧
      ∃ a b c d f, σ' = [some (.ref p), some (.str u), some (.ref pg), some (.ref pl), a, b, c, d, f]) ?_ (fun i σ' H' _ h => ex_t h.1 (st_of hp)) ?_ ?_
    · intro H3 e3
      refine ⟨e1.trans (e2.trans e3), ⟨_, 1, e3 _ _ (e2 _ _ h1), Nat.le_refl _, fun z => ?_⟩, ⟨[], e3 _ _ h2, .nil⟩, none, none, none, none, none, rfl⟩
      show decide ((Sum.inr z : Key) = Sum.inr u) = decide (z ∈ [u])
      by_cases hz : z = u
      · rw [hz, decide_eq_true rfl, decide_eq_true List.mem_cons_self]
      · rw [decide_eq_false (fun y => hz (Sum.inr.inj y)), decide_eq_false (fun y => hz (List.mem_singleton.mp y))]
    · rintro i x σ' H' hi ⟨eH, ⟨S, n, hS, hn, hSw⟩, ⟨lv, hl, hL⟩, a, b, c, d, f, rfl⟩
      obtain ⟨e, he, hX⟩ := hE.at hi
      have hil := (List.getElem?_eq_some_iff.mp he).1
      have hbl2 := (bkS_len u es i).2
      have hll := hL.len
      refine g_ent (hX.up eH) ?_
      dsimp only [List.set]
      have hbk := bkS_next (w := u) he
      refine s_if (b := decide (e.w ∈ (bkS u es i).1) || decide (e.s ∈ (bkS u es i).1)) ?_ (fun hb H3 e3 => ?_) (fun hb H3 e3 => ?_)
      · rw [← hSw, ← hSw]
        exact et_or (et_test (ev_inK (ev_var rfl) (ev_var rfl) hS)) (fun _ => et_test (ev_inK (ev_var rfl) (ev_var rfl) hS))
      · simp only [Bool.or_eq_true, decide_eq_true_eq] at hb
        rw [if_pos hb] at hbk
        refine q_saddK (P := P) (w := w) (p := pg) (S := S) (n := n) (x := e.w) (e3 _ _ hS) (by omega) (ev_var rfl) (ev_var rfl) (fun H4 e4 => ?_)
        have e04 := e3.trans e4
        have hl4 : (upd H4 pg (SetK P w pg (fun j => S j || decide (j = Sum.inr e.w)) (if S (Sum.inr e.w) = true then n else n + 1))) pl = some (.lst lv) := by rw [upd_ne ngl.symm]; exact e04 _ _ hl
        have hT4 : ExT H' (upd H4 pg (SetK P w pg (fun j => S j || decide (j = Sum.inr e.w)) (if S (Sum.inr e.w) = true then n else n + 1))) := fun z xs hz => by rw [upd_ne (ne_of hz hS (fun y => nomatch y))]; exact e04 _ _ hz
        have x4 : Ex H (upd H4 pg (SetK P w pg (fun j => S j || decide (j = Sum.inr e.w)) (if S (Sum.inr e.w) = true then n else n + 1))) := Ex.mut (eH.trans e04) hpg
        have hS4 : (upd H4 pg (SetK P w pg (fun j => S j || decide (j = Sum.inr e.w)) (if S (Sum.inr e.w) = true then n else n + 1))) pg = some (SetK P w pg (fun j => S j || decide (j = Sum.inr e.w)) (if S (Sum.inr e.w) = true then n else n + 1)) := upd_same
        generalize upd H4 pg (SetK P w pg (fun j => S j || decide (j = Sum.inr e.w)) (if S (Sum.inr e.w) = true then n else n + 1)) = G4 at *
        refine s_appU (l := pl) (xs := lv) (ys := [.str e.w, .str e.k, .int e.t, .str e.s, .bl false]) hl4 (ev_var rfl) ?_ (by omega) (fun pt H5 hpt e5 h5 => ?_)
        · exact eu_tup (ea_cons (ev_var rfl) (ea_cons (ev_var rfl) (ea_cons (ev_var rfl) (ea_cons (ev_var rfl) (ea_cons ev_c ea_nil))))) (Nat.le_of_ble_eq_true rfl)
        · dsimp only
          refine ⟨Ex.mut (x4.trans e5) hbl, ⟨fun j => S j || decide (j = Sum.inr e.w), if S (Sum.inr e.w) = true then n else n + 1, ?_, ?_, fun z => ?_⟩, ⟨_, upd_same, ?_⟩, _, _, _, _, _, rfl⟩
          · rw [upd_ne ngl]; exact e5 _ _ hS4
          · show (if S (Sum.inr e.w) = true then n else n + 1) ≤ i + 1 + 1
            split <;> omega
          · rw [hbk]
            show (S (Sum.inr z) || decide ((Sum.inr z : Key) = Sum.inr e.w)) = decide (z ∈ (bkS u es i).1 ++ [e.w])
            rw [hSw]
            by_cases h1 : z ∈ (bkS u es i).1
            · rw [decide_eq_true h1, decide_eq_true (List.mem_append_left _ h1)]
              rfl
            · rw [decide_eq_false h1]
              by_cases h2 : z = e.w
              · rw [h2, decide_eq_true rfl, decide_eq_true (List.mem_append_right _ List.mem_cons_self)]
                rfl
              · rw [decide_eq_false (fun y => h2 (Sum.inr.inj y)), decide_eq_false (fun y => (List.mem_append.mp y).elim h1 (fun y => h2 (List.mem_singleton.mp y)))]
                rfl
          · rw [hbk]
            have xt : ExT H5 (upd H5 pl (.lst (lv ++ [.ref pt]))) := ExT.lst (e5 _ _ hl4)
            exact Ents.append ((hL.upT (hT4.trans (ExT.of e5))).upT xt) (.cons ⟨pt, rfl, xt _ _ h5⟩ .nil)
      · simp only [Bool.or_eq_false_iff, decide_eq_false_iff_not] at hb
        rw [if_neg (fun z => z.elim hb.1 hb.2)] at hbk
        refine s_appU (l := pl) (xs := lv) (ys := e.vs) (e3 _ _ hl) (ev_var rfl) ?_ (by omega) (fun pt H5 hpt e5 h5 => ?_)
        · exact eu_tup (ea_cons (ev_var rfl) (ea_cons (ev_var rfl) (ea_cons (ev_var rfl) (ea_cons (ev_var rfl) (ea_cons (ev_var rfl) ea_nil))))) (Nat.le_of_ble_eq_true rfl)
        · dsimp only
          have e35 := e3.trans e5
          refine ⟨Ex.mut (eH.trans e35) hbl, ⟨S, n, ?_, by omega, fun z => ?_⟩, ⟨_, upd_same, ?_⟩, _, _, _, _, _, rfl⟩
          · rw [upd_ne ngl]; exact e35 _ _ hS
          · rw [hbk]; exact hSw z
          · rw [hbk]
            have xt : ExT H5 (upd H5 pl (.lst (lv ++ [.ref pt]))) := ExT.lst (e35 _ _ hl)
            exact Ents.append ((hL.up e35).upT xt) (.cons ⟨pt, rfl, xt _ _ h5⟩ .nil)
    · rintro σ' H' ⟨eH, _, ⟨lv, hl, hL⟩, a, b, c, d, f, rfl⟩
      rw [hle] at hL
      refine s_retU (eu_tupleL (ev_var rfl) (sq_of hl)) (fun pz H2 hpz e2 h2 => q _ H2 (eH.trans e2) ⟨pz, lv, rfl, h2, hL.up e2⟩)
end
end BD
namespace BD
open PySem PySem.Spec PyProof.Rows L2 Evl
local macro_rules | `(tactic| walk_at "ev") => `(tactic| first
  | ((with_reducible apply ev_var) ; rfl)
  | with_reducible exact ev_c
  | ((with_reducible apply ev_I0) <;> walk_at "ev")
  | ((with_reducible apply ev_e9) <;> walk_at "ev")
  | ((with_reducible apply ev_I) <;> walk_at "ev")
  | ((with_reducible apply ev_eq) <;> walk_at "ev")
  | ((with_reducible apply ev_ne) <;> walk_at "ev")
  | ((with_reducible apply ev_neg) <;> walk_at "ev")
  | ((with_reducible apply ev_ixN) <;> walk_at "ev")
  | ((with_reducible apply ev_ixL) <;> walk_at "ev")
  | ((with_reducible apply ev_inN) <;> walk_at "ev")
  | ((with_reducible apply ev_inT) <;> walk_at "ev")
  | ((with_reducible apply ev_ixT) <;> walk_at "ev")
  | ((with_reducible apply ev_ixS) <;> walk_at "ev")
  | ((with_reducible apply ev_len') <;> walk_at "ev")
  | ((with_reducible apply et_test) <;> walk_at "ev")
  | ((with_reducible apply et_and) <;> walk_at "ev")
  | ((with_reducible apply et_or) <;> walk_at "ev")
  | ((with_reducible apply et_not) <;> walk_at "ev")
  | ((with_reducible apply et_B) <;> walk_at "ev")
  | ((with_reducible apply el_lst) <;> walk_at "ev")
  | ((with_reducible apply eu_tup) <;> walk_at "ev")
  | ((with_reducible apply ea_cons) <;> walk_at "ev")
  | with_reducible exact ea_nil
  | with_reducible assumption
  | ((with_reducible apply ex_l' ; assumption) ; walk_at "ex")
  | ((with_reducible apply ex_t' ; assumption) ; walk_at "ex")
  | (intro _ ; walk_at "ev")
  | (with_reducible first | exact atI_hd | exact at_kind | exact at2s | exact at3s | exact at3i)
  | (first | exact rfl | exact Nat.le_of_ble_eq_true rfl | exact ⟨by decide, by decide⟩ | decide | exact Or.inl ⟨by omega, by omega⟩ | exact Or.inr ⟨by omega, by omega⟩ | omega)
  | skip)
local macro_rules | `(tactic| walk_at "ex") => `(tactic| first
  | assumption
  | exact Ex.refl _
  | (refine' Ex.trans ?_ (by assumption) ; walk_at "ex"))
local macro_rules | `(tactic| walk_at "row") => `(tactic| first
  | (with_reducible exact er_nil)
  | ((with_reducible apply er_cons) <;> walk_at "row")
  | (((with_reducible apply er_var) ; rfl) ; walk_at "isrow")
  | (((with_reducible apply elr_var) ; rfl) ; walk_at "isrow")
  | ((with_reducible apply elr_cat) <;> walk_at "row")
  | ((with_reducible apply elr_lst) <;> walk_at "row")
  | ((with_reducible apply er_fin) <;> walk_at "ev")
  | ((with_reducible apply er_lendT) <;> walk_at "ev")
  | ((with_reducible apply er_lendW) <;> walk_at "ev")
  | ((with_reducible apply er_pick) <;> walk_at "ev")
  | ((with_reducible apply er_either) <;> walk_at "ev")
  | ((with_reducible apply er_or) <;> walk_at "ev")
  | ((with_reducible apply er_again) <;> walk_at "ev")
  | ((with_reducible apply er_back) <;> walk_at "ev")
  | ((with_reducible apply er_look) <;> walk_at "ev")
  | ((with_reducible apply er_change) <;> walk_at "ev")
  | exact Nat.le_of_ble_eq_true rfl
  | skip)
local macro_rules | `(tactic| walk_at "isrow") => `(tactic| first
  | assumption
  | (refine IsRow.up ?_ (by assumption) ; walk_at "ex")
  | (refine LRows.up ?_ (by assumption) ; walk_at "ex"))

local macro_rules | `(tactic| walk_at "ev") => `(tactic| (((with_reducible apply ev_tag) ; rfl) ; walk_at "isrow"))
abbrev s_ended : Stmt := topS 50
theorem sc_ended : FnScope ["rows", "blocks", "standing", "at", "held", "home"] ["rows", "blocks", "standing"] (defScope s_ended) := ⟨rfl, rfl, rfl, by decide +kernel, rfl, by decide +kernel, by decide +kernel⟩
abbrev s_onward : Stmt := topS 51
theorem sc_onward : FnScope ["rows", "blocks", "standing", "at", "held", "row", "thing", "first"] ["rows", "blocks", "standing"] (defScope s_onward) := ⟨rfl, rfl, rfl, by decide +kernel, rfl, by decide +kernel, by decide +kernel⟩
/-! ### where a run may go on -/
def onM (rs : List Rw) (i : Nat) (es : List Ent) : List (Int × List Ent) := match rs[i]? with
  | some (.lend h k s) => [((i : Int) + 1, es ++ [lentE es h k s])]
  | some (.pick w ts) => ts.map fun t => ((i : Int) + 1, es ++ [⟨w, "pick", t, "", true⟩])
  | some .either => (brI rs i rs.length).map fun b => (b, es)
  | some .or => [(endUp rs (hm rs i).toNat rs.length, es)]
  | some .again => [(endUp rs i rs.length + 1, es), ((i : Int) + 1, es)]
  | some .fin => [if (rs.getD (hm rs i).toNat .fin).isAgain = true then (hm rs i, es) else if (rs.getD (hm rs i).toNat .fin).isEither = true then ((i : Int) + 1, es) else ((i : Int) + 1, es.dropLast)]
  | some (.back h) => [((i : Int) + 1, backM h es)]
  | _ => [((i : Int) + 1, es)]
theorem onM_len {rs : List Rw} {i : Nat} {es : List Ent} {r : Rw} (h : rs[i]? = some r) (ok : StepOk rs i es) : 0 < (onM rs i es).length := by
  unfold onM
  rw [h]
  cases r with
  | pick w ts => show 0 < (ts.map _).length; rw [List.length_map]; exact ok.pick w ts h
  | _ => exact Nat.succ_pos _
theorem onM_go {rs : List Rw} {i : Nat} {es : List Ent} {r : Rw} (h : rs[i]? = some r) (ok : StepOk rs i es) (c : Int) : (onM rs i es).getD (c % ((onM rs i es).length : Int)).toNat (0, []) = goM rs i es c := by
  have one : ∀ x : Int × List Ent, [x].getD (c % (([x] : List (Int × List Ent)).length : Int)).toNat (0, []) = x := fun x => by
    show [x].getD (c % (1 : Int)).toNat (0, []) = x
    rw [Int.emod_one]
    rfl
  have many : ∀ (ts : List Int) (f : Int → Int × List Ent), 0 < ts.length → (ts.map f).getD (c % ((ts.map f).length : Int)).toNat (0, []) = f (ts.getD (c % (ts.length : Int)).toNat 0) := fun ts f h0 => by
    rw [List.length_map]
    have h1 := Int.emod_nonneg c (show ((ts.length : Nat) : Int) ≠ 0 by omega)
    have h2 := Int.emod_lt_of_pos c (show (0 : Int) < ((ts.length : Nat) : Int) by omega)
    have h3 : (c % (ts.length : Int)).toNat < ts.length := by omega
    rw [List.getD_eq_getElem?_getD, List.getD_eq_getElem?_getD, List.getElem?_map, List.getElem?_eq_getElem h3]
    rfl
  unfold onM goM
  rw [h]
  cases r with
  | lend a b d => exact one _
  | pick w ts => exact many ts _ (ok.pick w ts h)
  | either => exact many _ _ (Nat.succ_pos _)
  | or => exact one _
  | again =>
    show [(endUp rs i rs.length + 1, es), ((i : Int) + 1, es)].getD (c % (2 : Int)).toNat (0, []) = if c % 2 = 0 then _ else _
    by_cases hc : c % 2 = 0
    · rw [if_pos hc, hc]
      rfl
    · rw [if_neg hc, show c % 2 = 1 by omega]
      rfl
  | fin => exact one _
  | back a => exact one _
  | look a => exact one _
  | change a => exact one _
theorem onM_ways {rs : List Rw} {i : Nat} {es : List Ent} {r : Rw} (h : rs[i]? = some r) : ((onM rs i es).length : Int) = (match rs[i]? with
  | some (.pick _ ts) => (ts.length : Int)
  | some .either => ((brI rs i rs.length).length : Int)
  | some .again => 2
  | _ => 1) := by
  unfold onM
  rw [h]
  cases r with
  | pick w ts => show ((ts.map _).length : Int) = _; rw [List.length_map]
  | either => show (((brI rs i rs.length).map _).length : Int) = _; rw [List.length_map]
  | _ => rfl
def StdsI (H : Hp) (vs : List V) (sts : List (Int × List Ent)) : Prop := Paired (fun x (st : Int × List Ent) => AStand st.1 st.2 x H) vs sts
theorem StdsI.upT {H H' : Hp} (e : ExT H H') : ∀ {vs : List V} {sts : List (Int × List Ent)}, StdsI H vs sts → StdsI H' vs sts
  | _, _, .nil => .nil
  | _, _, .cons r t => .cons (AStand.upT e r) (StdsI.upT e t)
theorem StdsI.up {H H' : Hp} (e : Ex H H') {vs : List V} {sts : List (Int × List Ent)} (h : StdsI H vs sts) : StdsI H' vs sts := h.upT (ExT.of e)
theorem StdsI.len {H : Hp} {vs : List V} {sts : List (Int × List Ent)} (h : StdsI H vs sts) : vs.length = sts.length := Paired.length h
theorem StdsI.get {H : Hp} : ∀ {vs : List V} {sts : List (Int × List Ent)} {i : Nat}, StdsI H vs sts → i < sts.length → ∃ x, vs[i]? = some x ∧ AStand (sts.getD i (0, [])).1 (sts.getD i (0, [])).2 x H
  | _, _, _, .nil, h => absurd h (Nat.not_lt_zero _)
  | _, _, 0, .cons r _, _ => ⟨_, rfl, r⟩
  | _, _, i + 1, .cons _ t, h => by
    obtain ⟨x, h1, h2⟩ := StdsI.get (i := i) t (by simpa using h)
    exact ⟨x, by simpa using h1, by simpa using h2⟩
section
variable {K : PySem.W.Frag} {σ : L2.St} {H : Hp} {te ta tb tl : TE} {D : Ends} {tz : TS}
/-- [a], [a, b] -/
theorem epl_one {st : Int × List Ent} (h : EvP te σ H (AStand st.1 st.2)) : EvPL (tLst (tCons te tNil)) σ H (fun us H2 => StdsI H2 us [st]) := fun H1 e Q q =>
  h H1 e _ fun v H2 e2 hv => ⟨by show 1 ≤ sizeLine; decide, fun p hp => q p [v] _ (fresh_back e2 hp) (e2.trans (Ex.new hp)) upd_same (.cons (hv.up (Ex.new hp)) .nil)⟩
theorem epl_two {st su : Int × List Ent} (h : EvP ta σ H (AStand st.1 st.2)) (h2 : EvP tb σ H (AStand su.1 su.2)) : EvPL (tLst (tCons ta (tCons tb tNil))) σ H (fun us H2 => StdsI H2 us [st, su]) := fun H1 e Q q =>
  h H1 e _ fun v H2 e2 hv => h2 H2 (e.trans e2) _ fun u H3 e3 hu => ⟨by show 2 ≤ sizeLine; decide, fun p hp => q p [v, u] _ (fresh_back (e2.trans e3) hp) ((e2.trans e3).trans (Ex.new hp)) upd_same (.cons ((hv.up e3).up (Ex.new hp)) (.cons (hu.up (Ex.new hp)) .nil))⟩
theorem s_retPL {R : List V → Hp → Prop} (h : EvPL te σ H R) (k : ∀ p us H1, H p = none → Ex H H1 → H1 p = some (.lst us) → R us H1 → D.rt (.ref p) H1) : tRet te D σ H :=
  h H (Ex.refl H) _ fun p us H1 hp e h1 hr => k p us H1 hp e h1 hr
/-- [e for x in t], e a standing -/
theorem epl_mapS {a : Addr} {xs : List V} {j : Nat} {ws : List Nat} (g : Nat → Int × List Ent) (h : Ev tl σ H (.ref a)) (hx : SqT K H a xs) (hz : xs.length ≤ 40000) (hw : ∀ x, wipe ((wipe σ ws).set j (some x)) ws = wipe σ ws)
    (he : ∀ i x H1, Ex H H1 → xs[i]? = some x → EvP te ((wipe σ ws).set j (some x)) H1 (AStand (g i).1 (g i).2)) : EvPL (tLc (iTup K tl) (gName j) tYes te ws) σ H (fun us H2 => StdsI H2 us ((List.range xs.length).map g)) := fun H0 e Q q => h H0 e _ fun H1 e1 => ⟨a, rfl, ⟨xs, ex_t (e.trans e1) hx⟩, fun Dl hD =>
  lc_tup (K := K) (a := a) (xs := xs) (fun i H' => H1 Dl = none ∧ Ex H1 H' ∧ ∃ acc, H' Dl = some (.lst acc) ∧ StdsI H' acc ((List.range i).map g)) ⟨hD, Ex.new hD, [], upd_same, .nil⟩ (fun i H' _ p => ex_t ((e.trans e1).trans p.2.1) hx)
    (fun i x H' hi p => ⟨hw x, by
      obtain ⟨p1, p2, acc, p3, p4⟩ := p
      have hil : i < xs.length := (List.getElem?_eq_some_iff.mp hi).1
      have hal : acc.length = i := by rw [p4.len, List.length_map, List.length_range]
      show te ((wipe σ ws).set j (some x)) H' fun y H4 => ∃ acc, H4 Dl = some (.lst acc) ∧ acc.length < sizeLine ∧ (H1 Dl = none ∧ Ex H1 (upd H4 Dl (.lst (acc ++ [y]))) ∧ ∃ acc2, (upd H4 Dl (.lst (acc ++ [y]))) Dl = some (.lst acc2) ∧ StdsI (upd H4 Dl (.lst (acc ++ [y]))) acc2 ((List.range (i + 1)).map g))
      refine he i x H' ((e.trans e1).trans p2) hi H' (Ex.refl H') _ fun y H4 e4 hy => ⟨acc, e4 _ _ p3, sz_lt (by omega), p1, Ex.mut (p2.trans e4) p1, acc ++ [y], upd_same, ?_⟩
      have x4 : ExT H4 (upd H4 Dl (.lst (acc ++ [y]))) := ExT.lst (e4 _ _ p3)
      rw [List.range_succ, List.map_append]
      exact paired_app ((p4.up e4).upT x4) (.cons (AStand.upT x4 hy) .nil)⟩) (fun H' p => by
      obtain ⟨p1, p2, acc, p3, p4⟩ := p
      exact q Dl acc H' (fresh_back e1 p1) (e1.trans p2) p3 p4)⟩
theorem epl_mapSL {a : Addr} {xs : List V} {j : Nat} {ws : List Nat} (g : Nat → Int × List Ent) (h : Ev tl σ H (.ref a)) (hx : SqL K H a xs) (hz : xs.length ≤ 40000) (hw : ∀ x, wipe ((wipe σ ws).set j (some x)) ws = wipe σ ws)
    (he : ∀ i x H1, Ex H H1 → xs[i]? = some x → EvP te ((wipe σ ws).set j (some x)) H1 (AStand (g i).1 (g i).2)) : EvPL (tLc (iList K tl) (gName j) tYes te ws) σ H (fun us H2 => StdsI H2 us ((List.range xs.length).map g)) := fun H0 e Q q => h H0 e _ fun H1 e1 => ⟨a, rfl, ⟨xs, ex_l (e.trans e1) hx⟩, fun Dl hD =>
  lc_list (K := K) (a := a) (xs := xs) (fun i H' => H1 Dl = none ∧ Ex H1 H' ∧ ∃ acc, H' Dl = some (.lst acc) ∧ StdsI H' acc ((List.range i).map g)) ⟨hD, Ex.new hD, [], upd_same, .nil⟩ (fun i H' _ p => ex_l ((e.trans e1).trans p.2.1) hx)
    (fun i x H' hi p => ⟨hw x, by
      obtain ⟨p1, p2, acc, p3, p4⟩ := p
      have hil : i < xs.length := (List.getElem?_eq_some_iff.mp hi).1
      have hal : acc.length = i := by rw [p4.len, List.length_map, List.length_range]
      show te ((wipe σ ws).set j (some x)) H' fun y H4 => ∃ acc, H4 Dl = some (.lst acc) ∧ acc.length < sizeLine ∧ (H1 Dl = none ∧ Ex H1 (upd H4 Dl (.lst (acc ++ [y]))) ∧ ∃ acc2, (upd H4 Dl (.lst (acc ++ [y]))) Dl = some (.lst acc2) ∧ StdsI (upd H4 Dl (.lst (acc ++ [y]))) acc2 ((List.range (i + 1)).map g))
      refine he i x H' ((e.trans e1).trans p2) hi H' (Ex.refl H') _ fun y H4 e4 hy => ⟨acc, e4 _ _ p3, sz_lt (by omega), p1, Ex.mut (p2.trans e4) p1, acc ++ [y], upd_same, ?_⟩
      have x4 : ExT H4 (upd H4 Dl (.lst (acc ++ [y]))) := ExT.lst (e4 _ _ p3)
      rw [List.range_succ, List.map_append]
      exact paired_app ((p4.up e4).upT x4) (.cons (AStand.upT x4 hy) .nil)⟩) (fun H' p => by
      obtain ⟨p1, p2, acc, p3, p4⟩ := p
      exact q Dl acc H' (fresh_back e1 p1) (e1.trans p2) p3 p4)⟩
theorem map_getD {α : Type} (ts : List Int) (f : Int → α) : (List.range ts.length).map (fun k => f (ts.getD k 0)) = ts.map f := by
  refine List.ext_getElem? fun i => ?_
  rw [List.getElem?_map, List.getElem?_map]
  by_cases h : i < ts.length
  · rw [List.getElem?_range h, List.getElem?_eq_getElem h]
    show some (f (ts.getD i 0)) = some (f ts[i])
    rw [List.getD_eq_getElem?_getD, List.getElem?_eq_getElem h]
    rfl
  · rw [List.getElem?_eq_none (by rw [List.length_range]; omega), List.getElem?_eq_none (by omega)]
    rfl
/-- the blocks' lists, read -/
theorem ev_around {C : Addr} {rs : List Rw} {Hb : Hp} {x : V} {i : Nat} (B : BlkC K C) (h : Ev ta σ H x) (hx : ABlk C rs Hb x H) (hi : Ev tb σ H (.int (i : Int))) (hl : i < rs.length) : Ev (tOp (rIxL K) (tFld K ta "around") tb) σ H (.int (hm rs i)) := by
  obtain ⟨p, rfl, dx, pa, pc, pf, kvs, h1, h2, h3, h4, h6, h7, h5⟩ := hx
  exact ev_ixL (ev_fld h h1 B.cl B.nA (flds_a pa pc pf)) (sq_of h2) hi (atI_nat (homesV_at hl))
theorem endsV_at {rs : List Rw} {i : Nat} {r : Rw} (h : rs[i]? = some r) (ho : r.opens = true) (n : Nat) : (endsV rs n)[i]? = some (.int (endUp rs i n)) := by
  have hl := (List.getElem?_eq_some_iff.mp h).1
  unfold endsV
  rw [List.getElem?_map, List.getElem?_range hl]
  show some (V.int (if opAt rs i = true then _ else _)) = _
  rw [if_pos (show opAt rs i = true by unfold opAt; rw [h]; exact ho)]
theorem ev_closing {C : Addr} {rs : List Rw} {Hb : Hp} {x : V} {i : Nat} {r : Rw} (B : BlkC K C) (h : Ev ta σ H x) (hx : ABlk C rs Hb x H) (hi : Ev tb σ H (.int (i : Int))) (hr : rs[i]? = some r) (ho : r.opens = true) : Ev (tOp (rIxL K) (tFld K ta "closing") tb) σ H (.int (endUp rs i rs.length)) := by
  obtain ⟨p, rfl, dx, pa, pc, pf, kvs, h1, h2, h3, h4, h6, h7, h5⟩ := hx
  exact ev_ixL (ev_fld h h1 B.cl B.nC (flds_c pa pc pf)) (sq_of h3) hi (atI_nat (endsV_at hr ho _))
theorem ev_firsts {C : Addr} {rs : List Rw} {Hb : Hp} {x : V} {i : Nat} (B : BlkC K C) (h : Ev ta σ H x) (hx : ABlk C rs Hb x H) (hi : Ev tb σ H (.int (i : Int))) (hr : rs[i]? = some .either) : ∃ q, Ev (tDGet (tFld K ta "firsts") tb) σ H (.ref q) ∧ H q = some (.lst (brV rs i rs.length)) := by
  obtain ⟨p, rfl, dx, pa, pc, pf, kvs, h1, h2, h3, h4, h6, h7, h5⟩ := hx
  obtain ⟨q, q1, q2, _⟩ := h5 i hr
  exact ⟨q, ev_dget (ev_fld h h1 B.cl B.nF (flds_f pa pc pf)) h4 hi q1, q2⟩
end
section
variable {P : Program} {w : World} {K : PySem.W.Frag} {mg : Str → Option Value} {base : Heap} {C : Addr}
def spEnded (K : PySem.W.Frag) (C : Addr) : Sp := fun vs H Q _ => ∃ (a : Addr) (xb x : V) (rv : List V) (rs : List Rw) (i : Nat) (es : List Ent) (Hb : Hp), vs = [.ref a, xb, x] ∧ SqL K H a rv ∧ Rows H rv rs ∧ ABlk C rs Hb xb H ∧ AStand (i : Int) es x H ∧ Sheet rs ∧ rs[i]? = some .fin ∧ rs.length ≤ 40000 ∧
  Ret (AStand (goM rs i es 0).1 (goM rs i es 0).2) H Q
theorem ok_ended (D : Dn K mg "ended" s_ended ["rows", "blocks", "standing"]) (B : BlkC K C) {a_NAMERS : Addr} (g_NAMERS : mg "NAMERS" = some (.ref a_NAMERS)) (hNM : ∀ H, SqT K H a_NAMERS [.str "lend", .str "pick"]) : Has P w K mg base "ended" 1 ["rows", "blocks", "standing"] (spEnded K C) := by
  refine D.ok sc_ended (fun vs H Q E h => ?_) (fun f cdv A outer st H vs Q E hr h => ?_)
  · obtain ⟨a, xb, x, rv, rs, i, es, Hb, rfl, _⟩ := h
    rfl
  · obtain ⟨a, xb, x, rv, rs, i, es, Hb, rfl, hS, hR, hB, hx, sh, hr1, hlen, q⟩ := h
    have hil := (List.getElem?_eq_some_iff.mp hr1).1
    obtain ⟨b, z, hz, hzo, hh, he⟩ := end_at sh.g hr1 rfl
    have hgz : rs.getD (hm rs i).toNat .fin = z := by
      rw [hh, Int.toNat_natCast, List.getD_eq_getElem?_getD, hz]
      rfl
    have hgo : goM rs i es 0 = if z.isAgain = true then ((b : Int), es) else if z.isEither = true then ((i : Int) + 1, es) else ((i : Int) + 1, es.dropLast) := by
      unfold goM
      rw [hr1]
      dsimp only
      rw [hgz, hh]
    rw [hgo] at q
    refine ⟨_, (pss_cons (ps_asg (pv 2) (pg_tup rfl (pgs_cons (pg_name (i := 3) sc_ended.nd rfl (Or.inl rfl)) (pgs_cons (pg_name (i := 4) sc_ended.nd rfl (Or.inl rfl)) pgs_nil)))) (pss_cons (ps_set (i := 5) sc_ended.nd rfl (Or.inl rfl) (pe_ix (show IxR _ (rIxL K) from ix_list) (pe_fld (pv 1) rfl) (pv 3) (fun _ _ => rfl))) (pss_cons (ps_if (pt_cmpR op_eq (pe_ix (show IxR _ (rIxT K) from ix_tup) (pe_ix (show IxR _ (rIxL K) from ix_list) (pv 0) (pv 5) (fun _ _ => rfl)) pe_int (fun _ _ => rfl)) pe_str (nomark _)) (pss_one (ps_ret (pe_tup (pa_cons (pv 5) (pa_cons (pv 4) pa_nil))))) pss_nil) (pss_cons (ps_if (pt_cmpR (show OpR _ _ (rIn K false) from op_in_seq) (pe_ix (show IxR _ (rIxT K) from ix_tup) (pe_ix (show IxR _ (rIxL K) from ix_list) (pv 0) (pv 5) (fun _ _ => rfl)) pe_int (fun _ _ => rfl)) (pe_glob (v := .ref a_NAMERS) rfl g_NAMERS rfl) (by rfl)) (pss_one (ps_ret (pe_tup (pa_cons (pe_op op_add (pv 3) pe_int) (pa_cons (pe_slice sl_tupA (pv 4) po_none (po_some (pe_un un_neg pe_int))) pa_nil))))) pss_nil) (pss_one (ps_ret (pe_tup (pa_cons (pe_op op_add (pv 3) pe_int) (pa_cons (pv 4) pa_nil))))))))), ?_⟩
    show (_ : L2.TS) _ [_, _, _, _, _, _] _
    refine q_unS (ev_var rfl) hx (fun v H1 e1 hv => ?_)
    show (_ : L2.TS) _ [_, _, _, _, _, _] _
    refine q_asg (v := .int (b : Int)) (ev_is (ev_around B (ev_var rfl) (hB.up e1) (ev_var rfl) hil) (by rw [hh])) (fun H2 e2 => ?_)
    show (_ : L2.TS) _ [_, _, _, _, _, _] _
    have e02 := e1.trans e2
    obtain ⟨y, hy, hY⟩ := hR.get hz
    have hS2 := ex_l e02 hS
    have hY2 := hY.up e02
    have hv2 := hv.up e2
    have hix : atI rv (b : Int) = some y := atI_nat hy
    obtain ⟨py, ys, rfl, hpy⟩ := hY2.tup
    have hPy : SqT K H2 py (.str z.tag :: ys) := st_of hpy
    have htag : ∀ H3, Ex H2 H3 → Ev (tOp (rIxT K) (tOp (rIxL K) (tVar 0) (tVar 5)) (tC (.int 0))) [some (.ref a), some xb, some x, some (.int (i : Int)), some v, some (.int (b : Int))] H3 (.str z.tag) := fun H3 e3 =>
      ev_ixT (ev_ixL (ev_var rfl) (ex_l e3 hS2) (ev_var rfl) hix) (ex_t e3 hPy) ev_c atI_hd
    refine q_when (b := z.isAgain) ?_ (fun hb H3 e3 => ?_) (fun hb H3 e3 => ?_)
    · have tg : decide (V.str z.tag = V.str "again") = z.isAgain := by cases z <;> rfl
      rw [← tg]
      exact et_test (ev_eq (htag H2 (Ex.refl H2)) ev_c rfl)
    · rw [if_pos hb] at q
      exact s_retP (ep_stand (ev_var rfl) (ep_heldvar rfl (hv2.up e3))) (fun u H4 e4 hu => q u H4 (e02.trans (e3.trans e4)) hu)
    · rw [if_neg (by rw [hb]; decide)] at q
      refine q_when (b := z.named) ?_ (fun hn H4 e4 => ?_) (fun hn H4 e4 => ?_)
      · rw [← tag_named]
        exact et_test (ev_inT (htag H3 e3) ev_c (hNM H3) rfl rfl)
      · rw [if_neg (by cases z <;> first | (cases hn; done) | exact (fun y => nomatch y))] at q
        refine s_retP (ep_stand (i := (i : Int) + 1) (ev_I0 (ev_var rfl) ev_c) (ep_dropT (ep_heldvar rfl (hv2.up (e3.trans e4))) (eo_some ?_))) (fun u H5 e5 hu => q u H5 (e02.trans (e3.trans (e4.trans e5))) hu)
        walk_at "ev"
      · rw [if_pos (by cases z <;> first | (cases hn; done) | (cases hb; done) | (cases hzo; done) | rfl)] at q
        exact s_retP (ep_stand (i := (i : Int) + 1) (ev_I0 (ev_var rfl) ev_c) (ep_heldvar rfl (hv2.up (e3.trans e4)))) (fun u H5 e5 hu => q u H5 (e02.trans (e3.trans (e4.trans e5))) hu)
def spOnward (K : PySem.W.Frag) (C : Addr) : Sp := fun vs H Q _ => ∃ (a : Addr) (xb x : V) (rv : List V) (rs : List Rw) (i : Nat) (es : List Ent) (r : Rw) (Hb : Hp), vs = [.ref a, xb, x] ∧ SqL K H a rv ∧ Rows H rv rs ∧ ABlk C rs Hb xb H ∧ AStand (i : Int) es x H ∧ Sheet rs ∧ Std rs i es ∧ rs[i]? = some r ∧ rs.length ≤ 40000 ∧
  ∀ p us H2, H p = none → Ex H H2 → H2 p = some (.lst us) → StdsI H2 us (onM rs i es) → Q (.ref p) H2
theorem ok_onward (D : Dn K mg "onward" s_onward ["rows", "blocks", "standing"]) (B : BlkC K C) (h_lent : Has P w K mg base "lent" 1 ["row", "held"] (spPLent K)) (h_picked : Has P w K mg base "picked" 1 ["row", "thing"] spPicked) (h_given_back : Has P w K mg base "given_back" 1 ["held", "hand"] (spGBack K)) (h_ended : Has P w K mg base "ended" 1 ["rows", "blocks", "standing"] (spEnded K C)) : Has P w K mg base "onward" 2 ["rows", "blocks", "standing"] (spOnward K C) := by
  refine D.ok sc_onward (fun vs H Q E h => ?_) (fun f cdv A outer st H vs Q E hr h => ?_)
  · obtain ⟨a, xb, x, rv, rs, i, es, r, Hb, rfl, _⟩ := h
    rfl
  · obtain ⟨a, xb, x, rv, rs, i, es, r, Hb, rfl, hS, hR, hB, hx, sh, hst, hr1, hlen, q⟩ := h
    have hil := (List.getElem?_eq_some_iff.mp hr1).1
    have ok := hst.ok sh
    have hel := hst.len sh
    refine ⟨_, (pss_cons (ps_asg (pv 2) (pg_tup rfl (pgs_cons (pg_name (i := 3) sc_onward.nd rfl (Or.inr rfl)) (pgs_cons (pg_name (i := 4) sc_onward.nd rfl (Or.inr rfl)) pgs_nil)))) (pss_cons (ps_set (i := 5) sc_onward.nd rfl (Or.inr rfl) (pe_ix (show IxR _ (rIxL K) from ix_list) (pv 0) (pv 3) (fun _ _ => rfl))) (pss_cons (ps_if (pt_cmpR op_eq (pe_ix (show IxR _ (rIxT K) from ix_tup) (pv 5) pe_int (fun _ _ => rfl)) pe_str (nomark _)) (pss_one (ps_ret (pe_lst (pa_cons (pe_tup (pa_cons (pe_op op_add (pv 3) pe_int) (pa_cons (pe_op (show OpR _ _ (rCatA K) from op_catA) (pv 4) (pe_tup (pa_cons (pe_own h_lent (hr.mono (by decide)) (by rfl) (pa_cons (pv 5) (pa_cons (pv 4) pa_nil))) pa_nil))) pa_nil))) pa_nil)))) pss_nil) (pss_cons (ps_if (pt_cmpR op_eq (pe_ix (show IxR _ (rIxT K) from ix_tup) (pv 5) pe_int (fun _ _ => rfl)) pe_str (nomark _)) (pss_one (ps_ret (pe_lc (own := [("thing", 6)]) (g := (gName 6)) (tt := tYes) rfl sc_onward.nd (pi_tup (pe_ix (show IxR _ (rIxT K) from ix_tup) (pv 5) pe_int (fun _ _ => rfl))) (blkOk_by (own := [("thing", 6)]) (N := ["rows", "blocks", "standing", "at", "held", "row", "thing", "first"]) (sc := defScope s_onward) (by decide +kernel)) (fun _ _ _ _ _ => (pg_name (i := 6) sc_onward.nd rfl (Or.inl rfl))) (fun _ _ _ _ _ => pts_nil) (fun _ _ _ _ _ => (pe_tup (pa_cons (pe_op op_add (pv 3) pe_int) (pa_cons (pe_op (show OpR _ _ (rCatA K) from op_catA) (pv 4) (pe_tup (pa_cons (pe_own h_picked (hr.mono (by decide)) (by rfl) (pa_cons (pv 5) (pa_cons (pv 6) pa_nil))) pa_nil))) pa_nil))))))) pss_nil) (pss_cons (ps_if (pt_cmpR op_eq (pe_ix (show IxR _ (rIxT K) from ix_tup) (pv 5) pe_int (fun _ _ => rfl)) pe_str (nomark _)) (pss_one (ps_ret (pe_lc (own := [("first", 7)]) (g := (gName 7)) (tt := tYes) rfl sc_onward.nd (pi_list (pe_dget (hu_of hr) (pe_fld (pv 1) rfl) (pv 3) (fun _ _ => rfl))) (blkOk_by (own := [("first", 7)]) (N := ["rows", "blocks", "standing", "at", "held", "row", "thing", "first"]) (sc := defScope s_onward) (by decide +kernel)) (fun _ _ _ _ _ => (pg_name (i := 7) sc_onward.nd rfl (Or.inl rfl))) (fun _ _ _ _ _ => pts_nil) (fun _ _ _ _ _ => (pe_tup (pa_cons (pv 7) (pa_cons (pv 4) pa_nil))))))) pss_nil) (pss_cons (ps_if (pt_cmpR op_eq (pe_ix (show IxR _ (rIxT K) from ix_tup) (pv 5) pe_int (fun _ _ => rfl)) pe_str (nomark _)) (pss_one (ps_ret (pe_lst (pa_cons (pe_tup (pa_cons (pe_ix (show IxR _ (rIxL K) from ix_list) (pe_fld (pv 1) rfl) (pe_ix (show IxR _ (rIxL K) from ix_list) (pe_fld (pv 1) rfl) (pv 3) (fun _ _ => rfl)) (fun _ _ => rfl)) (pa_cons (pv 4) pa_nil))) pa_nil)))) pss_nil) (pss_cons (ps_if (pt_cmpR op_eq (pe_ix (show IxR _ (rIxT K) from ix_tup) (pv 5) pe_int (fun _ _ => rfl)) pe_str (nomark _)) (pss_one (ps_ret (pe_lst (pa_cons (pe_tup (pa_cons (pe_op op_add (pe_ix (show IxR _ (rIxL K) from ix_list) (pe_fld (pv 1) rfl) (pv 3) (fun _ _ => rfl)) pe_int) (pa_cons (pv 4) pa_nil))) (pa_cons (pe_tup (pa_cons (pe_op op_add (pv 3) pe_int) (pa_cons (pv 4) pa_nil))) pa_nil))))) pss_nil) (pss_cons (ps_if (pt_cmpR op_eq (pe_ix (show IxR _ (rIxT K) from ix_tup) (pv 5) pe_int (fun _ _ => rfl)) pe_str (nomark _)) (pss_one (ps_ret (pe_lst (pa_cons (pe_own h_ended (hr.mono (by decide)) (by rfl) (pa_cons (pv 0) (pa_cons (pv 1) (pa_cons (pv 2) pa_nil)))) pa_nil)))) pss_nil) (pss_cons (ps_if (pt_cmpR op_eq (pe_ix (show IxR _ (rIxT K) from ix_tup) (pv 5) pe_int (fun _ _ => rfl)) pe_str (nomark _)) (pss_one (ps_ret (pe_lst (pa_cons (pe_tup (pa_cons (pe_op op_add (pv 3) pe_int) (pa_cons (pe_own h_given_back (hr.mono (by decide)) (by rfl) (pa_cons (pv 4) (pa_cons (pe_ix (show IxR _ (rIxT K) from ix_tup) (pv 5) pe_int (fun _ _ => rfl)) pa_nil))) pa_nil))) pa_nil)))) pss_nil) (pss_one (ps_ret (pe_lst (pa_cons (pe_tup (pa_cons (pe_op op_add (pv 3) pe_int) (pa_cons (pv 4) pa_nil))) pa_nil))))))))))))), ?_⟩
    show (_ : L2.TS) _ [_, _, _, _, _, _, _, _] _
    refine q_unS (ev_var rfl) hx (fun v H1 e1 hv => ?_)
    show (_ : L2.TS) _ [_, _, _, _, _, _, _, _] _
    obtain ⟨y, hy, hY⟩ := hR.get hr1
    have hS1 := ex_l e1 hS
    have hix : atI rv (i : Int) = some y := atI_nat hy
    refine q_asg (v := y) (ev_ixL (ev_var rfl) hS1 (ev_var rfl) hix) (fun H2 e2 => ?_)
    show (_ : L2.TS) _ [_, _, _, _, _, _, _, _] _
    have e02 := e1.trans e2
    have hY2 := hY.up e02
    have hv2 := hv.up e2
    have hB2 := hB.up e02
    have hS2 := ex_l e02 hS
    have hR2 := hR.up e02
    have hx2 := hx.up e02
    unfold onM at q
    rw [hr1] at q
    -- the tests, one after the other
    have tagE : ∀ (s : Str) (b : Bool), decide (V.str r.tag = V.str s) = b → ∀ H3, Ex H2 H3 → EvT (tTest (tOp rEq (tOp (rIxT K) (tVar 5) (tC (.int 0))) (tC (.str s)))) [some (.ref a), some xb, some x, some (.int (i : Int)), some v, some y, none, none] H3 b := fun s b hb H3 e3 => by
      rw [← hb]
      exact et_test (ev_eq (ev_tag rfl (hY2.up e3)) ev_c rfl)
    cases r with
    | lend hh kk s =>
      refine q_when (b := true) (tagE _ _ (by rfl) H2 (Ex.refl _)) (fun _ H3 e3 => ?_) (fun hb => nomatch hb)
      refine s_retPL (epl_one (ep_stand (i := (i : Int) + 1) (ev_I0 (ev_var rfl) ev_c) (ep_catT (ep_heldvar rfl (hv2.up e3)) (ep_one (ep_call (sp := spPLent K) (vs := [y, v]) (ea_cons (ev_var rfl) (ea_cons (ev_var rfl) ea_nil)) (fun H4 e4 Q k E => ⟨y, v, es, hh, kk, s, rfl, hv2.up (e3.trans e4), hY2.up (e3.trans e4), (ok.lend hh kk s hr1).2, by omega, k⟩))) (by show es.length + 1 ≤ 100000; omega))))
        (fun p us H4 hp e4 h4 hU => q p us H4 (fresh_back (e02.trans e3) hp) (e02.trans (e3.trans e4)) h4 hU)
    | pick w' ts =>
      refine q_when (b := false) (tagE _ _ (by rfl) H2 (Ex.refl _)) (fun hb => nomatch hb) (fun _ H3 e3 => ?_)
      refine q_when (b := true) (tagE _ _ (by rfl) H3 e3) (fun _ H4 e4 => ?_) (fun hb => nomatch hb)
      have e24 := e3.trans e4
      obtain ⟨py, pt, rfl, hp1, hp2⟩ := id hY2
      have hPy : SqT K H4 py [.str "pick", .str w', .ref pt] := st_of (e24 _ _ hp1)
      have hPt : SqT K H4 pt (ts.map V.int) := st_of (e24 _ _ hp2)
      have htl : (ts.map V.int).length = ts.length := List.length_map ..
      have hok : RowS (.pick w' ts) := sh.s _ (List.mem_of_getElem? hr1)
      refine s_retPL (epl_mapS (fun k => ((i : Int) + 1, es ++ [(⟨w', "pick", ts.getD k 0, "", true⟩ : Ent)])) (ev_ixT (ev_var rfl) hPy ev_c (atI_nat (j := 2) rfl)) hPt (by have := hok.2.2.1; omega) (fun z => rfl) (fun k z H5 e5 hk => ?_))
        (fun p us H5 hp e5 h5 hU => q p us H5 (fresh_back (e02.trans e24) hp) (e02.trans (e24.trans e5)) h5 ?_)
      · have hkl : k < ts.length := by have := (List.getElem?_eq_some_iff.mp hk).1; omega
        have ez : z = .int (ts.getD k 0) := by
          rw [List.getElem?_map, List.getElem?_eq_getElem hkl] at hk
          rw [List.getD_eq_getElem?_getD, List.getElem?_eq_getElem hkl]
          exact (Option.some.inj hk).symm
        subst ez
        exact ep_stand (i := (i : Int) + 1) (ev_I0 (ev_var rfl) ev_c) (ep_catT (ep_heldvar rfl (hv2.up (e24.trans e5))) (ep_one (ep_call (sp := spPicked) (vs := [.ref py, .int (ts.getD k 0)]) (ea_cons (ev_var rfl) (ea_cons (ev_var rfl) ea_nil)) (fun H6 e6 Q kk E => ⟨.ref py, _, w', ts, rfl, hY2.up (e24.trans (e5.trans e6)), kk⟩))) (by show es.length + 1 ≤ 100000; omega))
      · rw [htl] at hU
        show StdsI H5 us (ts.map fun t => ((i : Int) + 1, es ++ [(⟨w', "pick", t, "", true⟩ : Ent)]))
        rw [← map_getD ts fun t => ((i : Int) + 1, es ++ [(⟨w', "pick", t, "", true⟩ : Ent)])]
        exact hU
    | either =>
      refine q_when (b := false) (tagE _ _ (by rfl) H2 (Ex.refl _)) (fun hb => nomatch hb) (fun _ H3 e3 => ?_)
      refine q_when (b := false) (tagE _ _ (by rfl) H3 e3) (fun hb => nomatch hb) (fun _ H4 e4 => ?_)
      have e24 := e3.trans e4
      refine q_when (b := true) (tagE _ _ (by rfl) H4 e24) (fun _ H5 e5 => ?_) (fun hb => nomatch hb)
      have e25 := e24.trans e5
      obtain ⟨pq, hq1, hq2⟩ := ev_firsts (K := K) (σ := wipe [some (.ref a), some xb, some x, some (.int (i : Int)), some v, some y, none, none] []) (ta := tVar 1) (tb := tVar 3) B (ev_var rfl) (hB2.up e25) (ev_var rfl) hr1
      rw [brV_I] at hq2
      have hql : ((brI rs i rs.length).map V.int).length = (brI rs i rs.length).length := List.length_map ..
      have hbl : (brI rs i rs.length).length ≤ 40000 := by
        unfold brI
        rw [List.length_cons, List.length_map]
        have h1 : ((List.range rs.length).filter (orF rs i)).length ≤ rs.length - 1 := by
          have h2 : rs.length = (i + 1) + (rs.length - (i + 1)) := by omega
          rw [h2, List.range_add, List.filter_append, List.length_append]
          have h3 : (List.range (i + 1)).filter (orF rs i) = [] := List.filter_eq_nil_iff.mpr fun p hp => by
            have := List.mem_range.mp hp
            rw [orF_low (by omega)]
            decide
          rw [h3]
          have h4 := List.length_filter_le (orF rs i) ((List.range (rs.length - (i + 1))).map fun x => i + 1 + x)
          rw [List.length_map, List.length_range] at h4
          show 0 + _ ≤ _
          omega
        omega
      refine s_retPL (epl_mapSL (fun k => ((brI rs i rs.length).getD k 0, es)) hq1 (sq_of hq2) (by rw [hql]; omega) (fun z => rfl) (fun k z H6 e6 hk => ?_))
        (fun p us H6 hp e6 h6 hU => q p us H6 (fresh_back (e02.trans e25) hp) (e02.trans (e25.trans e6)) h6 ?_)
      · have hkl : k < (brI rs i rs.length).length := by have := (List.getElem?_eq_some_iff.mp hk).1; omega
        have ez : z = .int ((brI rs i rs.length).getD k 0) := by
          rw [List.getElem?_map, List.getElem?_eq_getElem hkl] at hk
          rw [List.getD_eq_getElem?_getD, List.getElem?_eq_getElem hkl]
          exact (Option.some.inj hk).symm
        subst ez
        exact ep_stand (ev_var rfl) (ep_heldvar rfl (hv2.up (e25.trans e6)))
      · rw [hql] at hU
        show StdsI H6 us ((brI rs i rs.length).map fun b => (b, es))
        rw [← map_getD (brI rs i rs.length) fun b => (b, es)]
        exact hU
    | or =>
      refine q_when (b := false) (tagE _ _ (by rfl) H2 (Ex.refl _)) (fun hb => nomatch hb) (fun _ H3 e3 => ?_)
      refine q_when (b := false) (tagE _ _ (by rfl) H3 e3) (fun hb => nomatch hb) (fun _ H4 e4 => ?_)
      have e24 := e3.trans e4
      refine q_when (b := false) (tagE _ _ (by rfl) H4 e24) (fun hb => nomatch hb) (fun _ H5 e5 => ?_)
      have e25 := e24.trans e5
      refine q_when (b := true) (tagE _ _ (by rfl) H5 e25) (fun _ H6 e6 => ?_) (fun hb => nomatch hb)
      have e26 := e25.trans e6
      obtain ⟨b, hb1, hb2, hb3⟩ := or_home sh hr1
      dsimp only at q
      rw [hb1, Int.toNat_natCast] at q
      refine s_retPL (epl_one (st := (endUp rs b rs.length, es)) (ep_stand (ev_closing B (ev_var rfl) (hB2.up e26) (ev_is (ev_around B (ev_var rfl) (hB2.up e26) (ev_var rfl) hil) (by rw [hb1])) hb3 rfl) (ep_heldvar rfl (hv2.up e26))))
        (fun p us H7 hp e7 h7 hU => q p us H7 (fresh_back (e02.trans e26) hp) (e02.trans (e26.trans e7)) h7 hU)
    | again =>
      refine q_when (b := false) (tagE _ _ (by rfl) H2 (Ex.refl _)) (fun hb => nomatch hb) (fun _ H3 e3 => ?_)
      refine q_when (b := false) (tagE _ _ (by rfl) H3 e3) (fun hb => nomatch hb) (fun _ H4 e4 => ?_)
      have e24 := e3.trans e4
      refine q_when (b := false) (tagE _ _ (by rfl) H4 e24) (fun hb => nomatch hb) (fun _ H5 e5 => ?_)
      have e25 := e24.trans e5
      refine q_when (b := false) (tagE _ _ (by rfl) H5 e25) (fun hb => nomatch hb) (fun _ H6 e6 => ?_)
      have e26 := e25.trans e6
      refine q_when (b := true) (tagE _ _ (by rfl) H6 e26) (fun _ H7 e7 => ?_) (fun hb => nomatch hb)
      have e27 := e26.trans e7
      refine s_retPL (epl_two (st := (endUp rs i rs.length + 1, es)) (su := ((i : Int) + 1, es)) (ep_stand (ev_I0 (ev_closing B (ev_var rfl) (hB2.up e27) (ev_var rfl) hr1 rfl) ev_c) (ep_heldvar rfl (hv2.up e27))) (ep_stand (ev_I0 (ev_var rfl) ev_c) (ep_heldvar rfl (hv2.up e27))))
        (fun p us H8 hp e8 h8 hU => q p us H8 (fresh_back (e02.trans e27) hp) (e02.trans (e27.trans e8)) h8 hU)
    | fin =>
      refine q_when (b := false) (tagE _ _ (by rfl) H2 (Ex.refl _)) (fun hb => nomatch hb) (fun _ H3 e3 => ?_)
      refine q_when (b := false) (tagE _ _ (by rfl) H3 e3) (fun hb => nomatch hb) (fun _ H4 e4 => ?_)
      have e24 := e3.trans e4
      refine q_when (b := false) (tagE _ _ (by rfl) H4 e24) (fun hb => nomatch hb) (fun _ H5 e5 => ?_)
      have e25 := e24.trans e5
      refine q_when (b := false) (tagE _ _ (by rfl) H5 e25) (fun hb => nomatch hb) (fun _ H6 e6 => ?_)
      have e26 := e25.trans e6
      refine q_when (b := false) (tagE _ _ (by rfl) H6 e26) (fun hb => nomatch hb) (fun _ H7 e7 => ?_)
      have e27 := e26.trans e7
      refine q_when (b := true) (tagE _ _ (by rfl) H7 e27) (fun _ H8 e8 => ?_) (fun hb => nomatch hb)
      have e28 := e27.trans e8
      refine s_retPL (epl_one (st := goM rs i es 0) (ep_call (sp := spEnded K C) (vs := [.ref a, xb, x]) (ea_cons (ev_var rfl) (ea_cons (ev_var rfl) (ea_cons (ev_var rfl) ea_nil))) (fun H9 e9 Q k E => ⟨a, xb, x, rv, rs, i, es, Hb, rfl, ex_l (e28.trans e9) hS2, hR2.up (e28.trans e9), hB2.up (e28.trans e9), hx2.up (e28.trans e9), sh, hr1, hlen, k⟩)))
        (fun p us H9 hp e9 h9 hU => q p us H9 (fresh_back (e02.trans e28) hp) (e02.trans (e28.trans e9)) h9 ?_)
      have hgo : goM rs i es 0 = (if (rs.getD (hm rs i).toNat .fin).isAgain = true then (hm rs i, es) else if (rs.getD (hm rs i).toNat .fin).isEither = true then ((i : Int) + 1, es) else ((i : Int) + 1, es.dropLast)) := by
        unfold goM
        rw [hr1]
      rw [hgo] at hU
      exact hU
    | back hh =>
      refine q_when (b := false) (tagE _ _ (by rfl) H2 (Ex.refl _)) (fun hb => nomatch hb) (fun _ H3 e3 => ?_)
      refine q_when (b := false) (tagE _ _ (by rfl) H3 e3) (fun hb => nomatch hb) (fun _ H4 e4 => ?_)
      have e24 := e3.trans e4
      refine q_when (b := false) (tagE _ _ (by rfl) H4 e24) (fun hb => nomatch hb) (fun _ H5 e5 => ?_)
      have e25 := e24.trans e5
      refine q_when (b := false) (tagE _ _ (by rfl) H5 e25) (fun hb => nomatch hb) (fun _ H6 e6 => ?_)
      have e26 := e25.trans e6
      refine q_when (b := false) (tagE _ _ (by rfl) H6 e26) (fun hb => nomatch hb) (fun _ H7 e7 => ?_)
      have e27 := e26.trans e7
      refine q_when (b := false) (tagE _ _ (by rfl) H7 e27) (fun hb => nomatch hb) (fun _ H8 e8 => ?_)
      have e28 := e27.trans e8
      refine q_when (b := true) (tagE _ _ (by rfl) H8 e28) (fun _ H9 e9 => ?_) (fun hb => nomatch hb)
      have e29 := e28.trans e9
      obtain ⟨py, rfl, hp1⟩ := id hY2
      have hPy : SqT K H9 py [.str "back", .str hh] := st_of (e29 _ _ hp1)
      refine s_retPL (epl_one (st := ((i : Int) + 1, backM hh es)) (ep_stand (ev_I0 (ev_var rfl) ev_c) (ep_call (sp := spGBack K) (vs := [v, .str hh]) (ea_cons (ev_var rfl) (ea_cons (ev_ixT (ev_var rfl) hPy ev_c (atI_nat (j := 1) rfl)) ea_nil)) (fun Ha ea Q k E => ⟨v, hh, es, rfl, hv2.up (e29.trans ea), by omega, k⟩))))
        (fun p us Ha hp ea ha hU => q p us Ha (fresh_back (e02.trans e29) hp) (e02.trans (e29.trans ea)) ha hU)
    | look hh =>
      refine q_when (b := false) (tagE _ _ (by rfl) H2 (Ex.refl _)) (fun hb => nomatch hb) (fun _ H3 e3 => ?_)
      refine q_when (b := false) (tagE _ _ (by rfl) H3 e3) (fun hb => nomatch hb) (fun _ H4 e4 => ?_)
      have e24 := e3.trans e4
      refine q_when (b := false) (tagE _ _ (by rfl) H4 e24) (fun hb => nomatch hb) (fun _ H5 e5 => ?_)
      have e25 := e24.trans e5
      refine q_when (b := false) (tagE _ _ (by rfl) H5 e25) (fun hb => nomatch hb) (fun _ H6 e6 => ?_)
      have e26 := e25.trans e6
      refine q_when (b := false) (tagE _ _ (by rfl) H6 e26) (fun hb => nomatch hb) (fun _ H7 e7 => ?_)
      have e27 := e26.trans e7
      refine q_when (b := false) (tagE _ _ (by rfl) H7 e27) (fun hb => nomatch hb) (fun _ H8 e8 => ?_)
      have e28 := e27.trans e8
      refine q_when (b := false) (tagE _ _ (by rfl) H8 e28) (fun hb => nomatch hb) (fun _ H9 e9 => ?_)
      have e29 := e28.trans e9
      refine s_retPL (epl_one (st := ((i : Int) + 1, es)) (ep_stand (ev_I0 (ev_var rfl) ev_c) (ep_heldvar rfl (hv2.up e29))))
        (fun p us Ha hp ea ha hU => q p us Ha (fresh_back (e02.trans e29) hp) (e02.trans (e29.trans ea)) ha hU)
    | change hh =>
      refine q_when (b := false) (tagE _ _ (by rfl) H2 (Ex.refl _)) (fun hb => nomatch hb) (fun _ H3 e3 => ?_)
      refine q_when (b := false) (tagE _ _ (by rfl) H3 e3) (fun hb => nomatch hb) (fun _ H4 e4 => ?_)
      have e24 := e3.trans e4
      refine q_when (b := false) (tagE _ _ (by rfl) H4 e24) (fun hb => nomatch hb) (fun _ H5 e5 => ?_)
      have e25 := e24.trans e5
      refine q_when (b := false) (tagE _ _ (by rfl) H5 e25) (fun hb => nomatch hb) (fun _ H6 e6 => ?_)
      have e26 := e25.trans e6
      refine q_when (b := false) (tagE _ _ (by rfl) H6 e26) (fun hb => nomatch hb) (fun _ H7 e7 => ?_)
      have e27 := e26.trans e7
      refine q_when (b := false) (tagE _ _ (by rfl) H7 e27) (fun hb => nomatch hb) (fun _ H8 e8 => ?_)
      have e28 := e27.trans e8
      refine q_when (b := false) (tagE _ _ (by rfl) H8 e28) (fun hb => nomatch hb) (fun _ H9 e9 => ?_)
      have e29 := e28.trans e9
      refine s_retPL (epl_one (st := ((i : Int) + 1, es)) (ep_stand (ev_I0 (ev_var rfl) ev_c) (ep_heldvar rfl (hv2.up e29))))
        (fun p us Ha hp ea ha hU => q p us Ha (fresh_back (e02.trans e29) hp) (e02.trans (e29.trans ea)) ha hU)
end
end BD
namespace BD
open PySem PySem.Spec PyProof.Rows L2 Evl
local macro_rules | `(tactic| walk_at "ev") => `(tactic| first
  | ((with_reducible apply ev_var) ; rfl)
  | with_reducible exact ev_c
  | ((with_reducible apply ev_I0) <;> walk_at "ev")
  | ((with_reducible apply ev_e9) <;> walk_at "ev")
  | ((with_reducible apply ev_I) <;> walk_at "ev")
  | ((with_reducible apply ev_eq) <;> walk_at "ev")
  | ((with_reducible apply ev_ne) <;> walk_at "ev")
  | ((with_reducible apply ev_neg) <;> walk_at "ev")
  | ((with_reducible apply ev_ixN) <;> walk_at "ev")
  | ((with_reducible apply ev_ixL) <;> walk_at "ev")
  | ((with_reducible apply ev_inN) <;> walk_at "ev")
  | ((with_reducible apply ev_inT) <;> walk_at "ev")
  | ((with_reducible apply ev_ixT) <;> walk_at "ev")
  | ((with_reducible apply ev_ixS) <;> walk_at "ev")
  | ((with_reducible apply ev_len') <;> walk_at "ev")
  | ((with_reducible apply et_test) <;> walk_at "ev")
  | ((with_reducible apply et_and) <;> walk_at "ev")
  | ((with_reducible apply et_or) <;> walk_at "ev")
  | ((with_reducible apply et_not) <;> walk_at "ev")
  | ((with_reducible apply et_B) <;> walk_at "ev")
  | ((with_reducible apply el_lst) <;> walk_at "ev")
  | ((with_reducible apply eu_tup) <;> walk_at "ev")
  | ((with_reducible apply ea_cons) <;> walk_at "ev")
  | with_reducible exact ea_nil
  | with_reducible assumption
  | ((with_reducible apply ex_l' ; assumption) ; walk_at "ex")
  | ((with_reducible apply ex_t' ; assumption) ; walk_at "ex")
  | (intro _ ; walk_at "ev")
  | (with_reducible first | exact atI_hd | exact at_kind | exact at2s | exact at3s | exact at3i)
  | (first | exact rfl | exact Nat.le_of_ble_eq_true rfl | exact ⟨by decide, by decide⟩ | decide | exact Or.inl ⟨by omega, by omega⟩ | exact Or.inr ⟨by omega, by omega⟩ | omega)
  | skip)
local macro_rules | `(tactic| walk_at "ex") => `(tactic| first
  | assumption
  | exact Ex.refl _
  | (refine' Ex.trans ?_ (by assumption) ; walk_at "ex"))
local macro_rules | `(tactic| walk_at "row") => `(tactic| first
  | (with_reducible exact er_nil)
  | ((with_reducible apply er_cons) <;> walk_at "row")
  | (((with_reducible apply er_var) ; rfl) ; walk_at "isrow")
  | (((with_reducible apply elr_var) ; rfl) ; walk_at "isrow")
  | ((with_reducible apply elr_cat) <;> walk_at "row")
  | ((with_reducible apply elr_lst) <;> walk_at "row")
  | ((with_reducible apply er_fin) <;> walk_at "ev")
  | ((with_reducible apply er_lendT) <;> walk_at "ev")
  | ((with_reducible apply er_lendW) <;> walk_at "ev")
  | ((with_reducible apply er_pick) <;> walk_at "ev")
  | ((with_reducible apply er_either) <;> walk_at "ev")
  | ((with_reducible apply er_or) <;> walk_at "ev")
  | ((with_reducible apply er_again) <;> walk_at "ev")
  | ((with_reducible apply er_back) <;> walk_at "ev")
  | ((with_reducible apply er_look) <;> walk_at "ev")
  | ((with_reducible apply er_change) <;> walk_at "ev")
  | exact Nat.le_of_ble_eq_true rfl
  | skip)
local macro_rules | `(tactic| walk_at "isrow") => `(tactic| first
  | assumption
  | (refine IsRow.up ?_ (by assumption) ; walk_at "ex")
  | (refine LRows.up ?_ (by assumption) ; walk_at "ex"))

local macro_rules | `(tactic| walk_at "ev") => `(tactic| (((with_reducible apply ev_tag) ; rfl) ; walk_at "isrow"))
abbrev s_chooses : Stmt := topS 46
theorem sc_chooses : FnScope ["row"] ["row"] (defScope s_chooses) := ⟨rfl, rfl, rfl, by decide +kernel, rfl, by decide +kernel, by decide +kernel⟩
section
variable {P : Program} {w : World} {K : PySem.W.Frag} {mg : Str → Option Value} {base : Heap} {C : Addr}
theorem orok_sheet {rs : List Rw} (sh : Sheet rs) : OrOk rs := fun i hi => by
  obtain ⟨b, h1, _, h3⟩ := or_home sh hi
  exact ⟨b, h1, h3⟩
theorem epl_onwardV {σ : L2.St} {H : Hp} {ta tb tc : TE} {a : Addr} {x xb : V} {rv : List V} {rs : List Rw} {i : Nat} {es : List Ent} {r : Rw} {E : XK} {Hb : Hp} (h : Ev ta σ H (.ref a)) (h2 : Ev tb σ H xb) (hB : ABlk C rs Hb xb H) (h3 : Ev tc σ H x)
    (hS : SqL K H a rv) (hR : Rows H rv rs) (hx : AStand (i : Int) es x H) (sh : Sheet rs) (hst : Std rs i es) (hr : rs[i]? = some r) (hl : rs.length ≤ 40000) :
    EvPL (tCall (spOnward K C) [] E (tCons ta (tCons tb (tCons tc tNil)))) σ H (fun us H2 => StdsI H2 us (onM rs i es)) := fun H1 e Q q =>
  h H1 e _ fun H2 e2 => h2 H2 (e.trans e2) _ fun H3 e3 => h3 H3 (e.trans (e2.trans e3)) _ fun H4 e4 =>
    have e14 := e2.trans (e3.trans e4)
    ⟨a, xb, x, rv, rs, i, es, r, Hb, rfl, ex_l (e.trans e14) hS, hR.up (e.trans e14), hB.up (e.trans e14), hx.up (e.trans e14), sh, hst, hr, hl, fun p us H5 hp e5 h5 hU => q p us H5 (fresh_back e14 hp) (e14.trans e5) h5 hU⟩
abbrev HB (P : Program) (w : World) (K : PySem.W.Frag) (mg : Str → Option Value) (base : Heap) (C : Addr) : Prop := HasC P w K mg base "Blocks" C 2 ["self", "rows"] (spBInit K C)
def spChooses : Sp := fun vs H Q _ => ∃ (x : V) (r : Rw), vs = [x] ∧ IsRow H x r ∧ RetV (.bl r.takes) H Q
theorem ok_chooses (D : Dn K mg "chooses" s_chooses ["row"]) {a_CHOOSERS : Addr} (g_CHOOSERS : mg "CHOOSERS" = some (.ref a_CHOOSERS)) (hCH : ∀ H, SqT K H a_CHOOSERS [.str "pick", .str "either", .str "again"]) : Has P w K mg base "chooses" 1 ["row"] spChooses := by
  refine D.ok sc_chooses (fun vs H Q E h => ?_) (fun f cdv A outer s H vs Q E hr h => ?_)
  · obtain ⟨x, r, rfl, _⟩ := h
    rfl
  · obtain ⟨x, r, rfl, hX, q⟩ := h
    refine ⟨_, (pss_one (ps_ret (pe_cmpR (show OpR _ _ (rIn K false) from op_in_seq) (pe_ix (show IxR _ (rIxT K) from ix_tup) (pv 0) pe_int (fun _ _ => rfl)) (pe_glob (v := .ref a_CHOOSERS) rfl g_CHOOSERS rfl) (by rfl)))), ?_⟩
    refine s_ret (v := .bl r.takes) ?_ (fun H2 e2 => q H2 e2)
    rw [← tag_takes]
    refine ev_inT ?_ ev_c (hCH H) rfl rfl
    walk_at "ev"
theorem ev_chooses {x : V} {r : Rw} {ta : TA} {σ : L2.St} {H : Hp} {E : XK} (h : EvA ta σ H [x]) (hX : IsRow H x r) : Ev (tCall spChooses [] E ta) σ H (.bl r.takes) :=
  ev_call h fun H1 e Q q E => ⟨x, r, rfl, hX.up e, q⟩
end
end BD
namespace BD
open PySem PySem.Spec PyProof.Rows L2 Evl
/-! ### the standings to which runs come -/
inductive Reach (rs : List Rw) : SE → Prop
  | start : 0 < rs.length → Reach rs (0, [])
  | step {i : Nat} {es : List Ent} {t : SE} : Reach rs ((i : Int), es) → t ∈ onM rs i es → t.1 < (rs.length : Int) → Reach rs t
theorem onM_std {rs : List Rw} (sh : Sheet rs) {i : Nat} {es : List Ent} {r : Rw} (hs : Std rs i es) (hr : rs[i]? = some r) {t : SE} (ht : t ∈ onM rs i es) : ∃ j : Nat, t.1 = (j : Int) ∧ Std rs j t.2 := by
  obtain ⟨k, hk, e⟩ := List.mem_iff_getElem.mp ht
  have ok := hs.ok sh
  have h0 := onM_go hr ok (k : Int)
  have hm : ((k : Int) % ((onM rs i es).length : Int)).toNat = k := by
    rw [Int.emod_eq_of_lt (by omega) (by omega), Int.toNat_natCast]
  rw [hm, List.getD_eq_getElem?_getD, List.getElem?_eq_getElem hk, e] at h0
  have h1 : t = goM rs i es (k : Int) := h0
  obtain ⟨j, hg⟩ := goes (c := (k : Int)) sh hs hr
  rw [h1]
  exact ⟨j, hg.at_, hg.std⟩
theorem reach_std {rs : List Rw} (sh : Sheet rs) {st : SE} (h : Reach rs st) : ∃ i : Nat, st.1 = (i : Int) ∧ i < rs.length ∧ Std rs i st.2 := by
  induction h with
  | start h0 => exact ⟨0, rfl, h0, std0 rs⟩
  | @step i es t hr ht hl ih =>
    obtain ⟨j, h1, h2, h3⟩ := ih
    have hij : i = j := Int.ofNat.inj h1
    subst hij
    obtain ⟨m, h4, h5⟩ := onM_std sh h3 (List.getElem?_eq_getElem h2) ht
    exact ⟨m, h4, by omega, h5⟩
/-- no more than N standings -/
def Bnd (rs : List Rw) (N : Nat) : Prop := ∃ L : List SE, L.length ≤ N ∧ ∀ st, Reach rs st → st ∈ L
theorem nodup_le {α : Type} : ∀ {xs L : List α}, xs.Nodup → (∀ x ∈ xs, x ∈ L) → xs.length ≤ L.length
  | [], _, _, _ => Nat.zero_le _
  | x :: xs, L, nd, h => by
    rw [List.nodup_cons] at nd
    obtain ⟨a, b, rfl⟩ := List.append_of_mem (h x List.mem_cons_self)
    have ih := nodup_le (xs := xs) (L := a ++ b) nd.2 fun y hy => by
      rcases List.mem_append.mp (h y (List.mem_cons_of_mem _ hy)) with z | z
      · exact List.mem_append_left _ z
      · rcases List.mem_cons.mp z with z | z
        · rw [z] at hy
          exact absurd hy nd.1
        · exact List.mem_append_right _ z
    simp only [List.length_append, List.length_cons] at ih ⊢
    omega
/-- a standing, the one from which it was come to first and by which way -/
abbrev BE := SE × Option (SE × Nat)
structure Bf (rs : List Rw) (bs : List BE) : Prop where
  nd : (bs.map (·.1)).Nodup
  bp : ∀ (n : Nat) (b : BE), bs[n]? = some b → (b = ((0, []), none) ∧ 0 < rs.length) ∨ ∃ (st : SE) (k m : Nat), b.2 = some (st, k) ∧ m < n ∧ (bs[m]?).map (fun b : BE => b.1) = some st ∧ ∃ i : Nat, st.1 = (i : Int) ∧ (onM rs i st.2)[k]? = some b.1 ∧ b.1.1 < (rs.length : Int)
theorem Bf.reach {rs : List Rw} {bs : List BE} (B : Bf rs bs) : ∀ (n : Nat) (b : BE), bs[n]? = some b → Reach rs b.1 := fun n => by
  induction n using Nat.strongRecOn with
  | ind n ih =>
    intro b hb
    rcases B.bp n b hb with ⟨rfl, h0⟩ | ⟨st, k, m, _, hm, hst, i, hi, hk, hl⟩
    · exact .start h0
    · obtain ⟨c, hc, rfl⟩ := Option.map_eq_some_iff.mp hst
      have h1 := ih m hm c hc
      have h2 : c.1 = ((i : Int), c.1.2) := by rw [← hi]
      rw [h2] at h1
      exact .step h1 (List.mem_of_getElem? hk) hl
theorem Bf.nil (rs : List Rw) : Bf rs [] := ⟨List.nodup_nil, fun n b hb => by simp at hb⟩
theorem Bf.one {rs : List Rw} (h0 : 0 < rs.length) : Bf rs [((0, []), none)] := ⟨by simp, fun n b hb => by
  cases n with
  | zero => cases hb; exact .inl ⟨rfl, h0⟩
  | succ n => simp at hb⟩
theorem Bf.snoc {rs : List Rw} {bs : List BE} (B : Bf rs bs) {st t : SE} {k m i : Nat} (hm : (bs[m]?).map (fun b : BE => b.1) = some st) (hi : st.1 = (i : Int)) (hk : (onM rs i st.2)[k]? = some t) (hl : t.1 < (rs.length : Int)) (hn : t ∉ bs.map (·.1)) : Bf rs (bs ++ [(t, some (st, k))]) := by
  have hml : m < bs.length := by
    obtain ⟨c, hc, _⟩ := Option.map_eq_some_iff.mp hm
    exact (List.getElem?_eq_some_iff.mp hc).1
  refine ⟨?_, fun n b hb => ?_⟩
  · rw [List.map_append]
    refine List.nodup_append.mpr ⟨B.nd, by simp, fun p hp q hq => ?_⟩
    rcases List.mem_singleton.mp hq with rfl
    exact fun z => hn (by rw [← z]; exact hp)
  · by_cases h : n < bs.length
    · rw [List.getElem?_append_left h] at hb
      rcases B.bp n b hb with z | ⟨st', k', m', h1, h2, h3, h4⟩
      · exact .inl z
      · exact .inr ⟨st', k', m', h1, h2, by rw [List.getElem?_append_left (by omega)]; exact h3, h4⟩
    · rw [List.getElem?_append_right (by omega)] at hb
      cases hnn : n - bs.length with
      | zero =>
        rw [hnn] at hb
        cases hb
        exact .inr ⟨st, k, m, rfl, by omega, by rw [List.getElem?_append_left hml]; exact hm, i, hi, hk, hl⟩
      | succ j => rw [hnn] at hb; simp at hb
theorem Bf.count {rs : List Rw} {bs : List BE} {N : Nat} (B : Bf rs bs) (hB : Bnd rs N) : bs.length ≤ N := by
  obtain ⟨L, hL, h⟩ := hB
  have := nodup_le (L := L) B.nd fun x hx => by
    obtain ⟨b, hb, rfl⟩ := List.mem_map.mp hx
    obtain ⟨n, hn, e⟩ := List.mem_iff_getElem.mp hb
    exact h _ (B.reach n b (by rw [List.getElem?_eq_getElem hn, e]))
  rw [List.length_map] at this
  omega
/-- from st all ways lead to standings of ks, or behind the sheet -/
def Closed (rs : List Rw) (ks : List SE) (st : SE) : Prop := ∀ t ∈ onM rs st.1.toNat st.2, t.1 < (rs.length : Int) → t ∈ ks
theorem closed_reach {rs : List Rw} {ks : List SE} (h0 : 0 < rs.length → ((0, []) : SE) ∈ ks) (hc : ∀ st ∈ ks, Closed rs ks st) : ∀ st, Reach rs st → st ∈ ks := fun st h => by
  induction h with
  | start h => exact h0 h
  | @step i es t _ ht hl ih => exact hc _ ih t ht hl
/-- what stands in the dict -/
def VOk (o : Option (SE × Nat)) (v : V) (H : Hp) : Prop := match o with
  | none => v = .non
  | some (st, k) => ∃ b c, v = .ref b ∧ H b = some (.tup [.ref c, .int (k : Int)]) ∧ AStand st.1 st.2 (.ref c) H
theorem VOk.upT {o : Option (SE × Nat)} {v : V} {H H' : Hp} (e : ExT H H') (h : VOk o v H) : VOk o v H' := by
  cases o with
  | none => exact h
  | some p =>
    obtain ⟨b, c, h1, h2, h3⟩ := h
    exact ⟨b, c, h1, e _ _ h2, h3.upT e⟩
theorem VOk.plain {o : Option (SE × Nat)} {v : V} {H : Hp} (h : VOk o v H) : plainV v = true := by
  cases o with
  | none => rw [show v = .non from h]; rfl
  | some p =>
    obtain ⟨b, c, h1, _⟩ := h
    rw [h1]
    rfl
def CM (H : Hp) (kvs : List SX) (bs : List BE) : Prop := Paired (fun (x : SX) (b : BE) => x.1 = b.1 ∧ VOk b.2 x.2.2 H) kvs bs
theorem CM.upT {H H' : Hp} (e : ExT H H') : ∀ {kvs : List SX} {bs : List BE}, CM H kvs bs → CM H' kvs bs
  | _, _, .nil => .nil
  | _, _, .cons r t => .cons ⟨r.1, r.2.upT e⟩ (CM.upT e t)
theorem CM.keys {H : Hp} : ∀ {kvs : List SX} {bs : List BE}, CM H kvs bs → kvs.map (·.1) = bs.map (·.1)
  | _, _, .nil => rfl
  | _, _, .cons r t => by rw [List.map_cons, List.map_cons, r.1, CM.keys t]
theorem CM.len {H : Hp} {kvs : List SX} {bs : List BE} (h : CM H kvs bs) : kvs.length = bs.length := Paired.length h
theorem CM.at_ {H : Hp} : ∀ {kvs : List SX} {bs : List BE} {n : Nat} {b : BE}, CM H kvs bs → bs[n]? = some b → ∃ x, kvs[n]? = some x ∧ x.1 = b.1 ∧ VOk b.2 x.2.2 H
  | _, _, _, _, .nil, e => by simp at e
  | _, _, 0, _, .cons r _, e => by cases e; exact ⟨_, rfl, r.1, r.2⟩
  | _, _, n + 1, _, .cons _ t, e => CM.at_ (n := n) t e
section
variable {P : Program} {w : World} {K : PySem.W.Frag} {σ : L2.St} {H : Hp} {ta tb td te tl : TE} {D : Ends} {tz tu : TS} {d a : Addr} {ep : Nat} {kvs : List SX} {st : SE}
/-- d[st] = v, q: a row further on -/
theorem q_nput {R : V → Hp → Prop} (hv : EvP te σ H R) (h : Ev td σ H (.ref d)) (S : SD P w H d ep kvs) (ha : EvP ta σ H (AStand st.1 st.2)) (hl : lkS kvs st = none) (hz : kvs.length < 100000) (hp : ∀ v H1, R v H1 → plainV v = true) (hR : ∀ v H1 H2, Ex H1 H2 → R v H1 → R v H2)
    (k : ∀ v a H1 ep', Ex H H1 → R v H1 → AStand st.1 st.2 (.ref a) H1 → SD P w (upd H1 d (NDict P w d ep' (kvs ++ [(st, a, v)]))) d ep' (kvs ++ [(st, a, v)]) → tz D σ (upd H1 d (NDict P w d ep' (kvs ++ [(st, a, v)])))) : tSeq (sNPut P w td ta te) tz D σ H :=
  hv H (Ex.refl H) _ fun v H1 e1 hr => h H1 e1 _ fun H2 e2 => ha H2 (e1.trans e2) _ fun x H3 e3 hx => by
    obtain ⟨p, q, vs, rfl, h1, h2, h3⟩ := id hx
    have e03 := e1.trans (e2.trans e3)
    exact ⟨d, p, ep, kvs, st, rfl, rfl, S.upX e03, hx, hl, hp v H1 hr, hz, fun ep' => k v p H3 ep' e03 (hR v H1 H3 (e2.trans e3) hr) hx ((S.upX e03).add hx hl (hp v H1 hr) hz)⟩
/-- for i, x in enumerate(a list told by R) -/
theorem s_forEP {R : List V → Hp → Prop} {j k : Nat} (h : EvPL tl σ H R) (Pv : Addr → List V → Nat → L2.St → Hp → Prop) (h0 : ∀ p xs H1, H p = none → Ex H H1 → H1 p = some (.lst xs) → R xs H1 → Pv p xs 0 σ H1) (hl : ∀ p xs i σ' H', i ≤ xs.length → Pv p xs i σ' H' → SqL K H' p xs)
    (hs : ∀ p xs (i : Nat) x σ' H' H2, xs[i]? = some x → Pv p xs i σ' H' → Ex H' H2 → tu { D with nx := Pv p xs (i + 1), ct := Pv p xs (i + 1), bk := D.nx } ((σ'.set j (some (.int (i : Int)))).set k (some x)) H2) (hd : ∀ p xs σ' H', Pv p xs xs.length σ' H' → D.nx σ' H') :
    tFor (iEnum K (tCons tl tNil)) (gTup K 2 (gCons (gName j) (gCons (gName k) gNil))) tu D σ H :=
  h H (Ex.refl H) _ fun p xs H1 hp e h1 hR => ⟨p, xs, rfl, sq_of h1, for_it walk_enum (Pv p xs) (h0 p xs H1 hp e h1 hR) (hl p xs) (fun i v σ' H' H2 hi q y => by
    obtain ⟨T, x1, x2, rfl, hT, rfl, e1, e2⟩ := y
    cases e1
    exact ⟨T, [.int (i : Int), x2], rfl, SqT.of upd_same, rfl, _, _, rfl, _, _, rfl, rfl, hs p xs i x2 σ' H' _ e2 q (Ex.new hT)⟩) (hd p xs)⟩
theorem s_appP {l : Addr} {xs : List V} {R : V → Hp → Prop} (hl : H l = some (.lst xs)) (ha : Ev ta σ H (.ref l)) (h : EvP te σ H R) (hz : xs.length < 100000) (k : ∀ v H1, Ex H H1 → R v H1 → D.nx σ (upd H1 l (.lst (xs ++ [v])))) :
    tDrop (tBM K "list" rAppend ta (tCons te tNil)) D σ H := ha H (Ex.refl H) _ fun H1 e1 =>
  ⟨Or.inl ⟨rfl, xs, sq_of (e1 l _ hl)⟩, h H1 e1 _ fun v H2 e2 hv => ⟨l, xs, v, rfl, rfl, e2 l _ (e1 l _ hl), sz_lt hz, k v H2 (e1.trans e2) hv⟩⟩
theorem ep_varF {i : Nat} {v : V} {R : V → Hp → Prop} (h : σ[i]? = some (some v)) (hr : ∀ H1, Ex H H1 → R v H1) : EvP (tVar i) σ H R := fun H1 x Q q => ⟨v, h, q v H1 (Ex.refl H1) (hr H1 x)⟩
/-- (a standing, a number) -/
theorem ep_vok {i j : Nat} {c : Addr} {k : Nat} (h1 : σ[i]? = some (some (.ref c))) (h2 : σ[j]? = some (some (.int (k : Int)))) (hx : AStand st.1 st.2 (.ref c) H) : EvP (tTup (tCons (tVar i) (tCons (tVar j) tNil))) σ H (fun v H2 => VOk (some (st, k)) v H2) := fun H1 e Q q =>
  ⟨_, h1, _, h2, by show 2 ≤ sizeLine; decide, fun p hp => q _ _ (Ex.new hp) ⟨p, c, rfl, upd_same, hx.up (e.trans (Ex.new hp))⟩⟩
end
theorem ExT.ext {H : Hp} {p : Addr} {f g : Heap → Prop} (h : H p = some (.ext f)) : ExT H (upd H p (.ext g)) := fun a zs e => by
  rw [upd_ne (ne_of e h (fun q => nomatch q))]
  exact e
end BD
namespace BD
open PySem PySem.Spec PyProof.Rows L2 Evl
local macro_rules | `(tactic| walk_at "ev") => `(tactic| first
  | ((with_reducible apply ev_var) ; rfl)
  | with_reducible exact ev_c
  | ((with_reducible apply ev_I0) <;> walk_at "ev")
  | ((with_reducible apply ev_e9) <;> walk_at "ev")
  | ((with_reducible apply ev_I) <;> walk_at "ev")
  | ((with_reducible apply ev_eq) <;> walk_at "ev")
  | ((with_reducible apply ev_ne) <;> walk_at "ev")
  | ((with_reducible apply ev_neg) <;> walk_at "ev")
  | ((with_reducible apply ev_ixN) <;> walk_at "ev")
  | ((with_reducible apply ev_ixL) <;> walk_at "ev")
  | ((with_reducible apply ev_inN) <;> walk_at "ev")
  | ((with_reducible apply ev_inT) <;> walk_at "ev")
  | ((with_reducible apply ev_ixT) <;> walk_at "ev")
  | ((with_reducible apply ev_ixS) <;> walk_at "ev")
  | ((with_reducible apply ev_len') <;> walk_at "ev")
  | ((with_reducible apply et_test) <;> walk_at "ev")
  | ((with_reducible apply et_and) <;> walk_at "ev")
  | ((with_reducible apply et_or) <;> walk_at "ev")
  | ((with_reducible apply et_not) <;> walk_at "ev")
  | ((with_reducible apply et_B) <;> walk_at "ev")
  | ((with_reducible apply el_lst) <;> walk_at "ev")
  | ((with_reducible apply eu_tup) <;> walk_at "ev")
  | ((with_reducible apply ea_cons) <;> walk_at "ev")
  | with_reducible exact ea_nil
  | with_reducible assumption
  | ((with_reducible apply ex_l' ; assumption) ; walk_at "ex")
  | ((with_reducible apply ex_t' ; assumption) ; walk_at "ex")
  | (intro _ ; walk_at "ev")
  | (with_reducible first | exact atI_hd | exact at_kind | exact at2s | exact at3s | exact at3i)
  | (first | exact rfl | exact Nat.le_of_ble_eq_true rfl | exact ⟨by decide, by decide⟩ | decide | exact Or.inl ⟨by omega, by omega⟩ | exact Or.inr ⟨by omega, by omega⟩ | omega)
  | skip)
local macro_rules | `(tactic| walk_at "ex") => `(tactic| first
  | assumption
  | exact Ex.refl _
  | (refine' Ex.trans ?_ (by assumption) ; walk_at "ex"))
local macro_rules | `(tactic| walk_at "row") => `(tactic| first
  | (with_reducible exact er_nil)
  | ((with_reducible apply er_cons) <;> walk_at "row")
  | (((with_reducible apply er_var) ; rfl) ; walk_at "isrow")
  | (((with_reducible apply elr_var) ; rfl) ; walk_at "isrow")
  | ((with_reducible apply elr_cat) <;> walk_at "row")
  | ((with_reducible apply elr_lst) <;> walk_at "row")
  | ((with_reducible apply er_fin) <;> walk_at "ev")
  | ((with_reducible apply er_lendT) <;> walk_at "ev")
  | ((with_reducible apply er_lendW) <;> walk_at "ev")
  | ((with_reducible apply er_pick) <;> walk_at "ev")
  | ((with_reducible apply er_either) <;> walk_at "ev")
  | ((with_reducible apply er_or) <;> walk_at "ev")
  | ((with_reducible apply er_again) <;> walk_at "ev")
  | ((with_reducible apply er_back) <;> walk_at "ev")
  | ((with_reducible apply er_look) <;> walk_at "ev")
  | ((with_reducible apply er_change) <;> walk_at "ev")
  | exact Nat.le_of_ble_eq_true rfl
  | skip)
local macro_rules | `(tactic| walk_at "isrow") => `(tactic| first
  | assumption
  | (refine IsRow.up ?_ (by assumption) ; walk_at "ex")
  | (refine LRows.up ?_ (by assumption) ; walk_at "ex"))

abbrev s_followed : Stmt := topS 53
theorem sc_followed : FnScope ["rows", "blocks", "came", "fresh", "found", "standing", "way", "later"] ["rows"] (defScope s_followed) := ⟨rfl, rfl, rfl, by decide +kernel, rfl, by decide +kernel, by decide +kernel⟩
section
variable {P : Program} {w : World} {K : PySem.W.Frag} {mg : Str → Option Value} {base : Heap} {C : Addr}
def spFollowed (P : Program) (w : World) (K : PySem.W.Frag) : Sp := fun vs H Q _ => ∃ (a : Addr) (rv : List V) (rs : List Rw) (N : Nat), vs = [.ref a] ∧ SqL K H a rv ∧ Rows H rv rs ∧ Sheet rs ∧ rs.length ≤ 40000 ∧ Bnd rs N ∧ N ≤ 20000 ∧
  ∀ d ep kvs bs H', H d = none → Ex H H' → SD P w H' d ep kvs → CM H' kvs bs → Bf rs bs → (∀ st, Reach rs st → st ∈ bs.map (·.1)) → Q (.ref d) H'
/-- while the standings are gone through: what stands in came, in the list at pc of those from f on -/
structure FI (P : Program) (w : World) (rs : List Rw) (H1 : Hp) (d pc : Addr) (f : Nat) (ep : Nat) (kvs : List SX) (bs : List BE) (fv : List V) (G : Hp) : Prop where
  ex : Ex H1 G
  sd : SD P w G d ep kvs
  cm : CM G kvs bs
  bf : Bf rs bs
  st : 0 < rs.length → ((0, []) : SE) ∈ bs.map (·.1)
  li : G pc = some (.lst fv)
  fr : StdsI G fv ((bs.map (·.1)).drop f)
  n : H1 pc = none
  le : f ≤ bs.length
  cl : ∀ n st, n < f → (bs.map (·.1))[n]? = some st → Closed rs (bs.map (·.1)) st
theorem Closed.more {rs : List Rw} {ks ls : List SE} {st : SE} (h : Closed rs ks st) : Closed rs (ks ++ ls) st := fun t ht hl => List.mem_append_left _ (h t ht hl)
theorem stdsI_at {H : Hp} : ∀ {vs : List V} {sts : List SE} {i : Nat} {x : V}, StdsI H vs sts → vs[i]? = some x → ∃ st, sts[i]? = some st ∧ AStand st.1 st.2 x H
  | _, _, _, _, .nil, h => by simp at h
  | _, _, 0, _, .cons r _, h => by cases h; exact ⟨_, rfl, r⟩
  | _, _, i + 1, _, .cons _ t, h => stdsI_at (i := i) t h
theorem stdsI_app {H : Hp} {vs ws : List V} {sts tts : List SE} (a : StdsI H vs sts) (b : StdsI H ws tts) : StdsI H (vs ++ ws) (sts ++ tts) := paired_app a b
theorem cm_app {H : Hp} {kvs k2 : List SX} {bs b2 : List BE} (a : CM H kvs bs) (b : CM H k2 b2) : CM H (kvs ++ k2) (bs ++ b2) := paired_app a b
theorem ok_followed (D : Dn K mg "followed" s_followed ["rows"]) (T : Blt mg) (h_Blocks : HB P w K mg base C) (h_onward : Has P w K mg base "onward" 2 ["rows", "blocks", "standing"] (spOnward K C)) : Has P w K mg base "followed" 4 ["rows"] (spFollowed P w K) := by
  refine D.ok sc_followed (fun vs H Q E h => ?_) (fun f cdv A outer st H vs Q E hr h => ?_)
  · obtain ⟨a, rv, rs, N, rfl, _⟩ := h
    rfl
  · obtain ⟨a, rv, rs, N, rfl, hS, hR, sh, hl, hB, hN, q⟩ := h
    have hlr := hR.len
    refine ⟨_, (pss_cons (ps_set (i := 1) sc_followed.nd rfl (Or.inl rfl) (pe_cls h_Blocks (hr.mono (by decide)) (by rfl) (pa_cons (pv 0) pa_nil))) (pss_cons (ps_set (i := 2) sc_followed.nd rfl (Or.inl rfl) pe_nnew) (pss_cons (ps_set (i := 3) sc_followed.nd rfl (Or.inl rfl) (pe_lst pa_nil)) (Evl.pss_cut (ps_if (pt_truth (pv 0) (by intro _; rfl)) (pss_cons (ps_nput hr (pv 2) (pe_tup (pa_cons pe_int (pa_cons (pe_tup pa_nil) pa_nil))) pe_non rfl) (pss_one (ps_expr (pe_bm PySem.F.plainAttrs_list PySem.F.slot_list_append PySem.F.type_list_append mt_append (pv 3) (pa_cons (pe_tup (pa_cons pe_int (pa_cons (pe_tup pa_nil) pa_nil))) pa_nil))))) pss_nil) (pss_cons (ps_while PassesOwn.never (pt_truth (pv 3) (by intro _; rfl)) (pss_cons (ps_set (i := 4) sc_followed.nd rfl (Or.inl rfl) (pe_lst pa_nil)) (pss_cons (ps_for PassesOwn.never rfl (pi_list (pv 3)) (pg_name (i := 5) sc_followed.nd rfl (Or.inl rfl)) (pss_one (ps_for PassesOwn.never rfl (pi_enum (by rfl) T.enumerate_ (pa_cons (pe_own h_onward (hr.mono (by decide)) (by rfl) (pa_cons (pv 0) (pa_cons (pv 1) (pa_cons (pv 5) pa_nil)))) pa_nil)) (pg_tup rfl (pgs_cons (pg_name (i := 6) sc_followed.nd rfl (Or.inl rfl)) (pgs_cons (pg_name (i := 7) sc_followed.nd rfl (Or.inl rfl)) pgs_nil))) (pss_one (ps_if (PW.pt (pw_and (pt_cmpR op_lt (pe_ix (show IxR _ (rIxT K) from ix_tup) (pv 7) pe_int (fun _ _ => rfl)) (pe_callB (show CallR _ _ (rLenS K) from call_len_seq) (by rfl) T.len_ (by decide +kernel) (pa_cons (pv 0) pa_nil)) (nomark _)) (pw_and1 (pt_cmpR (op_nin hr) (pv 7) (pv 2) (by rfl))))) (pss_cons (ps_nput hr (pv 2) (pv 7) (pe_tup (pa_cons (pv 5) (pa_cons (pv 6) pa_nil))) rfl) (pss_one (ps_expr (pe_bm PySem.F.plainAttrs_list PySem.F.slot_list_append PySem.F.type_list_append mt_append (pv 4) (pa_cons (pv 7) pa_nil))))) pss_nil))))) (pss_one (ps_set (i := 3) sc_followed.nd rfl (Or.inl rfl) (pv 4)))))) (pss_one (ps_ret (pv 2)))))))), ?_⟩
    show (_ : L2.TS) _ [_, _, _, _, _, _, _, _] _
    refine q_asgP (ep_blocks (C := C) (ev_var rfl) hS hR sh.g (orok_sheet sh) hl) (fun xb H1 e1 hBl => ?_)
    show (_ : L2.TS) _ [_, _, _, _, _, _, _, _] _
    refine q_nnew (P := P) (w := w) (fun d H2 hd e2 S0 _ => ?_)
    show (_ : L2.TS) _ [_, _, _, _, _, _, _, _] _
    refine q_asgL (xs := []) (el_lst ea_nil (by decide)) (fun pf H3 hpf e3 h3 => ?_)
    show (_ : L2.TS) _ [_, _, _, _, _, _, _, _] _
    have hd0 : H d = none := fresh_back e1 hd
    have hpf1 : H1 pf = none := fresh_back e2 hpf
    have hdp : d ≠ pf := ne_of_none S0.at_ hpf
    have hS3 := ex_l (e1.trans (e2.trans e3)) hS
    refine q_cut (M := fun σ' G => ∃ ep kvs bs fv, FI P w rs H1 d pf 0 ep kvs bs fv G ∧ σ' = [some (.ref a), some xb, some (.ref d), some (.ref pf), none, none, none, none]) ?_ (fun σ' G hM => ?_)
    · refine s_when (b := !rv.isEmpty) (et_truL (K := K) (ev_var rfl) hS3) (fun hb H4 e4 => ?_) (fun hb H4 e4 => ?_)
      · have h0 : 0 < rs.length := by
          cases rv with
          | nil => cases hb
          | cons x t => rw [← hlr]; exact Nat.succ_pos _
        have es0 : ∀ (σ : L2.St) (H : Hp), EvP (tTup (tCons (tC (.int 0)) (tCons (tTup tNil) tNil))) σ H (AStand ((0, []) : SE).1 ((0, []) : SE).2) := fun σ H =>
          ep_stand (es := []) ev_c (EvP.mono (ep_U (xs := []) (eu_tup ea_nil (by decide))) fun v H ⟨p, h4, h5⟩ => ⟨p, [], h4, h5, .nil⟩)
        refine q_nput (P := P) (w := w) (R := fun v _ => v = .non) (ep_ev ev_c) (ev_var rfl) (S0.upX (e3.trans e4)) (es0 _ _) rfl (Nat.succ_pos _) (fun v _ hv => by rw [hv]; rfl) (fun v _ _ _ hv => hv) (fun v k0 H5 ep' e5 hv hx S5 => ?_)
        subst hv
        have hpf5 : (upd H5 d (NDict P w d ep' ([] ++ [((0, []), k0, .non)]))) pf = some (.lst []) := by rw [upd_ne hdp.symm]; exact (e4.trans e5) _ _ h3
        have x5 : Ex H1 (upd H5 d (NDict P w d ep' ([] ++ [((0, []), k0, .non)]))) := Ex.mut (e2.trans (e3.trans (e4.trans e5))) hd
        generalize upd H5 d (NDict P w d ep' ([] ++ [((0, []), k0, .non)])) = G5 at *
        refine s_appP (K := K) (xs := []) hpf5 (ev_var rfl) (es0 _ _) (by decide) (fun y H7 e57 hy => ?_)
        have x8 : ExT H7 (upd H7 pf (.lst ([] ++ [y]))) := ExT.lst (e57 _ _ hpf5)
        refine ⟨ep', _, [((0, []), none)], [y], ⟨Ex.mut (x5.trans e57) hpf1, (S5.upX e57).upT x8 (by rw [upd_ne hdp]; exact (S5.upX e57).at_), .cons ⟨rfl, rfl⟩ .nil, Bf.one h0, fun _ => List.mem_cons_self, upd_same, .cons (hy.upT x8) .nil, hpf1, Nat.zero_le _, fun n st h => absurd h (Nat.not_lt_zero n)⟩, rfl⟩
      · have h0 : ¬ 0 < rs.length := by
          cases rv with
          | nil => rw [← hlr]; exact Nat.lt_irrefl _
          | cons x t => cases hb
        exact ⟨0, [], [], [], ⟨e2.trans (e3.trans e4), S0.upX (e3.trans e4), .nil, Bf.nil rs, fun h => absurd h h0, e4 _ _ h3, .nil, hpf1, Nat.zero_le _, fun n st h => absurd h (Nat.not_lt_zero n)⟩, rfl⟩
    obtain ⟨ep, kvs, bs, fv, I, rfl⟩ := hM
    refine q_while (fun m σ' G => ∃ f pc ep kvs bs fv x4 x5 x6 x7, N ≤ f + m ∧ FI P w rs H1 d pc f ep kvs bs fv G ∧ σ' = [some (.ref a), some xb, some (.ref d), some (.ref pc), x4, x5, x6, x7]) N ⟨0, pf, ep, kvs, bs, fv, none, none, none, none, by omega, I, rfl⟩ ?_
    clear I ep kvs bs fv G
    rintro m σ' G ⟨f, pc, ep, kvs, bs, fv, x4, x5, x6, x7, hm, I, rfl⟩
    refine ⟨!fv.isEmpty, et_truL (K := K) (ev_var rfl) (sq_of I.li), fun hb G1 g1 => ?_, fun hb G1 g1 => ?_⟩
    · have hfl : f < bs.length := by
        have h1 := I.fr.len
        rw [List.length_drop, List.length_map] at h1
        cases fv with
        | nil => cases hb
        | cons x t => rw [List.length_cons] at h1; omega
      have hbN := I.bf.count hB
      refine ⟨fun σ2 G2 => ∃ ep kvs bs2 fv pc x4 x5 x6 x7, FI P w rs H1 d pc bs.length ep kvs bs2 fv G2 ∧ σ2 = [some (.ref a), some xb, some (.ref d), some (.ref pc), x4, x5, x6, x7], fun σ2 G2 ⟨ep, kvs, bs2, fv, pc, x4, x5, x6, x7, I2, e⟩ => ⟨N - bs.length, by omega, bs.length, pc, ep, kvs, bs2, fv, x4, x5, x6, x7, by omega, I2, e⟩, ?_⟩
      refine q_asgL (xs := []) (el_lst ea_nil (by decide)) (fun pg G2 hpg g2 h2 => ?_)
      show (_ : L2.TS) _ [_, _, _, _, _, _, _, _] _
      have hpg1 : H1 pg = none := fresh_back (I.ex.trans g1) hpg
      have hpcg : pc ≠ pg := ne_of_none (g1 _ _ I.li) hpg
      have hS1 : SqL K H1 a rv := ex_l e1 hS
      have g02 := g1.trans g2
      refine q_forLn (K := K) (a := pc) (xs := fv) (ev_var rfl) (sq_of (g02 _ _ I.li)) (fun j σ2 G3 => ∃ ep kvs bs2 kx gv x5 x6 x7, Ex H1 G3 ∧ SD P w G3 d ep kvs ∧ CM G3 kvs bs2 ∧ Bf rs bs2 ∧ bs2.map (·.1) = bs.map (·.1) ++ kx ∧ G3 pc = some (.lst fv) ∧ StdsI G3 fv ((bs.map (·.1)).drop f) ∧ G3 pg = some (.lst gv) ∧ StdsI G3 gv kx ∧
        (∀ n st, n < f + j → (bs.map (·.1))[n]? = some st → Closed rs (bs2.map (·.1)) st) ∧ σ2 = [some (.ref a), some xb, some (.ref d), some (.ref pc), some (.ref pg), x5, x6, x7]) ?_ (fun i σ2 G3 _ ⟨_, _, _, _, _, _, _, _, _, _, _, _, _, h, _⟩ => sq_of h) ?_ ?_
      · intro G3 g3
        have g03 := g02.trans g3
        exact ⟨ep, kvs, bs, [], [], x5, x6, x7, I.ex.trans g03, I.sd.upX g03, I.cm.upT (ExT.of g03), I.bf, by rw [List.append_nil], g03 _ _ I.li, I.fr.up g03, g3 _ _ h2, .nil, fun n st hn hs => I.cl n st (by omega) hs, rfl⟩
      · rintro j x σ2 G3 hj ⟨ep2, kvs2, bs2, kx, gv, y5, y6, y7, xE, S, M, B, hk, hli, hfr, hgl, hgs, hcl, rfl⟩
        obtain ⟨st, hst, hX⟩ := stdsI_at hfr hj
        rw [List.getElem?_drop] at hst
        have hkey : (bs2.map (·.1))[f + j]? = some st := by
          rw [hk, List.getElem?_append_left (List.getElem?_eq_some_iff.mp hst).1]
          exact hst
        have hbm : (bs2[f + j]?).map (fun b : BE => b.1) = some st := by
          rw [← hkey, List.getElem?_map]
        obtain ⟨b0, hb0, hb1⟩ := Option.map_eq_some_iff.mp hbm
        obtain ⟨i, hi, hil, hstd⟩ := reach_std sh (by rw [← hb1]; exact B.reach _ b0 hb0 : Reach rs st)
        have hr0 := List.getElem?_eq_getElem hil
        have hX' : AStand (i : Int) st.2 x G3 := by rw [← hi]; exact hX
        obtain ⟨px, pqx, hvx, rfl, _, _, _⟩ := id hX
        dsimp only [List.set]
        refine s_forEP (K := K) (epl_onwardV (C := C) (ev_var rfl) (ev_var rfl) (hBl.up xE) (ev_var rfl) (ex_l xE hS1) ((hR.up e1).up xE) hX' sh hstd hr0 hl) (fun p us k σ3 G4 => ∃ ep kvs bs3 kx gv x6 x7, Ex H1 G4 ∧ SD P w G4 d ep kvs ∧ CM G4 kvs bs3 ∧ Bf rs bs3 ∧ bs3.map (·.1) = bs.map (·.1) ++ kx ∧ G4 pc = some (.lst fv) ∧ StdsI G4 fv ((bs.map (·.1)).drop f) ∧ G4 pg = some (.lst gv) ∧ StdsI G4 gv kx ∧
          (∀ n st, n < f + j → (bs.map (·.1))[n]? = some st → Closed rs (bs3.map (·.1)) st) ∧ G4 p = some (.lst us) ∧ StdsI G4 us (onM rs i st.2) ∧ p ≠ pg ∧ p ≠ pc ∧ AStand st.1 st.2 (.ref px) G4 ∧
          (∀ k' t, k' < k → (onM rs i st.2)[k']? = some t → t.1 < (rs.length : Int) → t ∈ bs3.map (·.1)) ∧ σ3 = [some (.ref a), some xb, some (.ref d), some (.ref pc), some (.ref pg), some (.ref px), x6, x7]) ?_ (fun p us k σ3 G4 _ ⟨_, _, _, _, _, _, _, _, _, _, _, _, _, _, _, _, _, h, _⟩ => sq_of h) ?_ ?_
        · intro p us G4 hp g4 h4 hU
          exact ⟨ep2, kvs2, bs2, kx, gv, y6, y7, xE.trans g4, S.upX g4, M.upT (ExT.of g4), B, hk, g4 _ _ hli, hfr.up g4, g4 _ _ hgl, hgs.up g4, hcl, h4, hU, (ne_of_none hgl hp).symm, (ne_of_none hli hp).symm, hX.up g4, fun k' t h => absurd h (Nat.not_lt_zero k'), rfl⟩
        · rintro p us k y σ3 G4 G5 hy ⟨ep3, kvs3, bs3, kx3, gv3, z6, z7, xE4, S4, M4, B4, hk4, hli4, hfr4, hgl4, hgs4, hcl4, hp4, hU4, hppg, hppc, hX4, hdone, rfl⟩ g5
          obtain ⟨t, ht, hT⟩ := stdsI_at hU4 hy
          have hT5 : AStand t.1 t.2 y G5 := hT.up g5
          obtain ⟨py, pqy, hvy, rfl, hpy, _, _⟩ := id hT5
          have S5 := S4.upX g5
          have M5 := M4.upT (ExT.of g5)
          have xE5 := xE4.trans g5
          have hli5 := g5 _ _ hli4
          have hgl5 := g5 _ _ hgl4
          have hp5 := g5 _ _ hp4
          have hfr5 := hfr4.up g5
          have hgs5 := hgs4.up g5
          have hU5 := hU4.up g5
          have hX5 := hX4.up g5
          dsimp only [List.set]
          have keep : ∀ ks : List SE, (t.1 < (rs.length : Int) → t ∈ ks) → (∀ z ∈ bs3.map (·.1), z ∈ ks) → ∀ k' t', k' < k + 1 → (onM rs i st.2)[k']? = some t' → t'.1 < (rs.length : Int) → t' ∈ ks := fun ks h1 h2 k' t' hk' ht' hl' => by
            by_cases h : k' = k
            · rw [h, ht] at ht'
              cases ht'
              exact h1 hl'
            · exact h2 _ (hdone k' t' (by omega) ht' hl')
          refine s_when (b := decide (t.1 < (rv.length : Int)) && !(lkS kvs3 t).isSome) (et_and (et_test (ev_I0 (ev_ixT (ev_var rfl) (st_of hpy) ev_c atI_hd) (ev_len' (ev_var rfl) (ex_l xE5 hS1)))) (fun _ => et_test (ev_nin (ev_var rfl) hT5 (ev_var rfl) S5))) (fun hb G6 g6 => ?_) (fun hb G6 g6 => ?_)
          · rw [Bool.and_eq_true, decide_eq_true_eq, Bool.not_eq_true'] at hb
            obtain ⟨hb1, hb2⟩ := hb
            rw [hlr] at hb1
            have hnone : lkS kvs3 t = none := by
              cases h : lkS kvs3 t with
              | none => rfl
              | some p => rw [h] at hb2; cases hb2
            have hnk : t ∉ bs3.map (·.1) := by
              rw [← M4.keys]
              exact lkS_none hnone
            have hcount := B4.count hB
            have hkl := M4.len
            refine q_nput (P := P) (w := w) (st := t) (R := VOk (some (st, k))) (ep_vok (st := st) (k := k) rfl rfl (hX5.up g6)) (ev_var rfl) (S5.upX g6) (ep_varF rfl fun H1 e => hT5.up (g6.trans e)) hnone (by omega) (fun v H1 h => h.plain) (fun v H1 H2 e h => h.upT (ExT.of e)) (fun v k0 G7 ep7 g7 hv hx0 S7 => ?_)
            have g57 := g6.trans g7
            have x8 : ExT G7 (upd G7 d (NDict P w d ep7 (kvs3 ++ [(t, k0, v)]))) := ExT.ext (S5.upX g57).at_
            have hdg : d ≠ pg := ne_of S5.at_ hgl5 (fun z => nomatch z)
            have hdc : d ≠ pc := ne_of S5.at_ hli5 (fun z => nomatch z)
            have hdpp : d ≠ p := ne_of S5.at_ hp5 (fun z => nomatch z)
            have e8 : Ex H1 (upd G7 d (NDict P w d ep7 (kvs3 ++ [(t, k0, v)]))) := Ex.mut (xE5.trans g57) hd
            have hli8 : (upd G7 d (NDict P w d ep7 (kvs3 ++ [(t, k0, v)]))) pc = some (.lst fv) := by rw [upd_ne hdc.symm]; exact g57 _ _ hli5
            have hgl8 : (upd G7 d (NDict P w d ep7 (kvs3 ++ [(t, k0, v)]))) pg = some (.lst gv3) := by rw [upd_ne hdg.symm]; exact g57 _ _ hgl5
            have hp8 : (upd G7 d (NDict P w d ep7 (kvs3 ++ [(t, k0, v)]))) p = some (.lst us) := by rw [upd_ne hdpp.symm]; exact g57 _ _ hp5
            have x58 : ExT G5 (upd G7 d (NDict P w d ep7 (kvs3 ++ [(t, k0, v)]))) := (ExT.of g57).trans x8
            have hv8 := hv.upT x8
            generalize upd G7 d (NDict P w d ep7 (kvs3 ++ [(t, k0, v)])) = G8 at *
            have hgvl : gv3.length ≤ bs3.length := by
              have h1 := hgs5.len
              have h2 := congrArg List.length hk4
              rw [List.length_append, List.length_map, List.length_map] at h2
              omega
            refine s_app (l := pg) (xs := gv3) (v := .ref py) hgl8 (ev_var rfl) (ev_var rfl) (by omega) (fun G9 g9 => ?_)
            have x10 : ExT G9 (upd G9 pg (.lst (gv3 ++ [.ref py]))) := ExT.lst (g9 _ _ hgl8)
            have x510 : ExT G5 (upd G9 pg (.lst (gv3 ++ [.ref py]))) := x58.trans ((ExT.of g9).trans x10)
            have e10 : Ex H1 (upd G9 pg (.lst (gv3 ++ [.ref py]))) := Ex.mut (e8.trans g9) hpg1
            have hli10 : (upd G9 pg (.lst (gv3 ++ [.ref py]))) pc = some (.lst fv) := by rw [upd_ne hpcg]; exact g9 _ _ hli8
            have hp10 : (upd G9 pg (.lst (gv3 ++ [.ref py]))) p = some (.lst us) := by rw [upd_ne hppg]; exact g9 _ _ hp8
            have S10 : SD P w (upd G9 pg (.lst (gv3 ++ [.ref py]))) d ep7 (kvs3 ++ [(t, k0, v)]) := (S7.upX g9).upT x10 (by rw [upd_ne hdg]; exact (S7.upX g9).at_)
            have hgl10 : (upd G9 pg (.lst (gv3 ++ [.ref py]))) pg = some (.lst (gv3 ++ [.ref py])) := upd_same
            have hv10 := hv8.upT ((ExT.of g9).trans x10)
            generalize upd G9 pg (.lst (gv3 ++ [.ref py])) = G10 at *
            have hk10 : (bs3 ++ [(t, some (st, k))]).map (·.1) = bs.map (·.1) ++ (kx3 ++ [t]) := by
              rw [List.map_append, hk4, List.append_assoc]
              rfl
            have hbm3 : (bs3[f + j]?).map (fun b : BE => b.1) = some st := by
              have h1 : (bs3.map (·.1))[f + j]? = some st := by
                rw [hk4, List.getElem?_append_left (List.getElem?_eq_some_iff.mp hst).1]
                exact hst
              rw [← h1, List.getElem?_map]
            refine ⟨ep7, kvs3 ++ [(t, k0, v)], bs3 ++ [(t, some (st, k))], kx3 ++ [t], gv3 ++ [.ref py], some (.int (k : Int)), some (.ref py), e10, S10, cm_app (M5.upT x510) (.cons ⟨rfl, hv10⟩ .nil), B4.snoc hbm3 hi ht hb1 hnk, hk10, hli10, hfr5.upT x510, hgl10, stdsI_app (hgs5.upT x510) (.cons (hT5.upT x510) .nil), fun n st' hn hs => ?_, hp10, hU5.upT x510, hppg, hppc, hX5.upT x510, ?_, rfl⟩
            · have h1 := hcl4 n st' hn hs
              rw [List.map_append]
              exact h1.more
            · rw [List.map_append]
              exact keep _ (fun _ => List.mem_append_right _ (List.mem_singleton.mpr rfl)) (fun z hz => List.mem_append_left _ hz)
          · refine ⟨ep3, kvs3, bs3, kx3, gv3, some (.int (k : Int)), some (.ref py), xE5.trans g6, S5.upX g6, M5.upT (ExT.of g6), B4, hk4, g6 _ _ hli5, hfr5.up g6, g6 _ _ hgl5, hgs5.up g6, hcl4, g6 _ _ hp5, hU5.up g6, hppg, hppc, hX5.up g6, ?_, rfl⟩
            refine keep _ (fun hlt => ?_) (fun z hz => hz)
            rw [hlr, decide_eq_true hlt] at hb
            have hsome : (lkS kvs3 t).isSome = true := by
              cases h : (lkS kvs3 t).isSome with
              | true => rfl
              | false => rw [h] at hb; cases hb
            have := (lkS_has S4.nd).mp hsome
            rw [M4.keys] at this
            exact this
        · rintro p us σ3 G4 ⟨ep3, kvs3, bs3, kx3, gv3, z6, z7, xE4, S4, M4, B4, hk4, hli4, hfr4, hgl4, hgs4, hcl4, hp4, hU4, hppg, hppc, hX4, hdone, rfl⟩
          refine ⟨ep3, kvs3, bs3, kx3, gv3, some (.ref px), z6, z7, xE4, S4, M4, B4, hk4, hli4, hfr4, hgl4, hgs4, fun n st' hn hs => ?_, rfl⟩
          by_cases h : n < f + j
          · exact hcl4 n st' h hs
          · have hn2 : n = f + j := by omega
            rw [hn2, hst] at hs
            cases hs
            intro t ht hl'
            rw [hi, Int.toNat_natCast] at ht
            obtain ⟨k', hk', he⟩ := List.mem_iff_getElem.mp ht
            exact hdone k' t (by rw [hU4.len]; exact hk') (by rw [List.getElem?_eq_getElem hk', he]) hl'
      · rintro σ2 G3 ⟨ep2, kvs2, bs2, kx, gv, y5, y6, y7, xE, S, M, B, hk, hli, hfr, hgl, hgs, hcl, rfl⟩
        refine s_asg (v := .ref pg) (ev_var rfl) (fun G4 g4 => ?_)
        refine ⟨ep2, kvs2, bs2, gv, pg, some (.ref pg), y5, y6, y7, ⟨xE.trans g4, S.upX g4, M.upT (ExT.of g4), B, fun h => ?_, g4 _ _ hgl, ?_, hpg1, ?_, fun n st hn hs => ?_⟩, rfl⟩
        · rw [hk]
          exact List.mem_append_left _ (I.st h)
        · rw [hk, List.drop_append_of_le_length (by rw [List.length_map]; exact Nat.le_refl _)]
          rw [List.drop_of_length_le (by rw [List.length_map]; exact Nat.le_refl _)]
          exact hgs.up g4
        · have h2 := congrArg List.length hk
          rw [List.length_append, List.length_map, List.length_map] at h2
          omega
        · have hfl2 : f + fv.length = bs.length := by
            have h1 := I.fr.len
            rw [List.length_drop, List.length_map] at h1
            have := I.le
            omega
          rw [hk, List.getElem?_append_left (by rw [List.length_map]; exact hn)] at hs
          exact hcl n st (by omega) hs
    · refine s_ret (ev_var rfl) (fun G2 g2 => ?_)
      have g02 := g1.trans g2
      refine q d ep kvs bs G2 hd0 ((e1.trans I.ex).trans g02) (I.sd.upX g02) (I.cm.upT (ExT.of g02)) I.bf (closed_reach I.st fun st hst => ?_)
      have hfl : f = bs.length := by
        have h1 := I.fr.len
        rw [List.length_drop, List.length_map] at h1
        have h2 : fv = [] := by
          cases fv with
          | nil => rfl
          | cons x t => cases hb
        rw [h2] at h1
        have := I.le
        simp at h1
        omega
      obtain ⟨n, hn, e⟩ := List.mem_iff_getElem.mp hst
      exact I.cl n st (by rw [List.length_map] at hn; omega) (by rw [List.getElem?_eq_getElem hn, e])
end
end BD
/-! ### a lambda that captures nothing, handed to min as its key -/
namespace LK
open PySem PySem.Spec PyProof.Rows L2 Evl
open LamX (TabB TabS CodeO ExtN)
/-- the lambda at f -/
def LamO (f : Addr) (q : Str) (params : Arguments) (body : Expr) (scope : Scope) (c : Addr) : HO := .ext fun h => ∃ pm ctv : Value, h.get? f = some (PySem.W.kla_obj "<lambda>" q params body scope [] pm c ctv)
theorem lamO_of {P : Program} {w : World} {H : Hp} {h : Heap} {f c : Addr} {q : Str} {params : Arguments} {body : Expr} {scope : Scope} {pm ctv : Value} (e : h.get? f = some (PySem.W.kla_obj "<lambda>" q params body scope [] pm c ctv)) : ObjOk P w H h f (LamO f q params body scope c) :=
  ⟨⟨pm, ctv, e⟩, ⟨_, e⟩, fun h1 h2 ⟨pm, ctv, e⟩ k => ⟨pm, ctv, k _ e⟩⟩
section
variable {X : Cx} {pins : List (Addr × Obj)} {σ : L2.St} {H : Hp} {s : Shared}
def tLamK (P : Addr) (q : Str) (params : Arguments) (body : Expr) (scope : Scope) : TE := fun σ H Q => TabS H P q ∧ ∀ f c H1, ExtN H H1 → TabS H1 P q → H f = none → H1 f = some (LamO f q params body scope c) → H1 c = some (CodeO c q) → Q (.ref f) H1
theorem pe_lamK {c P : Addr} {params : Arguments} {body : Expr} {scope : Scope} {pos : Pos} (TB : TabB X.base X.mg c P) (hcode : X.env.code = .ref c) (hdef : defaultsOf params X.env = ([], []) := by rfl) (hcl : closureFor scope X.env = pure [] := by rfl) :
    PE X (.Lambda params body scope pos) (tLamK P (X.env.qual ++ "<lambda>") params body scope) := by
  refine ⟨fun pins s σ H Q I hq => ?_⟩
  obtain ⟨⟨ps, hP, ht, ha⟩, h⟩ := hq
  refine PySem.W.kla_eval hdef ?_
  have bP : s.heap.BuiltinsAt X.mg P := TB.bm.keeps I.bk
  have hP' : s.heap.get? P = some { cls := .none, data := .fields ps } := I.hok P _ hP
  cases hc : codeAmong pos ps.toList with
  | none =>
    refine PySem.W.kla_makeFunction (mg := X.mg) (c := c) (P := P) (ps := ps) hcl I.ok.glob (I.mod.glob.keeps I.bk) hcode (TB.code.keeps I.bk) hP' ht hc TB.gP bP fun c' ctv h' tk hx hge hlt hrec htb => ?_
    obtain ⟨c2, oc, vs, t, e2, hoc, hd, hv⟩ := hrec
    cases e2
    have hsz : s.heap.objs.size ≤ h'.objs.size := Nat.le_trans hge (Nat.le_of_lt hlt)
    have nC : H c' = none := I.hok.fresh hge
    have I1 := LamX.inv_table (t' := tk) (more := #[rawInt pos.line, rawInt pos.col, .ref c']) (h' := h') I hP (fun b o hb e => hx b o hb e) htb hge ⟨oc, vs, t, hoc, hd, hv⟩
    have hE : ExtN H (upd (upd H P (.tbl (ps ++ #[rawInt pos.line, rawInt pos.col, .ref c']))) c' (CodeO c' (X.env.qual ++ "<lambda>"))) := fun b o e n => by
      rw [upd_ne (ne_of_none e nC), upd_ne (fun z => n ps (Option.some.inj (e.symm.trans (by rw [z]; exact hP))))]
      exact e
    have eL : (ps ++ #[rawInt pos.line, rawInt pos.col, .ref c']).toList = ps.toList ++ [rawInt pos.line, rawInt pos.col, .ref c'] := by simp
    have nP : P ≠ c' := ne_of_none hP nC
    have hf1 : (upd (upd H P (.tbl (ps ++ #[rawInt pos.line, rawInt pos.col, .ref c']))) c' (CodeO c' (X.env.qual ++ "<lambda>"))) h'.objs.size = none := by
      rw [upd_ne (Nat.ne_of_gt hlt), upd_ne (Nat.ne_of_gt (Nat.lt_of_lt_of_le (Heap.lt_size hP') hsz))]
      exact I.hok.fresh hsz
    have I2 := I1.laid (a := h'.objs.size) (o := LamO h'.objs.size (X.env.qual ++ "<lambda>") params body scope c') (t' := tk) (fun _ _ q => Heap.get?_push_of_some _ q) (Nat.le_refl _) (lamO_of (pm := (X.mg "__name__").getD .none) (ctv := ctv) (Heap.get?_push_size _ rfl))
    have hC1 : (upd (upd H P (.tbl (ps ++ #[rawInt pos.line, rawInt pos.col, .ref c']))) c' (CodeO c' (X.env.qual ++ "<lambda>"))) c' = some (CodeO c' (X.env.qual ++ "<lambda>")) := upd_same
    refine ⟨.ref h'.objs.size, _, I2, rfl, h h'.objs.size c' _ (fun b o e n => ?_) ⟨ps ++ #[rawInt pos.line, rawInt pos.col, .ref c'], ?_, by rw [eL]; exact PySem.TriplesOk_snoc _ _ _ _ ht, fun p' cv hcv => ?_⟩ (I.hok.fresh hsz) upd_same ?_⟩
    · rw [upd_ne (ne_of_none (hE b o e n) hf1)]
      exact hE b o e n
    · have : (upd (upd H P (.tbl (ps ++ #[rawInt pos.line, rawInt pos.col, .ref c']))) c' (CodeO c' (X.env.qual ++ "<lambda>"))) P = some (.tbl (ps ++ #[rawInt pos.line, rawInt pos.col, .ref c'])) := by rw [upd_ne nP, upd_same]
      rw [upd_ne (ne_of_none this hf1)]
      exact this
    · rw [eL] at hcv
      rcases LamX.among_app _ ht hcv with z | z
      · obtain ⟨c0, e1, e2⟩ := ha p' cv z
        have e3 := hE _ _ e2 LamX.codeO_ne
        exact ⟨c0, e1, by rw [upd_ne (ne_of_none e3 hf1)]; exact e3⟩
      · exact ⟨c', z, by rw [upd_ne (ne_of_none hC1 hf1)]; exact hC1⟩
    · rw [upd_ne (ne_of_none hC1 hf1)]
      exact hC1
  | some cv =>
    obtain ⟨c', e, hco⟩ := ha pos cv hc
    subst e
    refine PySem.W.kla_makeFunctionHit (mg := X.mg) (c := c) (P := P) (ps := ps) hcl I.ok.glob (I.mod.glob.keeps I.bk) hcode (TB.code.keeps I.bk) hP' ht hc bP fun ctv h' tk hx hsz => ?_
    have I1 : Inv X pins σ H { s with heap := h', toks := tk } := I.kept fun b o e => hx b o e
    have hf1 : H h'.objs.size = none := I.hok.fresh hsz
    have I2 := I1.laid (a := h'.objs.size) (o := LamO h'.objs.size (X.env.qual ++ "<lambda>") params body scope c') (t' := tk) (fun _ _ q => Heap.get?_push_of_some _ q) (Nat.le_refl _) (lamO_of (pm := (X.mg "__name__").getD .none) (ctv := ctv) (Heap.get?_push_size _ rfl))
    have up : ∀ b o, H b = some o → (upd H h'.objs.size (LamO h'.objs.size (X.env.qual ++ "<lambda>") params body scope c')) b = some o := fun b o e => by rw [upd_ne (ne_of_none e hf1)]; exact e
    refine ⟨.ref h'.objs.size, _, I2, rfl, h h'.objs.size c' _ (fun b o e _ => up b o e) ⟨ps, up _ _ hP, ht, fun p' cv hcv => ?_⟩ hf1 upd_same (up _ _ hco)⟩
    obtain ⟨c0, e1, e2⟩ := ha p' cv hcv
    exact ⟨c0, e1, up _ _ e2⟩
/-- the lambda is called -/
theorem lam_run {A : Around} {outer : List Env} {f c : Addr} {q : Str} {params : Arguments} {body : Expr} {scope : Scope} {N ps : List Str} {us : List Value} {vs : List V} {Q : VK} {E : XK} {k : Nat} {te : TE} {P : Program} {w : World} {K : PySem.W.Frag} {mg : Str → Option Value} {base : Heap} (hr : Room (k + 1) A) (e0 : Env0 P w K mg base A outer s H)
    (hf : H f = some (LamO f q params body scope c)) (hc : H c = some (CodeO c q)) (S : FnScope N ps scope) (hb : ∀ pm ctv : Value, bindArgs (PySem.W.kla_fn "<lambda>" q params body scope [] pm (.ref c) ctv) ⟨us, []⟩ = pure (ps.zip us)) (r : Vals vs us) (hl : vs.length = ps.length)
    (hbody : ∀ (A : Around) (s : Shared), Room k (A.deeper (envOfC q scope s.heap.objs.size f (.ref c))) → PE (cxOf CX0 P w K mg base N q scope f (.ref c) A outer s H E) body te) (hq : te (L2.start N vs) H Q) :
    codeAny (model P w) A (.call (.ref f) ⟨us, []⟩) (CR CX0 outer P w H s Q E) s := by
  obtain ⟨⟨pm, ctv, of1⟩, _, _⟩ := e0.hok f _ hf
  obtain ⟨⟨oc, ws, t, hoc, hdc, hvc⟩, _, _⟩ := e0.hok c _ hc
  have lim : s.heap.NoLimit := e0.mod.nolimit.keeps fun b o e => (e0.bs b o e).1
  have hkind : ∀ y ∈ ps.zip us, scope.names.lookup y.1 = some .local ∨ (scope.names.lookup y.1 = some .cell ∧ ((cellsFrom (s.heap.objs.size + 1) scope.names []).lookup y.1).isSome = true) := fun ⟨n, v⟩ hy => by
    rcases S.par n (List.of_mem_zip hy).1 with q | q
    · exact .inl q
    · exact .inr ⟨q, PySem.W.cellsFrom_some _ _ _ (.inl q)⟩
  refine PySem.W.kla_callFunE hr.depth of1 rfl S.co S.gen rfl ⟨c, oc, ws, t, rfl, hoc, hdc, hvc⟩ ?_
  rw [hb]
  refine wpAny_pure (wpAny_newFunctionEnv_cells S.kind hkind fun env he s1 x => ?_)
  subst he
  refine ⟨lim.keeps x.toInCall.keep, PySem.W.kla_codeExpr ?_⟩
  have I : Inv (cxOf CX0 P w K mg base N q scope f (.ref c) A outer s H E) [] (L2.start N vs) H s1 := inv_start S hr.hd e0 hl r x
  refine wpAny_mono ((hbody A s (hr.deeper _)).run [] s1 _ H _ I hq) (fun v s' hs => ?_) fun e s' hs => hs
  obtain ⟨w', H', J, rv, q⟩ := hs
  exact ⟨w', H', J.os, J.bare, J.base, J.hok, rv, q⟩
end
end LK
namespace LK
open PySem PySem.Spec PyProof.Rows L2 Evl BD
open LamX (TabB TabS CodeO ExtN)
/-- pairs in order -/
def leP (a b : Int × Int) : Prop := a.1 < b.1 ∨ (a.1 = b.1 ∧ a.2 ≤ b.2)
theorem leP_refl (a : Int × Int) : leP a a := .inr ⟨rfl, Int.le_refl _⟩
theorem leP_trans {a b c : Int × Int} (h : leP a b) (k : leP b c) : leP a c := by
  unfold leP at *
  omega
theorem lexLt_pair (a b : Int × Int) : HT.lexLt [a.1, a.2] [b.1, b.2] = decide (a.1 < b.1 ∨ (a.1 = b.1 ∧ a.2 < b.2)) := by
  simp only [HT.lexLt]
  by_cases h : a.1 = b.1
  · by_cases h2 : a.2 = b.2
    · simp [h, h2]
    · simp [h, h2]
  · simp [h]
/-- an object of one's own, that may be written: what must be seen of it -/
structure Own (X : Cx) (pins : List (Addr × Obj)) (b : Addr) : Prop where
  lo : b ≠ X.env.locals
  fs : b ∉ X.fs
  ex : b ∈ X.ex ∨ X.s_0.heap.objs.size ≤ b
  ce : ∀ x c, X.env.cells.lookup x = some c → c ≠ b
  pi : ∀ p ∈ X.pn ++ pins, p.1 ≠ b
section
variable {X : Cx} {pins : List (Addr × Obj)} {σ : L2.St} {H G : Hp} {s : Shared}
theorem own_new {b : Addr} (I : Inv X pins σ H s) (hb : s.heap.objs.size ≤ b) : Own X pins b := by
  obtain ⟨_, h1, h2, h3, h4, h5⟩ := I.fpOk hb (I.hok.fresh hb)
  exact ⟨h1, h2, h3, h4, h5⟩
/-- where the search stands: the best item and its key in the list at S -/
structure MS (X : Cx) (pins : List (Addr × Obj)) (σ : L2.St) (H G : Hp) (a I S : Addr) (xs : List V) (g : V → Int × Int) (j i : Nat) (s : Shared) : Prop where
  inv : ∃ (oI : Obj) (vb : Addr) (kb cp : Nat), Inv X (pins ++ [(S, seqObj "list" #[.ref vb, .ref kb] cp), (I, oI)]) σ G s ∧ xs[i]? = some (.ref vb) ∧ G kb = some (.tup [.int (g (.ref vb)).1, .int (g (.ref vb)).2])
  ex : Ex H G
  it : s.heap.IsListIter I a (j + 1)
  le : j + 1 ≤ xs.length
  best : ∀ j' y x, j' ≤ j → xs[j']? = some y → xs[i]? = some x → leP (g x) (g y)
/-- what may be asked of an item -/
structure MH (X : Cx) (pins : List (Addr × Obj)) (H : Hp) (a f c I S : Addr) (q : Str) (params : Arguments) (body : Expr) (scope : Scope) (xs : List V) (g : V → Int × Int) (its : List Value) : Prop where
  hd : X.A.handled = none
  aI : a ≠ I
  aS : a ≠ S
  SI : S ≠ I
  oI : Own X pins I
  oS : Own X pins S
  hl : SqL X.K H a xs
  hf : H f = some (LamO f q params body scope c)
  hc : H c = some (CodeO c q)
  it : ∀ x ∈ xs, ∃ t z, x = .ref t ∧ H t = some (.tup [.int (g x).1, .int (g x).2, z])
theorem inv_S {oS oI : Obj} {I S : Addr} (J : Inv X (pins ++ [(S, oS), (I, oI)]) σ G s) (SI : S ≠ I) (OI : Own X pins I) {h' : Heap} {tk : Nat} (hk : ∀ b o, b ∉ [I] → s.heap.get? b = some o → h'.get? b = some o) (hI : ∃ oI', h'.get? I = some oI' ∧ ∀ v, oI'.data ≠ .cell v) :
    ∃ oI', h'.get? I = some oI' ∧ Inv X (pins ++ [(S, oS), (I, oI')]) σ G { s with heap := h', toks := tk } := by
  have pI := J.pin (I, oI) (by simp)
  have pS := J.pin (S, oS) (by simp)
  have J1 : Inv X (pins ++ [(S, oS)]) σ G s := J.pins_of fun p hp => J.pin p (by
    rcases List.mem_append.mp hp with z | z
    · exact List.mem_append_right _ (List.mem_append_left _ z)
    · rcases List.mem_singleton.mp z with rfl
      simp)
  have J2 : Inv X (pins ++ [(S, oS)]) σ G { s with heap := h', toks := tk } := J1.turned (fun b o hb e => hk b o (by simpa using hb) e) pI.2.1 OI.lo OI.ex OI.ce fun p hp => by
    rcases List.mem_append.mp hp with z | z
    · exact OI.pi p (List.mem_append_left _ z)
    · rcases List.mem_append.mp z with z | z
      · exact OI.pi p (List.mem_append_right _ z)
      · rcases List.mem_singleton.mp z with rfl
        exact SI
  obtain ⟨oI', e, hn⟩ := hI
  refine ⟨oI', e, J2.pins_of fun p hp => ?_⟩
  rcases List.mem_append.mp hp with z | z
  · exact J2.pin p (List.mem_append_right _ (List.mem_append_left _ z))
  · rcases List.mem_cons.mp z with rfl | z
    · exact J2.pin _ (List.mem_append_right _ (List.mem_append_right _ List.mem_cons_self))
    · rcases List.mem_singleton.mp z with rfl
      exact ⟨e, pI.2.1, OI.lo, OI.fs, hn⟩
/-- the list at S is written -/
theorem inv_W {oS oI : Obj} {I S : Addr} (J : Inv X (pins ++ [(S, oS), (I, oI)]) σ G s) (SI : S ≠ I) (OS : Own X pins S) {h' : Heap} (hk : Heap.SameBut S s.heap h') {oS' : Obj} (e : h'.get? S = some oS') (hn : ∀ v, oS'.data ≠ .cell v) : Inv X (pins ++ [(S, oS'), (I, oI)]) σ G { s with heap := h' } := by
  have pI := J.pin (I, oI) (by simp)
  have pS := J.pin (S, oS) (by simp)
  have J1 : Inv X (pins ++ [(I, oI)]) σ G s := J.pins_of fun p hp => J.pin p (by
    rcases List.mem_append.mp hp with z | z
    · exact List.mem_append_right _ (List.mem_append_left _ z)
    · rcases List.mem_singleton.mp z with rfl
      simp)
  have J2 : Inv X (pins ++ [(I, oI)]) σ G { s with heap := h' } := J1.turned (t' := s.toks) (fun b o hb e => (hk.2 b hb).trans e) pS.2.1 OS.lo OS.ex OS.ce fun p hp => by
    rcases List.mem_append.mp hp with z | z
    · exact OS.pi p (List.mem_append_left _ z)
    · rcases List.mem_append.mp z with z | z
      · exact OS.pi p (List.mem_append_right _ z)
      · rcases List.mem_singleton.mp z with rfl
        exact SI.symm
  refine J2.pins_of fun p hp => ?_
  rcases List.mem_append.mp hp with z | z
  · exact J2.pin p (List.mem_append_right _ (List.mem_append_left _ z))
  · rcases List.mem_cons.mp z with rfl | z
    · exact ⟨e, pS.2.1, OS.lo, OS.fs, hn⟩
    · rcases List.mem_singleton.mp z with rfl
      exact J2.pin _ (List.mem_append_right _ (List.mem_append_right _ List.mem_cons_self))
/-- the key of an item -/
theorem key_run {f c : Addr} {q : Str} {params : Arguments} {body : Expr} {scope : Scope} {x : Str} {k : Nat} {t : Addr} {i j : Int} {z : V} {pn : List (Addr × Obj)} (I : Inv X pn σ G s) (hr : Room (k + 2) X.A) (hf : G f = some (LamO f q params body scope c)) (hc : G c = some (CodeO c q)) (S : FnScope [x] [x] scope)
    (hb : ∀ (pm ctv : Value) (u : Value), bindArgs (PySem.W.kla_fn "<lambda>" q params body scope [] pm (.ref c) ctv) ⟨[u], []⟩ = pure [(x, u)])
    (hbody : ∀ (A : Around) (s : Shared) (E : XK), PE (cxOf CX0 X.prog X.w X.K X.mg X.base [x] q scope f (.ref c) A X.stack s G E) body (tTup (tCons (tOp (rIxT X.K) (tVar 0) (tC (.int 0))) (tCons (tOp (rIxT X.K) (tVar 0) (tC (.int 1))) tNil))))
    (ht : G t = some (.tup [.int i, .int j, z])) {Q : Value → Shared → Prop} {E : Value → Shared → Prop} (h : ∀ p G' s', Inv X pn σ G' s' → Ex G G' → G' p = some (.tup [.int i, .int j]) → Q (.ref p) s') : wpAny (model X.prog X.w) X.A.in1 (call (.ref f) [.ref t]) Q E s := by
  have e0 : Env0 X.prog X.w X.K X.mg X.base X.A.in1 X.stack s G := ⟨I.env0.frames, I.env0.mod, I.env0.bs, I.env0.bsz, I.env0.funs, I.env0.frf, I.env0.hok, I.env0.bare⟩
  have hr1 : Room (k + 1) X.A.in1 := ⟨hr.hd, by have := hr.dp; show X.A.depth + 3 * (k + 1) + 5 < _; omega, by have := hr.un; show X.A.units + 1 + 16 * (k + 1) + 200 < _; omega⟩
  have hT : SqT X.K G t [.int i, .int j, z] := st_of ht
  refine wpAny_call (codeAny_mono (lam_run (vs := [.ref t]) (N := [x]) (ps := [x]) (E := E0) (Q := fun v G' => ∃ p, v = .ref p ∧ Ex G G' ∧ G' p = some (.tup [.int i, .int j])) hr1 e0 hf hc S (fun pm ctv => hb pm ctv _) (.cons rfl .nil) rfl (fun A s _ => hbody A s _) ?_) fun r s' hq => ?_)
  · exact (eu_tup (ea_cons (ev_ixT (ev_var rfl) hT ev_c (atI_nat (j := 0) rfl)) (ea_cons (ev_ixT (ev_var rfl) hT ev_c (atI_nat (j := 1) rfl)) ea_nil)) (Nat.le_of_ble_eq_true rfl) : EvU _ _ G [.int i, .int j]) G (Ex.refl G) _ fun p G' _ e h => ⟨p, rfl, e, h⟩
  · cases r with
    | error e => exact absurd hq (by intro z; exact z)
    | ok fl =>
      cases fl with
      | ret u =>
        obtain ⟨v, G', J, r, p, rfl, e, hp⟩ := I.after hq
        obtain rfl : u = Value.ref p := r
        exact h p G' s' J e hp
      | _ => exact absurd hq (by intro z; exact z)
theorem hname : (toString "min" ++ toString ".loop" : String) = "min.loop" := by decide
section
variable {a f c I S : Addr} {q x : Str} {params : Arguments} {body : Expr} {scope : Scope} {xs : List V} {g : V → Int × Int} {k : Nat} {R : Result → Shared → Prop}
theorem min_loop (hr : Room (k + 2) X.A) (aI : a ≠ I) (SI : S ≠ I) (OI : Own X pins I) (OS : Own X pins S) (hl : SqL X.K H a xs) (hf : H f = some (LamO f q params body scope c)) (hc : H c = some (CodeO c q)) (FS : FnScope [x] [x] scope)
    (it : ∀ x ∈ xs, ∃ t z, x = .ref t ∧ H t = some (.tup [.int (g x).1, .int (g x).2, z])) (hb : ∀ (pm ctv : Value) (u : Value), bindArgs (PySem.W.kla_fn "<lambda>" q params body scope [] pm (.ref c) ctv) ⟨[u], []⟩ = pure [(x, u)])
    (hbody : ∀ (G : Hp) (A : Around) (s : Shared) (E : XK), PE (cxOf CX0 X.prog X.w X.K X.mg X.base [x] q scope f (.ref c) A X.stack s G E) body (tTup (tCons (tOp (rIxT X.K) (tVar 0) (tC (.int 0))) (tCons (tOp (rIxT X.K) (tVar 0) (tC (.int 1))) tNil))))
    (hR : ∀ vb G' s', V.ref vb ∈ xs → (∀ y ∈ xs, leP (g (.ref vb)) (g y)) → Ex H G' → Inv X pins σ G' s' → R (.ok (.ret (.ref vb))) s') :
    ∀ (r j i : Nat) (G : Hp) (s : Shared), xs.length - (j + 1) = r → MS X pins σ H G a I S xs g j i s → codeAny (model X.prog X.w) X.A (.builtin "min.loop" ⟨[.ref I, .ref f, .ref S], []⟩) R s := by
  have hh := hr.hd
  intro r
  induction r with
  | zero =>
    intro j i G s hrr M
    obtain ⟨oI, vb, kb, cp, J, hvb, hkb⟩ := M.inv
    have hin : j + 1 = xs.length := by have := M.le; omega
    have pS := J.pin (S, seqObj "list" #[.ref vb, .ref kb] cp) (by simp)
    obtain ⟨its, rv, pl, hz⟩ := J.list (ex_l M.ex hl)
    have hsz : its.toArray.size = xs.length := by rw [List.size_toArray]; exact (Paired.length rv).symm
    have W := Walks.list (prog := X.prog) (w := X.w) (A := X.A.in1) hh I a aI its.toArray
    refine codeAny_builtin PySem.F.entry_min_loop ?_
    rw [Around.under_plainId PySem.F.plain_min_loop _]
    show wpAny _ X.A.in1 (seqItems? (.ref S) >>= _) _ _ _
    refine wpAny_bind (wpAny_seqItems pS.1 rfl ?_)
    show wpAny _ X.A.in1 (tryCatch (pyNext (.ref I)) _ >>= _) _ _ _
    refine wpAny_bind (wpAny_tryCatch (W.done _ _ _ ⟨by rw [hsz, ← hin]; exact M.it, pl.isList⟩ fun h' tk' hk' => ?_))
    have J1 : Inv X (pins ++ [(S, seqObj "list" #[.ref vb, .ref kb] cp)]) σ G s := J.pins_of fun p hp => J.pin p (by
      rcases List.mem_append.mp hp with z | z
      · exact List.mem_append_right _ (List.mem_append_left _ z)
      · rcases List.mem_singleton.mp z with rfl
        simp)
    have J2 : Inv X (pins ++ [(S, seqObj "list" #[.ref vb, .ref kb] cp)]) σ G { s with heap := h', toks := tk' } := J1.turned (fun b o hb e => hk' b o (by simpa using hb) e) (J.pin (I, oI) (by simp)).2.1 OI.lo OI.ex OI.ce fun p hp => by
      rcases List.mem_append.mp hp with z | z
      · exact OI.pi p (List.mem_append_left _ z)
      · rcases List.mem_append.mp z with z | z
        · exact OI.pi p (List.mem_append_right _ z)
        · rcases List.mem_singleton.mp z with rfl
          exact SI
    have pS2 := J2.pin (S, seqObj "list" #[.ref vb, .ref kb] cp) (by simp)
    have s1 := Heap.SameBut.update h' S (Obj.mapSeq fun _ => (#[] : Array Value))
    show wpAny _ X.A.in1 (updateSeq S (fun _ => #[]) >>= _) _ _ _
    refine wpAny_bind ?_
    refine wpAny_updateSeq pS2.1 rfl (wpAny_bind (wpAny_letGo (wpAny_pure ?_)))
    have J3 : Inv X pins σ G { s with heap := h'.update S (Obj.mapSeq fun _ => (#[] : Array Value)), toks := tk' } := (J2.unpinned (pins := pins)).turned (fun b o hb e => (s1.2 b hb).trans e) pS2.2.1 OS.lo OS.ex OS.ce OS.pi
    refine hR vb G _ (List.mem_of_getElem? hvb) (fun y hy => ?_) M.ex J3
    obtain ⟨j', hj', e⟩ := List.mem_iff_getElem.mp hy
    exact M.best j' y _ (by omega) (by rw [List.getElem?_eq_getElem hj', e]) hvb
  | succ r ih =>
    intro j i G s hrr M
    obtain ⟨oI, vb, kb, cp, J, hvb, hkb⟩ := M.inv
    have hlt : j + 1 < xs.length := by omega
    have pS := J.pin (S, seqObj "list" #[.ref vb, .ref kb] cp) (by simp)
    obtain ⟨its, rv, pl, hz⟩ := J.list (ex_l M.ex hl)
    have hsz : its.toArray.size = xs.length := by rw [List.size_toArray]; exact (Paired.length rv).symm
    have W := Walks.list (prog := X.prog) (w := X.w) (A := X.A.in1) hh I a aI its.toArray
    refine codeAny_builtin PySem.F.entry_min_loop ?_
    rw [Around.under_plainId PySem.F.plain_min_loop _]
    show wpAny _ X.A.in1 (seqItems? (.ref S) >>= _) _ _ _
    refine wpAny_bind (wpAny_seqItems pS.1 rfl ?_)
    show wpAny _ X.A.in1 (tryCatch (pyNext (.ref I)) _ >>= _) _ _ _
    refine wpAny_bind (wpAny_tryCatch (W.item (j + 1) _ _ _ (by rw [hsz]; exact hlt) ⟨M.it, pl.isList⟩ fun v h' tk' hP hst' hk' => ?_))
    have hv : its[j + 1]? = some v := by simpa using hP
    obtain ⟨oI', hoI', hoc, hod⟩ := id hst'.1
    have hxj := List.getElem?_eq_getElem hlt
    obtain ⟨u, hu, ru⟩ := paired_get rv hxj
    rw [hv] at hu
    cases hu
    obtain ⟨t, z, hxt, ht⟩ := it _ (List.getElem_mem hlt)
    rw [hxt] at ru hxj ht
    obtain rfl : v = Value.ref t := ru
    obtain ⟨oI2, eI2, J2⟩ := inv_S (tk := tk') J SI OI hk' ⟨oI', hoI', fun v z => by rw [hod] at z; cases z⟩
    show wpAny _ X.A.in1 (tryCatch (holding [.ref t] (call (.ref f) [.ref t])) _ >>= _) _ _ _
    refine wpAny_bind (wpAny_tryCatch (wpAny_holding (key_run J2 hr (M.ex _ _ hf) (M.ex _ _ hc) FS hb (fun A s E => hbody G A s E) (M.ex _ _ ht) fun kn G2 s2 J3 e2 hkn => ?_)))
    have eHG2 := M.ex.trans e2
    have pS3 := J3.pin (S, seqObj "list" #[.ref vb, .ref kb] cp) (by simp)
    have pI3 := J3.pin (I, oI2) (by simp)
    have hit2 : s2.heap.IsListIter I a (j + 1 + 1) := by
      have e3 : oI2 = oI' := by
        rw [hoI'] at eI2
        exact (Option.some.inj eI2).symm
      exact ⟨oI2, pI3.1, by rw [e3]; exact hoc, by rw [e3]; exact hod⟩
    have hkb2 := e2 _ _ hkb
    obtain ⟨_, i1, r1, p1⟩ := (show ObjOk X.prog X.w G2 s2.heap kn (.tup [.int (g (.ref t)).1, .int (g (.ref t)).2]) from J3.hok kn _ hkn)
    obtain ⟨_, i2, r2, p2⟩ := (show ObjOk X.prog X.w G2 s2.heap kb (.tup [.int (g (.ref vb)).1, .int (g (.ref vb)).2]) from J3.hok kb _ hkb2)
    have a1 : IntsAre i1.toArray.toList [(g (.ref t)).1, (g (.ref t)).2] := intsAre_of (ns := [(g (.ref t)).1, (g (.ref t)).2]) r1
    have a2 : IntsAre i2.toArray.toList [(g (.ref vb)).1, (g (.ref vb)).2] := intsAre_of (ns := [(g (.ref vb)).1, (g (.ref vb)).2]) r2
    show wpAny _ X.A.in1 (tryCatch (holding [.ref t, .ref kn] (compareOp .Lt (.ref kn) (.ref kb) >>= _)) _ >>= _) _ _ _
    refine wpAny_bind (wpAny_tryCatch (wpAny_holding (wpAny_bind (HT.lt_tupInts p1 p2 a1 a2 (by have := hr.un; show X.A.units + 1 < _; omega) ?_))))
    rw [lexLt_pair]
    refine wpAny_bind (wpAny_holding (wpAny_truthy_bool ?_))
    refine wpAny_bind (wpAny_letGo (wpAny_pure ?_))
    by_cases hb' : (g (.ref t)).1 < (g (.ref vb)).1 ∨ ((g (.ref t)).1 = (g (.ref vb)).1 ∧ (g (.ref t)).2 < (g (.ref vb)).2)
    · have s1 := Heap.SameBut.update s2.heap S (Obj.mapSeq fun _ => (#[.ref t, .ref kn] : Array Value))
      obtain ⟨c2, hc2⟩ : ∃ c2, (s2.heap.update S (Obj.mapSeq fun _ => (#[.ref t, .ref kn] : Array Value))).get? S = some (seqObj "list" #[.ref t, .ref kn] c2) := ⟨_, get?_update_seq pS3.1 fun _ => #[.ref t, .ref kn]⟩
      simp only [hb', decide_true, if_true]
      refine wpAny_bind ?_
      refine wpAny_updateSeq pS3.1 rfl (wpAny_bind (wpAny_letGo ?_))
      rw [hname]
      have J4 := inv_W J3 SI OS s1 hc2 (fun v z => by cases z)
      obtain ⟨oq, q1, q2, q3⟩ := hit2
      refine wpAny_pure ⟨plainId_quiet PySem.F.plain_min_loop _, ih (j + 1) (j + 1) G2 _ (by omega) ⟨⟨oI2, t, kn, c2, J4, hxj, hkn⟩, eHG2, ⟨oq, (s1.2 I SI.symm).trans q1, q2, q3⟩, hlt, fun j' y xx hj' hy hx => ?_⟩⟩
      rw [hxj] at hx
      cases hx
      by_cases e : j' = j + 1
      · subst e
        rw [hxj] at hy
        cases hy
        exact leP_refl _
      · refine leP_trans ?_ (M.best j' y _ (by omega) hy hvb)
        unfold leP
        omega
    · simp only [hb', decide_false, Bool.false_eq_true, if_false]
      refine wpAny_bind (wpAny_letGo ?_)
      rw [hname]
      refine wpAny_pure ⟨plainId_quiet PySem.F.plain_min_loop _, ih (j + 1) i G2 _ (by omega) ⟨⟨oI2, vb, kb, cp, J3, hvb, hkb2⟩, eHG2, hit2, hlt, fun j' y xx hj' hy hx => ?_⟩⟩
      by_cases e : j' = j + 1
      · subst e
        rw [hxj] at hy
        cases hy
        rw [hvb] at hx
        cases hx
        unfold leP
        omega
      · exact M.best j' y xx (by omega) hy hx
def rMinKey (K : PySem.W.Frag) (q : Str) (params : Arguments) (body : Expr) (scope : Scope) : List V → List V → Hp → VK → Prop := fun vs zs H Q => ∃ (a f c : Addr) (xs : List V) (g : V → Int × Int), vs = [.ref a] ∧ zs = [.ref f] ∧ SqL K H a xs ∧ xs ≠ [] ∧ H f = some (LamO f q params body scope c) ∧ H c = some (CodeO c q) ∧
  (∀ x ∈ xs, ∃ t z, x = .ref t ∧ H t = some (.tup [.int (g x).1, .int (g x).2, z])) ∧ ∀ x ∈ xs, (∀ y ∈ xs, leP (g x) (g y)) → ∀ H', Ex H H' → Q x H'
theorem cr_minKey (hr : Room (k + 2) X.A) (FS : FnScope [x] [x] scope) (hb : ∀ (c : Addr) (pm ctv u : Value), bindArgs (PySem.W.kla_fn "<lambda>" q params body scope [] pm (.ref c) ctv) ⟨[u], []⟩ = pure [(x, u)])
    (hbody : ∀ (f c : Addr) (G : Hp) (A : Around) (s : Shared) (E : XK), PE (cxOf CX0 X.prog X.w X.K X.mg X.base [x] q scope f (.ref c) A X.stack s G E) body (tTup (tCons (tOp (rIxT X.K) (tVar 0) (tC (.int 0))) (tCons (tOp (rIxT X.K) (tVar 0) (tC (.int 1))) tNil)))) :
    CallRK X (.builtin "min") [Str.ofString "key"] (rMinKey X.K q params body scope) := by
  intro pins s σ H vs zs us ws Q I0 rv rz h
  obtain ⟨a, f, c, xs, g, rfl, rfl, hl, hne, hf, hc, it, hq⟩ := h
  have hh := hr.hd
  obtain ⟨u, rfl, ru⟩ := vals1 rv
  obtain ⟨u2, rfl, ru2⟩ := vals1 rz
  obtain rfl : u = Value.ref a := ru
  obtain rfl : u2 = Value.ref f := ru2
  obtain ⟨its, rvs, pl, hz⟩ := I0.list hl
  obtain ⟨ol, hol, _⟩ := id pl.isList
  have hll : a < s.heap.objs.size := Heap.lt_size hol
  show wpAny _ X.A (call (.builtin "min") [.ref a] [(Str.ofString "key", .ref f)]) _ _ s
  refine kmk_tree PySem.F.kind_min PySem.F.plain_min PySem.F.entry_min (kmk_min_key _ _) ?_
  show wpAny _ X.A.in1 (Builtin.Builtins.bindParams "min" ["key", "default"] 0 ⟨[], [(Str.ofString "key", .ref f)]⟩ >>= _) _ _ s
  refine wpAny_bind (wpAny_of_eq (show Builtin.Builtins.bindParams "min" ["key", "default"] 0 ⟨[], [(Str.ofString "key", .ref f)]⟩ = pure [some (.ref f), none] from rfl) ?_)
  refine wpAny_bind (wpAny_pure ?_)
  refine wpAny_bind (wpAny_pyIter_list pl.isList ?_)
  refine wpAny_bind (wpAny_newList ?_ (Nat.zero_le _))
  rw [hname]
  have hS : (s.heap.push { cls := .type "list_iterator", data := .fields #[.ref a, .int 0 0] }).objs.size = s.heap.objs.size + 1 := size_push' ..
  have I1 : Inv X pins σ H { s with heap := s.heap.push { cls := .type "list_iterator", data := .fields #[.ref a, .int 0 0] } } := I0.kept (t' := s.toks) fun b o e => Heap.get?_push_of_some _ e
  have OI := own_new I0 (Nat.le_refl _)
  have OS := own_new I1 (Nat.le_refl _)
  have SI : (s.heap.push { cls := .type "list_iterator", data := .fields #[.ref a, .int 0 0] }).objs.size ≠ s.heap.objs.size := by rw [hS]; exact Nat.ne_of_gt (Nat.lt_succ_self _)
  have gI : ((s.heap.push { cls := .type "list_iterator", data := .fields #[.ref a, .int 0 0] }).push (seqObj "list" #[] 0)).get? s.heap.objs.size = some { cls := .type "list_iterator", data := .fields #[.ref a, .int 0 0] } := Heap.get?_push_of_some _ (Heap.get?_push_size _ rfl)
  have gS : ((s.heap.push { cls := .type "list_iterator", data := .fields #[.ref a, .int 0 0] }).push (seqObj "list" #[] 0)).get? (s.heap.push { cls := .type "list_iterator", data := .fields #[.ref a, .int 0 0] }).objs.size = some (seqObj "list" #[] 0) := Heap.get?_push_size _ rfl
  have I2 : Inv X pins σ H { s with heap := (s.heap.push { cls := .type "list_iterator", data := .fields #[.ref a, .int 0 0] }).push (seqObj "list" #[] 0) } := I1.kept (t' := s.toks) fun b o e => Heap.get?_push_of_some _ e
  have nI : H s.heap.objs.size = none := I0.hok.fresh (Nat.le_refl _)
  have nS : H (s.heap.push { cls := .type "list_iterator", data := .fields #[.ref a, .int 0 0] }).objs.size = none := I1.hok.fresh (Nat.le_refl _)
  generalize (s.heap.push { cls := .type "list_iterator", data := .fields #[.ref a, .int 0 0] }).objs.size = S at *
  generalize hIa : s.heap.objs.size = Ia at *
  have aI : a ≠ Ia := Nat.ne_of_lt hll
  have J : Inv X (pins ++ [(S, seqObj "list" #[] 0), (Ia, { cls := .type "list_iterator", data := .fields #[.ref a, .int 0 0] })]) σ H { s with heap := (s.heap.push { cls := .type "list_iterator", data := .fields #[.ref a, .int 0 0] }).push (seqObj "list" #[] 0) } := I2.pins_of fun p hp => by
    rcases List.mem_append.mp hp with z | z
    · exact I2.pin p (List.mem_append_right _ z)
    · rcases List.mem_cons.mp z with rfl | z
      · exact ⟨gS, nS, OS.lo, OS.fs, fun v z => by cases z⟩
      · rcases List.mem_singleton.mp z with rfl
        exact ⟨gI, nI, OI.lo, OI.fs, fun v z => by cases z⟩
  generalize hs2 : ({ s with heap := (s.heap.push { cls := .type "list_iterator", data := .fields #[.ref a, .int 0 0] }).push (seqObj "list" #[] 0) } : Shared) = s2 at *
  have gI2 : s2.heap.get? Ia = some { cls := .type "list_iterator", data := .fields #[.ref a, .int 0 0] } := by rw [← hs2]; exact gI
  have gS2 : s2.heap.get? S = some (seqObj "list" #[] 0) := by rw [← hs2]; exact gS
  obtain ⟨its2, rvs2, pl2, _⟩ := J.list hl
  have hpos : 0 < xs.length := by
    cases xs with
    | nil => exact absurd rfl hne
    | cons y t => exact Nat.succ_pos _
  have hsz : its2.toArray.size = xs.length := by rw [List.size_toArray]; exact (Paired.length rvs2).symm
  have W := Walks.list (prog := X.prog) (w := X.w) (A := X.A.in1) hh Ia a aI its2.toArray
  refine wpAny_pure ⟨plainId_quiet PySem.F.plain_min_loop _, ?_⟩
  refine codeAny_builtin PySem.F.entry_min_loop ?_
  rw [Around.under_plainId PySem.F.plain_min_loop _]
  show wpAny _ X.A.in1 (seqItems? (.ref _) >>= _) _ _ _
  refine wpAny_bind (wpAny_seqItems gS2 rfl ?_)
  show wpAny _ X.A.in1 (tryCatch (pyNext (.ref Ia)) _ >>= _) _ _ _
  refine wpAny_bind (wpAny_tryCatch (W.item 0 _ _ _ (by rw [hsz]; exact hpos) ⟨⟨_, gI2, rfl, rfl⟩, pl2.isList⟩ fun v h' tk' hP hst' hk' => ?_))
  have hv : its2[0]? = some v := by simpa using hP
  obtain ⟨oI', hoI', hoc, hod⟩ := id hst'.1
  have hxj := List.getElem?_eq_getElem hpos
  obtain ⟨u, hu, ru⟩ := paired_get rvs2 hxj
  rw [hv] at hu
  cases hu
  obtain ⟨t, z, hxt, ht⟩ := it _ (List.getElem_mem hpos)
  rw [hxt] at ru hxj ht
  obtain rfl : v = Value.ref t := ru
  obtain ⟨oI2, eI2, J2⟩ := inv_S (tk := tk') J SI OI hk' ⟨oI', hoI', fun v z => by rw [hod] at z; cases z⟩
  show wpAny _ X.A.in1 (tryCatch (holding [.ref t] (call (.ref f) [.ref t])) _ >>= _) _ _ _
  refine wpAny_bind (wpAny_tryCatch (wpAny_holding (key_run J2 hr hf hc FS (hb c) (fun A s E => hbody f c H A s E) ht fun kn G2 s3 J3 e2 hkn => ?_)))
  have pS3 := J3.pin (S, seqObj "list" #[] 0) (by simp)
  have pI3 := J3.pin (Ia, oI2) (by simp)
  have e3 : oI2 = oI' := by
    rw [hoI'] at eI2
    exact (Option.some.inj eI2).symm
  have s1 := Heap.SameBut.update s3.heap S (Obj.mapSeq fun _ => (#[.ref t, .ref kn] : Array Value))
  obtain ⟨c2, hc2⟩ : ∃ c2, (s3.heap.update S (Obj.mapSeq fun _ => (#[.ref t, .ref kn] : Array Value))).get? S = some (seqObj "list" #[.ref t, .ref kn] c2) := ⟨_, get?_update_seq pS3.1 fun _ => #[.ref t, .ref kn]⟩
  show wpAny _ X.A.in1 (updateSeq S (fun _ => #[.ref t, .ref kn]) >>= _) _ _ _
  refine wpAny_bind ?_
  refine wpAny_updateSeq pS3.1 rfl ?_
  rw [hname]
  have J4 := inv_W J3 SI OS s1 hc2 (fun v z => by cases z)
  refine wpAny_pure ⟨plainId_quiet PySem.F.plain_min_loop _, min_loop hr aI SI OI OS hl hf hc FS it (hb c) (fun G A s E => hbody f c G A s E) (fun vb G' s' hvb hmin e J' => ?_) _ 0 0 G2 _ rfl ⟨⟨oI2, t, kn, c2, J4, hxj, hkn⟩, e2, ⟨oI2, (s1.2 Ia SI.symm).trans pI3.1, by rw [e3]; exact hoc, by rw [e3]; exact hod⟩, hpos, fun j' y xx hj' hy hx => ?_⟩⟩
  · exact ⟨.ref vb, G', J', rfl, hq _ hvb hmin G' e⟩
  · have : j' = 0 := by omega
    subst this
    rw [hx] at hy
    cases hy
    exact leP_refl _
end
end
end LK
namespace BD
open PySem PySem.Spec PyProof.Rows L2 Evl LK
open LamX (TabS CodeO ExtN)
local macro_rules | `(tactic| walk_at "ev") => `(tactic| first
  | ((with_reducible apply ev_var) ; rfl)
  | with_reducible exact ev_c
  | ((with_reducible apply ev_I0) <;> walk_at "ev")
  | ((with_reducible apply ev_e9) <;> walk_at "ev")
  | ((with_reducible apply ev_I) <;> walk_at "ev")
  | ((with_reducible apply ev_eq) <;> walk_at "ev")
  | ((with_reducible apply ev_ne) <;> walk_at "ev")
  | ((with_reducible apply ev_neg) <;> walk_at "ev")
  | ((with_reducible apply ev_ixN) <;> walk_at "ev")
  | ((with_reducible apply ev_ixL) <;> walk_at "ev")
  | ((with_reducible apply ev_inN) <;> walk_at "ev")
  | ((with_reducible apply ev_inT) <;> walk_at "ev")
  | ((with_reducible apply ev_ixT) <;> walk_at "ev")
  | ((with_reducible apply ev_ixS) <;> walk_at "ev")
  | ((with_reducible apply ev_len') <;> walk_at "ev")
  | ((with_reducible apply et_test) <;> walk_at "ev")
  | ((with_reducible apply et_and) <;> walk_at "ev")
  | ((with_reducible apply et_or) <;> walk_at "ev")
  | ((with_reducible apply et_not) <;> walk_at "ev")
  | ((with_reducible apply et_B) <;> walk_at "ev")
  | ((with_reducible apply el_lst) <;> walk_at "ev")
  | ((with_reducible apply eu_tup) <;> walk_at "ev")
  | ((with_reducible apply ea_cons) <;> walk_at "ev")
  | with_reducible exact ea_nil
  | with_reducible assumption
  | ((with_reducible apply ex_l' ; assumption) ; walk_at "ex")
  | ((with_reducible apply ex_t' ; assumption) ; walk_at "ex")
  | (intro _ ; walk_at "ev")
  | (with_reducible first | exact atI_hd | exact at_kind | exact at2s | exact at3s | exact at3i)
  | (first | exact rfl | exact Nat.le_of_ble_eq_true rfl | exact ⟨by decide, by decide⟩ | decide | exact Or.inl ⟨by omega, by omega⟩ | exact Or.inr ⟨by omega, by omega⟩ | omega)
  | skip)
local macro_rules | `(tactic| walk_at "ex") => `(tactic| first
  | assumption
  | exact Ex.refl _
  | (refine' Ex.trans ?_ (by assumption) ; walk_at "ex"))
local macro_rules | `(tactic| walk_at "row") => `(tactic| first
  | (with_reducible exact er_nil)
  | ((with_reducible apply er_cons) <;> walk_at "row")
  | (((with_reducible apply er_var) ; rfl) ; walk_at "isrow")
  | (((with_reducible apply elr_var) ; rfl) ; walk_at "isrow")
  | ((with_reducible apply elr_cat) <;> walk_at "row")
  | ((with_reducible apply elr_lst) <;> walk_at "row")
  | ((with_reducible apply er_fin) <;> walk_at "ev")
  | ((with_reducible apply er_lendT) <;> walk_at "ev")
  | ((with_reducible apply er_lendW) <;> walk_at "ev")
  | ((with_reducible apply er_pick) <;> walk_at "ev")
  | ((with_reducible apply er_either) <;> walk_at "ev")
  | ((with_reducible apply er_or) <;> walk_at "ev")
  | ((with_reducible apply er_again) <;> walk_at "ev")
  | ((with_reducible apply er_back) <;> walk_at "ev")
  | ((with_reducible apply er_look) <;> walk_at "ev")
  | ((with_reducible apply er_change) <;> walk_at "ev")
  | exact Nat.le_of_ble_eq_true rfl
  | skip)
local macro_rules | `(tactic| walk_at "isrow") => `(tactic| first
  | assumption
  | (refine IsRow.up ?_ (by assumption) ; walk_at "ex")
  | (refine LRows.up ?_ (by assumption) ; walk_at "ex"))

abbrev s_first_fault : Stmt := topS 54
theorem sc_first_fault : FnScope ["rows", "came", "found", "standing", "word", "_", "rank"] ["rows", "came"] (defScope s_first_fault) := ⟨rfl, rfl, rfl, by decide +kernel, rfl, by decide +kernel, by decide +kernel⟩
def tMinLam (K : PySem.W.Frag) (P : Addr) (q : Str) (params : Arguments) (body : Expr) (scope : Scope) (tl : TE) : TE := tCKw (rMinKey K q params body scope) (tCons tl tNil) (tCons (tLamK P q params body scope) tNil)
theorem boot_min : bootBuiltins "min" = some (.builtin "min") := by decide +kernel
theorem pe_minLam {X : Cx} {c P : Addr} {x : Str} {params : Arguments} {e body : Expr} {scope : Scope} {p pos lpos kpos : Pos} {tl : TE} {k : Nat} (hr : Room (k + 2) X.A) (hg : Gl X "min") (hm : X.mg "min" = none) (TB : LamX.TabB X.base X.mg c P) (hcode : X.env.code = .ref c) (FS : FnScope [x] [x] scope)
    (hb : ∀ (c : Addr) (pm ctv u : Value), bindArgs (PySem.W.kla_fn "<lambda>" (X.env.qual ++ "<lambda>") params body scope [] pm (.ref c) ctv) ⟨[u], []⟩ = pure [(x, u)]) (ha : PE X e tl)
    (hbody : ∀ (f c : Addr) (G : Hp) (A : Around) (s : Shared) (E : XK), PE (cxOf CX0 X.prog X.w X.K X.mg X.base [x] (X.env.qual ++ "<lambda>") scope f (.ref c) A X.stack s G E) body (tTup (tCons (tOp (rIxT X.K) (tVar 0) (tC (.int 0))) (tCons (tOp (rIxT X.K) (tVar 0) (tC (.int 1))) tNil))))
    (hdef : defaultsOf params X.env = ([], []) := by rfl) (hcl : closureFor scope X.env = pure [] := by rfl) (hst : starEach [e] X.env = (false, eval e X.env) :: starEach [] X.env := by rfl)
    (he : backTo pos (starEach [e] X.env) = (false, eval e X.env) :: backTo pos (starEach [] X.env) := by rfl) (hpl : (backTo pos (starEach [e] X.env)).any (·.1) = false := by rfl) :
    PE X (.Call (.Name "min" p) [e] [⟨some "key", .Lambda params body scope lpos, kpos⟩] pos) (tMinLam X.K P (X.env.qual ++ "<lambda>") params body scope tl) :=
  pe_callBK (cr_minKey hr FS hb hbody) hg hm boot_min (pa_cons ha pa_nil hst) (pk_cons (pe_lamK TB hcode hdef hcl) pk_nil) (by decide) (by decide) he hpl rfl rfl rfl
section
variable {P : Program} {w : World} {K : PySem.W.Frag} {σ : L2.St} {H : Hp} {ta tl td : TE} {D : Ends} {tz tu : TS}
theorem extN_of {H H' : Hp} (e : Ex H H') : ExtN H H' := fun b o h _ => e b o h
theorem extN_trans {H H1 H2 : Hp} (a : ExtN H H1) (b : ExtN H1 H2) : ExtN H H2 := fun x o h n => b x o (a x o h n) n
theorem tabS_up {H H' : Hp} {P0 : Addr} {q : Str} (e : Ex H H') (h : TabS H P0 q) : TabS H' P0 q := by
  obtain ⟨ps, h1, h2, h3⟩ := h
  exact ⟨ps, e _ _ h1, h2, fun p c hc => let ⟨c0, a, b⟩ := h3 p c hc; ⟨c0, a, e _ _ b⟩⟩
/-- a, b, c = min(xs, key=lambda x: (x[0], x[1])) -/
theorem q_minLam {P0 a : Addr} {q : Str} {params : Arguments} {body : Expr} {scope : Scope} {xs : List V} {g : V → Int × Int} {i j k : Nat} (h : Ev tl σ H (.ref a)) (hl : H a = some (.lst xs)) (hne : xs ≠ []) (hT : TabS H P0 q) (it : ∀ x ∈ xs, ∃ t z, x = .ref t ∧ H t = some (.tup [.int (g x).1, .int (g x).2, z]))
    (kk : ∀ t z H', V.ref t ∈ xs → (∀ y ∈ xs, leP (g (.ref t)) (g y)) → ExtN H H' → TabS H' P0 q → H t = some (.tup [.int (g (.ref t)).1, .int (g (.ref t)).2, z]) → tz D (((σ.set i (some (.int (g (.ref t)).1))).set j (some (.int (g (.ref t)).2))).set k (some z)) H') :
    tSeq (tAsg (tMinLam K P0 q params body scope tl) (gTup K 3 (gCons (gName i) (gCons (gName j) (gCons (gName k) gNil))))) tz D σ H := h H (Ex.refl H) _ fun H1 e1 => ⟨tabS_up e1 hT, fun f c H2 e2 hT2 _ hf hc =>
  have e02 := extN_trans (extN_of e1) e2
  ⟨a, f, c, xs, g, rfl, rfl, sq_of (e02 _ _ hl (fun _ z => nomatch z)), hne, hf, hc, fun x hx => let ⟨t, z, e, ht⟩ := it x hx; ⟨t, z, e, e02 _ _ ht (fun _ z => nomatch z)⟩, fun x hx hmin H3 e3 => by
    obtain ⟨t, z, rfl, ht⟩ := it x hx
    have e03 := extN_trans e02 (extN_of e3)
    exact ⟨t, _, rfl, st_of (e03 _ _ ht (fun _ z => nomatch z)), rfl, _, _, rfl, _, _, rfl, _, _, rfl, rfl, kk t z H3 hx hmin e03 (tabS_up e3 hT2) ht⟩⟩⟩
theorem walk_nkeys {d : Addr} {ep : Nat} {kvs : List SX} : Walk (BD.Itn P w d ep kvs) kvs.length (fun H => H d = some (NDict P w d ep kvs)) (fun i H x H' => H' = H ∧ ∃ y, kvs[i]? = some y ∧ x = .ref y.2.1) :=
  ⟨fun i H hi q => ⟨q, hi⟩, fun H q => ⟨q, Nat.le_refl _⟩, fun _ _ _ _ _ _ y => y⟩
/-- for st in d -/
theorem q_forN {d : Addr} {ep : Nat} {kvs : List SX} {j : Nat} (h : Ev td σ H (.ref d)) (hd : H d = some (NDict P w d ep kvs)) (Pv : Nat → L2.St → Hp → Prop) (h0 : ∀ H1, Ex H H1 → Pv 0 σ H1) (hl : ∀ i σ' H', i ≤ kvs.length → Pv i σ' H' → H' d = some (NDict P w d ep kvs))
    (hs : ∀ (i : Nat) y σ' H', kvs[i]? = some y → Pv i σ' H' → tu { D with nx := Pv (i + 1), ct := Pv (i + 1), bk := tz D } (σ'.set j (some (.ref y.2.1))) H') (hz : ∀ σ' H', Pv kvs.length σ' H' → tz D σ' H') : tSeq (tFor (iNKeys P w td) (gName j) tu) tz D σ H :=
  h H (Ex.refl H) _ fun H1 e => ⟨d, ep, kvs, rfl, e _ _ hd, for_it (D := { D with nx := tz D }) walk_nkeys Pv (h0 H1 e) hl (fun i x σ' H' H2 hi p y => by
    obtain ⟨rfl, y, hy, rfl⟩ := y
    exact hs i y σ' H2 hy p) hz⟩
end
section
variable {P : Program} {w : World} {K : PySem.W.Frag} {mg : Str → Option Value} {base : Heap}
def faultAt (rs : List Rw) (st : SE) : Str := faultM (rs.getD st.1.toNat .fin) st.2
def rankF (u : Str) : Int := if u = "beside" then 0 else if u = "empty" then 1 else 2
def keyF (rs : List Rw) (st : SE) : Int × Int := (st.1, rankF (faultAt rs st))
theorem fault_is (r : Rw) (es : List Ent) : faultM r es = "" ∨ faultM r es = "beside" ∨ faultM r es = "empty" ∨ faultM r es = "asleep" := by
  unfold faultM
  split
  · exact .inr (.inl rfl)
  split
  · exact .inr (.inr (.inl rfl))
  split
  · exact .inr (.inr (.inr rfl))
  · exact .inl rfl
end
end BD
namespace BD
open PySem PySem.Spec PyProof.Rows L2 Evl LK GX
open LamX (TabS CodeO ExtN)
local macro_rules | `(tactic| walk_at "ev") => `(tactic| first
  | ((with_reducible apply ev_var) ; rfl)
  | with_reducible exact ev_c
  | ((with_reducible apply ev_I0) <;> walk_at "ev")
  | ((with_reducible apply ev_e9) <;> walk_at "ev")
  | ((with_reducible apply ev_I) <;> walk_at "ev")
  | ((with_reducible apply ev_eq) <;> walk_at "ev")
  | ((with_reducible apply ev_ne) <;> walk_at "ev")
  | ((with_reducible apply ev_neg) <;> walk_at "ev")
  | ((with_reducible apply ev_ixN) <;> walk_at "ev")
  | ((with_reducible apply ev_ixL) <;> walk_at "ev")
  | ((with_reducible apply ev_inN) <;> walk_at "ev")
  | ((with_reducible apply ev_inT) <;> walk_at "ev")
  | ((with_reducible apply ev_ixT) <;> walk_at "ev")
  | ((with_reducible apply ev_ixS) <;> walk_at "ev")
  | ((with_reducible apply ev_len') <;> walk_at "ev")
  | ((with_reducible apply et_test) <;> walk_at "ev")
  | ((with_reducible apply et_and) <;> walk_at "ev")
  | ((with_reducible apply et_or) <;> walk_at "ev")
  | ((with_reducible apply et_not) <;> walk_at "ev")
  | ((with_reducible apply et_B) <;> walk_at "ev")
  | ((with_reducible apply el_lst) <;> walk_at "ev")
  | ((with_reducible apply eu_tup) <;> walk_at "ev")
  | ((with_reducible apply ea_cons) <;> walk_at "ev")
  | with_reducible exact ea_nil
  | with_reducible assumption
  | ((with_reducible apply ex_l' ; assumption) ; walk_at "ex")
  | ((with_reducible apply ex_t' ; assumption) ; walk_at "ex")
  | (intro _ ; walk_at "ev")
  | (with_reducible first | exact atI_hd | exact at_kind | exact at2s | exact at3s | exact at3i)
  | (first | exact rfl | exact Nat.le_of_ble_eq_true rfl | exact ⟨by decide, by decide⟩ | decide | exact Or.inl ⟨by omega, by omega⟩ | exact Or.inr ⟨by omega, by omega⟩ | omega)
  | skip)
local macro_rules | `(tactic| walk_at "ex") => `(tactic| first
  | assumption
  | exact Ex.refl _
  | (refine' Ex.trans ?_ (by assumption) ; walk_at "ex"))
local macro_rules | `(tactic| walk_at "row") => `(tactic| first
  | (with_reducible exact er_nil)
  | ((with_reducible apply er_cons) <;> walk_at "row")
  | (((with_reducible apply er_var) ; rfl) ; walk_at "isrow")
  | (((with_reducible apply elr_var) ; rfl) ; walk_at "isrow")
  | ((with_reducible apply elr_cat) <;> walk_at "row")
  | ((with_reducible apply elr_lst) <;> walk_at "row")
  | ((with_reducible apply er_fin) <;> walk_at "ev")
  | ((with_reducible apply er_lendT) <;> walk_at "ev")
  | ((with_reducible apply er_lendW) <;> walk_at "ev")
  | ((with_reducible apply er_pick) <;> walk_at "ev")
  | ((with_reducible apply er_either) <;> walk_at "ev")
  | ((with_reducible apply er_or) <;> walk_at "ev")
  | ((with_reducible apply er_again) <;> walk_at "ev")
  | ((with_reducible apply er_back) <;> walk_at "ev")
  | ((with_reducible apply er_look) <;> walk_at "ev")
  | ((with_reducible apply er_change) <;> walk_at "ev")
  | exact Nat.le_of_ble_eq_true rfl
  | skip)
local macro_rules | `(tactic| walk_at "isrow") => `(tactic| first
  | assumption
  | (refine IsRow.up ?_ (by assumption) ; walk_at "ex")
  | (refine LRows.up ?_ (by assumption) ; walk_at "ex"))

abbrev lamN : Str := ("first_fault" : Str) ++ ".<locals>." ++ "<lambda>"
def gOf (H : Hp) : V → Int × Int
  | .ref t => match H t with
    | some (.tup [.int a, .int b, _]) => (a, b)
    | _ => (0, 0)
  | _ => (0, 0)
theorem gOf_eq {H : Hp} {t : Addr} {a b : Int} {z : V} (h : H t = some (.tup [.int a, .int b, z])) : gOf H (.ref t) = (a, b) := by
  show (match H t with
    | some (.tup [.int a, .int b, _]) => (a, b)
    | _ => (0, 0)) = (a, b)
  rw [h]
def faulty (rs : List Rw) (y : SX) : Bool := !decide (faultAt rs y.1 = "")
def FV (rs : List Rw) (H : Hp) (fv : List V) (l : List SX) : Prop := Paired (fun v (y : SX) => ∃ t, v = .ref t ∧ H t = some (.tup [.int (keyF rs y.1).1, .int (keyF rs y.1).2, .ref y.2.1])) fv l
theorem FV.upT {rs : List Rw} {H H' : Hp} (e : ExT H H') : ∀ {fv : List V} {l : List SX}, FV rs H fv l → FV rs H' fv l
  | _, _, .nil => .nil
  | _, _, .cons ⟨t, h1, h2⟩ s => .cons ⟨t, h1, e _ _ h2⟩ (FV.upT e s)
theorem FV.mem {rs : List Rw} {H : Hp} {v : V} : ∀ {fv : List V} {l : List SX}, FV rs H fv l → v ∈ fv → ∃ y ∈ l, ∃ t, v = .ref t ∧ H t = some (.tup [.int (keyF rs y.1).1, .int (keyF rs y.1).2, .ref y.2.1])
  | _, _, .nil, h => by cases h
  | _, _, .cons r s, h => by
    rcases List.mem_cons.mp h with z | z
    · rw [z]
      exact ⟨_, List.mem_cons_self, r⟩
    · obtain ⟨y, hy, q⟩ := FV.mem s z
      exact ⟨y, List.mem_cons_of_mem _ hy, q⟩
theorem FV.mem' {rs : List Rw} {H : Hp} {y : SX} : ∀ {fv : List V} {l : List SX}, FV rs H fv l → y ∈ l → ∃ t, V.ref t ∈ fv ∧ H t = some (.tup [.int (keyF rs y.1).1, .int (keyF rs y.1).2, .ref y.2.1])
  | _, _, .nil, h => by cases h
  | _, _, .cons ⟨t, h1, h2⟩ s, h => by
    rcases List.mem_cons.mp h with z | z
    · rw [z]
      exact ⟨t, by rw [h1]; exact List.mem_cons_self, h2⟩
    · obtain ⟨t, ht, q⟩ := FV.mem' s z
      exact ⟨t, List.mem_cons_of_mem _ ht, q⟩
section
variable {P : Program} {w : World} {K : PySem.W.Frag} {mg : Str → Option Value} {base : Heap}
theorem rank_at {u : Str} (h : u = "" ∨ u = "beside" ∨ u = "empty" ∨ u = "asleep") (hn : ¬ u = "") : ∃ j : Nat, rankF u = (j : Int) ∧ (["beside", "empty", "asleep"] : List Str)[j]? = some u ∧ ∀ m, m < j → (["beside", "empty", "asleep"] : List Str)[m]? ≠ some u := by
  rcases h with h | h | h | h
  · exact absurd h hn
  · subst h
    exact ⟨0, by decide +kernel, rfl, fun m hm => absurd hm (Nat.not_lt_zero m)⟩
  · subst h
    exact ⟨1, by decide +kernel, rfl, by decide +kernel⟩
  · subst h
    exact ⟨2, by decide +kernel, rfl, by decide +kernel⟩
theorem ev_tidx {σ : L2.St} {H : Hp} {ta tb : TE} {p : Addr} {ys : List Str} {z : Str} {j : Nat} (ha : Ev ta σ H (.ref p)) (hb : Ev tb σ H (.str z)) (hd : ∃ o, K.lookup p = some o ∧ o.cls = .type "tuple" ∧ o.dict = none) (hp : ∀ H, SqT K H p (ys.map V.str)) (h1 : ys[j]? = some z) (h2 : ∀ m, m < j → ys[m]? ≠ some z) :
    Ev (tBM K "tuple" (fun x xs H Q => ∃ p, ∃ ys : List Str, ∃ z j, x = .ref p ∧ xs = [.str z] ∧ SqT K H p (ys.map V.str) ∧ ys[j]? = some z ∧ (∀ m, m < j → ys[m]? ≠ some z) ∧ Q (.int (j : Nat)) H) ta (tCons tb tNil)) σ H (.int (j : Int)) := fun H1 e Q q =>
  ha H1 e _ fun H2 e2 => ⟨.inr (.inl ⟨rfl, hd⟩), hb H2 (e.trans e2) _ fun H3 e3 => ⟨p, ys, z, j, rfl, rfl, hp H3, h1, h2, q H3 (e2.trans e3)⟩⟩
def spFirst (P : Program) (w : World) (K : PySem.W.Frag) (cs : List (Addr × Addr)) (P4 : Addr) : Sp := fun vs H Q _ => ∃ (a d : Addr) (rv : List V) (rs : List Rw) (ep : Nat) (kvs : List SX), vs = [.ref a, .ref d] ∧ SqL K H a rv ∧ Rows H rv rs ∧ Sheet rs ∧ rs.length ≤ 40000 ∧ SD P w H d ep kvs ∧
  (∀ st ∈ kvs.map (·.1), ∃ i : Nat, st.1 = (i : Int) ∧ i < rs.length ∧ Std rs i st.2) ∧ (∀ p ∈ cs, H p.2 = some (TabX p.2)) ∧ TabS H P4 lamN ∧ ((∀ st ∈ kvs.map (·.1), faultAt rs st = "") → RetV .non H Q) ∧
  ∀ st ∈ kvs.map (·.1), ¬ faultAt rs st = "" → (∀ st' ∈ kvs.map (·.1), ¬ faultAt rs st' = "" → leP (keyF rs st) (keyF rs st')) → ∀ p b H', ExtN H H' → TabS H' P4 lamN → H' p = some (.tup [.ref b, .str (faultAt rs st)]) → AStand st.1 st.2 (.ref b) H' → Q (.ref p) H'
theorem AStand.upN {i : Int} {es : List Ent} {v : V} {H H' : Hp} (e : ExtN H H') (h : AStand i es v H) : AStand i es v H' := h.upT fun a xs hx => e a _ hx (fun _ z => nomatch z)
theorem ok_first {c P4 : Addr} {cs : List (Addr × Addr)} (D : DnC K mg "first_fault" s_first_fault ["rows", "came"] c) (hmin : mg "min" = none) (TB : LamX.TabB base mg c P4) {a_FAULTS : Addr} (g_FAULTS : mg "FAULTS" = some (.ref a_FAULTS)) (hFA : ∀ H, SqT K H a_FAULTS [.str "beside", .str "empty", .str "asleep"])
    (hFD : ∃ o, K.lookup a_FAULTS = some o ∧ o.cls = .type "tuple" ∧ o.dict = none) (h_fault : Has P w K mg base "fault" 4 ["rows", "standing"] (spPF K cs)) : Has P w K mg base "first_fault" 5 ["rows", "came"] (spFirst P w K cs P4) := by
  refine D.ok sc_first_fault (fun vs H Q E h => ?_) (fun f cdv A outer st H vs Q E hcd hr h => ?_)
  · obtain ⟨a, d, rv, rs, ep, kvs, rfl, _⟩ := h
    rfl
  · obtain ⟨a, d, rv, rs, ep, kvs, rfl, hS, hR, sh, hlen, S, hstd, hT, hTS, q1, q2⟩ := h
    refine ⟨_, (pss_cons (ps_set (i := 2) sc_first_fault.nd rfl (Or.inl rfl) (pe_lst pa_nil)) (pss_cons (ps_for PassesOwn.never rfl (pi_nkeys (pv 1)) (pg_name (i := 3) sc_first_fault.nd rfl (Or.inl rfl)) (pss_cons (ps_set (i := 4) sc_first_fault.nd rfl (Or.inl rfl) (pe_own h_fault (hr.mono (by decide)) (by rfl) (pa_cons (pv 0) (pa_cons (pv 3) pa_nil)))) (pss_one (ps_if (pt_cmpR op_ne (pv 4) pe_str (nomark _)) (pss_one (ps_expr (pe_bm PySem.F.plainAttrs_list PySem.F.slot_list_append PySem.F.type_list_append mt_append (pv 2) (pa_cons (pe_tup (pa_cons (pe_ix (show IxR _ (rIxT K) from ix_tup) (pv 3) pe_int (fun _ _ => rfl)) (pa_cons (pe_bm PySem.F.plainAttrs_tuple PySem.F.slot_tuple_index PySem.F.type_tuple_index mt_tup_index (pe_glob (v := .ref a_FAULTS) rfl g_FAULTS rfl) (pa_cons (pv 4) pa_nil)) (pa_cons (pv 3) pa_nil)))) pa_nil)))) pss_nil)))) (pss_cons (ps_if (pt_not (pt_truth (pv 2) (by intro _; rfl))) (pss_one (ps_ret pe_non)) pss_nil) (pss_cons (ps_asg (pe_minLam hr (by rfl) hmin TB hcd ⟨rfl, rfl, rfl, by decide +kernel, rfl, by decide +kernel, by decide +kernel⟩ (fun _ _ _ _ => rfl) (pv 2) (fun _ _ _ _ _ _ => (pe_tup (pa_cons (pe_ix (show IxR _ (rIxT K) from ix_tup) (pv 0) pe_int (fun _ _ => rfl)) (pa_cons (pe_ix (show IxR _ (rIxT K) from ix_tup) (pv 0) pe_int (fun _ _ => rfl)) pa_nil))))) (pg_tup rfl (pgs_cons (pg_name (i := 5) sc_first_fault.nd rfl (Or.inl rfl)) (pgs_cons (pg_name (i := 6) sc_first_fault.nd rfl (Or.inl rfl)) (pgs_cons (pg_name (i := 3) sc_first_fault.nd rfl (Or.inl rfl)) pgs_nil))))) (pss_one (ps_ret (pe_tup (pa_cons (pv 3) (pa_cons (pe_ix (show IxR _ (rIxT K) from ix_tup) (pe_glob (v := .ref a_FAULTS) rfl g_FAULTS rfl) (pv 6) (fun _ _ => rfl)) pa_nil))))))))), ?_⟩
    show (_ : L2.TS) _ [_, _, _, _, _, _, _] _
    refine q_asgL (xs := []) (el_lst ea_nil (by decide)) (fun pf H1 hpf e1 h1 => ?_)
    show (_ : L2.TS) _ [_, _, _, _, _, _, _] _
    refine q_forN (P := P) (w := w) (d := d) (ep := ep) (kvs := kvs) (ev_var rfl) (e1 _ _ S.at_) (fun n σ' G => Ex H G ∧ (∃ fv, G pf = some (.lst fv) ∧ FV rs G fv ((kvs.take n).filter (faulty rs))) ∧ ∃ x3 x4, σ' = [some (.ref a), some (.ref d), some (.ref pf), x3, x4, none, none]) ?_ (fun n σ' G _ h => h.1 _ _ S.at_) ?_ ?_
    · intro H2 e2
      exact ⟨e1.trans e2, ⟨[], e2 _ _ h1, .nil⟩, none, none, rfl⟩
    · rintro n y σ' G hy ⟨eG, ⟨fv, hfv, hF⟩, x3, x4, rfl⟩
      obtain ⟨i, hi, hil, hsd⟩ := hstd y.1 (List.mem_map.mpr ⟨y, List.mem_of_getElem? hy, rfl⟩)
      have hX : AStand y.1.1 y.1.2 (.ref y.2.1) G := (S.keys y (List.mem_of_getElem? hy)).up eG
      have hX' : AStand (i : Int) y.1.2 (.ref y.2.1) G := by rw [← hi]; exact hX
      have hg := List.getElem?_eq_getElem hil
      have hfa : faultAt rs y.1 = faultM rs[i] y.1.2 := by
        unfold faultAt
        rw [hi, Int.toNat_natCast, List.getD_eq_getElem?_getD, hg]
        rfl
      obtain ⟨px, pq, hv, hpxe, hpx, _, _⟩ := id hX
      cases hpxe
      dsimp only [List.set]
      have htk : kvs.take (n + 1) = kvs.take n ++ [y] := by rw [List.take_add_one, hy]; rfl
      have hfl : (kvs.take (n + 1)).filter (faulty rs) = (kvs.take n).filter (faulty rs) ++ [y].filter (faulty rs) := by rw [htk, List.filter_append]
      refine q_asg (v := .str (faultAt rs y.1)) ?_ (fun G1 g1 => ?_)
      · rw [hfa]
        exact ev_call (ea_cons (ev_var rfl) (ea_cons (ev_var rfl) ea_nil)) fun G2 g2 Q q E => ⟨a, .ref y.2.1, rv, rs, i, y.1.2, rs[i], rfl, ex_l (eG.trans g2) hS, hR.up (eG.trans g2), hX'.up g2, sh, hsd, hg, hlen, fun p hp => (eG.trans g2) _ _ (hT p hp), q⟩
      show (_ : L2.TS) _ [_, _, _, _, _, _, _] _
      have e01 := eG.trans g1
      refine s_when (b := !decide (V.str (faultAt rs y.1) = V.str "")) (et_test (ev_ne (ev_var rfl) ev_c rfl)) (fun hb G2 g2 => ?_) (fun hb G2 g2 => ?_)
      · rw [dec_str, Bool.not_eq_true', decide_eq_false_iff_not] at hb
        have his : faultAt rs y.1 = "" ∨ faultAt rs y.1 = "beside" ∨ faultAt rs y.1 = "empty" ∨ faultAt rs y.1 = "asleep" := fault_is _ _
        obtain ⟨j, hj, hj1, hj2⟩ := rank_at his hb
        have hfvl : fv.length < 100000 := by
          have h3 := Paired.length hF
          have h4 := List.length_filter_le (faulty rs) (kvs.take n)
          have h5 := S.len
          have h6 := (List.getElem?_eq_some_iff.mp hy).1
          rw [List.length_take] at h4
          omega
        refine s_appU (K := K) (xs := fv) ((g1.trans g2) _ _ hfv) (ev_var rfl) (eu_tup (ea_cons (ev_ixT (ev_var rfl) (st_of ((g1.trans g2) _ _ hpx)) ev_c atI_hd) (ea_cons (ev_tidx (ys := ["beside", "empty", "asleep"]) ev_c (ev_var rfl) hFD hFA hj1 hj2) (ea_cons (ev_var rfl) ea_nil))) (Nat.le_of_ble_eq_true rfl)) hfvl (fun p G3 hp g3 h3 => ?_)
        have g13 := g1.trans (g2.trans g3)
        have x4 : ExT G3 (upd G3 pf (.lst (fv ++ [.ref p]))) := ExT.lst (g13 _ _ hfv)
        refine ⟨Ex.mut (eG.trans g13) hpf, ⟨fv ++ [.ref p], upd_same, ?_⟩, some (.ref y.2.1), some (.str (faultAt rs y.1)), rfl⟩
        rw [hfl]
        have hfy : faulty rs y = true := by
          unfold faulty
          rw [decide_eq_false hb]
          rfl
        rw [List.filter_cons, if_pos hfy]
        refine paired_app (hF.upT ((ExT.of g13).trans x4)) (.cons ⟨p, rfl, x4 _ _ ?_⟩ .nil)
        rw [h3]
        show some (HO.tup [.int y.1.1, .int (j : Int), .ref y.2.1]) = some (.tup [.int (keyF rs y.1).1, .int (keyF rs y.1).2, .ref y.2.1])
        unfold keyF
        rw [hj]
      · rw [dec_str, Bool.not_eq_false', decide_eq_true_eq] at hb
        refine ⟨e01.trans g2, ⟨fv, (g1.trans g2) _ _ hfv, ?_⟩, some (.ref y.2.1), some (.str (faultAt rs y.1)), rfl⟩
        have hfy : faulty rs y = false := by
          unfold faulty
          rw [hb, decide_eq_true rfl]
          rfl
        rw [hfl, List.filter_cons, if_neg (by rw [hfy]; decide)]
        show FV rs G2 fv (_ ++ [])
        rw [List.append_nil]
        exact hF.upT (ExT.of (g1.trans g2))
    · rintro σ' G ⟨eG, ⟨fv, hfv, hF⟩, x3, x4, rfl⟩
      rw [List.take_length] at hF
      refine q_when (b := fv.isEmpty) (et_is (et_not (et_truL (K := K) (ev_var rfl) (sq_of hfv))) (by simp)) (fun hb G1 g1 => ?_) (fun hb G1 g1 => ?_)
      · refine s_ret ev_c (fun G2 g2 => q1 (fun st hst => ?_) G2 (eG.trans (g1.trans g2)))
        obtain ⟨y, hy, rfl⟩ := List.mem_map.mp hst
        have h0 : fv = [] := List.isEmpty_iff.mp hb
        rw [h0] at hF
        have h2 : kvs.filter (faulty rs) = [] := List.length_eq_zero_iff.mp (Paired.length hF).symm
        have h3 := List.filter_eq_nil_iff.mp h2 y hy
        unfold faulty at h3
        simpa using h3
      have hne : fv ≠ [] := fun z => by rw [z] at hb; cases hb
      have hF1 := hF.upT (ExT.of g1)
      have e01 := eG.trans g1
      refine q_minLam (g := gOf G1) (ev_var rfl) (g1 _ _ hfv) hne (tabS_up e01 hTS) (fun x hx => ?_) (fun t z G2 hx hmn e2 hT2 ht => ?_)
      · obtain ⟨y, _, t, rfl, h2⟩ := hF1.mem hx
        exact ⟨t, _, rfl, by rw [gOf_eq h2]; exact h2⟩
      · obtain ⟨y, hy, t', ht', h2⟩ := hF1.mem hx
        cases ht'
        have hgk := gOf_eq h2
        rw [hgk] at ht
        rw [h2] at ht
        have hz : z = .ref y.2.1 := by
          have := Option.some.inj ht
          simp only [HO.tup.injEq, List.cons.injEq, and_true] at this
          exact this.2.2.symm
        subst hz
        obtain ⟨hyk, hyf⟩ := List.mem_filter.mp hy
        have hyn : ¬ faultAt rs y.1 = "" := by
          unfold faulty at hyf
          simpa using hyf
        rw [hgk]
        dsimp only [List.set]
        have his : faultAt rs y.1 = "" ∨ faultAt rs y.1 = "beside" ∨ faultAt rs y.1 = "empty" ∨ faultAt rs y.1 = "asleep" := fault_is _ _
        obtain ⟨j, hj, hj1, hj2⟩ := rank_at his hyn
        have hat : atI ((["beside", "empty", "asleep"] : List Str).map V.str) (keyF rs y.1).2 = some (.str (faultAt rs y.1)) := by
          show atI _ (rankF (faultAt rs y.1)) = _
          rw [hj]
          exact atI_nat (by rw [List.getElem?_map, hj1]; rfl)
        refine (eu_tup (ea_cons (ev_var rfl) (ea_cons (ev_ixT ev_c (hFA G2) (ev_var rfl) hat) ea_nil)) (Nat.le_of_ble_eq_true rfl) : EvU _ _ G2 [.ref y.2.1, .str (faultAt rs y.1)]) G2 (Ex.refl G2) _ fun p G3 _ g3 h3 => ?_
        have eN : ExtN H G3 := extN_trans (extN_trans (extN_of e01) e2) (extN_of g3)
        refine q2 y.1 (List.mem_map.mpr ⟨y, hyk, rfl⟩) hyn (fun st' hst' hn' => ?_) p y.2.1 G3 eN (tabS_up g3 hT2) h3 (AStand.upN eN (S.keys y hyk))
        obtain ⟨y', hy', rfl⟩ := List.mem_map.mp hst'
        obtain ⟨t2, ht2, h4⟩ := hF1.mem' (y := y') (List.mem_filter.mpr ⟨hy', by unfold faulty; simpa using hn'⟩)
        have h5 := hmn _ ht2
        rw [hgk, gOf_eq h4] at h5
        exact h5
end
end BD
namespace BD
open PySem PySem.Spec PyProof.Rows L2 Evl
local macro_rules | `(tactic| walk_at "ev") => `(tactic| first
  | ((with_reducible apply ev_var) ; rfl)
  | with_reducible exact ev_c
  | ((with_reducible apply ev_I0) <;> walk_at "ev")
  | ((with_reducible apply ev_e9) <;> walk_at "ev")
  | ((with_reducible apply ev_I) <;> walk_at "ev")
  | ((with_reducible apply ev_eq) <;> walk_at "ev")
  | ((with_reducible apply ev_ne) <;> walk_at "ev")
  | ((with_reducible apply ev_neg) <;> walk_at "ev")
  | ((with_reducible apply ev_ixN) <;> walk_at "ev")
  | ((with_reducible apply ev_ixL) <;> walk_at "ev")
  | ((with_reducible apply ev_inN) <;> walk_at "ev")
  | ((with_reducible apply ev_inT) <;> walk_at "ev")
  | ((with_reducible apply ev_ixT) <;> walk_at "ev")
  | ((with_reducible apply ev_ixS) <;> walk_at "ev")
  | ((with_reducible apply ev_len') <;> walk_at "ev")
  | ((with_reducible apply et_test) <;> walk_at "ev")
  | ((with_reducible apply et_and) <;> walk_at "ev")
  | ((with_reducible apply et_or) <;> walk_at "ev")
  | ((with_reducible apply et_not) <;> walk_at "ev")
  | ((with_reducible apply et_B) <;> walk_at "ev")
  | ((with_reducible apply el_lst) <;> walk_at "ev")
  | ((with_reducible apply eu_tup) <;> walk_at "ev")
  | ((with_reducible apply ea_cons) <;> walk_at "ev")
  | with_reducible exact ea_nil
  | with_reducible assumption
  | ((with_reducible apply ex_l' ; assumption) ; walk_at "ex")
  | ((with_reducible apply ex_t' ; assumption) ; walk_at "ex")
  | (intro _ ; walk_at "ev")
  | (with_reducible first | exact atI_hd | exact at_kind | exact at2s | exact at3s | exact at3i)
  | (first | exact rfl | exact Nat.le_of_ble_eq_true rfl | exact ⟨by decide, by decide⟩ | decide | exact Or.inl ⟨by omega, by omega⟩ | exact Or.inr ⟨by omega, by omega⟩ | omega)
  | skip)
local macro_rules | `(tactic| walk_at "ex") => `(tactic| first
  | assumption
  | exact Ex.refl _
  | (refine' Ex.trans ?_ (by assumption) ; walk_at "ex"))
local macro_rules | `(tactic| walk_at "row") => `(tactic| first
  | (with_reducible exact er_nil)
  | ((with_reducible apply er_cons) <;> walk_at "row")
  | (((with_reducible apply er_var) ; rfl) ; walk_at "isrow")
  | (((with_reducible apply elr_var) ; rfl) ; walk_at "isrow")
  | ((with_reducible apply elr_cat) <;> walk_at "row")
  | ((with_reducible apply elr_lst) <;> walk_at "row")
  | ((with_reducible apply er_fin) <;> walk_at "ev")
  | ((with_reducible apply er_lendT) <;> walk_at "ev")
  | ((with_reducible apply er_lendW) <;> walk_at "ev")
  | ((with_reducible apply er_pick) <;> walk_at "ev")
  | ((with_reducible apply er_either) <;> walk_at "ev")
  | ((with_reducible apply er_or) <;> walk_at "ev")
  | ((with_reducible apply er_again) <;> walk_at "ev")
  | ((with_reducible apply er_back) <;> walk_at "ev")
  | ((with_reducible apply er_look) <;> walk_at "ev")
  | ((with_reducible apply er_change) <;> walk_at "ev")
  | exact Nat.le_of_ble_eq_true rfl
  | skip)
local macro_rules | `(tactic| walk_at "isrow") => `(tactic| first
  | assumption
  | (refine IsRow.up ?_ (by assumption) ; walk_at "ex")
  | (refine LRows.up ?_ (by assumption) ; walk_at "ex"))

abbrev s_choices_to : Stmt := topS 55
theorem sc_choices_to : FnScope ["rows", "came", "standing", "choices", "step", "earlier", "way"] ["rows", "came", "standing"] (defScope s_choices_to) := ⟨rfl, rfl, rfl, by decide +kernel, rfl, by decide +kernel, by decide +kernel⟩
/-! ### the choices of a run that comes to a standing -/
inductive Path (rs : List Rw) : SE → List Int → Nat → Prop
  | start : 0 < rs.length → Path rs (0, []) [] 0
  | step {i k : Nat} {es : List Ent} {t : SE} {r : Rw} {cs : List Int} {n : Nat} : Path rs ((i : Int), es) cs n → rs[i]? = some r → (onM rs i es)[k]? = some t → t.1 < (rs.length : Int) → Path rs t (cs ++ if r.takes = true then [(k : Int)] else []) (n + 1)
theorem Path.reach {rs : List Rw} {st : SE} {cs : List Int} {n : Nat} (h : Path rs st cs n) : Reach rs st := by
  induction h with
  | start h => exact .start h
  | step _ _ hk hl ih => exact .step ih (List.mem_of_getElem? hk) hl
theorem Path.pos {rs : List Rw} {st : SE} {cs : List Int} {n : Nat} (h : Path rs st cs n) : ∀ c ∈ cs, 0 ≤ c := by
  induction h with
  | start _ => exact fun c hc => nomatch hc
  | @step i k es t r cs n _ _ _ _ ih =>
    intro c hc
    rcases List.mem_append.mp hc with z | z
    · exact ih c z
    · split at z
      · rcases List.mem_singleton.mp z with rfl
        exact Int.natCast_nonneg k
      · cases z
theorem onM_one {rs : List Rw} {i : Nat} {es : List Ent} {r : Rw} (h : rs[i]? = some r) (ht : r.takes = false) : (onM rs i es).length = 1 := by
  unfold onM
  rw [h]
  cases r <;> first | rfl | (cases ht)
/-- a run by these choices comes there, and goes on by what is left -/
theorem path_run {rs : List Rw} (sh : Sheet rs) {st : SE} {cs : List Int} {n : Nat} (h : Path rs st cs n) : ∀ cs', ∃ (i : Nat) (dn : List (Nat × List Ent)), dn.length = n ∧ st.1 = (i : Int) ∧ Std rs i st.2 ∧ dn.length + mu rs i cs'.length ≤ mu rs 0 (cs ++ cs').length ∧
    ∀ F, dn.length ≤ F → runF rs F 0 [] (cs ++ cs') = dn ++ runF rs (F - dn.length) i st.2 cs' := by
  induction h with
  | start h0 => exact fun cs' => ⟨0, [], rfl, rfl, std0 rs, by show 0 + _ ≤ _; rw [Nat.zero_add]; exact Nat.le_refl _, fun F _ => rfl⟩
  | @step i k es t r cs n hp hr hk hl ih =>
    intro cs'
    obtain ⟨i', dn, hdn, hi, hs, hm, hrun⟩ := ih ((if r.takes = true then [(k : Int)] else []) ++ cs')
    have hii : i = i' := Int.ofNat.inj hi
    subst hii
    have ok := hs.ok sh
    have hkl := (List.getElem?_eq_some_iff.mp hk).1
    have htk : takeC r ((if r.takes = true then [(k : Int)] else []) ++ cs') = (k : Int) := by
      unfold takeC
      cases ht : r.takes with
      | true => rfl
      | false =>
        have := onM_one (es := es) hr ht
        have : k = 0 := by omega
        rw [this]
        rfl
    have hlf : leftC r ((if r.takes = true then [(k : Int)] else []) ++ cs') = cs' := by
      unfold leftC
      cases ht : r.takes <;> rfl
    obtain ⟨j, hg⟩ := goes (c := takeC r ((if r.takes = true then [(k : Int)] else []) ++ cs')) sh hs hr
    have hfall := mu_falls sh hr hg
    rw [hlf] at hfall
    have hgo := onM_go hr ok (takeC r ((if r.takes = true then [(k : Int)] else []) ++ cs'))
    have ht1 : goM rs i es (takeC r ((if r.takes = true then [(k : Int)] else []) ++ cs')) = t := by
      rw [← hgo, htk]
      have hm2 : ((k : Int) % ((onM rs i es).length : Int)).toNat = k := by
        rw [Int.emod_eq_of_lt (by omega) (by omega), Int.toNat_natCast]
      rw [hm2, List.getD_eq_getElem?_getD, hk]
      rfl
    have hat := hg.at_
    have hstd := hg.std
    rw [ht1] at hat hstd
    refine ⟨j, dn ++ [(i, es)], by rw [List.length_append, hdn]; rfl, hat, hstd, ?_, fun F hF => ?_⟩
    · rw [List.append_assoc]
      rw [List.length_append]
      show dn.length + 1 + _ ≤ _
      omega
    · rw [List.length_append] at hF
      have hF1 : dn.length + 1 ≤ F := hF
      obtain ⟨f, hf⟩ : ∃ f, F - dn.length = f + 1 := ⟨F - dn.length - 1, by omega⟩
      rw [List.append_assoc, hrun F (by omega), hf, runF_go hr, hlf, ht1, hat, Int.toNat_natCast, List.append_assoc]
      have hf2 : F - (dn ++ [(i, es)]).length = f := by
        rw [List.length_append]
        show F - (dn.length + 1) = f
        omega
      rw [hf2]
      rfl
/-- a run is no longer than its measure -/
theorem runF_len {rs : List Rw} (sh : Sheet rs) : ∀ (f i : Nat) (es : List Ent) (cs : List Int), Std rs i es → (runF rs f i es cs).length ≤ mu rs i cs.length
  | 0, _, _, _, _ => Nat.zero_le _
  | f + 1, i, es, cs, hs => by
    cases hr : rs[i]? with
    | none => rw [runF_stop hr]; exact Nat.zero_le _
    | some r =>
      obtain ⟨j, hg⟩ := goes (c := takeC r cs) sh hs hr
      have hf := mu_falls sh hr hg
      rw [runF_go hr, List.length_cons, hg.at_, Int.toNat_natCast]
      have := runF_len sh f j (goM rs i es (takeC r cs)).2 (leftC r cs) hg.std
      omega
theorem path_in {rs : List Rw} (sh : Sheet rs) {st : SE} {cs : List Int} {n : Nat} (h : Path rs st cs n) : ∃ i : Nat, st.1 = (i : Int) ∧ (i, st.2) ∈ runM rs cs ∧ (runM rs cs).length ≤ n + (2 * rs.length + 2) := by
  obtain ⟨j, hj, hjl, _⟩ := reach_std sh h.reach
  obtain ⟨i, dn, hdn, hi, hs, hm, hrun⟩ := path_run sh h []
  have hij : i = j := Int.ofNat.inj (hi.symm.trans hj)
  subst hij
  rw [List.append_nil] at hm hrun
  have hp := mu_pos sh (k := 0) (show i ≤ rs.length by omega)
  have hm' : dn.length + mu rs i 0 ≤ mu rs 0 cs.length := hm
  have h1 := hrun (mu rs 0 cs.length) (by omega)
  have h2 := runF_len sh (mu rs 0 cs.length - dn.length) i st.2 [] hs
  refine ⟨i, hi, ?_, ?_⟩
  · unfold runM
    rw [h1]
    obtain ⟨f, hf⟩ : ∃ f, mu rs 0 cs.length - dn.length = f + 1 := ⟨mu rs 0 cs.length - dn.length - 1, by omega⟩
    rw [hf, runF_go (List.getElem?_eq_getElem hjl)]
    exact List.mem_append_right _ List.mem_cons_self
  · unfold runM
    rw [h1, List.length_append]
    have h3 : mu rs i ([] : List Int).length ≤ 2 * rs.length + 2 := by
      unfold mu
      show 0 * _ + _ ≤ _
      omega
    omega
section
variable {P : Program} {w : World} {K : PySem.W.Frag} {mg : Str → Option Value} {base : Heap}
theorem ev_notN {σ : L2.St} {H : Hp} {ta tb : TE} {x : V} (ha : Ev ta σ H x) (hb : Ev tb σ H .non) : Ev (tOp (fun x y H Q => y = .non ∧ Q (.bl (!decide (x = .non))) H) ta tb) σ H (.bl (!decide (x = .non))) := ev_op ha hb (rv_val fun H1 e Q q => ⟨rfl, q⟩)
theorem ev_isN {σ : L2.St} {H : Hp} {ta tb : TE} {x : V} (ha : Ev ta σ H x) (hb : Ev tb σ H .non) : Ev (tOp (fun x y H Q => y = .non ∧ Q (.bl (decide (x = .non))) H) ta tb) σ H (.bl (decide (x = .non))) := ev_op ha hb (rv_val fun H1 e Q q => ⟨rfl, q⟩)
theorem q_un2 {σ : L2.St} {H : Hp} {te : TE} {D : Ends} {tz : TS} {p : Addr} {a b : V} {i j : Nat} (h : Ev te σ H (.ref p)) (hp : SqT K H p [a, b]) (kk : ∀ H1, Ex H H1 → tz D ((σ.set i (some a)).set j (some b)) H1) : tSeq (tAsg te (gTup K 2 (gCons (gName i) (gCons (gName j) gNil)))) tz D σ H :=
  h H (Ex.refl H) _ fun H1 e => ⟨p, _, rfl, ex_t e hp, rfl, a, [b], rfl, b, [], rfl, rfl, kk H1 e⟩
theorem q_rev {σ : L2.St} {H : Hp} {ta : TE} {D : Ends} {tz : TS} {l : Addr} {xs : List V} (h : Ev ta σ H (.ref l)) (hl : H l = some (.lst xs)) (k : ∀ H1, Ex H H1 → tz D σ (upd H1 l (.lst xs.reverse))) : tSeq (tDrop (tBM0 K "list" rReverse ta)) tz D σ H :=
  h H (Ex.refl H) _ fun H1 e1 => ⟨.inl ⟨rfl, xs, sq_of (e1 _ _ hl)⟩, l, xs, rfl, rfl, e1 _ _ hl, k H1 e1⟩
def spChoicesTo (P : Program) (w : World) (K : PySem.W.Frag) : Sp := fun vs H Q _ => ∃ (a d : Addr) (x : V) (rv : List V) (rs : List Rw) (ep : Nat) (kvs : List SX) (bs : List BE) (st : SE), vs = [.ref a, .ref d, x] ∧ SqL K H a rv ∧ Rows H rv rs ∧ Sheet rs ∧ SD P w H d ep kvs ∧ CM H kvs bs ∧ Bf rs bs ∧ st ∈ bs.map (·.1) ∧ AStand st.1 st.2 x H ∧
  ∀ p cs m H', H p = none → Ex H H' → H' p = some (.lst (cs.map V.int)) → Path rs st cs m → cs.length ≤ bs.length → m ≤ bs.length → Q (.ref p) H'
theorem ok_choices_to (D : Dn K mg "choices_to" s_choices_to ["rows", "came", "standing"]) (h_chooses : Has P w K mg base "chooses" 1 ["row"] spChooses) : Has P w K mg base "choices_to" 2 ["rows", "came", "standing"] (spChoicesTo P w K) := by
  refine D.ok sc_choices_to (fun vs H Q E h => ?_) (fun f cdv A outer s H vs Q E hr h => ?_)
  · obtain ⟨a, d, x, rv, rs, ep, kvs, bs, st, rfl, _⟩ := h
    rfl
  · obtain ⟨a, d, x, rv, rs, ep, kvs, bs, st, rfl, hS, hR, sh, S, M, B, hst, hX, q⟩ := h
    obtain ⟨px, pq, hv, rfl, _, _, _⟩ := id hX
    have get : ∀ (n : Nat) (b : BE), bs[n]? = some b → ∃ k0 v, lkS kvs b.1 = some (k0, v) ∧ VOk b.2 v H := fun n b hb => by
      obtain ⟨y, hy, h1, h2⟩ := M.at_ hb
      refine ⟨y.2.1, y.2.2, ?_, h2⟩
      rw [← h1]
      exact lkS_mem S.nd (List.mem_of_getElem? hy)
    obtain ⟨n0, hn0, he0⟩ := List.mem_iff_getElem.mp hst
    rw [List.length_map] at hn0
    rw [List.getElem_map] at he0
    have hb0 := List.getElem?_eq_getElem hn0
    obtain ⟨k0, v0, hl0, hv0⟩ := get n0 _ hb0
    rw [he0] at hl0
    refine ⟨_, (pss_cons (ps_set (i := 3) sc_choices_to.nd rfl (Or.inl rfl) (pe_lst pa_nil)) (pss_cons (ps_set (i := 4) sc_choices_to.nd rfl (Or.inl rfl) (pe_nget hr (pv 1) (pv 2) (fun _ _ => rfl))) (pss_cons (ps_while PassesOwn.never (pt_cmpR op_notN (pv 4) pe_non (nomark _)) (pss_cons (ps_asg (pv 4) (pg_tup rfl (pgs_cons (pg_name (i := 5) sc_choices_to.nd rfl (Or.inl rfl)) (pgs_cons (pg_name (i := 6) sc_choices_to.nd rfl (Or.inl rfl)) pgs_nil)))) (pss_cons (ps_if (pt_val (pe_own h_chooses (hr.mono (by decide)) (by rfl) (pa_cons (pe_ix (show IxR _ (rIxL K) from ix_list) (pv 0) (pe_ix (show IxR _ (rIxT K) from ix_tup) (pv 5) pe_int (fun _ _ => rfl)) (fun _ _ => rfl)) pa_nil))) (pss_one (ps_expr (pe_bm PySem.F.plainAttrs_list PySem.F.slot_list_append PySem.F.type_list_append mt_append (pv 3) (pa_cons (pv 6) pa_nil)))) pss_nil) (pss_one (ps_set (i := 4) sc_choices_to.nd rfl (Or.inl rfl) (pe_nget hr (pv 1) (pv 5) (fun _ _ => rfl))))))) (pss_cons (ps_expr (pe_bm0 PySem.F.plainAttrs_list PySem.F.slot_list_reverse PySem.F.type_list_reverse mt_reverse (pv 3))) (pss_one (ps_ret (pv 3))))))), ?_⟩
    show (_ : L2.TS) _ [_, _, _, _, _, _, _] _
    refine q_asgL (xs := []) (el_lst ea_nil (by decide)) (fun pc H1 hpc e1 h1 => ?_)
    show (_ : L2.TS) _ [_, _, _, _, _, _, _] _
    refine q_asg (v := v0) (ev_nget (ev_var rfl) (S.upX e1) (ev_var rfl) (hX.up e1) hl0) (fun H2 e2 => ?_)
    show (_ : L2.TS) _ [_, _, _, _, _, _, _] _
    have e02 := e1.trans e2
    refine q_while (fun m σ' G => ∃ (n : Nat) (b : BE) (v : V) (acc : List Int) (s : Nat) (x5 x6 : Option V), bs[n]? = some b ∧ n ≤ m ∧ VOk b.2 v H ∧ Ex H G ∧ G pc = some (.lst (acc.map V.int)) ∧ acc.length + n ≤ n0 ∧ s + n ≤ n0 ∧ (∀ cs0 m0, Path rs b.1 cs0 m0 → Path rs st (cs0 ++ acc.reverse) (m0 + s)) ∧
      σ' = [some (.ref a), some (.ref d), some (.ref px), some (.ref pc), some v, x5, x6]) n0 ⟨n0, bs[n0], v0, [], 0, none, none, hb0, Nat.le_refl _, hv0, e02, e2 _ _ h1, by show 0 + _ ≤ _; omega, by omega, fun cs0 m0 hp => by rw [List.reverse_nil, List.append_nil, ← he0]; exact hp, rfl⟩ ?_
    rintro m σ' G ⟨n, b, v, acc, s, x5, x6, hb, hnm, hv, eG, hacc, hal, hsl, hpath, rfl⟩
    refine ⟨!decide (v = .non), et_test (ev_notN (ev_var rfl) ev_c), fun ht G1 g1 => ?_, fun ht G1 g1 => ?_⟩
    · rcases B.bp n b hb with ⟨hbs, _⟩ | ⟨st1, k, m', hb2, hm', hst1, i, hi, hk, hlt⟩
      · rw [hbs] at hv
        have hv' : v = .non := hv
        rw [hv', decide_eq_true rfl] at ht
        cases ht
      · rw [hb2] at hv
        obtain ⟨bb, c, rfl, hbb, hc⟩ := hv
        obtain ⟨b1, hb1, he1⟩ := Option.map_eq_some_iff.mp hst1
        obtain ⟨k1, v1, hl1, hv1⟩ := get m' b1 hb1
        rw [he1] at hl1
        obtain ⟨i', hi', hil, hstd⟩ := reach_std sh (by rw [← he1]; exact B.reach _ b1 hb1 : Reach rs st1)
        have hii : i = i' := Int.ofNat.inj (hi.symm.trans hi')
        subst hii
        have hg := List.getElem?_eq_getElem hil
        obtain ⟨y, hy, hY⟩ := hR.get hg
        obtain ⟨pc1, pq1, hv1', hce, hpc1, _, _⟩ := id hc
        cases hce
        have e01 := eG.trans g1
        have hn0b := (List.getElem?_eq_some_iff.mp hb).1
        have hblen := B.nd
        refine ⟨fun σ2 G2 => ∃ (n : Nat) (b : BE) (v : V) (acc : List Int) (s : Nat) (x5 x6 : Option V), bs[n]? = some b ∧ n ≤ m' ∧ VOk b.2 v H ∧ Ex H G2 ∧ G2 pc = some (.lst (acc.map V.int)) ∧ acc.length + n ≤ n0 ∧ s + n ≤ n0 ∧ (∀ cs0 m0, Path rs b.1 cs0 m0 → Path rs st (cs0 ++ acc.reverse) (m0 + s)) ∧ σ2 = [some (.ref a), some (.ref d), some (.ref px), some (.ref pc), some v, x5, x6],
          fun σ2 G2 h => ⟨m', by omega, h⟩, ?_⟩
        refine q_un2 (K := K) (ev_var rfl) (st_of (e01 _ _ hbb)) (fun G2 g2 => ?_)
        show (_ : L2.TS) _ [_, _, _, _, _, _, _] _
        have e02 := e01.trans g2
        have hacc2 := (g1.trans g2) _ _ hacc
        have hkk : bs.length ≤ 100000 := by rw [← M.len]; exact S.len
        -- behind the choice
        have fin : ∀ (acc' : List Int) G3, Ex H G3 → G3 pc = some (.lst (acc'.map V.int)) → acc'.length + m' ≤ n0 → (∀ cs0 m0, Path rs st1 cs0 m0 → Path rs st (cs0 ++ acc'.reverse) (m0 + (s + 1))) → tAsg (tNGet P w (tVar 1) (tVar 5)) (gName 4)
          { nx := fun σ2 G2 => ∃ (n : Nat) (b : BE) (v : V) (acc : List Int) (s : Nat) (x5 x6 : Option V), bs[n]? = some b ∧ n ≤ m' ∧ VOk b.2 v H ∧ Ex H G2 ∧ G2 pc = some (.lst (acc.map V.int)) ∧ acc.length + n ≤ n0 ∧ s + n ≤ n0 ∧ (∀ cs0 m0, Path rs b.1 cs0 m0 → Path rs st (cs0 ++ acc.reverse) (m0 + s)) ∧ σ2 = [some (.ref a), some (.ref d), some (.ref px), some (.ref pc), some v, x5, x6], rt := Q }
          [some (.ref a), some (.ref d), some (.ref px), some (.ref pc), some (.ref bb), some (.ref c), some (.int (k : Int))] G3 := fun acc' G3 e3 h3 hl3 hp3 => by
          refine s_asg (v := v1) (ev_nget (ev_var rfl) (S.upX e3) (ev_var rfl) (hc.up e3) hl1) (fun G4 g4 => ?_)
          exact ⟨m', b1, v1, acc', s + 1, _, _, hb1, Nat.le_refl _, hv1, e3.trans g4, g4 _ _ h3, hl3, by omega, fun cs0 m0 hp => hp3 cs0 m0 (by rw [← he1]; exact hp), rfl⟩
        have hst1e : st1 = ((i : Int), st1.2) := by rw [← hi]
        refine q_when (b := rs[i].takes) (et_B (ev_chooses (x := y) (ea_cons (ev_ixL (ev_var rfl) (ex_l e02 hS) (ev_ixT (ev_var rfl) (st_of (e02 _ _ hpc1)) ev_c atI_hd) (by rw [hi]; exact atI_nat hy)) ea_nil) (hY.up e02))) (fun ht2 G3 g3 => ?_) (fun ht2 G3 g3 => ?_)
        · refine s_app (l := pc) (xs := acc.map V.int) (v := .int (k : Int)) (g3 _ _ hacc2) (ev_var rfl) (ev_var rfl) (by rw [List.length_map]; omega) (fun G4 g4 => ?_)
          have h4 : (upd G4 pc (.lst (acc.map V.int ++ [.int (k : Int)]))) pc = some (.lst ((acc ++ [(k : Int)]).map V.int)) := by
            rw [upd_same, List.map_append]
            rfl
          refine fin (acc ++ [(k : Int)]) _ (Ex.mut ((e02.trans g3).trans g4) hpc) h4 (by rw [List.length_append]; show acc.length + 1 + m' ≤ n0; omega) (fun cs0 m0 hp => ?_)
          rw [hst1e] at hp
          have hp2 := Path.step hp hg hk hlt
          rw [if_pos ht2] at hp2
          have hp3 := hpath _ _ hp2
          rw [List.reverse_append, List.append_assoc] at *
          rw [show m0 + (s + 1) = m0 + 1 + s by omega]
          exact hp3
        · refine fin acc _ (e02.trans g3) (g3 _ _ hacc2) (by omega) (fun cs0 m0 hp => ?_)
          rw [hst1e] at hp
          have hp2 := Path.step hp hg hk hlt
          rw [if_neg (by rw [ht2]; decide), List.append_nil] at hp2
          rw [show m0 + (s + 1) = m0 + 1 + s by omega]
          exact hpath _ _ hp2
    · have hvn : v = .non := by
        have : decide (v = .non) = true := by simpa using ht
        exact of_decide_eq_true this
      have hb1 : b = ((0, []), none) ∧ 0 < rs.length := by
        rcases B.bp n b hb with h | ⟨st1, k, m', hb2, _⟩
        · exact h
        · rw [hb2] at hv
          obtain ⟨bb, c, h2, _⟩ := hv
          rw [h2] at hvn
          cases hvn
      have hp := hpath [] 0 (by rw [hb1.1]; exact .start hb1.2)
      rw [List.nil_append, Nat.zero_add] at hp
      refine q_rev (ev_var rfl) (g1 _ _ hacc) (fun G2 g2 => ?_)
      refine s_ret (ev_var rfl) (fun G3 g3 => q pc acc.reverse s G3 hpc ((Ex.mut ((eG.trans g1).trans g2) hpc).trans g3) (g3 _ _ ?_) hp (by rw [List.length_reverse]; omega) (by omega))
      rw [upd_same, List.map_reverse]
end
end BD
namespace BD
open PySem PySem.Spec PyProof.Rows L2 Evl LK GX
open LamX (TabS CodeO ExtN)
local macro_rules | `(tactic| walk_at "ev") => `(tactic| first
  | ((with_reducible apply ev_var) ; rfl)
  | with_reducible exact ev_c
  | ((with_reducible apply ev_I0) <;> walk_at "ev")
  | ((with_reducible apply ev_e9) <;> walk_at "ev")
  | ((with_reducible apply ev_I) <;> walk_at "ev")
  | ((with_reducible apply ev_eq) <;> walk_at "ev")
  | ((with_reducible apply ev_ne) <;> walk_at "ev")
  | ((with_reducible apply ev_neg) <;> walk_at "ev")
  | ((with_reducible apply ev_ixN) <;> walk_at "ev")
  | ((with_reducible apply ev_ixL) <;> walk_at "ev")
  | ((with_reducible apply ev_inN) <;> walk_at "ev")
  | ((with_reducible apply ev_inT) <;> walk_at "ev")
  | ((with_reducible apply ev_ixT) <;> walk_at "ev")
  | ((with_reducible apply ev_ixS) <;> walk_at "ev")
  | ((with_reducible apply ev_len') <;> walk_at "ev")
  | ((with_reducible apply et_test) <;> walk_at "ev")
  | ((with_reducible apply et_and) <;> walk_at "ev")
  | ((with_reducible apply et_or) <;> walk_at "ev")
  | ((with_reducible apply et_not) <;> walk_at "ev")
  | ((with_reducible apply et_B) <;> walk_at "ev")
  | ((with_reducible apply el_lst) <;> walk_at "ev")
  | ((with_reducible apply eu_tup) <;> walk_at "ev")
  | ((with_reducible apply ea_cons) <;> walk_at "ev")
  | with_reducible exact ea_nil
  | with_reducible assumption
  | ((with_reducible apply ex_l' ; assumption) ; walk_at "ex")
  | ((with_reducible apply ex_t' ; assumption) ; walk_at "ex")
  | (intro _ ; walk_at "ev")
  | (with_reducible first | exact atI_hd | exact at_kind | exact at2s | exact at3s | exact at3i)
  | (first | exact rfl | exact Nat.le_of_ble_eq_true rfl | exact ⟨by decide, by decide⟩ | decide | exact Or.inl ⟨by omega, by omega⟩ | exact Or.inr ⟨by omega, by omega⟩ | omega)
  | skip)
local macro_rules | `(tactic| walk_at "ex") => `(tactic| first
  | assumption
  | exact Ex.refl _
  | (refine' Ex.trans ?_ (by assumption) ; walk_at "ex"))
local macro_rules | `(tactic| walk_at "row") => `(tactic| first
  | (with_reducible exact er_nil)
  | ((with_reducible apply er_cons) <;> walk_at "row")
  | (((with_reducible apply er_var) ; rfl) ; walk_at "isrow")
  | (((with_reducible apply elr_var) ; rfl) ; walk_at "isrow")
  | ((with_reducible apply elr_cat) <;> walk_at "row")
  | ((with_reducible apply elr_lst) <;> walk_at "row")
  | ((with_reducible apply er_fin) <;> walk_at "ev")
  | ((with_reducible apply er_lendT) <;> walk_at "ev")
  | ((with_reducible apply er_lendW) <;> walk_at "ev")
  | ((with_reducible apply er_pick) <;> walk_at "ev")
  | ((with_reducible apply er_either) <;> walk_at "ev")
  | ((with_reducible apply er_or) <;> walk_at "ev")
  | ((with_reducible apply er_again) <;> walk_at "ev")
  | ((with_reducible apply er_back) <;> walk_at "ev")
  | ((with_reducible apply er_look) <;> walk_at "ev")
  | ((with_reducible apply er_change) <;> walk_at "ev")
  | exact Nat.le_of_ble_eq_true rfl
  | skip)
local macro_rules | `(tactic| walk_at "isrow") => `(tactic| first
  | assumption
  | (refine IsRow.up ?_ (by assumption) ; walk_at "ex")
  | (refine LRows.up ?_ (by assumption) ; walk_at "ex"))

abbrev s_looked : Stmt := topS 56
theorem sc_looked : FnScope ["rows", "came", "told", "standing", "word"] ["rows"] (defScope s_looked) := ⟨rfl, rfl, rfl, by decide +kernel, rfl, by decide +kernel, by decide +kernel⟩
theorem sqN {K : PySem.W.Frag} {H H' : Hp} {a : Addr} {xs : List V} (e : ExtN H H') (h : SqL K H a xs) : SqL K H' a xs := by
  rcases h with (h | ⟨o, h⟩) | h
  · exact .inl (.inl (e _ _ h (fun _ z => nomatch z)))
  · exact .inl (.inr ⟨o, e _ _ h (fun _ z => nomatch z)⟩)
  · exact .inr h
theorem extT_of {H H' : Hp} (e : ExtN H H') : ExT H H' := fun a xs hx => e a _ hx (fun _ z => nomatch z)
theorem tabX_up {H H' : Hp} {p : Addr} (e : ExtN H H') (h : H p = some (TabX p)) : H' p = some (TabX p) := e _ _ h (fun _ z => nomatch z)
theorem rowsT {H H' : Hp} (e : ExT H H') : ∀ {vs : List V} {rs : List Rw}, Rows H vs rs → Rows H' vs rs
  | _, _, .nil => .nil
  | _, _, .cons r t => .cons (r.upT e) (rowsT e t)
theorem SD.upN {P : Program} {w : World} {H H' : Hp} {d : Addr} {ep : Nat} {kvs : List SX} (S : SD P w H d ep kvs) (e : ExtN H H') : SD P w H' d ep kvs := S.upT (extT_of e) (e _ _ S.at_ (fun _ z => nomatch z))
theorem q_asgCall {σ : L2.St} {H : Hp} {D : Ends} {tz : TS} {sp : Sp} {vs : List V} {E : XK} {tA : TA} {i : Nat} (h : EvA tA σ H vs) (k : ∀ H1, Ex H H1 → sp (vs ++ []) H1 (fun v H' => tz D (σ.set i (some v)) H') E) : tSeq (tAsg (tCall sp [] E tA) (gName i)) tz D σ H := h H (Ex.refl H) _ fun H1 e1 => k H1 e1
theorem a_call {σ : L2.St} {H : Hp} {sp : Sp} {vs : List V} {E : XK} {tA : TA} {Q : List V → Hp → Prop} (h : EvA tA σ H vs) (k : ∀ H1, Ex H H1 → sp (vs ++ []) H1 (fun v H' => Q [v] H') E) : tCons (tCall sp [] E tA) tNil σ H Q := h H (Ex.refl H) _ fun H1 e1 => k H1 e1
/-- the fault that is told of a sheet -/
def Told (rs : List Rw) (st : SE) : Prop := Reach rs st ∧ ¬ faultAt rs st = "" ∧ ∀ st', Reach rs st' → ¬ faultAt rs st' = "" → leP (keyF rs st) (keyF rs st')
section
variable {P : Program} {w : World} {K : PySem.W.Frag} {mg : Str → Option Value} {base : Heap}
def spLooked (K : PySem.W.Frag) (P0 P1 P4 : Addr) (cs : List (Addr × Addr)) : Sp := fun vs H Q _ => ∃ (a : Addr) (rv : List V) (rs : List Rw) (N : Nat), vs = [.ref a] ∧ SqL K H a rv ∧ Rows H rv rs ∧ Sheet rs ∧ rs.length ≤ 40000 ∧ Bnd rs N ∧ N ≤ 20000 ∧ H P0 = some (TabX P0) ∧ H P1 = some (TabX P1) ∧ (∀ p ∈ cs, H p.2 = some (TabX p.2)) ∧ TabS H P4 lamN ∧
  ((∀ st, Reach rs st → faultAt rs st = "") → ∀ H', ExtN H H' → TabS H' P4 lamN → Q .non H') ∧
  ∀ st ns m, Told rs st → Path rs st ns m → m ≤ N → ns.length ≤ 20000 → ∀ p pc H', ExtN H H' → TabS H' P4 lamN → (∀ o, (∀ ps, o ≠ HO.tbl ps) → H pc ≠ some o) → H' pc = some (.lst (ns.map V.int)) → H' p = some (.tup [.int st.1, .str (faultAt rs st), .ref pc]) → Q (.ref p) H'
theorem ok_looked {P0 P1 P4 : Addr} {cs : List (Addr × Addr)} (D : Dn K mg "looked" s_looked ["rows"]) (h_checked : Has P w K mg base "checked" 7 ["rows"] (spChecked K P0 P1)) (h_followed : Has P w K mg base "followed" 4 ["rows"] (spFollowed P w K)) (h_first_fault : Has P w K mg base "first_fault" 5 ["rows", "came"] (spFirst P w K cs P4)) (h_choices_to : Has P w K mg base "choices_to" 2 ["rows", "came", "standing"] (spChoicesTo P w K)) : Has P w K mg base "looked" 8 ["rows"] (spLooked K P0 P1 P4 cs) := by
  refine D.ok sc_looked (fun vs H Q E h => ?_) (fun f cdv A outer s H vs Q E hr h => ?_)
  · obtain ⟨a, rv, rs, N, rfl, _⟩ := h
    rfl
  · obtain ⟨a, rv, rs, N, rfl, hS, hR, sh, hl, hB, hN, h0, h1, hT, hTS, q1, q2⟩ := h
    refine ⟨_, (pss_cons (ps_expr (pe_own h_checked (hr.mono (by decide)) (by rfl) (pa_cons (pv 0) pa_nil))) (pss_cons (ps_set (i := 1) sc_looked.nd rfl (Or.inl rfl) (pe_own h_followed (hr.mono (by decide)) (by rfl) (pa_cons (pv 0) pa_nil))) (pss_cons (ps_set (i := 2) sc_looked.nd rfl (Or.inl rfl) (pe_own h_first_fault (hr.mono (by decide)) (by rfl) (pa_cons (pv 0) (pa_cons (pv 1) pa_nil)))) (pss_cons (ps_if (pt_cmpR op_isN (pv 2) pe_non (nomark _)) (pss_one (ps_ret pe_non)) pss_nil) (pss_cons (ps_asg (pv 2) (pg_tup rfl (pgs_cons (pg_name (i := 3) sc_looked.nd rfl (Or.inl rfl)) (pgs_cons (pg_name (i := 4) sc_looked.nd rfl (Or.inl rfl)) pgs_nil)))) (pss_one (ps_ret (pe_tup (pa_cons (pe_ix (show IxR _ (rIxT K) from ix_tup) (pv 3) pe_int (fun _ _ => rfl)) (pa_cons (pv 4) (pa_cons (pe_own h_choices_to (hr.mono (by decide)) (by rfl) (pa_cons (pv 0) (pa_cons (pv 1) (pa_cons (pv 3) pa_nil)))) pa_nil))))))))))), ?_⟩
    show (_ : L2.TS) _ [_, _, _, _, _] _
    refine q_drop (v := .non) (ev_call (ea_cons (ev_var rfl) ea_nil) fun H1 e1 Q q E => ⟨a, rv, rs, rfl, ex_l e1 hS, hR.up e1, sh, hl, e1 _ _ h0, e1 _ _ h1, q⟩) (fun H1 e1 => ?_)
    refine q_asgCall (ea_cons (ev_var rfl) ea_nil) fun H2 e2 => ⟨a, rv, rs, N, rfl, ex_l (e1.trans e2) hS, hR.up (e1.trans e2), sh, hl, hB, hN, fun d ep kvs bs H3 hd e3 S M B hk => ?_⟩
    show (_ : L2.TS) _ [_, _, _, _, _] _
    have e03 := e1.trans (e2.trans e3)
    have hkeys : ∀ st ∈ kvs.map (·.1), Reach rs st := fun st hst => by
      rw [M.keys] at hst
      obtain ⟨n, hn, he⟩ := List.mem_iff_getElem.mp hst
      rw [List.length_map] at hn
      rw [List.getElem_map] at he
      rw [← he]
      exact B.reach n _ (List.getElem?_eq_getElem hn)
    have hall : ∀ st, Reach rs st → st ∈ kvs.map (·.1) := fun st h => by rw [M.keys]; exact hk st h
    refine q_asgCall (ea_cons (ev_var rfl) (ea_cons (ev_var rfl) ea_nil)) fun H4 e4 => ⟨a, d, rv, rs, ep, kvs, rfl, ex_l (e03.trans e4) hS, hR.up (e03.trans e4), sh, hl, S.upX e4, fun st hst => reach_std sh (hkeys st hst), fun p hp => (e03.trans e4) _ _ (hT p hp), tabS_up (e03.trans e4) hTS, fun hno => ?_, fun st hst hf hmin p b H5 e5 hT5 hp hX => ?_⟩
    · intro H5 e5
      show (_ : L2.TS) _ [_, _, _, _, _] _
      refine q_when (b := true) (et_is (et_test (ev_isN (ev_var rfl) ev_c)) rfl) (fun _ H6 e6 => ?_) (fun hb => by cases hb)
      have e06 := e03.trans (e4.trans (e5.trans e6))
      exact s_ret ev_c (fun H7 e7 => q1 (fun st h => hno st (hall st h)) H7 (extN_of (e06.trans e7)) (tabS_up (e06.trans e7) hTS))
    · show (_ : L2.TS) _ [_, _, _, _, _] _
      have eN4 : ExtN H H5 := extN_trans (extN_of (e03.trans e4)) e5
      refine q_when (b := false) (et_is (et_test (ev_isN (ev_var rfl) ev_c)) rfl) (fun hb => by cases hb) (fun _ H6 e6 => ?_)
      refine q_un2 (K := K) (ev_var rfl) (st_of (e6 _ _ hp)) (fun H7 e7 => ?_)
      show (_ : L2.TS) _ [_, _, _, _, _] _
      have e57 := e6.trans e7
      have eN7 : ExtN H H7 := extN_trans eN4 (extN_of e57)
      have eN37 : ExtN H3 H7 := extN_trans (extN_of e4) (extN_trans e5 (extN_of e57))
      have hX7 := hX.up e57
      obtain ⟨px, pq, hv, hpe, hpx, _, _⟩ := id hX7
      cases hpe
      have S7 := S.upN eN37
      have M7 := M.upT (extT_of eN37)
      have hS7 := sqN eN7 hS
      have hR7 := rowsT (extT_of eN7) hR
      have hst' : st ∈ bs.map (·.1) := by rw [← M.keys]; exact hst
      refine (ev_ixT (K := K) (ev_var rfl) (st_of hpx) ev_c atI_hd : Ev _ _ H7 (.int st.1)) H7 (Ex.refl H7) _ fun H8 e8 => ?_
      refine (ev_var rfl : Ev (tVar 4) _ H8 (.str (faultAt rs st))) H8 (Ex.refl H8) _ fun H9 e9 => ?_
      refine a_call (ea_cons (ev_var rfl) (ea_cons (ev_var rfl) (ea_cons (ev_var rfl) ea_nil))) fun H10 e10 => ?_
      have e710 := e8.trans (e9.trans e10)
      refine ⟨a, d, .ref b, rv, rs, ep, kvs, bs, st, rfl, ex_l e710 hS7, hR7.up e710, sh, S7.upX e710, M7.upT (ExT.of e710), B, hst', hX7.up e710, fun pc ns m H11 hpc e11 h11 hpath hnl hml => ?_⟩
      refine ⟨by show 3 ≤ sizeLine; decide, fun pz hpz => ?_⟩
      have e711 := e710.trans e11
      have hx : Ex H11 (upd H11 pz (.tup [.int st.1, .str (faultAt rs st), .ref pc])) := Ex.new hpz
      refine q2 st ns m ⟨hkeys st hst, hf, fun st' h' hf' => hmin st' (hall st' h') hf'⟩ hpath (by have := B.count hB; omega) (by have := B.count hB; omega) pz pc _ (extN_trans eN7 (extN_of (e711.trans hx))) (tabS_up (e57.trans (e711.trans hx)) hT5) ?_ (hx _ _ h11) upd_same
      intro o ho hh
      have := (extN_trans eN7 (extN_of e710)) _ _ hh ho
      rw [this] at hpc
      cases hpc
end
end BD
namespace BD
open PySem PySem.Spec PyProof.Rows L2 Evl
local macro_rules | `(tactic| walk_at "ev") => `(tactic| first
  | ((with_reducible apply ev_var) ; rfl)
  | with_reducible exact ev_c
  | ((with_reducible apply ev_I0) <;> walk_at "ev")
  | ((with_reducible apply ev_e9) <;> walk_at "ev")
  | ((with_reducible apply ev_I) <;> walk_at "ev")
  | ((with_reducible apply ev_eq) <;> walk_at "ev")
  | ((with_reducible apply ev_ne) <;> walk_at "ev")
  | ((with_reducible apply ev_neg) <;> walk_at "ev")
  | ((with_reducible apply ev_ixN) <;> walk_at "ev")
  | ((with_reducible apply ev_ixL) <;> walk_at "ev")
  | ((with_reducible apply ev_inN) <;> walk_at "ev")
  | ((with_reducible apply ev_inT) <;> walk_at "ev")
  | ((with_reducible apply ev_ixT) <;> walk_at "ev")
  | ((with_reducible apply ev_ixS) <;> walk_at "ev")
  | ((with_reducible apply ev_len') <;> walk_at "ev")
  | ((with_reducible apply et_test) <;> walk_at "ev")
  | ((with_reducible apply et_and) <;> walk_at "ev")
  | ((with_reducible apply et_or) <;> walk_at "ev")
  | ((with_reducible apply et_not) <;> walk_at "ev")
  | ((with_reducible apply et_B) <;> walk_at "ev")
  | ((with_reducible apply el_lst) <;> walk_at "ev")
  | ((with_reducible apply eu_tup) <;> walk_at "ev")
  | ((with_reducible apply ea_cons) <;> walk_at "ev")
  | with_reducible exact ea_nil
  | with_reducible assumption
  | ((with_reducible apply ex_l' ; assumption) ; walk_at "ex")
  | ((with_reducible apply ex_t' ; assumption) ; walk_at "ex")
  | (intro _ ; walk_at "ev")
  | (with_reducible first | exact atI_hd | exact at_kind | exact at2s | exact at3s | exact at3i)
  | (first | exact rfl | exact Nat.le_of_ble_eq_true rfl | exact ⟨by decide, by decide⟩ | decide | exact Or.inl ⟨by omega, by omega⟩ | exact Or.inr ⟨by omega, by omega⟩ | omega)
  | skip)
local macro_rules | `(tactic| walk_at "ex") => `(tactic| first
  | assumption
  | exact Ex.refl _
  | (refine' Ex.trans ?_ (by assumption) ; walk_at "ex"))
local macro_rules | `(tactic| walk_at "row") => `(tactic| first
  | (with_reducible exact er_nil)
  | ((with_reducible apply er_cons) <;> walk_at "row")
  | (((with_reducible apply er_var) ; rfl) ; walk_at "isrow")
  | (((with_reducible apply elr_var) ; rfl) ; walk_at "isrow")
  | ((with_reducible apply elr_cat) <;> walk_at "row")
  | ((with_reducible apply elr_lst) <;> walk_at "row")
  | ((with_reducible apply er_fin) <;> walk_at "ev")
  | ((with_reducible apply er_lendT) <;> walk_at "ev")
  | ((with_reducible apply er_lendW) <;> walk_at "ev")
  | ((with_reducible apply er_pick) <;> walk_at "ev")
  | ((with_reducible apply er_either) <;> walk_at "ev")
  | ((with_reducible apply er_or) <;> walk_at "ev")
  | ((with_reducible apply er_again) <;> walk_at "ev")
  | ((with_reducible apply er_back) <;> walk_at "ev")
  | ((with_reducible apply er_look) <;> walk_at "ev")
  | ((with_reducible apply er_change) <;> walk_at "ev")
  | exact Nat.le_of_ble_eq_true rfl
  | skip)
local macro_rules | `(tactic| walk_at "isrow") => `(tactic| first
  | assumption
  | (refine IsRow.up ?_ (by assumption) ; walk_at "ex")
  | (refine LRows.up ?_ (by assumption) ; walk_at "ex"))

local macro_rules | `(tactic| walk_at "ev") => `(tactic| (((with_reducible apply ev_tag) ; rfl) ; walk_at "isrow"))
abbrev s_l_run : Stmt := topS 76
theorem sc_l_run : FnScope ["_law_rows", "_law_choices", "_law_home", "_law_found", "_law_standing", "_law_taken", "_law_choice"] ["_law_rows", "_law_choices"] (defScope s_l_run) := ⟨rfl, rfl, rfl, by decide +kernel, rfl, by decide +kernel, by decide +kernel⟩
section
variable {P : Program} {w : World} {K : PySem.W.Frag} {mg : Str → Option Value} {base : Heap}
def spRunB (K : PySem.W.Frag) : Sp := fun vs H Q _ => ∃ (a pc : Addr) (cs : List Int) (rv : List V) (rs : List Rw), vs = [.ref a, .ref pc] ∧ SqL K H a rv ∧ Rows H rv rs ∧ SqL K H pc (cs.map V.int) ∧ Sheet rs ∧ rs.length ≤ 40000 ∧ (runM rs cs).length ≤ 99000 ∧
  ∀ p vs H2, H p = none → Ex H H2 → H2 p = some (.lst vs) → Stds H2 vs (runM rs cs) → Q (.ref p) H2
theorem ok_runB (D : Dn K mg "_law_run" s_l_run ["_law_rows", "_law_choices"]) (T : Blt mg) (h_l_homes : Has P w K mg base "_law_homes" 1 ["_law_rows"] (spHomes K)) (h_l_step : Has P w K mg base "_law_step" 2 ["_law_rows", "_law_home", "_law_standing", "_law_choice"] (spStep K)) : Has P w K mg base "_law_run" 3 ["_law_rows", "_law_choices"] (spRunB K) := by
  refine D.ok sc_l_run (fun vs H Q E h => ?_) (fun f cdv A outer st H vs Q E hr h => ?_)
  · obtain ⟨a, pc, cs, rv, rs, rfl, _⟩ := h
    rfl
  · obtain ⟨a, pc, cs, rv, rs, rfl, hS, hR, hC, sh, hlen, hbound, q⟩ := h
    have hlr := hR.len
    refine ⟨_, (pss_cons (ps_set (i := 2) sc_l_run.nd rfl (Or.inl rfl) (pe_own h_l_homes (hr.mono (by decide)) (by rfl) (pa_cons (pv 0) pa_nil))) (pss_cons (ps_set (i := 3) sc_l_run.nd rfl (Or.inl rfl) (pe_lst pa_nil)) (pss_cons (ps_set (i := 4) sc_l_run.nd rfl (Or.inl rfl) (pe_tup (pa_cons pe_int (pa_cons (pe_tup pa_nil) pa_nil)))) (pss_cons (ps_set (i := 5) sc_l_run.nd rfl (Or.inl rfl) pe_int) (pss_cons (ps_while PassesOwn.never (pt_cmpR op_lt (pe_ix (show IxR _ (rIxT K) from ix_tup) (pv 4) pe_int (fun _ _ => rfl)) (pe_callB (show CallR _ _ (rLenS K) from call_len_seq) (by rfl) T.len_ (by decide +kernel) (pa_cons (pv 0) pa_nil)) (nomark _)) (pss_cons (ps_expr (pe_bm PySem.F.plainAttrs_list PySem.F.slot_list_append PySem.F.type_list_append mt_append (pv 3) (pa_cons (pv 4) pa_nil))) (pss_cons (ps_set (i := 6) sc_l_run.nd rfl (Or.inl rfl) pe_int) (pss_cons (ps_if (pt_cmpR (show OpR _ _ (rIn K false) from op_in_seq) (pe_ix (show IxR _ (rIxT K) from ix_tup) (pe_ix (show IxR _ (rIxL K) from ix_list) (pv 0) (pe_ix (show IxR _ (rIxT K) from ix_tup) (pv 4) pe_int (fun _ _ => rfl)) (fun _ _ => rfl)) pe_int (fun _ _ => rfl)) (pe_lst (pa_cons pe_str (pa_cons pe_str (pa_cons pe_str pa_nil)))) (by rfl)) (pss_cons (ps_if (pt_cmpR op_lt (pv 5) (pe_callB (show CallR _ _ (rLenS K) from call_len_seq) (by rfl) T.len_ (by decide +kernel) (pa_cons (pv 1) pa_nil)) (nomark _)) (pss_one (ps_set (i := 6) sc_l_run.nd rfl (Or.inl rfl) (pe_ix (show IxR _ (rIxL K) from ix_list) (pv 1) (pv 5) (fun _ _ => rfl)))) pss_nil) (pss_one (ps_set (i := 5) sc_l_run.nd rfl (Or.inl rfl) (pe_op op_add (pv 5) pe_int)))) pss_nil) (pss_one (ps_set (i := 4) sc_l_run.nd rfl (Or.inl rfl) (pe_own h_l_step (hr.mono (by decide)) (by rfl) (pa_cons (pv 0) (pa_cons (pv 2) (pa_cons (pv 4) (pa_cons (pv 6) pa_nil))))))))))) (pss_one (ps_ret (pv 3)))))))), ?_⟩
    show (_ : L2.TS) _ [_, _, _, _, _, _, _] _
    refine q_asgL (xs := homesV rs rs.length) (el_homes ?_ hS hR sh.g (by omega)) (fun ph H1 hph e1 h1 => ?_)
    · walk_at "ev"
    show (_ : L2.TS) _ [_, _, _, _, _, _, _] _
    have hM1 : SqL K H1 ph (homesV rs rs.length) := sq_of h1
    refine q_asgL (xs := []) ?_ (fun pf H2 hpf e2 h2 => ?_)
    · walk_at "ev"
    show (_ : L2.TS) _ [_, _, _, _, _, _, _] _
    refine q_asgP (R := AStand 0 []) (ep_stand (es := []) ev_c (EvP.mono (ep_U (xs := []) ?_) (fun v H h => ?_))) (fun x0 H3 e3 hx0 => ?_)
    · walk_at "ev"
    · obtain ⟨p, h4, h5⟩ := h
      exact ⟨p, [], h4, h5, .nil⟩
    show (_ : L2.TS) _ [_, _, _, _, _, _, _] _
    refine q_asg ev_c (fun H4 e4 => ?_)
    show (_ : L2.TS) _ [_, _, _, _, _, _, _] _
    have e04 : Ex H H4 := by walk_at "ex"
    have hpfH : H pf = none := fresh_back e1 hpf
    have hM4 : SqL K H4 ph (homesV rs rs.length) := ex_l (e2.trans (e3.trans e4)) hM1
    have hMx : ∃ Hm : Hp, Hm pf = none ∧ SqL K Hm ph (homesV rs rs.length) ∧ Ex H Hm ∧ Ex Hm H4 := ⟨H1, hpf, hM1, e1, e2.trans (e3.trans e4)⟩
    obtain ⟨Hm, hmf, hMm, e0m, em4⟩ := hMx
    refine q_while (fun m σ' H' => ∃ (i k : Nat) (es : List Ent) (x : V) (fv : List V) (dn : List (Nat × List Ent)) (o : Option V), Ex Hm H' ∧ H' pf = some (.lst fv) ∧ Stds H' fv dn ∧ Std rs i es ∧ AStand (i : Int) es x H' ∧ mu rs i (cs.drop k).length ≤ m ∧
      dn ++ runF rs m i es (cs.drop k) = runM rs cs ∧ σ' = [some (.ref a), some (.ref pc), some (.ref ph), some (.ref pf), some x, some (.int (k : Int)), o]) (mu rs 0 cs.length)
      ⟨0, 0, [], x0, [], [], none, em4, e4 _ _ (e3 _ _ h2), .nil, std0 rs, AStand.up e4 hx0, Nat.le_refl _, rfl, rfl⟩ ?_
    rintro m σ' H' ⟨i, k, es, x, fv, dn, o, eH, hf, hD, hst, hx, hmu, hrun, rfl⟩
    have eH0 : Ex H H' := e0m.trans eH
    have hS' := ex_l eH0 hS
    have hC' := ex_l eH0 hC
    have hM' := ex_l eH hMm
    have hR' := hR.up eH0
    obtain ⟨px, pq, hv, rfl, hpx, hpq, hE⟩ := id hx
    have hPx : SqT K H' px [.int (i : Int), .ref pq] := st_of hpx
    refine ⟨decide ((i : Int) < (rv.length : Int)), ?_, fun hb H5 e5 => ?_, fun hb H5 e5 => ?_⟩
    · walk_at "ev"
    · have hb := of_decide_eq_true hb
      have hil : i < rs.length := by omega
      have hg := List.getElem?_eq_getElem hil
      obtain ⟨y, hy, hY⟩ := hR'.get hg
      generalize rs[i] = r at hg hY
      obtain ⟨py, ys, rfl, hpy⟩ := hY.tup
      have hPy : SqT K H' py (.str r.tag :: ys) := st_of hpy
      have hix : atI rv (i : Int) = some (.ref py) := atI_nat hy
      obtain ⟨j, hgo⟩ := goes (c := takeC r (cs.drop k)) sh hst hg
      have hfall := mu_falls sh hg hgo
      have hmp := mu_pos sh (k := (cs.drop k).length) hst.le
      obtain ⟨m', rfl⟩ : ∃ m', m = m' + 1 := ⟨m - 1, by omega⟩
      rw [runF_go hg, hgo.at_, Int.toNat_natCast] at hrun
      have hfl : fv.length = dn.length := Paired.length hD
      have hbd : dn.length + 1 ≤ 99000 := by
        have := congrArg List.length hrun
        rw [List.length_append, List.length_cons] at this
        omega
      have hes := hst.len sh
      refine ⟨fun σ2 H2 => ∃ (i k : Nat) (es : List Ent) (x : V) (fv : List V) (dn : List (Nat × List Ent)) (o : Option V), Ex Hm H2 ∧ H2 pf = some (.lst fv) ∧ Stds H2 fv dn ∧ Std rs i es ∧ AStand (i : Int) es x H2 ∧ mu rs i (cs.drop k).length ≤ m' ∧
        dn ++ runF rs m' i es (cs.drop k) = runM rs cs ∧ σ2 = [some (.ref a), some (.ref pc), some (.ref ph), some (.ref pf), some x, some (.int (k : Int)), o], fun σ2 H2 h => ⟨m', Nat.lt_succ_self _, h⟩, ?_⟩
      refine q_app (l := pf) (xs := fv) (v := .ref px) (e5 _ _ hf) (ev_var rfl) (ev_var rfl) (by omega) (fun H6 e6 => ?_)
      have x7 : ExT H' (upd H6 pf (.lst (fv ++ [.ref px]))) := (ExT.of (e5.trans e6)).trans (ExT.lst (e6 _ _ (e5 _ _ hf)))
      have e7 : Ex Hm (upd H6 pf (.lst (fv ++ [.ref px]))) := Ex.mut (eH.trans (e5.trans e6)) hmf
      have hf7 : (upd H6 pf (.lst (fv ++ [.ref px]))) pf = some (.lst (fv ++ [.ref px])) := upd_same
      generalize upd H6 pf (.lst (fv ++ [.ref px])) = H7 at *
      have hx7 : AStand (i : Int) es (.ref px) H7 := hx.upT x7
      have hD7 : Stds H7 (fv ++ [.ref px]) (dn ++ [(i, es)]) := paired_app (hD.upT x7) (.cons hx7 .nil)
      have hS7 := ex_l (e0m.trans e7) hS
      have hC7 := ex_l (e0m.trans e7) hC
      have hM7 := ex_l e7 hMm
      have hR7 := hR.up (e0m.trans e7)
      have hPx7 : SqT K H7 px [.int (i : Int), .ref pq] := st_of (x7 _ _ hpx)
      have hPy7 : SqT K H7 py (.str r.tag :: ys) := st_of (x7 _ _ hpy)
      have hrun2 : (dn ++ [(i, es)]) ++ runF rs m' j (goM rs i es (takeC r (cs.drop k))).2 (leftC r (cs.drop k)) = runM rs cs := by
        rw [← hrun, List.append_assoc]
        rfl
      clear hS' hC' hM' hR' hPx hPy x7 e5 e6 eH0 hx hpx hpy hpq hE hD hf hY
      refine q_asg ev_c (fun H8 e8 => ?_)
      show (_ : L2.TS) _ [_, _, _, _, _, _, _] _
      cases ht : r.takes with
      | false =>
        have etk : takeC r (cs.drop k) = 0 := if_neg (by rw [ht]; decide)
        have elf : leftC r (cs.drop k) = cs.drop k := if_neg (by rw [ht]; decide)
        rw [etk, elf] at hrun2
        rw [etk] at hgo
        rw [elf] at hfall
        refine q_when (b := false) (et_is ?_ ht) (fun hb _ _ => by cases hb) (fun _ H9 e9 => ?_)
        · rw [← tag_takes r]
          walk_at "ev"
        · refine s_asgP (ep_step (a := a) (hh := ph) (x := .ref px) (c := 0) (i := i) (es := es) (rv := rv) (rs := rs) ?_ (ex_l (e8.trans e9) hS7) (hR7.up (e8.trans e9)) (ex_l (e8.trans e9) hM7) (hx7.up (e8.trans e9)) hil (by omega) sh.g (hst.ok sh) (by omega)) (fun z H10 e10 hz => ?_)
          · walk_at "ev"
          · dsimp only
            rw [hgo.at_] at hz
            have e710 : Ex H7 H10 := e8.trans (e9.trans e10)
            exact ⟨j, k, _, z, _, _, some (.int 0), e7.trans e710, e710 _ _ hf7, hD7.up e710, hgo.std, hz, by omega, hrun2, rfl⟩
      | true =>
        have elf : leftC r (cs.drop k) = cs.drop (k + 1) := by
          unfold leftC
          rw [if_pos ht, List.tail_drop]
        rw [elf] at hrun2 hfall
        refine q_when (b := true) (et_is ?_ ht) (fun _ H9 e9 => ?_) (fun hb _ _ => by cases hb)
        · rw [← tag_takes r]
          walk_at "ev"
        · by_cases hk : k < cs.length
          · have etk : takeC r (cs.drop k) = cs[k] := by
              unfold takeC
              rw [if_pos ht, List.drop_eq_getElem_cons hk]
              rfl
            rw [etk] at hrun2 hgo
            have hck : atI (cs.map V.int) (k : Int) = some (.int cs[k]) := atI_nat (by rw [List.getElem?_map, List.getElem?_eq_getElem hk]; rfl)
            refine q_when (b := true) (et_is (b := true) (a := decide ((k : Int) < (((cs.map V.int).length : Nat) : Int))) ?_ (decide_eq_true (by rw [List.length_map]; omega))) (fun _ H10 e10 => ?_) (fun hb _ _ => by cases hb)
            · walk_at "ev"
            · refine s_asg (v := .int cs[k]) (ev_ixL (ev_var rfl) (ex_l (by walk_at "ex") hC7) (ev_var rfl) hck) (fun H11 e11 => ?_)
              dsimp only
              show (_ : L2.TS) _ [_, _, _, _, _, _, _] _
              refine s_asg (v := .int ((k : Int) + 1)) ?_ (fun H12 e12 => ?_)
              · walk_at "ev"
              dsimp only
              show (_ : L2.TS) _ [_, _, _, _, _, _, _] _
              have e712 : Ex H7 H12 := by walk_at "ex"
              refine s_asgP (ep_step (a := a) (hh := ph) (x := .ref px) (c := cs[k]) (i := i) (es := es) (rv := rv) (rs := rs) ?_ (ex_l e712 hS7) (hR7.up e712) (ex_l e712 hM7) (hx7.up e712) hil (by omega) sh.g (hst.ok sh) (by omega)) (fun z H13 e13 hz => ?_)
              · walk_at "ev"
              · dsimp only
                rw [hgo.at_] at hz
                have e713 : Ex H7 H13 := e712.trans e13
                exact ⟨j, k + 1, _, z, _, _, some (.int cs[k]), e7.trans e713, e713 _ _ hf7, hD7.up e713, hgo.std, hz, by omega, hrun2, rfl⟩
          · have etk : takeC r (cs.drop k) = 0 := by
              unfold takeC
              rw [if_pos ht, List.drop_eq_nil_of_le (by omega)]
              rfl
            rw [etk] at hrun2 hgo
            refine q_when (b := false) (et_is (b := false) (a := decide ((k : Int) < (((cs.map V.int).length : Nat) : Int))) ?_ (decide_eq_false (by rw [List.length_map]; omega))) (fun hb _ _ => by cases hb) (fun _ H10 e10 => ?_)
            · walk_at "ev"
            · refine s_asg (v := .int ((k : Int) + 1)) ?_ (fun H12 e12 => ?_)
              · walk_at "ev"
              dsimp only
              show (_ : L2.TS) _ [_, _, _, _, _, _, _] _
              have e712 : Ex H7 H12 := by walk_at "ex"
              refine s_asgP (ep_step (a := a) (hh := ph) (x := .ref px) (c := 0) (i := i) (es := es) (rv := rv) (rs := rs) ?_ (ex_l e712 hS7) (hR7.up e712) (ex_l e712 hM7) (hx7.up e712) hil (by omega) sh.g (hst.ok sh) (by omega)) (fun z H13 e13 hz => ?_)
              · walk_at "ev"
              · dsimp only
                rw [hgo.at_] at hz
                have e713 : Ex H7 H13 := e712.trans e13
                exact ⟨j, k + 1, _, z, _, _, some (.int 0), e7.trans e713, e713 _ _ hf7, hD7.up e713, hgo.std, hz, by omega, hrun2, rfl⟩
    · have hb := of_decide_eq_false hb
      have hn : rs[i]? = none := List.getElem?_eq_none (by have := hst.le; omega)
      rw [runF_stop hn, List.append_nil] at hrun
      subst hrun
      refine s_ret (v := .ref pf) (ev_var rfl) (fun H6 e6 => q pf fv H6 hpfH (eH0.trans (e5.trans e6)) (e6 _ _ (e5 _ _ hf)) (hD.up (e5.trans e6)))
theorem epl_runB {a pc : Addr} {cs : List Int} {rv : List V} {rs : List Rw} {ta : TA} {σ : L2.St} {H : Hp} {E : XK} (h : EvA ta σ H [.ref a, .ref pc]) (hS : SqL K H a rv) (hR : Rows H rv rs) (hC : SqL K H pc (cs.map V.int)) (sh : Sheet rs) (hl : rs.length ≤ 40000) (hb : (runM rs cs).length ≤ 99000) :
    EvPL (tCall (spRunB K) [] E ta) σ H (fun us H2 => Stds H2 us (runM rs cs)) := fun H1 e Q q =>
  h H1 e _ fun H2 e2 => ⟨a, pc, cs, rv, rs, rfl, ex_l (e.trans e2) hS, hR.up (e.trans e2), ex_l (e.trans e2) hC, sh, hl, hb, fun p vs H3 hp e3 h3 hs => q p vs H3 (fresh_back e2 hp) (e2.trans e3) h3 hs⟩
end
end BD
namespace BD
open PySem PySem.Spec PyProof.Rows L2 Evl
local macro_rules | `(tactic| walk_at "ev") => `(tactic| first
  | ((with_reducible apply ev_var) ; rfl)
  | with_reducible exact ev_c
  | ((with_reducible apply ev_I0) <;> walk_at "ev")
  | ((with_reducible apply ev_e9) <;> walk_at "ev")
  | ((with_reducible apply ev_I) <;> walk_at "ev")
  | ((with_reducible apply ev_eq) <;> walk_at "ev")
  | ((with_reducible apply ev_ne) <;> walk_at "ev")
  | ((with_reducible apply ev_neg) <;> walk_at "ev")
  | ((with_reducible apply ev_ixN) <;> walk_at "ev")
  | ((with_reducible apply ev_ixL) <;> walk_at "ev")
  | ((with_reducible apply ev_inN) <;> walk_at "ev")
  | ((with_reducible apply ev_inT) <;> walk_at "ev")
  | ((with_reducible apply ev_ixT) <;> walk_at "ev")
  | ((with_reducible apply ev_ixS) <;> walk_at "ev")
  | ((with_reducible apply ev_len') <;> walk_at "ev")
  | ((with_reducible apply et_test) <;> walk_at "ev")
  | ((with_reducible apply et_and) <;> walk_at "ev")
  | ((with_reducible apply et_or) <;> walk_at "ev")
  | ((with_reducible apply et_not) <;> walk_at "ev")
  | ((with_reducible apply et_B) <;> walk_at "ev")
  | ((with_reducible apply el_lst) <;> walk_at "ev")
  | ((with_reducible apply eu_tup) <;> walk_at "ev")
  | ((with_reducible apply ea_cons) <;> walk_at "ev")
  | with_reducible exact ea_nil
  | with_reducible assumption
  | ((with_reducible apply ex_l' ; assumption) ; walk_at "ex")
  | ((with_reducible apply ex_t' ; assumption) ; walk_at "ex")
  | (intro _ ; walk_at "ev")
  | (with_reducible first | exact atI_hd | exact at_kind | exact at2s | exact at3s | exact at3i)
  | (first | exact rfl | exact Nat.le_of_ble_eq_true rfl | exact ⟨by decide, by decide⟩ | decide | exact Or.inl ⟨by omega, by omega⟩ | exact Or.inr ⟨by omega, by omega⟩ | omega)
  | skip)
local macro_rules | `(tactic| walk_at "ex") => `(tactic| first
  | assumption
  | exact Ex.refl _
  | (refine' Ex.trans ?_ (by assumption) ; walk_at "ex"))
local macro_rules | `(tactic| walk_at "row") => `(tactic| first
  | (with_reducible exact er_nil)
  | ((with_reducible apply er_cons) <;> walk_at "row")
  | (((with_reducible apply er_var) ; rfl) ; walk_at "isrow")
  | (((with_reducible apply elr_var) ; rfl) ; walk_at "isrow")
  | ((with_reducible apply elr_cat) <;> walk_at "row")
  | ((with_reducible apply elr_lst) <;> walk_at "row")
  | ((with_reducible apply er_fin) <;> walk_at "ev")
  | ((with_reducible apply er_lendT) <;> walk_at "ev")
  | ((with_reducible apply er_lendW) <;> walk_at "ev")
  | ((with_reducible apply er_pick) <;> walk_at "ev")
  | ((with_reducible apply er_either) <;> walk_at "ev")
  | ((with_reducible apply er_or) <;> walk_at "ev")
  | ((with_reducible apply er_again) <;> walk_at "ev")
  | ((with_reducible apply er_back) <;> walk_at "ev")
  | ((with_reducible apply er_look) <;> walk_at "ev")
  | ((with_reducible apply er_change) <;> walk_at "ev")
  | exact Nat.le_of_ble_eq_true rfl
  | skip)
local macro_rules | `(tactic| walk_at "isrow") => `(tactic| first
  | assumption
  | (refine IsRow.up ?_ (by assumption) ; walk_at "ex")
  | (refine LRows.up ?_ (by assumption) ; walk_at "ex"))

abbrev s_l_some_ways : Stmt := topS 82
theorem sc_l_some_ways : FnScope ["_law_rows", "_law_home", "_law_at"] ["_law_rows", "_law_home", "_law_at"] (defScope s_l_some_ways) := ⟨rfl, rfl, rfl, by decide +kernel, rfl, by decide +kernel, by decide +kernel⟩
abbrev s_l_whole : Stmt := topS 79
theorem sc_l_whole : FnScope ["_law_found"] ["_law_found"] (defScope s_l_whole) := ⟨rfl, rfl, rfl, by decide +kernel, rfl, by decide +kernel, by decide +kernel⟩
abbrev s_l_told : Stmt := topS 80
theorem sc_l_told : FnScope ["_law_told_here", "_law_choice"] ["_law_told_here"] (defScope s_l_told) := ⟨rfl, rfl, rfl, by decide +kernel, rfl, by decide +kernel, by decide +kernel⟩
def rInt1 : List V → Hp → VK → Prop := fun xs H Q => (∃ i, xs = [.int i] ∧ Q (.int i) H) ∨ ∃ k, xs = [.bl k] ∧ Q (.int (if k then 1 else 0)) H
def waysM (rs : List Rw) (i : Nat) : Int := match rs[i]? with
  | some (.pick _ ts) => ts.length
  | some .either => (brI rs i rs.length).length
  | some .again => 2
  | _ => 1
section
variable {K : PySem.W.Frag} {σ : L2.St} {H H' : Hp} {ta tb te : TE} {xs ys : List V}
theorem ev_intB {b : Bool} (h : Ev te σ H (.bl b)) : Ev (tCB rInt1 (tCons te tNil)) σ H (.int (if b then 1 else 0)) := fun H1 e Q q =>
  h H1 e _ fun H2 e2 => Or.inr ⟨b, rfl, q H2 e2⟩
theorem ev_ixLN {i : Int} {v : V} (ha : EvL ta σ H xs) (hb : Ev tb σ H (.int i)) (hi : atI xs i = some v) : Ev (tOp (rIxL K) ta tb) σ H v := fun H1 e Q q =>
  ha H1 e _ fun p H2 _ e2 h2 => hb H2 (e.trans e2) _ fun H3 e3 => rv_ixL (K := K) (H := H3) (sq_of (e3 _ _ h2)) hi H3 (Ex.refl H3) Q fun H4 e4 => q H4 (e2.trans (e3.trans e4))
end
section
variable {P : Program} {w : World} {K : PySem.W.Frag} {mg : Str → Option Value} {base : Heap}
def spMany (K : PySem.W.Frag) : Sp := fun vs H Q _ => ∃ (a hh : Addr) (i : Nat) (rv : List V) (rs : List Rw), vs = [.ref a, .ref hh, .int (i : Int)] ∧ SqL K H a rv ∧ Rows H rv rs ∧ SqL K H hh (homesV rs rs.length) ∧ i < rs.length ∧ rs.length ≤ 40000 ∧ RetV (.int (waysM rs i)) H Q
theorem ok_many (D : Dn K mg "_law_some_ways" s_l_some_ways ["_law_rows", "_law_home", "_law_at"]) (T : Blt mg) (h_l_starts : Has P w K mg base "_law_starts" 1 ["_law_rows", "_law_home", "_law_at"] (spStarts K)) : Has P w K mg base "_law_some_ways" 2 ["_law_rows", "_law_home", "_law_at"] (spMany K) := by
  refine D.ok sc_l_some_ways (fun vs H Q E h => ?_) (fun f cdv A outer s H vs Q E hr h => ?_)
  · obtain ⟨a, hh, i, rv, rs, rfl, _⟩ := h
    rfl
  · obtain ⟨a, hh, i, rv, rs, rfl, hS, hR, hM, hi, hl, q⟩ := h
    refine ⟨_, (pss_cons (ps_if (pt_cmpR op_eq (pe_ix (show IxR _ (rIxT K) from ix_tup) (pe_ix (show IxR _ (rIxL K) from ix_list) (pv 0) (pv 2) (fun _ _ => rfl)) pe_int (fun _ _ => rfl)) pe_str (nomark _)) (pss_one (ps_ret (pe_callB (show CallR _ _ (rLenS K) from call_len_seq) (by rfl) T.len_ (by decide +kernel) (pa_cons (pe_ix (show IxR _ (rIxT K) from ix_tup) (pe_ix (show IxR _ (rIxL K) from ix_list) (pv 0) (pv 2) (fun _ _ => rfl)) pe_int (fun _ _ => rfl)) pa_nil)))) pss_nil) (pss_cons (ps_if (pt_cmpR op_eq (pe_ix (show IxR _ (rIxT K) from ix_tup) (pe_ix (show IxR _ (rIxL K) from ix_list) (pv 0) (pv 2) (fun _ _ => rfl)) pe_int (fun _ _ => rfl)) pe_str (nomark _)) (pss_one (ps_ret (pe_callB (show CallR _ _ (rLenS K) from call_len_seq) (by rfl) T.len_ (by decide +kernel) (pa_cons (pe_own h_l_starts (hr.mono (by decide)) (by rfl) (pa_cons (pv 0) (pa_cons (pv 1) (pa_cons (pv 2) pa_nil)))) pa_nil)))) pss_nil) (pss_one (ps_ret (pe_ix (show IxR _ (rIxL K) from ix_list) (pe_lst (pa_cons pe_int (pa_cons pe_int pa_nil))) (pe_callTy (show CallR _ _ rInt1 from call_int1) (by rfl) T.int_ (by decide +kernel) (pa_cons (pe_cmpR op_eq (pe_ix (show IxR _ (rIxT K) from ix_tup) (pe_ix (show IxR _ (rIxL K) from ix_list) (pv 0) (pv 2) (fun _ _ => rfl)) pe_int (fun _ _ => rfl)) pe_str (nomark _)) pa_nil)) (fun _ _ => rfl)))))), ?_⟩
    show (_ : L2.TS) _ [_, _, _] _
    have hg := List.getElem?_eq_getElem hi
    generalize rs[i] = r at hg
    obtain ⟨y, hy, hY⟩ := hR.get hg
    have hix : atI rv (i : Int) = some y := atI_nat hy
    obtain ⟨py, ys, rfl, hpy⟩ := hY.tup
    have hPy : SqT K H py (.str r.tag :: ys) := st_of hpy
    unfold waysM at q
    rw [hg] at q
    refine q_when (b := decide (V.str r.tag = V.str "pick")) (et_test (ev_eq (ev_ixT (ev_ixL (ev_var rfl) hS (ev_var rfl) hix) hPy ev_c atI_hd) ev_c rfl)) (fun hb H1 e1 => ?_) (fun hb H1 e1 => ?_)
    · cases r with
      | pick w ts =>
        obtain ⟨p, pt, h1, h2, h3⟩ := hY
        cases h1
        refine s_ret (v := .int (ts.length : Int)) (ev_is (ev_lenT (xs := ts.map V.int) (ev_ixT (ev_ixL (ev_var rfl) (ex_l e1 hS) (ev_var rfl) hix) (ex_t e1 (st_of h2)) ev_c rfl) (ex_t e1 (st_of h3))) (by rw [List.length_map])) (fun H2 e2 => q H2 (e1.trans e2))
      | _ => exact absurd hb (by simp [Rw.tag] <;> decide)
    · refine q_when (b := decide (V.str r.tag = V.str "either")) (et_test (ev_eq (ev_ixT (ev_ixL (ev_var rfl) (ex_l e1 hS) (ev_var rfl) hix) (ex_t e1 hPy) ev_c atI_hd) ev_c rfl)) (fun hb2 H2 e2 => ?_) (fun hb2 H2 e2 => ?_)
      · have e02 := e1.trans e2
        cases r with
        | either =>
          refine s_ret (v := .int ((brI rs i rs.length).length : Int)) (ev_is (ev_lenN (el_starts (n := i) (ea_cons (ev_var rfl) (ea_cons (ev_var rfl) (ea_cons (ev_var rfl) ea_nil))) (ex_l e02 hS) (hR.up e02) (ex_l e02 hM) hi (by omega))) (by rw [brV_I, List.length_map])) (fun H3 e3 => q H3 (e02.trans e3))
        | _ => exact absurd hb2 (by simp [Rw.tag] <;> decide)
      · have e02 := e1.trans e2
        refine s_ret (v := .int (match r with
          | .pick _ ts => (ts.length : Int)
          | .either => ((brI rs i rs.length).length : Int)
          | .again => 2
          | _ => 1)) (ev_ixLN (xs := [.int 1, .int 2]) (el_lst (ea_cons ev_c (ea_cons ev_c ea_nil)) (Nat.le_of_ble_eq_true rfl)) (ev_intB (b := decide (V.str r.tag = V.str "again")) (ev_eq (ev_ixT (ev_ixL (ev_var rfl) (ex_l e02 hS) (ev_var rfl) hix) (ex_t e02 hPy) ev_c atI_hd) ev_c rfl)) ?_) (fun H3 e3 => ?_)
        · cases r with
          | pick w ts => exact absurd hb (by simp [Rw.tag] <;> decide)
          | either => exact absurd hb2 (by simp [Rw.tag] <;> decide)
          | _ => rfl
        · cases r <;> exact q H3 (e02.trans e3)
theorem ev_many {a hh : Addr} {i : Nat} {rv : List V} {rs : List Rw} {ta : TA} {σ : L2.St} {H : Hp} {E : XK} (h : EvA ta σ H [.ref a, .ref hh, .int (i : Int)]) (hS : SqL K H a rv) (hR : Rows H rv rs) (hM : SqL K H hh (homesV rs rs.length)) (hi : i < rs.length) (hl : rs.length ≤ 40000) :
    Ev (tCall (spMany K) [] E ta) σ H (.int (waysM rs i)) := ev_call h fun H1 e Q q E => ⟨a, hh, i, rv, rs, rfl, ex_l e hS, hR.up e, ex_l e hM, hi, hl, q⟩
def spWhole : Sp := fun vs H Q _ => ∃ (i : Int), vs = [.int i] ∧ RetV (.bl true) H Q
theorem ok_whole (D : Dn K mg "_law_whole" s_l_whole ["_law_found"]) (T : Blt mg) : Has P w K mg base "_law_whole" 1 ["_law_found"] spWhole := by
  refine D.ok sc_l_whole (fun vs H Q E h => ?_) (fun f cdv A outer s H vs Q E hr h => ?_)
  · obtain ⟨i, rfl, _⟩ := h
    rfl
  · obtain ⟨i, rfl, q⟩ := h
    refine ⟨_, (pss_one (ps_ret (pe_and (pe_callB (show CallR _ _ (rIsi K) from call_isi) (by rfl) T.isinstance_ (by decide +kernel) (pa_cons (pv 0) (pa_cons (pe_bltn (v := .ty "int") (by rfl) T.int_ (by decide +kernel) rfl) pa_nil))) (pe_one (pe_not (pe_callB (show CallR _ _ (rIsi K) from call_isi) (by rfl) T.isinstance_ (by decide +kernel) (pa_cons (pv 0) (pa_cons (pe_bltn (v := .ty "bool") (by rfl) T.bool_ (by decide +kernel) rfl) pa_nil)))))))), ?_⟩
    refine s_ret (v := .bl (true && !false)) (ev_andV (ev_isiI (i := i) ?_ (show kitB "int" "int" = some true by decide +kernel)) (fun _ => ev_notV (ev_isiI (i := i) ?_ (show kitB "int" "bool" = some false by decide +kernel)))) (fun H1 e1 => q H1 e1)
    · walk_at "ev"
    · walk_at "ev"
theorem ev_whole {i : Int} {ta : TA} {σ : L2.St} {H : Hp} {E : XK} (h : EvA ta σ H [.int i]) : Ev (tCall spWhole [] E ta) σ H (.bl true) := ev_call h fun H1 e Q q E => ⟨i, rfl, q⟩
def toldL : List Str := ["beside", "empty", "asleep"]
def spTold (K : PySem.W.Frag) : Sp := fun vs H Q _ => ∃ (p pc : Addr) (i : Int) (u : Str) (ns : List Int), vs = [.ref p] ∧ H p = some (.tup [.int i, .str u, .ref pc]) ∧ u ∈ toldL ∧ H pc = some (.lst (ns.map V.int)) ∧ (∀ n ∈ ns, 0 ≤ n) ∧ ns.length ≤ 40000 ∧ RetV (.bl true) H Q
theorem ok_told (D : Dn K mg "_law_told" s_l_told ["_law_told_here"]) (T : Blt mg) (h_l_whole : Has P w K mg base "_law_whole" 1 ["_law_found"] spWhole) : Has P w K mg base "_law_told" 2 ["_law_told_here"] (spTold K) := by
  refine D.ok sc_l_told (fun vs H Q E h => ?_) (fun f cdv A outer s H vs Q E hr h => ?_)
  · obtain ⟨p, pc, i, u, ns, rfl, _⟩ := h
    rfl
  · obtain ⟨p, pc, i, u, ns, rfl, hp, hu, hpc, hns, hl, q⟩ := h
    have hP : SqT K H p [.int i, .str u, .ref pc] := st_of hp
    refine ⟨_, (pss_cons (ps_if (PW.pt (pw_or (pt_not (pt_val (pe_callB (show CallR _ _ (rIsi K) from call_isi) (by rfl) T.isinstance_ (by decide +kernel) (pa_cons (pv 0) (pa_cons (pe_bltn (v := .ty "tuple") (by rfl) T.tuple_ (by decide +kernel) rfl) pa_nil))))) (pw_or (pt_cmpR op_ne (pe_callB (show CallR _ _ (rLenS K) from call_len_seq) (by rfl) T.len_ (by decide +kernel) (pa_cons (pv 0) pa_nil)) pe_int (nomark _)) (pw_or1 (pt_not (pt_val (pe_own h_l_whole (hr.mono (by decide)) (by rfl) (pa_cons (pe_ix (show IxR _ (rIxT K) from ix_tup) (pv 0) pe_int (fun _ _ => rfl)) pa_nil)))))))) (pss_one (ps_ret pe_bl)) pss_nil) (pss_cons (ps_if (PW.pt (pw_or (pt_not (pt_val (pe_callB (show CallR _ _ (rIsi K) from call_isi) (by rfl) T.isinstance_ (by decide +kernel) (pa_cons (pe_ix (show IxR _ (rIxT K) from ix_tup) (pv 0) pe_int (fun _ _ => rfl)) (pa_cons (pe_bltn (v := .ty "str") (by rfl) T.str_ (by decide +kernel) rfl) pa_nil))))) (pw_or (pt_cmpR (show OpR _ _ (rIn K true) from op_notIn_seq) (pe_ix (show IxR _ (rIxT K) from ix_tup) (pv 0) pe_int (fun _ _ => rfl)) (pe_lst (pa_cons pe_str (pa_cons pe_str (pa_cons pe_str pa_nil)))) (by rfl)) (pw_or1 (pt_not (pt_val (pe_callB (show CallR _ _ (rIsi K) from call_isi) (by rfl) T.isinstance_ (by decide +kernel) (pa_cons (pe_ix (show IxR _ (rIxT K) from ix_tup) (pv 0) pe_int (fun _ _ => rfl)) (pa_cons (pe_bltn (v := .ty "list") (by rfl) T.list_ (by decide +kernel) rfl) pa_nil))))))))) (pss_one (ps_ret pe_bl)) pss_nil) (pss_one (ps_ret (pe_callB (cr_all rfl) (by rfl) T.all_ (by decide +kernel) (pa_cons (pe_lc (own := [("_law_choice", 1)]) (g := (gName 1)) (tt := tYes) rfl sc_l_told.nd (pi_list (pe_ix (show IxR _ (rIxT K) from ix_tup) (pv 0) pe_int (fun _ _ => rfl))) (blkOk_by (own := [("_law_choice", 1)]) (N := ["_law_told_here", "_law_choice"]) (sc := defScope s_l_told) (by decide +kernel)) (fun _ _ _ _ _ => (pg_name (i := 1) sc_l_told.nd rfl (Or.inl rfl))) (fun _ _ _ _ _ => pts_nil) (fun _ _ _ _ _ => (pe_and (pe_own h_l_whole (hr.mono (by decide)) (by rfl) (pa_cons (pv 1) pa_nil)) (pe_one (pe_cmpR op_ge (pv 1) pe_int (nomark _)))))) pa_nil)))))), ?_⟩
    show (_ : L2.TS) _ [_, _] _
    refine q_when (b := false) (et_is (et_or (a := false) (et_is (et_not (et_B (ev_isiT (ea_cons (ev_var rfl) (ea_cons ev_c ea_nil)) hp (show kitB "tuple" "tuple" = some true by decide +kernel)))) rfl) (fun _ => et_or (a := false) (et_is (et_test (ev_ne (ev_lenT (ev_var rfl) hP) ev_c rfl)) rfl) (fun _ => et_not (et_B (ev_whole (ea_cons (ev_ixT (ev_var rfl) hP ev_c rfl) ea_nil)))))) rfl) (fun hb => by cases hb) (fun _ H1 e1 => ?_)
    have hP1 := ex_t e1 hP
    refine q_when (b := false) (et_is (et_or (a := false) (et_is (et_not (et_B (ev_isiS (ea_cons (ev_ixT (ev_var rfl) hP1 ev_c rfl) (ea_cons ev_c ea_nil)) (show kitB "str" "str" = some true by decide +kernel)))) rfl) (fun _ => et_or (a := false) (et_is (et_test (ev_opL (ev_ixT (ev_var rfl) hP1 ev_c rfl) (el_lst (ea_cons ev_c (ea_cons ev_c (ea_cons ev_c ea_nil))) (Nat.le_of_ble_eq_true rfl)) fun _ _ hz _ => rv_niL (sq_of hz) rfl rfl)) ?_) (fun _ => et_not (et_B (ev_isiL (ea_cons (ev_ixT (ev_var rfl) hP1 ev_c rfl) (ea_cons ev_c ea_nil)) (e1 _ _ hpc) (show kitB "list" "list" = some true by decide +kernel)))))) rfl) (fun hb => by cases hb) (fun _ H2 e2 => ?_)
    · have h1 : inV (.str u) (toldL.map V.str) = true := by
        rw [inV_strs]
        exact decide_eq_true hu
      show (!inV (.str u) (toldL.map V.str)) = false
      rw [h1]
      rfl
    have hpc2 : SqL K H2 pc (ns.map V.int) := sq_of ((e1.trans e2) _ _ hpc)
    refine s_ret (v := .bl true) (ev_is (ev_all (bs := List.replicate (ns.map V.int).length true) ?_) (by rw [rep_all])) (fun H3 e3 => q H3 (e1.trans (e2.trans e3)))
    rw [List.map_replicate, ← given_rep]
    refine el_lcL _ _ (ev_ixT (ev_var rfl) (ex_t e2 hP1) ev_c rfl) hpc2 (by rw [List.length_map]; exact hl) (fun x => rfl) (fun i x H3 e3 hi => et_yes) (fun i x H3 e3 hi _ => ?_)
    rw [List.getElem?_map] at hi
    obtain ⟨n, hn, rfl⟩ := Option.map_eq_some_iff.mp hi
    refine ev_is (ev_andV (ev_whole (ea_cons (ev_var rfl) ea_nil)) (fun _ => ev_I0 (ev_var rfl) ev_c)) ?_
    rw [decide_eq_true (hns n (List.mem_of_getElem? hn))]
    rfl
theorem ev_told {p pc : Addr} {i : Int} {u : Str} {ns : List Int} {ta : TA} {σ : L2.St} {H : Hp} {E : XK} (h : EvA ta σ H [.ref p]) (hp : H p = some (.tup [.int i, .str u, .ref pc])) (hu : u ∈ toldL) (hpc : H pc = some (.lst (ns.map V.int))) (hns : ∀ n ∈ ns, 0 ≤ n) (hl : ns.length ≤ 40000) :
    Ev (tCall (spTold K) [] E ta) σ H (.bl true) := ev_call h fun H1 e Q q E => ⟨p, pc, i, u, ns, rfl, e _ _ hp, hu, e _ _ hpc, hns, hl, q⟩
end
end BD
namespace BD
open PySem PySem.Spec PyProof.Rows L2 Evl
local macro_rules | `(tactic| walk_at "ev") => `(tactic| first
  | ((with_reducible apply ev_var) ; rfl)
  | with_reducible exact ev_c
  | ((with_reducible apply ev_I0) <;> walk_at "ev")
  | ((with_reducible apply ev_e9) <;> walk_at "ev")
  | ((with_reducible apply ev_I) <;> walk_at "ev")
  | ((with_reducible apply ev_eq) <;> walk_at "ev")
  | ((with_reducible apply ev_ne) <;> walk_at "ev")
  | ((with_reducible apply ev_neg) <;> walk_at "ev")
  | ((with_reducible apply ev_ixN) <;> walk_at "ev")
  | ((with_reducible apply ev_ixL) <;> walk_at "ev")
  | ((with_reducible apply ev_inN) <;> walk_at "ev")
  | ((with_reducible apply ev_inT) <;> walk_at "ev")
  | ((with_reducible apply ev_ixT) <;> walk_at "ev")
  | ((with_reducible apply ev_ixS) <;> walk_at "ev")
  | ((with_reducible apply ev_len') <;> walk_at "ev")
  | ((with_reducible apply et_test) <;> walk_at "ev")
  | ((with_reducible apply et_and) <;> walk_at "ev")
  | ((with_reducible apply et_or) <;> walk_at "ev")
  | ((with_reducible apply et_not) <;> walk_at "ev")
  | ((with_reducible apply et_B) <;> walk_at "ev")
  | ((with_reducible apply el_lst) <;> walk_at "ev")
  | ((with_reducible apply eu_tup) <;> walk_at "ev")
  | ((with_reducible apply ea_cons) <;> walk_at "ev")
  | with_reducible exact ea_nil
  | with_reducible assumption
  | ((with_reducible apply ex_l' ; assumption) ; walk_at "ex")
  | ((with_reducible apply ex_t' ; assumption) ; walk_at "ex")
  | (intro _ ; walk_at "ev")
  | (with_reducible first | exact atI_hd | exact at_kind | exact at2s | exact at3s | exact at3i)
  | (first | exact rfl | exact Nat.le_of_ble_eq_true rfl | exact ⟨by decide, by decide⟩ | decide | exact Or.inl ⟨by omega, by omega⟩ | exact Or.inr ⟨by omega, by omega⟩ | omega)
  | skip)
local macro_rules | `(tactic| walk_at "ex") => `(tactic| first
  | assumption
  | exact Ex.refl _
  | (refine' Ex.trans ?_ (by assumption) ; walk_at "ex"))
local macro_rules | `(tactic| walk_at "row") => `(tactic| first
  | (with_reducible exact er_nil)
  | ((with_reducible apply er_cons) <;> walk_at "row")
  | (((with_reducible apply er_var) ; rfl) ; walk_at "isrow")
  | (((with_reducible apply elr_var) ; rfl) ; walk_at "isrow")
  | ((with_reducible apply elr_cat) <;> walk_at "row")
  | ((with_reducible apply elr_lst) <;> walk_at "row")
  | ((with_reducible apply er_fin) <;> walk_at "ev")
  | ((with_reducible apply er_lendT) <;> walk_at "ev")
  | ((with_reducible apply er_lendW) <;> walk_at "ev")
  | ((with_reducible apply er_pick) <;> walk_at "ev")
  | ((with_reducible apply er_either) <;> walk_at "ev")
  | ((with_reducible apply er_or) <;> walk_at "ev")
  | ((with_reducible apply er_again) <;> walk_at "ev")
  | ((with_reducible apply er_back) <;> walk_at "ev")
  | ((with_reducible apply er_look) <;> walk_at "ev")
  | ((with_reducible apply er_change) <;> walk_at "ev")
  | exact Nat.le_of_ble_eq_true rfl
  | skip)
local macro_rules | `(tactic| walk_at "isrow") => `(tactic| first
  | assumption
  | (refine IsRow.up ?_ (by assumption) ; walk_at "ex")
  | (refine LRows.up ?_ (by assumption) ; walk_at "ex"))

abbrev s_l_few : Stmt := topS 83
theorem sc_l_few : FnScope ["_law_rows", "_law_most", "_law_home", "_law_queue", "_law_seen", "_law_place", "_law_standing", "_law_choice", "_law_other"] ["_law_rows", "_law_most"] (defScope s_l_few) := ⟨rfl, rfl, rfl, by decide +kernel, rfl, by decide +kernel, by decide +kernel⟩
theorem brI_len (rs : List Rw) (a n : Nat) : (brI rs a n).length ≤ n + 1 := by
  unfold brI
  rw [List.length_cons, List.length_map]
  have := List.length_filter_le (orF rs a) (List.range n)
  rw [List.length_range] at this
  omega
theorem onM_at {rs : List Rw} {i k : Nat} {es : List Ent} {r : Rw} (hr : rs[i]? = some r) (ok : StepOk rs i es) (hk : k < (onM rs i es).length) : (onM rs i es)[k]? = some (goM rs i es (k : Int)) := by
  have h0 := onM_go hr ok (k : Int)
  have hm : ((k : Int) % ((onM rs i es).length : Int)).toNat = k := by
    rw [Int.emod_eq_of_lt (by omega) (by omega), Int.toNat_natCast]
  rw [hm, List.getD_eq_getElem?_getD, List.getElem?_eq_getElem hk] at h0
  rw [List.getElem?_eq_getElem hk, ← h0]
  rfl
theorem onM_few {rs : List Rw} (sh : Sheet rs) {i : Nat} {es : List Ent} {r : Rw} (hr : rs[i]? = some r) : (onM rs i es).length ≤ rs.length + 5 := by
  have h := onM_ways (es := es) hr
  rw [hr] at h
  have hs := sh.s r (List.mem_of_getElem? hr)
  have hb := brI_len rs i rs.length
  cases r with
  | pick w ts =>
    have h2 : ((onM rs i es).length : Int) = (ts.length : Int) := h
    have := hs.2.2.1
    omega
  | either =>
    have h2 : ((onM rs i es).length : Int) = ((brI rs i rs.length).length : Int) := h
    omega
  | again =>
    have h2 : ((onM rs i es).length : Int) = 2 := h
    omega
  | _ =>
    have h2 : ((onM rs i es).length : Int) = 1 := h
    omega
section
variable {P : Program} {w : World} {K : PySem.W.Frag} {mg : Str → Option Value} {base : Heap}
/-- the law's own going through: what was found, in turn; what was seen -/
structure LI (P : Program) (w : World) (rs : List Rw) (H : Hp) (d pf ep : Nat) (kvs : List SX) (ks : List SE) (fv : List V) (f : Nat) (G : Hp) : Prop where
  ex : Ex H G
  li : G pf = some (.lst fv)
  sd : SD P w G d ep kvs
  st : StdsI G fv ks
  nd : ks.Nodup
  re : ∀ st ∈ ks, Reach rs st
  s0 : 0 < rs.length → ((0, []) : SE) ∈ ks
  k1 : ∀ st ∈ ks, st ∈ kvs.map (·.1)
  k2 : 0 < rs.length → ∀ st ∈ kvs.map (·.1), st ∈ ks
  kl : kvs.length ≤ ks.length + 1
  cl : ∀ n st, n < f → ks[n]? = some st → Closed rs ks st
theorem q_ndispT {σ : L2.St} {H : Hp} {D : Ends} {tz : TS} {tk : TE} {i : Nat} {st : SE} (hk : ∀ H1, EvP tk σ H1 (AStand st.1 st.2)) (k : ∀ p ep a G, H p = none → Ex H G → SD P w G p ep [(st, a, .bl true)] → tz D (σ.set i (some (.ref p))) G) : tSeq (tAsg (tNDisp P w tk (tC (.bl true))) (gName i)) tz D σ H := fun p hp => hk _ _ (Ex.refl _) _ fun x H3 e3 hx => by
  obtain ⟨px, pq, hv, rfl, h31, h32, h33⟩ := id hx
  have hd3 := e3 _ _ upd_same
  exact ⟨.ref px, .bl true, rfl, px, st, rfl, hd3, hx, rfl, fun ep => k p ep px _ hp (Ex.mut ((Ex.new hp).trans e3) hp) ((nd_nil hd3).add hx rfl rfl (Nat.succ_pos _))⟩
def spFew (K : PySem.W.Frag) : Sp := fun vs H Q _ => ∃ (a : Addr) (N : Nat) (rv : List V) (rs : List Rw), vs = [.ref a, .int (N : Int)] ∧ SqL K H a rv ∧ Rows H rv rs ∧ Sheet rs ∧ rs.length ≤ 2000 ∧ N ≤ 400 ∧
  ∀ b H', Ex H H' → (b = true → Bnd rs N) → Q (.bl b) H'
theorem ok_few (D : Dn K mg "_law_few" s_l_few ["_law_rows", "_law_most"]) (T : Blt mg) (h_l_homes : Has P w K mg base "_law_homes" 1 ["_law_rows"] (spHomes K)) (h_l_some_ways : Has P w K mg base "_law_some_ways" 2 ["_law_rows", "_law_home", "_law_at"] (spMany K)) (h_l_step : Has P w K mg base "_law_step" 2 ["_law_rows", "_law_home", "_law_standing", "_law_choice"] (spStep K)) : Has P w K mg base "_law_few" 3 ["_law_rows", "_law_most"] (spFew K) := by
  refine D.ok sc_l_few (fun vs H Q E h => ?_) (fun f cdv A outer s H vs Q E hr h => ?_)
  · obtain ⟨a, N, rv, rs, rfl, _⟩ := h
    rfl
  · obtain ⟨a, N, rv, rs, rfl, hS, hR, sh, hl, hN, q⟩ := h
    have hlr := hR.len
    refine ⟨_, (pss_cons (ps_set (i := 2) sc_l_few.nd rfl (Or.inl rfl) (pe_own h_l_homes (hr.mono (by decide)) (by rfl) (pa_cons (pv 0) pa_nil))) (pss_cons (ps_set (i := 3) sc_l_few.nd rfl (Or.inl rfl) (pe_lst (pa_cons (pe_tup (pa_cons pe_int (pa_cons (pe_tup pa_nil) pa_nil))) pa_nil))) (pss_cons (ps_set (i := 4) sc_l_few.nd rfl (Or.inl rfl) (pe_ndisp hr (pe_tup (pa_cons pe_int (pa_cons (pe_tup pa_nil) pa_nil))) pe_bl)) (pss_cons (ps_set (i := 5) sc_l_few.nd rfl (Or.inl rfl) pe_int) (pss_cons (ps_while PassesOwn.never (PW.pt (pw_and (pt_cmpR op_lt (pv 5) (pe_callB (show CallR _ _ (rLenS K) from call_len_seq) (by rfl) T.len_ (by decide +kernel) (pa_cons (pv 3) pa_nil)) (nomark _)) (pw_and1 (pt_cmpR op_gt (pe_callB (show CallR _ _ (rLenS K) from call_len_seq) (by rfl) T.len_ (by decide +kernel) (pa_cons (pv 0) pa_nil)) pe_int (nomark _))))) (pss_cons (ps_if (pt_cmpR op_gt (pe_callB (show CallR _ _ (rLenS K) from call_len_seq) (by rfl) T.len_ (by decide +kernel) (pa_cons (pv 3) pa_nil)) (pv 1) (nomark _)) (pss_one (ps_ret pe_bl)) pss_nil) (pss_cons (ps_set (i := 6) sc_l_few.nd rfl (Or.inl rfl) (pe_ix (show IxR _ (rIxL K) from ix_list) (pv 3) (pv 5) (fun _ _ => rfl))) (pss_cons (ps_for PassesOwn.never rfl (pi_range1 (by rfl) T.range_ (pa_cons (pe_own h_l_some_ways (hr.mono (by decide)) (by rfl) (pa_cons (pv 0) (pa_cons (pv 2) (pa_cons (pe_ix (show IxR _ (rIxT K) from ix_tup) (pv 6) pe_int (fun _ _ => rfl)) pa_nil)))) pa_nil)) (pg_name (i := 7) sc_l_few.nd rfl (Or.inl rfl)) (pss_cons (ps_set (i := 8) sc_l_few.nd rfl (Or.inl rfl) (pe_own h_l_step (hr.mono (by decide)) (by rfl) (pa_cons (pv 0) (pa_cons (pv 2) (pa_cons (pv 6) (pa_cons (pv 7) pa_nil)))))) (pss_one (ps_if (PW.pt (pw_and (pt_cmpR op_lt (pe_ix (show IxR _ (rIxT K) from ix_tup) (pv 8) pe_int (fun _ _ => rfl)) (pe_callB (show CallR _ _ (rLenS K) from call_len_seq) (by rfl) T.len_ (by decide +kernel) (pa_cons (pv 0) pa_nil)) (nomark _)) (pw_and1 (pt_cmpR (op_nin hr) (pv 8) (pv 4) (by rfl))))) (pss_cons (ps_nput hr (pv 4) (pv 8) pe_bl rfl) (pss_one (ps_expr (pe_bm PySem.F.plainAttrs_list PySem.F.slot_list_append PySem.F.type_list_append mt_append (pv 3) (pa_cons (pv 8) pa_nil))))) pss_nil)))) (pss_one (ps_set (i := 5) sc_l_few.nd rfl (Or.inl rfl) (pe_op op_add (pv 5) pe_int))))))) (pss_one (ps_ret pe_bl))))))), ?_⟩
    show (_ : L2.TS) _ [_, _, _, _, _, _, _, _, _] _
    refine q_asgL (el_homes (ea_cons (ev_var rfl) ea_nil) hS hR sh.g (by omega)) (fun ph H1 hph e1 h1 => ?_)
    show (_ : L2.TS) _ [_, _, _, _, _, _, _, _, _] _
    have es0 : ∀ (σ : L2.St) (H : Hp), EvP (tTup (tCons (tC (.int 0)) (tCons (tTup tNil) tNil))) σ H (AStand ((0, []) : SE).1 ((0, []) : SE).2) := fun σ H =>
      ep_stand (es := []) ev_c (EvP.mono (ep_U (xs := []) (eu_tup ea_nil (by decide))) fun v H ⟨p, h4, h5⟩ => ⟨p, [], h4, h5, .nil⟩)
    refine q_asgPL (epl_one (st := ((0, []) : SE)) (es0 _ _)) (fun pf fv0 G hpf1 eG hli hst => ?_)
    show (_ : L2.TS) _ [_, _, _, _, _, _, _, _, _] _
    refine q_ndispT (P := P) (w := w) (st := ((0, []) : SE)) (fun H1 => es0 _ H1) (fun d ep k0 G0 hd g0 S0 => ?_)
    show (_ : L2.TS) _ [_, _, _, _, _, _, _, _, _] _
    refine q_asg (v := .int ((0 : Nat) : Int)) ev_c (fun G1 g1 => ?_)
    show (_ : L2.TS) _ [_, _, _, _, _, _, _, _, _] _
    have g01 := g0.trans g1
    have hd1 : H1 d = none := fresh_back eG hd
    have e01 := eG.trans g01
    by_cases hpos0 : 0 < rs.length
    rotate_left
    · refine q_while (fun m σ' G => Ex H1 G ∧ σ' = [some (.ref a), some (.int (N : Int)), some (.ref ph), some (.ref pf), some (.ref d), some (.int ((0 : Nat) : Int)), none, none, none] ∧ G pf = some (.lst fv0)) 1 ⟨e01, rfl, g01 _ _ hli⟩ ?_
      rintro m σ' G' ⟨eG', rfl, hli'⟩
      refine ⟨false, et_is (et_and (et_test (ev_I0 (ev_var rfl) (ev_len' (ev_var rfl) (sq_of hli')))) (fun _ => et_test (ev_I0 (ev_len' (ev_var rfl) (ex_l (e1.trans eG') hS)) ev_c))) ?_, fun hb G1 g1 => (by cases hb), fun hb G1 g1 => ?_⟩
      · rw [hlr, show rs.length = 0 by omega]
        exact Bool.and_false _
      · exact s_ret ev_c (fun G2 g2 => q true G2 ((e1.trans eG').trans (g1.trans g2)) (fun _ => ⟨[], Nat.zero_le _, fun st h => by
          obtain ⟨i, _, h2, _⟩ := reach_std sh h
          omega⟩))
    refine q_while (fun m σ' G => ∃ f ep kvs ks fv x5 x6 x7, N + 1 ≤ f + m ∧ f ≤ N ∧ f ≤ ks.length ∧ ks.length ≤ 2500 ∧ LI P w rs H1 d pf ep kvs ks fv f G ∧ σ' = [some (.ref a), some (.int (N : Int)), some (.ref ph), some (.ref pf), some (.ref d), some (.int (f : Int)), x5, x6, x7]) (N + 1)
      ⟨0, ep, _, [(0, [])], fv0, none, none, none, by omega, Nat.zero_le _, Nat.zero_le _, (by decide), ⟨e01, g01 _ _ hli, S0.upX g1, hst.up g01, by simp, ?_, fun _ => List.mem_cons_self, ?_, fun _ st hs => hs, Nat.le_succ _, fun n st hn => absurd hn (Nat.not_lt_zero n)⟩, rfl⟩ ?_
    · intro st hs
      rcases List.mem_singleton.mp hs with rfl
      exact .start hpos0
    · exact fun st hs => hs
    clear hst hli S0 g0 g1 g01 e01 hd eG fv0 ep k0 G0 G1
    rintro m σ' G' ⟨f, ep, kvs, ks, fv, x5, x6, x7, hm, hfN, hf, hkl, I, rfl⟩
    have hfl := I.st.len
    have hli := I.li
    have hL : SqL K G' pf fv := sq_of hli
    have hSr : SqL K G' a rv := ex_l (e1.trans I.ex) hS
    refine ⟨decide ((f : Int) < (fv.length : Int)) && decide ((rv.length : Int) > 0), et_and (et_test (ev_I0 (ev_var rfl) (ev_len' (ev_var rfl) hL))) (fun _ => et_test (ev_I0 (ev_len' (ev_var rfl) hSr) ev_c)), fun hb G0 g0 => ?_, fun hb G1 g1 => ?_⟩
    · rw [Bool.and_eq_true, decide_eq_true_eq, decide_eq_true_eq] at hb
      obtain ⟨hb1, hb2⟩ := hb
      have hflt : f < fv.length := by omega
      have hxf := List.getElem?_eq_getElem hflt
      obtain ⟨st, hst, hX⟩ := stdsI_at I.st hxf
      obtain ⟨i, hi, hil, hstd⟩ := reach_std sh (I.re st (List.mem_of_getElem? hst))
      obtain ⟨px, pq, hv, hpe, hpx, hpq, hE⟩ := id hX
      rw [hpe] at hxf hX
      have hg := List.getElem?_eq_getElem hil
      have ok := hstd.ok sh
      have hel := hstd.len sh
      have hfew := onM_few sh (es := st.2) hg
      have hpos : 0 < rs.length := by omega
      refine ⟨fun σ2 G2 => ∃ ep kvs ks2 fv x5 x6 x7, f + 1 ≤ N ∧ f + 1 ≤ ks2.length ∧ ks2.length ≤ 2500 ∧ LI P w rs H1 d pf ep kvs ks2 fv (f + 1) G2 ∧ σ2 = [some (.ref a), some (.int (N : Int)), some (.ref ph), some (.ref pf), some (.ref d), some (.int ((f + 1 : Nat) : Int)), x5, x6, x7],
        fun σ2 G2 ⟨ep, kvs, ks2, fv, x5, x6, x7, h0, h1, h2, h3, h4⟩ => ⟨m - 1, by omega, f + 1, ep, kvs, ks2, fv, x5, x6, x7, by omega, h0, h1, h2, h3, h4⟩, ?_⟩
      refine q_when (b := decide ((fv.length : Int) > (N : Int))) (et_test (ev_I0 (ev_len' (ev_var rfl) (ex_l g0 hL)) (ev_var rfl))) (fun hb3 G1 g1 => s_ret ev_c (fun G2 g2 => q false G2 ((e1.trans I.ex).trans (g0.trans (g1.trans g2))) (fun h => by cases h))) (fun hb3 G1 g1' => ?_)
      have g1 := g0.trans g1'
      have hkN : ks.length ≤ N := by
        have := of_decide_eq_false hb3
        omega
      refine q_asg (v := .ref px) (ev_ixL (ev_var rfl) (ex_l g1 hL) (ev_var rfl) (atI_nat hxf)) (fun G2 g2 => ?_)
      show (_ : L2.TS) _ [_, _, _, _, _, _, _, _, _] _
      have g02 := g1.trans g2
      have eG2 : Ex H1 G2 := I.ex.trans g02
      have hS1 : SqL K H1 a rv := ex_l e1 hS
      have hM1 : SqL K H1 ph (homesV rs rs.length) := sq_of h1
      have hX2 : AStand st.1 st.2 (.ref px) G2 := hX.up g02
      have hpx2 := g02 _ _ hpx
      have hways : waysM rs i = ((onM rs i st.2).length : Int) := (onM_ways hg).symm
      refine q_forR1 (n := ((onM rs i st.2).length : Int)) (ea_cons (ev_is (ev_many (i := i) (ea_cons (ev_var rfl) (ea_cons (ev_var rfl) (ea_cons (by rw [← hi]; exact ev_ixT (ev_var rfl) (st_of hpx2) ev_c atI_hd) ea_nil))) (ex_l eG2 hS1) ((hR.up e1).up eG2) (ex_l eG2 hM1) hil (by omega)) (by rw [hways])) ea_nil) ⟨by omega, by omega⟩
        (fun k σ3 G3 => ∃ ep kvs kx fv x6 x7, LI P w rs H1 d pf ep kvs (ks ++ kx) fv f G3 ∧ kx.length ≤ k ∧ AStand st.1 st.2 (.ref px) G3 ∧ (∀ k' t, k' < k → (onM rs i st.2)[k']? = some t → t.1 < (rs.length : Int) → t ∈ ks ++ kx) ∧ σ3 = [some (.ref a), some (.int (N : Int)), some (.ref ph), some (.ref pf), some (.ref d), some (.int (f : Int)), some (.ref px), x6, x7]) ?_ ?_ ?_
      · intro G3 g3
        have g03 := g02.trans g3
        exact ⟨ep, kvs, [], fv, x6, x7, by rw [List.append_nil]; exact ⟨I.ex.trans g03, g03 _ _ hli, I.sd.upX g03, I.st.up g03, I.nd, I.re, I.s0, I.k1, I.k2, I.kl, I.cl⟩, Nat.le_refl _, hX2.up g3, fun k' t h => absurd h (Nat.not_lt_zero k'), rfl⟩
      · rintro k σ3 G3 hk ⟨ep3, kvs3, kx, fv3, y6, y7, J, hkx, hX3, hdone, rfl⟩
        have hk' : k < (onM rs i st.2).length := by omega
        have hat := onM_at hg ok hk'
        have hX3' : AStand (i : Int) st.2 (.ref px) G3 := by rw [← hi]; exact hX3
        dsimp only [List.set]
        refine q_asgP (ep_step (c := (k : Int)) (i := i) (es := st.2) (ea_cons (ev_var rfl) (ea_cons (ev_var rfl) (ea_cons (ev_var rfl) (ea_cons (ev_var rfl) ea_nil)))) (ex_l J.ex hS1) ((hR.up e1).up J.ex) (ex_l J.ex hM1) hX3' hil (by omega) sh.g ok (by omega)) (fun v G4 g4 hv4 => ?_)
        show (_ : L2.TS) _ [_, _, _, _, _, _, _, _, _] _
        generalize hte : goM rs i st.2 (k : Int) = t at *
        obtain ⟨py, pqy, hvy, rfl, hpy, _, _⟩ := id hv4
        have S4 := J.sd.upX g4
        have xE4 := J.ex.trans g4
        have hli4 := g4 _ _ J.li
        have keep : ∀ zs : List SE, (t.1 < (rs.length : Int) → t ∈ zs) → (∀ z ∈ ks ++ kx, z ∈ zs) → ∀ k' t', k' < k + 1 → (onM rs i st.2)[k']? = some t' → t'.1 < (rs.length : Int) → t' ∈ zs := fun zs h1 h2 k' t' hk' ht' hl' => by
          by_cases h : k' = k
          · rw [h, hat] at ht'
            cases ht'
            exact h1 hl'
          · exact h2 _ (hdone k' t' (by omega) ht' hl')
        have hkk := J.kl
        rw [List.length_append] at hkk
        refine s_when (b := decide (t.1 < (rv.length : Int)) && !(lkS kvs3 t).isSome) (et_and (et_test (ev_I0 (ev_ixT (ev_var rfl) (st_of hpy) ev_c atI_hd) (ev_len' (ev_var rfl) (ex_l xE4 hS1)))) (fun _ => et_test (ev_nin (ev_var rfl) hv4 (ev_var rfl) S4))) (fun hb G5 g5 => ?_) (fun hb G5 g5 => ?_)
        · rw [Bool.and_eq_true, decide_eq_true_eq, Bool.not_eq_true'] at hb
          obtain ⟨hb1, hb2⟩ := hb
          rw [hlr] at hb1
          have hnone : lkS kvs3 t = none := by
            cases h : lkS kvs3 t with
            | none => rfl
            | some p => rw [h] at hb2; cases hb2
          have hnk : t ∉ ks ++ kx := fun z => lkS_none hnone (J.k1 t z)
          refine q_nput (P := P) (w := w) (st := t) (R := fun v _ => v = .bl true) (ep_ev ev_c) (ev_var rfl) (S4.upX g5) (ep_varF rfl fun H1 e => hv4.up (g5.trans e)) hnone (by omega) (fun v H1 h => by rw [h]; rfl) (fun v H1 H2 e h => h) (fun v k0 G7 ep7 g7 hvv hx0 S7 => ?_)
          subst hvv
          have g47 := g5.trans g7
          have x8 : ExT G7 (upd G7 d (NDict P w d ep7 (kvs3 ++ [(t, k0, .bl true)]))) := ExT.ext (S4.upX g47).at_
          have hdf : d ≠ pf := ne_of S4.at_ hli4 (fun z => nomatch z)
          have e8 : Ex H1 (upd G7 d (NDict P w d ep7 (kvs3 ++ [(t, k0, .bl true)]))) := Ex.mut (xE4.trans g47) hd1
          have hli8 : (upd G7 d (NDict P w d ep7 (kvs3 ++ [(t, k0, .bl true)]))) pf = some (.lst fv3) := by rw [upd_ne hdf.symm]; exact g47 _ _ hli4
          have x48 : ExT G4 (upd G7 d (NDict P w d ep7 (kvs3 ++ [(t, k0, .bl true)]))) := (ExT.of g47).trans x8
          generalize upd G7 d (NDict P w d ep7 (kvs3 ++ [(t, k0, .bl true)])) = G8 at *
          have hf3 := J.st.len
          rw [List.length_append] at hf3
          refine s_app (l := pf) (xs := fv3) (v := .ref py) hli8 (ev_var rfl) (ev_var rfl) (by omega) (fun G9 g9 => ?_)
          have x10 : ExT G9 (upd G9 pf (.lst (fv3 ++ [.ref py]))) := ExT.lst (g9 _ _ hli8)
          have x410 : ExT G4 (upd G9 pf (.lst (fv3 ++ [.ref py]))) := x48.trans ((ExT.of g9).trans x10)
          have x310 : ExT G3 (upd G9 pf (.lst (fv3 ++ [.ref py]))) := (ExT.of g4).trans x410
          refine ⟨ep7, kvs3 ++ [(t, k0, .bl true)], kx ++ [t], fv3 ++ [.ref py], some (.int (k : Int)), some (.ref py), ?_, by rw [List.length_append]; show kx.length + 1 ≤ k + 1; omega, hX3.upT x310, ?_, rfl⟩
          · have hks : ks ++ (kx ++ [t]) = (ks ++ kx) ++ [t] := (List.append_assoc _ _ _).symm
            rw [hks]
            have hreach : Reach rs t := by
              have hr1 := I.re st (List.mem_of_getElem? hst)
              have he : st = ((i : Int), st.2) := by rw [← hi]
              rw [he] at hr1
              exact .step hr1 (List.mem_of_getElem? hat) hb1
            refine ⟨Ex.mut (e8.trans g9) hpf1, upd_same, (S7.upX g9).upT x10 (by rw [upd_ne hdf]; exact (S7.upX g9).at_), stdsI_app (J.st.upT x310) (.cons (hv4.upT x410) .nil), List.nodup_append.mpr ⟨J.nd, by simp, fun p hp q hq => ?_⟩, fun z hz => ?_, fun h => List.mem_append_left _ (J.s0 h), fun z hz => ?_, fun h z hz => ?_, by rw [List.length_append, List.length_append]; have := J.kl; show kvs3.length + 1 ≤ _ + 1 + 1; omega, fun n z hn hz => ?_⟩
            · rcases List.mem_singleton.mp hq with rfl
              exact fun e => hnk (by rw [← e]; exact hp)
            · rcases List.mem_append.mp hz with h | h
              · exact J.re z h
              · rcases List.mem_singleton.mp h with rfl
                exact hreach
            · rw [List.map_append]
              rcases List.mem_append.mp hz with h | h
              · exact List.mem_append_left _ (J.k1 z h)
              · exact List.mem_append_right _ h
            · rw [List.map_append] at hz
              rcases List.mem_append.mp hz with h' | h'
              · exact List.mem_append_left _ (J.k2 h z h')
              · exact List.mem_append_right _ h'
            · have hnl : n < (ks ++ kx).length := by rw [List.length_append]; omega
              rw [List.getElem?_append_left hnl] at hz
              exact (J.cl n z hn hz).more
          · have hks : ks ++ (kx ++ [t]) = (ks ++ kx) ++ [t] := (List.append_assoc _ _ _).symm
            rw [hks]
            exact keep _ (fun _ => List.mem_append_right _ (List.mem_singleton.mpr rfl)) (fun z hz => List.mem_append_left _ hz)
        · refine ⟨ep3, kvs3, kx, fv3, some (.int (k : Int)), some (.ref py), ⟨xE4.trans g5, g5 _ _ hli4, S4.upX g5, J.st.up (g4.trans g5), J.nd, J.re, J.s0, J.k1, J.k2, J.kl, J.cl⟩, by omega, hX3.up (g4.trans g5), ?_, rfl⟩
          refine keep _ (fun hlt => ?_) (fun z hz => hz)
          rw [hlr, decide_eq_true hlt] at hb
          have hsome : (lkS kvs3 t).isSome = true := by
            cases h : (lkS kvs3 t).isSome with
            | true => rfl
            | false => rw [h] at hb; cases hb
          exact J.k2 hpos t ((lkS_has J.sd.nd).mp hsome)
      · rintro σ3 G3 ⟨ep3, kvs3, kx, fv3, y6, y7, J, hkx, hX3, hdone, rfl⟩
        rw [Int.toNat_natCast] at hkx hdone
        refine s_asg (v := .int ((f + 1 : Nat) : Int)) (ev_is (ev_I0 (ev_var rfl) ev_c) rfl) (fun G4 g4 => ?_)
        refine ⟨ep3, kvs3, ks ++ kx, fv3, some (.ref px), y6, y7, by omega, by rw [List.length_append]; omega, by rw [List.length_append]; omega, ⟨J.ex.trans g4, g4 _ _ J.li, J.sd.upX g4, J.st.up g4, J.nd, J.re, J.s0, J.k1, J.k2, J.kl, fun n z hn hz => ?_⟩, rfl⟩
        by_cases h : n < f
        · exact J.cl n z h hz
        · have hn2 : n = f := by omega
          rw [hn2, List.getElem?_append_left (List.getElem?_eq_some_iff.mp hst).1, hst] at hz
          cases hz
          intro t ht hl'
          rw [hi, Int.toNat_natCast] at ht
          obtain ⟨k', hk', he⟩ := List.mem_iff_getElem.mp ht
          exact hdone k' t hk' (by rw [List.getElem?_eq_getElem hk', he]) hl'
    · refine s_ret (v := .bl true) ev_c (fun G2 g2 => ?_)
      have g02 := g1.trans g2
      refine q true G2 ((e1.trans I.ex).trans g02) (fun _ => ?_)
      have hff : f = ks.length := by
        rw [hfl, hlr] at hb
        by_cases h : f < ks.length
        · rw [decide_eq_true (show (f : Int) < (ks.length : Int) by omega), decide_eq_true (show (rs.length : Int) > 0 by omega)] at hb
          cases hb
        · omega
      exact ⟨ks, by omega, closed_reach I.s0 fun st hst => by
        obtain ⟨n, hn, e⟩ := List.mem_iff_getElem.mp hst
        exact I.cl n st (by omega) (by rw [List.getElem?_eq_getElem hn, e])⟩
end
end BD
/-! ### the end where defs hold generator expressions: their tables are told as TabX -/
namespace GX
open PySem PySem.Spec PyProof.Rows L2 Evl
open GxR (TabB)
abbrev tab0 : Obj := { cls := .none, data := .fields #[] }
/-- the heap at the law's entry: the tables ts, the script's list at a unless it is the program's own -/
def HX (ts : List Addr) (a : Addr) (own : Bool) (o : Obj) (xs : List V) : Hp := fun b => if b ∈ ts then some (TabX b) else if b = a ∧ own = false then some (.frz o (.lst xs)) else none
theorem hx_tab {ts : List Addr} {a b : Addr} {own : Bool} {o : Obj} {xs : List V} (h : b ∈ ts) : HX ts a own o xs b = some (TabX b) := if_pos h
theorem hx_cases {ts : List Addr} {a : Addr} {own : Bool} {o : Obj} {xs : List V} (b : Addr) : (b ∈ ts ∧ HX ts a own o xs b = some (TabX b)) ∨ (b ∉ ts ∧ b = a ∧ own = false ∧ HX ts a own o xs b = some (.frz o (.lst xs))) ∨ (b ∉ ts ∧ ¬ (b = a ∧ own = false) ∧ HX ts a own o xs b = none) := by
  by_cases h : b ∈ ts
  · exact .inl ⟨h, if_pos h⟩
  · by_cases h2 : b = a ∧ own = false
    · exact .inr (.inl ⟨h, h2.1, h2.2, (if_neg h).trans (if_pos h2)⟩)
    · exact .inr (.inr ⟨h, h2, (if_neg h).trans (if_neg h2)⟩)
theorem law_tabs {P : Program} {w : World} {K : PySem.W.Frag} {mg mb : Str → Option Value} {k : Nat} {fa a : Addr} {cs : List (Addr × Addr)} {fd : FuncData} {x : Str} {sp : Sp} {s : Shared} {vs : List Value} {ns : List Int}
    (KX : K.In s.heap) (hns : s.heap.Ns mainGlobals mg) (hb : s.heap.Ns builtinsNs mb) (hbb : ∀ x : Str, x ≠ "__name__" → mb x = bootBuiltins x) (hlim : s.heap.NoLimit) (hg : s.gens = #[])
    (hT : ∀ p ∈ cs, s.heap.get? p.2 = some tab0) (nT : ∀ p ∈ cs, K.lookup p.2 = none) (C : ∀ p ∈ cs, PySem.W.CodeHd s.heap p.1 p.2)
    (hbm : ∃ (bm : Addr) (ob : Obj), mg "__builtins__" = some (.ref bm) ∧ bm ≠ builtinsNs ∧ s.heap.get? bm = some ob ∧ ob.cls = .type "module" ∧ ob.dict = some builtinsNs ∧ ob.data = .plain)
    (ha : s.heap.get? a = some { cls := .type "list", data := .seq vs.toArray }) (hi : IntsAre vs ns) (hl : ns.length ≤ sizeLine) (hr : Room k callerA)
    (F : ∀ base : Heap, K.In base → base.Ns mainGlobals mg → (∀ p ∈ cs, TabB base mg p.1 p.2) → FnOk P w K mg base CX0 k fa fd [x] sp) (hbind : ∀ (s : Shared) (u : Value), BindsTo s fd ⟨[u], []⟩ [(x, u)])
    (hsp : ∀ H : Hp, (∀ p ∈ cs, H p.2 = some (TabX p.2)) → SqL K H a (ns.map V.int) → sp [.ref a] H (fun v H' => v = .bl true ∧ Ex H H') fun _ _ _ => False) :
    codeAny (model P w) callerA (.call (.ref fa) ⟨[.ref a], []⟩) (fun r s' => r = .ok (.ret (.bool true)) ∧ OldK s.heap s'.heap ∧ s'.os = s.os ∧ AllBare s'.gens) s := by
  let lo : Obj := { cls := .type "list", data := .seq vs.toArray }
  let H : Hp := HX (cs.map (·.2)) a (K.lookup a).isSome lo (ns.map V.int)
  have isT : ∀ b ∈ cs.map (·.2), s.heap.get? b = some tab0 := fun b hb => by
    obtain ⟨p, hp, rfl⟩ := List.mem_map.mp hb
    exact hT p hp
  have mT : ∀ p ∈ cs, p.2 ∈ cs.map (·.2) := fun p hp => List.mem_map.mpr ⟨p, hp, rfl⟩
  -- what is neither a table nor the script is not told
  have quiet : ∀ {b : Addr} {o : Obj}, s.heap.get? b = some o → (∀ vs n, o.data ≠ .seq vs n) → o.data ≠ .fields #[] → H b = none := fun {b o} e h1 h2 => by
    rcases hx_cases (ts := cs.map (·.2)) (a := a) (own := (K.lookup a).isSome) (o := lo) (xs := ns.map V.int) b with ⟨h, _⟩ | ⟨_, h, _, _⟩ | ⟨_, _, h⟩
    · rw [isT b h] at e
      cases e
      exact (h2 rfl).elim
    · rw [h, ha] at e
      cases e
      exact (h1 _ _ rfl).elim
    · exact h
  have quietK : ∀ b o, K.lookup b = some o → H b = none := fun b o e => by
    rcases hx_cases (ts := cs.map (·.2)) (a := a) (own := (K.lookup a).isSome) (o := lo) (xs := ns.map V.int) b with ⟨h, _⟩ | ⟨_, h, h2, _⟩ | ⟨_, _, h⟩
    · obtain ⟨p, hp, rfl⟩ := List.mem_map.mp h
      rw [nT p hp] at e
      cases e
    · rw [← h, e] at h2
      cases h2
    · exact h
  have nsH : ∀ {b : Addr} {m : Str → Option Value}, s.heap.Ns b m → (hidT s.heap H).Ns b m := fun {b m} ⟨o, es, ep, e, d, r⟩ =>
    ⟨o, es, ep, hidT_get e (quiet e (fun v n z => by rw [d] at z; cases z) fun z => by rw [d] at z; cases z), d, r⟩
  have kH : K.In (hidT s.heap H) := fun b o e => hidT_get (KX b o e) (quietK b o e)
  have modH : L2.Mod K mg (hidT s.heap H) := ⟨kH, nsH hns, ⟨mb, nsH hb, hbb⟩, let ⟨mc, h1, h2⟩ := hlim; ⟨mc, nsH h1, h2⟩⟩
  have tbH : ∀ p ∈ cs, TabB (hidT s.heap H) mg p.1 p.2 := fun p hp => by
    obtain ⟨g0, _, _, gE, gD, _⟩ := hns
    refine ⟨?_, ?_, fun z => ?_⟩
    · obtain ⟨o, us, f1, f2, f3, f4, f5, f6, f7, h1, h2, h3, h4, rest⟩ := C p hp
      exact ⟨o, us, f1, f2, f3, f4, f5, f6, f7, hidT_get h1 (quiet h1 (fun v n z => by rw [h3] at z; cases z) fun z => by rw [h3] at z; cases z; cases h4), h2, h3, h4, rest⟩
    · obtain ⟨bm, ob, b1, b2, b3, b4, b5, b6⟩ := hbm
      refine ⟨bm, ob, b1, b2, fun z => ?_, fun z => ?_, hidT_get b3 (quiet b3 (fun v n z => by rw [b6] at z; cases z) fun z => by rw [b6] at z; cases z), b4, b5, b6⟩
      · rw [z, gE] at b3
        cases b3
        rw [gD] at b6
        cases b6
      · rw [z, hT p hp] at b3
        cases b3
        cases b6
    · rw [z, hT p hp] at gE
      cases gE
      cases gD
  have okH : HOk P w H s.heap := fun b u z => by
    rcases hx_cases (ts := cs.map (·.2)) (a := a) (own := (K.lookup a).isSome) (o := lo) (xs := ns.map V.int) b with ⟨h, h2⟩ | ⟨_, h, _, h2⟩ | ⟨_, _, h2⟩
    · cases h2.symm.trans z
      exact tabX_ok ⟨#[], isT b h, trivial⟩
    · cases h2.symm.trans z
      rw [h]
      exact ⟨ha, by rw [List.length_map]; exact hl, vs, _, vals_ints hi, ha⟩
    · cases h2.symm.trans z
  have aT : a ∉ cs.map (·.2) := fun z => by
    have q := isT a z
    rw [ha] at q
    cases congrArg Obj.data (Option.some.inj q)
  have scr : SqL K H a (ns.map V.int) := by
    cases hk : K.lookup a with
    | none =>
      refine .inl (.inr ⟨lo, ?_⟩)
      show HX _ a (K.lookup a).isSome lo _ a = _
      rw [hk]
      exact (if_neg aT).trans (if_pos ⟨rfl, rfl⟩)
    | some o =>
      have e := KX a o hk
      rw [ha] at e
      cases e
      exact .inr ⟨_, vs.toArray, _, hk, rfl, rfl, rfl, by rw [List.size_toArray, hi.length]; exact hl, vals_ints hi⟩
  have env : Env0 P w K mg (hidT s.heap H) callerA [] s H := ⟨rfl, modH, fun b o e => of_hidT e, Nat.le_of_eq (hidT_size _ _), trivial, (fun b hb => by cases hb), okH, .of_eq hg⟩
  refine codeAny_mono ((F _ kH (nsH hns) tbH).run callerA [] s H ⟨[.ref a], []⟩ [.ref a] [.ref a] _ _ hr env (hbind s (.ref a)) (.cons rfl .nil) (hsp H (fun p hp => hx_tab (mT p hp)) scr)) fun r s' h => ?_
  cases r with
  | error e => exact absurd h (by intro z; exact z)
  | ok fl =>
    cases fl with
    | ret u =>
      obtain ⟨v, H', os, bare, un, hok', r', rfl, hx⟩ := h
      obtain rfl : u = Value.bool true := r'
      have grown : ∀ p ∈ cs, ∃ more : Array Value, s'.heap.get? p.2 = some { cls := .none, data := .fields more } := fun p hp =>
        let ⟨⟨ps, e, _⟩, _⟩ := hok' p.2 _ (hx _ _ (hx_tab (mT p hp)))
        ⟨ps, e⟩
      have same : ∀ b o, b ∉ cs.map (·.2) → s.heap.get? b = some o → s'.heap.get? b = some o := fun b o nb e => by
        rcases hx_cases (ts := cs.map (·.2)) (a := a) (own := (K.lookup a).isSome) (o := lo) (xs := ns.map V.int) b with ⟨h, _⟩ | ⟨_, h, _, h2⟩ | ⟨_, _, h2⟩
        · exact (nb h).elim
        · obtain ⟨e2, _⟩ := hok' b _ (un.frzs b _ _ h2)
          rw [h, ha] at e
          cases e
          exact e2
        · exact un.keep b o e h2 (fun z => by cases z) (fun z => by cases z)
      refine ⟨rfl, ⟨fun b o e => ?_, fun b o e => ?_⟩, os, bare⟩
      · by_cases hb2 : b ∈ cs.map (·.2)
        · obtain ⟨p, hp, rfl⟩ := List.mem_map.mp hb2
          obtain ⟨more, hm⟩ := grown p hp
          rw [hT p hp] at e
          cases e
          exact .inr (.inl ⟨((C p hp).tab (hT p hp)).isCodeTable, rfl, #[], more, rfl, by rw [Array.empty_append]; exact hm⟩)
        · exact .inl (same b o hb2 e)
      · by_cases hb2 : b ∈ cs.map (·.2)
        · obtain ⟨p, hp, rfl⟩ := List.mem_map.mp hb2
          obtain ⟨more, hm⟩ := grown p hp
          exact ⟨_, hm⟩
        · exact ⟨o, same b o hb2 e⟩
    | _ => exact absurd h (by intro z; exact z)
/-- the code object c and its table P of the def n -/
structure TabOf (K : PySem.W.Frag) (mg : Str → Option Value) (n : Str) (p : Addr × Addr) : Prop where
  fn : ∃ (f : Addr) (o : Obj) (fd : FuncData), mg n = some (.ref f) ∧ K.lookup f = some o ∧ o.data = .func fd ∧ fd.code = .ref p.1
  hd : PySem.W.codeHdIn K p.1 p.2 = true
  no : K.lookup p.2 = none
theorem codeHd_lk {K : PySem.W.Frag} {c P : Addr} {o : Obj} (v : K.lookup c = some o) (h : PySem.W.codeHdIn [(c, o)] c P = true) : PySem.W.codeHdIn K c P = true := by
  unfold PySem.W.codeHdIn at h ⊢
  rw [v]
  have e : ([(c, o)] : PySem.W.Frag).lookup c = some o := by simp [List.lookup]
  rw [e] at h
  exact h
/-- the law's promise over its tables -/
def LawX (l : PySem.W.OpenLaw) (w : World) (K : PySem.W.Frag) (k n : Nat) (x : Str) (names : List Str) (mg : Str → Option Value) (fa : Addr) : Prop :=
  ∃ (fd : FuncData) (cs : List (Addr × Addr)) (sp : Sp), (∀ p ∈ cs, ∃ d ∈ names, TabOf K mg d p) ∧ (∀ (s : Shared) (u : Value), BindsTo s fd ⟨[u], []⟩ [(x, u)]) ∧
    (∀ (H : Hp) (a : Addr) (ns : List Int), ns.length ≤ n → (∀ z ∈ ns, Builtin.Int.intBits z ≤ 1048576) → (∀ p ∈ cs, H p.2 = some (TabX p.2)) → SqL K H a (ns.map V.int) → sp [.ref a] H (fun v H' => v = .bl true ∧ Ex H H') fun _ _ _ => False) ∧
    ∀ base : Heap, K.In base → base.Ns mainGlobals mg → (∀ p ∈ cs, TabB base mg p.1 p.2) → FnOk l.prog w K mg base CX0 k fa fd [x] sp
theorem walk_ofX {l : PySem.W.OpenLaw} {n k : Nat} {q : Program} {loose : List Str} {XP : (Str → Option Value) → Heap → Prop} {YP : World → Heap → Prop} {d : DefRec} {K : Params → PySem.W.Frag} {x : Str} {names : List Str}
    (hn : l.most = some n) (hn2 : n ≤ sizeLine) (hdf : d.params.defaults = []) (hr : Room k callerA) (hrec : (names.all fun z => (recsOf q).any fun e => e.name == z) = true) (hY : ∀ (w : World) (h : Heap), YP w h → (K w.params).In h)
    (F : ∀ (w : World) (mg : Str → Option Value) (fa : Addr) (h : Heap), (K w.params).In h → h.Ns mainGlobals mg → mg d.name = some (.ref fa) → LawX l w (K w.params) k n x names mg fa) :
    PySem.W.WalkO q loose XP YP l.row.toRowW d [] (fun f vs => PySem.call f vs) := by
  refine Att.attach_callB hn hdf fun w s₀ s₁ mg mb fa o pm cd doc a vs ns G Y ho hd hcd hmg hobj hints hlen hbits hg => ?_
  have KX := hY w _ Y
  obtain ⟨fd, cs, sp, hT, hb, hsp, hF⟩ := F w mg fa _ KX G.T.g hmg
  refine law_tabs KX G.T.g G.T.b G.T.builtins G.T.nolimit hg (fun p hp => ?_) (fun p hp => ?_) (fun p hp => ?_) G.T.bmain hobj hints (Nat.le_trans hlen hn2) hr hF hb (fun H hH hS => hsp H a ns hlen hbits hH hS)
  · obtain ⟨z, hz, t⟩ := hT p hp
    obtain ⟨f1, o1, fd1, h1, h2, h3, h4⟩ := t.fn
    obtain ⟨e, he, hne⟩ := List.any_eq_true.mp (List.all_eq_true.mp hrec z hz)
    obtain ⟨f2, o2, fd2, c2, P2, g1, g2, g3, g4, g5, ⟨⟨oc, vc, i1, _, i3, i4⟩, hP⟩⟩ := G.T.tab e he
    rw [beq_iff_eq.mp hne, h1] at g1
    cases g1
    rw [KX _ _ h2] at g2
    cases g2
    rw [h3] at g3
    cases g3
    rw [h4] at g4
    cases g4
    obtain ⟨o3, us, _, _, _, _, _, _, _, j1, _, j3, j4, _⟩ := PySem.W.codeHd_of_K KX t.hd
    rw [i1] at j1
    cases j1
    rw [i3] at j3
    cases j3
    rw [i4] at j4
    cases j4
    exact hP
  · obtain ⟨z, hz, t⟩ := hT p hp
    exact t.no
  · obtain ⟨z, hz, t⟩ := hT p hp
    exact PySem.W.codeHd_of_K KX t.hd
end GX
/-! ### the end where defs hold generator expressions: their tables are told as TabX -/
namespace GXL
open PySem PySem.Spec PyProof.Rows L2 Evl
open GxR (TabB)
open GX
open LamX (ExtN)
/-- the heap at the law's entry: the tables ts, the script's list at a unless it is the program's own -/
def HX (ts us : List Addr) (a : Addr) (own : Bool) (o : Obj) (xs : List V) : Hp := fun b => if b ∈ us then some (.tbl #[]) else if b ∈ ts then some (TabX b) else if b = a ∧ own = false then some (.frz o (.lst xs)) else none
theorem hx_cases {ts us : List Addr} {a : Addr} {own : Bool} {o : Obj} {xs : List V} (b : Addr) : (b ∈ us ∧ HX ts us a own o xs b = some (.tbl #[])) ∨ (b ∉ us ∧ b ∈ ts ∧ HX ts us a own o xs b = some (TabX b)) ∨ (b ∉ us ∧ b ∉ ts ∧ b = a ∧ own = false ∧ HX ts us a own o xs b = some (.frz o (.lst xs))) ∨ (b ∉ us ∧ b ∉ ts ∧ ¬ (b = a ∧ own = false) ∧ HX ts us a own o xs b = none) := by
  by_cases h0 : b ∈ us
  · exact .inl ⟨h0, if_pos h0⟩
  · by_cases h : b ∈ ts
    · exact .inr (.inl ⟨h0, h, (if_neg h0).trans (if_pos h)⟩)
    · by_cases h2 : b = a ∧ own = false
      · exact .inr (.inr (.inl ⟨h0, h, h2.1, h2.2, (if_neg h0).trans ((if_neg h).trans (if_pos h2))⟩))
      · exact .inr (.inr (.inr ⟨h0, h, h2, (if_neg h0).trans ((if_neg h).trans (if_neg h2))⟩))
theorem law_tabs {P : Program} {w : World} {K : PySem.W.Frag} {mg mb : Str → Option Value} {k : Nat} {fa a : Addr} {cs ds : List (Addr × Addr)} {fd : FuncData} {x : Str} {sp : Sp} {s : Shared} {vs : List Value} {ns : List Int}
    (KX : K.In s.heap) (hns : s.heap.Ns mainGlobals mg) (hb : s.heap.Ns builtinsNs mb) (hbb : ∀ x : Str, x ≠ "__name__" → mb x = bootBuiltins x) (hlim : s.heap.NoLimit) (hg : s.gens = #[])
    (hT : ∀ p ∈ cs ++ ds, s.heap.get? p.2 = some tab0) (nT : ∀ p ∈ cs ++ ds, K.lookup p.2 = none) (C : ∀ p ∈ cs ++ ds, PySem.W.CodeHd s.heap p.1 p.2) (dj : ∀ p ∈ cs, p.2 ∉ ds.map (·.2))
    (hbm : ∃ (bm : Addr) (ob : Obj), mg "__builtins__" = some (.ref bm) ∧ bm ≠ builtinsNs ∧ s.heap.get? bm = some ob ∧ ob.cls = .type "module" ∧ ob.dict = some builtinsNs ∧ ob.data = .plain)
    (ha : s.heap.get? a = some { cls := .type "list", data := .seq vs.toArray }) (hi : IntsAre vs ns) (hl : ns.length ≤ sizeLine) (hr : Room k callerA)
    (F : ∀ base : Heap, K.In base → base.Ns mainGlobals mg → (∀ p ∈ cs ++ ds, TabB base mg p.1 p.2) → FnOk P w K mg base CX0 k fa fd [x] sp) (hbind : ∀ (s : Shared) (u : Value), BindsTo s fd ⟨[u], []⟩ [(x, u)])
    (hsp : ∀ H : Hp, (∀ p ∈ cs, H p.2 = some (TabX p.2)) → (∀ p ∈ ds, H p.2 = some (.tbl #[])) → SqL K H a (ns.map V.int) → sp [.ref a] H (fun v H' => v = .bl true ∧ ExtN H H') fun _ _ _ => False) :
    codeAny (model P w) callerA (.call (.ref fa) ⟨[.ref a], []⟩) (fun r s' => r = .ok (.ret (.bool true)) ∧ OldK s.heap s'.heap ∧ s'.os = s.os ∧ AllBare s'.gens) s := by
  let lo : Obj := { cls := .type "list", data := .seq vs.toArray }
  let H : Hp := HX (cs.map (·.2)) (ds.map (·.2)) a (K.lookup a).isSome lo (ns.map V.int)
  have cases4 := fun b => hx_cases (ts := cs.map (·.2)) (us := ds.map (·.2)) (a := a) (own := (K.lookup a).isSome) (o := lo) (xs := ns.map V.int) b
  have mT : ∀ p ∈ cs, p.2 ∈ cs.map (·.2) := fun p hp => List.mem_map.mpr ⟨p, hp, rfl⟩
  have mU : ∀ p ∈ ds, p.2 ∈ ds.map (·.2) := fun p hp => List.mem_map.mpr ⟨p, hp, rfl⟩
  have any : ∀ b, b ∈ cs.map (·.2) ∨ b ∈ ds.map (·.2) → ∃ p ∈ cs ++ ds, p.2 = b := fun b hb => by
    rcases hb with h | h
    · obtain ⟨p, hp, rfl⟩ := List.mem_map.mp h
      exact ⟨p, List.mem_append_left _ hp, rfl⟩
    · obtain ⟨p, hp, rfl⟩ := List.mem_map.mp h
      exact ⟨p, List.mem_append_right _ hp, rfl⟩
  have isT : ∀ b, b ∈ cs.map (·.2) ∨ b ∈ ds.map (·.2) → s.heap.get? b = some tab0 := fun b hb => by
    obtain ⟨p, hp, rfl⟩ := any b hb
    exact hT p hp
  have atT : ∀ p ∈ cs, H p.2 = some (TabX p.2) := fun p hp => by
    rcases cases4 p.2 with ⟨h, _⟩ | ⟨_, _, h⟩ | ⟨_, h, _⟩ | ⟨_, h, _⟩
    · exact (dj p hp h).elim
    · exact h
    · exact (h (mT p hp)).elim
    · exact (h (mT p hp)).elim
  have atU : ∀ p ∈ ds, H p.2 = some (.tbl #[]) := fun p hp => by
    rcases cases4 p.2 with ⟨_, h⟩ | ⟨h, _⟩ | ⟨h, _⟩ | ⟨h, _⟩
    · exact h
    · exact (h (mU p hp)).elim
    · exact (h (mU p hp)).elim
    · exact (h (mU p hp)).elim
  -- what is neither a table nor the script is not told
  have quiet : ∀ {b : Addr} {o : Obj}, s.heap.get? b = some o → (∀ vs n, o.data ≠ .seq vs n) → o.data ≠ .fields #[] → H b = none := fun {b o} e h1 h2 => by
    rcases cases4 b with ⟨h, _⟩ | ⟨_, h, _⟩ | ⟨_, _, h, _, _⟩ | ⟨_, _, _, h⟩
    · rw [isT b (.inr h)] at e
      cases e
      exact (h2 rfl).elim
    · rw [isT b (.inl h)] at e
      cases e
      exact (h2 rfl).elim
    · rw [h, ha] at e
      cases e
      exact (h1 _ _ rfl).elim
    · exact h
  have quietK : ∀ b o, K.lookup b = some o → H b = none := fun b o e => by
    rcases cases4 b with ⟨h, _⟩ | ⟨_, h, _⟩ | ⟨_, _, h, h2, _⟩ | ⟨_, _, _, h⟩
    · obtain ⟨p, hp, rfl⟩ := any b (.inr h)
      rw [nT p hp] at e
      cases e
    · obtain ⟨p, hp, rfl⟩ := any b (.inl h)
      rw [nT p hp] at e
      cases e
    · rw [← h, e] at h2
      cases h2
    · exact h
  have nsH : ∀ {b : Addr} {m : Str → Option Value}, s.heap.Ns b m → (hidT s.heap H).Ns b m := fun {b m} ⟨o, es, ep, e, d, r⟩ =>
    ⟨o, es, ep, hidT_get e (quiet e (fun v n z => by rw [d] at z; cases z) fun z => by rw [d] at z; cases z), d, r⟩
  have kH : K.In (hidT s.heap H) := fun b o e => hidT_get (KX b o e) (quietK b o e)
  have modH : L2.Mod K mg (hidT s.heap H) := ⟨kH, nsH hns, ⟨mb, nsH hb, hbb⟩, let ⟨mc, h1, h2⟩ := hlim; ⟨mc, nsH h1, h2⟩⟩
  have tbH : ∀ p ∈ cs ++ ds, TabB (hidT s.heap H) mg p.1 p.2 := fun p hp => by
    obtain ⟨g0, _, _, gE, gD, _⟩ := hns
    refine ⟨?_, ?_, fun z => ?_⟩
    · obtain ⟨o, us, f1, f2, f3, f4, f5, f6, f7, h1, h2, h3, h4, rest⟩ := C p hp
      exact ⟨o, us, f1, f2, f3, f4, f5, f6, f7, hidT_get h1 (quiet h1 (fun v n z => by rw [h3] at z; cases z) fun z => by rw [h3] at z; cases z; cases h4), h2, h3, h4, rest⟩
    · obtain ⟨bm, ob, b1, b2, b3, b4, b5, b6⟩ := hbm
      refine ⟨bm, ob, b1, b2, fun z => ?_, fun z => ?_, hidT_get b3 (quiet b3 (fun v n z => by rw [b6] at z; cases z) fun z => by rw [b6] at z; cases z), b4, b5, b6⟩
      · rw [z, gE] at b3
        cases b3
        rw [gD] at b6
        cases b6
      · rw [z, hT p hp] at b3
        cases b3
        cases b6
    · rw [z, hT p hp] at gE
      cases gE
      cases gD
  have okH : HOk P w H s.heap := fun b u z => by
    rcases cases4 b with ⟨h, h2⟩ | ⟨_, h, h2⟩ | ⟨_, _, h, _, h2⟩ | ⟨_, _, _, h2⟩
    · cases h2.symm.trans z
      exact isT b (.inr h)
    · cases h2.symm.trans z
      exact tabX_ok ⟨#[], isT b (.inl h), trivial⟩
    · cases h2.symm.trans z
      rw [h]
      exact ⟨ha, by rw [List.length_map]; exact hl, vs, _, vals_ints hi, ha⟩
    · cases h2.symm.trans z
  have notT : ∀ b, b ∈ cs.map (·.2) ∨ b ∈ ds.map (·.2) → b ≠ a := fun b h z => by
    have q := isT b h
    rw [z, ha] at q
    cases congrArg Obj.data (Option.some.inj q)
  have scr : SqL K H a (ns.map V.int) := by
    cases hk : K.lookup a with
    | none =>
      refine .inl (.inr ⟨lo, ?_⟩)
      show HX _ _ a (K.lookup a).isSome lo _ a = _
      rw [hk]
      exact (if_neg fun z => notT a (.inr z) rfl).trans ((if_neg fun z => notT a (.inl z) rfl).trans (if_pos ⟨rfl, rfl⟩))
    | some o =>
      have e := KX a o hk
      rw [ha] at e
      cases e
      exact .inr ⟨_, vs.toArray, _, hk, rfl, rfl, rfl, by rw [List.size_toArray, hi.length]; exact hl, vals_ints hi⟩
  have env : Env0 P w K mg (hidT s.heap H) callerA [] s H := ⟨rfl, modH, fun b o e => of_hidT e, Nat.le_of_eq (hidT_size _ _), trivial, (fun b hb => by cases hb), okH, .of_eq hg⟩
  refine codeAny_mono ((F _ kH (nsH hns) tbH).run callerA [] s H ⟨[.ref a], []⟩ [.ref a] [.ref a] _ _ hr env (hbind s (.ref a)) (.cons rfl .nil) (hsp H atT atU scr)) fun r s' h => ?_
  cases r with
  | error e => exact absurd h (by intro z; exact z)
  | ok fl =>
    cases fl with
    | ret u =>
      obtain ⟨v, H', os, bare, un, hok', r', rfl, hx⟩ := h
      obtain rfl : u = Value.bool true := r'
      have grown : ∀ p ∈ cs ++ ds, ∃ more : Array Value, s'.heap.get? p.2 = some { cls := .none, data := .fields more } := fun p hp => by
        rcases List.mem_append.mp hp with h | h
        · obtain ⟨⟨ps, e, _⟩, _⟩ := hok' p.2 _ (hx _ _ (atT p h) (fun _ z => nomatch z))
          exact ⟨ps, e⟩
        · obtain ⟨more, hm⟩ := un.tbls _ _ (atU p h)
          exact ⟨_, hok' p.2 _ hm⟩
      have same : ∀ b o, ¬ (b ∈ cs.map (·.2) ∨ b ∈ ds.map (·.2)) → s.heap.get? b = some o → s'.heap.get? b = some o := fun b o nb e => by
        rcases cases4 b with ⟨h, _⟩ | ⟨_, h, _⟩ | ⟨_, _, h, _, h2⟩ | ⟨_, _, _, h2⟩
        · exact (nb (.inr h)).elim
        · exact (nb (.inl h)).elim
        · obtain ⟨e2, _⟩ := hok' b _ (un.frzs b _ _ h2)
          rw [h, ha] at e
          cases e
          exact e2
        · exact un.keep b o e h2 (fun z => by cases z) (fun z => by cases z)
      refine ⟨rfl, ⟨fun b o e => ?_, fun b o e => ?_⟩, os, bare⟩
      · by_cases hb2 : b ∈ cs.map (·.2) ∨ b ∈ ds.map (·.2)
        · obtain ⟨p, hp, rfl⟩ := any b hb2
          obtain ⟨more, hm⟩ := grown p hp
          rw [hT p hp] at e
          cases e
          exact .inr (.inl ⟨((C p hp).tab (hT p hp)).isCodeTable, rfl, #[], more, rfl, by rw [Array.empty_append]; exact hm⟩)
        · exact .inl (same b o hb2 e)
      · by_cases hb2 : b ∈ cs.map (·.2) ∨ b ∈ ds.map (·.2)
        · obtain ⟨p, hp, rfl⟩ := any b hb2
          obtain ⟨more, hm⟩ := grown p hp
          exact ⟨_, hm⟩
        · exact ⟨o, same b o hb2 e⟩
    | _ => exact absurd h (by intro z; exact z)
/-- the law's promise over its tables -/
def LawX (l : PySem.W.OpenLaw) (w : World) (K : PySem.W.Frag) (k n : Nat) (x : Str) (names : List Str) (mg : Str → Option Value) (fa : Addr) : Prop :=
  ∃ (fd : FuncData) (cs ds : List (Addr × Addr)) (sp : Sp), (∀ p ∈ cs, p.2 ∉ ds.map (·.2)) ∧ (∀ p ∈ cs ++ ds, ∃ d ∈ names, TabOf K mg d p) ∧ (∀ (s : Shared) (u : Value), BindsTo s fd ⟨[u], []⟩ [(x, u)]) ∧
    (∀ (H : Hp) (a : Addr) (ns : List Int), ns.length ≤ n → (∀ z ∈ ns, Builtin.Int.intBits z ≤ 1048576) → (∀ p ∈ cs, H p.2 = some (TabX p.2)) → (∀ p ∈ ds, H p.2 = some (.tbl #[])) → SqL K H a (ns.map V.int) → sp [.ref a] H (fun v H' => v = .bl true ∧ ExtN H H') fun _ _ _ => False) ∧
    ∀ base : Heap, K.In base → base.Ns mainGlobals mg → (∀ p ∈ cs ++ ds, TabB base mg p.1 p.2) → FnOk l.prog w K mg base CX0 k fa fd [x] sp
theorem walk_ofX {l : PySem.W.OpenLaw} {n k : Nat} {q : Program} {loose : List Str} {XP : (Str → Option Value) → Heap → Prop} {YP : World → Heap → Prop} {d : DefRec} {K : Params → PySem.W.Frag} {x : Str} {names : List Str}
    (hn : l.most = some n) (hn2 : n ≤ sizeLine) (hdf : d.params.defaults = []) (hr : Room k callerA) (hrec : (names.all fun z => (recsOf q).any fun e => e.name == z) = true) (hY : ∀ (w : World) (h : Heap), YP w h → (K w.params).In h)
    (F : ∀ (w : World) (mg : Str → Option Value) (fa : Addr) (h : Heap), (K w.params).In h → h.Ns mainGlobals mg → mg d.name = some (.ref fa) → LawX l w (K w.params) k n x names mg fa) :
    PySem.W.WalkO q loose XP YP l.row.toRowW d [] (fun f vs => PySem.call f vs) := by
  refine Att.attach_callB hn hdf fun w s₀ s₁ mg mb fa o pm cd doc a vs ns G Y ho hd hcd hmg hobj hints hlen hbits hg => ?_
  have KX := hY w _ Y
  obtain ⟨fd, cs, ds, sp, dj, hT, hb, hsp, hF⟩ := F w mg fa _ KX G.T.g hmg
  refine law_tabs KX G.T.g G.T.b G.T.builtins G.T.nolimit hg (fun p hp => ?_) (fun p hp => ?_) (fun p hp => ?_) dj G.T.bmain hobj hints (Nat.le_trans hlen hn2) hr hF hb (fun H hH hU hS => hsp H a ns hlen hbits hH hU hS)
  · obtain ⟨z, hz, t⟩ := hT p hp
    obtain ⟨f1, o1, fd1, h1, h2, h3, h4⟩ := t.fn
    obtain ⟨e, he, hne⟩ := List.any_eq_true.mp (List.all_eq_true.mp hrec z hz)
    obtain ⟨f2, o2, fd2, c2, P2, g1, g2, g3, g4, g5, ⟨⟨oc, vc, i1, _, i3, i4⟩, hP⟩⟩ := G.T.tab e he
    rw [beq_iff_eq.mp hne, h1] at g1
    cases g1
    rw [KX _ _ h2] at g2
    cases g2
    rw [h3] at g3
    cases g3
    rw [h4] at g4
    cases g4
    obtain ⟨o3, us, _, _, _, _, _, _, _, j1, _, j3, j4, _⟩ := PySem.W.codeHd_of_K KX t.hd
    rw [i1] at j1
    cases j1
    rw [i3] at j3
    cases j3
    rw [i4] at j4
    cases j4
    exact hP
  · obtain ⟨z, hz, t⟩ := hT p hp
    exact t.no
  · obtain ⟨z, hz, t⟩ := hT p hp
    exact PySem.W.codeHd_of_K KX t.hd
end GXL
namespace BD
open PySem PySem.Spec PyProof.Rows L2 Evl
local macro_rules | `(tactic| walk_at "ev") => `(tactic| first
  | ((with_reducible apply ev_var) ; rfl)
  | with_reducible exact ev_c
  | ((with_reducible apply ev_I0) <;> walk_at "ev")
  | ((with_reducible apply ev_e9) <;> walk_at "ev")
  | ((with_reducible apply ev_I) <;> walk_at "ev")
  | ((with_reducible apply ev_eq) <;> walk_at "ev")
  | ((with_reducible apply ev_ne) <;> walk_at "ev")
  | ((with_reducible apply ev_neg) <;> walk_at "ev")
  | ((with_reducible apply ev_ixN) <;> walk_at "ev")
  | ((with_reducible apply ev_ixL) <;> walk_at "ev")
  | ((with_reducible apply ev_inN) <;> walk_at "ev")
  | ((with_reducible apply ev_inT) <;> walk_at "ev")
  | ((with_reducible apply ev_ixT) <;> walk_at "ev")
  | ((with_reducible apply ev_ixS) <;> walk_at "ev")
  | ((with_reducible apply ev_len') <;> walk_at "ev")
  | ((with_reducible apply et_test) <;> walk_at "ev")
  | ((with_reducible apply et_and) <;> walk_at "ev")
  | ((with_reducible apply et_or) <;> walk_at "ev")
  | ((with_reducible apply et_not) <;> walk_at "ev")
  | ((with_reducible apply et_B) <;> walk_at "ev")
  | ((with_reducible apply el_lst) <;> walk_at "ev")
  | ((with_reducible apply eu_tup) <;> walk_at "ev")
  | ((with_reducible apply ea_cons) <;> walk_at "ev")
  | with_reducible exact ea_nil
  | with_reducible assumption
  | ((with_reducible apply ex_l' ; assumption) ; walk_at "ex")
  | ((with_reducible apply ex_t' ; assumption) ; walk_at "ex")
  | (intro _ ; walk_at "ev")
  | (with_reducible first | exact atI_hd | exact at_kind | exact at2s | exact at3s | exact at3i)
  | (first | exact rfl | exact Nat.le_of_ble_eq_true rfl | exact ⟨by decide, by decide⟩ | decide | exact Or.inl ⟨by omega, by omega⟩ | exact Or.inr ⟨by omega, by omega⟩ | omega)
  | skip)
local macro_rules | `(tactic| walk_at "ex") => `(tactic| first
  | assumption
  | exact Ex.refl _
  | (refine' Ex.trans ?_ (by assumption) ; walk_at "ex"))
local macro_rules | `(tactic| walk_at "row") => `(tactic| first
  | (with_reducible exact er_nil)
  | ((with_reducible apply er_cons) <;> walk_at "row")
  | (((with_reducible apply er_var) ; rfl) ; walk_at "isrow")
  | (((with_reducible apply elr_var) ; rfl) ; walk_at "isrow")
  | ((with_reducible apply elr_cat) <;> walk_at "row")
  | ((with_reducible apply elr_lst) <;> walk_at "row")
  | ((with_reducible apply er_fin) <;> walk_at "ev")
  | ((with_reducible apply er_lendT) <;> walk_at "ev")
  | ((with_reducible apply er_lendW) <;> walk_at "ev")
  | ((with_reducible apply er_pick) <;> walk_at "ev")
  | ((with_reducible apply er_either) <;> walk_at "ev")
  | ((with_reducible apply er_or) <;> walk_at "ev")
  | ((with_reducible apply er_again) <;> walk_at "ev")
  | ((with_reducible apply er_back) <;> walk_at "ev")
  | ((with_reducible apply er_look) <;> walk_at "ev")
  | ((with_reducible apply er_change) <;> walk_at "ev")
  | exact Nat.le_of_ble_eq_true rfl
  | skip)
local macro_rules | `(tactic| walk_at "isrow") => `(tactic| first
  | assumption
  | (refine IsRow.up ?_ (by assumption) ; walk_at "ex")
  | (refine LRows.up ?_ (by assumption) ; walk_at "ex"))

local macro_rules | `(tactic| walk_at "ev") => `(tactic| ((with_reducible apply ev_letter) <;> walk_at "ev"))
local macro_rules | `(tactic| walk_at "ev") => `(tactic| ((with_reducible apply ev_cell) <;> walk_at "ev"))
local macro_rules | `(tactic| walk_at "ev") => `(tactic| ((with_reducible apply ev_word) <;> walk_at "ev"))
local macro_rules | `(tactic| walk_at "ev") => `(tactic| ((with_reducible apply ev_thing) <;> walk_at "ev"))

abbrev s_l_long : Stmt := topS 81
theorem sc_l_long : FnScope ["_law_script", "_law_rows", "_law_some", "_law_k"] ["_law_script", "_law_rows"] (defScope s_l_long) := ⟨rfl, rfl, rfl, by decide +kernel, rfl, by decide +kernel, by decide +kernel⟩
/-! ### rows ahead -/
def aheadM : Nat → List Rw
  | 0 => []
  | k + 1 => aheadM k ++ [.lend "ahead" "read" (.thing (k : Int)), .fin]
theorem ahead_len : ∀ k, (aheadM k).length = 2 * k
  | 0 => rfl
  | k + 1 => by
    show (aheadM k ++ _).length = _
    rw [List.length_append, ahead_len k]
    show 2 * k + 2 = _
    omega
theorem ahead_vr : ∀ k, VR [] (aheadM k) []
  | 0 => rfl
  | k + 1 => VR.app (ahead_vr k) (VR.lendT (fun q hq => (by cases hq)) (by decide) (VR.finR VR.nilR))
theorem ahead_run : ∀ k, run 0 (aheadM k) = some 0
  | 0 => rfl
  | k + 1 => by
    show run 0 (aheadM k ++ _) = _
    rw [run_app, ahead_run k]
    rfl
theorem word_ahead : WordS "ahead" := ⟨[97, 104, 101, 97, 100], by decide +kernel, by decide, by decide, by decide⟩
theorem ahead_s : ∀ k, k ≤ 1000 → ∀ r ∈ aheadM k, RowS r
  | 0, _ => all_nil
  | k + 1, h => all_app (ahead_s k (by omega)) (all_cons ⟨word_ahead, .inl rfl, by omega, by omega⟩ (all_cons trivial all_nil))
def manyA (ns : List Int) : Nat := (45 + cellM ns 2 % 25).toNat
theorem manyA_le (ns : List Int) : manyA ns ≤ 69 := by
  unfold manyA
  omega
def longM (ns : List Int) (rs : List Rw) : List Rw := if ¬ cellM ns 1 % 16 = 5 ∨ (rs.length : Int) > 62 then rs else aheadM (manyA ns) ++ rs
theorem sheet_long (ns ms : List Int) (most : Int) : Sheet (longM ns (drawnM ms most)) := by
  unfold longM
  split
  · exact sheet_drawn ms most
  · refine ⟨VR.app (ahead_vr _) (vr_drawn ms most), good_of ?_, all_app (ahead_s _ (by have := manyA_le ns; omega)) (drawn_s ms most)⟩
    rw [run_app, ahead_run]
    exact run_drawn ms most
theorem long_len (ns : List Int) {rs : List Rw} (h : rs.length ≤ 1500) : (longM ns rs).length ≤ 1700 := by
  unfold longM
  split
  · omega
  · rw [List.length_append, ahead_len]
    have := manyA_le ns
    omega
/-! ### the sheet that is looked at ahead -/
def fixM (u : Str) (n : Int) : List Rw := [.lend u "write" (.thing n), .back u, .look u, .fin]
def fixL (u : Str) (n : Int) : List SE := [(0, []), (1, [⟨u, "write", n, "", true⟩]), (2, [⟨u, "write", n, "", false⟩]), (3, [⟨u, "write", n, "", false⟩])]
theorem sheet_fix {u : Str} {n : Int} (hu : WordS u) (hn : 0 ≤ n ∧ n ≤ 999999999) : Sheet (fixM u n) :=
  ⟨VR.lendT (fun q hq => (by cases hq)) (by decide) (VR.backR (hand_last (op := []) trivial) (VR.lookR (hand_last (op := []) trivial) (VR.finR (op := []) VR.nilR))), good_of rfl,
    all_cons ⟨hu, .inr rfl, hn⟩ (all_cons hu (all_cons hu (all_cons trivial all_nil)))⟩
theorem fix_back (u : Str) (n : Int) : backM u [⟨u, "write", n, "", true⟩] = [⟨u, "write", n, "", false⟩] := by
  have h : bkS u [⟨u, "write", n, "", true⟩] (0 + 1) = _ := bkS_next (e := ⟨u, "write", n, "", true⟩) rfl
  unfold backM
  show (bkS u [⟨u, "write", n, "", true⟩] (0 + 1)).2 = _
  rw [h]
  have hc : u ∈ ([u] : List Str) ∨ ("" : Str) ∈ ([u] : List Str) := Or.inl (List.mem_singleton.mpr rfl)
  show (if u ∈ ([u] : List Str) ∨ ("" : Str) ∈ ([u] : List Str) then _ else _ : List Str × List Ent).2 = _
  rw [if_pos hc]
  rfl
theorem fix_on1 (u : Str) (n : Int) : onM (fixM u n) 1 [⟨u, "write", n, "", true⟩] = [((2 : Int), [⟨u, "write", n, "", false⟩])] := by
  show [(((1 : Nat) : Int) + 1, backM u [⟨u, "write", n, "", true⟩])] = _
  rw [fix_back]
  rfl
theorem fix_closed (u : Str) (n : Int) : ∀ st ∈ fixL u n, Closed (fixM u n) (fixL u n) st := fun st hst t ht hl => by
  unfold fixL at hst
  rcases List.mem_cons.mp hst with rfl | hst
  · have h : t ∈ [((1 : Int), ([⟨u, "write", n, "", true⟩] : List Ent))] := ht
    rw [List.mem_singleton.mp h]
    simp [fixL]
  rcases List.mem_cons.mp hst with rfl | hst
  · have h : t ∈ onM (fixM u n) 1 [⟨u, "write", n, "", true⟩] := ht
    rw [fix_on1] at h
    rw [List.mem_singleton.mp h]
    simp [fixL]
  rcases List.mem_cons.mp hst with rfl | hst
  · have h : t ∈ [((3 : Int), ([⟨u, "write", n, "", false⟩] : List Ent))] := ht
    rw [List.mem_singleton.mp h]
    simp [fixL]
  rcases List.mem_singleton.mp hst with rfl
  have h : t ∈ [((4 : Int), ([] : List Ent))] := ht
  rw [List.mem_singleton.mp h] at hl
  exact absurd (show (4 : Int) < 4 from hl) (by decide)
theorem fix_reach (u : Str) (n : Int) : ∀ st, Reach (fixM u n) st → st ∈ fixL u n := closed_reach (fun _ => by simp [fixL]) (fix_closed u n)
theorem fix_bnd (u : Str) (n : Int) : Bnd (fixM u n) 4 := ⟨fixL u n, Nat.le_of_ble_eq_true rfl, fix_reach u n⟩
theorem fix_two (u : Str) (n : Int) : Reach (fixM u n) (2, [⟨u, "write", n, "", false⟩]) := by
  have h0 : Reach (fixM u n) (((0 : Nat) : Int), []) := .start (Nat.le_of_ble_eq_true rfl)
  have h1 : Reach (fixM u n) (((1 : Nat) : Int), [⟨u, "write", n, "", true⟩]) := .step h0 (List.mem_singleton.mpr rfl) (show (1 : Int) < 4 by decide)
  exact .step h1 (by rw [fix_on1]; exact List.mem_singleton.mpr rfl) (show (2 : Int) < 4 by decide)
theorem fix_empty {u : Str} {n : Int} : faultAt (fixM u n) (2, [⟨u, "write", n, "", false⟩]) = "empty" := by
  show faultM (.look u) [⟨u, "write", n, "", false⟩] = _
  have h : ([⟨u, "write", n, "", false⟩] : List Ent).any (fun e => decide (e.w = handM (.look u)) && !e.o) = true := by
    rw [List.any_cons]
    show (decide (u = u) && !false || _) = true
    rw [decide_eq_true rfl]
    rfl
  unfold faultM
  rw [if_pos h]
  rfl
theorem beside_few : ∀ {ls : List Ent}, ls.length ≤ 1 → besideM ls = false
  | [], _ => rfl
  | [_], _ => rfl
  | _ :: _ :: _, h => absurd h (by simp)
theorem beside_one {e : Ent} : besideM (awakeM [e]) = false := beside_few (by
  have h1 := List.length_filter_le (fun e' : Ent => !decide (e'.w ∈ ([e].filter fun e : Ent => e.o).map fun e : Ent => e.s)) ([e].filter fun e => !decide (e.k = ("pick" : Str)) && e.o)
  have h2 := List.length_filter_le (fun e : Ent => !decide (e.k = ("pick" : Str)) && e.o) [e]
  have h3 : [e].length = 1 := rfl
  unfold awakeM
  omega)
theorem fix_none {u : Str} {n : Int} (hu : u ≠ "") {st : SE} (h : st ∈ fixL u n) (hf : ¬ faultAt (fixM u n) st = "") : st = (2, [⟨u, "write", n, "", false⟩]) := by
  unfold fixL at h
  have he : ∀ o : Bool, ([⟨u, "write", n, "", o⟩] : List Ent).any (fun e => decide (e.w = "") && !e.o) = false := fun o => by
    rw [List.any_cons]
    show (decide (u = "") && !o || false) = false
    rw [decide_eq_false hu]
    rfl
  rcases List.mem_cons.mp h with rfl | h
  · exact absurd rfl hf
  rcases List.mem_cons.mp h with rfl | h
  · refine absurd ?_ hf
    show faultM (.back u) [⟨u, "write", n, "", true⟩] = ""
    unfold faultM
    rw [show handM (.back u) = "" from rfl, he, beside_one]
    rfl
  rcases List.mem_cons.mp h with rfl | h
  · rfl
  rcases List.mem_singleton.mp h with rfl
  refine absurd ?_ hf
  show faultM .fin [⟨u, "write", n, "", false⟩] = ""
  unfold faultM
  rw [show handM .fin = "" from rfl, he]
  rfl
theorem fix_told {u : Str} {n : Int} (hu : u ≠ "") {st : SE} (h : Told (fixM u n) st) : st = (2, [⟨u, "write", n, "", false⟩]) := fix_none hu (fix_reach u n st h.1) h.2.1
section
variable {P : Program} {w : World} {K : PySem.W.Frag} {mg : Str → Option Value} {base : Heap}
def spLong (K : PySem.W.Frag) : Sp := fun vs H Q _ => ∃ (a : Addr) (x : V) (ns : List Int) (rs : List Rw), vs = [.ref a, x] ∧ SqL K H a (ns.map V.int) ∧ LRows rs x H ∧ rs.length ≤ 1500 ∧ Ret (LRows (longM ns rs)) H Q
theorem ok_long (D : Dn K mg "_law_long" s_l_long ["_law_script", "_law_rows"]) (T : Blt mg) (h_l_cell_at : Has P w K mg base "_law_cell_at" 1 ["_law_script", "_law_k"] (spCell K)) : Has P w K mg base "_law_long" 3 ["_law_script", "_law_rows"] (spLong K) := by
  refine D.ok sc_l_long (fun vs H Q E h => ?_) (fun f cdv A outer s H vs Q E hr h => ?_)
  · obtain ⟨a, x, ns, rs, rfl, _⟩ := h
    rfl
  · obtain ⟨a, x, ns, rs, rfl, hS, hx, hl, q⟩ := h
    obtain ⟨p, rv, rfl, hp, hR⟩ := id hx
    have hlr := hR.len
    have hP : SqL K H p rv := sq_of hp
    refine ⟨_, (pss_cons (ps_if (PW.pt (pw_or (pt_cmpR op_ne (pe_op op_mod (pe_own h_l_cell_at (hr.mono (by decide)) (by rfl) (pa_cons (pv 0) (pa_cons pe_int pa_nil))) pe_int) pe_int (nomark _)) (pw_or1 (pt_cmpR op_gt (pe_callB (show CallR _ _ (rLenS K) from call_len_seq) (by rfl) T.len_ (by decide +kernel) (pa_cons (pv 1) pa_nil)) pe_int (nomark _))))) (pss_one (ps_ret (pv 1))) pss_nil) (pss_cons (ps_set (i := 2) sc_l_long.nd rfl (Or.inl rfl) (pe_lst pa_nil)) (pss_cons (ps_for PassesOwn.never rfl (pi_range1 (by rfl) T.range_ (pa_cons (pe_op op_add pe_int (pe_op op_mod (pe_own h_l_cell_at (hr.mono (by decide)) (by rfl) (pa_cons (pv 0) (pa_cons pe_int pa_nil))) pe_int)) pa_nil)) (pg_name (i := 3) sc_l_long.nd rfl (Or.inl rfl)) (pss_one (ps_set (i := 2) sc_l_long.nd rfl (Or.inl rfl) (pe_op op_cat (pv 2) (pe_lst (pa_cons (pe_tup (pa_cons pe_str (pa_cons pe_str (pa_cons pe_str (pa_cons (pv 3) pa_nil))))) (pa_cons (pe_tup (pa_cons pe_str pa_nil)) pa_nil))))))) (pss_one (ps_ret (pe_op op_cat (pv 2) (pv 1))))))), ?_⟩
    show (_ : L2.TS) _ [_, _, _, _] _
    refine q_when (b := (!decide (V.int (cellM ns 1 % 16) = V.int 5)) || decide ((rv.length : Int) > 62)) ?_ (fun hb H1 e1 => ?_) (fun hb H1 e1 => ?_)
    · walk_at "ev"
    · have hc : ¬ cellM ns 1 % 16 = 5 ∨ (rs.length : Int) > 62 := by
        simp only [Bool.or_eq_true, Bool.not_eq_true', decide_eq_false_iff_not, decide_eq_true_eq, V.int.injEq] at hb
        rw [hlr] at hb
        exact hb
      unfold longM at q
      rw [if_pos hc] at q
      exact s_ret (ev_var rfl) (fun H2 e2 => q _ H2 (e1.trans e2) (hx.up (e1.trans e2)))
    · have hc : ¬ (¬ cellM ns 1 % 16 = 5 ∨ (rs.length : Int) > 62) := by
        intro z
        simp only [Bool.or_eq_false_iff, Bool.not_eq_false', decide_eq_true_eq, decide_eq_false_iff_not, V.int.injEq] at hb
        rw [hlr] at hb
        exact z.elim (fun y => y hb.1) (fun y => hb.2 y)
      unfold longM at q
      rw [if_neg hc] at q
      refine q_asgP (R := LRows []) (ep_PL fun G e Q q => (el_lst ea_nil (by decide)) G e Q fun p2 G2 hp2 e2 h2 => q p2 [] G2 hp2 e2 h2 .nil) (fun v H2 e2 hv => ?_)
      show (_ : L2.TS) _ [_, _, _, _] _
      have e02 := e1.trans e2
      refine q_forR1 (n := 45 + cellM ns 2 % 25) ?_ ⟨by omega, by omega⟩ (fun i σ' G => ∃ v x, Ex H G ∧ LRows (aheadM i) v G ∧ σ' = [some (.ref a), some (.ref p), some v, x]) ?_ ?_ ?_
      · walk_at "ev"
      · exact fun G g => ⟨v, none, e02.trans g, hv.up g, rfl⟩
      · rintro i σ' G hi ⟨v, x, eG, hv, rfl⟩
        dsimp only [List.set]
        refine s_asgP (R := LRows (aheadM (i + 1))) (ep_PL (elr_catL (rs := aheadM i) (ss := [.lend "ahead" "read" (.thing (i : Int)), .fin]) ?_ ?_ ?_)) (fun v2 G2 g2 hv2 => ⟨v2, _, eG.trans g2, hv2, rfl⟩)
        · walk_at "row"
        · walk_at "row"
        · rw [ahead_len]
          show 2 * i + 2 ≤ 100000
          omega
      · rintro σ' G ⟨v, x, eG, hv, rfl⟩
        have hx2 := hx.up eG
        have hma : (45 + cellM ns 2 % 25).toNat = manyA ns := rfl
        rw [hma] at hv
        refine s_retP (R := LRows (aheadM (manyA ns) ++ rs)) (ep_PL (elr_catL ?_ ?_ ?_)) (fun v2 G2 g2 hv2 => q v2 G2 (eG.trans g2) hv2)
        · walk_at "row"
        · walk_at "row"
        · rw [ahead_len]
          have := manyA_le ns
          omega
end
end BD
namespace BD
open PySem PySem.Spec PyProof.Rows L2 Evl
open GX LK
open LamX (TabB TabS CodeO ExtN)
local macro_rules | `(tactic| walk_at "ev") => `(tactic| first
  | ((with_reducible apply ev_var) ; rfl)
  | with_reducible exact ev_c
  | ((with_reducible apply ev_I0) <;> walk_at "ev")
  | ((with_reducible apply ev_e9) <;> walk_at "ev")
  | ((with_reducible apply ev_I) <;> walk_at "ev")
  | ((with_reducible apply ev_eq) <;> walk_at "ev")
  | ((with_reducible apply ev_ne) <;> walk_at "ev")
  | ((with_reducible apply ev_neg) <;> walk_at "ev")
  | ((with_reducible apply ev_ixN) <;> walk_at "ev")
  | ((with_reducible apply ev_ixL) <;> walk_at "ev")
  | ((with_reducible apply ev_inN) <;> walk_at "ev")
  | ((with_reducible apply ev_inT) <;> walk_at "ev")
  | ((with_reducible apply ev_ixT) <;> walk_at "ev")
  | ((with_reducible apply ev_ixS) <;> walk_at "ev")
  | ((with_reducible apply ev_len') <;> walk_at "ev")
  | ((with_reducible apply et_test) <;> walk_at "ev")
  | ((with_reducible apply et_and) <;> walk_at "ev")
  | ((with_reducible apply et_or) <;> walk_at "ev")
  | ((with_reducible apply et_not) <;> walk_at "ev")
  | ((with_reducible apply et_B) <;> walk_at "ev")
  | ((with_reducible apply el_lst) <;> walk_at "ev")
  | ((with_reducible apply eu_tup) <;> walk_at "ev")
  | ((with_reducible apply ea_cons) <;> walk_at "ev")
  | with_reducible exact ea_nil
  | with_reducible assumption
  | ((with_reducible apply ex_l' ; assumption) ; walk_at "ex")
  | ((with_reducible apply ex_t' ; assumption) ; walk_at "ex")
  | (intro _ ; walk_at "ev")
  | (with_reducible first | exact atI_hd | exact at_kind | exact at2s | exact at3s | exact at3i)
  | (first | exact rfl | exact Nat.le_of_ble_eq_true rfl | exact ⟨by decide, by decide⟩ | decide | exact Or.inl ⟨by omega, by omega⟩ | exact Or.inr ⟨by omega, by omega⟩ | omega)
  | skip)
local macro_rules | `(tactic| walk_at "ex") => `(tactic| first
  | assumption
  | exact Ex.refl _
  | (refine' Ex.trans ?_ (by assumption) ; walk_at "ex"))
local macro_rules | `(tactic| walk_at "row") => `(tactic| first
  | (with_reducible exact er_nil)
  | ((with_reducible apply er_cons) <;> walk_at "row")
  | (((with_reducible apply er_var) ; rfl) ; walk_at "isrow")
  | (((with_reducible apply elr_var) ; rfl) ; walk_at "isrow")
  | ((with_reducible apply elr_cat) <;> walk_at "row")
  | ((with_reducible apply elr_lst) <;> walk_at "row")
  | ((with_reducible apply er_fin) <;> walk_at "ev")
  | ((with_reducible apply er_lendT) <;> walk_at "ev")
  | ((with_reducible apply er_lendW) <;> walk_at "ev")
  | ((with_reducible apply er_pick) <;> walk_at "ev")
  | ((with_reducible apply er_either) <;> walk_at "ev")
  | ((with_reducible apply er_or) <;> walk_at "ev")
  | ((with_reducible apply er_again) <;> walk_at "ev")
  | ((with_reducible apply er_back) <;> walk_at "ev")
  | ((with_reducible apply er_look) <;> walk_at "ev")
  | ((with_reducible apply er_change) <;> walk_at "ev")
  | exact Nat.le_of_ble_eq_true rfl
  | skip)
local macro_rules | `(tactic| walk_at "isrow") => `(tactic| first
  | assumption
  | (refine IsRow.up ?_ (by assumption) ; walk_at "ex")
  | (refine LRows.up ?_ (by assumption) ; walk_at "ex"))

local macro_rules | `(tactic| walk_at "ev") => `(tactic| ((with_reducible apply ev_letter) <;> walk_at "ev"))
local macro_rules | `(tactic| walk_at "ev") => `(tactic| ((with_reducible apply ev_cell) <;> walk_at "ev"))
local macro_rules | `(tactic| walk_at "ev") => `(tactic| ((with_reducible apply ev_word) <;> walk_at "ev"))
local macro_rules | `(tactic| walk_at "ev") => `(tactic| ((with_reducible apply ev_thing) <;> walk_at "ev"))

abbrev s_law : Stmt := topS 84
theorem sc_law : FnScope ["_law_script", "_law_draw_here", "_law_word_here", "_law_told_here", "_law_rows", "_law_standing"] ["_law_script"] (defScope s_law) := ⟨rfl, rfl, rfl, by decide +kernel, rfl, by decide +kernel, by decide +kernel⟩
theorem runF_std {rs : List Rw} (sh : Sheet rs) : ∀ (f i : Nat) (es : List Ent) (cs : List Int), Std rs i es → ∀ st ∈ runF rs f i es cs, Std rs st.1 st.2 ∧ st.1 < rs.length
  | 0, _, _, _, _, st, h => by cases h
  | f + 1, i, es, cs, hs, st, h => by
    cases hr : rs[i]? with
    | none => rw [runF_stop hr] at h; cases h
    | some r =>
      rw [runF_go hr] at h
      obtain ⟨j, hg⟩ := goes (c := takeC r cs) sh hs hr
      rcases List.mem_cons.mp h with z | z
      · rw [z]
        exact ⟨hs, (List.getElem?_eq_some_iff.mp hr).1⟩
      · rw [hg.at_, Int.toNat_natCast] at z
        exact runF_std sh f j _ _ hg.std st z
theorem runM_std {rs : List Rw} (sh : Sheet rs) (cs : List Int) : ∀ st ∈ runM rs cs, Std rs st.1 st.2 ∧ st.1 < rs.length := runF_std sh _ 0 [] cs (std0 rs)
theorem Stds.at {H : Hp} : ∀ {vs : List V} {sts : List (Nat × List Ent)} {i : Nat} {x : V}, Stds H vs sts → vs[i]? = some x → ∃ st, sts[i]? = some st ∧ AStand (st.1 : Int) st.2 x H
  | _, _, 0, _, .cons r _, e => by cases e; exact ⟨_, rfl, r⟩
  | _, _, i + 1, _, .cons _ t, e => Stds.at (i := i) t e
section
variable {K : PySem.W.Frag} {σ : L2.St} {H : Hp} {ta tb te tl : TE} {D : Ends} {tz tu : TS}
theorem q_asgCallP {sp : Sp} {E : XK} {R : V → Hp → Prop} {i : Nat} (h : EvP te σ H R) (k : ∀ v H1, Ex H H1 → R v H1 → sp [v] H1 (fun v H' => tz D (σ.set i (some v)) H') E) : tSeq (tAsg (tCall sp [] E (tCons te tNil)) (gName i)) tz D σ H :=
  h H (Ex.refl H) _ fun v H1 e hr => k v H1 e hr
theorem q_forPL {R : List V → Hp → Prop} {j : Nat} (h : EvPL tl σ H R) (Pv : Addr → List V → Nat → L2.St → Hp → Prop) (h0 : ∀ p xs H1, H p = none → Ex H H1 → H1 p = some (.lst xs) → R xs H1 → Pv p xs 0 σ H1) (hl : ∀ p xs i σ' H', i ≤ xs.length → Pv p xs i σ' H' → SqL K H' p xs)
    (hs : ∀ p xs (i : Nat) x σ' H', xs[i]? = some x → Pv p xs i σ' H' → tu { D with nx := Pv p xs (i + 1), ct := Pv p xs (i + 1), bk := tz D } (σ'.set j (some x)) H') (hd : ∀ p xs σ' H', Pv p xs xs.length σ' H' → tz D σ' H') : tSeq (tFor (iList K tl) (gName j) tu) tz D σ H :=
  h H (Ex.refl H) _ fun p xs H1 hp e h1 hR => ⟨p, rfl, ⟨xs, sq_of h1⟩, for_list (D := { D with nx := tz D }) (Pv p xs) (h0 p xs H1 hp e h1 hR) (hl p xs) (hs p xs) (hd p xs)⟩
theorem ep_long {a : Addr} {ns : List Int} {rs : List Rw} {E : XK} (h : Ev ta σ H (.ref a)) (hS : SqL K H a (ns.map V.int)) (hb : EvP tb σ H (LRows rs)) (hl : rs.length ≤ 1500) : EvP (tCall (spLong K) [] E (tCons ta (tCons tb tNil))) σ H (LRows (longM ns rs)) := fun H1 e Q q =>
  h H1 e _ fun H2 e2 => hb H2 (e.trans e2) _ fun x H3 e3 hx => ⟨a, x, ns, rs, rfl, ex_l (e.trans (e2.trans e3)) hS, hx, hl, fun v H4 e4 hv => q v H4 (e2.trans (e3.trans e4)) hv⟩
theorem q_whenFew {p : Addr} {rv : List V} {rs : List Rw} {E : XK} (h : Ev ta σ H (.ref p)) (hS : SqL K H p rv) (hR : Rows H rv rs) (sh : Sheet rs) (hl : rs.length ≤ 2000) (h1 : ∀ H1, Ex H H1 → tu { D with nx := tz D } σ H1) (h2 : Bnd rs 400 → ∀ H1, Ex H H1 → tz D σ H1) :
    tSeq (tIfS (tNot (tB (tCall (spFew K) [] E (tCons ta (tCons (tC (.int 400)) tNil))))) tu tNext) tz D σ H :=
  h H (Ex.refl H) _ fun H1 e1 => ⟨p, 400, rv, rs, rfl, ex_l e1 hS, hR.up e1, sh, hl, Nat.le_refl _, fun b H2 e2 hb => ⟨b, rfl, by
    cases b with
    | true => exact h2 (hb rfl) H2 (e1.trans e2)
    | false => exact h1 H2 (e1.trans e2)⟩⟩
def two2 : PyData := .tuple [.int 2, .str "empty"]
theorem two2_shaped : SeqAt.shaped two2 = true := by decide +kernel
theorem ev_neTwo (ha : EvU ta σ H [.int 2, .str "empty"]) (hb : EvU tb σ H [.int 2, .str "empty"]) : Ev (tOp (rNeD K) ta tb) σ H (.bl false) := fun H1 e Q k =>
  ha H1 e _ fun p H2 _ e2 h2 => hb H2 (e.trans e2) _ fun q H3 _ e3 h3 => ⟨two2, two2, .tup (st_of (e3 _ _ h2)) (.cons (.int _) (.cons (.str _) .nil)), .tup (st_of h3) (.cons (.int _) (.cons (.str _) .nil)), two2_shaped, two2_shaped, by
    rw [SeqAt.eqv_refl _ (SeqAt.canLay_of_shaped two2_shaped)]
    exact k H3 (e2.trans e3)⟩
end
section
variable {σ : L2.St} {H : Hp} {ta tb : TE}
theorem er_fixed {u : Str} {n : Int} (ha : Ev ta σ H (.str u)) (hb : Ev tb σ H (.int n)) :
    EvP (tLst (tCons (tTup (tCons (tC (.str "lend")) (tCons ta (tCons (tC (.str "write")) (tCons tb tNil))))) (tCons (tTup (tCons (tC (.str "back")) (tCons ta tNil))) (tCons (tTup (tCons (tC (.str "look")) (tCons ta tNil))) (tCons (tTup (tCons (tC (.str "end")) tNil)) tNil))))) σ H (LRows (fixM u n)) := by
  unfold fixM
  walk_at "row"
end
theorem word_one {c : Nat} (h1 : 97 ≤ c) (h2 : c ≤ 122) : WordS (mkS [c]) ∧ mkS [c] ≠ "" := ⟨⟨[c], rfl, Nat.le_refl 1, show 1 ≤ 12 by decide, fun x hx => by
  rw [List.mem_singleton.mp hx]
  exact ⟨h1, h2⟩⟩, fun h => by
  have e : (mkS [c]).length = ("" : Str).length := by rw [h]
  rw [mkS_len] at e
  have : ("" : Str).length = 0 := by decide +kernel
  rw [this] at e
  cases e⟩
section
variable {P : Program} {w : World} {K : PySem.W.Frag} {mg : Str → Option Value} {base : Heap}
def spLaw (K : PySem.W.Frag) (P0 P1 P4 : Addr) (cs : List (Addr × Addr)) : Sp := fun vs H Q _ => ∃ (a : Addr) (ns : List Int), vs = [.ref a] ∧ SqL K H a (ns.map V.int) ∧ ns.length ≤ 63 ∧ H P0 = some (TabX P0) ∧ H P1 = some (TabX P1) ∧ (∀ p ∈ cs, H p.2 = some (TabX p.2)) ∧ TabS H P4 lamN ∧
  ∀ H', ExtN H H' → TabS H' P4 lamN → Q (.bl true) H'
theorem ok_law {P0 P1 P4 : Addr} {cs : List (Addr × Addr)} {f : Addr} {fd : FuncData} (F : Fun K "law" "law" s_law f fd) (T : Blt mg) (h_l_draw : Has P w K mg base "_law_draw" 2 ["_law_script"] (spDraw K)) (h_l_drawn : Has P w K mg base "_law_drawn" 5 ["_law_script", "_law_most"] (spDrawn K)) (h_l_long : Has P w K mg base "_law_long" 3 ["_law_script", "_law_rows"] (spLong K)) (h_l_few : Has P w K mg base "_law_few" 3 ["_law_rows", "_law_most"] (spFew K)) (h_l_run : Has P w K mg base "_law_run" 3 ["_law_rows", "_law_choices"] (spRunB K)) (h_l_fault : Has P w K mg base "_law_fault" 2 ["_law_row_here", "_law_held"] (spFault K)) (h_looked : Has P w K mg base "looked" 8 ["rows"] (spLooked K P0 P1 P4 cs)) (h_l_told : Has P w K mg base "_law_told" 2 ["_law_told_here"] (spTold K)) :
    FnOk P w K mg base CX0 9 f fd ["_law_script"] (spLaw K P0 P1 P4 cs) := by
  refine F.ok sc_law (fun vs H Q E h => ?_) (fun cdv A outer s H vs Q E hr h => ?_)
  · obtain ⟨a, ns, rfl, _⟩ := h
    rfl
  · obtain ⟨a, ns, rfl, hS, hlen, h0, h1, hT, hTS, q⟩ := h
    refine ⟨_, (pss_cons (ps_set (i := 1) sc_law.nd rfl (Or.inl rfl) (pe_own h_l_draw (hr.mono (by decide)) (by rfl) (pa_cons (pv 0) pa_nil))) (pss_cons (ps_set (i := 2) sc_law.nd rfl (Or.inl rfl) (pe_ix ix_str pe_str (pe_ix (show IxR _ (rIxL K) from ix_list) (pv 1) pe_int (fun _ _ => rfl)) (fun _ _ => rfl))) (pss_cons (ps_set (i := 3) sc_law.nd rfl (Or.inl rfl) (pe_own h_looked (hr.mono (by decide)) (by rfl) (pa_cons (pe_lst (pa_cons (pe_tup (pa_cons pe_str (pa_cons (pv 2) (pa_cons pe_str (pa_cons (pe_ix (show IxR _ (rIxL K) from ix_list) (pv 1) pe_int (fun _ _ => rfl)) pa_nil))))) (pa_cons (pe_tup (pa_cons pe_str (pa_cons (pv 2) pa_nil))) (pa_cons (pe_tup (pa_cons pe_str (pa_cons (pv 2) pa_nil))) (pa_cons (pe_tup (pa_cons pe_str pa_nil)) pa_nil))))) pa_nil))) (pss_cons (ps_if (PW.pt (pw_or (pt_not (pt_val (pe_own h_l_told (hr.mono (by decide)) (by rfl) (pa_cons (pv 3) pa_nil)))) (pw_or1 (pt_cmpR (show OpR _ _ (rNeD K) from op_neD hr.units) (pe_slice sl_tupA (pv 3) po_none (po_some pe_int)) (pe_tup (pa_cons pe_int (pa_cons pe_str pa_nil))) (nomark _))))) (pss_one (ps_ret pe_bl)) pss_nil) (pss_cons (ps_set (i := 4) sc_law.nd rfl (Or.inl rfl) (pe_own h_l_long (hr.mono (by decide)) (by rfl) (pa_cons (pv 0) (pa_cons (pe_own h_l_drawn (hr.mono (by decide)) (by rfl) (pa_cons (pv 0) (pa_cons pe_int pa_nil))) pa_nil)))) (pss_cons (ps_if (pt_not (pt_val (pe_own h_l_few (hr.mono (by decide)) (by rfl) (pa_cons (pv 4) (pa_cons pe_int pa_nil))))) (pss_one (ps_ret pe_bl)) pss_nil) (pss_cons (ps_set (i := 3) sc_law.nd rfl (Or.inl rfl) (pe_own h_looked (hr.mono (by decide)) (by rfl) (pa_cons (pe_callTy (show CallR _ _ (rListS K) from call_list_of) (by rfl) T.list_ (by decide +kernel) (pa_cons (pv 4) pa_nil)) pa_nil))) (pss_cons (ps_if (pt_cmpR op_isN (pv 3) pe_non (nomark _)) (pss_one (ps_ret pe_bl)) pss_nil) (pss_cons (ps_if (pt_not (pt_val (pe_own h_l_told (hr.mono (by decide)) (by rfl) (pa_cons (pv 3) pa_nil)))) (pss_one (ps_ret pe_bl)) pss_nil) (pss_cons (ps_for PassesOwn.never rfl (pi_list (pe_own h_l_run (hr.mono (by decide)) (by rfl) (pa_cons (pv 4) (pa_cons (pe_ix (show IxR _ (rIxT K) from ix_tup) (pv 3) pe_int (fun _ _ => rfl)) pa_nil)))) (pg_name (i := 5) sc_law.nd rfl (Or.inl rfl)) (pss_one (ps_if (PW.pt (pw_and (pt_cmpR op_eq (pe_ix (show IxR _ (rIxT K) from ix_tup) (pv 5) pe_int (fun _ _ => rfl)) (pe_ix (show IxR _ (rIxT K) from ix_tup) (pv 3) pe_int (fun _ _ => rfl)) (nomark _)) (pw_and1 (pt_cmpR op_eq (pe_own h_l_fault (hr.mono (by decide)) (by rfl) (pa_cons (pe_ix (show IxR _ (rIxL K) from ix_list) (pv 4) (pe_ix (show IxR _ (rIxT K) from ix_tup) (pv 5) pe_int (fun _ _ => rfl)) (fun _ _ => rfl)) (pa_cons (pe_ix (show IxR _ (rIxT K) from ix_tup) (pv 5) pe_int (fun _ _ => rfl)) pa_nil))) (pe_ix (show IxR _ (rIxT K) from ix_tup) (pv 3) pe_int (fun _ _ => rfl)) (nomark _))))) (pss_one (ps_ret pe_bl)) pss_nil))) (pss_one (ps_ret pe_bl)))))))))))), ?_⟩
    show (_ : L2.TS) _ [_, _, _, _, _, _] _
    have hok := drawM_ok ns
    refine q_asgL (xs := (drawM ns).vs) (el_call (sp := spDraw K) (vs := [.ref a]) (ea_cons (ev_var rfl) ea_nil) (fun H1 e Q q E => ⟨a, ns, rfl, ex_l e hS, fun p H2 hp e2 h2 => q p H2 hp e2 h2⟩)) (fun pd H1 hpd e1 hd1 => ?_)
    show (_ : L2.TS) _ [_, _, _, _, _, _] _
    have hn : 0 ≤ (drawM ns).base ∧ (drawM ns).base ≤ 999999999 := by
      have h1 : 0 ≤ cellM ns 1 / 2 % 1000000000 ∧ cellM ns 1 / 2 % 1000000000 < 1000000000 := by omega
      show 0 ≤ cellM ns 1 / 2 % 1000000000 * (cellM ns 1 % 2) ∧ cellM ns 1 / 2 % 1000000000 * (cellM ns 1 % 2) ≤ 999999999
      have h2 : cellM ns 1 % 2 = 0 ∨ cellM ns 1 % 2 = 1 := by omega
      rcases h2 with h2 | h2
      · rw [h2]
        omega
      · rw [h2]
        omega
    obtain ⟨hu, hune⟩ := word_one (c := 97 + (drawM ns).sign.toNat) (by omega) (by have := hok.sg26; have := hok.sg0; omega)
    refine q_asg (v := .str (mkS [97 + (drawM ns).sign.toNat])) (ev_letter ev_c (ev_ixL (K := K) (ev_var rfl) (sq_of hd1) ev_c dvs4) hok.sg0 hok.sg26) (fun H2 e2 => ?_)
    show (_ : L2.TS) _ [_, _, _, _, _, _] _
    have hD2 : SqL K H2 pd (drawM ns).vs := sq_of (e2 _ _ hd1)
    have hb0 : atI (drawM ns).vs 0 = some (.int (drawM ns).base) := dvs0
    generalize (drawM ns).vs = dv at *
    generalize (drawM ns).base = n0 at *
    generalize mkS [97 + (drawM ns).sign.toNat] = u at *
    have e02 := e1.trans e2
    -- the sheet ahead
    refine q_asgCallP (R := LRows (fixM u n0)) (er_fixed (ev_var rfl) (ev_ixL (K := K) (ev_var rfl) hD2 ev_c hb0)) (fun v H3 e3 hv => ?_)
    obtain ⟨p3, rv3, rfl, hp3, hR3⟩ := hv
    have e03 := e02.trans e3
    refine ⟨p3, rv3, fixM u n0, 4, rfl, sq_of hp3, hR3, sheet_fix hu hn, by show 4 ≤ 40000; decide, fix_bnd u n0, by decide, e03 _ _ h0, e03 _ _ h1, fun p hp => e03 _ _ (hT p hp), tabS_up e03 hTS, fun hno => absurd ((hno _ (fix_two u n0)).symm.trans fix_empty) (by decide +kernel), fun st ms m htold hpath hm hms p7 p8 G1 g1 hT1 _ h8 h7 => ?_⟩
    have hst := fix_told hune htold
    subst hst
    rw [fix_empty] at h7
    have h7 : G1 p7 = some (.tup [.int 2, .str "empty", .ref p8]) := h7
    have eN : ExtN H G1 := extN_trans (extN_of e03) g1
    dsimp only
    show (_ : L2.TS) _ [_, _, _, _, _, _] _
    refine q_when (b := false) (et_is (et_or (a := false) (et_is (et_not (et_B (ev_told (i := 2) (u := "empty") (ns := ms) (ea_cons (ev_var rfl) ea_nil) h7 (by decide) h8 hpath.pos (by omega)))) rfl) (fun _ => et_test (ev_neTwo (ep_slT (K := K) (xs := [.int 2, .str "empty", .ref p8]) (lo := none) (hi := some 2) (ev_var rfl) eo_none (eo_some ev_c) (st_of h7) rfl (show ¬ (HT.sIx 3 0 none = 0 ∧ HT.sIx 3 3 (some 2) = 3) by decide)) (eu_tup (ea_cons ev_c (ea_cons ev_c ea_nil)) (Nat.le_of_ble_eq_true rfl))))) rfl) (fun hb => by cases hb) (fun _ G2 g2 => ?_)
    have eN2 : ExtN H G2 := extN_trans eN (extN_of g2)
    have hT2 := tabS_up g2 hT1
    have hS2 : SqL K G2 a (ns.map V.int) := sqN eN2 hS
    replace h0 := tabX_up eN2 h0
    replace h1 := tabX_up eN2 h1
    replace hT := fun p hp => tabX_up eN2 (hT p hp)
    replace q := fun H' x => q H' (extN_trans eN2 x)
    clear eN eN2 hpath htold hT1 h7 h8 g1 g2 hp3 hR3 e03 e02 e3 e1 e2 hS hD2 hd1 hb0 hu hune hn hTS hms hm
    -- the drawn sheet
    refine q_asgP (ep_long (rs := drawnM ns 14) (ev_var rfl) hS2 (ep_drawn (a := a) (ns := ns) (most := 14) (ea_cons (ev_var rfl) (ea_cons ev_c ea_nil)) hS2 (by decide) (by decide)) (drawn_len ns (by decide) (by decide))) (fun v H1 e1 hv => ?_)
    show (_ : L2.TS) _ [_, _, _, _, _, _] _
    have sh : Sheet (longM ns (drawnM ns 14)) := sheet_long ns ns 14
    have hdl : (longM ns (drawnM ns 14)).length ≤ 1700 := long_len ns (drawn_len ns (by decide) (by decide))
    generalize longM ns (drawnM ns 14) = rs at *
    obtain ⟨p1, rv, rfl, hp1, hR⟩ := hv
    have hlr := hR.len
    refine q_whenFew (K := K) (ev_var rfl) (sq_of hp1) hR sh (by omega) (fun H2 e2 => s_ret ev_c (fun H3 e3 => q H3 (extN_of (e1.trans (e2.trans e3))) (tabS_up (e1.trans (e2.trans e3)) hT2))) (fun hB H2 e2 => ?_)
    have e12 := e1.trans e2
    -- looked
    refine el_list (K := K) (ev_var rfl) (sq_of (e2 _ _ hp1)) H2 (Ex.refl H2) _ fun p6 H3 hp6 e3 h6 => ?_
    have e13 := e12.trans e3
    have hP3 : SqL K H3 p1 rv := sq_of (e3 _ _ (e2 _ _ hp1))
    have hR3 := hR.up (e2.trans e3)
    refine ⟨p6, rv, rs, 400, rfl, sq_of h6, hR3, sh, by omega, hB, by decide, e13 _ _ h0, e13 _ _ h1, fun p hp => e13 _ _ (hT p hp), tabS_up e13 hT2, fun hno G2 g2 hT3 => ?_, fun st ms m htold hpath hm hms p7 p8 G1 g1 hT3 _ h8 h7 => ?_⟩
    · show (_ : L2.TS) _ [_, _, _, _, _, _] _
      have eN : ExtN G2 G2 := extN_of (Ex.refl G2)
      refine q_when (b := true) (et_is (et_test (ev_isN (ev_var rfl) ev_c)) rfl) (fun _ G3 g3 => ?_) (fun hb => by cases hb)
      exact s_ret ev_c (fun G4 g4 => q G4 (extN_trans (extN_trans (extN_of e13) g2) (extN_of (g3.trans g4))) (tabS_up (g3.trans g4) hT3))
    · show (_ : L2.TS) _ [_, _, _, _, _, _] _
      have eN : ExtN _ G1 := extN_trans (extN_of e13) g1
      refine q_when (b := false) (et_is (et_test (ev_isN (ev_var rfl) ev_c)) rfl) (fun hb => by cases hb) (fun _ G3 g3 => ?_)
      have hfi : faultAt rs st ∈ toldL := by
        rcases fault_is (rs.getD st.1.toNat .fin) st.2 with h | h | h | h
        · exact absurd h htold.2.1
        · rw [show faultAt rs st = "beside" from h]; decide
        · rw [show faultAt rs st = "empty" from h]; decide
        · rw [show faultAt rs st = "asleep" from h]; decide
      refine q_when (b := false) (et_is (et_not (et_B (ev_told (u := faultAt rs st) (ea_cons (ev_var rfl) ea_nil) (g3 _ _ h7) hfi (g3 _ _ h8) hpath.pos (by omega)))) rfl) (fun hb => by cases hb) (fun _ G4 g4 => ?_)
      have g34 := g3.trans g4
      have h7' : G4 p7 = some (.tup [.int st.1, .str (faultAt rs st), .ref p8]) := g34 _ _ h7
      have hC4 : SqL K G4 p8 (ms.map V.int) := sq_of (g34 _ _ h8)
      have hP4 : SqL K G4 p1 rv := ex_l g34 (sqN g1 hP3)
      have hR4 : Rows G4 rv rs := (rowsT (extT_of g1) hR3).up g34
      obtain ⟨i0, hi0, hin, hrl⟩ := path_in sh hpath
      have eN4 : ExtN _ G4 := extN_trans eN (extN_of g34)
      have hT4 := tabS_up g34 hT3
      refine q_forPL (K := K) (epl_runB (a := p1) (pc := p8) (cs := ms) (ea_cons (ev_var rfl) (ea_cons (ev_ixT (ev_var rfl) (st_of h7') ev_c rfl) ea_nil)) hP4 hR4 hC4 sh (by omega) (by omega))
        (fun pz us i σ' G => Ex G4 G ∧ G pz = some (.lst us) ∧ Stds G us (runM rs ms) ∧ (∀ j s, j < i → (runM rs ms)[j]? = some s → ¬ ((s.1 : Int) = st.1 ∧ faultAt rs ((s.1 : Int), s.2) = faultAt rs st)) ∧ ∃ x5, σ' = [some (.ref a), some (.ref pd), some (.str u), some (.ref p7), some (.ref p1), x5])
        (fun pz us G _ g hz hst => ⟨g, hz, hst, fun j s hj => absurd hj (Nat.not_lt_zero j), _, rfl⟩) (fun pz us i σ' G _ h => sq_of h.2.1) ?_ ?_
      · rintro pz us i x σ' G hx ⟨gG, hz, hst, hno, x5, rfl⟩
        dsimp only [List.set]
        obtain ⟨s, hs, hX⟩ := Stds.at hst hx
        obtain ⟨hsd, hsl⟩ := runM_std sh ms s (List.mem_of_getElem? hs)
        have hel := hsd.len sh
        have hgr := List.getElem?_eq_getElem hsl
        have hRG := hR4.up gG
        obtain ⟨y, hy, hY⟩ := hRG.get hgr
        have hix : atI rv (s.1 : Int) = some y := atI_nat hy
        obtain ⟨px, pq, hv, rfl, hpx, hpq, hE⟩ := id hX
        have hPx : SqT K G px [.int (s.1 : Int), .ref pq] := st_of hpx
        have hP7 : SqT K G p7 [.int st.1, .str (faultAt rs st), .ref p8] := st_of (gG _ _ h7')
        have hfa : faultAt rs ((s.1 : Int), s.2) = faultM rs[s.1] s.2 := by
          show faultM (rs.getD (s.1 : Int).toNat .fin) s.2 = _
          rw [Int.toNat_natCast, List.getD_eq_getElem?_getD, hgr]
          rfl
        refine s_when (b := decide (V.int (s.1 : Int) = V.int st.1) && decide (V.str (faultM rs[s.1] s.2) = V.str (faultAt rs st))) (et_and (et_test (ev_eq (ev_ixT (ev_var rfl) hPx ev_c atI_hd) (ev_ixT (ev_var rfl) hP7 ev_c atI_hd) rfl)) (fun _ => et_test (ev_eq (ev_fault (y := y) (x := .ref pq) (ea_cons (ev_ixL (ev_var rfl) (ex_l gG hP4) (ev_ixT (ev_var rfl) hPx ev_c rfl) hix) (ea_cons (ev_ixT (ev_var rfl) hPx ev_c rfl) ea_nil)) hY ⟨pq, hv, rfl, hpq, hE⟩ (by omega)) (ev_ixT (ev_var rfl) hP7 ev_c rfl) rfl))) (fun hb G5 g5 => ?_) (fun hb G5 g5 => ?_)
        · exact s_ret ev_c (fun G6 g6 => q G6 (extN_trans eN4 (extN_of (gG.trans (g5.trans g6)))) (tabS_up (gG.trans (g5.trans g6)) hT4))
        · refine ⟨gG.trans g5, g5 _ _ hz, hst.up g5, fun j s' hj hs' => ?_, _, rfl⟩
          by_cases hji : j < i
          · exact hno j s' hji hs'
          · have hj2 : j = i := by omega
            rw [hj2, hs] at hs'
            cases hs'
            rintro ⟨c1, c2⟩
            rw [hfa] at c2
            rw [c1, c2, decide_eq_true rfl, decide_eq_true rfl] at hb
            cases hb
      · rintro pz us σ' G ⟨gG, hz, hst, hno, x5, rfl⟩
        have hul : us.length = (runM rs ms).length := Paired.length hst
        obtain ⟨j, hj, he⟩ := List.mem_iff_getElem.mp hin
        refine absurd ⟨hi0.symm, ?_⟩ (hno j (i0, st.2) (by omega) (by rw [List.getElem?_eq_getElem hj, he]))
        show faultAt rs ((i0 : Int), st.2) = _
        rw [← hi0]
end
end BD
namespace BD
open PySem PySem.Spec PyProof.Rows L2 Evl
local macro_rules | `(tactic| walk_at "ev") => `(tactic| first
  | ((with_reducible apply ev_var) ; rfl)
  | with_reducible exact ev_c
  | ((with_reducible apply ev_I0) <;> walk_at "ev")
  | ((with_reducible apply ev_e9) <;> walk_at "ev")
  | ((with_reducible apply ev_I) <;> walk_at "ev")
  | ((with_reducible apply ev_eq) <;> walk_at "ev")
  | ((with_reducible apply ev_ne) <;> walk_at "ev")
  | ((with_reducible apply ev_neg) <;> walk_at "ev")
  | ((with_reducible apply ev_ixN) <;> walk_at "ev")
  | ((with_reducible apply ev_ixL) <;> walk_at "ev")
  | ((with_reducible apply ev_inN) <;> walk_at "ev")
  | ((with_reducible apply ev_inT) <;> walk_at "ev")
  | ((with_reducible apply ev_ixT) <;> walk_at "ev")
  | ((with_reducible apply ev_ixS) <;> walk_at "ev")
  | ((with_reducible apply ev_len') <;> walk_at "ev")
  | ((with_reducible apply et_test) <;> walk_at "ev")
  | ((with_reducible apply et_and) <;> walk_at "ev")
  | ((with_reducible apply et_or) <;> walk_at "ev")
  | ((with_reducible apply et_not) <;> walk_at "ev")
  | ((with_reducible apply et_B) <;> walk_at "ev")
  | ((with_reducible apply el_lst) <;> walk_at "ev")
  | ((with_reducible apply eu_tup) <;> walk_at "ev")
  | ((with_reducible apply ea_cons) <;> walk_at "ev")
  | with_reducible exact ea_nil
  | with_reducible assumption
  | ((with_reducible apply ex_l' ; assumption) ; walk_at "ex")
  | ((with_reducible apply ex_t' ; assumption) ; walk_at "ex")
  | (intro _ ; walk_at "ev")
  | (with_reducible first | exact atI_hd | exact at_kind | exact at2s | exact at3s | exact at3i)
  | (first | exact rfl | exact Nat.le_of_ble_eq_true rfl | exact ⟨by decide, by decide⟩ | decide | exact Or.inl ⟨by omega, by omega⟩ | exact Or.inr ⟨by omega, by omega⟩ | omega)
  | skip)
local macro_rules | `(tactic| walk_at "ex") => `(tactic| first
  | assumption
  | exact Ex.refl _
  | (refine' Ex.trans ?_ (by assumption) ; walk_at "ex"))
local macro_rules | `(tactic| walk_at "row") => `(tactic| first
  | (with_reducible exact er_nil)
  | ((with_reducible apply er_cons) <;> walk_at "row")
  | (((with_reducible apply er_var) ; rfl) ; walk_at "isrow")
  | (((with_reducible apply elr_var) ; rfl) ; walk_at "isrow")
  | ((with_reducible apply elr_cat) <;> walk_at "row")
  | ((with_reducible apply elr_lst) <;> walk_at "row")
  | ((with_reducible apply er_fin) <;> walk_at "ev")
  | ((with_reducible apply er_lendT) <;> walk_at "ev")
  | ((with_reducible apply er_lendW) <;> walk_at "ev")
  | ((with_reducible apply er_pick) <;> walk_at "ev")
  | ((with_reducible apply er_either) <;> walk_at "ev")
  | ((with_reducible apply er_or) <;> walk_at "ev")
  | ((with_reducible apply er_again) <;> walk_at "ev")
  | ((with_reducible apply er_back) <;> walk_at "ev")
  | ((with_reducible apply er_look) <;> walk_at "ev")
  | ((with_reducible apply er_change) <;> walk_at "ev")
  | exact Nat.le_of_ble_eq_true rfl
  | skip)
local macro_rules | `(tactic| walk_at "isrow") => `(tactic| first
  | assumption
  | (refine IsRow.up ?_ (by assumption) ; walk_at "ex")
  | (refine LRows.up ?_ (by assumption) ; walk_at "ex"))

theorem all_mk {l : PySem.W.OpenLaw} {w : World} {K : PySem.W.Frag} {h : Heap} {mg : Str → Option Value} {fa f59 f1 f2 f3 f4 f5 f6 f7 f8 f9 f10 f11 f12 f13 f14 f15 f16 f17 f18 f19 f20 f21 f22 f23 f24 f25 f26 f27 f28 f29 f30 f31 f32 f33 f34 f35 f36 f37 f38 f39 f40 f41 f42 f43 f44 f45 f46 f47 f48 f49 f50 f51 f52 f53 f54 f55 f56 f57 f58 fO fF fL fI fR fU fN fH CB : Addr} (X : K.In h) (G : h.Ns mainGlobals mg) (hfa : mg "law" = some (.ref fa))
    {od1 an1 : Option Addr} {sl1 : Array (Option Value)} {oc1 kV1 dc1 pm1 cd1 ct1 : Value}
    (a1 : PySem.W.nsIn K mainGlobals "_law_cell_at" = some (some (.ref f1))) (l1 : K.lookup f1 = some ⟨oc1, od1, .func (PySem.W.fnOf "_law_cell_at" "_law_cell_at" (defArgs s_l_cell_at) (defBody s_l_cell_at) (defScope s_l_cell_at) .none kV1 dc1 pm1 an1 cd1 ct1), sl1⟩) (c1 : PySem.W.codeIn K cd1 "_law_cell_at" = true) (k1 : PySem.W.keepIn K (.ref f1) = true)
    {od2 an2 : Option Addr} {sl2 : Array (Option Value)} {oc2 kV2 dc2 pm2 cd2 ct2 : Value}
    (a2 : PySem.W.nsIn K mainGlobals "_law_word" = some (some (.ref f2))) (l2 : K.lookup f2 = some ⟨oc2, od2, .func (PySem.W.fnOf "_law_word" "_law_word" (defArgs s_l_word) (defBody s_l_word) (defScope s_l_word) .none kV2 dc2 pm2 an2 cd2 ct2), sl2⟩) (c2 : PySem.W.codeIn K cd2 "_law_word" = true) (k2 : PySem.W.keepIn K (.ref f2) = true)
    {od3 an3 : Option Addr} {sl3 : Array (Option Value)} {oc3 kV3 dc3 pm3 cd3 ct3 : Value}
    (a3 : PySem.W.nsIn K mainGlobals "_law_draw" = some (some (.ref f3))) (l3 : K.lookup f3 = some ⟨oc3, od3, .func (PySem.W.fnOf "_law_draw" "_law_draw" (defArgs s_l_draw) (defBody s_l_draw) (defScope s_l_draw) .none kV3 dc3 pm3 an3 cd3 ct3), sl3⟩) (c3 : PySem.W.codeIn K cd3 "_law_draw" = true) (k3 : PySem.W.keepIn K (.ref f3) = true)
    {od4 an4 : Option Addr} {sl4 : Array (Option Value)} {oc4 kV4 dc4 pm4 cd4 ct4 : Value}
    (a4 : PySem.W.nsIn K mainGlobals "_law_thing" = some (some (.ref f4))) (l4 : K.lookup f4 = some ⟨oc4, od4, .func (PySem.W.fnOf "_law_thing" "_law_thing" (defArgs s_l_thing) (defBody s_l_thing) (defScope s_l_thing) .none kV4 dc4 pm4 an4 cd4 ct4), sl4⟩) (c4 : PySem.W.codeIn K cd4 "_law_thing" = true) (k4 : PySem.W.keepIn K (.ref f4) = true)
    {od5 an5 : Option Addr} {sl5 : Array (Option Value)} {oc5 kV5 dc5 pm5 cd5 ct5 : Value}
    (a5 : PySem.W.nsIn K mainGlobals "_law_lend" = some (some (.ref f5))) (l5 : K.lookup f5 = some ⟨oc5, od5, .func (PySem.W.fnOf "_law_lend" "_law_lend" (defArgs s_l_lend) (defBody s_l_lend) (defScope s_l_lend) .none kV5 dc5 pm5 an5 cd5 ct5), sl5⟩) (c5 : PySem.W.codeIn K cd5 "_law_lend" = true) (k5 : PySem.W.keepIn K (.ref f5) = true)
    {od6 an6 : Option Addr} {sl6 : Array (Option Value)} {oc6 kV6 dc6 pm6 cd6 ct6 : Value}
    (a6 : PySem.W.nsIn K mainGlobals "_law_deed" = some (some (.ref f6))) (l6 : K.lookup f6 = some ⟨oc6, od6, .func (PySem.W.fnOf "_law_deed" "_law_deed" (defArgs s_l_deed) (defBody s_l_deed) (defScope s_l_deed) .none kV6 dc6 pm6 an6 cd6 ct6), sl6⟩) (c6 : PySem.W.codeIn K cd6 "_law_deed" = true) (k6 : PySem.W.keepIn K (.ref f6) = true)
    {od7 an7 : Option Addr} {sl7 : Array (Option Value)} {oc7 kV7 dc7 pm7 cd7 ct7 : Value}
    (a7 : PySem.W.nsIn K mainGlobals "_law_row" = some (some (.ref f7))) (l7 : K.lookup f7 = some ⟨oc7, od7, .func (PySem.W.fnOf "_law_row" "_law_row" (defArgs s_l_row) (defBody s_l_row) (defScope s_l_row) .none kV7 dc7 pm7 an7 cd7 ct7), sl7⟩) (c7 : PySem.W.codeIn K cd7 "_law_row" = true) (k7 : PySem.W.keepIn K (.ref f7) = true)
    {od8 an8 : Option Addr} {sl8 : Array (Option Value)} {oc8 kV8 dc8 pm8 cd8 ct8 : Value}
    (a8 : PySem.W.nsIn K mainGlobals "_law_hands" = some (some (.ref f8))) (l8 : K.lookup f8 = some ⟨oc8, od8, .func (PySem.W.fnOf "_law_hands" "_law_hands" (defArgs s_l_hands) (defBody s_l_hands) (defScope s_l_hands) .none kV8 dc8 pm8 an8 cd8 ct8), sl8⟩) (c8 : PySem.W.codeIn K cd8 "_law_hands" = true) (k8 : PySem.W.keepIn K (.ref f8) = true)
    {od9 an9 : Option Addr} {sl9 : Array (Option Value)} {oc9 kV9 dc9 pm9 cd9 ct9 : Value}
    (a9 : PySem.W.nsIn K mainGlobals "_law_first_four" = some (some (.ref f9))) (l9 : K.lookup f9 = some ⟨oc9, od9, .func (PySem.W.fnOf "_law_first_four" "_law_first_four" (defArgs s_l_first_four) (defBody s_l_first_four) (defScope s_l_first_four) .none kV9 dc9 pm9 an9 cd9 ct9), sl9⟩) (c9 : PySem.W.codeIn K cd9 "_law_first_four" = true) (k9 : PySem.W.keepIn K (.ref f9) = true)
    {od10 an10 : Option Addr} {sl10 : Array (Option Value)} {oc10 kV10 dc10 pm10 cd10 ct10 : Value}
    (a10 : PySem.W.nsIn K mainGlobals "_law_gadget" = some (some (.ref f10))) (l10 : K.lookup f10 = some ⟨oc10, od10, .func (PySem.W.fnOf "_law_gadget" "_law_gadget" (defArgs s_l_gadget) (defBody s_l_gadget) (defScope s_l_gadget) .none kV10 dc10 pm10 an10 cd10 ct10), sl10⟩) (c10 : PySem.W.codeIn K cd10 "_law_gadget" = true) (k10 : PySem.W.keepIn K (.ref f10) = true)
    {od11 an11 : Option Addr} {sl11 : Array (Option Value)} {oc11 kV11 dc11 pm11 cd11 ct11 : Value}
    (a11 : PySem.W.nsIn K mainGlobals "_law_sheet" = some (some (.ref f11))) (l11 : K.lookup f11 = some ⟨oc11, od11, .func (PySem.W.fnOf "_law_sheet" "_law_sheet" (defArgs s_l_sheet) (defBody s_l_sheet) (defScope s_l_sheet) .none kV11 dc11 pm11 an11 cd11 ct11), sl11⟩) (c11 : PySem.W.codeIn K cd11 "_law_sheet" = true) (k11 : PySem.W.keepIn K (.ref f11) = true)
    {od12 an12 : Option Addr} {sl12 : Array (Option Value)} {oc12 kV12 dc12 pm12 cd12 ct12 : Value}
    (a12 : PySem.W.nsIn K mainGlobals "_law_drawn" = some (some (.ref f12))) (l12 : K.lookup f12 = some ⟨oc12, od12, .func (PySem.W.fnOf "_law_drawn" "_law_drawn" (defArgs s_l_drawn) (defBody s_l_drawn) (defScope s_l_drawn) .none kV12 dc12 pm12 an12 cd12 ct12), sl12⟩) (c12 : PySem.W.codeIn K cd12 "_law_drawn" = true) (k12 : PySem.W.keepIn K (.ref f12) = true)
    {od13 an13 : Option Addr} {sl13 : Array (Option Value)} {oc13 kV13 dc13 pm13 cd13 ct13 : Value}
    (a13 : PySem.W.nsIn K mainGlobals "_law_homes" = some (some (.ref f13))) (l13 : K.lookup f13 = some ⟨oc13, od13, .func (PySem.W.fnOf "_law_homes" "_law_homes" (defArgs s_l_homes) (defBody s_l_homes) (defScope s_l_homes) .none kV13 dc13 pm13 an13 cd13 ct13), sl13⟩) (c13 : PySem.W.codeIn K cd13 "_law_homes" = true) (k13 : PySem.W.keepIn K (.ref f13) = true)
    {od14 an14 : Option Addr} {sl14 : Array (Option Value)} {oc14 kV14 dc14 pm14 cd14 ct14 : Value}
    (a14 : PySem.W.nsIn K mainGlobals "_law_last" = some (some (.ref f14))) (l14 : K.lookup f14 = some ⟨oc14, od14, .func (PySem.W.fnOf "_law_last" "_law_last" (defArgs s_l_last) (defBody s_l_last) (defScope s_l_last) .none kV14 dc14 pm14 an14 cd14 ct14), sl14⟩) (c14 : PySem.W.codeIn K cd14 "_law_last" = true) (k14 : PySem.W.keepIn K (.ref f14) = true)
    {od15 an15 : Option Addr} {sl15 : Array (Option Value)} {oc15 kV15 dc15 pm15 cd15 ct15 : Value}
    (a15 : PySem.W.nsIn K mainGlobals "_law_starts" = some (some (.ref f15))) (l15 : K.lookup f15 = some ⟨oc15, od15, .func (PySem.W.fnOf "_law_starts" "_law_starts" (defArgs s_l_starts) (defBody s_l_starts) (defScope s_l_starts) .none kV15 dc15 pm15 an15 cd15 ct15), sl15⟩) (c15 : PySem.W.codeIn K cd15 "_law_starts" = true) (k15 : PySem.W.keepIn K (.ref f15) = true)
    {od16 an16 : Option Addr} {sl16 : Array (Option Value)} {oc16 kV16 dc16 pm16 cd16 ct16 : Value}
    (a16 : PySem.W.nsIn K mainGlobals "_law_lent" = some (some (.ref f16))) (l16 : K.lookup f16 = some ⟨oc16, od16, .func (PySem.W.fnOf "_law_lent" "_law_lent" (defArgs s_l_lent) (defBody s_l_lent) (defScope s_l_lent) .none kV16 dc16 pm16 an16 cd16 ct16), sl16⟩) (c16 : PySem.W.codeIn K cd16 "_law_lent" = true) (k16 : PySem.W.keepIn K (.ref f16) = true)
    {od17 an17 : Option Addr} {sl17 : Array (Option Value)} {oc17 kV17 dc17 pm17 cd17 ct17 : Value}
    (a17 : PySem.W.nsIn K mainGlobals "_law_back" = some (some (.ref f17))) (l17 : K.lookup f17 = some ⟨oc17, od17, .func (PySem.W.fnOf "_law_back" "_law_back" (defArgs s_l_back) (defBody s_l_back) (defScope s_l_back) .none kV17 dc17 pm17 an17 cd17 ct17), sl17⟩) (c17 : PySem.W.codeIn K cd17 "_law_back" = true) (k17 : PySem.W.keepIn K (.ref f17) = true)
    {od18 an18 : Option Addr} {sl18 : Array (Option Value)} {oc18 kV18 dc18 pm18 cd18 ct18 : Value}
    (a18 : PySem.W.nsIn K mainGlobals "_law_step" = some (some (.ref f18))) (l18 : K.lookup f18 = some ⟨oc18, od18, .func (PySem.W.fnOf "_law_step" "_law_step" (defArgs s_l_step) (defBody s_l_step) (defScope s_l_step) .none kV18 dc18 pm18 an18 cd18 ct18), sl18⟩) (c18 : PySem.W.codeIn K cd18 "_law_step" = true) (k18 : PySem.W.keepIn K (.ref f18) = true)
    {od19 an19 : Option Addr} {sl19 : Array (Option Value)} {oc19 kV19 dc19 pm19 cd19 ct19 : Value}
    (a19 : PySem.W.nsIn K mainGlobals "_law_awake" = some (some (.ref f19))) (l19 : K.lookup f19 = some ⟨oc19, od19, .func (PySem.W.fnOf "_law_awake" "_law_awake" (defArgs s_l_awake) (defBody s_l_awake) (defScope s_l_awake) .none kV19 dc19 pm19 an19 cd19 ct19), sl19⟩) (c19 : PySem.W.codeIn K cd19 "_law_awake" = true) (k19 : PySem.W.keepIn K (.ref f19) = true)
    {od20 an20 : Option Addr} {sl20 : Array (Option Value)} {oc20 kV20 dc20 pm20 cd20 ct20 : Value}
    (a20 : PySem.W.nsIn K mainGlobals "_law_fault" = some (some (.ref f20))) (l20 : K.lookup f20 = some ⟨oc20, od20, .func (PySem.W.fnOf "_law_fault" "_law_fault" (defArgs s_l_fault) (defBody s_l_fault) (defScope s_l_fault) .none kV20 dc20 pm20 an20 cd20 ct20), sl20⟩) (c20 : PySem.W.codeIn K cd20 "_law_fault" = true) (k20 : PySem.W.keepIn K (.ref f20) = true)
    {od21 an21 : Option Addr} {sl21 : Array (Option Value)} {oc21 kV21 dc21 pm21 cd21 ct21 : Value}
    (a21 : PySem.W.nsIn K mainGlobals "_law_some_ways" = some (some (.ref f21))) (l21 : K.lookup f21 = some ⟨oc21, od21, .func (PySem.W.fnOf "_law_some_ways" "_law_some_ways" (defArgs s_l_some_ways) (defBody s_l_some_ways) (defScope s_l_some_ways) .none kV21 dc21 pm21 an21 cd21 ct21), sl21⟩) (c21 : PySem.W.codeIn K cd21 "_law_some_ways" = true) (k21 : PySem.W.keepIn K (.ref f21) = true)
    {od22 an22 : Option Addr} {sl22 : Array (Option Value)} {oc22 kV22 dc22 pm22 cd22 ct22 : Value}
    (a22 : PySem.W.nsIn K mainGlobals "_law_whole" = some (some (.ref f22))) (l22 : K.lookup f22 = some ⟨oc22, od22, .func (PySem.W.fnOf "_law_whole" "_law_whole" (defArgs s_l_whole) (defBody s_l_whole) (defScope s_l_whole) .none kV22 dc22 pm22 an22 cd22 ct22), sl22⟩) (c22 : PySem.W.codeIn K cd22 "_law_whole" = true) (k22 : PySem.W.keepIn K (.ref f22) = true)
    {od23 an23 : Option Addr} {sl23 : Array (Option Value)} {oc23 kV23 dc23 pm23 cd23 ct23 : Value}
    (a23 : PySem.W.nsIn K mainGlobals "_law_told" = some (some (.ref f23))) (l23 : K.lookup f23 = some ⟨oc23, od23, .func (PySem.W.fnOf "_law_told" "_law_told" (defArgs s_l_told) (defBody s_l_told) (defScope s_l_told) .none kV23 dc23 pm23 an23 cd23 ct23), sl23⟩) (c23 : PySem.W.codeIn K cd23 "_law_told" = true) (k23 : PySem.W.keepIn K (.ref f23) = true)
    {od24 an24 : Option Addr} {sl24 : Array (Option Value)} {oc24 kV24 dc24 pm24 cd24 ct24 : Value}
    (a24 : PySem.W.nsIn K mainGlobals "_law_long" = some (some (.ref f24))) (l24 : K.lookup f24 = some ⟨oc24, od24, .func (PySem.W.fnOf "_law_long" "_law_long" (defArgs s_l_long) (defBody s_l_long) (defScope s_l_long) .none kV24 dc24 pm24 an24 cd24 ct24), sl24⟩) (c24 : PySem.W.codeIn K cd24 "_law_long" = true) (k24 : PySem.W.keepIn K (.ref f24) = true)
    {od25 an25 : Option Addr} {sl25 : Array (Option Value)} {oc25 kV25 dc25 pm25 cd25 ct25 : Value}
    (a25 : PySem.W.nsIn K mainGlobals "_law_run" = some (some (.ref f25))) (l25 : K.lookup f25 = some ⟨oc25, od25, .func (PySem.W.fnOf "_law_run" "_law_run" (defArgs s_l_run) (defBody s_l_run) (defScope s_l_run) .none kV25 dc25 pm25 an25 cd25 ct25), sl25⟩) (c25 : PySem.W.codeIn K cd25 "_law_run" = true) (k25 : PySem.W.keepIn K (.ref f25) = true)
    {od26 an26 : Option Addr} {sl26 : Array (Option Value)} {oc26 kV26 dc26 pm26 cd26 ct26 : Value}
    (a26 : PySem.W.nsIn K mainGlobals "_law_few" = some (some (.ref f26))) (l26 : K.lookup f26 = some ⟨oc26, od26, .func (PySem.W.fnOf "_law_few" "_law_few" (defArgs s_l_few) (defBody s_l_few) (defScope s_l_few) .none kV26 dc26 pm26 an26 cd26 ct26), sl26⟩) (c26 : PySem.W.codeIn K cd26 "_law_few" = true) (k26 : PySem.W.keepIn K (.ref f26) = true)
    {od27 an27 : Option Addr} {sl27 : Array (Option Value)} {oc27 kV27 dc27 pm27 cd27 ct27 : Value}
    (a27 : PySem.W.nsIn K mainGlobals "awake" = some (some (.ref f27))) (l27 : K.lookup f27 = some ⟨oc27, od27, .func (PySem.W.fnOf "awake" "awake" (defArgs s_awake) (defBody s_awake) (defScope s_awake) .none kV27 dc27 pm27 an27 cd27 ct27), sl27⟩) (c27 : PySem.W.codeIn K cd27 "awake" = true) (k27 : PySem.W.keepIn K (.ref f27) = true)
    {od28 an28 : Option Addr} {sl28 : Array (Option Value)} {oc28 kV28 dc28 pm28 cd28 ct28 : Value}
    (a28 : PySem.W.nsIn K mainGlobals "clash" = some (some (.ref f28))) (l28 : K.lookup f28 = some ⟨oc28, od28, .func (PySem.W.fnOf "clash" "clash" (defArgs s_clash) (defBody s_clash) (defScope s_clash) .none kV28 dc28 pm28 an28 cd28 ct28), sl28⟩) (c28 : PySem.W.codeIn K cd28 "clash" = true) (k28 : PySem.W.keepIn K (.ref f28) = true)
    {od29 an29 : Option Addr} {sl29 : Array (Option Value)} {oc29 kV29 dc29 pm29 cd29 ct29 : Value}
    (a29 : PySem.W.nsIn K mainGlobals "beside" = some (some (.ref f29))) (l29 : K.lookup f29 = some ⟨oc29, od29, .func (PySem.W.fnOf "beside" "beside" (defArgs s_beside) (defBody s_beside) (defScope s_beside) .none kV29 dc29 pm29 an29 cd29 ct29), sl29⟩) (c29 : PySem.W.codeIn K cd29 "beside" = true) (k29 : PySem.W.keepIn K (.ref f29) = true)
    {od30 an30 : Option Addr} {sl30 : Array (Option Value)} {oc30 kV30 dc30 pm30 cd30 ct30 : Value}
    (a30 : PySem.W.nsIn K mainGlobals "is_gone" = some (some (.ref f30))) (l30 : K.lookup f30 = some ⟨oc30, od30, .func (PySem.W.fnOf "is_gone" "is_gone" (defArgs s_is_gone) (defBody s_is_gone) (defScope s_is_gone) .none kV30 dc30 pm30 an30 cd30 ct30), sl30⟩) (c30 : PySem.W.codeIn K cd30 "is_gone" = true) (k30 : PySem.W.keepIn K (.ref f30) = true)
    {od31 an31 : Option Addr} {sl31 : Array (Option Value)} {oc31 kV31 dc31 pm31 cd31 ct31 : Value}
    (a31 : PySem.W.nsIn K mainGlobals "is_awake" = some (some (.ref f31))) (l31 : K.lookup f31 = some ⟨oc31, od31, .func (PySem.W.fnOf "is_awake" "is_awake" (defArgs s_is_awake) (defBody s_is_awake) (defScope s_is_awake) .none kV31 dc31 pm31 an31 cd31 ct31), sl31⟩) (c31 : PySem.W.codeIn K cd31 "is_awake" = true) (k31 : PySem.W.keepIn K (.ref f31) = true)
    {od32 an32 : Option Addr} {sl32 : Array (Option Value)} {oc32 kV32 dc32 pm32 cd32 ct32 : Value}
    (a32 : PySem.W.nsIn K mainGlobals "fault" = some (some (.ref f32))) (l32 : K.lookup f32 = some ⟨oc32, od32, .func (PySem.W.fnOf "fault" "fault" (defArgs s_fault) (defBody s_fault) (defScope s_fault) .none kV32 dc32 pm32 an32 cd32 ct32), sl32⟩) (c32 : PySem.W.codeIn K cd32 "fault" = true) (k32 : PySem.W.keepIn K (.ref f32) = true)
    {od33 an33 : Option Addr} {sl33 : Array (Option Value)} {oc33 kV33 dc33 pm33 cd33 ct33 : Value}
    (a33 : PySem.W.nsIn K mainGlobals "is_word" = some (some (.ref f33))) (l33 : K.lookup f33 = some ⟨oc33, od33, .func (PySem.W.fnOf "is_word" "is_word" (defArgs s_is_word) (defBody s_is_word) (defScope s_is_word) .none kV33 dc33 pm33 an33 cd33 ct33), sl33⟩) (c33 : PySem.W.codeIn K cd33 "is_word" = true) (k33 : PySem.W.keepIn K (.ref f33) = true)
    {od34 an34 : Option Addr} {sl34 : Array (Option Value)} {oc34 kV34 dc34 pm34 cd34 ct34 : Value}
    (a34 : PySem.W.nsIn K mainGlobals "is_thing" = some (some (.ref f34))) (l34 : K.lookup f34 = some ⟨oc34, od34, .func (PySem.W.fnOf "is_thing" "is_thing" (defArgs s_is_thing) (defBody s_is_thing) (defScope s_is_thing) .none kV34 dc34 pm34 an34 cd34 ct34), sl34⟩) (c34 : PySem.W.codeIn K cd34 "is_thing" = true) (k34 : PySem.W.keepIn K (.ref f34) = true)
    {od35 an35 : Option Addr} {sl35 : Array (Option Value)} {oc35 kV35 dc35 pm35 cd35 ct35 : Value}
    (a35 : PySem.W.nsIn K mainGlobals "are_things" = some (some (.ref f35))) (l35 : K.lookup f35 = some ⟨oc35, od35, .func (PySem.W.fnOf "are_things" "are_things" (defArgs s_are_things) (defBody s_are_things) (defScope s_are_things) .none kV35 dc35 pm35 an35 cd35 ct35), sl35⟩) (c35 : PySem.W.codeIn K cd35 "are_things" = true) (k35 : PySem.W.keepIn K (.ref f35) = true)
    {od36 an36 : Option Addr} {sl36 : Array (Option Value)} {oc36 kV36 dc36 pm36 cd36 ct36 : Value}
    (a36 : PySem.W.nsIn K mainGlobals "is_lend" = some (some (.ref f36))) (l36 : K.lookup f36 = some ⟨oc36, od36, .func (PySem.W.fnOf "is_lend" "is_lend" (defArgs s_is_lend) (defBody s_is_lend) (defScope s_is_lend) .none kV36 dc36 pm36 an36 cd36 ct36), sl36⟩) (c36 : PySem.W.codeIn K cd36 "is_lend" = true) (k36 : PySem.W.keepIn K (.ref f36) = true)
    {od37 an37 : Option Addr} {sl37 : Array (Option Value)} {oc37 kV37 dc37 pm37 cd37 ct37 : Value}
    (a37 : PySem.W.nsIn K mainGlobals "is_pick" = some (some (.ref f37))) (l37 : K.lookup f37 = some ⟨oc37, od37, .func (PySem.W.fnOf "is_pick" "is_pick" (defArgs s_is_pick) (defBody s_is_pick) (defScope s_is_pick) .none kV37 dc37 pm37 an37 cd37 ct37), sl37⟩) (c37 : PySem.W.codeIn K cd37 "is_pick" = true) (k37 : PySem.W.keepIn K (.ref f37) = true)
    {od38 an38 : Option Addr} {sl38 : Array (Option Value)} {oc38 kV38 dc38 pm38 cd38 ct38 : Value}
    (a38 : PySem.W.nsIn K mainGlobals "is_use" = some (some (.ref f38))) (l38 : K.lookup f38 = some ⟨oc38, od38, .func (PySem.W.fnOf "is_use" "is_use" (defArgs s_is_use) (defBody s_is_use) (defScope s_is_use) .none kV38 dc38 pm38 an38 cd38 ct38), sl38⟩) (c38 : PySem.W.codeIn K cd38 "is_use" = true) (k38 : PySem.W.keepIn K (.ref f38) = true)
    {od39 an39 : Option Addr} {sl39 : Array (Option Value)} {oc39 kV39 dc39 pm39 cd39 ct39 : Value}
    (a39 : PySem.W.nsIn K mainGlobals "is_row" = some (some (.ref f39))) (l39 : K.lookup f39 = some ⟨oc39, od39, .func (PySem.W.fnOf "is_row" "is_row" (defArgs s_is_row) (defBody s_is_row) (defScope s_is_row) .none kV39 dc39 pm39 an39 cd39 ct39), sl39⟩) (c39 : PySem.W.codeIn K cd39 "is_row" = true) (k39 : PySem.W.keepIn K (.ref f39) = true)
    {od40 an40 : Option Addr} {sl40 : Array (Option Value)} {oc40 kV40 dc40 pm40 cd40 ct40 : Value}
    (a40 : PySem.W.nsIn K mainGlobals "refuse_form" = some (some (.ref f40))) (l40 : K.lookup f40 = some ⟨oc40, od40, .func (PySem.W.fnOf "refuse_form" "refuse_form" (defArgs s_refuse_form) (defBody s_refuse_form) (defScope s_refuse_form) .none kV40 dc40 pm40 an40 cd40 ct40), sl40⟩) (c40 : PySem.W.codeIn K cd40 "refuse_form" = true) (k40 : PySem.W.keepIn K (.ref f40) = true)
    {od41 an41 : Option Addr} {sl41 : Array (Option Value)} {oc41 kV41 dc41 pm41 cd41 ct41 : Value}
    (a41 : PySem.W.nsIn K mainGlobals "refuse_block" = some (some (.ref f41))) (l41 : K.lookup f41 = some ⟨oc41, od41, .func (PySem.W.fnOf "refuse_block" "refuse_block" (defArgs s_refuse_block) (defBody s_refuse_block) (defScope s_refuse_block) .none kV41 dc41 pm41 an41 cd41 ct41), sl41⟩) (c41 : PySem.W.codeIn K cd41 "refuse_block" = true) (k41 : PySem.W.keepIn K (.ref f41) = true)
    {od42 an42 : Option Addr} {sl42 : Array (Option Value)} {oc42 kV42 dc42 pm42 cd42 ct42 : Value}
    (a42 : PySem.W.nsIn K mainGlobals "refuse_use" = some (some (.ref f42))) (l42 : K.lookup f42 = some ⟨oc42, od42, .func (PySem.W.fnOf "refuse_use" "refuse_use" (defArgs s_refuse_use) (defBody s_refuse_use) (defScope s_refuse_use) .none kV42 dc42 pm42 an42 cd42 ct42), sl42⟩) (c42 : PySem.W.codeIn K cd42 "refuse_use" = true) (k42 : PySem.W.keepIn K (.ref f42) = true)
    {od43 an43 : Option Addr} {sl43 : Array (Option Value)} {oc43 kV43 dc43 pm43 cd43 ct43 : Value}
    (a43 : PySem.W.nsIn K mainGlobals "refuse_naming" = some (some (.ref f43))) (l43 : K.lookup f43 = some ⟨oc43, od43, .func (PySem.W.fnOf "refuse_naming" "refuse_naming" (defArgs s_refuse_naming) (defBody s_refuse_naming) (defScope s_refuse_naming) .none kV43 dc43 pm43 an43 cd43 ct43), sl43⟩) (c43 : PySem.W.codeIn K cd43 "refuse_naming" = true) (k43 : PySem.W.keepIn K (.ref f43) = true)
    {od44 an44 : Option Addr} {sl44 : Array (Option Value)} {oc44 kV44 dc44 pm44 cd44 ct44 : Value}
    (a44 : PySem.W.nsIn K mainGlobals "bind" = some (some (.ref f44))) (l44 : K.lookup f44 = some ⟨oc44, od44, .func (PySem.W.fnOf "bind" "bind" (defArgs s_bind) (defBody s_bind) (defScope s_bind) .none kV44 dc44 pm44 an44 cd44 ct44), sl44⟩) (c44 : PySem.W.codeIn K cd44 "bind" = true) (k44 : PySem.W.keepIn K (.ref f44) = true)
    {od45 an45 : Option Addr} {sl45 : Array (Option Value)} {oc45 kV45 dc45 pm45 cd45 ct45 : Value}
    (a45 : PySem.W.nsIn K mainGlobals "free" = some (some (.ref f45))) (l45 : K.lookup f45 = some ⟨oc45, od45, .func (PySem.W.fnOf "free" "free" (defArgs s_free) (defBody s_free) (defScope s_free) .none kV45 dc45 pm45 an45 cd45 ct45), sl45⟩) (c45 : PySem.W.codeIn K cd45 "free" = true) (k45 : PySem.W.keepIn K (.ref f45) = true)
    {od46 an46 : Option Addr} {sl46 : Array (Option Value)} {oc46 kV46 dc46 pm46 cd46 ct46 : Value}
    (a46 : PySem.W.nsIn K mainGlobals "opens" = some (some (.ref f46))) (l46 : K.lookup f46 = some ⟨oc46, od46, .func (PySem.W.fnOf "opens" "opens" (defArgs s_opens) (defBody s_opens) (defScope s_opens) .none kV46 dc46 pm46 an46 cd46 ct46), sl46⟩) (c46 : PySem.W.codeIn K cd46 "opens" = true) (k46 : PySem.W.keepIn K (.ref f46) = true)
    {od47 an47 : Option Addr} {sl47 : Array (Option Value)} {oc47 kV47 dc47 pm47 cd47 ct47 : Value}
    (a47 : PySem.W.nsIn K mainGlobals "checked" = some (some (.ref f47))) (l47 : K.lookup f47 = some ⟨oc47, od47, .func (PySem.W.fnOf "checked" "checked" (defArgs s_checked) (defBody s_checked) (defScope s_checked) .none kV47 dc47 pm47 an47 cd47 ct47), sl47⟩) (c47 : PySem.W.codeIn K cd47 "checked" = true) (k47 : PySem.W.keepIn K (.ref f47) = true)
    {od48 an48 : Option Addr} {sl48 : Array (Option Value)} {oc48 kV48 dc48 pm48 cd48 ct48 : Value}
    (a48 : PySem.W.findIn K (.ref CB) "__init__" = some (some (.ref f48))) (l48 : K.lookup f48 = some ⟨oc48, od48, .func (PySem.W.fnOf "__init__" "Blocks.__init__" (defArgs s_Blocks_init) (defBody s_Blocks_init) (defScope s_Blocks_init) .none kV48 dc48 pm48 an48 cd48 ct48), sl48⟩) (c48 : PySem.W.codeIn K cd48 "Blocks.__init__" = true) (k48 : PySem.W.keepIn K (.ref f48) = true)
    {od49 an49 : Option Addr} {sl49 : Array (Option Value)} {oc49 kV49 dc49 pm49 cd49 ct49 : Value}
    (a49 : PySem.W.nsIn K mainGlobals "picked" = some (some (.ref f49))) (l49 : K.lookup f49 = some ⟨oc49, od49, .func (PySem.W.fnOf "picked" "picked" (defArgs s_picked) (defBody s_picked) (defScope s_picked) .none kV49 dc49 pm49 an49 cd49 ct49), sl49⟩) (c49 : PySem.W.codeIn K cd49 "picked" = true) (k49 : PySem.W.keepIn K (.ref f49) = true)
    {od50 an50 : Option Addr} {sl50 : Array (Option Value)} {oc50 kV50 dc50 pm50 cd50 ct50 : Value}
    (a50 : PySem.W.nsIn K mainGlobals "lent" = some (some (.ref f50))) (l50 : K.lookup f50 = some ⟨oc50, od50, .func (PySem.W.fnOf "lent" "lent" (defArgs s_lent) (defBody s_lent) (defScope s_lent) .none kV50 dc50 pm50 an50 cd50 ct50), sl50⟩) (c50 : PySem.W.codeIn K cd50 "lent" = true) (k50 : PySem.W.keepIn K (.ref f50) = true)
    {od51 an51 : Option Addr} {sl51 : Array (Option Value)} {oc51 kV51 dc51 pm51 cd51 ct51 : Value}
    (a51 : PySem.W.nsIn K mainGlobals "given_back" = some (some (.ref f51))) (l51 : K.lookup f51 = some ⟨oc51, od51, .func (PySem.W.fnOf "given_back" "given_back" (defArgs s_given_back) (defBody s_given_back) (defScope s_given_back) .none kV51 dc51 pm51 an51 cd51 ct51), sl51⟩) (c51 : PySem.W.codeIn K cd51 "given_back" = true) (k51 : PySem.W.keepIn K (.ref f51) = true)
    {od52 an52 : Option Addr} {sl52 : Array (Option Value)} {oc52 kV52 dc52 pm52 cd52 ct52 : Value}
    (a52 : PySem.W.nsIn K mainGlobals "ended" = some (some (.ref f52))) (l52 : K.lookup f52 = some ⟨oc52, od52, .func (PySem.W.fnOf "ended" "ended" (defArgs s_ended) (defBody s_ended) (defScope s_ended) .none kV52 dc52 pm52 an52 cd52 ct52), sl52⟩) (c52 : PySem.W.codeIn K cd52 "ended" = true) (k52 : PySem.W.keepIn K (.ref f52) = true)
    {od53 an53 : Option Addr} {sl53 : Array (Option Value)} {oc53 kV53 dc53 pm53 cd53 ct53 : Value}
    (a53 : PySem.W.nsIn K mainGlobals "onward" = some (some (.ref f53))) (l53 : K.lookup f53 = some ⟨oc53, od53, .func (PySem.W.fnOf "onward" "onward" (defArgs s_onward) (defBody s_onward) (defScope s_onward) .none kV53 dc53 pm53 an53 cd53 ct53), sl53⟩) (c53 : PySem.W.codeIn K cd53 "onward" = true) (k53 : PySem.W.keepIn K (.ref f53) = true)
    {od54 an54 : Option Addr} {sl54 : Array (Option Value)} {oc54 kV54 dc54 pm54 cd54 ct54 : Value}
    (a54 : PySem.W.nsIn K mainGlobals "chooses" = some (some (.ref f54))) (l54 : K.lookup f54 = some ⟨oc54, od54, .func (PySem.W.fnOf "chooses" "chooses" (defArgs s_chooses) (defBody s_chooses) (defScope s_chooses) .none kV54 dc54 pm54 an54 cd54 ct54), sl54⟩) (c54 : PySem.W.codeIn K cd54 "chooses" = true) (k54 : PySem.W.keepIn K (.ref f54) = true)
    {od55 an55 : Option Addr} {sl55 : Array (Option Value)} {oc55 kV55 dc55 pm55 cd55 ct55 : Value}
    (a55 : PySem.W.nsIn K mainGlobals "followed" = some (some (.ref f55))) (l55 : K.lookup f55 = some ⟨oc55, od55, .func (PySem.W.fnOf "followed" "followed" (defArgs s_followed) (defBody s_followed) (defScope s_followed) .none kV55 dc55 pm55 an55 cd55 ct55), sl55⟩) (c55 : PySem.W.codeIn K cd55 "followed" = true) (k55 : PySem.W.keepIn K (.ref f55) = true)
    {od56 an56 : Option Addr} {sl56 : Array (Option Value)} {oc56 kV56 dc56 pm56 cd56 ct56 : Value}
    (a56 : PySem.W.nsIn K mainGlobals "first_fault" = some (some (.ref f56))) (l56 : K.lookup f56 = some ⟨oc56, od56, .func (PySem.W.fnOf "first_fault" "first_fault" (defArgs s_first_fault) (defBody s_first_fault) (defScope s_first_fault) .none kV56 dc56 pm56 an56 cd56 ct56), sl56⟩) (c56 : PySem.W.codeIn K cd56 "first_fault" = true) (k56 : PySem.W.keepIn K (.ref f56) = true)
    {od57 an57 : Option Addr} {sl57 : Array (Option Value)} {oc57 kV57 dc57 pm57 cd57 ct57 : Value}
    (a57 : PySem.W.nsIn K mainGlobals "choices_to" = some (some (.ref f57))) (l57 : K.lookup f57 = some ⟨oc57, od57, .func (PySem.W.fnOf "choices_to" "choices_to" (defArgs s_choices_to) (defBody s_choices_to) (defScope s_choices_to) .none kV57 dc57 pm57 an57 cd57 ct57), sl57⟩) (c57 : PySem.W.codeIn K cd57 "choices_to" = true) (k57 : PySem.W.keepIn K (.ref f57) = true)
    {od58 an58 : Option Addr} {sl58 : Array (Option Value)} {oc58 kV58 dc58 pm58 cd58 ct58 : Value}
    (a58 : PySem.W.nsIn K mainGlobals "looked" = some (some (.ref f58))) (l58 : K.lookup f58 = some ⟨oc58, od58, .func (PySem.W.fnOf "looked" "looked" (defArgs s_looked) (defBody s_looked) (defScope s_looked) .none kV58 dc58 pm58 an58 cd58 ct58), sl58⟩) (c58 : PySem.W.codeIn K cd58 "looked" = true) (k58 : PySem.W.keepIn K (.ref f58) = true)
    {od59 an59 : Option Addr} {sl59 : Array (Option Value)} {oc59 kV59 dc59 pm59 cd59 ct59 : Value}
    (a59 : PySem.W.nsIn K mainGlobals "law" = some (some (.ref f59))) (l59 : K.lookup f59 = some ⟨oc59, od59, .func (PySem.W.fnOf "law" "law" (defArgs s_law) (defBody s_law) (defScope s_law) .none kV59 dc59 pm59 an59 cd59 ct59), sl59⟩) (c59 : PySem.W.codeIn K cd59 "law" = true) (k59 : PySem.W.keepIn K (.ref f59) = true)
    {C29 P29 : Addr} {ce29 : Value} {dd29 : Option Addr} {us29 : Array Value} {ss29 : Array (Option Value)} (q29 : cd29 = .ref C29) (v29 : K.lookup C29 = some ⟨ce29, dd29, .fields us29, ss29⟩) (w29 : us29[11]? = some (.ref P29)) (e29 : PySem.W.codeHdIn [(C29, ⟨ce29, dd29, .fields us29, ss29⟩)] C29 P29 = true) (n29 : K.lookup P29 = none)
    {C30 P30 : Addr} {ce30 : Value} {dd30 : Option Addr} {us30 : Array Value} {ss30 : Array (Option Value)} (q30 : cd30 = .ref C30) (v30 : K.lookup C30 = some ⟨ce30, dd30, .fields us30, ss30⟩) (w30 : us30[11]? = some (.ref P30)) (e30 : PySem.W.codeHdIn [(C30, ⟨ce30, dd30, .fields us30, ss30⟩)] C30 P30 = true) (n30 : K.lookup P30 = none)
    {C31 P31 : Addr} {ce31 : Value} {dd31 : Option Addr} {us31 : Array Value} {ss31 : Array (Option Value)} (q31 : cd31 = .ref C31) (v31 : K.lookup C31 = some ⟨ce31, dd31, .fields us31, ss31⟩) (w31 : us31[11]? = some (.ref P31)) (e31 : PySem.W.codeHdIn [(C31, ⟨ce31, dd31, .fields us31, ss31⟩)] C31 P31 = true) (n31 : K.lookup P31 = none)
    {C33 P33 : Addr} {ce33 : Value} {dd33 : Option Addr} {us33 : Array Value} {ss33 : Array (Option Value)} (q33 : cd33 = .ref C33) (v33 : K.lookup C33 = some ⟨ce33, dd33, .fields us33, ss33⟩) (w33 : us33[11]? = some (.ref P33)) (e33 : PySem.W.codeHdIn [(C33, ⟨ce33, dd33, .fields us33, ss33⟩)] C33 P33 = true) (n33 : K.lookup P33 = none)
    {C35 P35 : Addr} {ce35 : Value} {dd35 : Option Addr} {us35 : Array Value} {ss35 : Array (Option Value)} (q35 : cd35 = .ref C35) (v35 : K.lookup C35 = some ⟨ce35, dd35, .fields us35, ss35⟩) (w35 : us35[11]? = some (.ref P35)) (e35 : PySem.W.codeHdIn [(C35, ⟨ce35, dd35, .fields us35, ss35⟩)] C35 P35 = true) (n35 : K.lookup P35 = none)
    {C56 P56 : Addr} {ce56 : Value} {dd56 : Option Addr} {us56 : Array Value} {ss56 : Array (Option Value)} (q56 : cd56 = .ref C56) (v56 : K.lookup C56 = some ⟨ce56, dd56, .fields us56, ss56⟩) (w56 : us56[11]? = some (.ref P56)) (e56 : PySem.W.codeHdIn [(C56, ⟨ce56, dd56, .fields us56, ss56⟩)] C56 P56 = true) (n56 : K.lookup P56 = none)
    {oO : Obj} {iO : Array Value} {nO : Nat} (aO : PySem.W.nsIn K mainGlobals "OPENERS" = some (some (.ref fO))) (lO : K.lookup fO = some oO) (tO : oO.cls = .type "tuple") (dO : oO.data = .seq iO nO) (zO : iO.size ≤ sizeLine) (vO : Vals [.str "lend", .str "pick", .str "either", .str "again"] iO.toList)
    {oF : Obj} {iF : Array Value} {nF : Nat} (aF : PySem.W.nsIn K mainGlobals "FAULTS" = some (some (.ref fF))) (lF : K.lookup fF = some oF) (tF : oF.cls = .type "tuple") (dF : oF.data = .seq iF nF) (zF : iF.size ≤ sizeLine) (vF : Vals [.str "beside", .str "empty", .str "asleep"] iF.toList) (yF : oF.dict = none)
    {oL : Obj} {iL : Array Value} {nL : Nat} (aL : PySem.W.nsIn K mainGlobals "LOOKS" = some (some (.ref fL))) (lL : K.lookup fL = some oL) (tL : oL.cls = .type "tuple") (dL : oL.data = .seq iL nL) (zL : iL.size ≤ sizeLine) (vL : Vals [.str "look", .str "change"] iL.toList)
    {oI : Obj} {iI : Array Value} {nI : Nat} (aI : PySem.W.nsIn K mainGlobals "KINDS" = some (some (.ref fI))) (lI : K.lookup fI = some oI) (tI : oI.cls = .type "tuple") (dI : oI.data = .seq iI nI) (zI : iI.size ≤ sizeLine) (vI : Vals [.str "read", .str "write"] iI.toList)
    {oR : Obj} {iR : Array Value} {nR : Nat} (aR : PySem.W.nsIn K mainGlobals "BARE_ROWS" = some (some (.ref fR))) (lR : K.lookup fR = some oR) (tR : oR.cls = .type "tuple") (dR : oR.data = .seq iR nR) (zR : iR.size ≤ sizeLine) (vR : Vals [.str "either", .str "or", .str "again", .str "end"] iR.toList)
    {oU : Obj} {iU : Array Value} {nU : Nat} (aU : PySem.W.nsIn K mainGlobals "USES" = some (some (.ref fU))) (lU : K.lookup fU = some oU) (tU : oU.cls = .type "tuple") (dU : oU.data = .seq iU nU) (zU : iU.size ≤ sizeLine) (vU : Vals [.str "back", .str "look", .str "change"] iU.toList)
    {oN : Obj} {iN : Array Value} {nN : Nat} (aN : PySem.W.nsIn K mainGlobals "NAMERS" = some (some (.ref fN))) (lN : K.lookup fN = some oN) (tN : oN.cls = .type "tuple") (dN : oN.data = .seq iN nN) (zN : iN.size ≤ sizeLine) (vN : Vals [.str "lend", .str "pick"] iN.toList)
    {oH : Obj} {iH : Array Value} {nH : Nat} (aH : PySem.W.nsIn K mainGlobals "CHOOSERS" = some (some (.ref fH))) (lH : K.lookup fH = some oH) (tH : oH.cls = .type "tuple") (dH : oH.data = .seq iH nH) (zH : iH.size ≤ sizeLine) (vH : Vals [.str "pick", .str "either", .str "again"] iH.toList)
    {tE : Tok} (aE : PySem.W.nsIn K mainGlobals "LETTERS" = some (some (.str "abcdefghijklmnopqrstuvwxyz" tE)))
    {tW : Tok} (aW : PySem.W.nsIn K mainGlobals "LONGEST_WORD" = some (some (.int 12 tW)))
    {tG : Tok} (aG : PySem.W.nsIn K mainGlobals "GREATEST_THING" = some (some (.int 999999999 tG)))
    {tM : Tok} (aM : PySem.W.nsIn K mainGlobals "MOST_THINGS" = some (some (.int 5 tM)))
    (j29 : P29 ≠ P56) (j30 : P30 ≠ P56) (j31 : P31 ≠ P56) (j33 : P33 ≠ P56) (j35 : P35 ≠ P56)
    (aCB : PySem.W.nsIn K mainGlobals "Blocks" = some (some (.ref CB))) (fnCB : PySem.W.isFn K (.ref f48) = true) (pgCB : PySem.W.plainGet K CB Str.empty = true) (hdCB : PySem.W.hasDictIn K CB = true) (poCB : PySem.W.plainOver K CB = true) (saCB : PySem.W.findIn K (.ref CB) "__setattr__" = some (some (.builtin "object.__setattr__"))) (mkCB : PySem.W.makesIn K CB = true) (kcCB : PySem.W.keepIn K (.ref CB) = true) (nCB0 : PySem.W.findIn K (.ref CB) "around" = some none) (nCB1 : PySem.W.findIn K (.ref CB) "closing" = some none) (nCB2 : PySem.W.findIn K (.ref CB) "firsts" = some none)
    (z_len : PySem.W.nsIn K mainGlobals "len" = some none)
    (z_range : PySem.W.nsIn K mainGlobals "range" = some none)
    (z_enumerate : PySem.W.nsIn K mainGlobals "enumerate" = some none)
    (z_zip : PySem.W.nsIn K mainGlobals "zip" = some none)
    (z_list : PySem.W.nsIn K mainGlobals "list" = some none)
    (z_tuple : PySem.W.nsIn K mainGlobals "tuple" = some none)
    (z_isinstance : PySem.W.nsIn K mainGlobals "isinstance" = some none)
    (z_all : PySem.W.nsIn K mainGlobals "all" = some none)
    (z_int : PySem.W.nsIn K mainGlobals "int" = some none)
    (z_bool : PySem.W.nsIn K mainGlobals "bool" = some none)
    (z_str : PySem.W.nsIn K mainGlobals "str" = some none)
    (z_sum : PySem.W.nsIn K mainGlobals "sum" = some none)
    (z_reversed : PySem.W.nsIn K mainGlobals "reversed" = some none)
    (z_any : PySem.W.nsIn K mainGlobals "any" = some none)
    (z_min : PySem.W.nsIn K mainGlobals "min" = some none)
    : GXL.LawX l w K 9 63 "_law_script" ["beside", "is_gone", "is_awake", "is_word", "are_things", "first_fault"] mg fa := by
  have e := hfa.symm.trans (PySem.W.mg_of X G a59)
  cases e
  have D1 : Dn K mg "_law_cell_at" s_l_cell_at ["_law_script", "_law_k"] := dn_mk X G a1 l1 c1 k1 fun _ _ _ _ _ _ us hl => match us, hl with | [_, _], _ => rfl
  have D2 : Dn K mg "_law_word" s_l_word ["_law_one", "_law_two", "_law_deep", "_law_draw_here"] := dn_mk X G a2 l2 c2 k2 fun _ _ _ _ _ _ us hl => match us, hl with | [_, _, _, _], _ => rfl
  have D3 : Dn K mg "_law_draw" s_l_draw ["_law_script"] := dn_mk X G a3 l3 c3 k3 fun _ _ _ _ _ _ us hl => match us, hl with | [_], _ => rfl
  have D4 : Dn K mg "_law_thing" s_l_thing ["_law_cell", "_law_base"] := dn_mk X G a4 l4 c4 k4 fun _ _ _ _ _ _ us hl => match us, hl with | [_, _], _ => rfl
  have D5 : Dn K mg "_law_lend" s_l_lend ["_law_one", "_law_two", "_law_named", "_law_draw_here"] := dn_mk X G a5 l5 c5 k5 fun _ _ _ _ _ _ us hl => match us, hl with | [_, _, _, _], _ => rfl
  have D6 : Dn K mg "_law_deed" s_l_deed ["_law_one", "_law_two", "_law_hands_here"] := dn_mk X G a6 l6 c6 k6 fun _ _ _ _ _ _ us hl => match us, hl with | [_, _, _], _ => rfl
  have D7 : Dn K mg "_law_row" s_l_row ["_law_way", "_law_one", "_law_two", "_law_opened", "_law_draw_here"] := dn_mk X G a7 l7 c7 k7 fun _ _ _ _ _ _ us hl => match us, hl with | [_, _, _, _, _], _ => rfl
  have D8 : Dn K mg "_law_hands" s_l_hands ["_law_one", "_law_two", "_law_deep", "_law_draw_here"] := dn_mk X G a8 l8 c8 k8 fun _ _ _ _ _ _ us hl => match us, hl with | [_, _, _, _], _ => rfl
  have D9 : Dn K mg "_law_first_four" s_l_first_four ["_law_way", "_law_one", "_law_two", "_law_names", "_law_thing_here"] := dn_mk X G a9 l9 c9 k9 fun _ _ _ _ _ _ us hl => match us, hl with | [_, _, _, _, _], _ => rfl
  have D10 : Dn K mg "_law_gadget" s_l_gadget ["_law_one", "_law_two", "_law_deep", "_law_draw_here"] := dn_mk X G a10 l10 c10 k10 fun _ _ _ _ _ _ us hl => match us, hl with | [_, _, _, _], _ => rfl
  have D11 : Dn K mg "_law_sheet" s_l_sheet ["_law_cells", "_law_draw_here", "_law_most", "_law_odd"] := dn_mk X G a11 l11 c11 k11 fun _ _ _ _ _ _ us hl => match us, hl with | [_, _, _, _], _ => rfl
  have D12 : Dn K mg "_law_drawn" s_l_drawn ["_law_script", "_law_most"] := dn_mk X G a12 l12 c12 k12 fun _ _ _ _ _ _ us hl => match us, hl with | [_, _], _ => rfl
  have D13 : Dn K mg "_law_homes" s_l_homes ["_law_rows"] := dn_mk X G a13 l13 c13 k13 fun _ _ _ _ _ _ us hl => match us, hl with | [_], _ => rfl
  have D14 : Dn K mg "_law_last" s_l_last ["_law_rows", "_law_home", "_law_at"] := dn_mk X G a14 l14 c14 k14 fun _ _ _ _ _ _ us hl => match us, hl with | [_, _, _], _ => rfl
  have D15 : Dn K mg "_law_starts" s_l_starts ["_law_rows", "_law_home", "_law_at"] := dn_mk X G a15 l15 c15 k15 fun _ _ _ _ _ _ us hl => match us, hl with | [_, _, _], _ => rfl
  have D16 : Dn K mg "_law_lent" s_l_lent ["_law_held", "_law_row_here"] := dn_mk X G a16 l16 c16 k16 fun _ _ _ _ _ _ us hl => match us, hl with | [_, _], _ => rfl
  have D17 : Dn K mg "_law_back" s_l_back ["_law_held", "_law_word_here"] := dn_mk X G a17 l17 c17 k17 fun _ _ _ _ _ _ us hl => match us, hl with | [_, _], _ => rfl
  have D18 : Dn K mg "_law_step" s_l_step ["_law_rows", "_law_home", "_law_standing", "_law_choice"] := dn_mk X G a18 l18 c18 k18 fun _ _ _ _ _ _ us hl => match us, hl with | [_, _, _, _], _ => rfl
  have D19 : Dn K mg "_law_awake" s_l_awake ["_law_held"] := dn_mk X G a19 l19 c19 k19 fun _ _ _ _ _ _ us hl => match us, hl with | [_], _ => rfl
  have D20 : Dn K mg "_law_fault" s_l_fault ["_law_row_here", "_law_held"] := dn_mk X G a20 l20 c20 k20 fun _ _ _ _ _ _ us hl => match us, hl with | [_, _], _ => rfl
  have D21 : Dn K mg "_law_some_ways" s_l_some_ways ["_law_rows", "_law_home", "_law_at"] := dn_mk X G a21 l21 c21 k21 fun _ _ _ _ _ _ us hl => match us, hl with | [_, _, _], _ => rfl
  have D22 : Dn K mg "_law_whole" s_l_whole ["_law_found"] := dn_mk X G a22 l22 c22 k22 fun _ _ _ _ _ _ us hl => match us, hl with | [_], _ => rfl
  have D23 : Dn K mg "_law_told" s_l_told ["_law_told_here"] := dn_mk X G a23 l23 c23 k23 fun _ _ _ _ _ _ us hl => match us, hl with | [_], _ => rfl
  have D24 : Dn K mg "_law_long" s_l_long ["_law_script", "_law_rows"] := dn_mk X G a24 l24 c24 k24 fun _ _ _ _ _ _ us hl => match us, hl with | [_, _], _ => rfl
  have D25 : Dn K mg "_law_run" s_l_run ["_law_rows", "_law_choices"] := dn_mk X G a25 l25 c25 k25 fun _ _ _ _ _ _ us hl => match us, hl with | [_, _], _ => rfl
  have D26 : Dn K mg "_law_few" s_l_few ["_law_rows", "_law_most"] := dn_mk X G a26 l26 c26 k26 fun _ _ _ _ _ _ us hl => match us, hl with | [_, _], _ => rfl
  have D27 : Dn K mg "awake" s_awake ["held"] := dn_mk X G a27 l27 c27 k27 fun _ _ _ _ _ _ us hl => match us, hl with | [_], _ => rfl
  have D28 : Dn K mg "clash" s_clash ["one", "other"] := dn_mk X G a28 l28 c28 k28 fun _ _ _ _ _ _ us hl => match us, hl with | [_, _], _ => rfl
  have D29 : DnC K mg "beside" s_beside ["held"] C29 := dnC_mk X G a29 l29 c29 k29 q29 fun _ _ _ _ _ _ us hl => match us, hl with | [_], _ => rfl
  have D30 : DnC K mg "is_gone" s_is_gone ["held", "word"] C30 := dnC_mk X G a30 l30 c30 k30 q30 fun _ _ _ _ _ _ us hl => match us, hl with | [_, _], _ => rfl
  have D31 : DnC K mg "is_awake" s_is_awake ["held", "word"] C31 := dnC_mk X G a31 l31 c31 k31 q31 fun _ _ _ _ _ _ us hl => match us, hl with | [_, _], _ => rfl
  have D32 : Dn K mg "fault" s_fault ["rows", "standing"] := dn_mk X G a32 l32 c32 k32 fun _ _ _ _ _ _ us hl => match us, hl with | [_, _], _ => rfl
  have D33 : DnC K mg "is_word" s_is_word ["text"] C33 := dnC_mk X G a33 l33 c33 k33 q33 fun _ _ _ _ _ _ us hl => match us, hl with | [_], _ => rfl
  have D34 : Dn K mg "is_thing" s_is_thing ["number"] := dn_mk X G a34 l34 c34 k34 fun _ _ _ _ _ _ us hl => match us, hl with | [_], _ => rfl
  have D35 : DnC K mg "are_things" s_are_things ["things"] C35 := dnC_mk X G a35 l35 c35 k35 q35 fun _ _ _ _ _ _ us hl => match us, hl with | [_], _ => rfl
  have D36 : Dn K mg "is_lend" s_is_lend ["rest"] := dn_mk X G a36 l36 c36 k36 fun _ _ _ _ _ _ us hl => match us, hl with | [_], _ => rfl
  have D37 : Dn K mg "is_pick" s_is_pick ["rest"] := dn_mk X G a37 l37 c37 k37 fun _ _ _ _ _ _ us hl => match us, hl with | [_], _ => rfl
  have D38 : Dn K mg "is_use" s_is_use ["rest"] := dn_mk X G a38 l38 c38 k38 fun _ _ _ _ _ _ us hl => match us, hl with | [_], _ => rfl
  have D39 : Dn K mg "is_row" s_is_row ["row"] := dn_mk X G a39 l39 c39 k39 fun _ _ _ _ _ _ us hl => match us, hl with | [_], _ => rfl
  have D40 : Dn K mg "refuse_form" s_refuse_form ["row", "at"] := dn_mk X G a40 l40 c40 k40 fun _ _ _ _ _ _ us hl => match us, hl with | [_, _], _ => rfl
  have D41 : Dn K mg "refuse_block" s_refuse_block ["rows", "opened", "at"] := dn_mk X G a41 l41 c41 k41 fun _ _ _ _ _ _ us hl => match us, hl with | [_, _, _], _ => rfl
  have D42 : Dn K mg "refuse_use" s_refuse_use ["meant", "row", "at"] := dn_mk X G a42 l42 c42 k42 fun _ _ _ _ _ _ us hl => match us, hl with | [_, _, _], _ => rfl
  have D43 : Dn K mg "refuse_naming" s_refuse_naming ["meant", "row", "at"] := dn_mk X G a43 l43 c43 k43 fun _ _ _ _ _ _ us hl => match us, hl with | [_, _, _], _ => rfl
  have D44 : Dn K mg "bind" s_bind ["meant", "row"] := dn_mk X G a44 l44 c44 k44 fun _ _ _ _ _ _ us hl => match us, hl with | [_, _], _ => rfl
  have D45 : Dn K mg "free" s_free ["meant", "row"] := dn_mk X G a45 l45 c45 k45 fun _ _ _ _ _ _ us hl => match us, hl with | [_, _], _ => rfl
  have D46 : Dn K mg "opens" s_opens ["row"] := dn_mk X G a46 l46 c46 k46 fun _ _ _ _ _ _ us hl => match us, hl with | [_], _ => rfl
  have D47 : Dn K mg "checked" s_checked ["rows"] := dn_mk X G a47 l47 c47 k47 fun _ _ _ _ _ _ us hl => match us, hl with | [_], _ => rfl
  have F48 := fun_mk (st := s_Blocks_init) l48 c48 k48
  have b48 := F48.binds (ps := ["self", "rows"]) fun _ _ _ _ _ _ us hl => match us, hl with | [_, _], _ => rfl
  have D49 : Dn K mg "picked" s_picked ["row", "thing"] := dn_mk X G a49 l49 c49 k49 fun _ _ _ _ _ _ us hl => match us, hl with | [_, _], _ => rfl
  have D50 : Dn K mg "lent" s_lent ["row", "held"] := dn_mk X G a50 l50 c50 k50 fun _ _ _ _ _ _ us hl => match us, hl with | [_, _], _ => rfl
  have D51 : Dn K mg "given_back" s_given_back ["held", "hand"] := dn_mk X G a51 l51 c51 k51 fun _ _ _ _ _ _ us hl => match us, hl with | [_, _], _ => rfl
  have D52 : Dn K mg "ended" s_ended ["rows", "blocks", "standing"] := dn_mk X G a52 l52 c52 k52 fun _ _ _ _ _ _ us hl => match us, hl with | [_, _, _], _ => rfl
  have D53 : Dn K mg "onward" s_onward ["rows", "blocks", "standing"] := dn_mk X G a53 l53 c53 k53 fun _ _ _ _ _ _ us hl => match us, hl with | [_, _, _], _ => rfl
  have D54 : Dn K mg "chooses" s_chooses ["row"] := dn_mk X G a54 l54 c54 k54 fun _ _ _ _ _ _ us hl => match us, hl with | [_], _ => rfl
  have D55 : Dn K mg "followed" s_followed ["rows"] := dn_mk X G a55 l55 c55 k55 fun _ _ _ _ _ _ us hl => match us, hl with | [_], _ => rfl
  have D56 : DnC K mg "first_fault" s_first_fault ["rows", "came"] C56 := dnC_mk X G a56 l56 c56 k56 q56 fun _ _ _ _ _ _ us hl => match us, hl with | [_, _], _ => rfl
  have D57 : Dn K mg "choices_to" s_choices_to ["rows", "came", "standing"] := dn_mk X G a57 l57 c57 k57 fun _ _ _ _ _ _ us hl => match us, hl with | [_, _, _], _ => rfl
  have D58 : Dn K mg "looked" s_looked ["rows"] := dn_mk X G a58 l58 c58 k58 fun _ _ _ _ _ _ us hl => match us, hl with | [_], _ => rfl
  have T : Blt mg := ⟨PySem.W.mg_none_of X G z_len, PySem.W.mg_none_of X G z_range, PySem.W.mg_none_of X G z_enumerate, PySem.W.mg_none_of X G z_zip, PySem.W.mg_none_of X G z_list, PySem.W.mg_none_of X G z_tuple, PySem.W.mg_none_of X G z_isinstance, PySem.W.mg_none_of X G z_all, PySem.W.mg_none_of X G z_int, PySem.W.mg_none_of X G z_bool, PySem.W.mg_none_of X G z_str, PySem.W.mg_none_of X G z_sum, PySem.W.mg_none_of X G z_reversed⟩
  have gO : mg "OPENERS" = some (.ref fO) := PySem.W.mg_of X G aO
  have hO : ∀ H : Hp, SqT K H fO [.str "lend", .str "pick", .str "either", .str "again"] := fun H => .inr ⟨oO, iO, nO, lO, tO, dO, zO, vO⟩
  have gF : mg "FAULTS" = some (.ref fF) := PySem.W.mg_of X G aF
  have hF : ∀ H : Hp, SqT K H fF [.str "beside", .str "empty", .str "asleep"] := fun H => .inr ⟨oF, iF, nF, lF, tF, dF, zF, vF⟩
  have hFD : ∃ o, K.lookup fF = some o ∧ o.cls = .type "tuple" ∧ o.dict = none := ⟨oF, lF, tF, yF⟩
  have gL : mg "LOOKS" = some (.ref fL) := PySem.W.mg_of X G aL
  have hL : ∀ H : Hp, SqT K H fL [.str "look", .str "change"] := fun H => .inr ⟨oL, iL, nL, lL, tL, dL, zL, vL⟩
  have gI : mg "KINDS" = some (.ref fI) := PySem.W.mg_of X G aI
  have hI : ∀ H : Hp, SqT K H fI [.str "read", .str "write"] := fun H => .inr ⟨oI, iI, nI, lI, tI, dI, zI, vI⟩
  have gR : mg "BARE_ROWS" = some (.ref fR) := PySem.W.mg_of X G aR
  have hR : ∀ H : Hp, SqT K H fR [.str "either", .str "or", .str "again", .str "end"] := fun H => .inr ⟨oR, iR, nR, lR, tR, dR, zR, vR⟩
  have gU : mg "USES" = some (.ref fU) := PySem.W.mg_of X G aU
  have hU : ∀ H : Hp, SqT K H fU [.str "back", .str "look", .str "change"] := fun H => .inr ⟨oU, iU, nU, lU, tU, dU, zU, vU⟩
  have gN : mg "NAMERS" = some (.ref fN) := PySem.W.mg_of X G aN
  have hN : ∀ H : Hp, SqT K H fN [.str "lend", .str "pick"] := fun H => .inr ⟨oN, iN, nN, lN, tN, dN, zN, vN⟩
  have gH : mg "CHOOSERS" = some (.ref fH) := PySem.W.mg_of X G aH
  have hH : ∀ H : Hp, SqT K H fH [.str "pick", .str "either", .str "again"] := fun H => .inr ⟨oH, iH, nH, lH, tH, dH, zH, vH⟩
  have gE : mg "LETTERS" = some (.str "abcdefghijklmnopqrstuvwxyz" tE) := PySem.W.mg_of X G aE
  have gW : mg "LONGEST_WORD" = some (.int 12 tW) := PySem.W.mg_of X G aW
  have gG : mg "GREATEST_THING" = some (.int 999999999 tG) := PySem.W.mg_of X G aG
  have gM : mg "MOST_THINGS" = some (.int 5 tM) := PySem.W.mg_of X G aM
  have BCB : BlkC K CB := ⟨⟨pgCB, hdCB, poCB, saCB⟩, nCB0, nCB1, nCB2⟩
  have hany : mg "any" = none := PySem.W.mg_none_of X G z_any
  have hmin : mg "min" = none := PySem.W.mg_none_of X G z_min
  have tabs : ∀ p ∈ ([(C29, P29), (C30, P30), (C31, P31), (C33, P33), (C35, P35)] ++ [(C56, P56)] : List (Addr × Addr)), ∃ d ∈ (["beside", "is_gone", "is_awake", "is_word", "are_things", "first_fault"] : List Str), GX.TabOf K mg d p := by
    intro p hp
    simp only [List.mem_append, List.mem_cons, List.not_mem_nil, or_false] at hp
    rcases hp with (rfl | rfl | rfl | rfl | rfl) | rfl
    · exact ⟨"beside", by simp, ⟨f29, _, _, PySem.W.mg_of X G a29, l29, rfl, q29⟩, GX.codeHd_lk v29 e29, n29⟩
    · exact ⟨"is_gone", by simp, ⟨f30, _, _, PySem.W.mg_of X G a30, l30, rfl, q30⟩, GX.codeHd_lk v30 e30, n30⟩
    · exact ⟨"is_awake", by simp, ⟨f31, _, _, PySem.W.mg_of X G a31, l31, rfl, q31⟩, GX.codeHd_lk v31 e31, n31⟩
    · exact ⟨"is_word", by simp, ⟨f33, _, _, PySem.W.mg_of X G a33, l33, rfl, q33⟩, GX.codeHd_lk v33 e33, n33⟩
    · exact ⟨"are_things", by simp, ⟨f35, _, _, PySem.W.mg_of X G a35, l35, rfl, q35⟩, GX.codeHd_lk v35 e35, n35⟩
    · exact ⟨"first_fault", by simp, ⟨f56, _, _, PySem.W.mg_of X G a56, l56, rfl, q56⟩, GX.codeHd_lk v56 e56, n56⟩
  have dj : ∀ p ∈ ([(C29, P29), (C30, P30), (C31, P31), (C33, P33), (C35, P35)] : List (Addr × Addr)), p.2 ∉ ([(C56, P56)] : List (Addr × Addr)).map (·.2) := by
    intro p hp hm
    simp only [List.map_cons, List.map_nil, List.mem_cons, List.not_mem_nil, or_false] at hp hm
    rcases hp with rfl | rfl | rfl | rfl | rfl
    · exact j29 hm
    · exact j30 hm
    · exact j31 hm
    · exact j33 hm
    · exact j35 hm
  refine ⟨PySem.W.fnOf "law" "law" (defArgs s_law) (defBody s_law) (defScope s_law) .none kV59 dc59 pm59 an59 cd59 ct59, [(C29, P29), (C30, P30), (C31, P31), (C33, P33), (C35, P35)], [(C56, P56)], spLaw K P33 P35 P56 [(C29, P29), (C30, P30), (C31, P31)], dj, tabs, fun s v => .of_eq rfl, fun H a ns hl hb hT hU hS => ⟨a, ns, rfl, hS, hl, hT (C33, P33) (by simp), hT (C35, P35) (by simp), fun p hp => hT p (by simp only [List.mem_cons, List.not_mem_nil, or_false] at hp ⊢; rcases hp with rfl | rfl | rfl <;> simp), LamX.TabS.nil (hU (C56, P56) (by simp)), fun H' e _ => ⟨rfl, e⟩⟩, fun base _ _ TB => ?_⟩
  have TB29 := TB (C29, P29) (by simp)
  have TB30 := TB (C30, P30) (by simp)
  have TB31 := TB (C31, P31) (by simp)
  have TB33 := TB (C33, P33) (by simp)
  have TB35 := TB (C35, P35) (by simp)
  have TB56 : LamX.TabB base mg C56 P56 := (fun t => ⟨t.code, t.bm, t.gP⟩) (TB (C56, P56) (by simp))
  have F := fun_mk (st := s_law) l59 c59 k59
  have h_cell : Has l.prog w K mg base _ _ _ _ := ok_cell D1 T
  have h_word : Has l.prog w K mg base _ _ _ _ := ok_word D2 T
  have h_draw : Has l.prog w K mg base _ _ _ _ := ok_draw D3 h_cell
  have h_thing : Has l.prog w K mg base _ _ _ _ := ok_thing D4
  have h_lend : Has l.prog w K mg base _ _ _ _ := ok_lend D5 T h_thing h_word
  have h_deed : Has l.prog w K mg base _ _ _ _ := ok_deed D6 T
  have h_row : Has l.prog w K mg base _ _ _ _ := ok_row D7 T h_lend h_thing h_word h_deed
  have h_hands : Has l.prog w K mg base _ _ _ _ := ok_hands D8 h_word
  have h_four : Has l.prog w K mg base _ _ _ _ := ok_four D9
  have h_gadget : Has l.prog w K mg base _ _ _ _ := ok_gadget D10 h_hands h_thing h_four
  have h_sheet : Has l.prog w K mg base _ _ _ _ := ok_sheet D11 T h_gadget h_row
  have h_drawn : Has l.prog w K mg base _ _ _ _ := ok_drawn D12 T h_cell h_sheet h_draw
  have h_lhomes : Has l.prog w K mg base _ _ _ _ := ok_lhomes D13 T
  have h_last : Has l.prog w K mg base _ _ _ _ := ok_last D14 T
  have h_starts : Has l.prog w K mg base _ _ _ _ := ok_starts D15 T
  have h_lent : Has l.prog w K mg base _ _ _ _ := ok_lent D16
  have h_back : Has l.prog w K mg base _ _ _ _ := ok_back D17
  have h_step : Has l.prog w K mg base _ _ _ _ := ok_step D18 T h_lent h_back h_starts h_last
  have h_awake : Has l.prog w K mg base _ _ _ _ := ok_awake D19
  have h_fault : Has l.prog w K mg base _ _ _ _ := ok_fault D20 T h_awake
  have h_many : Has l.prog w K mg base _ _ _ _ := ok_many D21 T h_starts
  have h_whole : Has l.prog w K mg base _ _ _ _ := ok_whole D22 T
  have h_told : Has l.prog w K mg base _ _ _ _ := ok_told D23 T h_whole
  have h_long : Has l.prog w K mg base _ _ _ _ := ok_long D24 T h_cell
  have h_runB : Has l.prog w K mg base _ _ _ _ := ok_runB D25 T h_lhomes h_step
  have h_few : Has l.prog w K mg base _ _ _ _ := ok_few D26 T h_lhomes h_many h_step
  have h_pawake1 : Has l.prog w K mg base _ _ _ _ := ok_pawake1 D27
  have h_clash : Has l.prog w K mg base _ _ _ _ := ok_clash D28
  have h_beside : Has l.prog w K mg base _ _ _ _ := ok_beside D29 T hany TB29 h_pawake1 h_clash
  have h_is_gone : Has l.prog w K mg base _ _ _ _ := ok_is_gone D30 hany TB30
  have h_is_awake : Has l.prog w K mg base _ _ _ _ := ok_is_awake D31 hany TB31 h_pawake1
  have h_pfault : Has l.prog w K mg base _ _ _ _ := ok_pfault D32 (c1:=C29) (c2:=C30) (c3:=C31) gL hL h_beside h_is_gone h_is_awake
  have h_is_word : Has l.prog w K mg base _ _ _ _ := ok_is_word D33 T TB33 gW gE
  have h_is_thing : Has l.prog w K mg base _ _ _ _ := ok_is_thing D34 T gG
  have h_are_things : Has l.prog w K mg base _ _ _ _ := ok_are_things D35 T TB35 gM h_is_thing
  have h_is_lend : Has l.prog w K mg base _ _ _ _ := ok_is_lend D36 T gI hI h_is_word h_is_thing
  have h_is_pick : Has l.prog w K mg base _ _ _ _ := ok_is_pick D37 T h_is_word h_are_things
  have h_is_use : Has l.prog w K mg base _ _ _ _ := ok_is_use D38 T h_is_word
  have h_is_row : Has l.prog w K mg base _ _ _ _ := ok_is_row D39 T gU hU gR hR h_is_lend h_is_pick h_is_use
  have h_rform : Has l.prog w K mg base _ _ _ _ := ok_rform D40 h_is_row
  have h_rblock : Has l.prog w K mg base _ _ _ _ := ok_rblock D41 T
  have h_ruse : Has l.prog w K mg base _ _ _ _ := ok_ruse D42 T gU hU gI hI
  have h_rname : Has l.prog w K mg base _ _ _ _ := ok_rname D43 T gN hN h_is_word
  have h_bind : Has l.prog w K mg base _ _ _ _ := ok_bind D44
  have h_free : Has l.prog w K mg base _ _ _ _ := ok_free D45 gN hN
  have h_opens : Has l.prog w K mg base _ _ _ _ := ok_opens D46 gO hO
  have h_checked : Has l.prog w K mg base _ _ _ _ := ok_checked D47 T h_rform h_rblock h_ruse h_rname h_opens h_bind h_free
  have h_Blocks : HasC l.prog w K mg base "Blocks" CB 2 ["self", "rows"] _ := ⟨_, _, ok_binit F48 T BCB h_opens, ⟨mkCB, a48, fnCB, kcCB⟩, PySem.W.mg_of X G aCB, b48⟩
  have h_picked : Has l.prog w K mg base _ _ _ _ := ok_picked D49
  have h_plent : Has l.prog w K mg base _ _ _ _ := ok_plent D50
  have h_gback : Has l.prog w K mg base _ _ _ _ := ok_gback D51 T
  have h_ended : Has l.prog w K mg base _ _ _ _ := ok_ended D52 BCB gN hN
  have h_onward : Has l.prog w K mg base _ _ _ _ := ok_onward D53 BCB h_plent h_picked h_gback h_ended
  have h_chooses : Has l.prog w K mg base _ _ _ _ := ok_chooses D54 gH hH
  have h_followed : Has l.prog w K mg base _ _ _ _ := ok_followed D55 T h_Blocks h_onward
  have h_first : Has l.prog w K mg base _ _ _ _ := ok_first D56 hmin TB56 gF hF hFD h_pfault
  have h_choices_to : Has l.prog w K mg base _ _ _ _ := ok_choices_to D57 h_chooses
  have h_looked : Has l.prog w K mg base _ _ _ _ := ok_looked D58 h_checked h_followed h_first h_choices_to
  exact ok_law F T h_draw h_drawn h_long h_few h_runB h_fault h_looked h_told
end BD
open PySem PySem.W PyProof.Rows
set_option maxHeartbeats 0 in
theorem PySem.Challenge.cw_borrowdesk_k08_whole_shown_holds : PySem.Challenge.rw_borrowdesk_k08_whole_shown.Holds := by
  w_on; o_law; k_head; (case hw => w_witness2)
  k_fill
  refine GXL.walk_ofX (l := PySem.Challenge.rw_borrowdesk_k08_whole_shown) (n := 63) (k := 9) (x := "_law_script") (names := ["beside", "is_gone", "is_awake", "is_word", "are_things", "first_fault"]) rfl (by decide) rfl ⟨rfl, by decide, by decide⟩ (by decide +kernel) (fun w h Y => PySem.W.km_in_of Y) ?F
  case F =>
    intro w mg fa h KX G hmg
    refine' BD.all_mk KX G hmg ?a1 ?l1 ?c1 ?k1 ?a2 ?l2 ?c2 ?k2 ?a3 ?l3 ?c3 ?k3 ?a4 ?l4 ?c4 ?k4 ?a5 ?l5 ?c5 ?k5 ?a6 ?l6 ?c6 ?k6 ?a7 ?l7 ?c7 ?k7 ?a8 ?l8 ?c8 ?k8 ?a9 ?l9 ?c9 ?k9 ?a10 ?l10 ?c10 ?k10 ?a11 ?l11 ?c11 ?k11 ?a12 ?l12 ?c12 ?k12 ?a13 ?l13 ?c13 ?k13 ?a14 ?l14 ?c14 ?k14 ?a15 ?l15 ?c15 ?k15 ?a16 ?l16 ?c16 ?k16 ?a17 ?l17 ?c17 ?k17 ?a18 ?l18 ?c18 ?k18 ?a19 ?l19 ?c19 ?k19 ?a20 ?l20 ?c20 ?k20 ?a21 ?l21 ?c21 ?k21 ?a22 ?l22 ?c22 ?k22 ?a23 ?l23 ?c23 ?k23 ?a24 ?l24 ?c24 ?k24 ?a25 ?l25 ?c25 ?k25 ?a26 ?l26 ?c26 ?k26 ?a27 ?l27 ?c27 ?k27 ?a28 ?l28 ?c28 ?k28 ?a29 ?l29 ?c29 ?k29 ?a30 ?l30 ?c30 ?k30 ?a31 ?l31 ?c31 ?k31 ?a32 ?l32 ?c32 ?k32 ?a33 ?l33 ?c33 ?k33 ?a34 ?l34 ?c34 ?k34 ?a35 ?l35 ?c35 ?k35 ?a36 ?l36 ?c36 ?k36 ?a37 ?l37 ?c37 ?k37 ?a38 ?l38 ?c38 ?k38 ?a39 ?l39 ?c39 ?k39 ?a40 ?l40 ?c40 ?k40 ?a41 ?l41 ?c41 ?k41 ?a42 ?l42 ?c42 ?k42 ?a43 ?l43 ?c43 ?k43 ?a44 ?l44 ?c44 ?k44 ?a45 ?l45 ?c45 ?k45 ?a46 ?l46 ?c46 ?k46 ?a47 ?l47 ?c47 ?k47 ?a48 ?l48 ?c48 ?k48 ?a49 ?l49 ?c49 ?k49 ?a50 ?l50 ?c50 ?k50 ?a51 ?l51 ?c51 ?k51 ?a52 ?l52 ?c52 ?k52 ?a53 ?l53 ?c53 ?k53 ?a54 ?l54 ?c54 ?k54 ?a55 ?l55 ?c55 ?k55 ?a56 ?l56 ?c56 ?k56 ?a57 ?l57 ?c57 ?k57 ?a58 ?l58 ?c58 ?k58 ?a59 ?l59 ?c59 ?k59 ?q29 ?v29 ?w29 ?e29 ?n29 ?q30 ?v30 ?w30 ?e30 ?n30 ?q31 ?v31 ?w31 ?e31 ?n31 ?q33 ?v33 ?w33 ?e33 ?n33 ?q35 ?v35 ?w35 ?e35 ?n35 ?q56 ?v56 ?w56 ?e56 ?n56 ?aO ?lO ?tO ?dO ?zO ?vO ?aF ?lF ?tF ?dF ?zF ?vF ?yF ?aL ?lL ?tL ?dL ?zL ?vL ?aI ?lI ?tI ?dI ?zI ?vI ?aR ?lR ?tR ?dR ?zR ?vR ?aU ?lU ?tU ?dU ?zU ?vU ?aN ?lN ?tN ?dN ?zN ?vN ?aH ?lH ?tH ?dH ?zH ?vH ?aE ?aW ?aG ?aM ?j29 ?j30 ?j31 ?j33 ?j35 ?aCB ?fnCB ?pgCB ?hdCB ?poCB ?saCB ?mkCB ?kcCB ?nCB0 ?nCB1 ?nCB2 ?z_len ?z_range ?z_enumerate ?z_zip ?z_list ?z_tuple ?z_isinstance ?z_all ?z_int ?z_bool ?z_str ?z_sum ?z_reversed ?z_any ?z_min
    (case aCB => k_is)
    (case a1 => k_is); (case l1 => k_is); (case c1 => k_is); (case k1 => k_is)
    (case a2 => k_is); (case l2 => k_is); (case c2 => k_is); (case k2 => k_is)
    (case a3 => k_is); (case l3 => k_is); (case c3 => k_is); (case k3 => k_is)
    (case a4 => k_is); (case l4 => k_is); (case c4 => k_is); (case k4 => k_is)
    (case a5 => k_is); (case l5 => k_is); (case c5 => k_is); (case k5 => k_is)
    (case a6 => k_is); (case l6 => k_is); (case c6 => k_is); (case k6 => k_is)
    (case a7 => k_is); (case l7 => k_is); (case c7 => k_is); (case k7 => k_is)
    (case a8 => k_is); (case l8 => k_is); (case c8 => k_is); (case k8 => k_is)
    (case a9 => k_is); (case l9 => k_is); (case c9 => k_is); (case k9 => k_is)
    (case a10 => k_is); (case l10 => k_is); (case c10 => k_is); (case k10 => k_is)
    (case a11 => k_is); (case l11 => k_is); (case c11 => k_is); (case k11 => k_is)
    (case a12 => k_is); (case l12 => k_is); (case c12 => k_is); (case k12 => k_is)
    (case a13 => k_is); (case l13 => k_is); (case c13 => k_is); (case k13 => k_is)
    (case a14 => k_is); (case l14 => k_is); (case c14 => k_is); (case k14 => k_is)
    (case a15 => k_is); (case l15 => k_is); (case c15 => k_is); (case k15 => k_is)
    (case a16 => k_is); (case l16 => k_is); (case c16 => k_is); (case k16 => k_is)
    (case a17 => k_is); (case l17 => k_is); (case c17 => k_is); (case k17 => k_is)
    (case a18 => k_is); (case l18 => k_is); (case c18 => k_is); (case k18 => k_is)
    (case a19 => k_is); (case l19 => k_is); (case c19 => k_is); (case k19 => k_is)
    (case a20 => k_is); (case l20 => k_is); (case c20 => k_is); (case k20 => k_is)
    (case a21 => k_is); (case l21 => k_is); (case c21 => k_is); (case k21 => k_is)
    (case a22 => k_is); (case l22 => k_is); (case c22 => k_is); (case k22 => k_is)
    (case a23 => k_is); (case l23 => k_is); (case c23 => k_is); (case k23 => k_is)
    (case a24 => k_is); (case l24 => k_is); (case c24 => k_is); (case k24 => k_is)
    (case a25 => k_is); (case l25 => k_is); (case c25 => k_is); (case k25 => k_is)
    (case a26 => k_is); (case l26 => k_is); (case c26 => k_is); (case k26 => k_is)
    (case a27 => k_is); (case l27 => k_is); (case c27 => k_is); (case k27 => k_is)
    (case a28 => k_is); (case l28 => k_is); (case c28 => k_is); (case k28 => k_is)
    (case a29 => k_is); (case l29 => k_is); (case c29 => k_is); (case k29 => k_is)
    (case a30 => k_is); (case l30 => k_is); (case c30 => k_is); (case k30 => k_is)
    (case a31 => k_is); (case l31 => k_is); (case c31 => k_is); (case k31 => k_is)
    (case a32 => k_is); (case l32 => k_is); (case c32 => k_is); (case k32 => k_is)
    (case a33 => k_is); (case l33 => k_is); (case c33 => k_is); (case k33 => k_is)
    (case a34 => k_is); (case l34 => k_is); (case c34 => k_is); (case k34 => k_is)
    (case a35 => k_is); (case l35 => k_is); (case c35 => k_is); (case k35 => k_is)
    (case a36 => k_is); (case l36 => k_is); (case c36 => k_is); (case k36 => k_is)
    (case a37 => k_is); (case l37 => k_is); (case c37 => k_is); (case k37 => k_is)
    (case a38 => k_is); (case l38 => k_is); (case c38 => k_is); (case k38 => k_is)
    (case a39 => k_is); (case l39 => k_is); (case c39 => k_is); (case k39 => k_is)
    (case a40 => k_is); (case l40 => k_is); (case c40 => k_is); (case k40 => k_is)
    (case a41 => k_is); (case l41 => k_is); (case c41 => k_is); (case k41 => k_is)
    (case a42 => k_is); (case l42 => k_is); (case c42 => k_is); (case k42 => k_is)
    (case a43 => k_is); (case l43 => k_is); (case c43 => k_is); (case k43 => k_is)
    (case a44 => k_is); (case l44 => k_is); (case c44 => k_is); (case k44 => k_is)
    (case a45 => k_is); (case l45 => k_is); (case c45 => k_is); (case k45 => k_is)
    (case a46 => k_is); (case l46 => k_is); (case c46 => k_is); (case k46 => k_is)
    (case a47 => k_is); (case l47 => k_is); (case c47 => k_is); (case k47 => k_is)
    (case a48 => k_is); (case l48 => k_is); (case c48 => k_is); (case k48 => k_is)
    (case a49 => k_is); (case l49 => k_is); (case c49 => k_is); (case k49 => k_is)
    (case a50 => k_is); (case l50 => k_is); (case c50 => k_is); (case k50 => k_is)
    (case a51 => k_is); (case l51 => k_is); (case c51 => k_is); (case k51 => k_is)
    (case a52 => k_is); (case l52 => k_is); (case c52 => k_is); (case k52 => k_is)
    (case a53 => k_is); (case l53 => k_is); (case c53 => k_is); (case k53 => k_is)
    (case a54 => k_is); (case l54 => k_is); (case c54 => k_is); (case k54 => k_is)
    (case a55 => k_is); (case l55 => k_is); (case c55 => k_is); (case k55 => k_is)
    (case a56 => k_is); (case l56 => k_is); (case c56 => k_is); (case k56 => k_is)
    (case a57 => k_is); (case l57 => k_is); (case c57 => k_is); (case k57 => k_is)
    (case a58 => k_is); (case l58 => k_is); (case c58 => k_is); (case k58 => k_is)
    (case a59 => k_is); (case l59 => k_is); (case c59 => k_is); (case k59 => k_is)
    (case q29 => rfl); (case v29 => k_is); (case w29 => rfl); (case e29 => first | rfl | decide +kernel); (case n29 => first | rfl | decide +kernel | k_is)
    (case q30 => rfl); (case v30 => k_is); (case w30 => rfl); (case e30 => first | rfl | decide +kernel); (case n30 => first | rfl | decide +kernel | k_is)
    (case q31 => rfl); (case v31 => k_is); (case w31 => rfl); (case e31 => first | rfl | decide +kernel); (case n31 => first | rfl | decide +kernel | k_is)
    (case q33 => rfl); (case v33 => k_is); (case w33 => rfl); (case e33 => first | rfl | decide +kernel); (case n33 => first | rfl | decide +kernel | k_is)
    (case q35 => rfl); (case v35 => k_is); (case w35 => rfl); (case e35 => first | rfl | decide +kernel); (case n35 => first | rfl | decide +kernel | k_is)
    (case q56 => rfl); (case v56 => k_is); (case w56 => rfl); (case e56 => first | rfl | decide +kernel); (case n56 => first | rfl | decide +kernel | k_is)
    (case aO => k_is); (case lO => k_is); (case tO => rfl); (case dO => rfl); (case zO => decide); (case vO => exact .cons ⟨_, rfl⟩ (.cons ⟨_, rfl⟩ (.cons ⟨_, rfl⟩ (.cons ⟨_, rfl⟩ .nil))))
    (case aF => k_is); (case lF => k_is); (case tF => rfl); (case dF => rfl); (case zF => decide); (case vF => exact .cons ⟨_, rfl⟩ (.cons ⟨_, rfl⟩ (.cons ⟨_, rfl⟩ .nil)))
    (case aL => k_is); (case lL => k_is); (case tL => rfl); (case dL => rfl); (case zL => decide); (case vL => exact .cons ⟨_, rfl⟩ (.cons ⟨_, rfl⟩ .nil))
    (case aI => k_is); (case lI => k_is); (case tI => rfl); (case dI => rfl); (case zI => decide); (case vI => exact .cons ⟨_, rfl⟩ (.cons ⟨_, rfl⟩ .nil))
    (case aR => k_is); (case lR => k_is); (case tR => rfl); (case dR => rfl); (case zR => decide); (case vR => exact .cons ⟨_, rfl⟩ (.cons ⟨_, rfl⟩ (.cons ⟨_, rfl⟩ (.cons ⟨_, rfl⟩ .nil))))
    (case aU => k_is); (case lU => k_is); (case tU => rfl); (case dU => rfl); (case zU => decide); (case vU => exact .cons ⟨_, rfl⟩ (.cons ⟨_, rfl⟩ (.cons ⟨_, rfl⟩ .nil)))
    (case aN => k_is); (case lN => k_is); (case tN => rfl); (case dN => rfl); (case zN => decide); (case vN => exact .cons ⟨_, rfl⟩ (.cons ⟨_, rfl⟩ .nil))
    (case aH => k_is); (case lH => k_is); (case tH => rfl); (case dH => rfl); (case zH => decide); (case vH => exact .cons ⟨_, rfl⟩ (.cons ⟨_, rfl⟩ (.cons ⟨_, rfl⟩ .nil)))
    (case yF => rfl)
    (case aE => k_is)
    (case aW => k_is)
    (case aG => k_is)
    (case aM => k_is)
    (case j29 => first | decide | (intro z; cases z))
    (case j30 => first | decide | (intro z; cases z))
    (case j31 => first | decide | (intro z; cases z))
    (case j33 => first | decide | (intro z; cases z))
    (case j35 => first | decide | (intro z; cases z))
    (case fnCB => k_is)
    (case pgCB => k_is)
    (case hdCB => k_is)
    (case poCB => k_is)
    (case saCB => k_is)
    (case mkCB => k_is)
    (case kcCB => k_is)
    (case nCB0 => k_is)
    (case nCB1 => k_is)
    (case nCB2 => k_is)
    (case z_len => k_is)
    (case z_range => k_is)
    (case z_enumerate => k_is)
    (case z_zip => k_is)
    (case z_list => k_is)
    (case z_tuple => k_is)
    (case z_isinstance => k_is)
    (case z_all => k_is)
    (case z_int => k_is)
    (case z_bool => k_is)
    (case z_str => k_is)
    (case z_sum => k_is)
    (case z_reversed => k_is)
    (case z_any => k_is)
    (case z_min => k_is)
