import PyProof.Rows.All
import Wide.All
import OpenK.AllK
import Wide.FinOn
import HandS.ForMost
import HandS.Evl
import HandS.IsInst
import HandS.Walk
import PyProof.StrBlock2
import KE.KEqSeq
import PySem.Challenge.RW_borrowdesk_k05_a_step
import HandS.TupAny
import HandS.Rev
import HandS.SetKeys
import HandS.SetIn
import KE.KSetDisp
set_option Elab.async false
set_option linter.all false
set_option maxRecDepth 100000
set_option maxHeartbeats 8000000
namespace BD
open PySem PySem.Spec PyProof.Rows L2 Evl

/-! ### a def that stands, a def whose promise is known -/
def Dn (K : PySem.W.Frag) (mg : Str → Option Value) (x : Str) (st : Stmt) (ps : List Str) : Prop :=
  ∃ f fd, Fun K x x st f fd ∧ mg x = some (.ref f) ∧ Binds K fd ps []
theorem dn_mk {K : PySem.W.Frag} {h : Heap} {mg : Str → Option Value} (X : K.In h) (G : h.Ns mainGlobals mg) {x : Str} {st : Stmt} {ps : List Str} {f : Addr} {oc kV dc pm cd ct : Value} {od an : Option Addr} {sl : Array (Option Value)}
    (a : PySem.W.nsIn K mainGlobals x = some (some (.ref f))) (l : K.lookup f = some ⟨oc, od, .func (PySem.W.fnOf x x (defArgs st) (defBody st) (defScope st) .none kV dc pm an cd ct), sl⟩) (c : PySem.W.codeIn K cd x = true) (k : PySem.W.keepIn K (.ref f) = true)
    (hb : ∀ (kV doc pm : Value) (an : Option Addr) (cdv ct : Value) (us : List Value), us.length = ps.length → bindArgs (PySem.W.fnOf x x (defArgs st) (defBody st) (defScope st) .none kV doc pm an cdv ct) ⟨us, []⟩ = pure (ps.zip us)) : Dn K mg x st ps :=
  ⟨f, _, fun_mk l c k, PySem.W.mg_of X G a, (fun_mk l c k).binds hb⟩
structure Has (P : Program) (w : World) (K : PySem.W.Frag) (mg : Str → Option Value) (base : Heap) (x : Str) (k : Nat) (ps : List Str) (sp : Sp) : Prop where
  ex : ∃ f fd, FnOk P w K mg base CX0 k f fd ps sp ∧ mg x = some (.ref f) ∧ PySem.W.keepIn K (.ref f) = true ∧ Binds K fd ps []
section
variable {P : Program} {w : World} {K : PySem.W.Frag} {mg : Str → Option Value} {base : Heap}
theorem Dn.ok {x : Str} {st : Stmt} {N ps : List Str} {k : Nat} {sp : Sp} (D : Dn K mg x st ps) (S : FnScope N ps (defScope st)) (len : ∀ vs H Q E, sp vs H Q E → vs.length = ps.length)
    (hbody : ∀ (f : Addr) (cdv : Value) (A : Around) (outer : List Env) (s : Shared) (H : Hp) (vs : List V) (Q : VK) (E : XK), Room k (A.deeper (envOfC x (defScope st) s.heap.objs.size f cdv)) → sp vs H Q E →
      ∃ t, PSs (cxOf CX0 P w K mg base N x (defScope st) f cdv A outer s H E).nox (defBody st) t ∧ t { nx := fun _ H' => Q .non H', rt := Q } (start N vs) H) : Has P w K mg base x (k + 1) ps sp := by
  obtain ⟨f, fd, F, m, b⟩ := D
  exact ⟨f, fd, F.ok S len (hbody f), m, F.kp, b⟩
theorem Has.mono {x : Str} {j k : Nat} {ps : List Str} {sp : Sp} (h : Has P w K mg base x j ps sp) (e : j ≤ k) : Has P w K mg base x k ps sp := by
  obtain ⟨f, fd, F, m, kp, b⟩ := h.ex
  exact ⟨f, fd, F.mono e, m, kp, b⟩
end
theorem pe_own {X : Cx} {x : Str} {k : Nat} {ps : List Str} {sp : Sp} {e : Expr} {es : List Expr} {p pos : Pos} {t : TA} (h : Has X.prog X.w X.K X.mg X.base x k ps sp) (hr : Room k X.A) (hg : Gl X x) (ha : PA X (e :: es) t)
    (hdb : (x == ("__debug__" : Str)) = false := by decide) (he : starEach (e :: es) X.env = (false, eval e X.env) :: starEach es X.env := by rfl) (hpl : (backTo pos (starEach es X.env)).any (·.1) = false := by rfl) :
    PE X (.Call (.Name x p) (e :: es) [] pos) (tCall sp [] E0 t) := by
  obtain ⟨f, fd, F, m, kp, b⟩ := h.ex
  exact pe_call F hr hg m kp b .nil pass0 ha hdb he hpl

structure Blt (mg : Str → Option Value) : Prop where
  len_ : mg "len" = none
  range_ : mg "range" = none
  enumerate_ : mg "enumerate" = none
  zip_ : mg "zip" = none
  list_ : mg "list" = none
  tuple_ : mg "tuple" = none
  isinstance_ : mg "isinstance" = none
  all_ : mg "all" = none
  int_ : mg "int" = none
  bool_ : mg "bool" = none
  str_ : mg "str" = none
  sum_ : mg "sum" = none
  reversed_ : mg "reversed" = none
/-! ### a text times a number -/
def rRepS : R2 := fun x y H Q => ∃ z k, x = .str z ∧ y = .int k ∧ MulOk z k ∧ Q (.str (Txt.mul z k)) H
theorem op_repS {X : Cx} : OpR X (binaryOp .Mult) rRepS := by
  intro pins s σ H x y v u Q I rx ry h
  obtain ⟨z, k, rfl, rfl, hz, q⟩ := h
  obtain ⟨t, rfl⟩ := rx
  obtain ⟨t', rfl⟩ := ry
  exact SB.mul hz (fun t' tk => ⟨.str (Txt.mul z k), H, I.tok _, ⟨_, rfl⟩, q⟩)

def rAddT : R2 := fun x y H Q => ∃ i j, x = .str i ∧ y = .str j ∧ i.length + j.length ≤ sizeLine ∧ Q (.str (i ++ j)) H
theorem op_addT {X : Cx} : OpR X (binaryOp .Add) rAddT := op_add_str
/-! ### evaluation with a post on value and heap -/
def EvP (te : TE) (σ : L2.St) (H : Hp) (R : V → Hp → Prop) : Prop := ∀ H1, Ex H H1 → ∀ Q : VK, (∀ v H2, Ex H1 H2 → R v H2 → Q v H2) → te σ H1 Q
def EvAP (ta : TA) (σ : L2.St) (H : Hp) (R : List V → Hp → Prop) : Prop := ∀ H1, Ex H H1 → ∀ Q : List V → Hp → Prop, (∀ vs H2, Ex H1 H2 → R vs H2 → Q vs H2) → ta σ H1 Q
/-- a new list whose items are told by R -/
def EvPL (te : TE) (σ : L2.St) (H : Hp) (R : List V → Hp → Prop) : Prop := ∀ H1, Ex H H1 → ∀ Q : VK, (∀ p vs H2, H1 p = none → Ex H1 H2 → H2 p = some (.lst vs) → R vs H2 → Q (.ref p) H2) → te σ H1 Q
section
variable {K : PySem.W.Frag} {σ : L2.St} {H H' : Hp} {ta tb te tx : TE} {t u : TT} {x y z v : V} {r : R2} {R R' : V → Hp → Prop} {D : Ends} {tu tw tz : TS}
theorem ep_ev (h : Ev te σ H v) : EvP te σ H (fun x _ => x = v) := fun H1 e Q q => h H1 e Q fun H2 e2 => q v H2 e2 rfl
theorem ep_U {xs : List V} (h : EvU te σ H xs) : EvP te σ H (fun x H2 => ∃ p, x = .ref p ∧ H2 p = some (.tup xs)) := fun H1 e Q q => h H1 e Q fun p H2 _ e2 h2 => q _ H2 e2 ⟨p, rfl, h2⟩
theorem ep_L {xs : List V} (h : EvL te σ H xs) : EvP te σ H (fun x H2 => ∃ p, x = .ref p ∧ H2 p = some (.lst xs)) := fun H1 e Q q => h H1 e Q fun p H2 _ e2 h2 => q _ H2 e2 ⟨p, rfl, h2⟩
theorem EvP.mono (h : EvP te σ H R) (k : ∀ v H2, R v H2 → R' v H2) : EvP te σ H R' := fun H1 e Q q => h H1 e Q fun v H2 e2 hr => q v H2 e2 (k v H2 hr)
theorem EvP.up (e : Ex H H') (h : EvP te σ H R) : EvP te σ H' R := fun H1 a Q q => h H1 (e.trans a) Q q
theorem q_asgP {i : Nat} (h : EvP te σ H R) (k : ∀ v H1, Ex H H1 → R v H1 → tz D (σ.set i (some v)) H1) : tSeq (tAsg te (gName i)) tz D σ H := h H (Ex.refl H) _ fun v H1 e hr => k v H1 e hr
theorem s_asgP {i : Nat} (h : EvP te σ H R) (k : ∀ v H1, Ex H H1 → R v H1 → D.nx (σ.set i (some v)) H1) : tAsg te (gName i) D σ H := h H (Ex.refl H) _ fun v H1 e hr => k v H1 e hr
theorem s_retP (h : EvP te σ H R) (k : ∀ v H1, Ex H H1 → R v H1 → D.rt v H1) : tRet te D σ H := h H (Ex.refl H) _ k
theorem eap_nil : EvAP tNil σ H (fun vs _ => vs = []) := fun H1 _ _ q => q [] H1 (Ex.refl H1) rfl
def SpP (sp : Sp) (vs : List V) (H : Hp) (R : V → Hp → Prop) : Prop := ∀ H1, Ex H H1 → ∀ Q : VK, (∀ v H2, Ex H1 H2 → R v H2 → Q v H2) → ∀ E : XK, sp vs H1 Q E
theorem ep_call {sp : Sp} {dvs vs : List V} {E : XK} {ta : TA} (h : EvA ta σ H vs) (hs : SpP sp (vs ++ dvs) H R) : EvP (tCall sp dvs E ta) σ H R := fun H1 e Q q =>
  h H1 e _ fun H2 e2 => hs H2 (e.trans e2) Q (fun v H3 e3 hr => q v H3 (e2.trans e3) hr) E
/-- the promise's usual end: some value of which R tells, what stood stands -/
def Ret (R : V → Hp → Prop) (H : Hp) (Q : VK) : Prop := ∀ v H2, Ex H H2 → R v H2 → Q v H2
theorem Ret.go {Q : VK} (k : Ret R H Q) {v : V} (e : Ex H H') (hr : R v H') : Q v H' := k v H' e hr
end

section
variable {K : PySem.W.Frag} {σ : L2.St} {H H' : Hp} {ta tb te tx : TE} {t u : TT} {x y z v : V} {r : R2}
theorem ev_I0 {g : Int → Int → V} {i j : Int} (ha : Ev ta σ H (.int i)) (hb : Ev tb σ H (.int j)) : Ev (tOp (rI0 g) ta tb) σ H (g i j) := ev_op ha hb rv_I0
theorem ev_I {C : Int → Int → Prop} {g : Int → Int → V} {i j : Int} (ha : Ev ta σ H (.int i)) (hb : Ev tb σ H (.int j)) (hc : C i j) : Ev (tOp (rI C g) ta tb) σ H (g i j) := ev_op ha hb (rv_I hc)
theorem ex_l' {a : Addr} {xs : List V} (h : SqL K H a xs) (e : Ex H H') : SqL K H' a xs := ex_l e h
theorem ex_t' {a : Addr} {xs : List V} (h : SqT K H a xs) (e : Ex H H') : SqT K H' a xs := ex_t e h
theorem ev_e9 (ha : Ev ta σ H (.int 10)) (hb : Ev tb σ H (.int 9)) : Ev (tOp (rI CPow fun i j => .int (i ^ j.toNat)) ta tb) σ H (.int 1000000000) := by
  have h := ev_op ha hb (rv_I (C := CPow) (g := fun i j => .int (i ^ j.toNat)) (H := H) (i := 10) (j := 9) ⟨by decide, by decide, by decide⟩)
  exact h
theorem ev_eq (ha : Ev ta σ H x) (hb : Ev tb σ H y) (hc : scal x y = true) : Ev (tOp rEq ta tb) σ H (.bl (decide (x = y))) := ev_op ha hb (rv_eq hc)
theorem ev_ne (ha : Ev ta σ H x) (hb : Ev tb σ H y) (hc : scal x y = true) : Ev (tOp rNe ta tb) σ H (.bl (!decide (x = y))) := ev_op ha hb (rv_ne hc)
theorem ev_neg {i : Int} (ha : Ev ta σ H (.int i)) : Ev (tUn (rU fun i => .int (-i)) ta) σ H (.int (-i)) := ev_un ha ru_neg
theorem ev_ixL {p : Addr} {xs : List V} {i : Int} (ha : Ev ta σ H (.ref p)) (h : SqL K H p xs) (hb : Ev tb σ H (.int i)) (hi : atI xs i = some v) : Ev (tOp (rIxL K) ta tb) σ H v := ev_op ha hb (rv_ixL h hi)
theorem ev_ixT {p : Addr} {xs : List V} {i : Int} (ha : Ev ta σ H (.ref p)) (h : SqT K H p xs) (hb : Ev tb σ H (.int i)) (hi : atI xs i = some v) : Ev (tOp (rIxT K) ta tb) σ H v := ev_op ha hb (rv_ixT h hi)
theorem ev_ixN {tA : TA} {xs : List V} {i : Int} (ha : EvA tA σ H xs) (hb : Ev tb σ H (.int i)) (hl : xs.length ≤ 100000) (hi : atI xs i = some v) : Ev (tOp (rIxL K) (tLst tA) tb) σ H v :=
  ev_opL1 (el_lst ha hl) (fun _ e => hb.mono e) fun _ _ hz _ => rv_ixL (sq_of hz) hi
theorem ev_ixS {w : Str} {i : Int} {c : Nat} (ha : Ev ta σ H (.str w)) (hb : Ev tb σ H (.int i)) (h : w.length ≤ 100000) (hi : atI w.cps.toList i = some c) : Ev (tOp rIxS ta tb) σ H (.str ⟨#[c]⟩) := ev_op ha hb (rv_ixS h hi)
theorem ev_inN {tA : TA} {xs : List V} (ha : Ev ta σ H x) (hb : EvA tA σ H xs) (hl : xs.length ≤ 100000) (hx : flatV x = true) (hf : xs.all flatV = true) : Ev (tOp (rIn K false) ta (tLst tA)) σ H (.bl (inV x xs)) :=
  ev_opL ha (el_lst hb hl) fun _ _ hz _ => rv_isL (sq_of hz) hx hf
theorem ev_inT {p : Addr} {xs : List V} (ha : Ev ta σ H x) (hb : Ev tb σ H (.ref p)) (h : SqT K H p xs) (hx : flatV x = true) (hf : xs.all flatV = true) : Ev (tOp (rIn K false) ta tb) σ H (.bl (inV x xs)) := ev_op ha hb (rv_isT h hx hf)
theorem ev_len' {p : Addr} {xs : List V} (ha : Ev ta σ H (.ref p)) (h : SqL K H p xs) : Ev (tCB (rLenS K) (tCons ta tNil)) σ H (.int (xs.length : Int)) := ev_len ha h
theorem ev_add (x y : Str) (ha : Ev ta σ H (.str x)) (hb : Ev tb σ H (.str y)) (h : x.length + y.length ≤ 100000) : Ev (tOp rAddT ta tb) σ H (.str (x ++ y)) :=
  ev_op ha hb (rv_val fun H1 _ Q q => ⟨x, y, rfl, rfl, sz_of h, q⟩)
theorem ev_repS {w : Str} {k : Int} (ha : Ev ta σ H (.str w)) (hb : Ev tb σ H (.int k)) (h : MulOk w k) : Ev (tOp rRepS ta tb) σ H (.str (Txt.mul w k)) :=
  ev_op ha hb (rv_val fun H1 _ Q q => ⟨w, k, rfl, rfl, h, q⟩)
end
/-! ### rows of a sheet -/
inductive Src where
  | thing (n : Int)
  | word (w : Str)
def Src.v : Src → V
  | .thing n => .int n
  | .word w => .str w
inductive Rw where
  | lend (h k : Str) (s : Src)
  | pick (w : Str) (ts : List Int)
  | either | or | again | fin
  | back (h : Str) | look (h : Str) | change (h : Str)
namespace Rw
def tag : Rw → Str
  | .lend _ _ _ => "lend" | .pick _ _ => "pick" | .either => "either" | .or => "or" | .again => "again" | .fin => "end"
  | .back _ => "back" | .look _ => "look" | .change _ => "change"
def opens : Rw → Bool
  | .lend _ _ _ => true | .pick _ _ => true | .either => true | .again => true | _ => false
def named : Rw → Bool
  | .lend _ _ _ => true | .pick _ _ => true | _ => false
def isLend : Rw → Bool
  | .lend _ _ _ => true | _ => false
def isFin : Rw → Bool
  | .fin => true | _ => false
def isOr : Rw → Bool
  | .or => true | _ => false
def isEither : Rw → Bool
  | .either => true | _ => false
def word : Rw → Str
  | .lend h _ _ => h | .pick w _ => w | .back h => h | .look h => h | .change h => h | _ => ""
def kind : Rw → Str
  | .lend _ k _ => k | _ => ""
end Rw
/-- the row stands in the heap -/
def IsRow (H : Hp) (v : V) : Rw → Prop
  | .lend h k s => ∃ p, v = .ref p ∧ H p = some (.tup [.str "lend", .str h, .str k, s.v])
  | .pick w ts => ∃ p q, v = .ref p ∧ H p = some (.tup [.str "pick", .str w, .ref q]) ∧ H q = some (.tup (ts.map V.int))
  | .either => ∃ p, v = .ref p ∧ H p = some (.tup [.str "either"])
  | .or => ∃ p, v = .ref p ∧ H p = some (.tup [.str "or"])
  | .again => ∃ p, v = .ref p ∧ H p = some (.tup [.str "again"])
  | .fin => ∃ p, v = .ref p ∧ H p = some (.tup [.str "end"])
  | .back h => ∃ p, v = .ref p ∧ H p = some (.tup [.str "back", .str h])
  | .look h => ∃ p, v = .ref p ∧ H p = some (.tup [.str "look", .str h])
  | .change h => ∃ p, v = .ref p ∧ H p = some (.tup [.str "change", .str h])
/-- what stays of tuples -/
def ExT (H H' : Hp) : Prop := ∀ a xs, H a = some (.tup xs) → H' a = some (.tup xs)
theorem ExT.of {H H' : Hp} (e : Ex H H') : ExT H H' := fun a xs h => e a _ h
theorem ExT.refl (H : Hp) : ExT H H := fun _ _ h => h
theorem ExT.trans {H H1 H2 : Hp} (a : ExT H H1) (b : ExT H1 H2) : ExT H H2 := fun x o h => b x o (a x o h)
theorem ExT.lst {H : Hp} {p : Addr} {xs ys : List V} (h : H p = some (.lst xs)) : ExT H (upd H p (.lst ys)) := fun a zs e => by
  rw [upd_ne (ne_of e h (fun q => nomatch q))]
  exact e
theorem IsRow.upT {H H' : Hp} {v : V} {r : Rw} (e : ExT H H') (h : IsRow H v r) : IsRow H' v r := by
  cases r with
  | pick w ts => obtain ⟨p, q, h1, h2, h3⟩ := h; exact ⟨p, q, h1, e _ _ h2, e _ _ h3⟩
  | _ => obtain ⟨p, h1, h2⟩ := h; exact ⟨p, h1, e _ _ h2⟩
theorem IsRow.up {H H' : Hp} {v : V} {r : Rw} (e : Ex H H') (h : IsRow H v r) : IsRow H' v r := h.upT (ExT.of e)
def Rows (H : Hp) (vs : List V) (rs : List Rw) : Prop := Paired (IsRow H) vs rs
theorem Rows.upT {H H' : Hp} (e : ExT H H') : ∀ {vs : List V} {rs : List Rw}, Rows H vs rs → Rows H' vs rs
  | _, _, .nil => .nil
  | _, _, .cons r t => .cons (r.upT e) (Rows.upT e t)
theorem Rows.up {H H' : Hp} (e : Ex H H') {vs : List V} {rs : List Rw} (h : Rows H vs rs) : Rows H' vs rs := h.upT (ExT.of e)
theorem Rows.len {H : Hp} {vs : List V} {rs : List Rw} (h : Rows H vs rs) : vs.length = rs.length := Paired.length h
theorem Rows.append {H : Hp} : ∀ {vs ws : List V} {rs ss : List Rw}, Rows H vs rs → Rows H ws ss → Rows H (vs ++ ws) (rs ++ ss)
  | _, _, _, _, .nil, s => s
  | _, _, _, _, .cons r t, s => .cons r (Rows.append t s)
theorem Rows.at {H : Hp} : ∀ {vs : List V} {rs : List Rw} {i : Nat} {x : V}, Rows H vs rs → vs[i]? = some x → ∃ r, rs[i]? = some r ∧ IsRow H x r
  | _, _, _, _, .nil, e => by simp at e
  | _, _, 0, _, .cons r _, e => by simp at e; subst e; exact ⟨_, rfl, r⟩
  | _, _, i + 1, x, .cons _ t, e => by
    obtain ⟨u, h1, h2⟩ := Rows.at (i := i) (x := x) t (by simpa using e)
    exact ⟨u, by simpa using h1, h2⟩
theorem Rows.get {H : Hp} {vs : List V} {rs : List Rw} {i : Nat} {r : Rw} (h : Rows H vs rs) (e : rs[i]? = some r) : ∃ x, vs[i]? = some x ∧ IsRow H x r := by
  have hi : i < vs.length := by
    rw [h.len]
    exact (List.getElem?_eq_some_iff.mp e).1
  obtain ⟨r', e', q⟩ := h.at (List.getElem?_eq_getElem hi)
  rw [e] at e'
  cases e'
  exact ⟨_, List.getElem?_eq_getElem hi, q⟩
theorem Rows.dropLast {H : Hp} : ∀ {vs : List V} {rs : List Rw}, Rows H vs rs → Rows H vs.dropLast rs.dropLast
  | _, _, .nil => .nil
  | _, _, .cons r .nil => .nil
  | _, _, .cons r (.cons r2 t) => .cons r (Rows.dropLast (.cons r2 t))
theorem Rows.take {H : Hp} : ∀ {vs : List V} {rs : List Rw} (n : Nat), Rows H vs rs → Rows H (vs.take n) (rs.take n)
  | _, _, 0, _ => .nil
  | _, _, _ + 1, .nil => .nil
  | _, _, n + 1, .cons r t => .cons r (Rows.take n t)
/-- the tuple of a row, from its tag on -/
theorem IsRow.tup {H : Hp} {v : V} {r : Rw} (h : IsRow H v r) : ∃ p xs, v = .ref p ∧ H p = some (.tup (.str r.tag :: xs)) := by
  cases r with
  | pick w ts => obtain ⟨p, q, h1, h2, _⟩ := h; exact ⟨p, _, h1, h2⟩
  | _ => obtain ⟨p, h1, h2⟩ := h; exact ⟨p, _, h1, h2⟩
/-- a list of rows at an address, a row given back -/
def LRows (rs : List Rw) : V → Hp → Prop := fun v H => ∃ p vs, v = .ref p ∧ H p = some (.lst vs) ∧ Rows H vs rs
def ARow (r : Rw) : V → Hp → Prop := fun v H => IsRow H v r
theorem at_get {xs : List V} {i : Int} (h0 : 0 ≤ i) (h1 : i < xs.length) : atI xs i = some (xs.getD i.toNat .non) := by
  have e : i = ((i.toNat : Nat) : Int) := by omega
  have h2 : i.toNat < xs.length := by omega
  rw [e]
  refine atI_nat ?_
  rw [List.getElem?_eq_getElem h2, Int.toNat_natCast, List.getD_eq_getElem?_getD, List.getElem?_eq_getElem h2]
  rfl
theorem atI_hd {v : V} {xs : List V} : atI (v :: xs) 0 = some v := atI_nat (j := 0) rfl
theorem at_strs (l : List Str) {i : Int} (h0 : 0 ≤ i) (h1 : i < l.length) : atI (l.map V.str) i = some (.str (l.getD i.toNat "")) := by
  have e : i = ((i.toNat : Nat) : Int) := by omega
  have h2 : i.toNat < l.length := by omega
  rw [e]
  refine atI_nat ?_
  rw [List.getElem?_map, List.getElem?_eq_getElem h2, Int.toNat_natCast, List.getD_eq_getElem?_getD, List.getElem?_eq_getElem h2]
  rfl
theorem at_ints (l : List Int) {i : Int} (h0 : 0 ≤ i) (h1 : i < l.length) : atI (l.map V.int) i = some (.int (l.getD i.toNat 0)) := by
  have e : i = ((i.toNat : Nat) : Int) := by omega
  have h2 : i.toNat < l.length := by omega
  rw [e]
  refine atI_nat ?_
  rw [List.getElem?_map, List.getElem?_eq_getElem h2, Int.toNat_natCast, List.getD_eq_getElem?_getD, List.getElem?_eq_getElem h2]
  rfl
/-! ### rows made -/
section
variable {K : PySem.W.Frag} {σ : L2.St} {H H' : Hp} {ta tb te tr tw tt : TE} {r : Rw} {rs ss : List Rw}
theorem er_nil : EvAP tNil σ H (fun vs H2 => Rows H2 vs []) := fun H1 _ _ q => q [] H1 (Ex.refl H1) .nil
theorem er_cons {tr : TA} (h : EvP te σ H (ARow r)) (h2 : EvAP tr σ H (fun vs H2 => Rows H2 vs rs)) : EvAP (tCons te tr) σ H (fun vs H2 => Rows H2 vs (r :: rs)) := fun H1 e _ q =>
  h H1 e _ fun v H2 e2 hv => h2 H2 (e.trans e2) _ fun vs H3 e3 hvs => q _ H3 (e2.trans e3) (.cons (IsRow.up e3 hv) hvs)
theorem elr_lst {ta : TA} (h : EvAP ta σ H (fun vs H2 => Rows H2 vs rs)) (hl : rs.length ≤ 100000) : EvP (tLst ta) σ H (LRows rs) := fun H1 e _ q =>
  h H1 e _ fun vs H2 e2 hv => ⟨sz_of (by rw [hv.len]; exact hl), fun p hp => q _ _ (e2.trans (Ex.new hp)) ⟨p, vs, rfl, upd_same, hv.up (Ex.new hp)⟩⟩
theorem LRows.up {v : V} (e : Ex H H') (h : LRows rs v H) : LRows rs v H' := by
  obtain ⟨p, vs, h1, h2, h3⟩ := h
  exact ⟨p, vs, h1, e _ _ h2, h3.up e⟩
theorem elr_cat (ha : EvP ta σ H (LRows rs)) (hb : EvP tb σ H (LRows ss)) (hl : rs.length + ss.length ≤ 100000) : EvP (tOp rCat ta tb) σ H (LRows (rs ++ ss)) := fun H1 e Q q =>
  ha H1 e _ fun v H2 e2 hv => hb H2 (e.trans e2) _ fun u H3 e3 hu => by
    obtain ⟨p, vs, rfl, h1, h2⟩ := hv
    obtain ⟨p', us, rfl, h3, h4⟩ := hu
    refine ⟨p, p', vs, us, rfl, rfl, e3 _ _ h1, h3, sz_of (by rw [h2.len, h4.len]; exact hl), fun z hz => q _ _ (e2.trans (e3.trans (Ex.new hz))) ⟨z, _, rfl, upd_same, Rows.append ((h2.up e3).up (Ex.new hz)) (h4.up (Ex.new hz))⟩⟩
theorem er_var {i : Nat} {v : V} (h : σ[i]? = some (some v)) (hr : IsRow H v r) : EvP (tVar i) σ H (ARow r) := fun H1 e Q q => ⟨v, h, q v H1 (Ex.refl H1) (hr.up e)⟩
theorem elr_var {i : Nat} {v : V} (h : σ[i]? = some (some v)) (hr : LRows rs v H) : EvP (tVar i) σ H (LRows rs) := fun H1 e Q q => ⟨v, h, q v H1 (Ex.refl H1) (hr.up e)⟩
theorem er_tup {ta : TA} {xs : List V} (h : EvA ta σ H xs) (hl : xs.length ≤ 100000) (k : ∀ p H2, H2 p = some (.tup xs) → IsRow H2 (.ref p) r) : EvP (tTup ta) σ H (ARow r) := fun H1 e _ q =>
  h H1 e _ fun H2 e2 => ⟨sz_of hl, fun p hp => q _ _ (e2.trans (Ex.new hp)) (k p _ upd_same)⟩
theorem er_lendT {ta : TA} {h k : Str} {n : Int} (a : EvA ta σ H [.str "lend", .str h, .str k, .int n]) : EvP (tTup ta) σ H (ARow (.lend h k (.thing n))) := er_tup a (Nat.le_of_ble_eq_true rfl) fun p _ e => ⟨p, rfl, e⟩
theorem er_lendW {ta : TA} {h k : Str} {n : Str} (a : EvA ta σ H [.str "lend", .str h, .str k, .str n]) : EvP (tTup ta) σ H (ARow (.lend h k (.word n))) := er_tup a (Nat.le_of_ble_eq_true rfl) fun p _ e => ⟨p, rfl, e⟩
theorem er_either {ta : TA} (a : EvA ta σ H [.str "either"]) : EvP (tTup ta) σ H (ARow .either) := er_tup a (Nat.le_of_ble_eq_true rfl) fun p _ e => ⟨p, rfl, e⟩
theorem er_or {ta : TA} (a : EvA ta σ H [.str "or"]) : EvP (tTup ta) σ H (ARow .or) := er_tup a (Nat.le_of_ble_eq_true rfl) fun p _ e => ⟨p, rfl, e⟩
theorem er_again {ta : TA} (a : EvA ta σ H [.str "again"]) : EvP (tTup ta) σ H (ARow .again) := er_tup a (Nat.le_of_ble_eq_true rfl) fun p _ e => ⟨p, rfl, e⟩
theorem er_fin {ta : TA} (a : EvA ta σ H [.str "end"]) : EvP (tTup ta) σ H (ARow .fin) := er_tup a (Nat.le_of_ble_eq_true rfl) fun p _ e => ⟨p, rfl, e⟩
theorem er_back {ta : TA} {h : Str} (a : EvA ta σ H [.str "back", .str h]) : EvP (tTup ta) σ H (ARow (.back h)) := er_tup a (Nat.le_of_ble_eq_true rfl) fun p _ e => ⟨p, rfl, e⟩
theorem er_look {ta : TA} {h : Str} (a : EvA ta σ H [.str "look", .str h]) : EvP (tTup ta) σ H (ARow (.look h)) := er_tup a (Nat.le_of_ble_eq_true rfl) fun p _ e => ⟨p, rfl, e⟩
theorem er_change {ta : TA} {h : Str} (a : EvA ta σ H [.str "change", .str h]) : EvP (tTup ta) σ H (ARow (.change h)) := er_tup a (Nat.le_of_ble_eq_true rfl) fun p _ e => ⟨p, rfl, e⟩
theorem er_pick {tt : TA} {w : Str} {vs : List V} {ts : List Int} (a : Ev tw σ H (.str w)) (b : EvA tt σ H vs) (e : vs = ts.map V.int) (hl : vs.length ≤ 100000) : EvP (tTup (tCons (tC (.str "pick")) (tCons tw (tCons (tTup tt) tNil)))) σ H (ARow (.pick w ts)) := fun H1 e1 _ q =>
  a H1 e1 _ fun H2 e2 => b H2 (e1.trans e2) _ fun H3 e3 => ⟨sz_of hl, fun y hy => ⟨by show 3 ≤ sizeLine; decide, fun x hx => q _ _ (((e2.trans e3).trans (Ex.new hy)).trans (Ex.new hx)) ⟨x, y, rfl, upd_same, by
    subst e
    exact Ex.new hx _ _ upd_same⟩⟩⟩
end
def rTupS (K : PySem.W.Frag) : List V → Hp → VK → Prop := fun xs H Q => ∃ p ys, xs = [.ref p] ∧ ((SqL K H p ys ∧ ∀ l, H l = none → Q (.ref l) (upd H l (.tup ys))) ∨ (SqT K H p ys ∧ Q (.ref p) H))
section
variable {K : PySem.W.Frag} {σ : L2.St} {H H' : Hp} {ta tb te tr tw tl : TE} {t : TT} {r : Rw} {rs ss : List Rw}
theorem eu_tuple {xs : List V} (h : EvL ta σ H xs) : EvU (tCB (rTupS K) (tCons ta tNil)) σ H xs := fun H1 e Q q =>
  h H1 e _ fun p H2 hp e2 h2 => ⟨p, xs, rfl, .inl ⟨sq_of h2, fun l hl => q l _ (fresh_back e2 hl) (e2.trans (Ex.new hl)) upd_same⟩⟩
theorem et_yes : EvT tYes σ H true := fun H1 _ Q q => q H1 (Ex.refl H1)
theorem er_pickV {ta : TA} {w : Str} {q : Addr} {ts : List Int} (a : EvA ta σ H [.str "pick", .str w, .ref q]) (hq : H q = some (.tup (ts.map V.int))) : EvP (tTup ta) σ H (ARow (.pick w ts)) := fun H1 e1 _ k =>
  a H1 e1 _ fun H2 e2 => ⟨by show 3 ≤ sizeLine; decide, fun x hx => k _ _ (e2.trans (Ex.new hx)) ⟨x, q, rfl, upd_same, (Ex.new hx) _ _ ((e1.trans e2) _ _ hq)⟩⟩
theorem ev_tag {i : Nat} {x : V} (h : σ[i]? = some (some x)) (hr : IsRow H x r) : Ev (tOp (rIxT K) (tVar i) (tC (.int 0))) σ H (.str r.tag) := by
  obtain ⟨p, xs, rfl, hp⟩ := hr.tup
  exact ev_ixT (ev_var h) (st_of hp) ev_c (atI_nat (j := 0) rfl)
theorem given_rows {f : Nat → Bool} {v : Nat → V} {p : Rw → Bool} {vs : List V} (hR : Rows H vs rs) (hf : ∀ i r, rs[i]? = some r → f i = p r) (hv : ∀ i x, vs[i]? = some x → v i = x) : ∀ n, n ≤ rs.length → Rows H (given n f v) ((rs.take n).filter p)
  | 0, _ => .nil
  | n + 1, h => by
    have hn : n < rs.length := h
    obtain ⟨x, hx, hX⟩ := hR.get (List.getElem?_eq_getElem hn)
    have ih := given_rows hR hf hv n (by omega)
    have e1 : f n = p rs[n] := hf n _ (List.getElem?_eq_getElem hn)
    rw [List.take_add_one, List.getElem?_eq_getElem hn, List.filter_append]
    cases hp : p rs[n] with
    | true =>
      rw [given_yes (by rw [e1, hp]), hv n x hx]
      refine Rows.append ih ?_
      rw [show (some rs[n]).toList = [rs[n]] from rfl, List.filter_cons, if_pos hp]
      exact .cons hX .nil
    | false =>
      rw [given_no (by rw [e1, hp])]
      rw [show (some rs[n]).toList = [rs[n]] from rfl, List.filter_cons, if_neg (by rw [hp]; decide)]
      show Rows H _ (_ ++ [])
      rw [List.append_nil]
      exact ih
/-- [x for x in rows if p x] -/
theorem elr_filter {a : Addr} {vs : List V} {j : Nat} {ws : List Nat} {p : Rw → Bool} (h : Ev tl σ H (.ref a)) (hx : SqL K H a vs) (hR : Rows H vs rs) (hz : vs.length ≤ 40000) (hw : ∀ x, wipe ((wipe σ ws).set j (some x)) ws = wipe σ ws)
    (ht : ∀ x r H1, Ex H H1 → IsRow H1 x r → EvT t ((wipe σ ws).set j (some x)) H1 (p r)) (hj : ∀ x, ((wipe σ ws).set j (some x))[j]? = some (some x)) :
    ∃ us, EvL (tLc (iList K tl) (gName j) t (tVar j) ws) σ H us ∧ Rows H us (rs.filter p) := by
  have hl := hR.len
  refine ⟨given vs.length (fun i => p (rs.getD i .fin)) (fun i => vs.getD i .non), el_lcL _ _ h hx hz hw (fun i x H1 e hi => ?_) (fun i x H1 e hi _ => ?_), ?_⟩
  · obtain ⟨r, hr, hX⟩ := hR.at hi
    rw [List.getD_eq_getElem?_getD, hr]
    exact ht x r H1 e (hX.up e)
  · rw [List.getD_eq_getElem?_getD, hi]
    exact ev_var (hj x)
  · have := given_rows (f := fun i => p (rs.getD i .fin)) (v := fun i => vs.getD i .non) (p := p) hR (fun i r hr => by rw [List.getD_eq_getElem?_getD, hr]; rfl) (fun i x hx => by rw [List.getD_eq_getElem?_getD, hx]; rfl) rs.length (Nat.le_refl _)
    rw [List.take_length] at this
    rw [hl]
    exact this
end
section
variable {K : PySem.W.Frag} {σ : L2.St} {H H' : Hp} {ta tb te tr tw tl : TE} {t : TT} {r : Rw} {rs ss : List Rw} {D : Ends} {tz : TS}
theorem epl_filter (p : Rw → Bool) {a : Addr} {vs : List V} {j : Nat} {ws : List Nat} (h : Ev tl σ H (.ref a)) (hx : SqL K H a vs) (hR : Rows H vs rs) (hz : vs.length ≤ 40000) (hw : ∀ x, wipe ((wipe σ ws).set j (some x)) ws = wipe σ ws)
    (ht : ∀ x r H1, Ex H H1 → IsRow H1 x r → EvT t ((wipe σ ws).set j (some x)) H1 (p r)) (hj : ∀ x, ((wipe σ ws).set j (some x))[j]? = some (some x)) :
    EvPL (tLc (iList K tl) (gName j) t (tVar j) ws) σ H (fun us H2 => Rows H2 us (rs.filter p)) := fun H1 e Q q => by
  obtain ⟨us, h1, h2⟩ := elr_filter h hx hR hz hw ht hj
  exact h1 H1 e Q fun p H2 hp e2 hq => q p us H2 hp e2 hq (h2.up (e.trans e2))
theorem q_asgPL {i : Nat} {R : List V → Hp → Prop} (h : EvPL te σ H R) (k : ∀ p us H1, H p = none → Ex H H1 → H1 p = some (.lst us) → R us H1 → tz D (σ.set i (some (.ref p))) H1) : tSeq (tAsg te (gName i)) tz D σ H :=
  h H (Ex.refl H) _ fun p us H1 hp e h1 hr => k p us H1 hp e h1 hr
end
section
variable {K : PySem.W.Frag} {σ : L2.St} {H H' : Hp} {ta tb te tr tw tl : TE} {t : TT} {r : Rw} {rs ss : List Rw} {D : Ends} {tz : TS}
theorem s_asgPL {i : Nat} {R : List V → Hp → Prop} (h : EvPL te σ H R) (k : ∀ p us H1, H p = none → Ex H H1 → H1 p = some (.lst us) → R us H1 → D.nx (σ.set i (some (.ref p))) H1) : tAsg te (gName i) D σ H :=
  h H (Ex.refl H) _ fun p us H1 hp e h1 hr => k p us H1 hp e h1 hr
theorem elr_catL (ha : EvP ta σ H (LRows rs)) (hb : EvP tb σ H (LRows ss)) (hl : rs.length + ss.length ≤ 100000) : EvPL (tOp rCat ta tb) σ H (fun us H2 => Rows H2 us (rs ++ ss)) := fun H1 e Q q =>
  ha H1 e _ fun v H2 e2 hv => hb H2 (e.trans e2) _ fun u H3 e3 hu => by
    obtain ⟨p, vs, rfl, h1, h2⟩ := hv
    obtain ⟨p', us, rfl, h3, h4⟩ := hu
    refine ⟨p, p', vs, us, rfl, rfl, e3 _ _ h1, h3, sz_of (by rw [h2.len, h4.len]; exact hl), fun z hz => q z _ _ (fresh_back (e2.trans e3) hz) (e2.trans (e3.trans (Ex.new hz))) upd_same (Rows.append ((h2.up e3).up (Ex.new hz)) (h4.up (Ex.new hz)))⟩
theorem ep_PL {rs : List Rw} (h : EvPL te σ H (fun us H2 => Rows H2 us rs)) : EvP te σ H (LRows rs) := fun H1 e Q q => h H1 e Q fun p us H2 _ e2 h2 hr => q _ H2 e2 ⟨p, us, rfl, h2, hr⟩
theorem s_pop {l : Addr} {xs : List V} (hl : H l = some (.lst xs)) (ha : Ev ta σ H (.ref l)) (hz : 0 < xs.length) (k : ∀ H1, Ex H H1 → D.nx σ (upd H1 l (.lst xs.dropLast))) : tDrop (tBM0 K "list" rPop ta) D σ H := ha H (Ex.refl H) _ fun H1 e1 =>
  ⟨Or.inl ⟨rfl, xs, sq_of (e1 l _ hl)⟩, l, xs, xs[xs.length - 1]'(by omega), rfl, rfl, e1 l _ hl, List.getElem?_eq_getElem (by omega), k H1 e1⟩
theorem q_pop {l : Addr} {xs : List V} (hl : H l = some (.lst xs)) (ha : Ev ta σ H (.ref l)) (hz : 0 < xs.length) (k : ∀ H1, Ex H H1 → tz D σ (upd H1 l (.lst xs.dropLast))) : tSeq (tDrop (tBM0 K "list" rPop ta)) tz D σ H := s_pop (D := { D with nx := tz D }) hl ha hz k
/-- [row for x in xs], a new row each -/
theorem epl_map {a : Addr} {xs : List V} {j : Nat} {ws : List Nat} (g : Nat → Rw) (h : Ev tl σ H (.ref a)) (hx : SqL K H a xs) (hz : xs.length ≤ 40000) (hw : ∀ x, wipe ((wipe σ ws).set j (some x)) ws = wipe σ ws)
    (he : ∀ i x H1, Ex H H1 → xs[i]? = some x → EvP te ((wipe σ ws).set j (some x)) H1 (ARow (g i))) : EvPL (tLc (iList K tl) (gName j) tYes te ws) σ H (fun us H2 => Rows H2 us ((List.range xs.length).map g)) := fun H0 e Q q => h H0 e _ fun H1 e1 => ⟨a, rfl, ⟨xs, ex_l (e.trans e1) hx⟩, fun Dl hD =>
  lc_list (K := K) (a := a) (xs := xs) (fun i H' => H1 Dl = none ∧ Ex H1 H' ∧ ∃ acc, H' Dl = some (.lst acc) ∧ Rows H' acc ((List.range i).map g)) ⟨hD, Ex.new hD, [], upd_same, .nil⟩ (fun i H' _ p => ex_l ((e.trans e1).trans p.2.1) hx)
    (fun i x H' hi p => ⟨hw x, by
      obtain ⟨p1, p2, acc, p3, p4⟩ := p
      have hil : i < xs.length := (List.getElem?_eq_some_iff.mp hi).1
      have hal : acc.length = i := by rw [p4.len, List.length_map, List.length_range]
      show te ((wipe σ ws).set j (some x)) H' fun y H4 => ∃ acc, H4 Dl = some (.lst acc) ∧ acc.length < sizeLine ∧ (H1 Dl = none ∧ Ex H1 (upd H4 Dl (.lst (acc ++ [y]))) ∧ ∃ acc2, (upd H4 Dl (.lst (acc ++ [y]))) Dl = some (.lst acc2) ∧ Rows (upd H4 Dl (.lst (acc ++ [y]))) acc2 ((List.range (i + 1)).map g))
      refine he i x H' ((e.trans e1).trans p2) hi H' (Ex.refl H') _ fun y H4 e4 hy => ⟨acc, e4 _ _ p3, sz_lt (by omega), p1, Ex.mut (p2.trans e4) p1, acc ++ [y], upd_same, ?_⟩
      have x4 : ExT H4 (upd H4 Dl (.lst (acc ++ [y]))) := ExT.lst (e4 _ _ p3)
      rw [List.range_succ, List.map_append]
      exact Rows.append ((p4.up e4).upT x4) (.cons (IsRow.upT x4 hy) .nil)⟩) (fun H' p => by
      obtain ⟨p1, p2, acc, p3, p4⟩ := p
      exact q Dl acc H' (fresh_back e1 p1) (e1.trans p2) p3 p4)⟩
end
section
variable {K : PySem.W.Frag} {σ : L2.St} {H H' : Hp} {ta tb te tr tw tl : TE} {t : TT} {r : Rw} {rs ss : List Rw} {D : Ends} {tz tu : TS}
/-- for i, x in enumerate(xs) -/
theorem q_forE {a : Addr} {xs : List V} {j k : Nat} (h : Ev tl σ H (.ref a)) (hx : SqL K H a xs) (Pv : Nat → L2.St → Hp → Prop) (h0 : ∀ H1, Ex H H1 → Pv 0 σ H1) (hl : ∀ i σ' H', i ≤ xs.length → Pv i σ' H' → SqL K H' a xs)
    (hs : ∀ (i : Nat) x σ' H' H2, xs[i]? = some x → Pv i σ' H' → Ex H' H2 → tu { D with nx := Pv (i + 1), ct := Pv (i + 1), bk := tz D } ((σ'.set j (some (.int (i : Int)))).set k (some x)) H2) (hd : ∀ σ' H', Pv xs.length σ' H' → tz D σ' H') :
    tSeq (tFor (iEnum K (tCons tl tNil)) (gTup K 2 (gCons (gName j) (gCons (gName k) gNil))) tu) tz D σ H :=
  h H (Ex.refl H) _ fun H1 e => ⟨a, xs, rfl, ex_l e hx, for_it (D := { D with nx := tz D }) walk_enum Pv (h0 H1 e) hl (fun i v σ' H' H2 hi p y => by
    obtain ⟨T, x1, x2, rfl, hT, rfl, e1, e2⟩ := y
    cases e1
    exact ⟨T, [.int (i : Int), x2], rfl, SqT.of upd_same, rfl, _, _, rfl, _, _, rfl, rfl, hs i x2 σ' H' _ e2 p (Ex.new hT)⟩) hd⟩
theorem q_forEN {xs : List V} {j k : Nat} (h : EvL tl σ H xs) (Pv : Addr → Nat → L2.St → Hp → Prop) (h0 : ∀ p H1, H p = none → Ex H H1 → H1 p = some (.lst xs) → Pv p 0 σ H1) (hl : ∀ p i σ' H', i ≤ xs.length → Pv p i σ' H' → SqL K H' p xs)
    (hs : ∀ p (i : Nat) x σ' H' H2, xs[i]? = some x → Pv p i σ' H' → Ex H' H2 → tu { D with nx := Pv p (i + 1), ct := Pv p (i + 1), bk := tz D } ((σ'.set j (some (.int (i : Int)))).set k (some x)) H2) (hd : ∀ p σ' H', Pv p xs.length σ' H' → tz D σ' H') :
    tSeq (tFor (iEnum K (tCons tl tNil)) (gTup K 2 (gCons (gName j) (gCons (gName k) gNil))) tu) tz D σ H :=
  h H (Ex.refl H) _ fun p H1 hp e h1 => ⟨p, xs, rfl, sq_of h1, for_it (D := { D with nx := tz D }) walk_enum (Pv p) (h0 p H1 hp e h1) (hl p) (fun i v σ' H' H2 hi q y => by
    obtain ⟨T, x1, x2, rfl, hT, rfl, e1, e2⟩ := y
    cases e1
    exact ⟨T, [.int (i : Int), x2], rfl, SqT.of upd_same, rfl, _, _, rfl, _, _, rfl, rfl, hs p i x2 σ' H' _ e2 q (Ex.new hT)⟩) (hd p)⟩
end
theorem given_all (n : Nat) (v : Nat → V) : given n (fun _ => true) v = (List.range n).map v := by
  unfold given
  rw [List.filter_eq_self.mpr (fun _ _ => rfl)]
theorem tag_named (r : Rw) : inV (.str r.tag) [V.str "lend", V.str "pick"] = r.named := by cases r <;> rfl
theorem tag_opens (r : Rw) : inV (.str r.tag) [V.str "lend", V.str "pick", V.str "either", V.str "again"] = r.opens := by cases r <;> rfl
theorem tag_lend (r : Rw) : decide (V.str r.tag = V.str "lend") = r.isLend := by cases r <;> rfl
theorem tag_fin (r : Rw) : decide (V.str r.tag = V.str "end") = r.isFin := by cases r <;> rfl
theorem tag_or (r : Rw) : decide (V.str r.tag = V.str "or") = r.isOr := by cases r <;> rfl
theorem tag_either (r : Rw) : decide (V.str r.tag = V.str "either") = r.isEither := by cases r <;> rfl
theorem rows_last {H : Hp} {vs : List V} {rs : List Rw} (h : Rows H vs rs) (h1 : 0 < vs.length) : ∃ x, atI vs (-1) = some x ∧ IsRow H x (rs.getD (rs.length - 1) .fin) := by
  have hl := h.len
  have h2 : rs.length - 1 < rs.length := by omega
  obtain ⟨x, hx, hr⟩ := h.get (List.getElem?_eq_getElem h2)
  have hne : vs ≠ [] := fun z => by
    subst z
    simp at h1
  refine ⟨x, ?_, ?_⟩
  · have e : vs = vs.dropLast ++ [x] := by
      have h3 := List.dropLast_concat_getLast hne
      have h4 : vs.getLast hne = x := by
        rw [List.getLast_eq_getElem]
        have := (List.getElem?_eq_some_iff.mp hx).2
        rw [← this]
        congr 1
        omega
      rw [h4] at h3
      exact h3.symm
    rw [e]
    exact atI_last _ _
  · rw [List.getD_eq_getElem?_getD, List.getElem?_eq_getElem h2]
    exact hr
/-! ### menus -/
def kindM (x : Int) : Str := if x % 2 = 0 then "read" else "write"
def pick2 {α : Type} (x : Int) (a b : α) : α := if x % 2 = 0 then a else b
def pick3 {α : Type} (x : Int) (a b c : α) : α := if x % 3 = 0 then a else if x % 3 = 1 then b else c
theorem at_nat' {xs : List V} {z : Int} (j : Nat) {v : V} (e : z = (j : Int)) (h : xs[j]? = some v) : atI xs z = some v := by
  rw [e]
  exact atI_nat h
theorem at_kind {x : Int} : atI [V.str "read", V.str "write"] (x % 2) = some (V.str (kindM x)) := by
  unfold kindM
  by_cases h : x % 2 = 0
  · rw [if_pos h]; exact at_nat' 0 (by omega) rfl
  · rw [if_neg h]; exact at_nat' 1 (by omega) rfl
theorem at2s {a b : Str} {x : Int} : atI [V.str a, V.str b] (x % 2) = some (V.str (pick2 x a b)) := by
  unfold pick2
  by_cases h : x % 2 = 0
  · rw [if_pos h]; exact at_nat' 0 (by omega) rfl
  · rw [if_neg h]; exact at_nat' 1 (by omega) rfl
theorem at3s {a b c : Str} {x : Int} : atI [V.str a, V.str b, V.str c] (x % 3) = some (V.str (pick3 x a b c)) := by
  unfold pick3
  by_cases h : x % 3 = 0
  · rw [if_pos h]; exact at_nat' 0 (by omega) rfl
  · rw [if_neg h]
    by_cases h2 : x % 3 = 1
    · rw [if_pos h2]; exact at_nat' 1 (by omega) rfl
    · rw [if_neg h2]; exact at_nat' 2 (by omega) rfl
theorem at3i {a b c : Int} {x : Int} : atI [V.int a, V.int b, V.int c] (x % 3) = some (V.int (pick3 x a b c)) := by
  unfold pick3
  by_cases h : x % 3 = 0
  · rw [if_pos h]; exact at_nat' 0 (by omega) rfl
  · rw [if_neg h]
    by_cases h2 : x % 3 = 1
    · rw [if_pos h2]; exact at_nat' 1 (by omega) rfl
    · rw [if_neg h2]; exact at_nat' 2 (by omega) rfl
theorem dp_ints {K : PySem.W.Frag} {H : Hp} : ∀ ns : List Int, DpAll K H (ns.map V.int) (ns.map PyData.int)
  | [] => .nil
  | n :: r => .cons (.int n) (dp_ints r)
end BD
namespace BD
open PySem PySem.Spec PyProof.Rows L2 Evl
def topS (i : Nat) : Stmt := PySem.Challenge.pw_borrowdesk_k05_a_step.main.body.getD i (.Pass ⟨0, 0, 0, 0⟩)
local macro_rules | `(tactic| walk_at "ev") => `(tactic| first
  | ((with_reducible apply ev_var) ; rfl)
  | with_reducible exact ev_c
  | ((with_reducible apply ev_I0) <;> walk_at "ev")
  | ((with_reducible apply ev_e9) <;> walk_at "ev")
  | ((with_reducible apply ev_I) <;> walk_at "ev")
  | ((with_reducible apply ev_eq) <;> walk_at "ev")
  | ((with_reducible apply ev_ne) <;> walk_at "ev")
  | ((with_reducible apply ev_neg) <;> walk_at "ev")
  | ((with_reducible apply ev_ixN) <;> walk_at "ev")
  | ((with_reducible apply ev_ixL) <;> walk_at "ev")
  | ((with_reducible apply ev_inN) <;> walk_at "ev")
  | ((with_reducible apply ev_inT) <;> walk_at "ev")
  | ((with_reducible apply ev_ixT) <;> walk_at "ev")
  | ((with_reducible apply ev_ixS) <;> walk_at "ev")
  | ((with_reducible apply ev_len') <;> walk_at "ev")
  | ((with_reducible apply et_test) <;> walk_at "ev")
  | ((with_reducible apply et_and) <;> walk_at "ev")
  | ((with_reducible apply et_or) <;> walk_at "ev")
  | ((with_reducible apply et_not) <;> walk_at "ev")
  | ((with_reducible apply et_B) <;> walk_at "ev")
  | ((with_reducible apply el_lst) <;> walk_at "ev")
  | ((with_reducible apply eu_tup) <;> walk_at "ev")
  | ((with_reducible apply ea_cons) <;> walk_at "ev")
  | with_reducible exact ea_nil
  | with_reducible assumption
  | ((with_reducible apply ex_l' ; assumption) ; walk_at "ex")
  | ((with_reducible apply ex_t' ; assumption) ; walk_at "ex")
  | (intro _ ; walk_at "ev")
  | (with_reducible first | exact atI_hd | exact at_kind | exact at2s | exact at3s | exact at3i)
  | (first | exact rfl | exact Nat.le_of_ble_eq_true rfl | exact ⟨by decide, by decide⟩ | decide | exact Or.inl ⟨by omega, by omega⟩ | exact Or.inr ⟨by omega, by omega⟩ | omega)
  | skip)
local macro_rules | `(tactic| walk_at "ex") => `(tactic| first
  | assumption
  | exact Ex.refl _
  | (refine' Ex.trans ?_ (by assumption) ; walk_at "ex"))
local macro_rules | `(tactic| walk_at "row") => `(tactic| first
  | (with_reducible exact er_nil)
  | ((with_reducible apply er_cons) <;> walk_at "row")
  | (((with_reducible apply er_var) ; rfl) ; walk_at "isrow")
  | (((with_reducible apply elr_var) ; rfl) ; walk_at "isrow")
  | ((with_reducible apply elr_cat) <;> walk_at "row")
  | ((with_reducible apply elr_lst) <;> walk_at "row")
  | ((with_reducible apply er_fin) <;> walk_at "ev")
  | ((with_reducible apply er_lendT) <;> walk_at "ev")
  | ((with_reducible apply er_lendW) <;> walk_at "ev")
  | ((with_reducible apply er_pick) <;> walk_at "ev")
  | ((with_reducible apply er_either) <;> walk_at "ev")
  | ((with_reducible apply er_or) <;> walk_at "ev")
  | ((with_reducible apply er_again) <;> walk_at "ev")
  | ((with_reducible apply er_back) <;> walk_at "ev")
  | ((with_reducible apply er_look) <;> walk_at "ev")
  | ((with_reducible apply er_change) <;> walk_at "ev")
  | exact Nat.le_of_ble_eq_true rfl
  | skip)
local macro_rules | `(tactic| walk_at "isrow") => `(tactic| first
  | assumption
  | (refine IsRow.up ?_ (by assumption) ; walk_at "ex")
  | (refine LRows.up ?_ (by assumption) ; walk_at "ex"))

abbrev s_l_cell_at : Stmt := topS 15
theorem sc_l_cell_at : FnScope ["_law_script", "_law_k"] ["_law_script", "_law_k"] (defScope s_l_cell_at) := ⟨rfl, rfl, rfl, by decide +kernel, rfl, by decide +kernel, by decide +kernel⟩
abbrev s_l_thing : Stmt := topS 18
theorem sc_l_thing : FnScope ["_law_cell", "_law_base"] ["_law_cell", "_law_base"] (defScope s_l_thing) := ⟨rfl, rfl, rfl, by decide +kernel, rfl, by decide +kernel, by decide +kernel⟩
abbrev s_l_draw : Stmt := topS 17
theorem sc_l_draw : FnScope ["_law_script", "_law_base", "_law_style", "_law_size"] ["_law_script"] (defScope s_l_draw) := ⟨rfl, rfl, rfl, by decide +kernel, rfl, by decide +kernel, by decide +kernel⟩
section
variable {P : Program} {w : World} {K : PySem.W.Frag} {mg : Str → Option Value} {base : Heap}
def cellM (ns : List Int) (k : Int) : Int := ns.getD k.toNat 0
def spCell (K : PySem.W.Frag) : Sp := fun vs H Q _ => ∃ (a : Addr) (ns : List Int) (k : Int), vs = [.ref a, .int k] ∧ SqL K H a (ns.map V.int) ∧ 0 ≤ k ∧ RetV (.int (cellM ns k)) H Q
theorem ok_cell (D : Dn K mg "_law_cell_at" s_l_cell_at ["_law_script", "_law_k"]) (T : Blt mg) : Has P w K mg base "_law_cell_at" 1 ["_law_script", "_law_k"] (spCell K) := by
  refine D.ok sc_l_cell_at (fun vs H Q E h => ?_) (fun f cdv A outer s H vs Q E hr h => ?_)
  · obtain ⟨a, ns, k, rfl, _⟩ := h
    rfl
  · obtain ⟨a, ns, k, rfl, hS, h0, q⟩ := h
    refine ⟨_, (pss_cons (ps_if (pt_cmpR op_lt (pv 1) (pe_callB (show CallR _ _ (rLenS K) from call_len_seq) (by rfl) T.len_ (by decide +kernel) (pa_cons (pv 0) pa_nil)) (nomark _)) (pss_one (ps_ret (pe_ix (show IxR _ (rIxL K) from ix_list) (pv 0) (pv 1) (fun _ _ => rfl)))) pss_nil) (pss_one (ps_ret pe_int))), ?_⟩
    refine q_when (b := decide (k < ((ns.map V.int).length : Int))) ?_ (fun hb H1 e1 => ?_) (fun hb H1 e1 => ?_)
    · walk_at "ev"
    · have hb := of_decide_eq_true hb
      have hS := ex_l e1 hS
      refine s_ret (v := .int (cellM ns k)) ?_ (fun H2 e2 => q _ (e1.trans e2))
      rw [List.length_map] at hb
      walk_at "ev"
      exact at_ints ns h0 hb
    · have hb := of_decide_eq_false hb
      rw [List.length_map] at hb
      refine s_ret (v := .int 0) ?_ (fun H2 e2 => ?_)
      · walk_at "ev"
      · have := q H2 (e1.trans e2)
        unfold cellM at this
        rw [List.getD_eq_getElem?_getD, List.getElem?_eq_none (by omega)] at this
        exact this
theorem sp_cell {a : Addr} {ns : List Int} {k : Int} {H : Hp} (hS : SqL K H a (ns.map V.int)) (h0 : 0 ≤ k) : SpV (spCell K) [.ref a, .int k] H (.int (cellM ns k)) := fun H1 e Q q E =>
  ⟨a, ns, k, rfl, ex_l e hS, h0, q⟩
theorem ev_cell {a : Addr} {ns : List Int} {k : Int} {ta : TA} {σ : L2.St} {H : Hp} {E : XK} (h : EvA ta σ H [.ref a, .int k]) (hS : SqL K H a (ns.map V.int)) (h0 : 0 ≤ k) : Ev (tCall (spCell K) [] E ta) σ H (.int (cellM ns k)) :=
  ev_call h (sp_cell hS h0)
local macro_rules | `(tactic| walk_at "ev") => `(tactic| ((with_reducible apply ev_cell) <;> walk_at "ev"))
def thingM (c b : Int) : Int := if c % 8 = 7 then c / 8 % 1000000000 else (b + c % 3) % 1000000000
def spThing : Sp := fun vs H Q _ => ∃ (c b : Int), vs = [.int c, .int b] ∧ RetV (.int (thingM c b)) H Q
theorem ok_thing (D : Dn K mg "_law_thing" s_l_thing ["_law_cell", "_law_base"]) : Has P w K mg base "_law_thing" 1 ["_law_cell", "_law_base"] spThing := by
  refine D.ok sc_l_thing (fun vs H Q E h => ?_) (fun f cdv A outer s H vs Q E hr h => ?_)
  · obtain ⟨c, b, rfl, _⟩ := h
    rfl
  · obtain ⟨c, b, rfl, q⟩ := h
    refine ⟨_, (pss_cons (ps_if (pt_cmpR op_eq (pe_op op_mod (pv 0) pe_int) pe_int (nomark _)) (pss_one (ps_ret (pe_op op_mod (pe_op op_fdiv (pv 0) pe_int) (pe_op op_pow pe_int pe_int)))) pss_nil) (pss_one (ps_ret (pe_op op_mod (pe_op op_add (pv 1) (pe_op op_mod (pv 0) pe_int)) (pe_op op_pow pe_int pe_int))))), ?_⟩
    unfold thingM at q
    refine q_when (b := decide ((V.int (c % 8)) = V.int 7)) ?_ (fun hb H1 e1 => ?_) (fun hb H1 e1 => ?_)
    · walk_at "ev"
    · have hb := V.int.inj (of_decide_eq_true hb)
      rw [if_pos hb] at q
      refine s_ret ?_ (fun H2 e2 => q _ (e1.trans e2))
      walk_at "ev"
    · have hb : ¬ c % 8 = 7 := fun z => of_decide_eq_false hb (by rw [z])
      rw [if_neg hb] at q
      refine s_ret ?_ (fun H2 e2 => q _ (e1.trans e2))
      walk_at "ev"
theorem sp_thing {c b : Int} {H : Hp} : SpV spThing [.int c, .int b] H (.int (thingM c b)) := fun H1 e Q q E => ⟨c, b, rfl, q⟩
structure Draw where
  base : Int
  style : Int
  size : Int
  place : Int
  sign : Int
def Draw.vs (d : Draw) : List V := [.int d.base, .int d.style, .int d.size, .int d.place, .int d.sign]
structure Draw.Ok (d : Draw) : Prop where
  st0 : 0 ≤ d.style
  st4 : d.style < 4
  sz1 : 1 ≤ d.size
  sz12 : d.size ≤ 12
  pl0 : 0 ≤ d.place
  pl1 : d.place < d.size
  sg0 : 0 ≤ d.sign
  sg26 : d.sign < 26
def drawM (ns : List Int) : Draw where
  base := cellM ns 1 / 2 % 1000000000 * (cellM ns 1 % 2)
  style := cellM ns 2 / 8 % 4
  size := 1 + cellM ns 2 / 8 / 4 % 12
  place := cellM ns 1 % (1 + cellM ns 2 / 8 / 4 % 12)
  sign := cellM ns 0 % 26
theorem drawM_ok (ns : List Int) : (drawM ns).Ok := by
  have h : 0 < 1 + cellM ns 2 / 8 / 4 % 12 := by omega
  exact ⟨by show 0 ≤ cellM ns 2 / 8 % 4; omega, by show cellM ns 2 / 8 % 4 < 4; omega, by show 1 ≤ 1 + cellM ns 2 / 8 / 4 % 12; omega, by show 1 + cellM ns 2 / 8 / 4 % 12 ≤ 12; omega,
    Int.emod_nonneg _ (by omega), Int.emod_lt_of_pos _ h, by show 0 ≤ cellM ns 0 % 26; omega, by show cellM ns 0 % 26 < 26; omega⟩
def spDraw (K : PySem.W.Frag) : Sp := fun vs H Q _ => ∃ (a : Addr) (ns : List Int), vs = [.ref a] ∧ SqL K H a (ns.map V.int) ∧ RetL (drawM ns).vs H Q
theorem ok_draw (D : Dn K mg "_law_draw" s_l_draw ["_law_script"]) (h_l_cell_at : Has P w K mg base "_law_cell_at" 1 ["_law_script", "_law_k"] (spCell K)) : Has P w K mg base "_law_draw" 2 ["_law_script"] (spDraw K) := by
  refine D.ok sc_l_draw (fun vs H Q E h => ?_) (fun f cdv A outer s H vs Q E hr h => ?_)
  · obtain ⟨a, ns, rfl, _⟩ := h
    rfl
  · obtain ⟨a, ns, rfl, hS, q⟩ := h
    refine ⟨_, (pss_cons (ps_set (i := 1) sc_l_draw.nd rfl (Or.inl rfl) (pe_op op_mul (pe_op op_mod (pe_op op_fdiv (pe_own h_l_cell_at (hr.mono (by decide)) (by rfl) (pa_cons (pv 0) (pa_cons pe_int pa_nil))) pe_int) (pe_op op_pow pe_int pe_int)) (pe_op op_mod (pe_own h_l_cell_at (hr.mono (by decide)) (by rfl) (pa_cons (pv 0) (pa_cons pe_int pa_nil))) pe_int))) (pss_cons (ps_set (i := 2) sc_l_draw.nd rfl (Or.inl rfl) (pe_op op_fdiv (pe_own h_l_cell_at (hr.mono (by decide)) (by rfl) (pa_cons (pv 0) (pa_cons pe_int pa_nil))) pe_int)) (pss_cons (ps_set (i := 3) sc_l_draw.nd rfl (Or.inl rfl) (pe_op op_add pe_int (pe_op op_mod (pe_op op_fdiv (pv 2) pe_int) pe_int))) (pss_one (ps_ret (pe_lst (pa_cons (pv 1) (pa_cons (pe_op op_mod (pv 2) pe_int) (pa_cons (pv 3) (pa_cons (pe_op op_mod (pe_own h_l_cell_at (hr.mono (by decide)) (by rfl) (pa_cons (pv 0) (pa_cons pe_int pa_nil))) (pv 3)) (pa_cons (pe_op op_mod (pe_own h_l_cell_at (hr.mono (by decide)) (by rfl) (pa_cons (pv 0) (pa_cons pe_int pa_nil))) pe_int) pa_nil))))))))))), ?_⟩
    have hp : (0 : Int) < 1 + cellM ns 2 / 8 / 4 % 12 := by omega
    refine' q_asg ?_ (fun H1 e1 => ?_)
    rotate_left 1
    · walk_at "ev"
    refine' q_asg ?_ (fun H2 e2 => ?_)
    rotate_left 1
    · walk_at "ev"
    refine' q_asg ?_ (fun H3 e3 => ?_)
    rotate_left 1
    · walk_at "ev"
    refine s_retL (xs := (drawM ns).vs) ?_ (fun p H4 hp e4 h4 => q p H4 (fresh_back (show Ex H H3 by walk_at "ex") hp) (show Ex H H4 by walk_at "ex") h4)
    show EvL _ _ _ [.int (cellM ns 1 / 2 % 1000000000 * (cellM ns 1 % 2)), .int (cellM ns 2 / 8 % 4), .int (1 + cellM ns 2 / 8 / 4 % 12), .int (cellM ns 1 % (1 + cellM ns 2 / 8 / 4 % 12)), .int (cellM ns 0 % 26)]
    walk_at "ev"
end
end BD
namespace BD
open PySem PySem.Spec PyProof.Rows L2 Evl
local macro_rules | `(tactic| walk_at "ev") => `(tactic| first
  | ((with_reducible apply ev_var) ; rfl)
  | with_reducible exact ev_c
  | ((with_reducible apply ev_I0) <;> walk_at "ev")
  | ((with_reducible apply ev_e9) <;> walk_at "ev")
  | ((with_reducible apply ev_I) <;> walk_at "ev")
  | ((with_reducible apply ev_eq) <;> walk_at "ev")
  | ((with_reducible apply ev_ne) <;> walk_at "ev")
  | ((with_reducible apply ev_neg) <;> walk_at "ev")
  | ((with_reducible apply ev_ixN) <;> walk_at "ev")
  | ((with_reducible apply ev_ixL) <;> walk_at "ev")
  | ((with_reducible apply ev_inN) <;> walk_at "ev")
  | ((with_reducible apply ev_inT) <;> walk_at "ev")
  | ((with_reducible apply ev_ixT) <;> walk_at "ev")
  | ((with_reducible apply ev_ixS) <;> walk_at "ev")
  | ((with_reducible apply ev_len') <;> walk_at "ev")
  | ((with_reducible apply et_test) <;> walk_at "ev")
  | ((with_reducible apply et_and) <;> walk_at "ev")
  | ((with_reducible apply et_or) <;> walk_at "ev")
  | ((with_reducible apply et_not) <;> walk_at "ev")
  | ((with_reducible apply et_B) <;> walk_at "ev")
  | ((with_reducible apply el_lst) <;> walk_at "ev")
  | ((with_reducible apply eu_tup) <;> walk_at "ev")
  | ((with_reducible apply ea_cons) <;> walk_at "ev")
  | with_reducible exact ea_nil
  | with_reducible assumption
  | ((with_reducible apply ex_l' ; assumption) ; walk_at "ex")
  | ((with_reducible apply ex_t' ; assumption) ; walk_at "ex")
  | (intro _ ; walk_at "ev")
  | (with_reducible first | exact atI_hd | exact at_kind | exact at2s | exact at3s | exact at3i)
  | (first | exact rfl | exact Nat.le_of_ble_eq_true rfl | exact ⟨by decide, by decide⟩ | decide | exact Or.inl ⟨by omega, by omega⟩ | exact Or.inr ⟨by omega, by omega⟩ | omega)
  | skip)
local macro_rules | `(tactic| walk_at "ex") => `(tactic| first
  | assumption
  | exact Ex.refl _
  | (refine' Ex.trans ?_ (by assumption) ; walk_at "ex"))
local macro_rules | `(tactic| walk_at "row") => `(tactic| first
  | (with_reducible exact er_nil)
  | ((with_reducible apply er_cons) <;> walk_at "row")
  | (((with_reducible apply er_var) ; rfl) ; walk_at "isrow")
  | (((with_reducible apply elr_var) ; rfl) ; walk_at "isrow")
  | ((with_reducible apply elr_cat) <;> walk_at "row")
  | ((with_reducible apply elr_lst) <;> walk_at "row")
  | ((with_reducible apply er_fin) <;> walk_at "ev")
  | ((with_reducible apply er_lendT) <;> walk_at "ev")
  | ((with_reducible apply er_lendW) <;> walk_at "ev")
  | ((with_reducible apply er_pick) <;> walk_at "ev")
  | ((with_reducible apply er_either) <;> walk_at "ev")
  | ((with_reducible apply er_or) <;> walk_at "ev")
  | ((with_reducible apply er_again) <;> walk_at "ev")
  | ((with_reducible apply er_back) <;> walk_at "ev")
  | ((with_reducible apply er_look) <;> walk_at "ev")
  | ((with_reducible apply er_change) <;> walk_at "ev")
  | exact Nat.le_of_ble_eq_true rfl
  | skip)
local macro_rules | `(tactic| walk_at "isrow") => `(tactic| first
  | assumption
  | (refine IsRow.up ?_ (by assumption) ; walk_at "ex")
  | (refine LRows.up ?_ (by assumption) ; walk_at "ex"))

abbrev s_l_word : Stmt := topS 16
theorem sc_l_word : FnScope ["_law_one", "_law_two", "_law_deep", "_law_draw_here", "_law_letters", "_law_sign", "_law_found", "_law_k"] ["_law_one", "_law_two", "_law_deep", "_law_draw_here"] (defScope s_l_word) := ⟨rfl, rfl, rfl, by decide +kernel, rfl, by decide +kernel, by decide +kernel⟩
section
variable {P : Program} {w : World} {K : PySem.W.Frag} {mg : Str → Option Value} {base : Heap}
def mkS (l : List Nat) : Str := ⟨l.toArray⟩
theorem mkS_app (a b : List Nat) : mkS a ++ mkS b = mkS (a ++ b) := by
  show (⟨a.toArray ++ b.toArray⟩ : Str) = ⟨(a ++ b).toArray⟩
  rw [List.append_toArray]
theorem mkS_len (a : List Nat) : (mkS a).length = a.length := by
  show a.toArray.size = a.length
  exact List.size_toArray
theorem letters_at {i : Int} (h0 : 0 ≤ i) (h1 : i < 26) : atI ("abcdefghijklmnopqrstuvwxyz" : Str).cps.toList i = some (97 + i.toNat) := by
  have e : ("abcdefghijklmnopqrstuvwxyz" : Str).cps.toList = (List.range 26).map (97 + ·) := by decide +kernel
  rw [e]
  have e2 : i = ((i.toNat : Nat) : Int) := by omega
  have h2 : i.toNat < 26 := by omega
  rw [e2]
  refine atI_nat ?_
  rw [List.getElem?_map, List.getElem?_range h2, Int.toNat_natCast]
  rfl
theorem letters_len : ("abcdefghijklmnopqrstuvwxyz" : Str).length ≤ 100000 := by decide +kernel
theorem ev_letter {ta tb : TE} {σ : L2.St} {H : Hp} {i : Int} (ha : Ev ta σ H (.str "abcdefghijklmnopqrstuvwxyz")) (hb : Ev tb σ H (.int i)) (h0 : 0 ≤ i) (h1 : i < 26) : Ev (tOp rIxS ta tb) σ H (.str (mkS [97 + i.toNat])) :=
  ev_ixS ha hb letters_len (letters_at h0 h1)
local macro_rules | `(tactic| walk_at "ev") => `(tactic| ((with_reducible apply ev_letter) <;> walk_at "ev"))
def chM (one two deep : Int) (d : Draw) (k : Nat) : Nat :=
  if (k : Int) = d.place then 97 + ((d.sign + 5 * deep) % 26).toNat else if d.style = 1 then 97 + ((one + (k : Int) * two) % 26).toNat else 97 + d.size.toNat
def wordM (one two deep : Int) (d : Draw) : Str :=
  if d.style = 0 then Txt.mul (mkS [97 + (d.sign % 26).toNat]) (deep + 1) else mkS ((List.range d.size.toNat).map (chM one two deep d))
def spWord (K : PySem.W.Frag) : Sp := fun vs H Q _ => ∃ (one two deep : Int) (a : Addr) (d : Draw), vs = [.int one, .int two, .int deep, .ref a] ∧ SqL K H a d.vs ∧ d.Ok ∧ 0 ≤ deep ∧ deep ≤ 20 ∧ RetV (.str (wordM one two deep d)) H Q
theorem dvs0 {d : Draw} : atI d.vs 0 = some (.int d.base) := rfl
theorem dvs1 {d : Draw} : atI d.vs 1 = some (.int d.style) := rfl
theorem dvs2 {d : Draw} : atI d.vs 2 = some (.int d.size) := rfl
theorem dvs3 {d : Draw} : atI d.vs 3 = some (.int d.place) := rfl
theorem dvs4 {d : Draw} : atI d.vs 4 = some (.int d.sign) := rfl
theorem mulOk1 {c : Nat} {n : Int} (h0 : 1 ≤ n) (h1 : n ≤ 100) : MulOk (mkS [c]) n := by
  refine ⟨?_, fun _ _ => ?_, fun _ _ => ?_⟩
  · rw [decide_eq_false (by omega), decide_eq_false (by omega)]
    rfl
  · rw [mkS_len]
    show ¬ ((1 : Nat) : Int) > (2 ^ 63 - 1) / n
    have h2 : n * 1 ≤ 2 ^ 63 - 1 := by omega
    have h3 : (1 : Int) ≤ (2 ^ 63 - 1) / n := by
      rw [Int.le_ediv_iff_mul_le (by omega)]
      omega
    omega
  · rw [mkS_len]
    show Builtin.Str.tooLong (1 * n.toNat) = false
    unfold Builtin.Str.tooLong
    exact decide_eq_false (by
      have h4 : n.toNat ≤ 100 := by omega
      have h5 : (100 : Nat) < sizeLine := by decide
      omega)
theorem ok_word (D : Dn K mg "_law_word" s_l_word ["_law_one", "_law_two", "_law_deep", "_law_draw_here"]) (T : Blt mg) : Has P w K mg base "_law_word" 1 ["_law_one", "_law_two", "_law_deep", "_law_draw_here"] (spWord K) := by
  refine D.ok sc_l_word (fun vs H Q E h => ?_) (fun f cdv A outer s H vs Q E hr h => ?_)
  · obtain ⟨one, two, deep, a, d, rfl, _⟩ := h
    rfl
  · obtain ⟨one, two, deep, a, d, rfl, hS, ok, hd0, hd1, q⟩ := h
    obtain ⟨st0, st4, sz1, sz12, pl0, pl1, sg0, sg26⟩ := ok
    refine ⟨_, (pss_cons (ps_set (i := 4) sc_l_word.nd rfl (Or.inl rfl) pe_str) (pss_cons (ps_set (i := 5) sc_l_word.nd rfl (Or.inl rfl) (pe_ix ix_str (pv 4) (pe_op op_mod (pe_op op_add (pe_ix (show IxR _ (rIxL K) from ix_list) (pv 3) pe_int (fun _ _ => rfl)) (pe_op op_mul pe_int (pv 2))) pe_int) (fun _ _ => rfl))) (pss_cons (ps_if (pt_cmpR op_eq (pe_ix (show IxR _ (rIxL K) from ix_list) (pv 3) pe_int (fun _ _ => rfl)) pe_int (nomark _)) (pss_one (ps_ret (pe_op op_repS (pe_ix ix_str (pv 4) (pe_op op_mod (pe_ix (show IxR _ (rIxL K) from ix_list) (pv 3) pe_int (fun _ _ => rfl)) pe_int) (fun _ _ => rfl)) (pe_op op_add (pv 2) pe_int)))) pss_nil) (pss_cons (ps_set (i := 6) sc_l_word.nd rfl (Or.inl rfl) pe_str) (pss_cons (ps_for PassesOwn.never rfl (pi_range1 (by rfl) T.range_ (pa_cons (pe_ix (show IxR _ (rIxL K) from ix_list) (pv 3) pe_int (fun _ _ => rfl)) pa_nil)) (pg_name (i := 7) sc_l_word.nd rfl (Or.inl rfl)) (pss_one (ps_if (pt_cmpR op_eq (pv 7) (pe_ix (show IxR _ (rIxL K) from ix_list) (pv 3) pe_int (fun _ _ => rfl)) (nomark _)) (pss_one (ps_set (i := 6) sc_l_word.nd rfl (Or.inl rfl) (pe_op op_addT (pv 6) (pv 5)))) (pss_one (ps_if (pt_cmpR op_eq (pe_ix (show IxR _ (rIxL K) from ix_list) (pv 3) pe_int (fun _ _ => rfl)) pe_int (nomark _)) (pss_one (ps_set (i := 6) sc_l_word.nd rfl (Or.inl rfl) (pe_op op_addT (pv 6) (pe_ix ix_str (pv 4) (pe_op op_mod (pe_op op_add (pv 0) (pe_op op_mul (pv 7) (pv 1))) pe_int) (fun _ _ => rfl))))) (pss_one (ps_set (i := 6) sc_l_word.nd rfl (Or.inl rfl) (pe_op op_addT (pv 6) (pe_ix ix_str (pv 4) (pe_ix (show IxR _ (rIxL K) from ix_list) (pv 3) pe_int (fun _ _ => rfl)) (fun _ _ => rfl)))))))))) (pss_one (ps_ret (pv 6)))))))), ?_⟩
    refine' q_asg ev_c (fun H1 e1 => ?_)
    refine' q_asg (v := .str (mkS [97 + ((d.sign + 5 * deep) % 26).toNat])) ?_ (fun H2 e2 => ?_)
    · walk_at "ev"
    refine q_when (b := decide (V.int d.style = V.int 0)) ?_ (fun hb H3 e3 => ?_) (fun hb H3 e3 => ?_)
    · walk_at "ev"
    · have hb := V.int.inj (of_decide_eq_true hb)
      unfold wordM at q
      rw [if_pos hb] at q
      refine s_ret (v := .str (Txt.mul (mkS [97 + (d.sign % 26).toNat]) (deep + 1))) ?_ (fun H4 e4 => q H4 (by walk_at "ex"))
      refine ev_repS ?_ ?_ (mulOk1 (by omega) (by omega))
      · walk_at "ev"
      · walk_at "ev"
    · have hb : ¬ d.style = 0 := fun z => of_decide_eq_false hb (by rw [z])
      unfold wordM at q
      rw [if_neg hb] at q
      refine' q_asg ev_c (fun H4 e4 => ?_)
      refine q_forR1 (n := d.size) ?_ ⟨by omega, by omega⟩ (fun i σ' H' => Ex H4 H' ∧ ∃ x, σ' = [some (.int one), some (.int two), some (.int deep), some (.ref a), some (.str "abcdefghijklmnopqrstuvwxyz"), some (.str (mkS [97 + ((d.sign + 5 * deep) % 26).toNat])), some (.str (mkS ((List.range i).map (chM one two deep d)))), x]) ?_ ?_ ?_
      · walk_at "ev"
      · intro H5 e5
        exact ⟨e5, none, rfl⟩
      · rintro i σ' H' hi ⟨e5, x, rfl⟩
        have hS' : SqL K H' a d.vs := by walk_at "ev"
        have hl : (mkS ((List.range i).map (chM one two deep d))).length = i := by
          rw [mkS_len, List.length_map, List.length_range]
        have grow : ∀ c : Nat, chM one two deep d i = c → mkS ((List.range i).map (chM one two deep d)) ++ mkS [c] = mkS ((List.range (i + 1)).map (chM one two deep d)) := fun c hc => by
          rw [mkS_app, List.range_succ, List.map_append]
          show mkS (_ ++ [c]) = mkS (_ ++ [chM one two deep d i])
          rw [hc]
        refine s_if (b := decide (V.int (i : Int) = V.int d.place)) ?_ (fun hb2 H6 e6 => ?_) (fun hb2 H6 e6 => ?_)
        · walk_at "ev"
        · have hb2 := V.int.inj (of_decide_eq_true hb2)
          refine s_asg (v := .str (mkS ((List.range (i + 1)).map (chM one two deep d)))) ?_ (fun H7 e7 => ⟨by walk_at "ex", _, rfl⟩)
          rw [← grow _ (if_pos hb2)]
          refine ev_add _ _ ?_ ?_ (by rw [hl, mkS_len]; show i + 1 ≤ 100000; omega)
          · walk_at "ev"
          · walk_at "ev"
        · have hb2 : ¬ (i : Int) = d.place := fun z => of_decide_eq_false hb2 (by rw [z])
          refine s_if (b := decide (V.int d.style = V.int 1)) ?_ (fun hb3 H7 e7 => ?_) (fun hb3 H7 e7 => ?_)
          · walk_at "ev"
          · have hb3 := V.int.inj (of_decide_eq_true hb3)
            refine s_asg (v := .str (mkS ((List.range (i + 1)).map (chM one two deep d)))) ?_ (fun H8 e8 => ⟨by walk_at "ex", _, rfl⟩)
            rw [← grow _ ((if_neg hb2).trans (if_pos hb3))]
            refine ev_add _ _ ?_ ?_ (by rw [hl, mkS_len]; show i + 1 ≤ 100000; omega)
            · walk_at "ev"
            · walk_at "ev"
          · have hb3 : ¬ d.style = 1 := fun z => of_decide_eq_false hb3 (by rw [z])
            refine s_asg (v := .str (mkS ((List.range (i + 1)).map (chM one two deep d)))) ?_ (fun H8 e8 => ⟨by walk_at "ex", _, rfl⟩)
            rw [← grow _ ((if_neg hb2).trans (if_neg hb3))]
            refine ev_add _ _ ?_ ?_ (by rw [hl, mkS_len]; show i + 1 ≤ 100000; omega)
            · walk_at "ev"
            · walk_at "ev"
      · rintro σ' H' ⟨e5, x, rfl⟩
        refine s_ret (v := .str (mkS ((List.range d.size.toNat).map (chM one two deep d)))) ?_ (fun H4 e4 => q H4 (by walk_at "ex"))
        walk_at "ev"
theorem ev_word {one two deep : Int} {a : Addr} {d : Draw} {ta : TA} {σ : L2.St} {H : Hp} {E : XK} (h : EvA ta σ H [.int one, .int two, .int deep, .ref a]) (hS : SqL K H a d.vs) (ok : d.Ok) (h0 : 0 ≤ deep) (h1 : deep ≤ 20) :
    Ev (tCall (spWord K) [] E ta) σ H (.str (wordM one two deep d)) :=
  ev_call h fun H1 e Q q E => ⟨one, two, deep, a, d, rfl, ex_l e hS, ok, h0, h1, q⟩
end
end BD
namespace BD
open PySem PySem.Spec PyProof.Rows L2 Evl
/-! ### words and rows are well formed -/
def WordS (w : Str) : Prop := ∃ l : List Nat, w = mkS l ∧ 1 ≤ l.length ∧ l.length ≤ 12 ∧ ∀ c ∈ l, 97 ≤ c ∧ c ≤ 122
theorem fold_rep (c : Nat) : ∀ (n : Nat) (acc : List Nat), (List.replicate n #[c]).foldl (· ++ ·) acc.toArray = (acc ++ List.replicate n c).toArray
  | 0, acc => by simp
  | n + 1, acc => by
    rw [List.replicate_succ, List.foldl_cons]
    have e : acc.toArray ++ #[c] = (acc ++ [c]).toArray := by simp
    rw [e, fold_rep c n (acc ++ [c]), List.replicate_succ]
    simp
theorem mul_word {c : Nat} {n : Int} (h : 1 ≤ n) : Txt.mul (mkS [c]) n = mkS (List.replicate n.toNat c) := by
  unfold Txt.mul
  rw [if_neg (by omega)]
  by_cases h1 : n = 1
  · subst h1
    rfl
  · have e : (n == 1) = false := by simp [h1]
    have e2 : ((mkS [c]).length == 0) = false := rfl
    rw [e, e2]
    show (⟨(List.replicate n.toNat #[c]).foldl (· ++ ·) #[]⟩ : Str) = mkS (List.replicate n.toNat c)
    have := fold_rep c n.toNat []
    rw [List.nil_append] at this
    unfold mkS
    rw [← this]
theorem wordM_s {one two deep : Int} {d : Draw} (ok : d.Ok) (h0 : 0 ≤ deep) (h1 : deep ≤ 11) : WordS (wordM one two deep d) := by
  obtain ⟨st0, st4, sz1, sz12, pl0, pl1, sg0, sg26⟩ := ok
  unfold wordM
  split
  · rw [mul_word (by omega)]
    refine ⟨_, rfl, ?_, ?_, fun c hc => ?_⟩
    · rw [List.length_replicate]; omega
    · rw [List.length_replicate]; omega
    · have := (List.mem_replicate.mp hc).2
      subst this
      omega
  · refine ⟨_, rfl, ?_, ?_, fun c hc => ?_⟩
    · rw [List.length_map, List.length_range]; omega
    · rw [List.length_map, List.length_range]; omega
    · obtain ⟨k, _, rfl⟩ := List.mem_map.mp hc
      unfold chM
      split
      · omega
      split <;> omega
theorem word_ok {w : Str} (h : WordS w) : PyData.strOk w = true := by
  obtain ⟨l, rfl, _, _, hl⟩ := h
  unfold PyData.strOk mkS
  rw [List.all_toArray, List.all_eq_true]
  intro c hc
  have := hl c hc
  exact decide_eq_true (by omega)
end BD
namespace BD
open PySem PySem.Spec PyProof.Rows L2 Evl
local macro_rules | `(tactic| walk_at "ev") => `(tactic| first
  | ((with_reducible apply ev_var) ; rfl)
  | with_reducible exact ev_c
  | ((with_reducible apply ev_I0) <;> walk_at "ev")
  | ((with_reducible apply ev_e9) <;> walk_at "ev")
  | ((with_reducible apply ev_I) <;> walk_at "ev")
  | ((with_reducible apply ev_eq) <;> walk_at "ev")
  | ((with_reducible apply ev_ne) <;> walk_at "ev")
  | ((with_reducible apply ev_neg) <;> walk_at "ev")
  | ((with_reducible apply ev_ixN) <;> walk_at "ev")
  | ((with_reducible apply ev_ixL) <;> walk_at "ev")
  | ((with_reducible apply ev_inN) <;> walk_at "ev")
  | ((with_reducible apply ev_inT) <;> walk_at "ev")
  | ((with_reducible apply ev_ixT) <;> walk_at "ev")
  | ((with_reducible apply ev_ixS) <;> walk_at "ev")
  | ((with_reducible apply ev_len') <;> walk_at "ev")
  | ((with_reducible apply et_test) <;> walk_at "ev")
  | ((with_reducible apply et_and) <;> walk_at "ev")
  | ((with_reducible apply et_or) <;> walk_at "ev")
  | ((with_reducible apply et_not) <;> walk_at "ev")
  | ((with_reducible apply et_B) <;> walk_at "ev")
  | ((with_reducible apply el_lst) <;> walk_at "ev")
  | ((with_reducible apply eu_tup) <;> walk_at "ev")
  | ((with_reducible apply ea_cons) <;> walk_at "ev")
  | with_reducible exact ea_nil
  | with_reducible assumption
  | ((with_reducible apply ex_l' ; assumption) ; walk_at "ex")
  | ((with_reducible apply ex_t' ; assumption) ; walk_at "ex")
  | (intro _ ; walk_at "ev")
  | (with_reducible first | exact atI_hd | exact at_kind | exact at2s | exact at3s | exact at3i)
  | (first | exact rfl | exact Nat.le_of_ble_eq_true rfl | exact ⟨by decide, by decide⟩ | decide | exact Or.inl ⟨by omega, by omega⟩ | exact Or.inr ⟨by omega, by omega⟩ | omega)
  | skip)
local macro_rules | `(tactic| walk_at "ex") => `(tactic| first
  | assumption
  | exact Ex.refl _
  | (refine' Ex.trans ?_ (by assumption) ; walk_at "ex"))
local macro_rules | `(tactic| walk_at "row") => `(tactic| first
  | (with_reducible exact er_nil)
  | ((with_reducible apply er_cons) <;> walk_at "row")
  | (((with_reducible apply er_var) ; rfl) ; walk_at "isrow")
  | (((with_reducible apply elr_var) ; rfl) ; walk_at "isrow")
  | ((with_reducible apply elr_cat) <;> walk_at "row")
  | ((with_reducible apply elr_lst) <;> walk_at "row")
  | ((with_reducible apply er_fin) <;> walk_at "ev")
  | ((with_reducible apply er_lendT) <;> walk_at "ev")
  | ((with_reducible apply er_lendW) <;> walk_at "ev")
  | ((with_reducible apply er_pick) <;> walk_at "ev")
  | ((with_reducible apply er_either) <;> walk_at "ev")
  | ((with_reducible apply er_or) <;> walk_at "ev")
  | ((with_reducible apply er_again) <;> walk_at "ev")
  | ((with_reducible apply er_back) <;> walk_at "ev")
  | ((with_reducible apply er_look) <;> walk_at "ev")
  | ((with_reducible apply er_change) <;> walk_at "ev")
  | exact Nat.le_of_ble_eq_true rfl
  | skip)
local macro_rules | `(tactic| walk_at "isrow") => `(tactic| first
  | assumption
  | (refine IsRow.up ?_ (by assumption) ; walk_at "ex")
  | (refine LRows.up ?_ (by assumption) ; walk_at "ex"))

local macro_rules | `(tactic| walk_at "ev") => `(tactic| ((with_reducible apply ev_letter) <;> walk_at "ev"))
local macro_rules | `(tactic| walk_at "ev") => `(tactic| ((with_reducible apply ev_cell) <;> walk_at "ev"))
local macro_rules | `(tactic| walk_at "ev") => `(tactic| ((with_reducible apply ev_word) <;> walk_at "ev"))
abbrev s_l_lend : Stmt := topS 19
theorem sc_l_lend : FnScope ["_law_one", "_law_two", "_law_named", "_law_draw_here", "_law_kind", "_law_source", "_law_holder"] ["_law_one", "_law_two", "_law_named", "_law_draw_here"] (defScope s_l_lend) := ⟨rfl, rfl, rfl, by decide +kernel, rfl, by decide +kernel, by decide +kernel⟩
abbrev s_l_deed : Stmt := topS 20
theorem sc_l_deed : FnScope ["_law_one", "_law_two", "_law_hands_here", "_law_hand", "_law_word_here"] ["_law_one", "_law_two", "_law_hands_here"] (defScope s_l_deed) := ⟨rfl, rfl, rfl, by decide +kernel, rfl, by decide +kernel, by decide +kernel⟩
abbrev s_l_hands : Stmt := topS 22
theorem sc_l_hands : FnScope ["_law_one", "_law_two", "_law_deep", "_law_draw_here", "_law_found"] ["_law_one", "_law_two", "_law_deep", "_law_draw_here"] (defScope s_l_hands) := ⟨rfl, rfl, rfl, by decide +kernel, rfl, by decide +kernel, by decide +kernel⟩
section
variable {P : Program} {w : World} {K : PySem.W.Frag} {mg : Str → Option Value} {base : Heap}
theorem ev_thing {c b : Int} {ta : TA} {σ : L2.St} {H : Hp} {E : XK} (h : EvA ta σ H [.int c, .int b]) : Ev (tCall spThing [] E ta) σ H (.int (thingM c b)) := ev_call h sp_thing
local macro_rules | `(tactic| walk_at "ev") => `(tactic| ((with_reducible apply ev_thing) <;> walk_at "ev"))
theorem rows_at {H : Hp} {vs : List V} {rs : List Rw} {i : Int} (h : Rows H vs rs) (h0 : 0 ≤ i) (h1 : i < vs.length) : ∃ x, atI vs i = some x ∧ IsRow H x (rs.getD i.toNat .fin) := by
  have e : i = ((i.toNat : Nat) : Int) := by omega
  have h2 : i.toNat < rs.length := by
    rw [← h.len]
    omega
  obtain ⟨x, hx, hr⟩ := h.get (List.getElem?_eq_getElem h2)
  refine ⟨x, ?_, ?_⟩
  · rw [e]
    exact atI_nat hx
  · rw [List.getD_eq_getElem?_getD, List.getElem?_eq_getElem h2]
    exact hr
def lendM (one two : Int) (named : List Rw) (d : Draw) : Rw :=
  if one / 2 % 2 = 1 ∧ 0 < (named.length : Int) then
    .lend (wordM one two named.length d) (if (named.getD (two % named.length).toNat .fin).isLend = true ∧ (named.getD (two % named.length).toNat .fin).kind = "read" then "read" else kindM one) (.word (named.getD (two % named.length).toNat .fin).word)
  else .lend (wordM one two named.length d) (kindM one) (.thing (thingM two d.base))
def spLend (K : PySem.W.Frag) : Sp := fun vs H Q _ => ∃ (one two : Int) (n a : Addr) (ns : List V) (named : List Rw) (d : Draw), vs = [.int one, .int two, .ref n, .ref a] ∧ SqL K H n ns ∧ Rows H ns named ∧ (∀ r ∈ named, r.named = true) ∧ named.length ≤ 20 ∧
  SqL K H a d.vs ∧ d.Ok ∧ Ret (ARow (lendM one two named d)) H Q
theorem getD_mem {rs : List Rw} {i : Nat} (h : i < rs.length) : rs.getD i .fin ∈ rs := by
  rw [List.getD_eq_getElem?_getD, List.getElem?_eq_getElem h]
  exact List.getElem_mem h
theorem ok_lend (D : Dn K mg "_law_lend" s_l_lend ["_law_one", "_law_two", "_law_named", "_law_draw_here"]) (T : Blt mg) (h_l_thing : Has P w K mg base "_law_thing" 1 ["_law_cell", "_law_base"] spThing) (h_l_word : Has P w K mg base "_law_word" 1 ["_law_one", "_law_two", "_law_deep", "_law_draw_here"] (spWord K)) : Has P w K mg base "_law_lend" 2 ["_law_one", "_law_two", "_law_named", "_law_draw_here"] (spLend K) := by
  refine D.ok sc_l_lend (fun vs H Q E h => ?_) (fun f cdv A outer s H vs Q E hr h => ?_)
  · obtain ⟨one, two, n, a, ns, named, d, rfl, _⟩ := h
    rfl
  · obtain ⟨one, two, n, a, ns, named, d, rfl, hN, hR, hnm, hlen, hS, ok, q⟩ := h
    refine ⟨_, (pss_cons (ps_set (i := 4) sc_l_lend.nd rfl (Or.inl rfl) (pe_ix (show IxR _ (rIxL K) from ix_list) (pe_lst (pa_cons pe_str (pa_cons pe_str pa_nil))) (pe_op op_mod (pv 0) pe_int) (fun _ _ => rfl))) (pss_cons (ps_set (i := 5) sc_l_lend.nd rfl (Or.inl rfl) (pe_own h_l_thing (hr.mono (by decide)) (by rfl) (pa_cons (pv 1) (pa_cons (pe_ix (show IxR _ (rIxL K) from ix_list) (pv 3) pe_int (fun _ _ => rfl)) pa_nil)))) (pss_cons (ps_if (PW.pt (pw_and (pt_cmpR op_eq (pe_op op_mod (pe_op op_fdiv (pv 0) pe_int) pe_int) pe_int (nomark _)) (pw_and1 (pt_cmpR op_gt (pe_callB (show CallR _ _ (rLenS K) from call_len_seq) (by rfl) T.len_ (by decide +kernel) (pa_cons (pv 2) pa_nil)) pe_int (nomark _))))) (pss_cons (ps_set (i := 6) sc_l_lend.nd rfl (Or.inl rfl) (pe_ix (show IxR _ (rIxL K) from ix_list) (pv 2) (pe_op op_mod (pv 1) (pe_callB (show CallR _ _ (rLenS K) from call_len_seq) (by rfl) T.len_ (by decide +kernel) (pa_cons (pv 2) pa_nil))) (fun _ _ => rfl))) (pss_cons (ps_set (i := 5) sc_l_lend.nd rfl (Or.inl rfl) (pe_ix (show IxR _ (rIxT K) from ix_tup) (pv 6) pe_int (fun _ _ => rfl))) (pss_one (ps_if (PW.pt (pw_and (pt_cmpR op_eq (pe_ix (show IxR _ (rIxT K) from ix_tup) (pv 6) pe_int (fun _ _ => rfl)) pe_str (nomark _)) (pw_and1 (pt_cmpR op_eq (pe_ix (show IxR _ (rIxT K) from ix_tup) (pv 6) pe_int (fun _ _ => rfl)) pe_str (nomark _))))) (pss_one (ps_set (i := 4) sc_l_lend.nd rfl (Or.inl rfl) pe_str)) pss_nil)))) pss_nil) (pss_one (ps_ret (pe_tup (pa_cons pe_str (pa_cons (pe_own h_l_word (hr.mono (by decide)) (by rfl) (pa_cons (pv 0) (pa_cons (pv 1) (pa_cons (pe_callB (show CallR _ _ (rLenS K) from call_len_seq) (by rfl) T.len_ (by decide +kernel) (pa_cons (pv 2) pa_nil)) (pa_cons (pv 3) pa_nil))))) (pa_cons (pv 4) (pa_cons (pv 5) pa_nil)))))))))), ?_⟩
    have hl : ns.length = named.length := hR.len
    unfold lendM at q
    rw [← hl] at q hlen
    refine' q_asg (v := .str (kindM one)) ?_ (fun H1 e1 => ?_)
    · walk_at "ev"
    refine' q_asg (v := .int (thingM two d.base)) ?_ (fun H2 e2 => ?_)
    · walk_at "ev"
    refine' q_when ?_ (fun hb H3 e3 => ?_) (fun hb H3 e3 => ?_)
    rotate_left 1
    · walk_at "ev"
    · simp only [Bool.and_eq_true, decide_eq_true_eq, V.int.injEq] at hb
      rw [if_pos hb] at q
      have hpos : (0 : Int) < ns.length := hb.2
      obtain ⟨x, hx, hX⟩ := rows_at hR (i := two % ns.length) (Int.emod_nonneg _ (by omega)) (Int.emod_lt_of_pos _ hpos)
      have hm : named.getD (two % ns.length).toNat .fin ∈ named := getD_mem (by
        have := Int.emod_lt_of_pos two hpos
        have := Int.emod_nonneg two (show (ns.length : Int) ≠ 0 by omega)
        omega)
      have hnamed := hnm _ hm
      generalize named.getD (two % ns.length).toNat .fin = h at *
      cases h with
      | lend hh hk hs =>
        obtain ⟨p, rfl, hp⟩ := hX
        have hP : SqT K H p [.str "lend", .str hh, .str hk, hs.v] := st_of hp
        refine' q_asg (v := .ref p) ?_ (fun H4 e4 => ?_)
        · walk_at "ev"
        refine' q_asg (v := .str hh) ?_ (fun H5 e5 => ?_)
        · walk_at "ev"
        refine' q_when ?_ (fun hb2 H6 e6 => ?_) (fun hb2 H6 e6 => ?_)
        rotate_left 1
        · walk_at "ev"
        · simp only [Bool.and_eq_true, decide_eq_true_eq, V.str.injEq] at hb2
          rw [if_pos ⟨rfl, hb2.2⟩] at q
          refine' q_asg ev_c (fun H7 e7 => ?_)
          refine s_retP ?_ (fun v H8 e8 hv => q v H8 (by walk_at "ex") hv)
          walk_at "row"
        · simp only [Bool.and_eq_false_iff, decide_eq_false_iff_not, V.str.injEq] at hb2
          have hk2 : ¬ (True ∧ hk = "read") := fun z => by
            rcases hb2 with hb2 | hb2
            · exact hb2 (by first | trivial | rfl)
            · exact hb2 z.2
          rw [if_neg (fun z => hk2 ⟨trivial, z.2⟩)] at q
          refine s_retP ?_ (fun v H8 e8 hv => q v H8 (by walk_at "ex") hv)
          walk_at "row"
      | pick hh ts =>
        obtain ⟨p, pq, rfl, hp, _⟩ := hX
        have hP : SqT K H p [.str "pick", .str hh, .ref pq] := st_of hp
        refine' q_asg (v := .ref p) ?_ (fun H4 e4 => ?_)
        · walk_at "ev"
        refine' q_asg (v := .str hh) ?_ (fun H5 e5 => ?_)
        · walk_at "ev"
        refine' q_when (b := false) ?_ (fun hb2 H6 e6 => ?_) (fun hb2 H6 e6 => ?_)
        · refine et_is (et_and (a := false) (b := false) ?_ (fun z => by cases z)) rfl
          refine et_is ?_ (show decide (V.str "pick" = V.str "lend") = false by decide +kernel)
          walk_at "ev"
        · cases hb2
        · rw [if_neg (fun z => by cases z.1)] at q
          refine s_retP ?_ (fun v H8 e8 hv => q v H8 (by walk_at "ex") hv)
          walk_at "row"
      | _ => cases hnamed
    · simp only [Bool.and_eq_false_iff, decide_eq_false_iff_not, V.int.injEq] at hb
      rw [if_neg (fun z => hb.elim (fun y => y z.1) (fun y => y z.2))] at q
      refine s_retP ?_ (fun v H8 e8 hv => q v H8 (by walk_at "ex") hv)
      walk_at "row"
theorem ev_lend {one two : Int} {n a : Addr} {ns : List V} {named : List Rw} {d : Draw} {ta : TA} {σ : L2.St} {H : Hp} {E : XK} (h : EvA ta σ H [.int one, .int two, .ref n, .ref a]) (hN : SqL K H n ns) (hR : Rows H ns named)
    (hn : ∀ r ∈ named, r.named = true) (hl : named.length ≤ 20) (hS : SqL K H a d.vs) (ok : d.Ok) : EvP (tCall (spLend K) [] E ta) σ H (ARow (lendM one two named d)) :=
  ep_call h fun H1 e Q q E => ⟨one, two, n, a, ns, named, d, rfl, ex_l e hN, hR.up e, hn, hl, ex_l e hS, ok, q⟩
def deedM (one two : Int) (hands : List Rw) : Rw :=
  if one % 3 = 0 then .look (hands.getD (two % hands.length).toNat .fin).word
  else if one % 3 = 1 then .back (hands.getD (two % hands.length).toNat .fin).word
  else if (hands.getD (two % hands.length).toNat .fin).kind = "read" then .look (hands.getD (two % hands.length).toNat .fin).word else .change (hands.getD (two % hands.length).toNat .fin).word
def spDeed (K : PySem.W.Frag) : Sp := fun vs H Q _ => ∃ (one two : Int) (n : Addr) (ns : List V) (hands : List Rw), vs = [.int one, .int two, .ref n] ∧ SqL K H n ns ∧ Rows H ns hands ∧ (∀ r ∈ hands, r.isLend = true) ∧ 0 < hands.length ∧ Ret (ARow (deedM one two hands)) H Q
theorem ok_deed (D : Dn K mg "_law_deed" s_l_deed ["_law_one", "_law_two", "_law_hands_here"]) (T : Blt mg) : Has P w K mg base "_law_deed" 1 ["_law_one", "_law_two", "_law_hands_here"] (spDeed K) := by
  refine D.ok sc_l_deed (fun vs H Q E h => ?_) (fun f cdv A outer s H vs Q E hr h => ?_)
  · obtain ⟨one, two, n, ns, hands, rfl, _⟩ := h
    rfl
  · obtain ⟨one, two, n, ns, hands, rfl, hN, hR, hlend, hlen, q⟩ := h
    refine ⟨_, (pss_cons (ps_set (i := 3) sc_l_deed.nd rfl (Or.inl rfl) (pe_ix (show IxR _ (rIxL K) from ix_list) (pv 2) (pe_op op_mod (pv 1) (pe_callB (show CallR _ _ (rLenS K) from call_len_seq) (by rfl) T.len_ (by decide +kernel) (pa_cons (pv 2) pa_nil))) (fun _ _ => rfl))) (pss_cons (ps_set (i := 4) sc_l_deed.nd rfl (Or.inl rfl) (pe_ix (show IxR _ (rIxL K) from ix_list) (pe_lst (pa_cons pe_str (pa_cons pe_str (pa_cons pe_str pa_nil)))) (pe_op op_mod (pv 0) pe_int) (fun _ _ => rfl))) (pss_cons (ps_if (PW.pt (pw_and (pt_cmpR op_eq (pv 4) pe_str (nomark _)) (pw_and1 (pt_cmpR op_eq (pe_ix (show IxR _ (rIxT K) from ix_tup) (pv 3) pe_int (fun _ _ => rfl)) pe_str (nomark _))))) (pss_one (ps_set (i := 4) sc_l_deed.nd rfl (Or.inl rfl) pe_str)) pss_nil) (pss_one (ps_ret (pe_tup (pa_cons (pv 4) (pa_cons (pe_ix (show IxR _ (rIxT K) from ix_tup) (pv 3) pe_int (fun _ _ => rfl)) pa_nil)))))))), ?_⟩
    have hl : ns.length = hands.length := hR.len
    unfold deedM at q
    rw [← hl] at q hlen
    have hpos : (0 : Int) < ns.length := by omega
    obtain ⟨x, hx, hX⟩ := rows_at hR (i := two % ns.length) (Int.emod_nonneg _ (by omega)) (Int.emod_lt_of_pos _ hpos)
    have hm : hands.getD (two % ns.length).toNat .fin ∈ hands := getD_mem (by
      have := Int.emod_lt_of_pos two hpos
      have := Int.emod_nonneg two (show (ns.length : Int) ≠ 0 by omega)
      omega)
    have hnamed := hlend _ hm
    generalize hands.getD (two % ns.length).toNat .fin = h at *
    cases h with
    | lend hh hk hs =>
      obtain ⟨p, rfl, hp⟩ := hX
      have hP : SqT K H p [.str "lend", .str hh, .str hk, hs.v] := st_of hp
      refine' q_asg (v := .ref p) ?_ (fun H1 e1 => ?_)
      · walk_at "ev"
      refine' q_asg (v := .str (pick3 one "look" "back" "change")) ?_ (fun H2 e2 => ?_)
      · walk_at "ev"
      by_cases h0 : one % 3 = 0
      · rw [if_pos h0] at q
        have e0 : pick3 one ("look" : Str) "back" "change" = "look" := if_pos h0
        rw [e0]
        refine' q_when (b := false) ?_ (fun hb2 H6 e6 => ?_) (fun hb2 H6 e6 => ?_)
        · refine et_is (et_and (a := false) (b := false) ?_ (fun z => by cases z)) rfl
          refine et_is ?_ (show decide (V.str "look" = V.str "change") = false by decide +kernel)
          walk_at "ev"
        · cases hb2
        · refine s_retP ?_ (fun v H8 e8 hv => q v H8 (by walk_at "ex") hv)
          walk_at "row"
      · rw [if_neg h0] at q
        by_cases h1 : one % 3 = 1
        · rw [if_pos h1] at q
          have e0 : pick3 one ("look" : Str) "back" "change" = "back" := (if_neg h0).trans (if_pos h1)
          rw [e0]
          refine' q_when (b := false) ?_ (fun hb2 H6 e6 => ?_) (fun hb2 H6 e6 => ?_)
          · refine et_is (et_and (a := false) (b := false) ?_ (fun z => by cases z)) rfl
            refine et_is ?_ (show decide (V.str "back" = V.str "change") = false by decide +kernel)
            walk_at "ev"
          · cases hb2
          · refine s_retP ?_ (fun v H8 e8 hv => q v H8 (by walk_at "ex") hv)
            walk_at "row"
        · rw [if_neg h1] at q
          have e0 : pick3 one ("look" : Str) "back" "change" = "change" := (if_neg h0).trans (if_neg h1)
          rw [e0]
          refine' q_when ?_ (fun hb2 H6 e6 => ?_) (fun hb2 H6 e6 => ?_)
          rotate_left 1
          · walk_at "ev"
          · simp only [Bool.and_eq_true, decide_eq_true_eq, V.str.injEq] at hb2
            rw [if_pos (show (Rw.lend hh hk hs).kind = _ from hb2.2)] at q
            refine s_asg ev_c (fun H7 e7 => ?_)
            dsimp only
            refine s_retP ?_ (fun v H8 e8 hv => q v H8 (by walk_at "ex") hv)
            walk_at "row"
          · simp only [Bool.and_eq_false_iff, decide_eq_false_iff_not, V.str.injEq] at hb2
            have hk2 : ¬ (hk = "read") := fun z => by
              rcases hb2 with hb2 | hb2
              · exact hb2 (by first | trivial | rfl)
              · exact hb2 z
            rw [if_neg (show ¬ (Rw.lend hh hk hs).kind = _ from hk2)] at q
            refine s_retP ?_ (fun v H8 e8 hv => q v H8 (by walk_at "ex") hv)
            walk_at "row"
    | _ => cases hnamed
theorem ev_deed {one two : Int} {n : Addr} {ns : List V} {hands : List Rw} {ta : TA} {σ : L2.St} {H : Hp} {E : XK} (h : EvA ta σ H [.int one, .int two, .ref n]) (hN : SqL K H n ns) (hR : Rows H ns hands)
    (hn : ∀ r ∈ hands, r.isLend = true) (hl : 0 < hands.length) : EvP (tCall (spDeed K) [] E ta) σ H (ARow (deedM one two hands)) :=
  ep_call h fun H1 e Q q E => ⟨one, two, n, ns, hands, rfl, ex_l e hN, hR.up e, hn, hl, q⟩
theorem el_catV {ta tb : TE} {σ : L2.St} {H : Hp} {p : Addr} {xs ys : List V} (ha : Ev ta σ H (.ref p)) (hp : H p = some (.lst xs)) (hb : EvL tb σ H ys) (hl : xs.length + ys.length ≤ 100000) : EvL (tOp rCat ta tb) σ H (xs ++ ys) := fun H1 e Q q =>
  ha H1 e _ fun H2 e2 => hb H2 (e.trans e2) _ fun u H3 _ e3 hu => ⟨p, u, xs, ys, rfl, rfl, (e.trans (e2.trans e3)) _ _ hp, hu, sz_of hl, fun z hz => q z _ (fresh_back (e2.trans e3) hz) (e2.trans (e3.trans (Ex.new hz))) upd_same⟩
def namesM (one two deep : Int) (d : Draw) : List V := [.str (wordM one two deep d), .str (wordM two one (deep + 1) d), .str (wordM one one (deep + 2) d)]
def spHands (K : PySem.W.Frag) : Sp := fun vs H Q _ => ∃ (one two deep : Int) (a : Addr) (d : Draw), vs = [.int one, .int two, .int deep, .ref a] ∧ SqL K H a d.vs ∧ d.Ok ∧ 0 ≤ deep ∧ deep ≤ 18 ∧ RetL (namesM one two deep d) H Q
theorem ok_hands (D : Dn K mg "_law_hands" s_l_hands ["_law_one", "_law_two", "_law_deep", "_law_draw_here"]) (h_l_word : Has P w K mg base "_law_word" 1 ["_law_one", "_law_two", "_law_deep", "_law_draw_here"] (spWord K)) : Has P w K mg base "_law_hands" 2 ["_law_one", "_law_two", "_law_deep", "_law_draw_here"] (spHands K) := by
  refine D.ok sc_l_hands (fun vs H Q E h => ?_) (fun f cdv A outer s H vs Q E hr h => ?_)
  · obtain ⟨one, two, deep, a, d, rfl, _⟩ := h
    rfl
  · obtain ⟨one, two, deep, a, d, rfl, hS, ok, h0, h1, q⟩ := h
    refine ⟨_, (pss_cons (ps_set (i := 4) sc_l_hands.nd rfl (Or.inl rfl) (pe_lst (pa_cons (pe_own h_l_word (hr.mono (by decide)) (by rfl) (pa_cons (pv 0) (pa_cons (pv 1) (pa_cons (pv 2) (pa_cons (pv 3) pa_nil))))) (pa_cons (pe_own h_l_word (hr.mono (by decide)) (by rfl) (pa_cons (pv 1) (pa_cons (pv 0) (pa_cons (pe_op op_add (pv 2) pe_int) (pa_cons (pv 3) pa_nil))))) pa_nil)))) (pss_one (ps_ret (pe_op op_cat (pv 4) (pe_lst (pa_cons (pe_own h_l_word (hr.mono (by decide)) (by rfl) (pa_cons (pv 0) (pa_cons (pv 0) (pa_cons (pe_op op_add (pv 2) pe_int) (pa_cons (pv 3) pa_nil))))) pa_nil)))))), ?_⟩
    refine q_asgL (xs := [.str (wordM one two deep d), .str (wordM two one (deep + 1) d)]) ?_ (fun p H1 hp0 e1 hp => ?_)
    · walk_at "ev"
    refine s_retL (xs := namesM one two deep d) ?_ (fun p2 H2 hp2 e2 h2 => q p2 H2 (fresh_back e1 hp2) (by walk_at "ex") h2)
    refine el_catV (p := p) (xs := [.str (wordM one two deep d), .str (wordM two one (deep + 1) d)]) (ys := [.str (wordM one one (deep + 2) d)]) ?_ hp ?_ (by show 3 ≤ 100000; decide)
    · walk_at "ev"
    · walk_at "ev"
end
end BD
namespace BD
open PySem PySem.Spec PyProof.Rows L2 Evl
local macro_rules | `(tactic| walk_at "ev") => `(tactic| first
  | ((with_reducible apply ev_var) ; rfl)
  | with_reducible exact ev_c
  | ((with_reducible apply ev_I0) <;> walk_at "ev")
  | ((with_reducible apply ev_e9) <;> walk_at "ev")
  | ((with_reducible apply ev_I) <;> walk_at "ev")
  | ((with_reducible apply ev_eq) <;> walk_at "ev")
  | ((with_reducible apply ev_ne) <;> walk_at "ev")
  | ((with_reducible apply ev_neg) <;> walk_at "ev")
  | ((with_reducible apply ev_ixN) <;> walk_at "ev")
  | ((with_reducible apply ev_ixL) <;> walk_at "ev")
  | ((with_reducible apply ev_inN) <;> walk_at "ev")
  | ((with_reducible apply ev_inT) <;> walk_at "ev")
  | ((with_reducible apply ev_ixT) <;> walk_at "ev")
  | ((with_reducible apply ev_ixS) <;> walk_at "ev")
  | ((with_reducible apply ev_len') <;> walk_at "ev")
  | ((with_reducible apply et_test) <;> walk_at "ev")
  | ((with_reducible apply et_and) <;> walk_at "ev")
  | ((with_reducible apply et_or) <;> walk_at "ev")
  | ((with_reducible apply et_not) <;> walk_at "ev")
  | ((with_reducible apply et_B) <;> walk_at "ev")
  | ((with_reducible apply el_lst) <;> walk_at "ev")
  | ((with_reducible apply eu_tup) <;> walk_at "ev")
  | ((with_reducible apply ea_cons) <;> walk_at "ev")
  | with_reducible exact ea_nil
  | with_reducible assumption
  | ((with_reducible apply ex_l' ; assumption) ; walk_at "ex")
  | ((with_reducible apply ex_t' ; assumption) ; walk_at "ex")
  | (intro _ ; walk_at "ev")
  | (with_reducible first | exact atI_hd | exact at_kind | exact at2s | exact at3s | exact at3i)
  | (first | exact rfl | exact Nat.le_of_ble_eq_true rfl | exact ⟨by decide, by decide⟩ | decide | exact Or.inl ⟨by omega, by omega⟩ | exact Or.inr ⟨by omega, by omega⟩ | omega)
  | skip)
local macro_rules | `(tactic| walk_at "ex") => `(tactic| first
  | assumption
  | exact Ex.refl _
  | (refine' Ex.trans ?_ (by assumption) ; walk_at "ex"))
local macro_rules | `(tactic| walk_at "row") => `(tactic| first
  | (with_reducible exact er_nil)
  | ((with_reducible apply er_cons) <;> walk_at "row")
  | (((with_reducible apply er_var) ; rfl) ; walk_at "isrow")
  | (((with_reducible apply elr_var) ; rfl) ; walk_at "isrow")
  | ((with_reducible apply elr_cat) <;> walk_at "row")
  | ((with_reducible apply elr_lst) <;> walk_at "row")
  | ((with_reducible apply er_fin) <;> walk_at "ev")
  | ((with_reducible apply er_lendT) <;> walk_at "ev")
  | ((with_reducible apply er_lendW) <;> walk_at "ev")
  | ((with_reducible apply er_pick) <;> walk_at "ev")
  | ((with_reducible apply er_either) <;> walk_at "ev")
  | ((with_reducible apply er_or) <;> walk_at "ev")
  | ((with_reducible apply er_again) <;> walk_at "ev")
  | ((with_reducible apply er_back) <;> walk_at "ev")
  | ((with_reducible apply er_look) <;> walk_at "ev")
  | ((with_reducible apply er_change) <;> walk_at "ev")
  | exact Nat.le_of_ble_eq_true rfl
  | skip)
local macro_rules | `(tactic| walk_at "isrow") => `(tactic| first
  | assumption
  | (refine IsRow.up ?_ (by assumption) ; walk_at "ex")
  | (refine LRows.up ?_ (by assumption) ; walk_at "ex"))

local macro_rules | `(tactic| walk_at "ev") => `(tactic| ((with_reducible apply ev_letter) <;> walk_at "ev"))
local macro_rules | `(tactic| walk_at "ev") => `(tactic| ((with_reducible apply ev_cell) <;> walk_at "ev"))
local macro_rules | `(tactic| walk_at "ev") => `(tactic| ((with_reducible apply ev_word) <;> walk_at "ev"))
local macro_rules | `(tactic| walk_at "ev") => `(tactic| ((with_reducible apply ev_thing) <;> walk_at "ev"))

abbrev s_l_first_four : Stmt := topS 23
theorem sc_l_first_four : FnScope ["_law_way", "_law_one", "_law_two", "_law_names", "_law_thing_here", "_law_a", "_law_b", "_law_c", "_law_kind", "_law_end", "_law_rows", "_law_first"] ["_law_way", "_law_one", "_law_two", "_law_names", "_law_thing_here"] (defScope s_l_first_four) := ⟨rfl, rfl, rfl, by decide +kernel, rfl, by decide +kernel, by decide +kernel⟩
abbrev s_l_gadget : Stmt := topS 24
theorem sc_l_gadget : FnScope ["_law_one", "_law_two", "_law_deep", "_law_draw_here", "_law_names", "_law_a", "_law_b", "_law_thing_here", "_law_far", "_law_last_here", "_law_kind", "_law_end", "_law_way", "_law_rows"] ["_law_one", "_law_two", "_law_deep", "_law_draw_here"] (defScope s_l_gadget) := ⟨rfl, rfl, rfl, by decide +kernel, rfl, by decide +kernel, by decide +kernel⟩
section
variable {P : Program} {w : World} {K : PySem.W.Frag} {mg : Str → Option Value} {base : Heap}
def fourM (way one two : Int) (a b c : Str) (t : Int) : List Rw :=
  if way = 0 then [.lend a (kindM (one / 8)) (.thing t), .again, .look a, .back a, .fin, .fin]
  else if way = 1 then [.lend a (kindM (one / 8)) (.thing t), .either, .back a, .or, .look a, .fin] ++ [.look a, .fin]
  else if way = 2 then [.lend a "write" (.thing t), .lend b "write" (.word a), .lend c (kindM (one / 8)) (.word b)] ++ [.back (pick3 two a b a), .look (pick3 one c c b), .fin, .fin, .fin]
  else [.lend a "write" (.thing t), .lend b "read" (.word a), .lend c (kindM two) (.thing t), .again] ++ [.back b, .fin, .fin, .fin, .fin]
def spFour (K : PySem.W.Frag) : Sp := fun vs H Q _ => ∃ (way one two t : Int) (p : Addr) (a b c : Str), vs = [.int way, .int one, .int two, .ref p, .int t] ∧ SqL K H p [.str a, .str b, .str c] ∧ Ret (LRows (fourM way one two a b c t)) H Q
theorem ok_four (D : Dn K mg "_law_first_four" s_l_first_four ["_law_way", "_law_one", "_law_two", "_law_names", "_law_thing_here"]) : Has P w K mg base "_law_first_four" 1 ["_law_way", "_law_one", "_law_two", "_law_names", "_law_thing_here"] (spFour K) := by
  refine D.ok sc_l_first_four (fun vs H Q E h => ?_) (fun f cdv A outer s H vs Q E hr h => ?_)
  · obtain ⟨way, one, two, t, p, a, b, c, rfl, _⟩ := h
    rfl
  · obtain ⟨way, one, two, t, p, a, b, c, rfl, hS, q⟩ := h
    refine ⟨_, (pss_cons (ps_set (i := 5) sc_l_first_four.nd rfl (Or.inl rfl) (pe_ix (show IxR _ (rIxL K) from ix_list) (pv 3) pe_int (fun _ _ => rfl))) (pss_cons (ps_set (i := 6) sc_l_first_four.nd rfl (Or.inl rfl) (pe_ix (show IxR _ (rIxL K) from ix_list) (pv 3) pe_int (fun _ _ => rfl))) (pss_cons (ps_set (i := 7) sc_l_first_four.nd rfl (Or.inl rfl) (pe_ix (show IxR _ (rIxL K) from ix_list) (pv 3) pe_int (fun _ _ => rfl))) (pss_cons (ps_set (i := 8) sc_l_first_four.nd rfl (Or.inl rfl) (pe_ix (show IxR _ (rIxL K) from ix_list) (pe_lst (pa_cons pe_str (pa_cons pe_str pa_nil))) (pe_op op_mod (pe_op op_fdiv (pv 1) pe_int) pe_int) (fun _ _ => rfl))) (pss_cons (ps_set (i := 9) sc_l_first_four.nd rfl (Or.inl rfl) (pe_tup (pa_cons pe_str pa_nil))) (pss_cons (ps_if (pt_cmpR op_eq (pv 0) pe_int (nomark _)) (pss_one (ps_ret (pe_lst (pa_cons (pe_tup (pa_cons pe_str (pa_cons (pv 5) (pa_cons (pv 8) (pa_cons (pv 4) pa_nil))))) (pa_cons (pe_tup (pa_cons pe_str pa_nil)) (pa_cons (pe_tup (pa_cons pe_str (pa_cons (pv 5) pa_nil))) (pa_cons (pe_tup (pa_cons pe_str (pa_cons (pv 5) pa_nil))) (pa_cons (pv 9) (pa_cons (pv 9) pa_nil))))))))) pss_nil) (pss_cons (ps_if (pt_cmpR op_eq (pv 0) pe_int (nomark _)) (pss_cons (ps_set (i := 10) sc_l_first_four.nd rfl (Or.inl rfl) (pe_lst (pa_cons (pe_tup (pa_cons pe_str (pa_cons (pv 5) (pa_cons (pv 8) (pa_cons (pv 4) pa_nil))))) (pa_cons (pe_tup (pa_cons pe_str pa_nil)) (pa_cons (pe_tup (pa_cons pe_str (pa_cons (pv 5) pa_nil))) (pa_cons (pe_tup (pa_cons pe_str pa_nil)) (pa_cons (pe_tup (pa_cons pe_str (pa_cons (pv 5) pa_nil))) (pa_cons (pv 9) pa_nil)))))))) (pss_one (ps_ret (pe_op op_cat (pv 10) (pe_lst (pa_cons (pe_tup (pa_cons pe_str (pa_cons (pv 5) pa_nil))) (pa_cons (pv 9) pa_nil))))))) pss_nil) (pss_cons (ps_set (i := 11) sc_l_first_four.nd rfl (Or.inl rfl) (pe_tup (pa_cons pe_str (pa_cons (pv 5) (pa_cons pe_str (pa_cons (pv 4) pa_nil)))))) (pss_cons (ps_if (pt_cmpR op_eq (pv 0) pe_int (nomark _)) (pss_cons (ps_set (i := 10) sc_l_first_four.nd rfl (Or.inl rfl) (pe_lst (pa_cons (pv 11) (pa_cons (pe_tup (pa_cons pe_str (pa_cons (pv 6) (pa_cons pe_str (pa_cons (pv 5) pa_nil))))) (pa_cons (pe_tup (pa_cons pe_str (pa_cons (pv 7) (pa_cons (pv 8) (pa_cons (pv 6) pa_nil))))) pa_nil))))) (pss_one (ps_ret (pe_op op_cat (pv 10) (pe_lst (pa_cons (pe_tup (pa_cons pe_str (pa_cons (pe_ix (show IxR _ (rIxL K) from ix_list) (pe_lst (pa_cons (pv 5) (pa_cons (pv 6) (pa_cons (pv 5) pa_nil)))) (pe_op op_mod (pv 2) pe_int) (fun _ _ => rfl)) pa_nil))) (pa_cons (pe_tup (pa_cons pe_str (pa_cons (pe_ix (show IxR _ (rIxL K) from ix_list) (pe_lst (pa_cons (pv 7) (pa_cons (pv 7) (pa_cons (pv 6) pa_nil)))) (pe_op op_mod (pv 1) pe_int) (fun _ _ => rfl)) pa_nil))) (pa_cons (pv 9) (pa_cons (pv 9) (pa_cons (pv 9) pa_nil)))))))))) pss_nil) (pss_cons (ps_set (i := 10) sc_l_first_four.nd rfl (Or.inl rfl) (pe_lst (pa_cons (pv 11) (pa_cons (pe_tup (pa_cons pe_str (pa_cons (pv 6) (pa_cons pe_str (pa_cons (pv 5) pa_nil))))) (pa_cons (pe_tup (pa_cons pe_str (pa_cons (pv 7) (pa_cons (pe_ix (show IxR _ (rIxL K) from ix_list) (pe_lst (pa_cons pe_str (pa_cons pe_str pa_nil))) (pe_op op_mod (pv 2) pe_int) (fun _ _ => rfl)) (pa_cons (pv 4) pa_nil))))) (pa_cons (pe_tup (pa_cons pe_str pa_nil)) pa_nil)))))) (pss_one (ps_ret (pe_op op_cat (pv 10) (pe_lst (pa_cons (pe_tup (pa_cons pe_str (pa_cons (pv 6) pa_nil))) (pa_cons (pv 9) (pa_cons (pv 9) (pa_cons (pv 9) (pa_cons (pv 9) pa_nil))))))))))))))))))), ?_⟩
    show (_ : L2.TS) _ [_, _, _, _, _, _, _, _, _, _, _, _] _
    unfold fourM at q
    refine' q_asg (v := .str a) ?_ (fun H1 e1 => ?_)
    · walk_at "ev"
    show (_ : L2.TS) _ [_, _, _, _, _, _, _, _, _, _, _, _] _
    refine' q_asg (v := .str b) ?_ (fun H2 e2 => ?_)
    · walk_at "ev"
    show (_ : L2.TS) _ [_, _, _, _, _, _, _, _, _, _, _, _] _
    refine' q_asg (v := .str c) ?_ (fun H3 e3 => ?_)
    · walk_at "ev"
    show (_ : L2.TS) _ [_, _, _, _, _, _, _, _, _, _, _, _] _
    refine' q_asg (v := .str (kindM (one / 8))) ?_ (fun H4 e4 => ?_)
    · walk_at "ev"
    show (_ : L2.TS) _ [_, _, _, _, _, _, _, _, _, _, _, _] _
    refine' q_asgP (R := ARow .fin) ?_ (fun v H5 e5 hv => ?_)
    · walk_at "row"
    show (_ : L2.TS) _ [_, _, _, _, _, _, _, _, _, _, _, _] _
    have hv : IsRow H5 v .fin := hv
    refine' q_when (b := decide (V.int way = V.int 0)) ?_ (fun hb H6 e6 => ?_) (fun hb H6 e6 => ?_)
    · walk_at "ev"
    · simp only [decide_eq_true_eq, V.int.injEq] at hb
      rw [if_pos hb] at q
      refine s_retP ?_ (fun v H8 e8 hv => q v H8 (by walk_at "ex") hv)
      walk_at "row"
    · simp only [decide_eq_false_iff_not, V.int.injEq] at hb
      rw [if_neg hb] at q
      refine' q_when (b := decide (V.int way = V.int 1)) ?_ (fun hb H7 e7 => ?_) (fun hb H7 e7 => ?_)
      · walk_at "ev"
      · simp only [decide_eq_true_eq, V.int.injEq] at hb
        rw [if_pos hb] at q
        refine' q_asgP (R := LRows [.lend a (kindM (one / 8)) (.thing t), .either, .back a, .or, .look a, .fin]) ?_ (fun u H8 e8 hu => ?_)
        · walk_at "row"
        show (_ : L2.TS) _ [_, _, _, _, _, _, _, _, _, _, _, _] _
        refine s_retP ?_ (fun v H9 e9 hv => q v H9 (by walk_at "ex") hv)
        walk_at "row"
      · simp only [decide_eq_false_iff_not, V.int.injEq] at hb
        rw [if_neg hb] at q
        refine' q_asgP (R := ARow (.lend a "write" (.thing t))) ?_ (fun x H8 e8 hx => ?_)
        · walk_at "row"
        show (_ : L2.TS) _ [_, _, _, _, _, _, _, _, _, _, _, _] _
        have hx : IsRow H8 x (.lend a "write" (.thing t)) := hx
        refine' q_when (b := decide (V.int way = V.int 2)) ?_ (fun hb H9 e9 => ?_) (fun hb H9 e9 => ?_)
        · walk_at "ev"
        · simp only [decide_eq_true_eq, V.int.injEq] at hb
          rw [if_pos hb] at q
          refine' q_asgP (R := LRows [.lend a "write" (.thing t), .lend b "write" (.word a), .lend c (kindM (one / 8)) (.word b)]) ?_ (fun u H10 e10 hu => ?_)
          · walk_at "row"
          show (_ : L2.TS) _ [_, _, _, _, _, _, _, _, _, _, _, _] _
          refine s_retP ?_ (fun v H11 e11 hv => q v H11 (by walk_at "ex") hv)
          walk_at "row"
        · simp only [decide_eq_false_iff_not, V.int.injEq] at hb
          rw [if_neg hb] at q
          refine' q_asgP (R := LRows [.lend a "write" (.thing t), .lend b "read" (.word a), .lend c (kindM two) (.thing t), .again]) ?_ (fun u H10 e10 hu => ?_)
          · walk_at "row"
          show (_ : L2.TS) _ [_, _, _, _, _, _, _, _, _, _, _, _] _
          refine s_retP ?_ (fun v H11 e11 hv => q v H11 (by walk_at "ex") hv)
          walk_at "row"
theorem ep_four {way one two t : Int} {p : Addr} {a b c : Str} {ta : TA} {σ : L2.St} {H : Hp} {E : XK} (h : EvA ta σ H [.int way, .int one, .int two, .ref p, .int t]) (hS : SqL K H p [.str a, .str b, .str c]) :
    EvP (tCall (spFour K) [] E ta) σ H (LRows (fourM way one two a b c t)) :=
  ep_call h fun H1 e Q q E => ⟨way, one, two, t, p, a, b, c, rfl, ex_l e hS, q⟩
def gadA (one two : Int) (a b c : Str) (t : Int) : List Rw :=
  if one % 8 < 4 then fourM (one % 8) one two a b c t
  else if one % 8 = 4 then [.pick c [t, t, (t + 1) % 1000000000, (t + 1) % 1000000000, (t + 2) % 1000000000]] ++ [.lend a "write" (.thing (pick3 two t ((t + 1) % 1000000000) ((t + 2) % 1000000000))), .lend b (kindM (one / 8)) (.word c)] ++ [.fin, .fin, .fin]
  else if one % 8 = 5 then [.lend a "write" (.thing t), .lend b "read" (.word a), .either, .back (pick2 two a b)] ++ [.or, .look b, .fin, .look a, .fin, .fin]
  else if one % 8 = 6 then [.lend a (kindM (one / 8)) (.thing ((t + 1) % 1000000000)), .lend b (kindM two) (.thing t)] ++ [.lend c "write" (.thing t), .look b, .fin, .fin, .fin]
  else if two % 3 = 0 then [.lend a "write" (.thing t), .back a, .lend b (kindM (one / 8)) (.word a), .look b, .fin, .fin]
  else [.pick c [(t + 1) % 1000000000, t], .lend a "write" (.thing t), .either, .back a] ++ [.or, .fin, .lend b (kindM (one / 8)) (.word c), .look a, .fin, .fin, .fin]
def gadgetM (one two deep : Int) (d : Draw) : List Rw := gadA one two (wordM one two deep d) (wordM two one (deep + 1) d) (wordM one one (deep + 2) d) (thingM two d.base)
def spGadget (K : PySem.W.Frag) : Sp := fun vs H Q _ => ∃ (one two deep : Int) (a : Addr) (d : Draw), vs = [.int one, .int two, .int deep, .ref a] ∧ SqL K H a d.vs ∧ d.Ok ∧ 0 ≤ deep ∧ deep ≤ 18 ∧ Ret (LRows (gadgetM one two deep d)) H Q
theorem el_hands {one two deep : Int} {a : Addr} {d : Draw} {ta : TA} {σ : L2.St} {H : Hp} {E : XK} (h : EvA ta σ H [.int one, .int two, .int deep, .ref a]) (hS : SqL K H a d.vs) (ok : d.Ok) (h0 : 0 ≤ deep) (h1 : deep ≤ 18) :
    EvL (tCall (spHands K) [] E ta) σ H (namesM one two deep d) :=
  el_call h fun H1 e Q q E => ⟨one, two, deep, a, d, rfl, ex_l e hS, ok, h0, h1, fun p H2 hp e2 h2 => q p H2 hp e2 h2⟩
theorem ok_gadget (D : Dn K mg "_law_gadget" s_l_gadget ["_law_one", "_law_two", "_law_deep", "_law_draw_here"]) (h_l_hands : Has P w K mg base "_law_hands" 2 ["_law_one", "_law_two", "_law_deep", "_law_draw_here"] (spHands K)) (h_l_thing : Has P w K mg base "_law_thing" 1 ["_law_cell", "_law_base"] spThing) (h_l_first_four : Has P w K mg base "_law_first_four" 1 ["_law_way", "_law_one", "_law_two", "_law_names", "_law_thing_here"] (spFour K)) : Has P w K mg base "_law_gadget" 3 ["_law_one", "_law_two", "_law_deep", "_law_draw_here"] (spGadget K) := by
  refine D.ok sc_l_gadget (fun vs H Q E h => ?_) (fun f cdv A outer s H vs Q E hr h => ?_)
  · obtain ⟨one, two, deep, a, d, rfl, _⟩ := h
    rfl
  · obtain ⟨one, two, deep, ad, d, rfl, hS, ok, h0, h1, q⟩ := h
    refine ⟨_, (pss_cons (ps_set (i := 4) sc_l_gadget.nd rfl (Or.inl rfl) (pe_own h_l_hands (hr.mono (by decide)) (by rfl) (pa_cons (pv 0) (pa_cons (pv 1) (pa_cons (pv 2) (pa_cons (pv 3) pa_nil)))))) (pss_cons (ps_set (i := 5) sc_l_gadget.nd rfl (Or.inl rfl) (pe_ix (show IxR _ (rIxL K) from ix_list) (pv 4) pe_int (fun _ _ => rfl))) (pss_cons (ps_set (i := 6) sc_l_gadget.nd rfl (Or.inl rfl) (pe_ix (show IxR _ (rIxL K) from ix_list) (pv 4) pe_int (fun _ _ => rfl))) (pss_cons (ps_set (i := 7) sc_l_gadget.nd rfl (Or.inl rfl) (pe_own h_l_thing (hr.mono (by decide)) (by rfl) (pa_cons (pv 1) (pa_cons (pe_ix (show IxR _ (rIxL K) from ix_list) (pv 3) pe_int (fun _ _ => rfl)) pa_nil)))) (pss_cons (ps_set (i := 8) sc_l_gadget.nd rfl (Or.inl rfl) (pe_op op_mod (pe_op op_add (pv 7) pe_int) (pe_op op_pow pe_int pe_int))) (pss_cons (ps_set (i := 9) sc_l_gadget.nd rfl (Or.inl rfl) (pe_op op_mod (pe_op op_add (pv 7) pe_int) (pe_op op_pow pe_int pe_int))) (pss_cons (ps_set (i := 10) sc_l_gadget.nd rfl (Or.inl rfl) (pe_ix (show IxR _ (rIxL K) from ix_list) (pe_lst (pa_cons pe_str (pa_cons pe_str pa_nil))) (pe_op op_mod (pe_op op_fdiv (pv 0) pe_int) pe_int) (fun _ _ => rfl))) (pss_cons (ps_set (i := 11) sc_l_gadget.nd rfl (Or.inl rfl) (pe_tup (pa_cons pe_str pa_nil))) (pss_cons (ps_set (i := 12) sc_l_gadget.nd rfl (Or.inl rfl) (pe_op op_mod (pv 0) pe_int)) (pss_cons (ps_if (pt_cmpR op_lt (pv 12) pe_int (nomark _)) (pss_one (ps_ret (pe_own h_l_first_four (hr.mono (by decide)) (by rfl) (pa_cons (pv 12) (pa_cons (pv 0) (pa_cons (pv 1) (pa_cons (pv 4) (pa_cons (pv 7) pa_nil)))))))) pss_nil) (pss_cons (ps_if (pt_cmpR op_eq (pv 12) pe_int (nomark _)) (pss_cons (ps_set (i := 13) sc_l_gadget.nd rfl (Or.inl rfl) (pe_lst (pa_cons (pe_tup (pa_cons pe_str (pa_cons (pe_ix (show IxR _ (rIxL K) from ix_list) (pv 4) pe_int (fun _ _ => rfl)) (pa_cons (pe_tup (pa_cons (pv 7) (pa_cons (pv 7) (pa_cons (pv 8) (pa_cons (pv 8) (pa_cons (pv 9) pa_nil)))))) pa_nil)))) pa_nil))) (pss_cons (ps_set (i := 13) sc_l_gadget.nd rfl (Or.inl rfl) (pe_op op_cat (pv 13) (pe_lst (pa_cons (pe_tup (pa_cons pe_str (pa_cons (pv 5) (pa_cons pe_str (pa_cons (pe_ix (show IxR _ (rIxL K) from ix_list) (pe_lst (pa_cons (pv 7) (pa_cons (pv 8) (pa_cons (pv 9) pa_nil)))) (pe_op op_mod (pv 1) pe_int) (fun _ _ => rfl)) pa_nil))))) (pa_cons (pe_tup (pa_cons pe_str (pa_cons (pv 6) (pa_cons (pv 10) (pa_cons (pe_ix (show IxR _ (rIxL K) from ix_list) (pv 4) pe_int (fun _ _ => rfl)) pa_nil))))) pa_nil))))) (pss_one (ps_ret (pe_op op_cat (pv 13) (pe_lst (pa_cons (pv 11) (pa_cons (pv 11) (pa_cons (pv 11) pa_nil))))))))) pss_nil) (pss_cons (ps_if (pt_cmpR op_eq (pv 12) pe_int (nomark _)) (pss_cons (ps_set (i := 13) sc_l_gadget.nd rfl (Or.inl rfl) (pe_lst (pa_cons (pe_tup (pa_cons pe_str (pa_cons (pv 5) (pa_cons pe_str (pa_cons (pv 7) pa_nil))))) (pa_cons (pe_tup (pa_cons pe_str (pa_cons (pv 6) (pa_cons pe_str (pa_cons (pv 5) pa_nil))))) (pa_cons (pe_tup (pa_cons pe_str pa_nil)) (pa_cons (pe_tup (pa_cons pe_str (pa_cons (pe_ix (show IxR _ (rIxL K) from ix_list) (pe_lst (pa_cons (pv 5) (pa_cons (pv 6) pa_nil))) (pe_op op_mod (pv 1) pe_int) (fun _ _ => rfl)) pa_nil))) pa_nil)))))) (pss_one (ps_ret (pe_op op_cat (pv 13) (pe_lst (pa_cons (pe_tup (pa_cons pe_str pa_nil)) (pa_cons (pe_tup (pa_cons pe_str (pa_cons (pv 6) pa_nil))) (pa_cons (pv 11) (pa_cons (pe_tup (pa_cons pe_str (pa_cons (pv 5) pa_nil))) (pa_cons (pv 11) (pa_cons (pv 11) pa_nil))))))))))) pss_nil) (pss_cons (ps_if (pt_cmpR op_eq (pv 12) pe_int (nomark _)) (pss_cons (ps_set (i := 13) sc_l_gadget.nd rfl (Or.inl rfl) (pe_lst (pa_cons (pe_tup (pa_cons pe_str (pa_cons (pv 5) (pa_cons (pv 10) (pa_cons (pv 8) pa_nil))))) (pa_cons (pe_tup (pa_cons pe_str (pa_cons (pv 6) (pa_cons (pe_ix (show IxR _ (rIxL K) from ix_list) (pe_lst (pa_cons pe_str (pa_cons pe_str pa_nil))) (pe_op op_mod (pv 1) pe_int) (fun _ _ => rfl)) (pa_cons (pv 7) pa_nil))))) pa_nil)))) (pss_one (ps_ret (pe_op op_cat (pv 13) (pe_lst (pa_cons (pe_tup (pa_cons pe_str (pa_cons (pe_ix (show IxR _ (rIxL K) from ix_list) (pv 4) pe_int (fun _ _ => rfl)) (pa_cons pe_str (pa_cons (pv 7) pa_nil))))) (pa_cons (pe_tup (pa_cons pe_str (pa_cons (pv 6) pa_nil))) (pa_cons (pv 11) (pa_cons (pv 11) (pa_cons (pv 11) pa_nil)))))))))) pss_nil) (pss_cons (ps_if (pt_cmpR op_eq (pe_op op_mod (pv 1) pe_int) pe_int (nomark _)) (pss_one (ps_ret (pe_lst (pa_cons (pe_tup (pa_cons pe_str (pa_cons (pv 5) (pa_cons pe_str (pa_cons (pv 7) pa_nil))))) (pa_cons (pe_tup (pa_cons pe_str (pa_cons (pv 5) pa_nil))) (pa_cons (pe_tup (pa_cons pe_str (pa_cons (pv 6) (pa_cons (pv 10) (pa_cons (pv 5) pa_nil))))) (pa_cons (pe_tup (pa_cons pe_str (pa_cons (pv 6) pa_nil))) (pa_cons (pv 11) (pa_cons (pv 11) pa_nil))))))))) pss_nil) (pss_cons (ps_set (i := 13) sc_l_gadget.nd rfl (Or.inl rfl) (pe_lst (pa_cons (pe_tup (pa_cons pe_str (pa_cons (pe_ix (show IxR _ (rIxL K) from ix_list) (pv 4) pe_int (fun _ _ => rfl)) (pa_cons (pe_tup (pa_cons (pv 8) (pa_cons (pv 7) pa_nil))) pa_nil)))) (pa_cons (pe_tup (pa_cons pe_str (pa_cons (pv 5) (pa_cons pe_str (pa_cons (pv 7) pa_nil))))) (pa_cons (pe_tup (pa_cons pe_str pa_nil)) (pa_cons (pe_tup (pa_cons pe_str (pa_cons (pv 5) pa_nil))) pa_nil)))))) (pss_one (ps_ret (pe_op op_cat (pv 13) (pe_lst (pa_cons (pe_tup (pa_cons pe_str pa_nil)) (pa_cons (pv 11) (pa_cons (pe_tup (pa_cons pe_str (pa_cons (pv 6) (pa_cons (pv 10) (pa_cons (pe_ix (show IxR _ (rIxL K) from ix_list) (pv 4) pe_int (fun _ _ => rfl)) pa_nil))))) (pa_cons (pe_tup (pa_cons pe_str (pa_cons (pv 5) pa_nil))) (pa_cons (pv 11) (pa_cons (pv 11) (pa_cons (pv 11) pa_nil)))))))))))))))))))))))))), ?_⟩
    show (_ : L2.TS) _ [_, _, _, _, _, _, _, _, _, _, _, _, _, _] _
    unfold gadgetM at q
    refine q_asgL (xs := namesM one two deep d) ?_ (fun pn H1 hpn e1 h1n => ?_)
    · refine el_hands ?_ hS ok h0 h1
      walk_at "ev"
    unfold namesM at h1n
    generalize wordM one two deep d = a at *
    generalize wordM two one (deep + 1) d = b at *
    generalize wordM one one (deep + 2) d = c at *
    have hNm : SqL K H1 pn [.str a, .str b, .str c] := sq_of h1n
    refine' q_asg (v := .str a) ?_ (fun H2 e2 => ?_)
    · walk_at "ev"
    show (_ : L2.TS) _ [_, _, _, _, _, _, _, _, _, _, _, _, _, _] _
    refine' q_asg (v := .str b) ?_ (fun H3 e3 => ?_)
    · walk_at "ev"
    show (_ : L2.TS) _ [_, _, _, _, _, _, _, _, _, _, _, _, _, _] _
    refine' q_asg (v := .int (thingM two d.base)) ?_ (fun H4 e4 => ?_)
    · walk_at "ev"
    show (_ : L2.TS) _ [_, _, _, _, _, _, _, _, _, _, _, _, _, _] _
    generalize thingM two d.base = t at *
    unfold gadA at q
    refine' q_asg (v := .int ((t + 1) % 1000000000)) ?_ (fun H5 e5 => ?_)
    · walk_at "ev"
    show (_ : L2.TS) _ [_, _, _, _, _, _, _, _, _, _, _, _, _, _] _
    refine' q_asg (v := .int ((t + 2) % 1000000000)) ?_ (fun H6 e6 => ?_)
    · walk_at "ev"
    show (_ : L2.TS) _ [_, _, _, _, _, _, _, _, _, _, _, _, _, _] _
    generalize (t + 1) % 1000000000 = far at *
    generalize (t + 2) % 1000000000 = last at *
    refine' q_asg (v := .str (kindM (one / 8))) ?_ (fun H7 e7 => ?_)
    · walk_at "ev"
    show (_ : L2.TS) _ [_, _, _, _, _, _, _, _, _, _, _, _, _, _] _
    refine' q_asgP (R := ARow .fin) ?_ (fun v H8 e8 hv => ?_)
    · walk_at "row"
    show (_ : L2.TS) _ [_, _, _, _, _, _, _, _, _, _, _, _, _, _] _
    have hv : IsRow H8 v .fin := hv
    refine' q_asg (v := .int (one % 8)) ?_ (fun H9 e9 => ?_)
    · walk_at "ev"
    show (_ : L2.TS) _ [_, _, _, _, _, _, _, _, _, _, _, _, _, _] _
    refine' q_when (b := decide (one % 8 < 4)) ?_ (fun hb H10 e10 => ?_) (fun hb H10 e10 => ?_)
    · walk_at "ev"
    · simp only [decide_eq_true_eq] at hb
      rw [if_pos hb] at q
      refine s_retP (ep_four (p := pn) ?_ ?_) (fun v H11 e11 hv => q v H11 (by walk_at "ex") hv)
      · walk_at "ev"
      · walk_at "ev"
    · simp only [decide_eq_false_iff_not] at hb
      rw [if_neg hb] at q
      refine' q_when (b := decide (V.int (one % 8) = V.int 4)) ?_ (fun hb H11 e11 => ?_) (fun hb H11 e11 => ?_)
      · walk_at "ev"
      · simp only [decide_eq_true_eq, V.int.injEq] at hb
        rw [if_pos hb] at q
        refine' q_asgP (R := LRows [.pick c [t, t, far, far, last]]) ?_ (fun u H12 e12 hu => ?_)
        · walk_at "row"
        show (_ : L2.TS) _ [_, _, _, _, _, _, _, _, _, _, _, _, _, _] _
        refine' q_asgP (R := LRows ([.pick c [t, t, far, far, last]] ++ [.lend a "write" (.thing (pick3 two t far last)), .lend b (kindM (one / 8)) (.word c)])) ?_ (fun u H13 e13 hu => ?_)
        · walk_at "row"
        show (_ : L2.TS) _ [_, _, _, _, _, _, _, _, _, _, _, _, _, _] _
        refine s_retP ?_ (fun v H14 e14 hv => q v H14 (by walk_at "ex") hv)
        walk_at "row"
      · simp only [decide_eq_false_iff_not, V.int.injEq] at hb
        rw [if_neg hb] at q
        refine' q_when (b := decide (V.int (one % 8) = V.int 5)) ?_ (fun hb H12 e12 => ?_) (fun hb H12 e12 => ?_)
        · walk_at "ev"
        · simp only [decide_eq_true_eq, V.int.injEq] at hb
          rw [if_pos hb] at q
          refine' q_asgP (R := LRows [.lend a "write" (.thing t), .lend b "read" (.word a), .either, .back (pick2 two a b)]) ?_ (fun u H13 e13 hu => ?_)
          · walk_at "row"
          show (_ : L2.TS) _ [_, _, _, _, _, _, _, _, _, _, _, _, _, _] _
          refine s_retP ?_ (fun v H14 e14 hv => q v H14 (by walk_at "ex") hv)
          walk_at "row"
        · simp only [decide_eq_false_iff_not, V.int.injEq] at hb
          rw [if_neg hb] at q
          refine' q_when (b := decide (V.int (one % 8) = V.int 6)) ?_ (fun hb H13 e13 => ?_) (fun hb H13 e13 => ?_)
          · walk_at "ev"
          · simp only [decide_eq_true_eq, V.int.injEq] at hb
            rw [if_pos hb] at q
            refine' q_asgP (R := LRows [.lend a (kindM (one / 8)) (.thing far), .lend b (kindM two) (.thing t)]) ?_ (fun u H14 e14 hu => ?_)
            · walk_at "row"
            show (_ : L2.TS) _ [_, _, _, _, _, _, _, _, _, _, _, _, _, _] _
            refine s_retP ?_ (fun v H15 e15 hv => q v H15 (by walk_at "ex") hv)
            walk_at "row"
          · simp only [decide_eq_false_iff_not, V.int.injEq] at hb
            rw [if_neg hb] at q
            refine' q_when (b := decide (V.int (two % 3) = V.int 0)) ?_ (fun hb H14 e14 => ?_) (fun hb H14 e14 => ?_)
            · walk_at "ev"
            · simp only [decide_eq_true_eq, V.int.injEq] at hb
              rw [if_pos hb] at q
              refine s_retP ?_ (fun v H15 e15 hv => q v H15 (by walk_at "ex") hv)
              walk_at "row"
            · simp only [decide_eq_false_iff_not, V.int.injEq] at hb
              rw [if_neg hb] at q
              refine' q_asgP (R := LRows [.pick c [far, t], .lend a "write" (.thing t), .either, .back a]) ?_ (fun u H15 e15 hu => ?_)
              · walk_at "row"
              show (_ : L2.TS) _ [_, _, _, _, _, _, _, _, _, _, _, _, _, _] _
              refine s_retP ?_ (fun v H16 e16 hv => q v H16 (by walk_at "ex") hv)
              walk_at "row"
theorem ep_gadget {one two deep : Int} {a : Addr} {d : Draw} {ta : TA} {σ : L2.St} {H : Hp} {E : XK} (h : EvA ta σ H [.int one, .int two, .int deep, .ref a]) (hS : SqL K H a d.vs) (ok : d.Ok) (h0 : 0 ≤ deep) (h1 : deep ≤ 18) :
    EvP (tCall (spGadget K) [] E ta) σ H (LRows (gadgetM one two deep d)) :=
  ep_call h fun H1 e Q q E => ⟨one, two, deep, a, d, rfl, ex_l e hS, ok, h0, h1, q⟩
end
end BD
namespace BD
open PySem PySem.Spec PyProof.Rows L2 Evl
local macro_rules | `(tactic| walk_at "ev") => `(tactic| first
  | ((with_reducible apply ev_var) ; rfl)
  | with_reducible exact ev_c
  | ((with_reducible apply ev_I0) <;> walk_at "ev")
  | ((with_reducible apply ev_e9) <;> walk_at "ev")
  | ((with_reducible apply ev_I) <;> walk_at "ev")
  | ((with_reducible apply ev_eq) <;> walk_at "ev")
  | ((with_reducible apply ev_ne) <;> walk_at "ev")
  | ((with_reducible apply ev_neg) <;> walk_at "ev")
  | ((with_reducible apply ev_ixN) <;> walk_at "ev")
  | ((with_reducible apply ev_ixL) <;> walk_at "ev")
  | ((with_reducible apply ev_inN) <;> walk_at "ev")
  | ((with_reducible apply ev_inT) <;> walk_at "ev")
  | ((with_reducible apply ev_ixT) <;> walk_at "ev")
  | ((with_reducible apply ev_ixS) <;> walk_at "ev")
  | ((with_reducible apply ev_len') <;> walk_at "ev")
  | ((with_reducible apply et_test) <;> walk_at "ev")
  | ((with_reducible apply et_and) <;> walk_at "ev")
  | ((with_reducible apply et_or) <;> walk_at "ev")
  | ((with_reducible apply et_not) <;> walk_at "ev")
  | ((with_reducible apply et_B) <;> walk_at "ev")
  | ((with_reducible apply el_lst) <;> walk_at "ev")
  | ((with_reducible apply eu_tup) <;> walk_at "ev")
  | ((with_reducible apply ea_cons) <;> walk_at "ev")
  | with_reducible exact ea_nil
  | with_reducible assumption
  | ((with_reducible apply ex_l' ; assumption) ; walk_at "ex")
  | ((with_reducible apply ex_t' ; assumption) ; walk_at "ex")
  | (intro _ ; walk_at "ev")
  | (with_reducible first | exact atI_hd | exact at_kind | exact at2s | exact at3s | exact at3i)
  | (first | exact rfl | exact Nat.le_of_ble_eq_true rfl | exact ⟨by decide, by decide⟩ | decide | exact Or.inl ⟨by omega, by omega⟩ | exact Or.inr ⟨by omega, by omega⟩ | omega)
  | skip)
local macro_rules | `(tactic| walk_at "ex") => `(tactic| first
  | assumption
  | exact Ex.refl _
  | (refine' Ex.trans ?_ (by assumption) ; walk_at "ex"))
local macro_rules | `(tactic| walk_at "row") => `(tactic| first
  | (with_reducible exact er_nil)
  | ((with_reducible apply er_cons) <;> walk_at "row")
  | (((with_reducible apply er_var) ; rfl) ; walk_at "isrow")
  | (((with_reducible apply elr_var) ; rfl) ; walk_at "isrow")
  | ((with_reducible apply elr_cat) <;> walk_at "row")
  | ((with_reducible apply elr_lst) <;> walk_at "row")
  | ((with_reducible apply er_fin) <;> walk_at "ev")
  | ((with_reducible apply er_lendT) <;> walk_at "ev")
  | ((with_reducible apply er_lendW) <;> walk_at "ev")
  | ((with_reducible apply er_pick) <;> walk_at "ev")
  | ((with_reducible apply er_either) <;> walk_at "ev")
  | ((with_reducible apply er_or) <;> walk_at "ev")
  | ((with_reducible apply er_again) <;> walk_at "ev")
  | ((with_reducible apply er_back) <;> walk_at "ev")
  | ((with_reducible apply er_look) <;> walk_at "ev")
  | ((with_reducible apply er_change) <;> walk_at "ev")
  | exact Nat.le_of_ble_eq_true rfl
  | skip)
local macro_rules | `(tactic| walk_at "isrow") => `(tactic| first
  | assumption
  | (refine IsRow.up ?_ (by assumption) ; walk_at "ex")
  | (refine LRows.up ?_ (by assumption) ; walk_at "ex"))

local macro_rules | `(tactic| walk_at "ev") => `(tactic| ((with_reducible apply ev_letter) <;> walk_at "ev"))
local macro_rules | `(tactic| walk_at "ev") => `(tactic| ((with_reducible apply ev_cell) <;> walk_at "ev"))
local macro_rules | `(tactic| walk_at "ev") => `(tactic| ((with_reducible apply ev_word) <;> walk_at "ev"))
local macro_rules | `(tactic| walk_at "ev") => `(tactic| ((with_reducible apply ev_thing) <;> walk_at "ev"))

local macro_rules | `(tactic| walk_at "ev") => `(tactic| (((with_reducible apply ev_tag) ; rfl) ; walk_at "isrow"))
abbrev s_l_row : Stmt := topS 21
theorem sc_l_row : FnScope ["_law_way", "_law_one", "_law_two", "_law_opened", "_law_draw_here", "_law_named", "_law_hands_here", "_law_things", "_law_row_here", "_law_k"] ["_law_way", "_law_one", "_law_two", "_law_opened", "_law_draw_here"] (defScope s_l_row) := ⟨rfl, rfl, rfl, by decide +kernel, rfl, by decide +kernel, by decide +kernel⟩
section
variable {P : Program} {w : World} {K : PySem.W.Frag} {mg : Str → Option Value} {base : Heap}
def rowN (way one two : Int) (opened named hands : List Rw) (d : Draw) : Rw :=
  if way < 4 ∧ (hands.length : Int) < 6 then lendM one two named d
  else if way = 4 ∧ (named.length : Int) - hands.length < 3 then .pick (wordM one two named.length d) ((List.range (1 + one % 5).toNat).map fun (k : Nat) => thingM (two + (k : Int) * (1 + one % 2)) d.base)
  else if way = 5 ∧ (opened.length : Int) < 12 then .either
  else if way = 6 ∧ (opened.length : Int) < 12 then .again
  else if way = 7 ∧ 0 < (opened.length : Int) ∧ (opened.getD (opened.length - 1) .fin).isEither = true then .or
  else if way < 10 ∧ 0 < (hands.length : Int) then deedM one two hands
  else if 0 < (opened.length : Int) then .fin
  else lendM one two named d
def rowM (way one two : Int) (opened : List Rw) (d : Draw) : Rw := rowN way one two opened (opened.filter Rw.named) ((opened.filter Rw.named).filter Rw.isLend) d
def spRow (K : PySem.W.Frag) : Sp := fun vs H Q _ => ∃ (way one two : Int) (o a : Addr) (ov : List V) (opened : List Rw) (d : Draw), vs = [.int way, .int one, .int two, .ref o, .ref a] ∧ SqL K H o ov ∧ Rows H ov opened ∧ opened.length ≤ 1000 ∧ (opened.filter Rw.named).length ≤ 18 ∧
  SqL K H a d.vs ∧ d.Ok ∧ Ret (ARow (rowM way one two opened d)) H Q
theorem in56 (way : Int) : inV (.int way) [V.int 5, V.int 6] = decide (way = 5 ∨ way = 6) := by
  unfold inV
  show (List.any [V.int 5, V.int 6] fun y => eqV y (.int way)) = _
  show ((5 : Int) == way || ((6 : Int) == way || false)) = _
  by_cases h5 : way = 5
  · subst h5; rfl
  · by_cases h6 : way = 6
    · subst h6; rfl
    · rw [decide_eq_false (fun z => z.elim h5 h6), beq_eq_false_iff_ne.mpr (Ne.symm h5), beq_eq_false_iff_ne.mpr (Ne.symm h6)]
      rfl
theorem ok_row (D : Dn K mg "_law_row" s_l_row ["_law_way", "_law_one", "_law_two", "_law_opened", "_law_draw_here"]) (T : Blt mg) (h_l_lend : Has P w K mg base "_law_lend" 2 ["_law_one", "_law_two", "_law_named", "_law_draw_here"] (spLend K)) (h_l_thing : Has P w K mg base "_law_thing" 1 ["_law_cell", "_law_base"] spThing) (h_l_word : Has P w K mg base "_law_word" 1 ["_law_one", "_law_two", "_law_deep", "_law_draw_here"] (spWord K)) (h_l_deed : Has P w K mg base "_law_deed" 1 ["_law_one", "_law_two", "_law_hands_here"] (spDeed K)) : Has P w K mg base "_law_row" 3 ["_law_way", "_law_one", "_law_two", "_law_opened", "_law_draw_here"] (spRow K) := by
  refine D.ok sc_l_row (fun vs H Q E h => ?_) (fun f cdv A outer s H vs Q E hr h => ?_)
  · obtain ⟨way, one, two, o, a, ov, opened, d, rfl, _⟩ := h
    rfl
  · obtain ⟨way, one, two, o, a, ov, opened, d, rfl, hO, hR, hlen, hlen2, hS, ok, q⟩ := h
    have hlo := hR.len
    refine ⟨_, (pss_cons (ps_setLc (i := 5) (own := [("_law_row_here", 8)]) (g := (gName 8))  rfl sc_l_row.nd rfl rfl (sw_true rfl rfl rfl (by decide +kernel)) (pi_list (pv 3)) (blkOk_by (own := [("_law_row_here", 8)]) (N := ["_law_way", "_law_one", "_law_two", "_law_opened", "_law_draw_here", "_law_named", "_law_hands_here", "_law_things", "_law_row_here", "_law_k"]) (sc := defScope s_l_row) (by decide +kernel)) (fun _ _ _ _ _ => (pg_name (i := 8) sc_l_row.nd rfl (Or.inl rfl))) (fun _ _ _ _ _ => (pts_one (pt_cmpR (show OpR _ _ (rIn K false) from op_in_seq) (pe_ix (show IxR _ (rIxT K) from ix_tup) (pv 8) pe_int (fun _ _ => rfl)) (pe_lst (pa_cons pe_str (pa_cons pe_str pa_nil))) (by rfl)))) (fun _ _ _ _ _ => (pv 8))) (pss_cons (ps_setLc (i := 6) (own := [("_law_row_here", 8)]) (g := (gName 8))  rfl sc_l_row.nd rfl rfl (sw_true rfl rfl rfl (by decide +kernel)) (pi_list (pv 5)) (blkOk_by (own := [("_law_row_here", 8)]) (N := ["_law_way", "_law_one", "_law_two", "_law_opened", "_law_draw_here", "_law_named", "_law_hands_here", "_law_things", "_law_row_here", "_law_k"]) (sc := defScope s_l_row) (by decide +kernel)) (fun _ _ _ _ _ => (pg_name (i := 8) sc_l_row.nd rfl (Or.inl rfl))) (fun _ _ _ _ _ => (pts_one (pt_cmpR op_eq (pe_ix (show IxR _ (rIxT K) from ix_tup) (pv 8) pe_int (fun _ _ => rfl)) pe_str (nomark _)))) (fun _ _ _ _ _ => (pv 8))) (pss_cons (ps_if (PW.pt (pw_and (pt_cmpR op_lt (pv 0) pe_int (nomark _)) (pw_and1 (pt_cmpR op_lt (pe_callB (show CallR _ _ (rLenS K) from call_len_seq) (by rfl) T.len_ (by decide +kernel) (pa_cons (pv 6) pa_nil)) pe_int (nomark _))))) (pss_one (ps_ret (pe_own h_l_lend (hr.mono (by decide)) (by rfl) (pa_cons (pv 1) (pa_cons (pv 2) (pa_cons (pv 5) (pa_cons (pv 4) pa_nil))))))) pss_nil) (pss_cons (ps_if (PW.pt (pw_and (pt_cmpR op_eq (pv 0) pe_int (nomark _)) (pw_and1 (pt_cmpR op_lt (pe_op op_sub (pe_callB (show CallR _ _ (rLenS K) from call_len_seq) (by rfl) T.len_ (by decide +kernel) (pa_cons (pv 5) pa_nil)) (pe_callB (show CallR _ _ (rLenS K) from call_len_seq) (by rfl) T.len_ (by decide +kernel) (pa_cons (pv 6) pa_nil))) pe_int (nomark _))))) (pss_cons (ps_set (i := 7) sc_l_row.nd rfl (Or.inl rfl) (pe_callTy (show CallR _ _ (rTupS K) from call_tuple_of) (by rfl) T.tuple_ (by decide +kernel) (pa_cons (pe_lc (own := [("_law_k", 9)]) (g := (gName 9)) (tt := tYes) rfl sc_l_row.nd (pi_range1 (by rfl) T.range_ (pa_cons (pe_op op_add pe_int (pe_op op_mod (pv 1) pe_int)) pa_nil)) (blkOk_by (own := [("_law_k", 9)]) (N := ["_law_way", "_law_one", "_law_two", "_law_opened", "_law_draw_here", "_law_named", "_law_hands_here", "_law_things", "_law_row_here", "_law_k"]) (sc := defScope s_l_row) (by decide +kernel)) (fun _ _ _ _ _ => (pg_name (i := 9) sc_l_row.nd rfl (Or.inl rfl))) (fun _ _ _ _ _ => pts_nil) (fun _ _ _ _ _ => (pe_own h_l_thing (hr.mono (by decide)) (by rfl) (pa_cons (pe_op op_add (pv 2) (pe_op op_mul (pv 9) (pe_op op_add pe_int (pe_op op_mod (pv 1) pe_int)))) (pa_cons (pe_ix (show IxR _ (rIxL K) from ix_list) (pv 4) pe_int (fun _ _ => rfl)) pa_nil))))) pa_nil))) (pss_one (ps_ret (pe_tup (pa_cons pe_str (pa_cons (pe_own h_l_word (hr.mono (by decide)) (by rfl) (pa_cons (pv 1) (pa_cons (pv 2) (pa_cons (pe_callB (show CallR _ _ (rLenS K) from call_len_seq) (by rfl) T.len_ (by decide +kernel) (pa_cons (pv 5) pa_nil)) (pa_cons (pv 4) pa_nil))))) (pa_cons (pv 7) pa_nil))))))) pss_nil) (pss_cons (ps_if (PW.pt (pw_and (pt_cmpR (show OpR _ _ (rIn K false) from op_in_seq) (pv 0) (pe_lst (pa_cons pe_int (pa_cons pe_int pa_nil))) (by rfl)) (pw_and1 (pt_cmpR op_lt (pe_callB (show CallR _ _ (rLenS K) from call_len_seq) (by rfl) T.len_ (by decide +kernel) (pa_cons (pv 3) pa_nil)) pe_int (nomark _))))) (pss_one (ps_ret (pe_tup (pa_cons (pe_ix (show IxR _ (rIxL K) from ix_list) (pe_lst (pa_cons pe_str (pa_cons pe_str pa_nil))) (pe_op op_sub (pv 0) pe_int) (fun _ _ => rfl)) pa_nil)))) pss_nil) (pss_cons (ps_if (PW.pt (pw_and (pt_cmpR op_eq (pv 0) pe_int (nomark _)) (pw_and (pt_cmpR op_gt (pe_callB (show CallR _ _ (rLenS K) from call_len_seq) (by rfl) T.len_ (by decide +kernel) (pa_cons (pv 3) pa_nil)) pe_int (nomark _)) (pw_and1 (pt_cmpR op_eq (pe_ix (show IxR _ (rIxT K) from ix_tup) (pe_ix (show IxR _ (rIxL K) from ix_list) (pv 3) (pe_un un_neg pe_int) (fun _ _ => rfl)) pe_int (fun _ _ => rfl)) pe_str (nomark _)))))) (pss_one (ps_ret (pe_tup (pa_cons pe_str pa_nil)))) pss_nil) (pss_cons (ps_if (PW.pt (pw_and (pt_cmpR op_lt (pv 0) pe_int (nomark _)) (pw_and1 (pt_cmpR op_gt (pe_callB (show CallR _ _ (rLenS K) from call_len_seq) (by rfl) T.len_ (by decide +kernel) (pa_cons (pv 6) pa_nil)) pe_int (nomark _))))) (pss_one (ps_ret (pe_own h_l_deed (hr.mono (by decide)) (by rfl) (pa_cons (pv 1) (pa_cons (pv 2) (pa_cons (pv 6) pa_nil)))))) pss_nil) (pss_cons (ps_if (pt_cmpR op_gt (pe_callB (show CallR _ _ (rLenS K) from call_len_seq) (by rfl) T.len_ (by decide +kernel) (pa_cons (pv 3) pa_nil)) pe_int (nomark _)) (pss_one (ps_ret (pe_tup (pa_cons pe_str pa_nil)))) pss_nil) (pss_one (ps_ret (pe_own h_l_lend (hr.mono (by decide)) (by rfl) (pa_cons (pv 1) (pa_cons (pv 2) (pa_cons (pv 5) (pa_cons (pv 4) pa_nil))))))))))))))), ?_⟩
    show (_ : L2.TS) _ [_, _, _, _, _, _, _, _, _, _] _
    refine q_asgPL (epl_filter Rw.named (ev_var rfl) hO hR (by omega) (fun x => rfl) (fun x r H1 e hx => ?_) (fun x => rfl)) (fun pn nv H1 hpn e1 h1 hNv => ?_)
    · rw [← tag_named r]
      walk_at "ev"
    show (_ : L2.TS) _ [_, _, _, _, _, _, _, _, _, _] _
    have hN : SqL K H1 pn nv := sq_of h1
    have hln : nv.length = (opened.filter Rw.named).length := hNv.len
    have hln2 : (opened.filter Rw.named).length ≤ opened.length := List.length_filter_le _ _
    refine q_asgPL (epl_filter Rw.isLend (ev_var rfl) hN hNv (by omega) (fun x => rfl) (fun x r H1 e hx => ?_) (fun x => rfl)) (fun ph hv H2 hph e2 h2 hHv => ?_)
    · rw [← tag_lend r]
      walk_at "ev"
    show (_ : L2.TS) _ [_, _, _, _, _, _, _, _, _, _] _
    have hH : SqL K H2 ph hv := sq_of h2
    have hlh : hv.length = ((opened.filter Rw.named).filter Rw.isLend).length := hHv.len
    have hall : ∀ r ∈ opened.filter Rw.named, r.named = true := fun r hr => (List.mem_filter.mp hr).2
    have hallH : ∀ r ∈ (opened.filter Rw.named).filter Rw.isLend, r.isLend = true := fun r hr => (List.mem_filter.mp hr).2
    unfold rowM rowN at q
    generalize hnm : opened.filter Rw.named = named at *
    generalize hhm : named.filter Rw.isLend = hands at *
    have hlnm : named.length ≤ 20 := by omega
    have hNv2 := hNv.up e2
    rw [← hlo, ← hln, ← hlh] at q
    refine' q_when (b := decide (way < 4) && decide ((hv.length : Int) < 6)) ?_ (fun hb H3 e3 => ?_) (fun hb H3 e3 => ?_)
    · walk_at "ev"
    · simp only [Bool.and_eq_true, decide_eq_true_eq] at hb
      rw [if_pos hb] at q
      refine s_retP (ev_lend (n := pn) (a := a) (ns := nv) (d := d) ?_ ?_ (hNv2.up e3) hall hlnm ?_ ok) (fun v H4 e4 hv => q v H4 (by walk_at "ex") hv)
      · walk_at "ev"
      · walk_at "ev"
      · walk_at "ev"
    · simp only [Bool.and_eq_false_iff, decide_eq_false_iff_not] at hb
      rw [if_neg (fun z => hb.elim (fun y => y z.1) (fun y => y z.2))] at q
      refine' q_when (b := decide (V.int way = V.int 4) && decide ((nv.length : Int) - hv.length < 3)) ?_ (fun hb H4 e4 => ?_) (fun hb H4 e4 => ?_)
      · walk_at "ev"
      · simp only [Bool.and_eq_true, decide_eq_true_eq, V.int.injEq] at hb
        rw [if_pos hb] at q
        refine q_asgU (xs := ((List.range (1 + one % 5).toNat).map fun (k : Nat) => thingM (two + (k : Int) * (1 + one % 2)) d.base).map V.int) ?_ (fun pt H5 hpt e5 h5 => ?_)
        · refine eu_tuple ?_
          have hg := given_all (1 + one % 5).toNat (fun k => V.int (thingM (two + (k : Int) * (1 + one % 2)) d.base))
          rw [List.map_map]
          show EvL _ _ _ ((List.range (1 + one % 5).toNat).map fun (k : Nat) => V.int (thingM (two + (k : Int) * (1 + one % 2)) d.base))
          rw [← hg]
          refine el_lcR1 _ _ (n := 1 + one % 5) ?_ ⟨by omega, by omega⟩ (fun x => rfl) (fun i H6 e6 hi => et_yes) (fun i H6 e6 hi _ => ?_)
          · walk_at "ev"
          · walk_at "ev"
        · show (_ : L2.TS) _ [_, _, _, _, _, _, _, _, _, _] _
          refine s_retP (er_pickV (q := pt) ?_ h5) (fun v H6 e6 hv => q v H6 (by walk_at "ex") hv)
          walk_at "ev"
      · simp only [Bool.and_eq_false_iff, decide_eq_false_iff_not, V.int.injEq] at hb
        rw [if_neg (fun z => hb.elim (fun y => y z.1) (fun y => y z.2))] at q
        refine' q_when (b := decide (way = 5 ∨ way = 6) && decide ((ov.length : Int) < 12)) ?_ (fun hb H5 e5 => ?_) (fun hb H5 e5 => ?_)
        · rw [← in56]
          walk_at "ev"
        · simp only [Bool.and_eq_true, decide_eq_true_eq] at hb
          obtain ⟨hw | hw, hlt⟩ := hb
          · subst hw
            rw [if_pos ⟨rfl, hlt⟩] at q
            refine s_retP (er_either ?_) (fun v H6 e6 hv => q v H6 (by walk_at "ex") hv)
            walk_at "ev"
          · subst hw
            rw [if_neg (fun z => absurd z.1 (by decide)), if_pos ⟨rfl, hlt⟩] at q
            refine s_retP (er_again ?_) (fun v H6 e6 hv => q v H6 (by walk_at "ex") hv)
            walk_at "ev"
        · simp only [Bool.and_eq_false_iff, decide_eq_false_iff_not] at hb
          rw [if_neg (fun z => hb.elim (fun y => y (.inl z.1)) (fun y => y z.2)), if_neg (fun z => hb.elim (fun y => y (.inr z.1)) (fun y => y z.2))] at q
          by_cases h0 : 0 < ov.length
          · obtain ⟨x, hx, hX⟩ := rows_last hR h0
            rw [← hlo] at hX
            have hX5 : IsRow H5 x (opened.getD (ov.length - 1) .fin) := hX.up (by walk_at "ex")
            obtain ⟨px, xs, rfl, hpx⟩ := hX5.tup
            have hPx : SqT K H5 px (.str (opened.getD (ov.length - 1) .fin).tag :: xs) := st_of hpx
            refine' q_when (b := decide (V.int way = V.int 7) && (decide ((0 : Int) < ov.length) && (opened.getD (ov.length - 1) .fin).isEither)) ?_ (fun hb H6 e6 => ?_) (fun hb H6 e6 => ?_)
            · rw [← tag_either]
              walk_at "ev"
            · simp only [Bool.and_eq_true, decide_eq_true_eq, V.int.injEq] at hb
              rw [if_pos hb] at q
              refine s_retP (er_or ?_) (fun v H7 e7 hv => q v H7 (by walk_at "ex") hv)
              walk_at "ev"
            · simp only [Bool.and_eq_false_iff, decide_eq_false_iff_not, V.int.injEq] at hb
              rw [if_neg (fun z => hb.elim (fun y => y z.1) (fun y => y.elim (fun u => u z.2.1) (fun u => by rw [z.2.2] at u; cases u)))] at q
              refine' q_when (b := decide (way < 10) && decide ((0 : Int) < hv.length)) ?_ (fun hb H7 e7 => ?_) (fun hb H7 e7 => ?_)
              · walk_at "ev"
              · simp only [Bool.and_eq_true, decide_eq_true_eq] at hb
                rw [if_pos hb] at q
                refine s_retP (ev_deed (n := ph) (ns := hv) ?_ ?_ (hHv.up (by walk_at "ex")) hallH (by omega)) (fun v H8 e8 hv => q v H8 (by walk_at "ex") hv)
                · walk_at "ev"
                · walk_at "ev"
              · simp only [Bool.and_eq_false_iff, decide_eq_false_iff_not] at hb
                rw [if_neg (fun z => hb.elim (fun y => y z.1) (fun y => y z.2))] at q
                rw [if_pos (by omega)] at q
                refine' q_when (b := decide ((0 : Int) < ov.length)) ?_ (fun hb H8 e8 => ?_) (fun hb H8 e8 => ?_)
                · walk_at "ev"
                · refine s_retP (er_fin ?_) (fun v H9 e9 hv => q v H9 (by walk_at "ex") hv)
                  walk_at "ev"
                · exact absurd (by omega) (of_decide_eq_false hb)
          · have h00 : ¬ (0 : Int) < ov.length := by omega
            have hh0 : ¬ (0 : Int) < hv.length := by
              have := List.length_filter_le Rw.isLend named
              rw [hhm] at this
              omega
            rw [if_neg (fun z => h00 z.2.1), if_neg (fun z => hh0 z.2), if_neg h00] at q
            refine' q_when (b := false) ?_ (fun hb H6 e6 => ?_) (fun hb H6 e6 => ?_)
            · refine et_is (et_and (a := decide (V.int way = V.int 7)) (b := false) ?_ (fun _ => et_is (et_and (a := decide ((0 : Int) < ov.length)) (b := false) ?_ (fun z => absurd (of_decide_eq_true z) h00)) (Bool.and_false _))) (Bool.and_false _)
              · walk_at "ev"
              · walk_at "ev"
            · cases hb
            · refine' q_when (b := decide (way < 10) && decide ((0 : Int) < hv.length)) ?_ (fun hb H7 e7 => ?_) (fun hb H7 e7 => ?_)
              · walk_at "ev"
              · simp only [Bool.and_eq_true, decide_eq_true_eq] at hb
                exact absurd hb.2 hh0
              · refine' q_when (b := decide ((0 : Int) < ov.length)) ?_ (fun hb H8 e8 => ?_) (fun hb H8 e8 => ?_)
                · walk_at "ev"
                · exact absurd (of_decide_eq_true hb) h00
                · refine s_retP (ev_lend (n := pn) (a := a) (ns := nv) (d := d) ?_ ?_ (hNv2.up (by walk_at "ex")) hall hlnm ?_ ok) (fun v H4 e4 hv => q v H4 (by walk_at "ex") hv)
                  · walk_at "ev"
                  · walk_at "ev"
                  · walk_at "ev"
theorem ep_row {way one two : Int} {o a : Addr} {ov : List V} {opened : List Rw} {d : Draw} {ta : TA} {σ : L2.St} {H : Hp} {E : XK} (h : EvA ta σ H [.int way, .int one, .int two, .ref o, .ref a]) (hO : SqL K H o ov) (hR : Rows H ov opened) (hl : opened.length ≤ 1000) (hl2 : (opened.filter Rw.named).length ≤ 18)
    (hS : SqL K H a d.vs) (ok : d.Ok) : EvP (tCall (spRow K) [] E ta) σ H (ARow (rowM way one two opened d)) :=
  ep_call h fun H1 e Q q E => ⟨way, one, two, o, a, ov, opened, d, rfl, ex_l e hO, hR.up e, hl, hl2, ex_l e hS, ok, q⟩
end
end BD
namespace BD
open PySem PySem.Spec PyProof.Rows L2 Evl
local macro_rules | `(tactic| walk_at "ev") => `(tactic| first
  | ((with_reducible apply ev_var) ; rfl)
  | with_reducible exact ev_c
  | ((with_reducible apply ev_I0) <;> walk_at "ev")
  | ((with_reducible apply ev_e9) <;> walk_at "ev")
  | ((with_reducible apply ev_I) <;> walk_at "ev")
  | ((with_reducible apply ev_eq) <;> walk_at "ev")
  | ((with_reducible apply ev_ne) <;> walk_at "ev")
  | ((with_reducible apply ev_neg) <;> walk_at "ev")
  | ((with_reducible apply ev_ixN) <;> walk_at "ev")
  | ((with_reducible apply ev_ixL) <;> walk_at "ev")
  | ((with_reducible apply ev_inN) <;> walk_at "ev")
  | ((with_reducible apply ev_inT) <;> walk_at "ev")
  | ((with_reducible apply ev_ixT) <;> walk_at "ev")
  | ((with_reducible apply ev_ixS) <;> walk_at "ev")
  | ((with_reducible apply ev_len') <;> walk_at "ev")
  | ((with_reducible apply et_test) <;> walk_at "ev")
  | ((with_reducible apply et_and) <;> walk_at "ev")
  | ((with_reducible apply et_or) <;> walk_at "ev")
  | ((with_reducible apply et_not) <;> walk_at "ev")
  | ((with_reducible apply et_B) <;> walk_at "ev")
  | ((with_reducible apply el_lst) <;> walk_at "ev")
  | ((with_reducible apply eu_tup) <;> walk_at "ev")
  | ((with_reducible apply ea_cons) <;> walk_at "ev")
  | with_reducible exact ea_nil
  | with_reducible assumption
  | ((with_reducible apply ex_l' ; assumption) ; walk_at "ex")
  | ((with_reducible apply ex_t' ; assumption) ; walk_at "ex")
  | (intro _ ; walk_at "ev")
  | (with_reducible first | exact atI_hd | exact at_kind | exact at2s | exact at3s | exact at3i)
  | (first | exact rfl | exact Nat.le_of_ble_eq_true rfl | exact ⟨by decide, by decide⟩ | decide | exact Or.inl ⟨by omega, by omega⟩ | exact Or.inr ⟨by omega, by omega⟩ | omega)
  | skip)
local macro_rules | `(tactic| walk_at "ex") => `(tactic| first
  | assumption
  | exact Ex.refl _
  | (refine' Ex.trans ?_ (by assumption) ; walk_at "ex"))
local macro_rules | `(tactic| walk_at "row") => `(tactic| first
  | (with_reducible exact er_nil)
  | ((with_reducible apply er_cons) <;> walk_at "row")
  | (((with_reducible apply er_var) ; rfl) ; walk_at "isrow")
  | (((with_reducible apply elr_var) ; rfl) ; walk_at "isrow")
  | ((with_reducible apply elr_cat) <;> walk_at "row")
  | ((with_reducible apply elr_lst) <;> walk_at "row")
  | ((with_reducible apply er_fin) <;> walk_at "ev")
  | ((with_reducible apply er_lendT) <;> walk_at "ev")
  | ((with_reducible apply er_lendW) <;> walk_at "ev")
  | ((with_reducible apply er_pick) <;> walk_at "ev")
  | ((with_reducible apply er_either) <;> walk_at "ev")
  | ((with_reducible apply er_or) <;> walk_at "ev")
  | ((with_reducible apply er_again) <;> walk_at "ev")
  | ((with_reducible apply er_back) <;> walk_at "ev")
  | ((with_reducible apply er_look) <;> walk_at "ev")
  | ((with_reducible apply er_change) <;> walk_at "ev")
  | exact Nat.le_of_ble_eq_true rfl
  | skip)
local macro_rules | `(tactic| walk_at "isrow") => `(tactic| first
  | assumption
  | (refine IsRow.up ?_ (by assumption) ; walk_at "ex")
  | (refine LRows.up ?_ (by assumption) ; walk_at "ex"))

local macro_rules | `(tactic| walk_at "ev") => `(tactic| ((with_reducible apply ev_letter) <;> walk_at "ev"))
local macro_rules | `(tactic| walk_at "ev") => `(tactic| ((with_reducible apply ev_cell) <;> walk_at "ev"))
local macro_rules | `(tactic| walk_at "ev") => `(tactic| ((with_reducible apply ev_word) <;> walk_at "ev"))
local macro_rules | `(tactic| walk_at "ev") => `(tactic| ((with_reducible apply ev_thing) <;> walk_at "ev"))

local macro_rules | `(tactic| walk_at "ev") => `(tactic| (((with_reducible apply ev_tag) ; rfl) ; walk_at "isrow"))
abbrev s_l_sheet : Stmt := topS 25
theorem sc_l_sheet : FnScope ["_law_cells", "_law_draw_here", "_law_most", "_law_odd", "_law_rows", "_law_opened", "_law_k", "_law_row_here", "_law_named", "_law_way"] ["_law_cells", "_law_draw_here", "_law_most", "_law_odd"] (defScope s_l_sheet) := ⟨rfl, rfl, rfl, by decide +kernel, rfl, by decide +kernel, by decide +kernel⟩
abbrev s_l_drawn : Stmt := topS 26
theorem sc_l_drawn : FnScope ["_law_script", "_law_most", "_law_many", "_law_way", "_law_cells", "_law_rows", "_law_k"] ["_law_script", "_law_most"] (defScope s_l_drawn) := ⟨rfl, rfl, rfl, by decide +kernel, rfl, by decide +kernel, by decide +kernel⟩
/-! ### the sheet's mirror -/
def opUpd (op : List Rw) (r : Rw) : List Rw := if r.opens = true then op ++ [r] else if r.isFin = true then op.dropLast else op
def stepM (c0 c1 c2 most : Int) (odd : Bool) (d : Draw) (st : List Rw × List Rw) : List Rw × List Rw :=
  if odd = true ∧ c0 % 2 = 0 ∧ ((st.2.filter Rw.named).length : Int) < 3 then (st.1 ++ gadgetM c1 c2 (st.2.filter Rw.named).length d, st.2)
  else (st.1 ++ [rowM (c0 % most) c1 c2 st.2 d], opUpd st.2 (rowM (c0 % most) c1 c2 st.2 d))
def sheetSt (cells : List Int) (d : Draw) (most : Int) (odd : Bool) : Nat → List Rw × List Rw
  | 0 => ([], [])
  | i + 1 => stepM (cells.getD (3 * i) 0) (cells.getD (3 * i + 1) 0) (cells.getD (3 * i + 2) 0) most odd d (sheetSt cells d most odd i)
def sheetM (cells : List Int) (d : Draw) (most : Int) (odd : Bool) : List Rw :=
  (sheetSt cells d most odd (cells.length / 3)).1 ++ (List.range (sheetSt cells d most odd (cells.length / 3)).2.length).map fun _ => Rw.fin
/-- what is open is small: six lends, three picks -/
def Rw.isPick : Rw → Bool
  | .pick _ _ => true | _ => false
structure Few (op : List Rw) : Prop where
  lends : (op.filter Rw.isLend).length ≤ 6
  picks : (op.filter Rw.isPick).length ≤ 3
theorem named_len : ∀ op : List Rw, (op.filter Rw.named).length = (op.filter Rw.isLend).length + (op.filter Rw.isPick).length
  | [] => rfl
  | r :: op => by
    have ih := named_len op
    cases r <;> simp only [List.filter_cons, Rw.named, Rw.isLend, Rw.isPick, if_true, if_false, List.length_cons, Bool.false_eq_true] <;> omega
theorem lend_of_named (op : List Rw) : (op.filter Rw.named).filter Rw.isLend = op.filter Rw.isLend := by
  rw [List.filter_filter]
  congr 1
  funext r
  cases r <;> rfl
theorem Few.named {op : List Rw} (f : Few op) : (op.filter Rw.named).length ≤ 9 := by
  have := named_len op
  have := f.lends
  have := f.picks
  omega
theorem few_drop {op : List Rw} (f : Few op) : Few op.dropLast := by
  have h : List.Sublist op.dropLast op := List.dropLast_sublist op
  exact ⟨Nat.le_trans (h.filter _).length_le f.lends, Nat.le_trans (h.filter _).length_le f.picks⟩
theorem lendM_isLend (one two : Int) (named : List Rw) (d : Draw) : (lendM one two named d).isLend = true := by
  unfold lendM
  split <;> rfl
theorem deedM_not (one two : Int) (hands : List Rw) : (deedM one two hands).opens = false ∧ (deedM one two hands).isFin = false := by
  unfold deedM
  split
  · exact ⟨rfl, rfl⟩
  · split
    · exact ⟨rfl, rfl⟩
    · split <;> exact ⟨rfl, rfl⟩
theorem lend_few {op : List Rw} {r : Rw} (f : Few op) (hr : r.isLend = true) (h : (op.filter Rw.isLend).length < 6 ∨ op = []) : Few (opUpd op r) := by
  cases r with
  | lend a b c =>
    have e : opUpd op (.lend a b c) = op ++ [.lend a b c] := rfl
    rw [e]
    refine ⟨?_, ?_⟩
    · rw [List.filter_append, List.length_append]
      show _ + 1 ≤ 6
      rcases h with h | h
      · omega
      · subst h; decide
    · rw [List.filter_append, List.length_append]
      exact f.picks
  | _ => cases hr
theorem few_row {op : List Rw} (f : Few op) (way one two : Int) (d : Draw) : Few (opUpd op (rowM way one two op d)) := by
  unfold rowM
  rw [lend_of_named]
  have hn := named_len op
  unfold rowN
  split
  · rename_i h
    exact lend_few f (lendM_isLend _ _ _ _) (.inl (by omega))
  split
  · rename_i h
    show Few (op ++ [_])
    refine ⟨?_, ?_⟩
    · rw [List.filter_append, List.length_append]
      exact f.lends
    · rw [List.filter_append, List.length_append]
      show _ + 1 ≤ 3
      omega
  split
  · show Few (op ++ [_])
    refine ⟨?_, ?_⟩
    · rw [List.filter_append, List.length_append]
      exact f.lends
    · rw [List.filter_append, List.length_append]
      exact f.picks
  split
  · show Few (op ++ [_])
    refine ⟨?_, ?_⟩
    · rw [List.filter_append, List.length_append]
      exact f.lends
    · rw [List.filter_append, List.length_append]
      exact f.picks
  split
  · exact f
  split
  · have h := deedM_not one two (op.filter Rw.isLend)
    unfold opUpd
    rw [h.1, h.2]
    exact f
  split
  · exact few_drop f
  · rename_i h
    refine lend_few f (lendM_isLend _ _ _ _) (.inr ?_)
    cases op with
    | nil => rfl
    | cons a b => exact absurd (by show (0 : Int) < ((b.length + 1 : Nat) : Int); omega) h
theorem rowM_fin {op : List Rw} {way one two : Int} {d : Draw} (h : (rowM way one two op d).isFin = true) : 0 < op.length := by
  have hl : ∀ named : List Rw, (lendM one two named d).isFin = true → False := fun named z => by
    have := lendM_isLend one two named d
    generalize lendM one two named d = r at *
    cases r <;> simp_all [Rw.isFin, Rw.isLend]
  unfold rowM rowN at h
  split at h
  · exact (hl _ h).elim
  split at h
  · cases h
  split at h
  · cases h
  split at h
  · cases h
  split at h
  · cases h
  split at h
  · rw [(deedM_not _ _ _).2] at h; cases h
  split at h
  · omega
  · exact (hl _ h).elim
theorem few_st (cells : List Int) (d : Draw) (most : Int) (odd : Bool) : ∀ i, Few (sheetSt cells d most odd i).2
  | 0 => ⟨Nat.zero_le _, Nat.zero_le _⟩
  | i + 1 => by
    have ih := few_st cells d most odd i
    unfold sheetSt stepM
    split
    · exact ih
    · exact few_row ih _ _ _ _
theorem gad_len (one two : Int) (a b c : Str) (t : Int) : (gadA one two a b c t).length ≤ 12 := by
  unfold gadA
  split
  · unfold fourM
    split
    · exact Nat.le_of_ble_eq_true rfl
    split
    · exact Nat.le_of_ble_eq_true rfl
    split <;> exact Nat.le_of_ble_eq_true rfl
  split
  · show 6 ≤ 12
    exact Nat.le_of_ble_eq_true rfl
  split
  · exact Nat.le_of_ble_eq_true rfl
  split
  · exact Nat.le_of_ble_eq_true rfl
  split <;> exact Nat.le_of_ble_eq_true rfl
theorem opUpd_len (op : List Rw) (r : Rw) : (opUpd op r).length ≤ op.length + 1 := by
  unfold opUpd
  split
  · rw [List.length_append]; exact Nat.le_refl _
  split
  · rw [List.length_dropLast]; omega
  · omega
theorem st_len (cells : List Int) (d : Draw) (most : Int) (odd : Bool) : ∀ i, (sheetSt cells d most odd i).1.length ≤ 12 * i ∧ (sheetSt cells d most odd i).2.length ≤ i
  | 0 => ⟨Nat.le_refl _, Nat.le_refl _⟩
  | i + 1 => by
    have ih := st_len cells d most odd i
    unfold sheetSt stepM
    split
    · have h := gad_len (cells.getD (3 * i + 1) 0) (cells.getD (3 * i + 2) 0) (wordM (cells.getD (3 * i + 1) 0) (cells.getD (3 * i + 2) 0) ((sheetSt cells d most odd i).2.filter Rw.named).length d)
        (wordM (cells.getD (3 * i + 2) 0) (cells.getD (3 * i + 1) 0) (((sheetSt cells d most odd i).2.filter Rw.named).length + 1) d) (wordM (cells.getD (3 * i + 1) 0) (cells.getD (3 * i + 1) 0) (((sheetSt cells d most odd i).2.filter Rw.named).length + 2) d) (thingM (cells.getD (3 * i + 2) 0) d.base)
      show (_ ++ gadgetM _ _ _ _).length ≤ _ ∧ _
      rw [List.length_append]
      unfold gadgetM
      exact ⟨by omega, by show (sheetSt cells d most odd i).2.length ≤ i + 1; omega⟩
    · show (_ ++ [_]).length ≤ _ ∧ (opUpd _ _).length ≤ _
      rw [List.length_append]
      have h2 := opUpd_len (sheetSt cells d most odd i).2 (rowM (cells.getD (3 * i) 0 % most) (cells.getD (3 * i + 1) 0) (cells.getD (3 * i + 2) 0) (sheetSt cells d most odd i).2 d)
      exact ⟨by show _ + 1 ≤ _; omega, by omega⟩
theorem sheet_len (cells : List Int) (d : Draw) (most : Int) (odd : Bool) : (sheetM cells d most odd).length ≤ 13 * (cells.length / 3) := by
  have h := st_len cells d most odd (cells.length / 3)
  unfold sheetM
  rw [List.length_append, List.length_map, List.length_range]
  omega
section
variable {P : Program} {w : World} {K : PySem.W.Frag} {mg : Str → Option Value} {base : Heap}
def spSheet (K : PySem.W.Frag) : Sp := fun vs H Q _ => ∃ (ac a : Addr) (cells : List Int) (d : Draw) (most : Int) (odd : Bool), vs = [.ref ac, .ref a, .int most, .bl odd] ∧ SqL K H ac (cells.map V.int) ∧ cells.length ≤ 600 ∧ SqL K H a d.vs ∧ d.Ok ∧ 0 < most ∧
  Ret (LRows (sheetM cells d most odd)) H Q
theorem cell_at {cells : List Int} {n : Nat} (h : n < cells.length) {z : Int} (e : z = (n : Int)) : atI (cells.map V.int) z = some (.int (cells.getD n 0)) := by
  have := at_ints cells (i := (n : Int)) (by omega) (by omega)
  rw [e, this, Int.toNat_natCast]
theorem ok_sheet (D : Dn K mg "_law_sheet" s_l_sheet ["_law_cells", "_law_draw_here", "_law_most", "_law_odd"]) (T : Blt mg) (h_l_gadget : Has P w K mg base "_law_gadget" 3 ["_law_one", "_law_two", "_law_deep", "_law_draw_here"] (spGadget K)) (h_l_row : Has P w K mg base "_law_row" 3 ["_law_way", "_law_one", "_law_two", "_law_opened", "_law_draw_here"] (spRow K)) : Has P w K mg base "_law_sheet" 4 ["_law_cells", "_law_draw_here", "_law_most", "_law_odd"] (spSheet K) := by
  refine D.ok sc_l_sheet (fun vs H Q E h => ?_) (fun f cdv A outer s H vs Q E hr h => ?_)
  · obtain ⟨ac, a, cells, d, most, odd, rfl, _⟩ := h
    rfl
  · obtain ⟨ac, a, cells, d, most, odd, rfl, hC, hlen, hS, ok, hm, q⟩ := h
    refine ⟨_, (pss_cons (ps_set (i := 4) sc_l_sheet.nd rfl (Or.inl rfl) (pe_lst pa_nil)) (pss_cons (ps_set (i := 5) sc_l_sheet.nd rfl (Or.inl rfl) (pe_lst pa_nil)) (pss_cons (ps_for PassesOwn.never rfl (pi_range1 (by rfl) T.range_ (pa_cons (pe_op op_fdiv (pe_callB (show CallR _ _ (rLenS K) from call_len_seq) (by rfl) T.len_ (by decide +kernel) (pa_cons (pv 0) pa_nil)) pe_int) pa_nil)) (pg_name (i := 6) sc_l_sheet.nd rfl (Or.inl rfl)) (pss_cons (ps_setLc (i := 8) (own := [("_law_row_here", 7)]) (g := (gName 7))  rfl sc_l_sheet.nd rfl rfl (sw_true rfl rfl rfl (by decide +kernel)) (pi_list (pv 5)) (blkOk_by (own := [("_law_row_here", 7)]) (N := ["_law_cells", "_law_draw_here", "_law_most", "_law_odd", "_law_rows", "_law_opened", "_law_k", "_law_row_here", "_law_named", "_law_way"]) (sc := defScope s_l_sheet) (by decide +kernel)) (fun _ _ _ _ _ => (pg_name (i := 7) sc_l_sheet.nd rfl (Or.inl rfl))) (fun _ _ _ _ _ => (pts_one (pt_cmpR (show OpR _ _ (rIn K false) from op_in_seq) (pe_ix (show IxR _ (rIxT K) from ix_tup) (pv 7) pe_int (fun _ _ => rfl)) (pe_lst (pa_cons pe_str (pa_cons pe_str pa_nil))) (by rfl)))) (fun _ _ _ _ _ => (pv 7))) (pss_cons (ps_set (i := 9) sc_l_sheet.nd rfl (Or.inl rfl) (pe_ix (show IxR _ (rIxL K) from ix_list) (pv 0) (pe_op op_mul pe_int (pv 6)) (fun _ _ => rfl))) (pss_one (ps_if (PW.pt (pw_and (pt_val (pv 3)) (pw_and (pt_cmpR op_eq (pe_op op_mod (pv 9) pe_int) pe_int (nomark _)) (pw_and1 (pt_cmpR op_lt (pe_callB (show CallR _ _ (rLenS K) from call_len_seq) (by rfl) T.len_ (by decide +kernel) (pa_cons (pv 8) pa_nil)) pe_int (nomark _)))))) (pss_one (ps_set (i := 4) sc_l_sheet.nd rfl (Or.inl rfl) (pe_op op_cat (pv 4) (pe_own h_l_gadget (hr.mono (by decide)) (by rfl) (pa_cons (pe_ix (show IxR _ (rIxL K) from ix_list) (pv 0) (pe_op op_add (pe_op op_mul pe_int (pv 6)) pe_int) (fun _ _ => rfl)) (pa_cons (pe_ix (show IxR _ (rIxL K) from ix_list) (pv 0) (pe_op op_add (pe_op op_mul pe_int (pv 6)) pe_int) (fun _ _ => rfl)) (pa_cons (pe_callB (show CallR _ _ (rLenS K) from call_len_seq) (by rfl) T.len_ (by decide +kernel) (pa_cons (pv 8) pa_nil)) (pa_cons (pv 1) pa_nil)))))))) (pss_cons (ps_set (i := 7) sc_l_sheet.nd rfl (Or.inl rfl) (pe_own h_l_row (hr.mono (by decide)) (by rfl) (pa_cons (pe_op op_mod (pv 9) (pv 2)) (pa_cons (pe_ix (show IxR _ (rIxL K) from ix_list) (pv 0) (pe_op op_add (pe_op op_mul pe_int (pv 6)) pe_int) (fun _ _ => rfl)) (pa_cons (pe_ix (show IxR _ (rIxL K) from ix_list) (pv 0) (pe_op op_add (pe_op op_mul pe_int (pv 6)) pe_int) (fun _ _ => rfl)) (pa_cons (pv 5) (pa_cons (pv 1) pa_nil))))))) (pss_cons (ps_set (i := 4) sc_l_sheet.nd rfl (Or.inl rfl) (pe_op op_cat (pv 4) (pe_lst (pa_cons (pv 7) pa_nil)))) (pss_cons (ps_if (pt_cmpR (show OpR _ _ (rIn K false) from op_in_seq) (pe_ix (show IxR _ (rIxT K) from ix_tup) (pv 7) pe_int (fun _ _ => rfl)) (pe_lst (pa_cons pe_str (pa_cons pe_str (pa_cons pe_str (pa_cons pe_str pa_nil))))) (by rfl)) (pss_one (ps_expr (pe_bm PySem.F.plainAttrs_list PySem.F.slot_list_append PySem.F.type_list_append mt_append (pv 5) (pa_cons (pv 7) pa_nil)))) pss_nil) (pss_one (ps_if (pt_cmpR op_eq (pe_ix (show IxR _ (rIxT K) from ix_tup) (pv 7) pe_int (fun _ _ => rfl)) pe_str (nomark _)) (pss_one (ps_expr (pe_bm0 PySem.F.plainAttrs_list PySem.F.slot_list_pop PySem.F.type_list_pop mt_pop (pv 5)))) pss_nil)))))))))) (pss_one (ps_ret (pe_op op_cat (pv 4) (pe_lc (own := [("_law_row_here", 7)]) (g := (gName 7)) (tt := tYes) rfl sc_l_sheet.nd (pi_list (pv 5)) (blkOk_by (own := [("_law_row_here", 7)]) (N := ["_law_cells", "_law_draw_here", "_law_most", "_law_odd", "_law_rows", "_law_opened", "_law_k", "_law_row_here", "_law_named", "_law_way"]) (sc := defScope s_l_sheet) (by decide +kernel)) (fun _ _ _ _ _ => (pg_name (i := 7) sc_l_sheet.nd rfl (Or.inl rfl))) (fun _ _ _ _ _ => pts_nil) (fun _ _ _ _ _ => (pe_tup (pa_cons pe_str pa_nil)))))))))), ?_⟩
    show (_ : L2.TS) _ [_, _, _, _, _, _, _, _, _, _] _
    refine q_asgL (xs := []) ?_ (fun pr0 H1 hpr0 e1 h1 => ?_)
    · walk_at "ev"
    show (_ : L2.TS) _ [_, _, _, _, _, _, _, _, _, _] _
    refine q_asgL (xs := []) ?_ (fun po H2 hpo e2 h2 => ?_)
    · walk_at "ev"
    show (_ : L2.TS) _ [_, _, _, _, _, _, _, _, _, _] _
    have hpoH : H po = none := fresh_back e1 hpo
    refine q_forR1 (n := (((cells.map V.int).length : Nat) : Int) / 3) ?_ ?_ (fun i σ' H' => Ex H H' ∧ ∃ pr rv ov x6 x7 x8 x9, σ' = [some (.ref ac), some (.ref a), some (.int most), some (.bl odd), some (.ref pr), some (.ref po), x6, x7, x8, x9] ∧ pr ≠ po ∧
      H' pr = some (.lst rv) ∧ Rows H' rv (sheetSt cells d most odd i).1 ∧ H' po = some (.lst ov) ∧ Rows H' ov (sheetSt cells d most odd i).2) ?_ ?_ ?_
    · walk_at "ev"
    · rw [List.length_map]
      omega
    · intro H3 e3
      exact ⟨by walk_at "ex", pr0, [], [], none, none, none, none, rfl, (ne_of_none h1 hpo), e3 _ _ (e2 _ _ h1), .nil, e3 _ _ h2, .nil⟩
    · rintro i σ' H' hi ⟨e3, pr, rv, ov, x6, x7, x8, x9, rfl, hne, hpr, hRv, hpo', hOv⟩
      rw [List.length_map] at hi
      have hst := st_len cells d most odd i
      have hfew := (few_st cells d most odd i).named
      have hi3 : 3 * i + 2 < cells.length := by omega
      generalize hste : sheetSt cells d most odd i = st at *
      have hO : SqL K H' po ov := sq_of hpo'
      have hlo := hOv.len
      refine q_asgPL (epl_filter Rw.named (ev_var rfl) hO hOv (by omega) (fun x => rfl) (fun x r H1 e hx => ?_) (fun x => rfl)) (fun pn nv H4 hpn e4 h4 hNv => ?_)
      · rw [← tag_named r]
        walk_at "ev"
      show (_ : L2.TS) _ [_, _, _, _, _, _, _, _, _, _] _
      have hN : SqL K H4 pn nv := sq_of h4
      have hln := hNv.len
      refine' q_asg (v := .int (cells.getD (3 * i) 0)) ?_ (fun H5 e5 => ?_)
      · walk_at "ev"
        exact cell_at (by omega) (by omega)
      show (_ : L2.TS) _ [_, _, _, _, _, _, _, _, _, _] _
      refine' s_if (b := odd && (decide (V.int (cells.getD (3 * i) 0 % 2) = V.int 0) && decide ((nv.length : Int) < 3))) ?_ (fun hb H6 e6 => ?_) (fun hb H6 e6 => ?_)
      · walk_at "ev"
      · simp only [Bool.and_eq_true, decide_eq_true_eq, V.int.injEq] at hb
        rw [hln] at hb
        have hL6 : LRows st.1 (.ref pr) H6 := ⟨pr, rv, rfl, e6 _ _ (e5 _ _ (e4 _ _ hpr)), ((hRv.up e4).up e5).up e6⟩
        have hg := gad_len (cells.getD (3 * i + 1) 0) (cells.getD (3 * i + 2) 0) (wordM (cells.getD (3 * i + 1) 0) (cells.getD (3 * i + 2) 0) (st.2.filter Rw.named).length d)
          (wordM (cells.getD (3 * i + 2) 0) (cells.getD (3 * i + 1) 0) ((st.2.filter Rw.named).length + 1) d) (wordM (cells.getD (3 * i + 1) 0) (cells.getD (3 * i + 1) 0) ((st.2.filter Rw.named).length + 2) d) (thingM (cells.getD (3 * i + 2) 0) d.base)
        refine s_asgPL (elr_catL (elr_var rfl hL6) (ep_gadget (one := cells.getD (3 * i + 1) 0) (two := cells.getD (3 * i + 2) 0) (deep := ((st.2.filter Rw.named).length : Nat)) (a := a) (d := d) ?_ ?_ ok (by omega) (by omega)) ?_) (fun p us H7 hp e7 h7 hR => ?_)
        · rw [← hln]
          walk_at "ev"
          · exact cell_at (n := 3 * i + 1) (by omega) (by omega)
          · exact cell_at (n := 3 * i + 2) (by omega) (by omega)
        · walk_at "ev"
        · unfold gadgetM
          omega
        · have e37 : Ex H' H7 := by walk_at "ex"
          refine ⟨e3.trans e37, p, us, ov, _, _, _, _, rfl, (ne_of_none (e6 _ _ (e5 _ _ (e4 _ _ hpo'))) hp).symm, h7, ?_, e37 _ _ hpo', ?_⟩
          · unfold sheetSt stepM
            rw [hste, if_pos ⟨hb.1, hb.2.1, hb.2.2⟩]
            exact hR
          · unfold sheetSt stepM
            rw [hste, if_pos ⟨hb.1, hb.2.1, hb.2.2⟩]
            exact hOv.up e37
      · simp only [Bool.and_eq_false_iff, decide_eq_false_iff_not, V.int.injEq] at hb
        rw [hln] at hb
        have hneg : ¬ (odd = true ∧ cells.getD (3 * i) 0 % 2 = 0 ∧ ((st.2.filter Rw.named).length : Int) < 3) := fun z => by
          rcases hb with hb | hb | hb
          · rw [z.1] at hb; cases hb
          · exact hb z.2.1
          · exact hb z.2.2
        have est : sheetSt cells d most odd (i + 1) = (st.1 ++ [rowM (cells.getD (3 * i) 0 % most) (cells.getD (3 * i + 1) 0) (cells.getD (3 * i + 2) 0) st.2 d], opUpd st.2 (rowM (cells.getD (3 * i) 0 % most) (cells.getD (3 * i + 1) 0) (cells.getD (3 * i + 2) 0) st.2 d)) := by
          show stepM _ _ _ _ _ _ _ = _
          rw [hste]
          unfold stepM
          rw [if_neg hneg]
        have e46 : Ex H' H6 := by walk_at "ex"
        refine q_asgP (ep_row (way := cells.getD (3 * i) 0 % most) (one := cells.getD (3 * i + 1) 0) (two := cells.getD (3 * i + 2) 0) (o := po) (a := a) (ov := ov) (opened := st.2) (d := d) ?_ (sq_of (e46 _ _ hpo')) (hOv.up e46) (by omega) (by omega) ?_ ok) (fun v H7 e7 hv => ?_)
        · clear e46
          walk_at "ev"
          · exact cell_at (n := 3 * i + 1) (by omega) (by omega)
          · exact cell_at (n := 3 * i + 2) (by omega) (by omega)
        · clear e46
          walk_at "ev"
        show (_ : L2.TS) _ [_, _, _, _, _, _, _, _, _, _] _
        have hfin : (rowM (cells.getD (3 * i) 0 % most) (cells.getD (3 * i + 1) 0) (cells.getD (3 * i + 2) 0) st.2 d).isFin = true → 0 < st.2.length := rowM_fin
        generalize rowM (cells.getD (3 * i) 0 % most) (cells.getD (3 * i + 1) 0) (cells.getD (3 * i + 2) 0) st.2 d = r at *
        have hv : IsRow H7 v r := hv
        have e67 : Ex H' H7 := e46.trans e7
        have hL7 : LRows st.1 (.ref pr) H7 := ⟨pr, rv, rfl, e67 _ _ hpr, hRv.up e67⟩
        refine q_asgPL (elr_catL (elr_var rfl hL7) (elr_lst (er_cons (er_var rfl hv) er_nil) (Nat.le_of_ble_eq_true rfl)) (by show st.1.length + 1 ≤ 100000; omega)) (fun p us H8 hp e8 h8 hR => ?_)
        show (_ : L2.TS) _ [_, _, _, _, _, _, _, _, _, _] _
        have e68 : Ex H' H8 := e67.trans e8
        have hv8 : IsRow H8 v r := hv.up e8
        have hpo8 : H8 po = some (.lst ov) := e68 _ _ hpo'
        have hnp : p ≠ po := (ne_of_none (e67 _ _ hpo') hp).symm
        have eH8 : Ex H H8 := e3.trans e68
        clear e4 e5 e6 e7 e8 e46 e67
        have hR1 : Rows H8 us (sheetSt cells d most odd (i + 1)).1 := by
          rw [est]
          exact hR
        have e2nd : (sheetSt cells d most odd (i + 1)).2 = opUpd st.2 r := by rw [est]
        cases hro : r.opens with
        | true =>
          have hrf : r.isFin = false := by cases r <;> first | rfl | cases hro
          refine q_when (b := true) ?_ (fun _ H9 e9 => ?_) (fun hb _ _ => by cases hb)
          · refine et_is ?_ hro
            rw [← tag_opens r]
            walk_at "ev"
          · refine s_app (e9 _ _ hpo8) (ev_var rfl) (ev_var rfl) (by omega) (fun H10 e10 => ?_)
            have x10 : ExT H10 (upd H10 po (.lst (ov ++ [v]))) := ExT.lst (e10 _ _ (e9 _ _ hpo8))
            have eT : ExT H8 (upd H10 po (.lst (ov ++ [v]))) := (ExT.of (e9.trans e10)).trans x10
            have e11 : Ex H (upd H10 po (.lst (ov ++ [v]))) := Ex.mut (eH8.trans (e9.trans e10)) hpoH
            have hX : IsRow (upd H10 po (.lst (ov ++ [v]))) v r := hv8.upT eT
            dsimp only
            refine s_when (b := false) ?_ (fun hb _ _ => by cases hb) (fun _ H11 e12 => ?_)
            · refine et_is ?_ hrf
              rw [← tag_fin r]
              walk_at "ev"
            · refine ⟨e11.trans e12, p, us, ov ++ [v], _, _, _, _, rfl, hnp, e12 _ _ (by rw [upd_ne hnp]; exact e10 _ _ (e9 _ _ h8)), (hR1.upT eT).up e12, e12 _ _ upd_same, ?_⟩
              rw [e2nd]
              unfold opUpd
              rw [if_pos hro]
              exact (Rows.append ((hOv.up e68).upT eT) (.cons hX .nil)).up e12
        | false =>
          refine q_when (b := false) ?_ (fun hb _ _ => by cases hb) (fun _ H9 e9 => ?_)
          · refine et_is ?_ hro
            rw [← tag_opens r]
            walk_at "ev"
          · have hv9 : IsRow H9 v r := hv8.up e9
            cases hrf : r.isFin with
            | true =>
              have hpos : 0 < ov.length := by
                have := hfin hrf
                omega
              refine s_when (b := true) ?_ (fun _ H10 e10 => ?_) (fun hb _ _ => by cases hb)
              · refine et_is ?_ hrf
                rw [← tag_fin r]
                walk_at "ev"
              · refine s_pop (e10 _ _ (e9 _ _ hpo8)) (ev_var rfl) hpos (fun H11 e11 => ?_)
                have x10 : ExT H11 (upd H11 po (.lst ov.dropLast)) := ExT.lst (e11 _ _ (e10 _ _ (e9 _ _ hpo8)))
                have eT : ExT H8 (upd H11 po (.lst ov.dropLast)) := (ExT.of (e9.trans (e10.trans e11))).trans x10
                have e12 : Ex H (upd H11 po (.lst ov.dropLast)) := Ex.mut (eH8.trans (e9.trans (e10.trans e11))) hpoH
                refine ⟨e12, p, us, ov.dropLast, _, _, _, _, rfl, hnp, (by rw [upd_ne hnp]; exact e11 _ _ (e10 _ _ (e9 _ _ h8))), hR1.upT eT, upd_same, ?_⟩
                rw [e2nd]
                unfold opUpd
                rw [if_neg (by rw [hro]; decide), if_pos hrf]
                exact ((hOv.up e68).upT eT).dropLast
            | false =>
              refine s_when (b := false) ?_ (fun hb _ _ => by cases hb) (fun _ H10 e10 => ?_)
              · refine et_is ?_ hrf
                rw [← tag_fin r]
                walk_at "ev"
              · have e11 : Ex H8 H10 := e9.trans e10
                refine ⟨eH8.trans e11, p, us, ov, _, _, _, _, rfl, hnp, e11 _ _ h8, hR1.up e11, e11 _ _ hpo8, ?_⟩
                rw [e2nd]
                unfold opUpd
                rw [if_neg (by rw [hro]; decide), if_neg (by rw [hrf]; decide)]
                exact (hOv.up e68).up e11
    · rintro σ' H' ⟨e3, pr, rv, ov, x6, x7, x8, x9, rfl, hne, hpr, hRv, hpo', hOv⟩
      rw [show ((((cells.map V.int).length : Nat) : Int) / 3).toNat = cells.length / 3 by rw [List.length_map]; omega] at hRv hOv
      have hst := st_len cells d most odd (cells.length / 3)
      have hlo := hOv.len
      refine s_retP (ep_PL (elr_catL (elr_var rfl ⟨pr, rv, rfl, hpr, hRv⟩) (ep_PL (epl_map (fun _ => Rw.fin) (ev_var rfl) (sq_of hpo') (by omega) (fun x => rfl) (fun j x H4 e4 hx => ?_))) ?_)) (fun v H5 e5 hv => q v H5 (e3.trans e5) ?_)
      · walk_at "row"
      · rw [List.length_map, List.length_range]
        omega
      · unfold sheetM
        rw [← hlo]
        exact hv
theorem ep_sheet {ac a : Addr} {cells : List Int} {d : Draw} {most : Int} {odd : Bool} {ta : TA} {σ : L2.St} {H : Hp} {E : XK} (h : EvA ta σ H [.ref ac, .ref a, .int most, .bl odd]) (hC : SqL K H ac (cells.map V.int)) (hl : cells.length ≤ 600)
    (hS : SqL K H a d.vs) (ok : d.Ok) (hm : 0 < most) : EvP (tCall (spSheet K) [] E ta) σ H (LRows (sheetM cells d most odd)) :=
  ep_call h fun H1 e Q q E => ⟨ac, a, cells, d, most, odd, rfl, ex_l e hC, hl, ex_l e hS, ok, hm, q⟩
end
end BD
namespace BD
open PySem PySem.Spec PyProof.Rows L2 Evl
local macro_rules | `(tactic| walk_at "ev") => `(tactic| first
  | ((with_reducible apply ev_var) ; rfl)
  | with_reducible exact ev_c
  | ((with_reducible apply ev_I0) <;> walk_at "ev")
  | ((with_reducible apply ev_e9) <;> walk_at "ev")
  | ((with_reducible apply ev_I) <;> walk_at "ev")
  | ((with_reducible apply ev_eq) <;> walk_at "ev")
  | ((with_reducible apply ev_ne) <;> walk_at "ev")
  | ((with_reducible apply ev_neg) <;> walk_at "ev")
  | ((with_reducible apply ev_ixN) <;> walk_at "ev")
  | ((with_reducible apply ev_ixL) <;> walk_at "ev")
  | ((with_reducible apply ev_inN) <;> walk_at "ev")
  | ((with_reducible apply ev_inT) <;> walk_at "ev")
  | ((with_reducible apply ev_ixT) <;> walk_at "ev")
  | ((with_reducible apply ev_ixS) <;> walk_at "ev")
  | ((with_reducible apply ev_len') <;> walk_at "ev")
  | ((with_reducible apply et_test) <;> walk_at "ev")
  | ((with_reducible apply et_and) <;> walk_at "ev")
  | ((with_reducible apply et_or) <;> walk_at "ev")
  | ((with_reducible apply et_not) <;> walk_at "ev")
  | ((with_reducible apply et_B) <;> walk_at "ev")
  | ((with_reducible apply el_lst) <;> walk_at "ev")
  | ((with_reducible apply eu_tup) <;> walk_at "ev")
  | ((with_reducible apply ea_cons) <;> walk_at "ev")
  | with_reducible exact ea_nil
  | with_reducible assumption
  | ((with_reducible apply ex_l' ; assumption) ; walk_at "ex")
  | ((with_reducible apply ex_t' ; assumption) ; walk_at "ex")
  | (intro _ ; walk_at "ev")
  | (with_reducible first | exact atI_hd | exact at_kind | exact at2s | exact at3s | exact at3i)
  | (first | exact rfl | exact Nat.le_of_ble_eq_true rfl | exact ⟨by decide, by decide⟩ | decide | exact Or.inl ⟨by omega, by omega⟩ | exact Or.inr ⟨by omega, by omega⟩ | omega)
  | skip)
local macro_rules | `(tactic| walk_at "ex") => `(tactic| first
  | assumption
  | exact Ex.refl _
  | (refine' Ex.trans ?_ (by assumption) ; walk_at "ex"))
local macro_rules | `(tactic| walk_at "row") => `(tactic| first
  | (with_reducible exact er_nil)
  | ((with_reducible apply er_cons) <;> walk_at "row")
  | (((with_reducible apply er_var) ; rfl) ; walk_at "isrow")
  | (((with_reducible apply elr_var) ; rfl) ; walk_at "isrow")
  | ((with_reducible apply elr_cat) <;> walk_at "row")
  | ((with_reducible apply elr_lst) <;> walk_at "row")
  | ((with_reducible apply er_fin) <;> walk_at "ev")
  | ((with_reducible apply er_lendT) <;> walk_at "ev")
  | ((with_reducible apply er_lendW) <;> walk_at "ev")
  | ((with_reducible apply er_pick) <;> walk_at "ev")
  | ((with_reducible apply er_either) <;> walk_at "ev")
  | ((with_reducible apply er_or) <;> walk_at "ev")
  | ((with_reducible apply er_again) <;> walk_at "ev")
  | ((with_reducible apply er_back) <;> walk_at "ev")
  | ((with_reducible apply er_look) <;> walk_at "ev")
  | ((with_reducible apply er_change) <;> walk_at "ev")
  | exact Nat.le_of_ble_eq_true rfl
  | skip)
local macro_rules | `(tactic| walk_at "isrow") => `(tactic| first
  | assumption
  | (refine IsRow.up ?_ (by assumption) ; walk_at "ex")
  | (refine LRows.up ?_ (by assumption) ; walk_at "ex"))

local macro_rules | `(tactic| walk_at "ev") => `(tactic| ((with_reducible apply ev_letter) <;> walk_at "ev"))
local macro_rules | `(tactic| walk_at "ev") => `(tactic| ((with_reducible apply ev_cell) <;> walk_at "ev"))
local macro_rules | `(tactic| walk_at "ev") => `(tactic| ((with_reducible apply ev_word) <;> walk_at "ev"))
local macro_rules | `(tactic| walk_at "ev") => `(tactic| ((with_reducible apply ev_thing) <;> walk_at "ev"))

section
variable {P : Program} {w : World} {K : PySem.W.Frag} {mg : Str → Option Value} {base : Heap}
def mostM (way : Int) : Int := if way = 2 then 5 else if way = 3 ∨ way = 6 then 10 else 12
def wayM (ns : List Int) : Int := cellM ns 2 % 8
def manyM (ns : List Int) (most : Int) : Int :=
  if 3 < wayM ns then cellM ns 0 % (if cellM ns 2 / 384 % 4 = 3 then most + 10 else most) % 6 else cellM ns 0 % (if cellM ns 2 / 384 % 4 = 3 then most + 10 else most)
def cellsM (ns : List Int) (most : Int) : List Int := (List.range (3 * manyM ns most).toNat).map fun (k : Nat) => cellM ns (3 + (k : Int))
def baseM (ns : List Int) (most : Int) : List Rw := sheetM (cellsM ns most) (drawM ns) (mostM (wayM ns)) (decide (3 < wayM ns))
def drawnM (ns : List Int) (most : Int) : List Rw :=
  if (wayM ns = 1 ∨ wayM ns = 6) ∧ ((baseM ns most).length : Int) < 21 then baseM ns most ++ baseM ns most ++ baseM ns most ++ baseM ns most else baseM ns most
theorem in16 (way : Int) : inV (.int way) [V.int 1, V.int 6] = decide (way = 1 ∨ way = 6) := by
  unfold inV
  show ((1 : Int) == way || ((6 : Int) == way || false)) = _
  by_cases h5 : way = 1
  · subst h5; rfl
  · by_cases h6 : way = 6
    · subst h6; rfl
    · rw [decide_eq_false (fun z => z.elim h5 h6), beq_eq_false_iff_ne.mpr (Ne.symm h5), beq_eq_false_iff_ne.mpr (Ne.symm h6)]
      rfl
theorem at_most {way : Int} (h0 : 0 ≤ way) (h8 : way < 8) : atI [V.int 12, V.int 12, V.int 5, V.int 10, V.int 12, V.int 12, V.int 10, V.int 12] way = some (.int (mostM way)) := by
  have h : way = 0 ∨ way = 1 ∨ way = 2 ∨ way = 3 ∨ way = 4 ∨ way = 5 ∨ way = 6 ∨ way = 7 := by omega
  rcases h with h | h | h | h | h | h | h | h <;> subst h <;> rfl
theorem many_le (ns : List Int) {most : Int} (h : 0 < most) (h2 : most ≤ 100) : 0 ≤ manyM ns most ∧ manyM ns most < 110 := by
  unfold manyM
  have e : 0 < (if cellM ns 2 / 384 % 4 = 3 then most + 10 else most) ∧ (if cellM ns 2 / 384 % 4 = 3 then most + 10 else most) ≤ 110 := by
    split <;> omega
  have h3 := Int.emod_nonneg (cellM ns 0) (show (if cellM ns 2 / 384 % 4 = 3 then most + 10 else most) ≠ 0 by omega)
  have h4 := Int.emod_lt_of_pos (cellM ns 0) e.1
  split <;> omega
theorem cells_len (ns : List Int) (most : Int) : (cellsM ns most).length = (3 * manyM ns most).toNat := by
  unfold cellsM
  rw [List.length_map, List.length_range]
theorem base_len (ns : List Int) {most : Int} (h : 0 < most) (h2 : most ≤ 100) : (baseM ns most).length ≤ 1500 := by
  have h3 := sheet_len (cellsM ns most) (drawM ns) (mostM (wayM ns)) (decide (3 < wayM ns))
  have h4 := many_le ns h h2
  rw [cells_len] at h3
  unfold baseM
  omega
theorem drawn_len (ns : List Int) {most : Int} (h : 0 < most) (h2 : most ≤ 100) : (drawnM ns most).length ≤ 1500 := by
  have := base_len ns h h2
  unfold drawnM
  split
  · rw [List.length_append, List.length_append, List.length_append]
    omega
  · exact this
def spDrawn (K : PySem.W.Frag) : Sp := fun vs H Q _ => ∃ (a : Addr) (ns : List Int) (most : Int), vs = [.ref a, .int most] ∧ SqL K H a (ns.map V.int) ∧ 0 < most ∧ most ≤ 90 ∧ Ret (LRows (drawnM ns most)) H Q
theorem ok_drawn (D : Dn K mg "_law_drawn" s_l_drawn ["_law_script", "_law_most"]) (T : Blt mg) (h_l_cell_at : Has P w K mg base "_law_cell_at" 1 ["_law_script", "_law_k"] (spCell K)) (h_l_sheet : Has P w K mg base "_law_sheet" 4 ["_law_cells", "_law_draw_here", "_law_most", "_law_odd"] (spSheet K)) (h_l_draw : Has P w K mg base "_law_draw" 2 ["_law_script"] (spDraw K)) : Has P w K mg base "_law_drawn" 5 ["_law_script", "_law_most"] (spDrawn K) := by
  refine D.ok sc_l_drawn (fun vs H Q E h => ?_) (fun f cdv A outer s H vs Q E hr h => ?_)
  · obtain ⟨a, ns, most, rfl, _⟩ := h
    rfl
  · obtain ⟨a, ns, most, rfl, hS, hm0, hm1, q⟩ := h
    refine ⟨_, (pss_cons (ps_if (pt_cmpR op_eq (pe_op op_mod (pe_op op_fdiv (pe_own h_l_cell_at (hr.mono (by decide)) (by rfl) (pa_cons (pv 0) (pa_cons pe_int pa_nil))) pe_int) pe_int) pe_int (nomark _)) (pss_one (ps_set (i := 1) sc_l_drawn.nd rfl (Or.inl rfl) (pe_op op_add (pv 1) pe_int))) pss_nil) (pss_cons (ps_set (i := 2) sc_l_drawn.nd rfl (Or.inl rfl) (pe_op op_mod (pe_own h_l_cell_at (hr.mono (by decide)) (by rfl) (pa_cons (pv 0) (pa_cons pe_int pa_nil))) (pv 1))) (pss_cons (ps_set (i := 3) sc_l_drawn.nd rfl (Or.inl rfl) (pe_op op_mod (pe_own h_l_cell_at (hr.mono (by decide)) (by rfl) (pa_cons (pv 0) (pa_cons pe_int pa_nil))) pe_int)) (pss_cons (ps_if (pt_cmpR op_gt (pv 3) pe_int (nomark _)) (pss_one (ps_set (i := 2) sc_l_drawn.nd rfl (Or.inl rfl) (pe_op op_mod (pv 2) pe_int))) pss_nil) (pss_cons (ps_setLc (i := 4) (own := [("_law_k", 6)]) (g := (gName 6)) (tt := tYes) rfl sc_l_drawn.nd rfl rfl (sw_true rfl rfl rfl (by decide +kernel)) (pi_range1 (by rfl) T.range_ (pa_cons (pe_op op_mul pe_int (pv 2)) pa_nil)) (blkOk_by (own := [("_law_k", 6)]) (N := ["_law_script", "_law_most", "_law_many", "_law_way", "_law_cells", "_law_rows", "_law_k"]) (sc := defScope s_l_drawn) (by decide +kernel)) (fun _ _ _ _ _ => (pg_name (i := 6) sc_l_drawn.nd rfl (Or.inl rfl))) (fun _ _ _ _ _ => pts_nil) (fun _ _ _ _ _ => (pe_own h_l_cell_at (hr.mono (by decide)) (by rfl) (pa_cons (pv 0) (pa_cons (pe_op op_add pe_int (pv 6)) pa_nil))))) (pss_cons (ps_set (i := 5) sc_l_drawn.nd rfl (Or.inl rfl) (pe_own h_l_sheet (hr.mono (by decide)) (by rfl) (pa_cons (pv 4) (pa_cons (pe_own h_l_draw (hr.mono (by decide)) (by rfl) (pa_cons (pv 0) pa_nil)) (pa_cons (pe_ix (show IxR _ (rIxL K) from ix_list) (pe_lst (pa_cons pe_int (pa_cons pe_int (pa_cons pe_int (pa_cons pe_int (pa_cons pe_int (pa_cons pe_int (pa_cons pe_int (pa_cons pe_int pa_nil))))))))) (pv 3) (fun _ _ => rfl)) (pa_cons (pe_cmpR op_gt (pv 3) pe_int (nomark _)) pa_nil)))))) (pss_cons (ps_if (PW.pt (pw_and (pt_cmpR (show OpR _ _ (rIn K false) from op_in_seq) (pv 3) (pe_lst (pa_cons pe_int (pa_cons pe_int pa_nil))) (by rfl)) (pw_and1 (pt_cmpR op_lt (pe_callB (show CallR _ _ (rLenS K) from call_len_seq) (by rfl) T.len_ (by decide +kernel) (pa_cons (pv 5) pa_nil)) pe_int (nomark _))))) (pss_one (ps_set (i := 5) sc_l_drawn.nd rfl (Or.inl rfl) (pe_op op_cat (pe_op op_cat (pe_op op_cat (pv 5) (pv 5)) (pv 5)) (pv 5)))) pss_nil) (pss_one (ps_ret (pv 5)))))))))), ?_⟩
    show (_ : L2.TS) _ [_, _, _, _, _, _, _] _
    have hmany := many_le ns hm0 (by omega)
    have hbl := base_len ns hm0 (by omega)
    refine q_ifAsg (i := 1) (v := .int (if cellM ns 2 / 384 % 4 = 3 then most + 10 else most)) (b := decide (V.int (cellM ns 2 / 384 % 4) = V.int 3)) ?_ (fun hb => ?_) (fun hb => ?_) (fun H1 e1 => ?_)
    · walk_at "ev"
    · have hb := V.int.inj (of_decide_eq_true hb)
      rw [if_pos hb]
      walk_at "ev"
    · have hb : ¬ cellM ns 2 / 384 % 4 = 3 := fun z => of_decide_eq_false hb (by rw [z])
      rw [if_neg hb]
      rfl
    show (_ : L2.TS) _ [_, _, _, _, _, _, _] _
    have hmp : 0 < (if cellM ns 2 / 384 % 4 = 3 then most + 10 else most) := by split <;> omega
    generalize hmm : (if cellM ns 2 / 384 % 4 = 3 then most + 10 else most) = most2 at *
    refine' q_asg (v := .int (cellM ns 0 % most2)) ?_ (fun H2 e2 => ?_)
    · walk_at "ev"
    show (_ : L2.TS) _ [_, _, _, _, _, _, _] _
    refine' q_asg (v := .int (wayM ns)) ?_ (fun H3 e3 => ?_)
    · unfold wayM
      walk_at "ev"
    show (_ : L2.TS) _ [_, _, _, _, _, _, _] _
    have hw0 : 0 ≤ wayM ns := by unfold wayM; omega
    have hw8 : wayM ns < 8 := by unfold wayM; omega
    refine q_ifAsg (i := 2) (v := .int (manyM ns most)) (b := decide (3 < wayM ns)) ?_ (fun hb => ?_) (fun hb => ?_) (fun H4 e4 => ?_)
    · walk_at "ev"
    · have hb := of_decide_eq_true hb
      unfold manyM
      rw [if_pos hb, hmm]
      walk_at "ev"
    · have hb := of_decide_eq_false hb
      unfold manyM
      rw [if_neg hb, hmm]
      rfl
    show (_ : L2.TS) _ [_, _, _, _, _, _, _] _
    refine q_asgL (xs := (cellsM ns most).map V.int) ?_ (fun pc H5 hpc e5 h5 => ?_)
    · unfold cellsM
      have hg := given_all (3 * manyM ns most).toNat (fun k => V.int (cellM ns (3 + (k : Int))))
      rw [List.map_map]
      show EvL _ _ _ ((List.range (3 * manyM ns most).toNat).map fun (k : Nat) => V.int (cellM ns (3 + (k : Int))))
      rw [← hg]
      refine el_lcR1 _ _ (n := 3 * manyM ns most) ?_ ⟨by omega, by omega⟩ (fun x => rfl) (fun i H6 e6 hi => et_yes) (fun i H6 e6 hi _ => ?_)
      · walk_at "ev"
      · walk_at "ev"
    show (_ : L2.TS) _ [_, _, _, _, _, _, _] _
    have hcl := cells_len ns most
    have hPC : SqL K H5 pc ((cellsM ns most).map V.int) := sq_of h5
    have hS5 : SqL K H5 a (ns.map V.int) := ex_l (by walk_at "ex") hS
    refine q_asgP (R := LRows (baseM ns most)) ?_ (fun v H6 e6 hv => ?_)
    · refine fun H6 e6 Q' q' => ?_
      -- the arguments, one of them a new list
      refine ⟨.ref pc, rfl, ?_⟩
      refine (el_call (sp := spDraw K) (xs := (drawM ns).vs) (vs := [.ref a]) ?_ (fun H1 e Q q E => ⟨a, ns, rfl, ex_l e (ex_l e6 hS5), fun p H2 hp e2 h2 => q p H2 hp e2 h2⟩)) H6 (Ex.refl H6) _ fun pd H8 hpd e8 h8 => ?_
      · walk_at "ev"
      refine (show EvA _ _ H8 [.int (mostM (wayM ns)), .bl (decide (3 < wayM ns))] from ?_) H8 (Ex.refl H8) _ fun H9 e9 => ?_
      · walk_at "ev"
        exact at_most hw0 hw8
      have e69 : Ex H5 H9 := e6.trans (e8.trans e9)
      refine ⟨pc, pd, cellsM ns most, drawM ns, mostM (wayM ns), decide (3 < wayM ns), rfl, ex_l e69 hPC, by omega, sq_of (e9 _ _ h8), drawM_ok ns, ?_, fun v H10 e10 hv => q' v H10 (e8.trans (e9.trans e10)) hv⟩
      unfold mostM
      split
      · decide
      · split <;> decide
    show (_ : L2.TS) _ [_, _, _, _, _, _, _] _
    obtain ⟨pr, rv, rfl, hpr, hR⟩ := id hv
    have hPR : SqL K H6 pr rv := sq_of hpr
    have hlr := hR.len
    refine q_when (b := decide (wayM ns = 1 ∨ wayM ns = 6) && decide ((rv.length : Int) < 21)) ?_ (fun hb H7 e7 => ?_) (fun hb H7 e7 => ?_)
    · rw [← in16]
      walk_at "ev"
    · simp only [Bool.and_eq_true, decide_eq_true_eq] at hb
      rw [hlr] at hb
      have hv7 := hv.up e7
      have hsm : (baseM ns most).length < 21 := by omega
      unfold drawnM at q
      rw [if_pos hb] at q
      refine s_asgP (elr_cat (elr_cat (elr_cat (elr_var rfl hv7) (elr_var rfl hv7) ?_) (elr_var rfl hv7) ?_) (elr_var rfl hv7) ?_) (fun u H8 e8 hu => ?_)
      · omega
      · rw [List.length_append]; omega
      · rw [List.length_append, List.length_append]; omega
      · refine s_ret (v := u) (ev_var rfl) (fun H9 e9 => q u H9 (by walk_at "ex") (hu.up e9))
    · simp only [Bool.and_eq_false_iff, decide_eq_false_iff_not] at hb
      rw [hlr] at hb
      unfold drawnM at q
      rw [if_neg (fun z => hb.elim (fun y => y z.1) (fun y => y z.2))] at q
      refine s_ret (v := .ref pr) (ev_var rfl) (fun H9 e9 => q _ H9 (by walk_at "ex") ((hv.up e7).up e9))
theorem ep_drawn {a : Addr} {ns : List Int} {most : Int} {ta : TA} {σ : L2.St} {H : Hp} {E : XK} (h : EvA ta σ H [.ref a, .int most]) (hS : SqL K H a (ns.map V.int)) (h0 : 0 < most) (h1 : most ≤ 90) : EvP (tCall (spDrawn K) [] E ta) σ H (LRows (drawnM ns most)) :=
  ep_call h fun H1 e Q q E => ⟨a, ns, most, rfl, ex_l e hS, h0, h1, q⟩
end
end BD
namespace BD
open PySem PySem.Spec PyProof.Rows L2 Evl
/-! ### blocks: depth -/
def run : Nat → List Rw → Option Nat
  | d, [] => some d
  | d, r :: rs => if r.opens = true then run (d + 1) rs else if r.isFin = true then (if d = 0 then none else run (d - 1) rs) else run d rs
theorem run_app : ∀ (xs ys : List Rw) (d : Nat), run d (xs ++ ys) = (run d xs).bind fun e => run e ys
  | [], ys, d => rfl
  | r :: xs, ys, d => by
    show (if r.opens = true then run (d + 1) (xs ++ ys) else if r.isFin = true then (if d = 0 then none else run (d - 1) (xs ++ ys)) else run d (xs ++ ys)) =
      (if r.opens = true then run (d + 1) xs else if r.isFin = true then (if d = 0 then none else run (d - 1) xs) else run d xs).bind fun e => run e ys
    split
    · exact run_app xs ys _
    split
    · split
      · rfl
      · exact run_app xs ys _
    · exact run_app xs ys _
theorem run_gad (n : Nat) (one two : Int) (a b c : Str) (t : Int) : run n (gadA one two a b c t) = some n := by
  unfold gadA
  split
  · unfold fourM
    split
    · rfl
    split
    · rfl
    split <;> rfl
  split
  · rfl
  split
  · rfl
  split
  · rfl
  split <;> rfl
theorem run_row {op : List Rw} {r : Rw} (h : r.isFin = true → 0 < op.length) : run op.length [r] = some (opUpd op r).length := by
  unfold opUpd
  show (if r.opens = true then run (op.length + 1) [] else if r.isFin = true then (if op.length = 0 then none else run (op.length - 1) []) else run op.length []) = _
  split
  · rw [List.length_append]; rfl
  split
  · rename_i h2
    rw [if_neg (by have := h h2; omega), List.length_dropLast]
    rfl
  · rfl
theorem run_st (cells : List Int) (d : Draw) (most : Int) (odd : Bool) : ∀ i, run 0 (sheetSt cells d most odd i).1 = some (sheetSt cells d most odd i).2.length
  | 0 => rfl
  | i + 1 => by
    have ih := run_st cells d most odd i
    unfold sheetSt stepM
    split
    · show run 0 (_ ++ gadgetM _ _ _ _) = _
      rw [run_app, ih]
      exact run_gad _ _ _ _ _ _ _
    · show run 0 (_ ++ [_]) = _
      rw [run_app, ih]
      exact run_row rowM_fin
theorem run_fins : ∀ n, run n ((List.range n).map fun _ => Rw.fin) = some 0
  | 0 => rfl
  | n + 1 => by
    rw [List.range_succ_eq_map, List.map_cons, List.map_map]
    show (if n + 1 = 0 then none else run (n + 1 - 1) _) = _
    rw [if_neg (by omega)]
    exact run_fins n
theorem run_sheet (cells : List Int) (d : Draw) (most : Int) (odd : Bool) : run 0 (sheetM cells d most odd) = some 0 := by
  unfold sheetM
  rw [run_app, run_st]
  exact run_fins _
theorem run_drawn (ns : List Int) (most : Int) : run 0 (drawnM ns most) = some 0 := by
  have h : run 0 (baseM ns most) = some 0 := run_sheet _ _ _ _
  unfold drawnM
  split
  · rw [run_app, run_app, run_app, h]
    show ((((run 0 (baseM ns most)).bind fun e => run e (baseM ns most)).bind fun e => run e (baseM ns most))) = _
    rw [h]
    show (((run 0 (baseM ns most)).bind fun e => run e (baseM ns most))) = _
    rw [h]
    exact h
  · exact h
/-! ### the stack of openers -/
def pr (rs : List Rw) : Nat → List Nat
  | 0 => []
  | i + 1 => match rs[i]? with
    | some r => if r.opens = true then i :: pr rs i else if r.isFin = true then (pr rs i).tail else pr rs i
    | none => pr rs i
def hm (rs : List Rw) (i : Nat) : Int := match pr rs i with
  | [] => -1
  | h :: _ => (h : Int)
structure Good (rs : List Rw) : Prop where
  fin : ∀ i r, rs[i]? = some r → r.isFin = true → pr rs i ≠ []
  last : pr rs rs.length = []
theorem pr_next {rs : List Rw} {i : Nat} {r : Rw} (h : rs[i]? = some r) : pr rs (i + 1) = if r.opens = true then i :: pr rs i else if r.isFin = true then (pr rs i).tail else pr rs i := by
  show (match rs[i]? with
    | some r => if r.opens = true then i :: pr rs i else if r.isFin = true then (pr rs i).tail else pr rs i
    | none => pr rs i) = _
  rw [h]
theorem run_pr {rs : List Rw} (h : (run 0 rs).isSome = true) : ∀ i, i ≤ rs.length → run 0 (rs.take i) = some (pr rs i).length
  | 0, _ => by rw [List.take_zero]; rfl
  | i + 1, hi => by
    have hlt : i < rs.length := hi
    have ih := run_pr h i (by omega)
    have hg := List.getElem?_eq_getElem hlt
    have hs : (run 0 (rs.take (i + 1))).isSome = true := by
      have e := List.take_append_drop (i + 1) rs
      rw [← e, run_app] at h
      cases hh : run 0 (rs.take (i + 1)) with
      | none => rw [hh] at h; cases h
      | some _ => rfl
    rw [List.take_add_one, hg, run_app, ih] at hs
    rw [List.take_add_one, hg, run_app, ih, pr_next hg]
    show run (pr rs i).length [rs[i]] = _
    have hs : (run (pr rs i).length [rs[i]]).isSome = true := hs
    show (if rs[i].opens = true then some ((pr rs i).length + 1) else if rs[i].isFin = true then (if (pr rs i).length = 0 then none else some ((pr rs i).length - 1)) else some (pr rs i).length) = _
    split
    · rfl
    split
    · rename_i h1 h2
      have hs2 : (if rs[i].opens = true then some ((pr rs i).length + 1) else if rs[i].isFin = true then (if (pr rs i).length = 0 then none else some ((pr rs i).length - 1)) else some (pr rs i).length).isSome = true := hs
      rw [if_neg h1, if_pos h2] at hs2
      split at hs2
      · cases hs2
      · rename_i h3
        rw [if_neg h3, List.length_tail]
    · rfl
theorem good_of {rs : List Rw} (h : run 0 rs = some 0) : Good rs := by
  have hs : (run 0 rs).isSome = true := by rw [h]; rfl
  refine ⟨fun i r hr hf => ?_, ?_⟩
  · have hlt : i < rs.length := (List.getElem?_eq_some_iff.mp hr).1
    have h1 := run_pr hs i (by omega)
    have h2 := run_pr hs (i + 1) hlt
    rw [List.take_add_one, hr, run_app, h1] at h2
    have h3 : (if r.opens = true then some ((pr rs i).length + 1) else if r.isFin = true then (if (pr rs i).length = 0 then none else some ((pr rs i).length - 1)) else some (pr rs i).length) = some (pr rs (i + 1)).length := h2
    have ho : r.opens = false := by cases r <;> first | rfl | cases hf
    rw [if_neg (by rw [ho]; decide), if_pos hf] at h3
    intro z
    rw [z] at h3
    rw [if_pos (by rfl)] at h3
    cases h3
  · have h1 := run_pr hs rs.length (Nat.le_refl _)
    rw [List.take_length, h] at h1
    have h2 : (pr rs rs.length).length = 0 := (Option.some.inj h1).symm
    exact List.length_eq_zero_iff.mp h2
theorem good_drawn (ns : List Int) (most : Int) : Good (drawnM ns most) := good_of (run_drawn ns most)
/-- what is in the stack -/
theorem pr_mem {rs : List Rw} : ∀ i x, x ∈ pr rs i → x < i ∧ ∃ r, rs[x]? = some r ∧ r.opens = true
  | 0, x, h => by cases h
  | i + 1, x, h => by
    cases hg : rs[i]? with
    | none =>
      have e : pr rs (i + 1) = pr rs i := by
        show (match rs[i]? with
          | some r => if r.opens = true then i :: pr rs i else if r.isFin = true then (pr rs i).tail else pr rs i
          | none => pr rs i) = _
        rw [hg]
      rw [e] at h
      have := pr_mem i x h
      exact ⟨by omega, this.2⟩
    | some r =>
      rw [pr_next hg] at h
      split at h
      · rcases List.mem_cons.mp h with h | h
        · subst h
          exact ⟨Nat.lt_succ_self _, r, hg, by assumption⟩
        · have := pr_mem i x h
          exact ⟨by omega, this.2⟩
      split at h
      · have := pr_mem i x (List.mem_of_mem_tail h)
        exact ⟨by omega, this.2⟩
      · have := pr_mem i x h
        exact ⟨by omega, this.2⟩
theorem pr_nodup {rs : List Rw} : ∀ i, (pr rs i).Nodup
  | 0 => List.nodup_nil
  | i + 1 => by
    have ih := pr_nodup (rs := rs) i
    show (match rs[i]? with
      | some r => if r.opens = true then i :: pr rs i else if r.isFin = true then (pr rs i).tail else pr rs i
      | none => pr rs i).Nodup
    split
    · split
      · refine List.nodup_cons.mpr ⟨fun h => ?_, ih⟩
        have := (pr_mem i i h).1
        omega
      split
      · exact ih.sublist (List.tail_sublist _)
      · exact ih
    · exact ih
theorem hm_lt {rs : List Rw} (i : Nat) : hm rs i < i := by
  unfold hm
  cases h : pr rs i with
  | nil => show (-1 : Int) < i; omega
  | cons a t =>
    have := (pr_mem i a (by rw [h]; exact List.mem_cons_self)).1
    show (a : Int) < i
    omega
/-- at an end: the opener -/
theorem hm_fin {rs : List Rw} (g : Good rs) {i : Nat} {r : Rw} (h : rs[i]? = some r) (hf : r.isFin = true) : ∃ (a : Nat) (t : List Nat), pr rs i = a :: t ∧ hm rs i = (a : Int) ∧ a < i ∧ ∃ q, rs[a]? = some q ∧ q.opens = true := by
  cases hp : pr rs i with
  | nil => exact absurd hp (g.fin i r h hf)
  | cons a t =>
    have := pr_mem i a (by rw [hp]; exact List.mem_cons_self)
    refine ⟨a, t, rfl, ?_, this.1, this.2⟩
    unfold hm
    rw [hp]
/-- an end's opener leaves the stack for good -/
theorem gone {rs : List Rw} {p a : Nat} {t : List Nat} {r : Rw} (h : rs[p]? = some r) (hf : r.isFin = true) (hp : pr rs p = a :: t) (ha : a < p) : ∀ i, p < i → a ∉ pr rs i
  | 0, hi => by omega
  | i + 1, hi => by
    by_cases e : p = i
    · subst e
      have ho : r.opens = false := by cases r <;> first | rfl | cases hf
      rw [pr_next h, if_neg (by rw [ho]; decide), if_pos hf, hp]
      have := pr_nodup (rs := rs) p
      rw [hp] at this
      exact (List.nodup_cons.mp this).1
    · have ih := gone h hf hp ha i (by omega)
      show a ∉ (match rs[i]? with
        | some r => if r.opens = true then i :: pr rs i else if r.isFin = true then (pr rs i).tail else pr rs i
        | none => pr rs i)
      split
      · split
        · intro z
          rcases List.mem_cons.mp z with z | z
          · omega
          · exact ih z
        split
        · exact fun z => ih (List.mem_of_mem_tail z)
        · exact ih
      · exact ih
/-- rows behind the sheet do not reach back -/
theorem pr_app (rs ss : List Rw) : ∀ i, i ≤ rs.length → pr (rs ++ ss) i = pr rs i
  | 0, _ => rfl
  | i + 1, h => by
    have hlt : i < rs.length := h
    have e : (rs ++ ss)[i]? = rs[i]? := List.getElem?_append_left hlt
    have ih := pr_app rs ss i (by omega)
    rw [pr_next (e.trans (List.getElem?_eq_getElem hlt)), pr_next (List.getElem?_eq_getElem hlt), ih]
theorem hm_app (rs ss : List Rw) (i : Nat) (h : i ≤ rs.length) : hm (rs ++ ss) i = hm rs i := by
  unfold hm
  rw [pr_app rs ss i h]
end BD
namespace BD
open PySem PySem.Spec PyProof.Rows L2 Evl
local macro_rules | `(tactic| walk_at "ev") => `(tactic| first
  | ((with_reducible apply ev_var) ; rfl)
  | with_reducible exact ev_c
  | ((with_reducible apply ev_I0) <;> walk_at "ev")
  | ((with_reducible apply ev_e9) <;> walk_at "ev")
  | ((with_reducible apply ev_I) <;> walk_at "ev")
  | ((with_reducible apply ev_eq) <;> walk_at "ev")
  | ((with_reducible apply ev_ne) <;> walk_at "ev")
  | ((with_reducible apply ev_neg) <;> walk_at "ev")
  | ((with_reducible apply ev_ixN) <;> walk_at "ev")
  | ((with_reducible apply ev_ixL) <;> walk_at "ev")
  | ((with_reducible apply ev_inN) <;> walk_at "ev")
  | ((with_reducible apply ev_inT) <;> walk_at "ev")
  | ((with_reducible apply ev_ixT) <;> walk_at "ev")
  | ((with_reducible apply ev_ixS) <;> walk_at "ev")
  | ((with_reducible apply ev_len') <;> walk_at "ev")
  | ((with_reducible apply et_test) <;> walk_at "ev")
  | ((with_reducible apply et_and) <;> walk_at "ev")
  | ((with_reducible apply et_or) <;> walk_at "ev")
  | ((with_reducible apply et_not) <;> walk_at "ev")
  | ((with_reducible apply et_B) <;> walk_at "ev")
  | ((with_reducible apply el_lst) <;> walk_at "ev")
  | ((with_reducible apply eu_tup) <;> walk_at "ev")
  | ((with_reducible apply ea_cons) <;> walk_at "ev")
  | with_reducible exact ea_nil
  | with_reducible assumption
  | ((with_reducible apply ex_l' ; assumption) ; walk_at "ex")
  | ((with_reducible apply ex_t' ; assumption) ; walk_at "ex")
  | (intro _ ; walk_at "ev")
  | (with_reducible first | exact atI_hd | exact at_kind | exact at2s | exact at3s | exact at3i)
  | (first | exact rfl | exact Nat.le_of_ble_eq_true rfl | exact ⟨by decide, by decide⟩ | decide | exact Or.inl ⟨by omega, by omega⟩ | exact Or.inr ⟨by omega, by omega⟩ | omega)
  | skip)
local macro_rules | `(tactic| walk_at "ex") => `(tactic| first
  | assumption
  | exact Ex.refl _
  | (refine' Ex.trans ?_ (by assumption) ; walk_at "ex"))
local macro_rules | `(tactic| walk_at "row") => `(tactic| first
  | (with_reducible exact er_nil)
  | ((with_reducible apply er_cons) <;> walk_at "row")
  | (((with_reducible apply er_var) ; rfl) ; walk_at "isrow")
  | (((with_reducible apply elr_var) ; rfl) ; walk_at "isrow")
  | ((with_reducible apply elr_cat) <;> walk_at "row")
  | ((with_reducible apply elr_lst) <;> walk_at "row")
  | ((with_reducible apply er_fin) <;> walk_at "ev")
  | ((with_reducible apply er_lendT) <;> walk_at "ev")
  | ((with_reducible apply er_lendW) <;> walk_at "ev")
  | ((with_reducible apply er_pick) <;> walk_at "ev")
  | ((with_reducible apply er_either) <;> walk_at "ev")
  | ((with_reducible apply er_or) <;> walk_at "ev")
  | ((with_reducible apply er_again) <;> walk_at "ev")
  | ((with_reducible apply er_back) <;> walk_at "ev")
  | ((with_reducible apply er_look) <;> walk_at "ev")
  | ((with_reducible apply er_change) <;> walk_at "ev")
  | exact Nat.le_of_ble_eq_true rfl
  | skip)
local macro_rules | `(tactic| walk_at "isrow") => `(tactic| first
  | assumption
  | (refine IsRow.up ?_ (by assumption) ; walk_at "ex")
  | (refine LRows.up ?_ (by assumption) ; walk_at "ex"))

local macro_rules | `(tactic| walk_at "ev") => `(tactic| ((with_reducible apply ev_letter) <;> walk_at "ev"))
local macro_rules | `(tactic| walk_at "ev") => `(tactic| ((with_reducible apply ev_cell) <;> walk_at "ev"))
local macro_rules | `(tactic| walk_at "ev") => `(tactic| ((with_reducible apply ev_word) <;> walk_at "ev"))
local macro_rules | `(tactic| walk_at "ev") => `(tactic| ((with_reducible apply ev_thing) <;> walk_at "ev"))

local macro_rules | `(tactic| walk_at "ev") => `(tactic| (((with_reducible apply ev_tag) ; rfl) ; walk_at "isrow"))
section
variable {P : Program} {w : World} {K : PySem.W.Frag} {mg : Str → Option Value} {base : Heap}
/-! ### homes -/
def stV (rs : List Rw) (i : Nat) : List V := .int (-1) :: (pr rs i).reverse.map fun (n : Nat) => V.int (n : Int)
theorem stV_last (rs : List Rw) (i : Nat) : atI (stV rs i) (-1) = some (.int (hm rs i)) := by
  unfold stV hm
  cases pr rs i with
  | nil => exact atI_last [] _
  | cons a t =>
    rw [List.reverse_cons, List.map_append]
    exact atI_last (V.int (-1) :: t.reverse.map fun (n : Nat) => V.int (n : Int)) _
theorem stV_push {rs : List Rw} {i : Nat} {r : Rw} (h : rs[i]? = some r) (ho : r.opens = true) : stV rs (i + 1) = stV rs i ++ [.int (i : Int)] := by
  unfold stV
  rw [pr_next h, if_pos ho, List.reverse_cons, List.map_append]
  rfl
theorem stV_pop {rs : List Rw} {i : Nat} {r : Rw} (g : Good rs) (h : rs[i]? = some r) (hf : r.isFin = true) : stV rs (i + 1) = (stV rs i).dropLast ∧ 0 < (stV rs i).length := by
  obtain ⟨a, t, hp, _⟩ := hm_fin g h hf
  have ho : r.opens = false := by cases r <;> first | rfl | cases hf
  unfold stV
  rw [pr_next h, if_neg (by rw [ho]; decide), if_pos hf, hp, List.reverse_cons, List.map_append]
  refine ⟨?_, Nat.succ_pos _⟩
  show _ = ((V.int (-1) :: t.reverse.map fun (n : Nat) => V.int (n : Int)) ++ [V.int (a : Int)]).dropLast
  rw [List.dropLast_concat]
  rfl
theorem stV_keep {rs : List Rw} {i : Nat} {r : Rw} (h : rs[i]? = some r) (ho : r.opens = false) (hf : r.isFin = false) : stV rs (i + 1) = stV rs i := by
  unfold stV
  rw [pr_next h, if_neg (by rw [ho]; decide), if_neg (by rw [hf]; decide)]
theorem pr_len (rs : List Rw) : ∀ i, (pr rs i).length ≤ i
  | 0 => Nat.le_refl _
  | i + 1 => by
    have ih := pr_len rs i
    show (match rs[i]? with
      | some r => if r.opens = true then i :: pr rs i else if r.isFin = true then (pr rs i).tail else pr rs i
      | none => pr rs i).length ≤ _
    split
    · split
      · rw [List.length_cons]; omega
      split
      · rw [List.length_tail]; omega
      · omega
    · omega
theorem stV_len (rs : List Rw) (i : Nat) : (stV rs i).length ≤ i + 1 := by
  unfold stV
  rw [List.length_cons, List.length_map, List.length_reverse]
  have := pr_len rs i
  omega
def homesV (rs : List Rw) (n : Nat) : List V := (List.range n).map fun i => V.int (hm rs i)
theorem homesV_next (rs : List Rw) (n : Nat) : homesV rs (n + 1) = homesV rs n ++ [.int (hm rs n)] := by
  unfold homesV
  rw [List.range_succ, List.map_append]
  rfl
theorem homesV_len (rs : List Rw) (n : Nat) : (homesV rs n).length = n := by
  unfold homesV
  rw [List.length_map, List.length_range]
theorem homesV_at {rs : List Rw} {n i : Nat} (h : i < n) : (homesV rs n)[i]? = some (.int (hm rs i)) := by
  unfold homesV
  rw [List.getElem?_map, List.getElem?_range h]
  rfl
def spHomes (K : PySem.W.Frag) : Sp := fun vs H Q _ => ∃ (a : Addr) (rv : List V) (rs : List Rw), vs = [.ref a] ∧ SqL K H a rv ∧ Rows H rv rs ∧ Good rs ∧ rs.length ≤ 90000 ∧ RetL (homesV rs rs.length) H Q
end
end BD
namespace BD
open PySem PySem.Spec PyProof.Rows L2 Evl
local macro_rules | `(tactic| walk_at "ev") => `(tactic| first
  | ((with_reducible apply ev_var) ; rfl)
  | with_reducible exact ev_c
  | ((with_reducible apply ev_I0) <;> walk_at "ev")
  | ((with_reducible apply ev_e9) <;> walk_at "ev")
  | ((with_reducible apply ev_I) <;> walk_at "ev")
  | ((with_reducible apply ev_eq) <;> walk_at "ev")
  | ((with_reducible apply ev_ne) <;> walk_at "ev")
  | ((with_reducible apply ev_neg) <;> walk_at "ev")
  | ((with_reducible apply ev_ixN) <;> walk_at "ev")
  | ((with_reducible apply ev_ixL) <;> walk_at "ev")
  | ((with_reducible apply ev_inN) <;> walk_at "ev")
  | ((with_reducible apply ev_inT) <;> walk_at "ev")
  | ((with_reducible apply ev_ixT) <;> walk_at "ev")
  | ((with_reducible apply ev_ixS) <;> walk_at "ev")
  | ((with_reducible apply ev_len') <;> walk_at "ev")
  | ((with_reducible apply et_test) <;> walk_at "ev")
  | ((with_reducible apply et_and) <;> walk_at "ev")
  | ((with_reducible apply et_or) <;> walk_at "ev")
  | ((with_reducible apply et_not) <;> walk_at "ev")
  | ((with_reducible apply et_B) <;> walk_at "ev")
  | ((with_reducible apply el_lst) <;> walk_at "ev")
  | ((with_reducible apply eu_tup) <;> walk_at "ev")
  | ((with_reducible apply ea_cons) <;> walk_at "ev")
  | with_reducible exact ea_nil
  | with_reducible assumption
  | ((with_reducible apply ex_l' ; assumption) ; walk_at "ex")
  | ((with_reducible apply ex_t' ; assumption) ; walk_at "ex")
  | (intro _ ; walk_at "ev")
  | (with_reducible first | exact atI_hd | exact at_kind | exact at2s | exact at3s | exact at3i)
  | (first | exact rfl | exact Nat.le_of_ble_eq_true rfl | exact ⟨by decide, by decide⟩ | decide | exact Or.inl ⟨by omega, by omega⟩ | exact Or.inr ⟨by omega, by omega⟩ | omega)
  | skip)
local macro_rules | `(tactic| walk_at "ex") => `(tactic| first
  | assumption
  | exact Ex.refl _
  | (refine' Ex.trans ?_ (by assumption) ; walk_at "ex"))
local macro_rules | `(tactic| walk_at "row") => `(tactic| first
  | (with_reducible exact er_nil)
  | ((with_reducible apply er_cons) <;> walk_at "row")
  | (((with_reducible apply er_var) ; rfl) ; walk_at "isrow")
  | (((with_reducible apply elr_var) ; rfl) ; walk_at "isrow")
  | ((with_reducible apply elr_cat) <;> walk_at "row")
  | ((with_reducible apply elr_lst) <;> walk_at "row")
  | ((with_reducible apply er_fin) <;> walk_at "ev")
  | ((with_reducible apply er_lendT) <;> walk_at "ev")
  | ((with_reducible apply er_lendW) <;> walk_at "ev")
  | ((with_reducible apply er_pick) <;> walk_at "ev")
  | ((with_reducible apply er_either) <;> walk_at "ev")
  | ((with_reducible apply er_or) <;> walk_at "ev")
  | ((with_reducible apply er_again) <;> walk_at "ev")
  | ((with_reducible apply er_back) <;> walk_at "ev")
  | ((with_reducible apply er_look) <;> walk_at "ev")
  | ((with_reducible apply er_change) <;> walk_at "ev")
  | exact Nat.le_of_ble_eq_true rfl
  | skip)
local macro_rules | `(tactic| walk_at "isrow") => `(tactic| first
  | assumption
  | (refine IsRow.up ?_ (by assumption) ; walk_at "ex")
  | (refine LRows.up ?_ (by assumption) ; walk_at "ex"))

local macro_rules | `(tactic| walk_at "ev") => `(tactic| ((with_reducible apply ev_letter) <;> walk_at "ev"))
local macro_rules | `(tactic| walk_at "ev") => `(tactic| ((with_reducible apply ev_cell) <;> walk_at "ev"))
local macro_rules | `(tactic| walk_at "ev") => `(tactic| ((with_reducible apply ev_word) <;> walk_at "ev"))
local macro_rules | `(tactic| walk_at "ev") => `(tactic| ((with_reducible apply ev_thing) <;> walk_at "ev"))

local macro_rules | `(tactic| walk_at "ev") => `(tactic| (((with_reducible apply ev_tag) ; rfl) ; walk_at "isrow"))
def opAt (rs : List Rw) (i : Nat) : Bool := match rs[i]? with
  | some r => r.opens
  | none => false
def finF (rs : List Rw) (a p : Nat) : Bool := decide (hm rs p = (a : Int)) && (match rs[p]? with
  | some r => r.isFin
  | none => false)
def orF (rs : List Rw) (a p : Nat) : Bool := decide (hm rs p = (a : Int)) && (match rs[p]? with
  | some r => r.isOr
  | none => false)
theorem finF_low {rs : List Rw} {a p : Nat} (h : p ≤ a) : finF rs a p = false := by
  unfold finF
  have := hm_lt (rs := rs) p
  rw [decide_eq_false (by omega)]
  rfl
theorem orF_low {rs : List Rw} {a p : Nat} (h : p ≤ a) : orF rs a p = false := by
  unfold orF
  have := hm_lt (rs := rs) p
  rw [decide_eq_false (by omega)]
  rfl
theorem finF_at {rs : List Rw} {a p : Nat} {r : Rw} (h : rs[p]? = some r) : finF rs a p = (decide (hm rs p = (a : Int)) && r.isFin) := by
  unfold finF
  rw [h]
theorem orF_at {rs : List Rw} {a p : Nat} {r : Rw} (h : rs[p]? = some r) : orF rs a p = (decide (hm rs p = (a : Int)) && r.isOr) := by
  unfold orF
  rw [h]
/-- the first end of the block at a, of the rows below i -/
def endUp (rs : List Rw) (a i : Nat) : Int := match (List.range i).find? (finF rs a) with
  | some p => (p : Int)
  | none => -1
def endsV (rs : List Rw) (i : Nat) : List V := (List.range rs.length).map fun a => V.int (if opAt rs a = true then endUp rs a i else -1)
theorem endsV_len (rs : List Rw) (i : Nat) : (endsV rs i).length = rs.length := by
  unfold endsV
  rw [List.length_map, List.length_range]
theorem endUp_next {rs : List Rw} {a i : Nat} (h : finF rs a i = false) : endUp rs a (i + 1) = endUp rs a i := by
  unfold endUp
  rw [List.range_succ, List.find?_append, List.find?_cons, h]
  cases (List.range i).find? (finF rs a) <;> rfl
theorem endUp_hit {rs : List Rw} {a i : Nat} (h : finF rs a i = true) (hn : ∀ p, p < i → finF rs a p = false) : endUp rs a (i + 1) = (i : Int) := by
  unfold endUp
  have e : (List.range i).find? (finF rs a) = none := List.find?_eq_none.mpr fun x hx => by
    rw [hn x (List.mem_range.mp hx)]
    decide
  rw [List.range_succ, List.find?_append, List.find?_cons, h, e]
  rfl
theorem endUp_none {rs : List Rw} {a i : Nat} (hn : ∀ p, p < i → finF rs a p = false) : endUp rs a i = -1 := by
  unfold endUp
  have e : (List.range i).find? (finF rs a) = none := List.find?_eq_none.mpr fun x hx => by
    rw [hn x (List.mem_range.mp hx)]
    decide
  rw [e]
/-- behind a first hit nothing changes -/
theorem endUp_stay {rs : List Rw} {a p : Nat} (h : finF rs a p = true) (hn : ∀ q, q < p → finF rs a q = false) : ∀ i, p < i → endUp rs a i = (p : Int)
  | 0, hi => by omega
  | i + 1, hi => by
    by_cases e : p = i
    · subst e
      exact endUp_hit h hn
    · have ih := endUp_stay h hn i (by omega)
      unfold endUp at ih ⊢
      rw [List.range_succ, List.find?_append]
      cases hf : (List.range i).find? (finF rs a) with
      | none =>
        rw [hf] at ih
        exact absurd ih (by show ¬ (-1 : Int) = (p : Int); omega)
      | some q =>
        rw [hf] at ih
        exact ih
theorem first_end {rs : List Rw} (g : Good rs) {i a : Nat} {t : List Nat} {r : Rw} (hi : rs[i]? = some r) (hp : pr rs i = a :: t) : ∀ p, p < i → finF rs a p = false := fun p hpi => by
  cases hq : rs[p]? with
  | none => unfold finF; rw [hq, Bool.and_false]
  | some q =>
    rw [finF_at hq]
    cases hf : q.isFin with
    | false => exact Bool.and_false _
    | true =>
      rw [Bool.and_true]
      refine decide_eq_false fun z => ?_
      obtain ⟨b, u, e1, e2, e3, _⟩ := hm_fin g hq hf
      have eb : b = a := by rw [e2] at z; omega
      subst eb
      refine gone hq hf e1 e3 i hpi ?_
      rw [hp]
      exact List.mem_cons_self
theorem endsV_keep {rs : List Rw} {i : Nat} {r : Rw} (hi : rs[i]? = some r) (hf : r.isFin = false) : endsV rs (i + 1) = endsV rs i := by
  unfold endsV
  refine List.map_congr_left fun a _ => ?_
  rw [endUp_next (by rw [finF_at hi, hf, Bool.and_false])]
theorem endsV_set {rs : List Rw} (g : Good rs) {i a : Nat} {t : List Nat} {r : Rw} (hi : rs[i]? = some r) (hf : r.isFin = true) (hp : pr rs i = a :: t) (hm' : hm rs i = (a : Int)) (ho : opAt rs a = true) : endsV rs (i + 1) = (endsV rs i).set a (.int (i : Int)) := by
  have hil : i < rs.length := (List.getElem?_eq_some_iff.mp hi).1
  refine List.ext_getElem? fun b => ?_
  by_cases hb : b < rs.length
  · unfold endsV
    rw [List.getElem?_map, List.getElem?_range hb, List.getElem?_set]
    by_cases hab : a = b
    · subst hab
      rw [if_pos rfl, if_pos (by rw [List.length_map, List.length_range]; exact hb)]
      show some (V.int (if opAt rs a = true then endUp rs a (i + 1) else -1)) = _
      rw [if_pos ho, endUp_hit (by rw [finF_at hi, hf, hm', decide_eq_true rfl]; rfl) (first_end g hi hp)]
    · rw [if_neg hab, List.getElem?_map, List.getElem?_range hb]
      show some (V.int (if opAt rs b = true then endUp rs b (i + 1) else -1)) = some (V.int (if opAt rs b = true then endUp rs b i else -1))
      rw [endUp_next (by rw [finF_at hi, hm', decide_eq_false (by omega)]; rfl)]
  · rw [List.getElem?_eq_none (by rw [endsV_len]; omega), List.getElem?_eq_none (by rw [List.length_set, endsV_len]; omega)]
theorem endsV_zero (rs : List Rw) : endsV rs 0 = List.replicate rs.length (.int (-1)) := by
  refine List.ext_getElem? fun b => ?_
  by_cases hb : b < rs.length
  · unfold endsV
    rw [List.getElem?_map, List.getElem?_range hb, List.getElem?_replicate, if_pos hb]
    show some (V.int (if opAt rs b = true then -1 else -1)) = _
    split <;> rfl
  · rw [List.getElem?_eq_none (by rw [endsV_len]; omega), List.getElem?_eq_none (by rw [List.length_replicate]; omega)]
/-- the firsts of the branches, of the rows below i -/
def brV (rs : List Rw) (a i : Nat) : List V := .int ((a : Int) + 1) :: ((List.range i).filter (orF rs a)).map fun (p : Nat) => V.int ((p : Int) + 1)
theorem brV_yes {rs : List Rw} {a i : Nat} (h : orF rs a i = true) : brV rs a (i + 1) = brV rs a i ++ [.int ((i : Int) + 1)] := by
  unfold brV
  rw [List.range_succ, List.filter_append, List.map_append, List.filter_cons, if_pos h]
  rfl
theorem brV_no {rs : List Rw} {a i : Nat} (h : orF rs a i = false) : brV rs a (i + 1) = brV rs a i := by
  unfold brV
  rw [List.range_succ, List.filter_append, List.map_append, List.filter_cons, if_neg (by rw [h]; decide)]
  show _ :: (_ ++ []) = _
  rw [List.append_nil]
theorem brV_len (rs : List Rw) (a i : Nat) : (brV rs a i).length ≤ i + 1 := by
  unfold brV
  rw [List.length_cons, List.length_map]
  have := List.length_filter_le (orF rs a) (List.range i)
  rw [List.length_range] at this
  omega
theorem brV_low (rs : List Rw) (a : Nat) : ∀ i, i ≤ a + 1 → brV rs a i = [.int ((a : Int) + 1)]
  | 0, _ => rfl
  | i + 1, h => by rw [brV_no (orF_low (by omega)), brV_low rs a i (by omega)]
section
variable {P : Program} {w : World} {K : PySem.W.Frag} {mg : Str → Option Value} {base : Heap}
theorem el_rep {ta tb : TE} {σ : L2.St} {H : Hp} {xs : List V} {k : Int} (ha : EvL ta σ H xs) (hb : Ev tb σ H (.int k)) (h0 : 0 ≤ k) (h1 : k ≤ 90000) (hl : xs.length * k.toNat ≤ 100000) : EvL (tOp rRep ta tb) σ H (List.replicate k.toNat xs).flatten := fun H1 e Q q =>
  ha H1 e _ fun p H2 hp e2 h2 => hb H2 (e.trans e2) _ fun H3 e3 => ⟨p, k, xs, rfl, rfl, e3 _ _ h2, by omega, by omega, sz_of hl, fun z hz => q z _ (fresh_back (e2.trans e3) hz) ((e2.trans e3).trans (Ex.new hz)) upd_same⟩
theorem flat_rep (v : V) : ∀ n, (List.replicate n [v]).flatten = List.replicate n v
  | 0 => rfl
  | n + 1 => by
    rw [List.replicate_succ, List.flatten_cons, flat_rep v n]
    rfl
end
end BD
namespace BD
open PySem PySem.Spec PyProof.Rows L2 Evl
def Src.S : Src → Prop
  | .thing n => 0 ≤ n ∧ n ≤ 999999999
  | .word w => WordS w
def RowS : Rw → Prop
  | .lend h k s => WordS h ∧ (k = "read" ∨ k = "write") ∧ s.S
  | .pick w ts => WordS w ∧ 1 ≤ ts.length ∧ ts.length ≤ 5 ∧ ∀ t ∈ ts, 0 ≤ t ∧ t ≤ 999999999
  | .back h => WordS h
  | .look h => WordS h
  | .change h => WordS h
  | _ => True
theorem kindM_s (x : Int) : kindM x = "read" ∨ kindM x = "write" := by
  unfold kindM
  split
  · exact .inl rfl
  · exact .inr rfl
theorem thingM_s (c b : Int) : 0 ≤ thingM c b ∧ thingM c b ≤ 999999999 := by
  unfold thingM
  split <;> omega
theorem rowS_word {r : Rw} (h : RowS r) (hn : r.named = true) : WordS r.word := by
  cases r with
  | lend a b c => exact h.1
  | pick a b => exact h.1
  | _ => cases hn
theorem lendM_s {one two : Int} {named : List Rw} {d : Draw} (ok : d.Ok) (hl : named.length ≤ 11) (hn : ∀ r ∈ named, RowS r ∧ r.named = true) : RowS (lendM one two named d) := by
  have hw : WordS (wordM one two named.length d) := wordM_s ok (by omega) (by omega)
  unfold lendM
  split
  · rename_i h
    have hm : named.getD (two % named.length).toNat .fin ∈ named := getD_mem (by
      have := Int.emod_lt_of_pos two h.2
      have := Int.emod_nonneg two (show (named.length : Int) ≠ 0 by omega)
      omega)
    have := hn _ hm
    refine ⟨hw, ?_, rowS_word this.1 this.2⟩
    split
    · exact .inl rfl
    · exact kindM_s _
  · exact ⟨hw, kindM_s _, thingM_s _ _⟩
theorem deedM_s {one two : Int} {hands : List Rw} (hl : 0 < hands.length) (hn : ∀ r ∈ hands, RowS r ∧ r.isLend = true) : RowS (deedM one two hands) := by
  have hm : hands.getD (two % hands.length).toNat .fin ∈ hands := getD_mem (by
    have := Int.emod_lt_of_pos two (show (0 : Int) < hands.length by omega)
    have := Int.emod_nonneg two (show (hands.length : Int) ≠ 0 by omega)
    omega)
  have := hn _ hm
  have hw : WordS (hands.getD (two % hands.length).toNat .fin).word := rowS_word this.1 (by
    have h2 := this.2
    generalize hands.getD (two % hands.length).toNat .fin = r at *
    cases r <;> first | rfl | cases h2)
  unfold deedM
  split
  · exact hw
  split
  · exact hw
  split <;> exact hw
theorem rowM_s {way one two : Int} {op : List Rw} {d : Draw} (ok : d.Ok) (hf : Few op) (ho : ∀ r ∈ op, RowS r) : RowS (rowM way one two op d) := by
  have hnl := hf.named
  have hn : ∀ r ∈ op.filter Rw.named, RowS r ∧ r.named = true := fun r hr => ⟨ho r (List.mem_filter.mp hr).1, (List.mem_filter.mp hr).2⟩
  have hh : ∀ r ∈ (op.filter Rw.named).filter Rw.isLend, RowS r ∧ r.isLend = true := fun r hr => ⟨(hn r (List.mem_filter.mp hr).1).1, (List.mem_filter.mp hr).2⟩
  unfold rowM rowN
  split
  · exact lendM_s ok (by omega) hn
  split
  · refine ⟨wordM_s ok (by omega) (by omega), ?_, ?_, fun t ht => ?_⟩
    · rw [List.length_map, List.length_range]; omega
    · rw [List.length_map, List.length_range]; omega
    · obtain ⟨k, _, rfl⟩ := List.mem_map.mp ht
      exact thingM_s _ _
  split
  · trivial
  split
  · trivial
  split
  · trivial
  split
  · rename_i h
    exact deedM_s (by omega) hh
  split
  · trivial
  · exact lendM_s ok (by omega) hn
theorem pick3_s {α : Type} {p : α → Prop} (x : Int) {a b c : α} (ha : p a) (hb : p b) (hc : p c) : p (pick3 x a b c) := by
  unfold pick3
  split
  · exact ha
  split
  · exact hb
  · exact hc
theorem pick2_s {α : Type} {p : α → Prop} (x : Int) {a b : α} (ha : p a) (hb : p b) : p (pick2 x a b) := by
  unfold pick2
  split
  · exact ha
  · exact hb
theorem all_cons {α : Type} {p : α → Prop} {a : α} {l : List α} (h : p a) (t : ∀ x ∈ l, p x) : ∀ x ∈ a :: l, p x := fun x hx => by
  rcases List.mem_cons.mp hx with e | e
  · subst e; exact h
  · exact t x e
theorem all_nil {α : Type} {p : α → Prop} : ∀ x ∈ ([] : List α), p x := fun x hx => by cases hx
theorem all_app {α : Type} {p : α → Prop} {a b : List α} (h : ∀ x ∈ a, p x) (t : ∀ x ∈ b, p x) : ∀ x ∈ a ++ b, p x := fun x hx => (List.mem_append.mp hx).elim (h x) (t x)
theorem gadA_s {one two t : Int} {a b c : Str} (ha : WordS a) (hb : WordS b) (hc : WordS c) (ht : 0 ≤ t ∧ t ≤ 999999999) : ∀ r ∈ gadA one two a b c t, RowS r := by
  have k8 := kindM_s (one / 8)
  have k2 := kindM_s two
  have kr : ("read" : Str) = "read" ∨ ("read" : Str) = "write" := .inl rfl
  have kw : ("write" : Str) = "read" ∨ ("write" : Str) = "write" := .inr rfl
  have hf : 0 ≤ (t + 1) % 1000000000 ∧ (t + 1) % 1000000000 ≤ 999999999 := by omega
  have hl : 0 ≤ (t + 2) % 1000000000 ∧ (t + 2) % 1000000000 ≤ 999999999 := by omega
  have ba : RowS (.back a) := ha
  have bb : RowS (.back b) := hb
  have la : RowS (.look a) := ha
  have lb : RowS (.look b) := hb
  have tf : RowS .fin := trivial
  have te : RowS .either := trivial
  have to : RowS .or := trivial
  have tg : RowS .again := trivial
  have wwt : ∀ {x : Str} {k : Str} {n : Int}, WordS x → (k = "read" ∨ k = "write") → (0 ≤ n ∧ n ≤ 999999999) → RowS (.lend x k (.thing n)) := fun a b c => ⟨a, b, c⟩
  have www : ∀ {x k y : Str}, WordS x → (k = "read" ∨ k = "write") → WordS y → RowS (.lend x k (.word y)) := fun a b c => ⟨a, b, c⟩
  have p3 : RowS (.back (pick3 two a b a)) := pick3_s (p := WordS) two ha hb ha
  have q3 : RowS (.look (pick3 one c c b)) := pick3_s (p := WordS) one hc hc hb
  have p2 : RowS (.back (pick2 two a b)) := pick2_s (p := WordS) two ha hb
  have t3 : 0 ≤ pick3 two t ((t + 1) % 1000000000) ((t + 2) % 1000000000) ∧ pick3 two t ((t + 1) % 1000000000) ((t + 2) % 1000000000) ≤ 999999999 := pick3_s (p := fun n : Int => 0 ≤ n ∧ n ≤ 999999999) two ht hf hl
  have pk5 : RowS (.pick c [t, t, (t + 1) % 1000000000, (t + 1) % 1000000000, (t + 2) % 1000000000]) := ⟨hc, by show 1 ≤ 5; omega, by show 5 ≤ 5; omega, all_cons ht (all_cons ht (all_cons hf (all_cons hf (all_cons hl all_nil))))⟩
  have pk2 : RowS (.pick c [(t + 1) % 1000000000, t]) := ⟨hc, by show 1 ≤ 2; omega, by show 2 ≤ 5; omega, all_cons hf (all_cons ht all_nil)⟩
  unfold gadA
  split
  · unfold fourM
    split
    · exact all_cons (wwt ha k8 ht) (all_cons tg (all_cons la (all_cons ba (all_cons tf (all_cons tf all_nil)))))
    split
    · exact all_app (all_cons (wwt ha k8 ht) (all_cons te (all_cons ba (all_cons to (all_cons la (all_cons tf all_nil)))))) (all_cons la (all_cons tf all_nil))
    split
    · exact all_app (all_cons (wwt ha kw ht) (all_cons (www hb kw ha) (all_cons (www hc k8 hb) all_nil))) (all_cons p3 (all_cons q3 (all_cons tf (all_cons tf (all_cons tf all_nil)))))
    · exact all_app (all_cons (wwt ha kw ht) (all_cons (www hb kr ha) (all_cons (wwt hc k2 ht) (all_cons tg all_nil)))) (all_cons bb (all_cons tf (all_cons tf (all_cons tf (all_cons tf all_nil)))))
  split
  · exact all_app (all_app (all_cons pk5 all_nil) (all_cons (wwt ha kw t3) (all_cons (www hb k8 hc) all_nil))) (all_cons tf (all_cons tf (all_cons tf all_nil)))
  split
  · exact all_app (all_cons (wwt ha kw ht) (all_cons (www hb kr ha) (all_cons te (all_cons p2 all_nil)))) (all_cons to (all_cons lb (all_cons tf (all_cons la (all_cons tf (all_cons tf all_nil))))))
  split
  · exact all_app (all_cons (wwt ha k8 hf) (all_cons (wwt hb k2 ht) all_nil)) (all_cons (wwt hc kw ht) (all_cons lb (all_cons tf (all_cons tf (all_cons tf all_nil)))))
  split
  · exact all_cons (wwt ha kw ht) (all_cons ba (all_cons (www hb k8 ha) (all_cons lb (all_cons tf (all_cons tf all_nil)))))
  · exact all_app (all_cons pk2 (all_cons (wwt ha kw ht) (all_cons te (all_cons ba all_nil)))) (all_cons to (all_cons tf (all_cons (www hb k8 hc) (all_cons la (all_cons tf (all_cons tf (all_cons tf all_nil)))))))
theorem opUpd_s {op : List Rw} {r : Rw} (ho : ∀ x ∈ op, RowS x) (hr : RowS r) : ∀ x ∈ opUpd op r, RowS x := by
  unfold opUpd
  split
  · exact all_app ho (all_cons hr all_nil)
  split
  · exact fun x hx => ho x ((List.dropLast_sublist op).mem hx)
  · exact ho
theorem st_s {cells : List Int} {d : Draw} {most : Int} {odd : Bool} (ok : d.Ok) : ∀ i, (∀ r ∈ (sheetSt cells d most odd i).1, RowS r) ∧ (∀ r ∈ (sheetSt cells d most odd i).2, RowS r)
  | 0 => ⟨all_nil, all_nil⟩
  | i + 1 => by
    have ih := st_s (cells := cells) (most := most) (odd := odd) ok i
    have hf := few_st cells d most odd i
    have hn := hf.named
    unfold sheetSt stepM
    split
    · exact ⟨all_app ih.1 (gadA_s (wordM_s ok (by omega) (by omega)) (wordM_s ok (by omega) (by omega)) (wordM_s ok (by omega) (by omega)) (thingM_s _ _)), ih.2⟩
    · have hr := rowM_s (way := cells.getD (3 * i) 0 % most) (one := cells.getD (3 * i + 1) 0) (two := cells.getD (3 * i + 2) 0) ok hf ih.2
      exact ⟨all_app ih.1 (all_cons hr all_nil), opUpd_s ih.2 hr⟩
theorem drawn_s (ns : List Int) (most : Int) : ∀ r ∈ drawnM ns most, RowS r := by
  have h : ∀ r ∈ baseM ns most, RowS r := by
    have := st_s (cells := cellsM ns most) (most := mostM (wayM ns)) (odd := decide (3 < wayM ns)) (drawM_ok ns) ((cellsM ns most).length / 3)
    refine all_app this.1 fun r hr => ?_
    obtain ⟨_, _, rfl⟩ := List.mem_map.mp hr
    trivial
  unfold drawnM
  split
  · exact all_app (all_app (all_app h h) h) h
  · exact h
/-! ### rows as data -/
def Src.d : Src → PyData
  | .thing n => .int n
  | .word w => .str w
def rowD : Rw → PyData
  | .lend h k s => .tuple [.str "lend", .str h, .str k, s.d]
  | .pick w ts => .tuple [.str "pick", .str w, .tuple (ts.map PyData.int)]
  | .either => .tuple [.str "either"]
  | .or => .tuple [.str "or"]
  | .again => .tuple [.str "again"]
  | .fin => .tuple [.str "end"]
  | .back h => .tuple [.str "back", .str h]
  | .look h => .tuple [.str "look", .str h]
  | .change h => .tuple [.str "change", .str h]
theorem row_dp {K : PySem.W.Frag} {H : Hp} {v : V} {r : Rw} (h : IsRow H v r) : Dp K H v (rowD r) := by
  cases r with
  | lend a b s =>
    obtain ⟨p, rfl, hp⟩ := h
    cases s with
    | thing n => exact .tup (st_of hp) (.cons (.str _) (.cons (.str _) (.cons (.str _) (.cons (.int _) .nil))))
    | word w => exact .tup (st_of hp) (.cons (.str _) (.cons (.str _) (.cons (.str _) (.cons (.str _) .nil))))
  | pick w ts =>
    obtain ⟨p, q, rfl, hp, hq⟩ := h
    exact .tup (st_of hp) (.cons (.str _) (.cons (.str _) (.cons (.tup (st_of hq) (dp_ints ts)) .nil)))
  | either => obtain ⟨p, rfl, hp⟩ := h; exact .tup (st_of hp) (.cons (.str _) .nil)
  | or => obtain ⟨p, rfl, hp⟩ := h; exact .tup (st_of hp) (.cons (.str _) .nil)
  | again => obtain ⟨p, rfl, hp⟩ := h; exact .tup (st_of hp) (.cons (.str _) .nil)
  | fin => obtain ⟨p, rfl, hp⟩ := h; exact .tup (st_of hp) (.cons (.str _) .nil)
  | back a => obtain ⟨p, rfl, hp⟩ := h; exact .tup (st_of hp) (.cons (.str _) (.cons (.str _) .nil))
  | look a => obtain ⟨p, rfl, hp⟩ := h; exact .tup (st_of hp) (.cons (.str _) (.cons (.str _) .nil))
  | change a => obtain ⟨p, rfl, hp⟩ := h; exact .tup (st_of hp) (.cons (.str _) (.cons (.str _) .nil))
theorem kind_ok {k : Str} (h : k = "read" ∨ k = "write") : PyData.strOk k = true := by
  rcases h with h | h <;> subst h <;> decide +kernel
theorem ok_lend' : PyData.strOk "lend" = true := by decide +kernel
theorem ok_pick' : PyData.strOk "pick" = true := by decide +kernel
theorem ok_back' : PyData.strOk "back" = true := by decide +kernel
theorem ok_look' : PyData.strOk "look" = true := by decide +kernel
theorem ok_change' : PyData.strOk "change" = true := by decide +kernel
theorem row_lay {r : Rw} (h : RowS r) : (rowD r).canLay0 = true ∧ (rowD r).depth ≤ 64 := by
  cases r with
  | lend a b s =>
    have h1 := word_ok h.1
    have h2 := kind_ok h.2.1
    cases s with
    | thing n =>
      simp [rowD, Src.d, PyData.canLay0, PyData.canLayAll0, PyData.depth, PyData.depthAll, h1, h2, ok_lend']
    | word w =>
      have h3 := word_ok h.2.2
      simp [rowD, Src.d, PyData.canLay0, PyData.canLayAll0, PyData.depth, PyData.depthAll, h1, h2, h3, ok_lend']
  | pick w ts =>
    have h1 := word_ok h.1
    simp [rowD, PyData.canLay0, PyData.canLayAll0, PyData.depth, PyData.depthAll, h1, ok_pick', PySem.W.ke_canLayAll0, PySem.W.ke_depthAll]
  | either => exact ⟨by decide +kernel, by decide +kernel⟩
  | or => exact ⟨by decide +kernel, by decide +kernel⟩
  | again => exact ⟨by decide +kernel, by decide +kernel⟩
  | fin => exact ⟨by decide +kernel, by decide +kernel⟩
  | back a =>
    have h1 := word_ok h
    simp [rowD, PyData.canLay0, PyData.canLayAll0, PyData.depth, PyData.depthAll, h1, ok_back']
  | look a =>
    have h1 := word_ok h
    simp [rowD, PyData.canLay0, PyData.canLayAll0, PyData.depth, PyData.depthAll, h1, ok_look']
  | change a =>
    have h1 := word_ok h
    simp [rowD, PyData.canLay0, PyData.canLayAll0, PyData.depth, PyData.depthAll, h1, ok_change']
theorem row_shaped {r : Rw} (h : RowS r) : SeqAt.shaped (rowD r) = true := by
  have := row_lay h
  unfold SeqAt.shaped
  rw [this.1, decide_eq_true this.2]
  rfl
end BD
namespace BD
open PySem PySem.Spec PyProof.Rows L2 Evl
local macro_rules | `(tactic| walk_at "ev") => `(tactic| first
  | ((with_reducible apply ev_var) ; rfl)
  | with_reducible exact ev_c
  | ((with_reducible apply ev_I0) <;> walk_at "ev")
  | ((with_reducible apply ev_e9) <;> walk_at "ev")
  | ((with_reducible apply ev_I) <;> walk_at "ev")
  | ((with_reducible apply ev_eq) <;> walk_at "ev")
  | ((with_reducible apply ev_ne) <;> walk_at "ev")
  | ((with_reducible apply ev_neg) <;> walk_at "ev")
  | ((with_reducible apply ev_ixN) <;> walk_at "ev")
  | ((with_reducible apply ev_ixL) <;> walk_at "ev")
  | ((with_reducible apply ev_inN) <;> walk_at "ev")
  | ((with_reducible apply ev_inT) <;> walk_at "ev")
  | ((with_reducible apply ev_ixT) <;> walk_at "ev")
  | ((with_reducible apply ev_ixS) <;> walk_at "ev")
  | ((with_reducible apply ev_len') <;> walk_at "ev")
  | ((with_reducible apply et_test) <;> walk_at "ev")
  | ((with_reducible apply et_and) <;> walk_at "ev")
  | ((with_reducible apply et_or) <;> walk_at "ev")
  | ((with_reducible apply et_not) <;> walk_at "ev")
  | ((with_reducible apply et_B) <;> walk_at "ev")
  | ((with_reducible apply el_lst) <;> walk_at "ev")
  | ((with_reducible apply eu_tup) <;> walk_at "ev")
  | ((with_reducible apply ea_cons) <;> walk_at "ev")
  | with_reducible exact ea_nil
  | with_reducible assumption
  | ((with_reducible apply ex_l' ; assumption) ; walk_at "ex")
  | ((with_reducible apply ex_t' ; assumption) ; walk_at "ex")
  | (intro _ ; walk_at "ev")
  | (with_reducible first | exact atI_hd | exact at_kind | exact at2s | exact at3s | exact at3i)
  | (first | exact rfl | exact Nat.le_of_ble_eq_true rfl | exact ⟨by decide, by decide⟩ | decide | exact Or.inl ⟨by omega, by omega⟩ | exact Or.inr ⟨by omega, by omega⟩ | omega)
  | skip)
local macro_rules | `(tactic| walk_at "ex") => `(tactic| first
  | assumption
  | exact Ex.refl _
  | (refine' Ex.trans ?_ (by assumption) ; walk_at "ex"))
local macro_rules | `(tactic| walk_at "row") => `(tactic| first
  | (with_reducible exact er_nil)
  | ((with_reducible apply er_cons) <;> walk_at "row")
  | (((with_reducible apply er_var) ; rfl) ; walk_at "isrow")
  | (((with_reducible apply elr_var) ; rfl) ; walk_at "isrow")
  | ((with_reducible apply elr_cat) <;> walk_at "row")
  | ((with_reducible apply elr_lst) <;> walk_at "row")
  | ((with_reducible apply er_fin) <;> walk_at "ev")
  | ((with_reducible apply er_lendT) <;> walk_at "ev")
  | ((with_reducible apply er_lendW) <;> walk_at "ev")
  | ((with_reducible apply er_pick) <;> walk_at "ev")
  | ((with_reducible apply er_either) <;> walk_at "ev")
  | ((with_reducible apply er_or) <;> walk_at "ev")
  | ((with_reducible apply er_again) <;> walk_at "ev")
  | ((with_reducible apply er_back) <;> walk_at "ev")
  | ((with_reducible apply er_look) <;> walk_at "ev")
  | ((with_reducible apply er_change) <;> walk_at "ev")
  | exact Nat.le_of_ble_eq_true rfl
  | skip)
local macro_rules | `(tactic| walk_at "isrow") => `(tactic| first
  | assumption
  | (refine IsRow.up ?_ (by assumption) ; walk_at "ex")
  | (refine LRows.up ?_ (by assumption) ; walk_at "ex"))

local macro_rules | `(tactic| walk_at "ev") => `(tactic| ((with_reducible apply ev_letter) <;> walk_at "ev"))
local macro_rules | `(tactic| walk_at "ev") => `(tactic| ((with_reducible apply ev_cell) <;> walk_at "ev"))
local macro_rules | `(tactic| walk_at "ev") => `(tactic| ((with_reducible apply ev_word) <;> walk_at "ev"))
local macro_rules | `(tactic| walk_at "ev") => `(tactic| ((with_reducible apply ev_thing) <;> walk_at "ev"))

local macro_rules | `(tactic| walk_at "ev") => `(tactic| (((with_reducible apply ev_tag) ; rfl) ; walk_at "isrow"))
abbrev s_l_homes : Stmt := topS 27
theorem sc_l_homes : FnScope ["_law_rows", "_law_found", "_law_opened", "_law_at", "_law_row_here"] ["_law_rows"] (defScope s_l_homes) := ⟨rfl, rfl, rfl, by decide +kernel, rfl, by decide +kernel, by decide +kernel⟩
abbrev s_l_last : Stmt := topS 28
theorem sc_l_last : FnScope ["_law_rows", "_law_home", "_law_at", "_law_place"] ["_law_rows", "_law_home", "_law_at"] (defScope s_l_last) := ⟨rfl, rfl, rfl, by decide +kernel, rfl, by decide +kernel, by decide +kernel⟩
abbrev s_l_starts : Stmt := topS 29
theorem sc_l_starts : FnScope ["_law_rows", "_law_home", "_law_at", "_law_found", "_law_place"] ["_law_rows", "_law_home", "_law_at"] (defScope s_l_starts) := ⟨rfl, rfl, rfl, by decide +kernel, rfl, by decide +kernel, by decide +kernel⟩
section
variable {P : Program} {w : World} {K : PySem.W.Frag} {mg : Str → Option Value} {base : Heap}
theorem ok_lhomes (D : Dn K mg "_law_homes" s_l_homes ["_law_rows"]) (T : Blt mg) : Has P w K mg base "_law_homes" 1 ["_law_rows"] (spHomes K) := by
  refine D.ok sc_l_homes (fun vs H Q E h => ?_) (fun f cdv A outer s H vs Q E hr h => ?_)
  · obtain ⟨a, rv, rs, rfl, _⟩ := h
    rfl
  · obtain ⟨a, rv, rs, rfl, hS, hR, g, hlen, q⟩ := h
    have hlr := hR.len
    refine ⟨_, (pss_cons (ps_set (i := 1) sc_l_homes.nd rfl (Or.inl rfl) (pe_lst pa_nil)) (pss_cons (ps_set (i := 2) sc_l_homes.nd rfl (Or.inl rfl) (pe_lst (pa_cons (pe_un un_neg pe_int) pa_nil))) (pss_cons (ps_for PassesOwn.never rfl (pi_enum (by rfl) T.enumerate_ (pa_cons (pv 0) pa_nil)) (pg_tup rfl (pgs_cons (pg_name (i := 3) sc_l_homes.nd rfl (Or.inl rfl)) (pgs_cons (pg_name (i := 4) sc_l_homes.nd rfl (Or.inl rfl)) pgs_nil))) (pss_cons (ps_expr (pe_bm PySem.F.plainAttrs_list PySem.F.slot_list_append PySem.F.type_list_append mt_append (pv 1) (pa_cons (pe_ix (show IxR _ (rIxL K) from ix_list) (pv 2) (pe_un un_neg pe_int) (fun _ _ => rfl)) pa_nil))) (pss_cons (ps_if (pt_cmpR (show OpR _ _ (rIn K false) from op_in_seq) (pe_ix (show IxR _ (rIxT K) from ix_tup) (pv 4) pe_int (fun _ _ => rfl)) (pe_lst (pa_cons pe_str (pa_cons pe_str (pa_cons pe_str (pa_cons pe_str pa_nil))))) (by rfl)) (pss_one (ps_expr (pe_bm PySem.F.plainAttrs_list PySem.F.slot_list_append PySem.F.type_list_append mt_append (pv 2) (pa_cons (pv 3) pa_nil)))) pss_nil) (pss_one (ps_if (pt_cmpR op_eq (pe_ix (show IxR _ (rIxT K) from ix_tup) (pv 4) pe_int (fun _ _ => rfl)) pe_str (nomark _)) (pss_one (ps_expr (pe_bm0 PySem.F.plainAttrs_list PySem.F.slot_list_pop PySem.F.type_list_pop mt_pop (pv 2)))) pss_nil))))) (pss_one (ps_ret (pv 1)))))), ?_⟩
    show (_ : L2.TS) _ [_, _, _, _, _] _
    refine q_asgL (xs := []) ?_ (fun pf H1 hpf e1 h1 => ?_)
    · walk_at "ev"
    show (_ : L2.TS) _ [_, _, _, _, _] _
    refine q_asgL (xs := [.int (-1)]) ?_ (fun po H2 hpo e2 h2 => ?_)
    · walk_at "ev"
    show (_ : L2.TS) _ [_, _, _, _, _] _
    have hne : pf ≠ po := ne_of_none h1 hpo
    have hpoH : H po = none := fresh_back e1 hpo
    refine q_forE (K := K) (a := a) (xs := rv) (ev_var rfl) (ex_l (by walk_at "ex") hS) (fun i σ' H' => Ex H H' ∧ H' pf = some (.lst (homesV rs i)) ∧ H' po = some (.lst (stV rs i)) ∧ ∃ x3 x4, σ' = [some (.ref a), some (.ref pf), some (.ref po), x3, x4]) ?_ (fun i σ' H' _ h => ex_l h.1 hS) ?_ ?_
    · intro H3 e3
      exact ⟨by walk_at "ex", e3 _ _ (e2 _ _ h1), e3 _ _ h2, none, none, rfl⟩
    · rintro i x σ' H' H3 hi ⟨eH, hf, ho, x3, x4, rfl⟩ e3
      obtain ⟨r, hr, hX⟩ := hR.at hi
      have hi' : i < rv.length := (List.getElem?_eq_some_iff.mp hi).1
      have hO : SqL K H3 po (stV rs i) := sq_of (e3 _ _ ho)
      have hsl := stV_len rs i
      refine q_app (l := pf) (xs := homesV rs i) (v := .int (hm rs i)) (e3 _ _ hf) (ev_var rfl) ?_ (by rw [homesV_len]; omega) (fun H4 e4 => ?_)
      · refine ev_ixL (ev_var rfl) hO ?_ (stV_last rs i)
        walk_at "ev"
      rw [← homesV_next]
      have e5 : Ex H (upd H4 pf (.lst (homesV rs (i + 1)))) := Ex.mut (eH.trans (e3.trans e4)) hpf
      have hX5 : IsRow (upd H4 pf (.lst (homesV rs (i + 1)))) x r := hX.up e5
      have ho5 : (upd H4 pf (.lst (homesV rs (i + 1)))) po = some (.lst (stV rs i)) := by
        rw [upd_ne hne.symm]
        exact e4 _ _ (e3 _ _ ho)
      have hf5 : (upd H4 pf (.lst (homesV rs (i + 1)))) pf = some (.lst (homesV rs (i + 1))) := upd_same
      generalize upd H4 pf (.lst (homesV rs (i + 1))) = H5 at *
      cases hro : r.opens with
      | true =>
        have hrf : r.isFin = false := by cases r <;> first | rfl | cases hro
        refine q_when (b := true) ?_ (fun _ H6 e6 => ?_) (fun hb _ _ => by cases hb)
        · refine et_is ?_ hro
          rw [← tag_opens r]
          walk_at "ev"
        · refine s_app (e6 _ _ ho5) (ev_var rfl) (ev_var rfl) (by omega) (fun H7 e7 => ?_)
          dsimp only
          rw [← stV_push hr hro]
          have e8 : Ex H (upd H7 po (.lst (stV rs (i + 1)))) := Ex.mut (e5.trans (e6.trans e7)) hpoH
          have hX8 : IsRow (upd H7 po (.lst (stV rs (i + 1)))) x r := hX.up e8
          refine s_when (b := false) ?_ (fun hb _ _ => by cases hb) (fun _ H9 e9 => ?_)
          · refine et_is ?_ hrf
            rw [← tag_fin r]
            walk_at "ev"
          · refine ⟨e8.trans e9, e9 _ _ ?_, e9 _ _ upd_same, _, _, rfl⟩
            rw [upd_ne hne]
            exact e7 _ _ (e6 _ _ hf5)
      | false =>
        refine q_when (b := false) ?_ (fun hb _ _ => by cases hb) (fun _ H6 e6 => ?_)
        · refine et_is ?_ hro
          rw [← tag_opens r]
          walk_at "ev"
        · have hX6 := hX5.up e6
          refine s_when (b := r.isFin) ?_ (fun hrf H7 e7 => ?_) (fun hrf H7 e7 => ?_)
          · rw [← tag_fin]
            walk_at "ev"
          · have hp := stV_pop g hr hrf
            refine s_pop (e7 _ _ (e6 _ _ ho5)) (ev_var rfl) hp.2 (fun H8 e8 => ?_)
            dsimp only
            rw [← hp.1]
            refine ⟨Ex.mut (e5.trans (e6.trans (e7.trans e8))) hpoH, ?_, upd_same, _, _, rfl⟩
            rw [upd_ne hne]
            exact e8 _ _ (e7 _ _ (e6 _ _ hf5))
          · refine ⟨e5.trans (e6.trans e7), e7 _ _ (e6 _ _ hf5), ?_, _, _, rfl⟩
            rw [stV_keep hr hro hrf]
            exact e7 _ _ (e6 _ _ ho5)
    · rintro σ' H' ⟨eH, hf, ho, x3, x4, rfl⟩
      rw [hlr] at hf
      exact s_ret (v := .ref pf) (ev_var rfl) (fun H4 e4 => q pf H4 hpf (eH.trans e4) (e4 _ _ hf))
/-! ### the law's own ends and branches -/
def spLast (K : PySem.W.Frag) : Sp := fun vs H Q _ => ∃ (a hh : Addr) (n : Nat) (rv : List V) (rs : List Rw), vs = [.ref a, .ref hh, .int (n : Int)] ∧ SqL K H a rv ∧ Rows H rv rs ∧ SqL K H hh (homesV rs rs.length) ∧ n < rs.length ∧ rs.length ≤ 90000 ∧
  RetV (.int (endUp rs n rs.length)) H Q
theorem ok_last (D : Dn K mg "_law_last" s_l_last ["_law_rows", "_law_home", "_law_at"]) (T : Blt mg) : Has P w K mg base "_law_last" 1 ["_law_rows", "_law_home", "_law_at"] (spLast K) := by
  refine D.ok sc_l_last (fun vs H Q E h => ?_) (fun f cdv A outer s H vs Q E hr h => ?_)
  · obtain ⟨a, hh, n, rv, rs, rfl, _⟩ := h
    rfl
  · obtain ⟨a, hh, n, rv, rs, rfl, hS, hR, hHm, hn, hlen, q⟩ := h
    have hlr := hR.len
    refine ⟨_, (pss_cons (ps_for PassesOwn.never rfl (pi_range2 (by rfl) T.range_ (pa_cons (pe_op op_add (pv 2) pe_int) (pa_cons (pe_callB (show CallR _ _ (rLenS K) from call_len_seq) (by rfl) T.len_ (by decide +kernel) (pa_cons (pv 0) pa_nil)) pa_nil))) (pg_name (i := 3) sc_l_last.nd rfl (Or.inl rfl)) (pss_one (ps_if (PW.pt (pw_and (pt_cmpR op_eq (pe_ix (show IxR _ (rIxL K) from ix_list) (pv 1) (pv 3) (fun _ _ => rfl)) (pv 2) (nomark _)) (pw_and1 (pt_cmpR op_eq (pe_ix (show IxR _ (rIxT K) from ix_tup) (pe_ix (show IxR _ (rIxL K) from ix_list) (pv 0) (pv 3) (fun _ _ => rfl)) pe_int (fun _ _ => rfl)) pe_str (nomark _))))) (pss_one (ps_ret (pv 3))) pss_nil))) (pss_one (ps_ret (pe_un un_neg pe_int)))), ?_⟩
    show (_ : L2.TS) _ [_, _, _, _] _
    refine q_forR2 (lo := (n : Int) + 1) (n := ((rv.length : Nat) : Int)) ?_ ⟨by omega, by omega, by omega, by omega⟩ (fun i σ' H' => Ex H H' ∧ (∀ p, p < n + 1 + i → finF rs n p = false) ∧ ∃ x3, σ' = [some (.ref a), some (.ref hh), some (.int (n : Int)), x3]) ?_ ?_ ?_
    · walk_at "ev"
    · intro H1 e1
      exact ⟨e1, fun p hp => finF_low (by omega), none, rfl⟩
    · rintro i σ' H' hi ⟨eH, hno, x3, rfl⟩
      have ep : (n : Int) + 1 + (i : Int) = ((n + 1 + i : Nat) : Int) := by omega
      rw [ep]
      have hpl : n + 1 + i < rs.length := by omega
      generalize n + 1 + i = p at *
      have hgr := List.getElem?_eq_getElem hpl
      obtain ⟨y, hy, hY⟩ := hR.get hgr
      generalize rs[p] = r at hgr hY
      have hY2 : IsRow H' y r := hY.up eH
      obtain ⟨py, ys, rfl, hpy⟩ := hY2.tup
      have hPy : SqT K H' py (.str r.tag :: ys) := st_of hpy
      have hix : atI rv (p : Int) = some (.ref py) := atI_nat hy
      have hhx : atI (homesV rs rs.length) (p : Int) = some (.int (hm rs p)) := atI_nat (homesV_at hpl)
      refine s_when (b := decide (V.int (hm rs p) = V.int (n : Int)) && r.isFin) ?_ (fun hb H3 e3 => ?_) (fun hb H3 e3 => ?_)
      · rw [← tag_fin]
        walk_at "ev"
      · simp only [Bool.and_eq_true, decide_eq_true_eq, V.int.injEq] at hb
        have hfin : finF rs n p = true := by rw [finF_at hgr, decide_eq_true hb.1, hb.2]; rfl
        have hst := endUp_stay hfin (fun q hq => hno q (by omega)) rs.length hpl
        rw [hst] at q
        exact s_ret (v := .int (p : Int)) (ev_var rfl) (fun H4 e4 => q H4 (eH.trans (e3.trans e4)))
      · simp only [Bool.and_eq_false_iff, decide_eq_false_iff_not, V.int.injEq] at hb
        refine ⟨eH.trans e3, fun q hq => ?_, _, rfl⟩
        by_cases e : q = p
        · subst e
          rw [finF_at hgr]
          rcases hb with hb | hb
          · rw [decide_eq_false hb]; rfl
          · rw [hb, Bool.and_false]
        · exact hno q (by omega)
    · rintro σ' H' ⟨eH, hno, x3, rfl⟩
      rw [endUp_none (fun p hp => hno p (by omega))] at q
      refine s_ret (v := .int (-1)) ?_ (fun H4 e4 => q H4 (eH.trans e4))
      walk_at "ev"
theorem ev_last {a hh : Addr} {n : Nat} {rv : List V} {rs : List Rw} {ta : TA} {σ : L2.St} {H : Hp} {E : XK} (h : EvA ta σ H [.ref a, .ref hh, .int (n : Int)]) (hS : SqL K H a rv) (hR : Rows H rv rs) (hH : SqL K H hh (homesV rs rs.length)) (hn : n < rs.length) (hl : rs.length ≤ 90000) :
    Ev (tCall (spLast K) [] E ta) σ H (.int (endUp rs n rs.length)) := ev_call h fun H1 e Q q E => ⟨a, hh, n, rv, rs, rfl, ex_l e hS, hR.up e, ex_l e hH, hn, hl, q⟩
def spStarts (K : PySem.W.Frag) : Sp := fun vs H Q _ => ∃ (a hh : Addr) (n : Nat) (rv : List V) (rs : List Rw), vs = [.ref a, .ref hh, .int (n : Int)] ∧ SqL K H a rv ∧ Rows H rv rs ∧ SqL K H hh (homesV rs rs.length) ∧ n < rs.length ∧ rs.length ≤ 90000 ∧
  RetL (brV rs n rs.length) H Q
theorem ok_starts (D : Dn K mg "_law_starts" s_l_starts ["_law_rows", "_law_home", "_law_at"]) (T : Blt mg) : Has P w K mg base "_law_starts" 1 ["_law_rows", "_law_home", "_law_at"] (spStarts K) := by
  refine D.ok sc_l_starts (fun vs H Q E h => ?_) (fun f cdv A outer s H vs Q E hr h => ?_)
  · obtain ⟨a, hh, n, rv, rs, rfl, _⟩ := h
    rfl
  · obtain ⟨a, hh, n, rv, rs, rfl, hS, hR, hHm, hn, hlen, q⟩ := h
    have hlr := hR.len
    refine ⟨_, (pss_cons (ps_set (i := 3) sc_l_starts.nd rfl (Or.inl rfl) (pe_lst (pa_cons (pe_op op_add (pv 2) pe_int) pa_nil))) (pss_cons (ps_for PassesOwn.never rfl (pi_range2 (by rfl) T.range_ (pa_cons (pe_op op_add (pv 2) pe_int) (pa_cons (pe_callB (show CallR _ _ (rLenS K) from call_len_seq) (by rfl) T.len_ (by decide +kernel) (pa_cons (pv 0) pa_nil)) pa_nil))) (pg_name (i := 4) sc_l_starts.nd rfl (Or.inl rfl)) (pss_one (ps_if (PW.pt (pw_and (pt_cmpR op_eq (pe_ix (show IxR _ (rIxL K) from ix_list) (pv 1) (pv 4) (fun _ _ => rfl)) (pv 2) (nomark _)) (pw_and1 (pt_cmpR op_eq (pe_ix (show IxR _ (rIxT K) from ix_tup) (pe_ix (show IxR _ (rIxL K) from ix_list) (pv 0) (pv 4) (fun _ _ => rfl)) pe_int (fun _ _ => rfl)) pe_str (nomark _))))) (pss_one (ps_expr (pe_bm PySem.F.plainAttrs_list PySem.F.slot_list_append PySem.F.type_list_append mt_append (pv 3) (pa_cons (pe_op op_add (pv 4) pe_int) pa_nil)))) pss_nil))) (pss_one (ps_ret (pv 3))))), ?_⟩
    show (_ : L2.TS) _ [_, _, _, _, _] _
    refine q_asgL (xs := brV rs n (n + 1)) ?_ (fun pf H1 hpf e1 h1 => ?_)
    · rw [brV_low rs n (n + 1) (Nat.le_refl _)]
      walk_at "ev"
    show (_ : L2.TS) _ [_, _, _, _, _] _
    refine q_forR2 (lo := (n : Int) + 1) (n := ((rv.length : Nat) : Int)) ?_ ⟨by omega, by omega, by omega, by omega⟩ (fun i σ' H' => Ex H H' ∧ H' pf = some (.lst (brV rs n (n + 1 + i))) ∧ ∃ x3, σ' = [some (.ref a), some (.ref hh), some (.int (n : Int)), some (.ref pf), x3]) ?_ ?_ ?_
    · walk_at "ev"
    · intro H2 e2
      exact ⟨e1.trans e2, e2 _ _ h1, none, rfl⟩
    · rintro i σ' H' hi ⟨eH, hf, x3, rfl⟩
      have ep : (n : Int) + 1 + (i : Int) = ((n + 1 + i : Nat) : Int) := by omega
      rw [ep]
      have hpl : n + 1 + i < rs.length := by omega
      rw [show n + 1 + (i + 1) = (n + 1 + i) + 1 from rfl]
      generalize n + 1 + i = p at *
      have hgr := List.getElem?_eq_getElem hpl
      obtain ⟨y, hy, hY⟩ := hR.get hgr
      generalize rs[p] = r at hgr hY
      have hY2 : IsRow H' y r := hY.up eH
      obtain ⟨py, ys, rfl, hpy⟩ := hY2.tup
      have hPy : SqT K H' py (.str r.tag :: ys) := st_of hpy
      have hix : atI rv (p : Int) = some (.ref py) := atI_nat hy
      have hhx : atI (homesV rs rs.length) (p : Int) = some (.int (hm rs p)) := atI_nat (homesV_at hpl)
      have hbl := brV_len rs n p
      refine s_when (b := decide (V.int (hm rs p) = V.int (n : Int)) && r.isOr) ?_ (fun hb H3 e3 => ?_) (fun hb H3 e3 => ?_)
      · rw [← tag_or]
        walk_at "ev"
      · simp only [Bool.and_eq_true, decide_eq_true_eq, V.int.injEq] at hb
        refine s_app (l := pf) (xs := brV rs n p) (v := .int ((p : Int) + 1)) (e3 _ _ hf) (ev_var rfl) ?_ (by omega) (fun H4 e4 => ?_)
        · walk_at "ev"
        dsimp only
        rw [← brV_yes (by rw [orF_at hgr, decide_eq_true hb.1, hb.2]; rfl)]
        exact ⟨Ex.mut (eH.trans (e3.trans e4)) hpf, upd_same, _, rfl⟩
      · simp only [Bool.and_eq_false_iff, decide_eq_false_iff_not, V.int.injEq] at hb
        refine ⟨eH.trans e3, ?_, _, rfl⟩
        rw [brV_no (by
          rw [orF_at hgr]
          rcases hb with hb | hb
          · rw [decide_eq_false hb]; rfl
          · rw [hb, Bool.and_false])]
        exact e3 _ _ hf
    · rintro σ' H' ⟨eH, hf, x3, rfl⟩
      rw [show n + 1 + (((rv.length : Nat) : Int) - ((n : Int) + 1)).toNat = rs.length by omega] at hf
      exact s_ret (v := .ref pf) (ev_var rfl) (fun H4 e4 => q pf H4 hpf (eH.trans e4) (e4 _ _ hf))
theorem el_starts {a hh : Addr} {n : Nat} {rv : List V} {rs : List Rw} {ta : TA} {σ : L2.St} {H : Hp} {E : XK} (h : EvA ta σ H [.ref a, .ref hh, .int (n : Int)]) (hS : SqL K H a rv) (hR : Rows H rv rs) (hH : SqL K H hh (homesV rs rs.length)) (hn : n < rs.length) (hl : rs.length ≤ 90000) :
    EvL (tCall (spStarts K) [] E ta) σ H (brV rs n rs.length) := el_call h fun H1 e Q q E => ⟨a, hh, n, rv, rs, rfl, ex_l e hS, hR.up e, ex_l e hH, hn, hl, fun p H2 hp e2 h2 => q p H2 hp e2 h2⟩
end
end BD
namespace BD
open PySem PySem.Spec PyProof.Rows L2 Evl
local macro_rules | `(tactic| walk_at "ev") => `(tactic| first
  | ((with_reducible apply ev_var) ; rfl)
  | with_reducible exact ev_c
  | ((with_reducible apply ev_I0) <;> walk_at "ev")
  | ((with_reducible apply ev_e9) <;> walk_at "ev")
  | ((with_reducible apply ev_I) <;> walk_at "ev")
  | ((with_reducible apply ev_eq) <;> walk_at "ev")
  | ((with_reducible apply ev_ne) <;> walk_at "ev")
  | ((with_reducible apply ev_neg) <;> walk_at "ev")
  | ((with_reducible apply ev_ixN) <;> walk_at "ev")
  | ((with_reducible apply ev_ixL) <;> walk_at "ev")
  | ((with_reducible apply ev_inN) <;> walk_at "ev")
  | ((with_reducible apply ev_inT) <;> walk_at "ev")
  | ((with_reducible apply ev_ixT) <;> walk_at "ev")
  | ((with_reducible apply ev_ixS) <;> walk_at "ev")
  | ((with_reducible apply ev_len') <;> walk_at "ev")
  | ((with_reducible apply et_test) <;> walk_at "ev")
  | ((with_reducible apply et_and) <;> walk_at "ev")
  | ((with_reducible apply et_or) <;> walk_at "ev")
  | ((with_reducible apply et_not) <;> walk_at "ev")
  | ((with_reducible apply et_B) <;> walk_at "ev")
  | ((with_reducible apply el_lst) <;> walk_at "ev")
  | ((with_reducible apply eu_tup) <;> walk_at "ev")
  | ((with_reducible apply ea_cons) <;> walk_at "ev")
  | with_reducible exact ea_nil
  | with_reducible assumption
  | ((with_reducible apply ex_l' ; assumption) ; walk_at "ex")
  | ((with_reducible apply ex_t' ; assumption) ; walk_at "ex")
  | (intro _ ; walk_at "ev")
  | (with_reducible first | exact atI_hd | exact at_kind | exact at2s | exact at3s | exact at3i)
  | (first | exact rfl | exact Nat.le_of_ble_eq_true rfl | exact ⟨by decide, by decide⟩ | decide | exact Or.inl ⟨by omega, by omega⟩ | exact Or.inr ⟨by omega, by omega⟩ | omega)
  | skip)
local macro_rules | `(tactic| walk_at "ex") => `(tactic| first
  | assumption
  | exact Ex.refl _
  | (refine' Ex.trans ?_ (by assumption) ; walk_at "ex"))
local macro_rules | `(tactic| walk_at "row") => `(tactic| first
  | (with_reducible exact er_nil)
  | ((with_reducible apply er_cons) <;> walk_at "row")
  | (((with_reducible apply er_var) ; rfl) ; walk_at "isrow")
  | (((with_reducible apply elr_var) ; rfl) ; walk_at "isrow")
  | ((with_reducible apply elr_cat) <;> walk_at "row")
  | ((with_reducible apply elr_lst) <;> walk_at "row")
  | ((with_reducible apply er_fin) <;> walk_at "ev")
  | ((with_reducible apply er_lendT) <;> walk_at "ev")
  | ((with_reducible apply er_lendW) <;> walk_at "ev")
  | ((with_reducible apply er_pick) <;> walk_at "ev")
  | ((with_reducible apply er_either) <;> walk_at "ev")
  | ((with_reducible apply er_or) <;> walk_at "ev")
  | ((with_reducible apply er_again) <;> walk_at "ev")
  | ((with_reducible apply er_back) <;> walk_at "ev")
  | ((with_reducible apply er_look) <;> walk_at "ev")
  | ((with_reducible apply er_change) <;> walk_at "ev")
  | exact Nat.le_of_ble_eq_true rfl
  | skip)
local macro_rules | `(tactic| walk_at "isrow") => `(tactic| first
  | assumption
  | (refine IsRow.up ?_ (by assumption) ; walk_at "ex")
  | (refine LRows.up ?_ (by assumption) ; walk_at "ex"))

/-! ### entries of what is held -/
structure Ent where
  w : Str
  k : Str
  t : Int
  s : Str
  o : Bool
def Ent.vs (e : Ent) : List V := [.str e.w, .str e.k, .int e.t, .str e.s, .bl e.o]
def IsEnt (H : Hp) (v : V) (e : Ent) : Prop := ∃ p, v = .ref p ∧ H p = some (.tup e.vs)
def Ents (H : Hp) (vs : List V) (es : List Ent) : Prop := Paired (IsEnt H) vs es
/-- a tuple of entries; a standing -/
def AHeld (es : List Ent) : V → Hp → Prop := fun v H => ∃ p vs, v = .ref p ∧ H p = some (.tup vs) ∧ Ents H vs es
def AStand (i : Int) (es : List Ent) : V → Hp → Prop := fun v H => ∃ p q vs, v = .ref p ∧ H p = some (.tup [.int i, .ref q]) ∧ H q = some (.tup vs) ∧ Ents H vs es
theorem IsEnt.upT {H H' : Hp} {v : V} {e : Ent} (x : ExT H H') (h : IsEnt H v e) : IsEnt H' v e := by
  obtain ⟨p, h1, h2⟩ := h
  exact ⟨p, h1, x _ _ h2⟩
theorem Ents.upT {H H' : Hp} (e : ExT H H') : ∀ {vs : List V} {es : List Ent}, Ents H vs es → Ents H' vs es
  | _, _, .nil => .nil
  | _, _, .cons r t => .cons (r.upT e) (Ents.upT e t)
theorem Ents.up {H H' : Hp} (e : Ex H H') {vs : List V} {es : List Ent} (h : Ents H vs es) : Ents H' vs es := h.upT (ExT.of e)
theorem IsEnt.up {H H' : Hp} {v : V} {e : Ent} (x : Ex H H') (h : IsEnt H v e) : IsEnt H' v e := h.upT (ExT.of x)
theorem Ents.len {H : Hp} {vs : List V} {es : List Ent} (h : Ents H vs es) : vs.length = es.length := Paired.length h
theorem Ents.append {H : Hp} : ∀ {vs ws : List V} {rs ss : List Ent}, Ents H vs rs → Ents H ws ss → Ents H (vs ++ ws) (rs ++ ss)
  | _, _, _, _, .nil, s => s
  | _, _, _, _, .cons r t, s => .cons r (Ents.append t s)
theorem Ents.at {H : Hp} : ∀ {vs : List V} {rs : List Ent} {i : Nat} {x : V}, Ents H vs rs → vs[i]? = some x → ∃ r, rs[i]? = some r ∧ IsEnt H x r
  | _, _, _, _, .nil, e => by simp at e
  | _, _, 0, _, .cons r _, e => by simp at e; subst e; exact ⟨_, rfl, r⟩
  | _, _, i + 1, x, .cons _ t, e => by
    obtain ⟨u, h1, h2⟩ := Ents.at (i := i) (x := x) t (by simpa using e)
    exact ⟨u, by simpa using h1, h2⟩
theorem Ents.dropLast {H : Hp} : ∀ {vs : List V} {rs : List Ent}, Ents H vs rs → Ents H vs.dropLast rs.dropLast
  | _, _, .nil => .nil
  | _, _, .cons r .nil => .nil
  | _, _, .cons r (.cons r2 t) => .cons r (Ents.dropLast (.cons r2 t))
theorem AHeld.up {es : List Ent} {v : V} {H H' : Hp} (e : Ex H H') (h : AHeld es v H) : AHeld es v H' := by
  obtain ⟨p, vs, h1, h2, h3⟩ := h
  exact ⟨p, vs, h1, e _ _ h2, h3.up e⟩
theorem AStand.up {i : Int} {es : List Ent} {v : V} {H H' : Hp} (e : Ex H H') (h : AStand i es v H) : AStand i es v H' := by
  obtain ⟨p, q, vs, h1, h2, h3, h4⟩ := h
  exact ⟨p, q, vs, h1, e _ _ h2, e _ _ h3, h4.up e⟩
section
variable {K : PySem.W.Frag} {σ : L2.St} {H H' : Hp} {ta tb te tr tw tt : TE} {es fs : List Ent} {e : Ent}
theorem ep_heldvar {i : Nat} {v : V} (h : σ[i]? = some (some v)) (hr : AHeld es v H) : EvP (tVar i) σ H (AHeld es) := fun H1 x Q q => ⟨v, h, q v H1 (Ex.refl H1) (hr.up x)⟩
/-- t + u of entries -/
theorem ep_catT (ha : EvP ta σ H (AHeld es)) (hb : EvP tb σ H (AHeld fs)) (hl : es.length + fs.length ≤ 100000) : EvP (tOp (rCatA K) ta tb) σ H (AHeld (es ++ fs)) := fun H1 x Q q =>
  ha H1 x _ fun v H2 e2 hv => hb H2 (x.trans e2) _ fun u H3 e3 hu => by
    obtain ⟨p, vs, rfl, h1, h2⟩ := hv
    obtain ⟨p', us, rfl, h3, h4⟩ := hu
    have h2' := h2.up e3
    refine ⟨p, p', vs, us, rfl, rfl, st_of (e3 _ _ h1), st_of h3, sz_of (by rw [h2.len, h4.len]; exact hl), fun z => ?_, fun _ z => ?_, fun _ _ r hr => ?_⟩
    · refine q _ _ (e2.trans e3) ⟨p', us, rfl, h3, ?_⟩
      have := Ents.append h2' h4
      rw [z] at this
      exact this
    · refine q _ _ (e2.trans e3) ⟨p, vs, rfl, e3 _ _ h1, ?_⟩
      have := Ents.append h2' h4
      rw [z, List.append_nil] at this
      exact this
    · exact q _ _ (e2.trans (e3.trans (Ex.new hr))) ⟨r, _, rfl, upd_same, (Ents.append h2' h4).up (Ex.new hr)⟩
/-- (e,) -/
theorem ep_one (h : EvP te σ H (fun v H2 => IsEnt H2 v e)) : EvP (tTup (tCons te tNil)) σ H (AHeld [e]) := fun H1 x Q q =>
  h H1 x _ fun v H2 e2 hv => ⟨by show 1 ≤ sizeLine; decide, fun p hp => q _ _ (e2.trans (Ex.new hp)) ⟨p, [v], rfl, upd_same, .cons (hv.up (Ex.new hp)) .nil⟩⟩
end
theorem inV_strs (x : Str) : ∀ l : List Str, inV (.str x) (l.map V.str) = decide (x ∈ l)
  | [] => rfl
  | y :: l => by
    have ih := inV_strs x l
    unfold inV at ih ⊢
    rw [List.map_cons, List.any_cons, ih]
    show (y == x || decide (x ∈ l)) = decide (x ∈ y :: l)
    by_cases h : x = y
    · subst h
      rw [beq_self_eq_true, Bool.true_or, decide_eq_true List.mem_cons_self]
    · rw [beq_eq_false_iff_ne.mpr (fun z => h z.symm), Bool.false_or]
      by_cases h2 : x ∈ l
      · rw [decide_eq_true h2, decide_eq_true (List.mem_cons_of_mem _ h2)]
      · rw [decide_eq_false h2, decide_eq_false (fun z => (List.mem_cons.mp z).elim h h2)]
theorem flat_strs : ∀ l : List Str, (l.map V.str).all flatV = true
  | [] => rfl
  | _ :: l => flat_strs l
section
variable {K : PySem.W.Frag} {σ : L2.St} {H H' : Hp} {ta tb te tr tw tt : TE}
theorem ev_inLs {p : Addr} {x : Str} {l : List Str} (ha : Ev ta σ H (.str x)) (hb : Ev tb σ H (.ref p)) (h : SqL K H p (l.map V.str)) : Ev (tOp (rIn K false) ta tb) σ H (.bl (decide (x ∈ l))) := by
  rw [← inV_strs]
  exact ev_op ha hb (rv_isL h rfl (flat_strs l))
theorem ev_notInLs {p : Addr} {x : Str} {l : List Str} (ha : Ev ta σ H (.str x)) (hb : Ev tb σ H (.ref p)) (h : SqL K H p (l.map V.str)) : Ev (tOp (rIn K true) ta tb) σ H (.bl (!decide (x ∈ l))) := by
  rw [← inV_strs]
  exact ev_op ha hb (rv_niL h rfl (flat_strs l))
end
theorem paired_app {α β : Type} {F : α → β → Prop} : ∀ {a c : List α} {b d : List β}, Paired F a b → Paired F c d → Paired F (a ++ c) (b ++ d)
  | _, _, _, _, .nil, s => s
  | _, _, _, _, .cons r t, s => .cons r (paired_app t s)
theorem paired_drop {α β : Type} {F : α → β → Prop} : ∀ {a : List α} {b : List β}, Paired F a b → Paired F a.dropLast b.dropLast
  | _, _, .nil => .nil
  | _, _, .cons _ .nil => .nil
  | _, _, .cons r (.cons r2 t) => .cons r (paired_drop (.cons r2 t))
theorem given_rel {α : Type} {R : V → α → Prop} {f : Nat → Bool} {v : Nat → V} {p : α → Bool} {vs : List V} {rs : List α} (hR : Paired R vs rs) (hf : ∀ i r, rs[i]? = some r → f i = p r) (hv : ∀ i x, vs[i]? = some x → v i = x) : ∀ n, n ≤ rs.length → Paired R (given n f v) ((rs.take n).filter p)
  | 0, _ => .nil
  | n + 1, h => by
    have hn : n < rs.length := h
    have hl : vs.length = rs.length := Paired.length hR
    have hget : ∀ {vs : List V} {rs : List α} {i : Nat} {x : V} {r : α}, Paired R vs rs → vs[i]? = some x → rs[i]? = some r → R x r := fun {vs rs i x r} h => by
      induction h generalizing i with
      | nil => intro h1; simp at h1
      | cons a t ih =>
        intro h1 h2
        cases i with
        | zero =>
          cases h1
          cases h2
          exact a
        | succ i => exact ih (by simpa using h1) (by simpa using h2)
    have gv := List.getElem?_eq_getElem (show n < vs.length by omega)
    have gr := List.getElem?_eq_getElem hn
    have hX := hget hR gv gr
    have ih := given_rel hR hf hv n (by omega)
    have e1 : f n = p rs[n] := hf n _ gr
    rw [List.take_add_one, gr, List.filter_append]
    cases hp : p rs[n] with
    | true =>
      rw [given_yes (by rw [e1, hp]), hv n _ gv]
      refine paired_app ih ?_
      rw [show (some rs[n]).toList = [rs[n]] from rfl, List.filter_cons, if_pos hp]
      exact .cons hX .nil
    | false =>
      rw [given_no (by rw [e1, hp])]
      rw [show (some rs[n]).toList = [rs[n]] from rfl, List.filter_cons, if_neg (by rw [hp]; decide)]
      show Paired R _ (_ ++ [])
      rw [List.append_nil]
      exact ih
section
variable {K : PySem.W.Frag} {σ : L2.St} {H H' : Hp} {ta tb te tr tw tl : TE} {t : TT}
/-- a comprehension over a tuple -/
theorem el_lcT {a : Addr} {xs : List V} {tl : TE} {j : Nat} {vs : List Nat} (f : Nat → Bool) (v : Nat → V) (h : Ev tl σ H (.ref a)) (hx : SqT K H a xs) (hz : xs.length ≤ 40000) (hw : ∀ x, wipe ((wipe σ vs).set j (some x)) vs = wipe σ vs)
    (ht : ∀ (i : Nat) (x : V) H1, Ex H H1 → xs[i]? = some x → EvT t ((wipe σ vs).set j (some x)) H1 (f i)) (he : ∀ (i : Nat) (x : V) H1, Ex H H1 → xs[i]? = some x → f i = true → Ev te ((wipe σ vs).set j (some x)) H1 (v i)) :
    EvL (tLc (iTup K tl) (gName j) t te vs) σ H (given xs.length f v) := fun H0 e Q q => h H0 e _ fun H1 e1 => ⟨a, rfl, ⟨xs, ex_t (e.trans e1) hx⟩, fun Dl hD =>
  lc_tup (xs := xs) (Cw H1 f v Dl) ⟨hD, Ex.new hD, upd_same⟩ (fun i H' _ p => ex_t ((e.trans e1).trans p.2.1) hx) (fun i x H' hi p => ⟨hw x, cw_turn p (by have := (List.getElem?_eq_some_iff.mp hi).1; omega) (ht i x H1 (e.trans e1) hi) (fun hf => he i x H1 (e.trans e1) hi hf)⟩)
    (fun H' p => q Dl H' (fresh_back e1 p.1) (e1.trans p.2.1) p.2.2)⟩
theorem epl_filterT (p : Ent → Bool) {a : Addr} {vs : List V} {es : List Ent} {j : Nat} {ws : List Nat} (h : Ev tl σ H (.ref a)) (hx : SqT K H a vs) (hR : Ents H vs es) (hz : vs.length ≤ 40000) (hw : ∀ x, wipe ((wipe σ ws).set j (some x)) ws = wipe σ ws)
    (ht : ∀ x e H1, Ex H H1 → IsEnt H1 x e → EvT t ((wipe σ ws).set j (some x)) H1 (p e)) (hj : ∀ x, ((wipe σ ws).set j (some x))[j]? = some (some x)) :
    EvPL (tLc (iTup K tl) (gName j) t (tVar j) ws) σ H (fun us H2 => Ents H2 us (es.filter p)) := fun H1 e Q q => by
  have hl := hR.len
  have hev := el_lcT (K := K) (te := tVar j) (fun i => p (es.getD i ⟨"", "", 0, "", false⟩)) (fun i => vs.getD i .non) h hx hz hw (fun i x H3 e3 hi => by
    obtain ⟨r, hr, hX⟩ := hR.at hi
    rw [List.getD_eq_getElem?_getD, hr]
    exact ht x r H3 e3 (hX.up e3)) (fun i x H3 e3 hi _ => by
    rw [List.getD_eq_getElem?_getD, hi]
    exact ev_var (hj x))
  have hg := given_rel (f := fun i => p (es.getD i ⟨"", "", 0, "", false⟩)) (v := fun i => vs.getD i .non) (p := p) hR (fun i r hr => by rw [List.getD_eq_getElem?_getD, hr]; rfl) (fun i x hx => by rw [List.getD_eq_getElem?_getD, hx]; rfl) es.length (Nat.le_refl _)
  rw [List.take_length, ← hl] at hg
  exact hev H1 e Q fun pp H2 hp e2 hq => q pp _ H2 hp e2 hq (Ents.up (e.trans e2) hg)
theorem epl_filterE (p : Ent → Bool) {a : Addr} {vs : List V} {es : List Ent} {j : Nat} {ws : List Nat} (h : Ev tl σ H (.ref a)) (hx : SqL K H a vs) (hR : Ents H vs es) (hz : vs.length ≤ 40000) (hw : ∀ x, wipe ((wipe σ ws).set j (some x)) ws = wipe σ ws)
    (ht : ∀ x e H1, Ex H H1 → IsEnt H1 x e → EvT t ((wipe σ ws).set j (some x)) H1 (p e)) (hj : ∀ x, ((wipe σ ws).set j (some x))[j]? = some (some x)) :
    EvPL (tLc (iList K tl) (gName j) t (tVar j) ws) σ H (fun us H2 => Ents H2 us (es.filter p)) := fun H1 e Q q => by
  have hl := hR.len
  have hev := el_lcL (K := K) (te := tVar j) (fun i => p (es.getD i ⟨"", "", 0, "", false⟩)) (fun i => vs.getD i .non) h hx hz hw (fun i x H3 e3 hi => by
    obtain ⟨r, hr, hX⟩ := hR.at hi
    rw [List.getD_eq_getElem?_getD, hr]
    exact ht x r H3 e3 (hX.up e3)) (fun i x H3 e3 hi _ => by
    rw [List.getD_eq_getElem?_getD, hi]
    exact ev_var (hj x))
  have hg := given_rel (f := fun i => p (es.getD i ⟨"", "", 0, "", false⟩)) (v := fun i => vs.getD i .non) (p := p) hR (fun i r hr => by rw [List.getD_eq_getElem?_getD, hr]; rfl) (fun i x hx => by rw [List.getD_eq_getElem?_getD, hx]; rfl) es.length (Nat.le_refl _)
  rw [List.take_length, ← hl] at hg
  exact hev H1 e Q fun pp H2 hp e2 hq => q pp _ H2 hp e2 hq (Ents.up (e.trans e2) hg)
/-- [e.s for e if p] -/
theorem el_mapT (p : Ent → Bool) (g : Ent → Str) {a : Addr} {vs : List V} {es : List Ent} {j : Nat} {ws : List Nat} (h : Ev tl σ H (.ref a)) (hx : SqT K H a vs) (hR : Ents H vs es) (hz : vs.length ≤ 40000) (hw : ∀ x, wipe ((wipe σ ws).set j (some x)) ws = wipe σ ws)
    (ht : ∀ x e H1, Ex H H1 → IsEnt H1 x e → EvT t ((wipe σ ws).set j (some x)) H1 (p e)) (hg : ∀ x e H1, Ex H H1 → IsEnt H1 x e → Ev te ((wipe σ ws).set j (some x)) H1 (.str (g e))) :
    EvL (tLc (iTup K tl) (gName j) t te ws) σ H (((es.filter p).map g).map V.str) := by
  have hl := hR.len
  have hev := el_lcT (K := K) (te := te) (fun i => p (es.getD i ⟨"", "", 0, "", false⟩)) (fun i => .str (g (es.getD i ⟨"", "", 0, "", false⟩))) h hx hz hw (fun i x H3 e3 hi => by
    obtain ⟨r, hr, hX⟩ := hR.at hi
    rw [List.getD_eq_getElem?_getD, hr]
    exact ht x r H3 e3 (hX.up e3)) (fun i x H3 e3 hi _ => by
    obtain ⟨r, hr, hX⟩ := hR.at hi
    rw [List.getD_eq_getElem?_getD, hr]
    exact hg x r H3 e3 (hX.up e3))
  have e : given vs.length (fun i => p (es.getD i ⟨"", "", 0, "", false⟩)) (fun i => V.str (g (es.getD i ⟨"", "", 0, "", false⟩))) = ((es.filter p).map g).map V.str := by
    rw [hl]
    have key : ∀ n, n ≤ es.length → given n (fun i => p (es.getD i ⟨"", "", 0, "", false⟩)) (fun i => V.str (g (es.getD i ⟨"", "", 0, "", false⟩))) = (((es.take n).filter p).map g).map V.str := fun n => by
      induction n with
      | zero => intro _; rfl
      | succ n ih =>
        intro hn
        have hlt : n < es.length := hn
        have hgn := List.getElem?_eq_getElem hlt
        have hd : es.getD n ⟨"", "", 0, "", false⟩ = es[n] := by rw [List.getD_eq_getElem?_getD, hgn]; rfl
        rw [List.take_add_one, hgn, List.filter_append, List.map_append, List.map_append, ← ih (by omega)]
        cases hp : p es[n] with
        | true =>
          rw [given_yes (by rw [hd, hp])]
          rw [show (some es[n]).toList = [es[n]] from rfl, List.filter_cons, if_pos hp]
          rw [hd]
          rfl
        | false =>
          rw [given_no (by rw [hd, hp])]
          rw [show (some es[n]).toList = [es[n]] from rfl, List.filter_cons, if_neg (by rw [hp]; decide)]
          show _ = _ ++ []
          rw [List.append_nil]
    have := key es.length (Nat.le_refl _)
    rw [List.take_length] at this
    exact this
  rw [← e]
  exact hev
end
def ent0 : Ent := ⟨"", "", 0, "", false⟩
section
variable {K : PySem.W.Frag} {σ : L2.St} {H H' : Hp} {ta tb te tl tm : TE} {t : TT}
theorem ev_isi {ta : TA} {x : V} {m n : String} {b : Bool} (h : EvA ta σ H [x, .ty n]) (ty : TyX K H x (.type m)) (up : ∀ H1, Ex H H1 → TyX K H1 x (.type m)) (k : kitB m n = some b) : Ev (tCB (rIsi K) ta) σ H (.bl b) :=
  ev_cb h fun H1 e Q q => ⟨x, .ty n, .type m, .type n, b, rfl, ClsV.ty n, up H1 e, kit_ty k, q H1 (Ex.refl H1)⟩
theorem ev_isiI {ta : TA} {i : Int} {n : String} {b : Bool} (h : EvA ta σ H [.int i, .ty n]) (k : kitB "int" n = some b) : Ev (tCB (rIsi K) ta) σ H (.bl b) :=
  ev_isi h (.base (.int i)) (fun _ _ => .base (.int i)) k
theorem ev_isiS {ta : TA} {x : Str} {n : String} {b : Bool} (h : EvA ta σ H [.str x, .ty n]) (k : kitB "str" n = some b) : Ev (tCB (rIsi K) ta) σ H (.bl b) :=
  ev_isi h (.base (.str x)) (fun _ _ => .base (.str x)) k
theorem ev_isiB {ta : TA} {x : Bool} {n : String} {b : Bool} (h : EvA ta σ H [.bl x, .ty n]) (k : kitB "bool" n = some b) : Ev (tCB (rIsi K) ta) σ H (.bl b) :=
  ev_isi h (.base (.bl x)) (fun _ _ => .base (.bl x)) k
theorem ev_isiL {ta : TA} {p : Addr} {xs : List V} {n : String} {b : Bool} (h : EvA ta σ H [.ref p, .ty n]) (hp : H p = some (.lst xs)) (k : kitB "list" n = some b) : Ev (tCB (rIsi K) ta) σ H (.bl b) :=
  ev_isi h (.base (.lst hp)) (fun _ e => .base (.lst (e _ _ hp))) k
theorem ev_isiT {ta : TA} {p : Addr} {xs : List V} {n : String} {b : Bool} (h : EvA ta σ H [.ref p, .ty n]) (hp : H p = some (.tup xs)) (k : kitB "tuple" n = some b) : Ev (tCB (rIsi K) ta) σ H (.bl b) :=
  ev_isi h (.base (.tup hp)) (fun _ e => .base (.tup (e _ _ hp))) k
theorem ev_all {bs : List Bool} (h : EvL ta σ H (bs.map V.bl)) : Ev (tCB (rAll K) (tCons ta tNil)) σ H (.bl (bs.all id)) := fun H1 e Q q =>
  h H1 e _ fun p H2 _ e2 h2 => ⟨p, bs, rfl, sq_of h2, q H2 e2⟩
theorem ev_eqD {x y : V} {d e : PyData} (ha : Ev ta σ H x) (hb : Ev tb σ H y) (dx : ∀ H1, Ex H H1 → Dp K H1 x d) (dy : ∀ H1, Ex H H1 → Dp K H1 y e) (s1 : SeqAt.shaped d = true) (s2 : SeqAt.shaped e = true) : Ev (tOp (rEqD K) ta tb) σ H (.bl (PyData.eqv d e)) :=
  ev_op ha hb (rv_val fun H1 e1 Q q => ⟨d, e, dx H1 e1, dy H1 e1, s1, s2, q⟩)
theorem ev_neD {x y : V} {d e : PyData} (ha : Ev ta σ H x) (hb : Ev tb σ H y) (dx : ∀ H1, Ex H H1 → Dp K H1 x d) (dy : ∀ H1, Ex H H1 → Dp K H1 y e) (s1 : SeqAt.shaped d = true) (s2 : SeqAt.shaped e = true) : Ev (tOp (rNeD K) ta tb) σ H (.bl (!PyData.eqv d e)) :=
  ev_op ha hb (rv_val fun H1 e1 Q q => ⟨d, e, dx H1 e1, dy H1 e1, s1, s2, q⟩)
theorem dp_listI {p : Addr} {ns : List Int} (h : SqL K H p (ns.map V.int)) : Dp K H (.ref p) (.list (ns.map PyData.int)) := .lst h (dp_ints ns)
theorem eqv_ints (ns : List Int) : PyData.eqv (.list (ns.map PyData.int)) (.list (ns.map PyData.int)) = true :=
  SeqAt.eqv_refl _ (SeqAt.canLay_of_shaped (PySem.W.ke_shaped_ints ns))
theorem given_rep (n : Nat) (v : V) : given n (fun _ => true) (fun _ => v) = List.replicate n v := by
  rw [given_all]
  refine List.ext_getElem? fun i => ?_
  rw [List.getElem?_map, List.getElem?_replicate]
  by_cases h : i < n
  · rw [List.getElem?_range h, if_pos h]; rfl
  · rw [if_neg h, List.getElem?_eq_none (by rw [List.length_range]; omega)]; rfl
theorem rep_all : ∀ n, (List.replicate n true).all id = true
  | 0 => rfl
  | n + 1 => by rw [List.replicate_succ, List.all_cons, rep_all n]; rfl
theorem el_lcZ {a b : Addr} {xs ys : List V} {j k : Nat} {ws : List Nat} (v : V) (hxy : xs.length = ys.length) (h : Ev tl σ H (.ref a)) (h2 : Ev tm σ H (.ref b)) (hx : SqL K H a xs) (hy : SqL K H b ys) (hz : xs.length ≤ 40000)
    (hw : ∀ x y, wipe (((wipe σ ws).set j (some x)).set k (some y)) ws = wipe σ ws) (he : ∀ (i : Nat) x y H1, Ex H H1 → xs[i]? = some x → ys[i]? = some y → Ev te (((wipe σ ws).set j (some x)).set k (some y)) H1 v) :
    EvL (tLc (iZip K (tCons tl (tCons tm tNil))) (gTup K 2 (gCons (gName j) (gCons (gName k) gNil))) tYes te ws) σ H (List.replicate xs.length v) := fun H0 e Q q =>
  h H0 e _ fun H1 e1 => h2 H1 (e.trans e1) _ fun H2 e2 => ⟨a, b, xs, ys, rfl, ex_l ((e.trans e1).trans e2) hx, ex_l ((e.trans e1).trans e2) hy, fun Dl hD =>
    lc_it (walk_zip (K := K) (n := xs.length) (by omega)) (fun i H' => H2 Dl = none ∧ Ex H2 H' ∧ H' Dl = some (.lst (List.replicate i v))) ⟨hD, Ex.new hD, upd_same⟩ (fun i H' _ p => ⟨ex_l (((e.trans e1).trans e2).trans p.2.1) hx, ex_l (((e.trans e1).trans e2).trans p.2.1) hy⟩)
      (fun i z H' H3 hi p y => by
        obtain ⟨T, x1, x2, rfl, hT, rfl, g1, g2⟩ := y
        obtain ⟨p1, p2, p3⟩ := p
        have eT : Ex H' (upd H' T (.tup [x1, x2])) := Ex.new hT
        refine ⟨T, [x1, x2], rfl, SqT.of upd_same, rfl, _, _, rfl, _, _, rfl, rfl, hw x1 x2, ?_⟩
        show te _ _ _
        refine he i x1 x2 _ ((((e.trans e1).trans e2).trans p2).trans eT) g1 g2 _ (Ex.refl _) _ fun H4 e4 => ⟨List.replicate i v, e4 _ _ (eT _ _ p3), sz_lt (by rw [List.length_replicate]; omega), p1, Ex.mut ((p2.trans eT).trans e4) p1, ?_⟩
        rw [upd_same, List.replicate_succ']) (fun H' p => q Dl H' (fresh_back (e1.trans e2) p.1) ((e1.trans e2).trans p.2.1) p.2.2)⟩
end
theorem cut_take (xs : List V) (n : Nat) : cutV xs none (some (n : Int)) = xs.take n := by
  unfold cutV
  rw [HT.sIx_none, HT.sIx_nat, List.drop_zero, Nat.sub_zero]
  by_cases h : n ≤ xs.length
  · rw [Nat.min_eq_left h]
  · rw [Nat.min_eq_right (by omega), List.take_of_length_le (Nat.le_refl _), List.take_of_length_le (by omega)]
theorem ents_take {H : Hp} : ∀ {vs : List V} {rs : List Ent} (n : Nat), Ents H vs rs → Ents H (vs.take n) (rs.take n)
  | _, _, 0, _ => .nil
  | _, _, _ + 1, .nil => .nil
  | _, _, n + 1, .cons r t => .cons r (ents_take n t)
theorem any_range_succ (n : Nat) (f : Nat → Bool) : (List.range (n + 1)).any f = ((List.range n).any f || f n) := by
  rw [List.range_succ, List.any_append]
  simp
section
variable {K : PySem.W.Frag}
theorem ev_e0 {i : Nat} {x : V} {e : Ent} {σ : L2.St} {H : Hp} (h : σ[i]? = some (some x)) (hx : IsEnt H x e) : Ev (tOp (rIxT K) (tVar i) (tC (.int 0))) σ H (.str e.w) := by
  obtain ⟨p, rfl, hp⟩ := hx
  exact ev_ixT (ev_var h) (st_of hp) ev_c rfl
theorem ev_e1 {i : Nat} {x : V} {e : Ent} {σ : L2.St} {H : Hp} (h : σ[i]? = some (some x)) (hx : IsEnt H x e) : Ev (tOp (rIxT K) (tVar i) (tC (.int 1))) σ H (.str e.k) := by
  obtain ⟨p, rfl, hp⟩ := hx
  exact ev_ixT (ev_var h) (st_of hp) ev_c rfl
theorem ev_e2 {i : Nat} {x : V} {e : Ent} {σ : L2.St} {H : Hp} (h : σ[i]? = some (some x)) (hx : IsEnt H x e) : Ev (tOp (rIxT K) (tVar i) (tC (.int 2))) σ H (.int e.t) := by
  obtain ⟨p, rfl, hp⟩ := hx
  exact ev_ixT (ev_var h) (st_of hp) ev_c rfl
theorem ev_e3 {i : Nat} {x : V} {e : Ent} {σ : L2.St} {H : Hp} (h : σ[i]? = some (some x)) (hx : IsEnt H x e) : Ev (tOp (rIxT K) (tVar i) (tC (.int 3))) σ H (.str e.s) := by
  obtain ⟨p, rfl, hp⟩ := hx
  exact ev_ixT (ev_var h) (st_of hp) ev_c rfl
theorem ev_e4 {i : Nat} {x : V} {e : Ent} {σ : L2.St} {H : Hp} (h : σ[i]? = some (some x)) (hx : IsEnt H x e) : Ev (tOp (rIxT K) (tVar i) (tC (.int 4))) σ H (.bl e.o) := by
  obtain ⟨p, rfl, hp⟩ := hx
  exact ev_ixT (ev_var h) (st_of hp) ev_c rfl
theorem dec_str (a b : Str) : decide (V.str a = V.str b) = decide (a = b) := by
  by_cases h : a = b
  · rw [h, decide_eq_true rfl, decide_eq_true rfl]
  · rw [decide_eq_false h, decide_eq_false (fun z => h (V.str.inj z))]
theorem el_mapL (g : Ent → Str) {tl te : TE} {σ : L2.St} {H : Hp} {a : Addr} {vs : List V} {es : List Ent} {j : Nat} {ws : List Nat} (h : Ev tl σ H (.ref a)) (hx : SqL K H a vs) (hR : Ents H vs es) (hz : vs.length ≤ 40000) (hw : ∀ x, wipe ((wipe σ ws).set j (some x)) ws = wipe σ ws)
    (hg : ∀ x e H1, Ex H H1 → IsEnt H1 x e → Ev te ((wipe σ ws).set j (some x)) H1 (.str (g e))) : EvL (tLc (iList K tl) (gName j) tYes te ws) σ H ((es.map g).map V.str) := by
  have hl := hR.len
  have hev := el_lcL (K := K) (te := te) (t := tYes) (fun _ => true) (fun i => .str (g (es.getD i ent0))) h hx hz hw (fun i x H3 e3 hi => et_yes) (fun i x H3 e3 hi _ => by
    obtain ⟨r, hr, hX⟩ := hR.at hi
    rw [List.getD_eq_getElem?_getD, hr]
    exact hg x r H3 e3 (hX.up e3))
  have e : given vs.length (fun _ => true) (fun i => V.str (g (es.getD i ent0))) = (es.map g).map V.str := by
    rw [hl, given_all]
    refine List.ext_getElem? fun i => ?_
    by_cases hi : i < es.length
    · rw [List.getElem?_map, List.getElem?_range hi, List.getElem?_map, List.getElem?_map, List.getElem?_eq_getElem hi]
      show some (V.str (g (es.getD i ent0))) = some (V.str (g es[i]))
      rw [List.getD_eq_getElem?_getD, List.getElem?_eq_getElem hi]
      rfl
    · rw [List.getElem?_eq_none (by rw [List.length_map, List.length_range]; omega), List.getElem?_eq_none (by rw [List.length_map, List.length_map]; omega)]
  rw [← e]
  exact hev
theorem s_forNLn {D : Ends} {σ : L2.St} {H : Hp} {tu : TS} {xs : List V} {tl : TE} {j : Nat} (h : EvL tl σ H xs) (Pv : Addr → Nat → L2.St → Hp → Prop) (h0 : ∀ p H1, H p = none → Ex H H1 → H1 p = some (.lst xs) → Pv p 0 σ H1) (hl : ∀ p i σ' H', i ≤ xs.length → Pv p i σ' H' → SqL K H' p xs)
    (hs : ∀ p (i : Nat) x σ' H', xs[i]? = some x → Pv p i σ' H' → tu { D with nx := Pv p (i + 1), ct := Pv p (i + 1), bk := D.nx } (σ'.set j (some x)) H') (hd : ∀ p σ' H', Pv p xs.length σ' H' → D.nx σ' H') : tFor (iList K tl) (gName j) tu D σ H :=
  s_forNL h Pv h0 hl hs hd
end
section
variable {K : PySem.W.Frag} {σ : L2.St} {H H' : Hp} {ta tb te tr tw tt : TE} {es fs : List Ent} {e : Ent}
theorem ev_lenT {p : Addr} {xs : List V} (ha : Ev ta σ H (.ref p)) (h : SqT K H p xs) : Ev (tCB (rLenS K) (tCons ta tNil)) σ H (.int (xs.length : Int)) := fun H1 e Q q =>
  ha H1 e _ fun H2 e2 => ⟨p, xs, rfl, Or.inr (ex_t (e.trans e2) h), q H2 e2⟩
theorem ep_ent5 {ta : TA} {w k s : Str} {t : Int} {o : Bool} (h : EvA ta σ H [.str w, .str k, .int t, .str s, .bl o]) : EvP (tTup ta) σ H (fun v H2 => IsEnt H2 v ⟨w, k, t, s, o⟩) := fun H1 e Q q =>
  (eu_tup h (Nat.le_of_ble_eq_true rfl)) H1 e Q fun p H2 _ e2 h2 => q _ H2 e2 ⟨p, rfl, h2⟩
theorem ep_held_ev {v : V} (h : Ev te σ H v) (hr : AHeld es v H) : EvP te σ H (AHeld es) := fun H1 x Q q => h H1 x Q fun H2 e2 => q v H2 e2 (hr.up (x.trans e2))
theorem ep_dropT {te : TE} {th : TO} (h : EvP te σ H (AHeld es)) (h2 : EvO th σ H (some (-1))) : EvP (tSl (rSlA K) te tNoPart th) σ H (AHeld es.dropLast) := fun H1 e _ q =>
  h H1 e _ fun v H2 e2 hv => h2 H2 (e.trans e2) _ fun H4 e4 => by
    obtain ⟨p, vs, rfl, g1, g2⟩ := hv
    have hd : cutV vs none (some (-1)) = vs.dropLast := by
      unfold cutV
      rw [HT.sIx_none, List.drop_zero, Nat.sub_zero, List.dropLast_eq_take]
      congr 1
      show (if (-1 : Int) < 0 then ((-1 : Int) + (vs.length : Int)).toNat else min (-1 : Int).toNat vs.length) = _
      rw [if_pos (by omega)]
      omega
    refine ⟨p, vs, rfl, st_of (e4 _ _ g1), fun z => ?_, fun z r hr => ?_⟩
    · have hlen : vs.length = 0 := by
        have h3 := z.2
        have h4 : HT.sIx vs.length vs.length (some (-1)) = ((-1 : Int) + (vs.length : Int)).toNat := by
          show (if (-1 : Int) < 0 then ((-1 : Int) + (vs.length : Int)).toNat else min (-1 : Int).toNat vs.length) = _
          rw [if_pos (by omega)]
        rw [h4] at h3
        omega
      have hv0 : vs = [] := List.length_eq_zero_iff.mp hlen
      subst hv0
      cases g2
      exact q _ _ (e2.trans e4) ⟨p, [], rfl, e4 _ _ g1, .nil⟩
    · rw [hd]
      exact q _ _ ((e2.trans e4).trans (Ex.new hr)) ⟨r, _, rfl, upd_same, (g2.dropLast.up e4).up (Ex.new hr)⟩
end
end BD
namespace BD
open PySem PySem.Spec PyProof.Rows L2 Evl
local macro_rules | `(tactic| walk_at "ev") => `(tactic| first
  | ((with_reducible apply ev_var) ; rfl)
  | with_reducible exact ev_c
  | ((with_reducible apply ev_I0) <;> walk_at "ev")
  | ((with_reducible apply ev_e9) <;> walk_at "ev")
  | ((with_reducible apply ev_I) <;> walk_at "ev")
  | ((with_reducible apply ev_eq) <;> walk_at "ev")
  | ((with_reducible apply ev_ne) <;> walk_at "ev")
  | ((with_reducible apply ev_neg) <;> walk_at "ev")
  | ((with_reducible apply ev_ixN) <;> walk_at "ev")
  | ((with_reducible apply ev_ixL) <;> walk_at "ev")
  | ((with_reducible apply ev_inN) <;> walk_at "ev")
  | ((with_reducible apply ev_inT) <;> walk_at "ev")
  | ((with_reducible apply ev_ixT) <;> walk_at "ev")
  | ((with_reducible apply ev_ixS) <;> walk_at "ev")
  | ((with_reducible apply ev_len') <;> walk_at "ev")
  | ((with_reducible apply et_test) <;> walk_at "ev")
  | ((with_reducible apply et_and) <;> walk_at "ev")
  | ((with_reducible apply et_or) <;> walk_at "ev")
  | ((with_reducible apply et_not) <;> walk_at "ev")
  | ((with_reducible apply et_B) <;> walk_at "ev")
  | ((with_reducible apply el_lst) <;> walk_at "ev")
  | ((with_reducible apply eu_tup) <;> walk_at "ev")
  | ((with_reducible apply ea_cons) <;> walk_at "ev")
  | with_reducible exact ea_nil
  | with_reducible assumption
  | ((with_reducible apply ex_l' ; assumption) ; walk_at "ex")
  | ((with_reducible apply ex_t' ; assumption) ; walk_at "ex")
  | (intro _ ; walk_at "ev")
  | (with_reducible first | exact atI_hd | exact at_kind | exact at2s | exact at3s | exact at3i)
  | (first | exact rfl | exact Nat.le_of_ble_eq_true rfl | exact ⟨by decide, by decide⟩ | decide | exact Or.inl ⟨by omega, by omega⟩ | exact Or.inr ⟨by omega, by omega⟩ | omega)
  | skip)
local macro_rules | `(tactic| walk_at "ex") => `(tactic| first
  | assumption
  | exact Ex.refl _
  | (refine' Ex.trans ?_ (by assumption) ; walk_at "ex"))
local macro_rules | `(tactic| walk_at "row") => `(tactic| first
  | (with_reducible exact er_nil)
  | ((with_reducible apply er_cons) <;> walk_at "row")
  | (((with_reducible apply er_var) ; rfl) ; walk_at "isrow")
  | (((with_reducible apply elr_var) ; rfl) ; walk_at "isrow")
  | ((with_reducible apply elr_cat) <;> walk_at "row")
  | ((with_reducible apply elr_lst) <;> walk_at "row")
  | ((with_reducible apply er_fin) <;> walk_at "ev")
  | ((with_reducible apply er_lendT) <;> walk_at "ev")
  | ((with_reducible apply er_lendW) <;> walk_at "ev")
  | ((with_reducible apply er_pick) <;> walk_at "ev")
  | ((with_reducible apply er_either) <;> walk_at "ev")
  | ((with_reducible apply er_or) <;> walk_at "ev")
  | ((with_reducible apply er_again) <;> walk_at "ev")
  | ((with_reducible apply er_back) <;> walk_at "ev")
  | ((with_reducible apply er_look) <;> walk_at "ev")
  | ((with_reducible apply er_change) <;> walk_at "ev")
  | exact Nat.le_of_ble_eq_true rfl
  | skip)
local macro_rules | `(tactic| walk_at "isrow") => `(tactic| first
  | assumption
  | (refine IsRow.up ?_ (by assumption) ; walk_at "ex")
  | (refine LRows.up ?_ (by assumption) ; walk_at "ex"))

abbrev s_l_lent : Stmt := topS 30
theorem sc_l_lent : FnScope ["_law_held", "_law_row_here", "_law_thing_here", "_law_source", "_law_out", "_law_one"] ["_law_held", "_law_row_here"] (defScope s_l_lent) := ⟨rfl, rfl, rfl, by decide +kernel, rfl, by decide +kernel, by decide +kernel⟩
def lookE (es : List Ent) (w : Str) : Option Ent := es.find? fun e => decide (e.w = w)
def lentS (s : Src) (es : List Ent) : V × Str × Bool := match s with
  | .thing n => (.int n, "", true)
  | .word w => match lookE es w with
    | some e => (.int e.t, if e.k = "pick" then "" else e.w, e.o)
    | none => (.str w, "", true)
def lentE (es : List Ent) (h k : Str) (s : Src) : Ent := match s with
  | .thing n => ⟨h, k, n, "", true⟩
  | .word w => match lookE es w with
    | some e => ⟨h, k, e.t, if e.k = "pick" then "" else e.w, e.o⟩
    | none => ⟨h, k, 0, "", true⟩
theorem look_app (es fs : List Ent) (w : Str) : lookE (es ++ fs) w = match lookE es w with
    | some e => some e
    | none => lookE fs w := by
  unfold lookE
  rw [List.find?_append]
  cases es.find? fun e => decide (e.w = w) <;> rfl
theorem look_none {es : List Ent} {w : Str} (h : ∀ e ∈ es, e.w ≠ w) : lookE es w = none :=
  List.find?_eq_none.mpr fun e he => by
    rw [decide_eq_false (h e he)]
    decide
theorem look_some {es : List Ent} {w : Str} (h : ∃ e ∈ es, e.w = w) : ∃ e, lookE es w = some e ∧ e ∈ es ∧ e.w = w := by
  cases hl : lookE es w with
  | none =>
    obtain ⟨e, he, hw⟩ := h
    have := List.find?_eq_none.mp hl e he
    rw [decide_eq_true hw] at this
    exact absurd rfl this
  | some e => exact ⟨e, rfl, List.mem_of_find?_eq_some hl, of_decide_eq_true (List.find?_some (p := fun e : Ent => decide (e.w = w)) hl)⟩
section
variable {P : Program} {w : World} {K : PySem.W.Frag} {mg : Str → Option Value} {base : Heap}
def spLent (K : PySem.W.Frag) : Sp := fun vs H Q _ => ∃ (x y : V) (es : List Ent) (h k : Str) (s : Src), vs = [x, y] ∧ AHeld es x H ∧ IsRow H y (.lend h k s) ∧ (es.map Ent.w).Nodup ∧ (∀ u, s = .word u → ∃ e ∈ es, e.w = u) ∧ es.length ≤ 1000 ∧ Ret (AHeld (es ++ [lentE es h k s])) H Q
theorem ok_lent (D : Dn K mg "_law_lent" s_l_lent ["_law_held", "_law_row_here"]) : Has P w K mg base "_law_lent" 1 ["_law_held", "_law_row_here"] (spLent K) := by
  refine D.ok sc_l_lent (fun vs H Q E h => ?_) (fun f cdv A outer st H vs Q E hr h => ?_)
  · obtain ⟨x, y, es, h, k, s, rfl, _⟩ := h
    rfl
  · obtain ⟨x, y, es, h, k, s, rfl, hx, hy, hnd, hmt, hlen, q⟩ := h
    obtain ⟨p, hv, rfl, hp, hE⟩ := hx
    obtain ⟨py, rfl, hpy⟩ := hy
    have hPy : SqT K H py [.str "lend", .str h, .str k, s.v] := st_of hpy
    have hle := hE.len
    refine ⟨_, (pss_cons (ps_set (i := 2) sc_l_lent.nd rfl (Or.inl rfl) (pe_ix (show IxR _ (rIxT K) from ix_tup) (pv 1) pe_int (fun _ _ => rfl))) (pss_cons (ps_set (i := 3) sc_l_lent.nd rfl (Or.inl rfl) pe_str) (pss_cons (ps_set (i := 4) sc_l_lent.nd rfl (Or.inl rfl) pe_bl) (pss_cons (ps_for PassesOwn.never rfl (pi_tup (pv 0)) (pg_name (i := 5) sc_l_lent.nd rfl (Or.inl rfl)) (pss_one (ps_if (pt_cmpR op_eq (pe_ix (show IxR _ (rIxT K) from ix_tup) (pv 5) pe_int (fun _ _ => rfl)) (pe_ix (show IxR _ (rIxT K) from ix_tup) (pv 1) pe_int (fun _ _ => rfl)) (nomark _)) (pss_cons (ps_set (i := 2) sc_l_lent.nd rfl (Or.inl rfl) (pe_ix (show IxR _ (rIxT K) from ix_tup) (pv 5) pe_int (fun _ _ => rfl))) (pss_cons (ps_set (i := 4) sc_l_lent.nd rfl (Or.inl rfl) (pe_ix (show IxR _ (rIxT K) from ix_tup) (pv 5) pe_int (fun _ _ => rfl))) (pss_one (ps_if (pt_cmpR op_ne (pe_ix (show IxR _ (rIxT K) from ix_tup) (pv 5) pe_int (fun _ _ => rfl)) pe_str (nomark _)) (pss_one (ps_set (i := 3) sc_l_lent.nd rfl (Or.inl rfl) (pe_ix (show IxR _ (rIxT K) from ix_tup) (pv 5) pe_int (fun _ _ => rfl)))) pss_nil)))) pss_nil))) (pss_one (ps_ret (pe_op op_catA (pv 0) (pe_tup (pa_cons (pe_tup (pa_cons (pe_ix (show IxR _ (rIxT K) from ix_tup) (pv 1) pe_int (fun _ _ => rfl)) (pa_cons (pe_ix (show IxR _ (rIxT K) from ix_tup) (pv 1) pe_int (fun _ _ => rfl)) (pa_cons (pv 2) (pa_cons (pv 3) (pa_cons (pv 4) pa_nil)))))) pa_nil))))))))), ?_⟩
    show (_ : L2.TS) _ [_, _, _, _, _, _] _
    refine' q_asg (v := s.v) ?_ (fun H1 e1 => ?_)
    · walk_at "ev"
    show (_ : L2.TS) _ [_, _, _, _, _, _] _
    refine' q_asg ev_c (fun H2 e2 => ?_)
    show (_ : L2.TS) _ [_, _, _, _, _, _] _
    refine' q_asg ev_c (fun H3 e3 => ?_)
    show (_ : L2.TS) _ [_, _, _, _, _, _] _
    refine q_forT (K := K) (a := p) (xs := hv) (ev_var rfl) (ex_t (by walk_at "ex") (st_of hp)) (fun i σ' H' => Ex H H' ∧ ∃ o, σ' = [some (.ref p), some (.ref py), some (lentS s (es.take i)).1, some (.str (lentS s (es.take i)).2.1), some (.bl (lentS s (es.take i)).2.2), o]) ?_ (fun i σ' H' _ h => ex_t h.1 (st_of hp)) ?_ ?_
    · intro H4 e4
      refine ⟨by walk_at "ex", none, ?_⟩
      cases s <;> rfl
    · rintro i x σ' H' hi ⟨eH, o, rfl⟩
      obtain ⟨e, he, hX⟩ := hE.at hi
      have hil : i < es.length := (List.getElem?_eq_some_iff.mp he).1
      obtain ⟨pe, rfl, hpe⟩ := hX
      have hPe : SqT K H' pe e.vs := ex_t eH (st_of hpe)
      have htk : es.take (i + 1) = es.take i ++ [e] := by
        rw [List.take_add_one, he]
        rfl
      refine s_if (b := decide (V.str e.w = s.v)) ?_ (fun hb H4 e4 => ?_) (fun hb H4 e4 => ?_)
      · refine et_test (ev_eq ?_ ?_ (by cases s <;> rfl))
        · refine ev_ixT (ev_var rfl) hPe ev_c rfl
        · walk_at "ev"
      · have hb := of_decide_eq_true hb
        cases s with
        | thing n => cases hb
        | word u =>
          have hu : e.w = u := V.str.inj hb
          have hno : lookE (es.take i) u = none := look_none fun e' he' z => by
            have hs : es = es.take i ++ (e :: es.drop (i + 1)) := by
              have := List.take_append_drop i es
              rw [← this]
              congr 1
              · rw [List.take_append_drop]
              · rw [List.take_append_drop]
                exact List.drop_eq_getElem_cons hil ▸ by
                  rw [(List.getElem?_eq_some_iff.mp he).2]
            rw [hs, List.map_append, List.map_cons] at hnd
            have := (List.nodup_append.mp hnd).2.2 e'.w (List.mem_map.mpr ⟨e', he', rfl⟩) e.w List.mem_cons_self
            exact this (z.trans hu.symm)
          have hyes : lookE (es.take (i + 1)) u = some e := by
            rw [htk, look_app, hno]
            unfold lookE
            rw [List.find?_cons, decide_eq_true hu]
          have es1 : lentS (.word u) (es.take (i + 1)) = ((V.int e.t, if e.k = "pick" then ("" : Str) else e.w, e.o) : V × Str × Bool) := by
            unfold lentS
            dsimp only
            rw [hyes]
          have es0 : lentS (.word u) (es.take i) = ((V.str u, "", true) : V × Str × Bool) := by
            unfold lentS
            dsimp only
            rw [hno]
          rw [es0, es1]
          refine q_asg (v := .int e.t) (ev_ixT (ev_var rfl) (ex_t e4 hPe) ev_c rfl) (fun H5 e5 => ?_)
          refine q_asg (v := .bl e.o) (ev_ixT (ev_var rfl) (ex_t e5 (ex_t e4 hPe)) ev_c rfl) (fun H6 e6 => ?_)
          refine s_when (b := !decide (V.str e.k = V.str "pick")) ?_ (fun hk H7 e7 => ?_) (fun hk H7 e7 => ?_)
          · refine et_test (ev_ne ?_ ev_c rfl)
            exact ev_ixT (ev_var rfl) (ex_t e6 (ex_t e5 (ex_t e4 hPe))) ev_c rfl
          · have hk' : ¬ e.k = "pick" := fun z => by
              rw [decide_eq_true (by rw [z])] at hk
              cases hk
            refine s_asg (v := .str e.w) (ev_ixT (ev_var rfl) (ex_t e7 (ex_t e6 (ex_t e5 (ex_t e4 hPe)))) ev_c rfl) (fun H8 e8 => ⟨eH.trans (e4.trans (e5.trans (e6.trans (e7.trans e8)))), some (.ref pe), ?_⟩)
            rw [if_neg hk']
            rfl
          · have hk' : e.k = "pick" := by
              cases hd : decide (V.str e.k = V.str "pick") with
              | true => exact V.str.inj (of_decide_eq_true hd)
              | false => rw [hd] at hk; cases hk
            refine ⟨eH.trans (e4.trans (e5.trans (e6.trans e7))), some (.ref pe), ?_⟩
            rw [if_pos hk']
            rfl
      · have hb := of_decide_eq_false hb
        have hkeep : lentS s (es.take (i + 1)) = lentS s (es.take i) := by
          cases s with
          | thing n => rfl
          | word u =>
            have hu : ¬ e.w = u := fun z => hb (by rw [z]; rfl)
            unfold lentS
            dsimp only
            rw [htk, look_app]
            cases lookE (es.take i) u with
            | some e' => rfl
            | none =>
              dsimp only
              rw [look_none fun e' he' => by
                rcases List.mem_cons.mp he' with z | z
                · rw [z]; exact hu
                · cases z]
        rw [hkeep]
        exact ⟨eH.trans e4, _, rfl⟩
    · rintro σ' H' ⟨eH, o, rfl⟩
      rw [hle, List.take_length]
      have hPy' : SqT K H' py [.str "lend", .str h, .str k, s.v] := ex_t eH hPy
      have hHeld : AHeld es (.ref p) H' := ⟨p, hv, rfl, eH _ _ hp, hE.up eH⟩
      have key : ∃ n : Int, (lentS s es).1 = .int n ∧ lentE es h k s = ⟨h, k, n, (lentS s es).2.1, (lentS s es).2.2⟩ := by
        cases s with
        | thing n => exact ⟨n, rfl, rfl⟩
        | word u =>
          obtain ⟨e, h1, _, _⟩ := look_some (hmt u rfl)
          unfold lentS lentE
          dsimp only
          rw [h1]
          exact ⟨e.t, rfl, rfl⟩
      obtain ⟨n, hn1, hn2⟩ := key
      rw [hn2] at q
      refine s_retP (ep_catT (es := es) (fs := [⟨h, k, n, (lentS s es).2.1, (lentS s es).2.2⟩]) (ep_heldvar rfl hHeld) (ep_one ?_) (by show es.length + 1 ≤ 100000; omega)) (fun v H9 e9 hv => q v H9 (eH.trans e9) hv)
      rw [hn1]
      refine EvP.mono (ep_U (xs := [.str h, .str k, .int n, .str (lentS s es).2.1, .bl (lentS s es).2.2]) ?_) (fun v H2 h => ?_)
      · walk_at "ev"
      · obtain ⟨p', rfl, hp'⟩ := h
        exact ⟨p', rfl, hp'⟩
theorem ep_lent {x y : V} {es : List Ent} {h k : Str} {s : Src} {ta : TA} {σ : L2.St} {H : Hp} {E : XK} (a : EvA ta σ H [x, y]) (hx : AHeld es x H) (hy : IsRow H y (.lend h k s)) (hn : (es.map Ent.w).Nodup) (hm : ∀ u, s = .word u → ∃ e ∈ es, e.w = u) (hl : es.length ≤ 1000) :
    EvP (tCall (spLent K) [] E ta) σ H (AHeld (es ++ [lentE es h k s])) := ep_call a fun H1 e Q q E => ⟨x, y, es, h, k, s, rfl, hx.up e, hy.up e, hn, hm, hl, q⟩
end
end BD
namespace BD
open PySem PySem.Spec PyProof.Rows L2 Evl
local macro_rules | `(tactic| walk_at "ev") => `(tactic| first
  | ((with_reducible apply ev_var) ; rfl)
  | with_reducible exact ev_c
  | ((with_reducible apply ev_I0) <;> walk_at "ev")
  | ((with_reducible apply ev_e9) <;> walk_at "ev")
  | ((with_reducible apply ev_I) <;> walk_at "ev")
  | ((with_reducible apply ev_eq) <;> walk_at "ev")
  | ((with_reducible apply ev_ne) <;> walk_at "ev")
  | ((with_reducible apply ev_neg) <;> walk_at "ev")
  | ((with_reducible apply ev_ixN) <;> walk_at "ev")
  | ((with_reducible apply ev_ixL) <;> walk_at "ev")
  | ((with_reducible apply ev_inN) <;> walk_at "ev")
  | ((with_reducible apply ev_inT) <;> walk_at "ev")
  | ((with_reducible apply ev_ixT) <;> walk_at "ev")
  | ((with_reducible apply ev_ixS) <;> walk_at "ev")
  | ((with_reducible apply ev_len') <;> walk_at "ev")
  | ((with_reducible apply et_test) <;> walk_at "ev")
  | ((with_reducible apply et_and) <;> walk_at "ev")
  | ((with_reducible apply et_or) <;> walk_at "ev")
  | ((with_reducible apply et_not) <;> walk_at "ev")
  | ((with_reducible apply et_B) <;> walk_at "ev")
  | ((with_reducible apply el_lst) <;> walk_at "ev")
  | ((with_reducible apply eu_tup) <;> walk_at "ev")
  | ((with_reducible apply ea_cons) <;> walk_at "ev")
  | with_reducible exact ea_nil
  | with_reducible assumption
  | ((with_reducible apply ex_l' ; assumption) ; walk_at "ex")
  | ((with_reducible apply ex_t' ; assumption) ; walk_at "ex")
  | (intro _ ; walk_at "ev")
  | (with_reducible first | exact atI_hd | exact at_kind | exact at2s | exact at3s | exact at3i)
  | (first | exact rfl | exact Nat.le_of_ble_eq_true rfl | exact ⟨by decide, by decide⟩ | decide | exact Or.inl ⟨by omega, by omega⟩ | exact Or.inr ⟨by omega, by omega⟩ | omega)
  | skip)
local macro_rules | `(tactic| walk_at "ex") => `(tactic| first
  | assumption
  | exact Ex.refl _
  | (refine' Ex.trans ?_ (by assumption) ; walk_at "ex"))
local macro_rules | `(tactic| walk_at "row") => `(tactic| first
  | (with_reducible exact er_nil)
  | ((with_reducible apply er_cons) <;> walk_at "row")
  | (((with_reducible apply er_var) ; rfl) ; walk_at "isrow")
  | (((with_reducible apply elr_var) ; rfl) ; walk_at "isrow")
  | ((with_reducible apply elr_cat) <;> walk_at "row")
  | ((with_reducible apply elr_lst) <;> walk_at "row")
  | ((with_reducible apply er_fin) <;> walk_at "ev")
  | ((with_reducible apply er_lendT) <;> walk_at "ev")
  | ((with_reducible apply er_lendW) <;> walk_at "ev")
  | ((with_reducible apply er_pick) <;> walk_at "ev")
  | ((with_reducible apply er_either) <;> walk_at "ev")
  | ((with_reducible apply er_or) <;> walk_at "ev")
  | ((with_reducible apply er_again) <;> walk_at "ev")
  | ((with_reducible apply er_back) <;> walk_at "ev")
  | ((with_reducible apply er_look) <;> walk_at "ev")
  | ((with_reducible apply er_change) <;> walk_at "ev")
  | exact Nat.le_of_ble_eq_true rfl
  | skip)
local macro_rules | `(tactic| walk_at "isrow") => `(tactic| first
  | assumption
  | (refine IsRow.up ?_ (by assumption) ; walk_at "ex")
  | (refine LRows.up ?_ (by assumption) ; walk_at "ex"))

abbrev s_l_back : Stmt := topS 31
theorem sc_l_back : FnScope ["_law_held", "_law_word_here", "_law_gone", "_law_found", "_law_one"] ["_law_held", "_law_word_here"] (defScope s_l_back) := ⟨rfl, rfl, rfl, by decide +kernel, rfl, by decide +kernel, by decide +kernel⟩
def bkS (w : Str) (es : List Ent) : Nat → List Str × List Ent
  | 0 => ([w], [])
  | i + 1 => match es[i]? with
    | some e => if e.w ∈ (bkS w es i).1 ∨ e.s ∈ (bkS w es i).1 then ((bkS w es i).1 ++ [e.w], (bkS w es i).2 ++ [(⟨e.w, e.k, e.t, e.s, false⟩ : Ent)]) else ((bkS w es i).1, (bkS w es i).2 ++ [e])
    | none => bkS w es i
def backM (w : Str) (es : List Ent) : List Ent := (bkS w es es.length).2
theorem bkS_next {w : Str} {es : List Ent} {i : Nat} {e : Ent} (h : es[i]? = some e) : bkS w es (i + 1) =
    if e.w ∈ (bkS w es i).1 ∨ e.s ∈ (bkS w es i).1 then ((bkS w es i).1 ++ [e.w], (bkS w es i).2 ++ [(⟨e.w, e.k, e.t, e.s, false⟩ : Ent)]) else ((bkS w es i).1, (bkS w es i).2 ++ [e]) := by
  show (match es[i]? with
    | some e => if e.w ∈ (bkS w es i).1 ∨ e.s ∈ (bkS w es i).1 then ((bkS w es i).1 ++ [e.w], (bkS w es i).2 ++ [(⟨e.w, e.k, e.t, e.s, false⟩ : Ent)]) else ((bkS w es i).1, (bkS w es i).2 ++ [e])
    | none => bkS w es i) = _
  rw [h]
theorem bkS_len (w : Str) (es : List Ent) : ∀ i, (bkS w es i).1.length ≤ i + 1 ∧ (bkS w es i).2.length ≤ i
  | 0 => ⟨Nat.le_refl _, Nat.le_refl _⟩
  | i + 1 => by
    have ih := bkS_len w es i
    show (match es[i]? with
      | some e => if e.w ∈ (bkS w es i).1 ∨ e.s ∈ (bkS w es i).1 then ((bkS w es i).1 ++ [e.w], (bkS w es i).2 ++ [(⟨e.w, e.k, e.t, e.s, false⟩ : Ent)]) else ((bkS w es i).1, (bkS w es i).2 ++ [e])
      | none => bkS w es i).1.length ≤ _ ∧ (match es[i]? with
      | some e => if e.w ∈ (bkS w es i).1 ∨ e.s ∈ (bkS w es i).1 then ((bkS w es i).1 ++ [e.w], (bkS w es i).2 ++ [(⟨e.w, e.k, e.t, e.s, false⟩ : Ent)]) else ((bkS w es i).1, (bkS w es i).2 ++ [e])
      | none => bkS w es i).2.length ≤ _
    cases es[i]? with
    | none => exact ⟨by show (bkS w es i).1.length ≤ _; omega, by show (bkS w es i).2.length ≤ _; omega⟩
    | some e =>
      dsimp only
      split
      · exact ⟨by show (_ ++ [_]).length ≤ _; rw [List.length_append]; show _ + 1 ≤ _; omega, by show (_ ++ [_]).length ≤ _; rw [List.length_append]; show _ + 1 ≤ _; omega⟩
      · exact ⟨by show (bkS w es i).1.length ≤ _; omega, by show (_ ++ [_]).length ≤ _; rw [List.length_append]; show _ + 1 ≤ _; omega⟩
section
variable {P : Program} {w : World} {K : PySem.W.Frag} {mg : Str → Option Value} {base : Heap}
theorem cut4 (a b c d e : V) : cutV [a, b, c, d, e] none (some 4) = [a, b, c, d] := rfl
theorem ep_entvar {i : Nat} {v : V} {e : Ent} {σ : L2.St} {H : Hp} (h : σ[i]? = some (some v)) (hr : IsEnt H v e) : EvP (tVar i) σ H (fun v H2 => IsEnt H2 v e) := fun H1 x Q q => ⟨v, h, q v H1 (Ex.refl H1) (hr.up x)⟩
/-- t[lo:hi] of a tuple that is not whole behind it -/
theorem ep_slT {te : TE} {tl th : TO} {σ : L2.St} {H : Hp} {a : Addr} {xs ys : List V} {lo hi : Option Int} (h : Ev te σ H (.ref a)) (h1 : EvO tl σ H lo) (h2 : EvO th σ H hi) (hs : SqT K H a xs) (hc : cutV xs lo hi = ys) (hw : ¬ (HT.sIx xs.length 0 lo = 0 ∧ HT.sIx xs.length xs.length hi = xs.length)) :
    EvU (tSl (rSlA K) te tl th) σ H ys := fun H1 e _ q =>
  h H1 e _ fun H2 e2 => h1 H2 (e.trans e2) _ fun H3 e3 => h2 H3 ((e.trans e2).trans e3) _ fun H4 e4 =>
    ⟨a, xs, rfl, ex_t (((e.trans e2).trans e3).trans e4) hs, fun z => absurd z hw, fun _ p hp => q p _ (fresh_back ((e2.trans e3).trans e4) hp) (((e2.trans e3).trans e4).trans (Ex.new hp)) (by rw [hc]; exact upd_same)⟩
/-- t + u, both new, neither empty -/
theorem eu_catUU {ta tb : TE} {σ : L2.St} {H : Hp} {xs ys : List V} (ha : EvU ta σ H xs) (hb : EvU tb σ H ys) (h1 : xs ≠ []) (h2 : ys ≠ []) (hl : xs.length + ys.length ≤ 100000) : EvU (tOp (rCatA K) ta tb) σ H (xs ++ ys) := fun H1 e Q q =>
  ha H1 e _ fun p H2 hp e2 g1 => hb H2 (e.trans e2) _ fun u H3 hu e3 g2 => ⟨p, u, xs, ys, rfl, rfl, st_of (e3 _ _ g1), st_of g2, sz_of hl, fun z => absurd z h1, fun _ z => absurd z h2, fun _ _ r hr => q r _ (fresh_back (e2.trans e3) hr) (e2.trans (e3.trans (Ex.new hr))) upd_same⟩
def spBack (K : PySem.W.Frag) : Sp := fun vs H Q _ => ∃ (x : V) (es : List Ent) (u : Str), vs = [x, .str u] ∧ AHeld es x H ∧ es.length ≤ 1000 ∧ Ret (AHeld (backM u es)) H Q
theorem ok_back (D : Dn K mg "_law_back" s_l_back ["_law_held", "_law_word_here"]) : Has P w K mg base "_law_back" 1 ["_law_held", "_law_word_here"] (spBack K) := by
  refine D.ok sc_l_back (fun vs H Q E h => ?_) (fun f cdv A outer st H vs Q E hr h => ?_)
  · obtain ⟨x, es, u, rfl, _⟩ := h
    rfl
  · obtain ⟨x, es, u, rfl, hx, hlen, q⟩ := h
    obtain ⟨p, hv, rfl, hp, hE⟩ := hx
    have hle := hE.len
    refine ⟨_, (pss_cons (ps_set (i := 2) sc_l_back.nd rfl (Or.inl rfl) (pe_lst (pa_cons (pv 1) pa_nil))) (pss_cons (ps_set (i := 3) sc_l_back.nd rfl (Or.inl rfl) (pe_tup pa_nil)) (pss_cons (ps_for PassesOwn.never rfl (pi_tup (pv 0)) (pg_name (i := 4) sc_l_back.nd rfl (Or.inl rfl)) (pss_cons (ps_if (PW.pt (pw_or (pt_cmpR (show OpR _ _ (rIn K false) from op_in_seq) (pe_ix (show IxR _ (rIxT K) from ix_tup) (pv 4) pe_int (fun _ _ => rfl)) (pv 2) (by rfl)) (pw_or1 (pt_cmpR (show OpR _ _ (rIn K false) from op_in_seq) (pe_ix (show IxR _ (rIxT K) from ix_tup) (pv 4) pe_int (fun _ _ => rfl)) (pv 2) (by rfl))))) (pss_cons (ps_expr (pe_bm PySem.F.plainAttrs_list PySem.F.slot_list_append PySem.F.type_list_append mt_append (pv 2) (pa_cons (pe_ix (show IxR _ (rIxT K) from ix_tup) (pv 4) pe_int (fun _ _ => rfl)) pa_nil))) (pss_one (ps_set (i := 4) sc_l_back.nd rfl (Or.inl rfl) (pe_op op_catA (pe_slice sl_tupA (pv 4) po_none (po_some pe_int)) (pe_tup (pa_cons pe_bl pa_nil)))))) pss_nil) (pss_one (ps_set (i := 3) sc_l_back.nd rfl (Or.inl rfl) (pe_op op_catA (pv 3) (pe_tup (pa_cons (pv 4) pa_nil))))))) (pss_one (ps_ret (pv 3)))))), ?_⟩
    show (_ : L2.TS) _ [_, _, _, _, _] _
    refine q_asgL (xs := [.str u]) ?_ (fun pg H1 hpg e1 h1 => ?_)
    · walk_at "ev"
    show (_ : L2.TS) _ [_, _, _, _, _] _
    refine q_asgU (xs := []) ?_ (fun pf H2 hpf e2 h2 => ?_)
    · walk_at "ev"
    show (_ : L2.TS) _ [_, _, _, _, _] _
    refine q_forT (K := K) (a := p) (xs := hv) (ev_var rfl) (ex_t (by walk_at "ex") (st_of hp)) (fun i σ' H' => Ex H H' ∧ H' pg = some (.lst ((bkS u es i).1.map V.str)) ∧ ∃ v o, AHeld (bkS u es i).2 v H' ∧ σ' = [some (.ref p), some (.str u), some (.ref pg), some v, o]) ?_ (fun i σ' H' _ h => ex_t h.1 (st_of hp)) ?_ ?_
    · intro H4 e4
      exact ⟨by walk_at "ex", e4 _ _ (e2 _ _ h1), .ref pf, none, ⟨pf, [], rfl, e4 _ _ h2, .nil⟩, rfl⟩
    · rintro i x σ' H' hi ⟨eH, hgn, v, o, hfd, rfl⟩
      obtain ⟨e, he, hX⟩ := hE.at hi
      have hil : i < es.length := (List.getElem?_eq_some_iff.mp he).1
      have hX' : IsEnt H' x e := hX.up eH
      obtain ⟨pe, rfl, hpe⟩ := id hX'
      have hPe : SqT K H' pe e.vs := st_of hpe
      have hG : SqL K H' pg ((bkS u es i).1.map V.str) := sq_of hgn
      have hbl := bkS_len u es i
      have hnx := bkS_next (w := u) he
      refine q_when (b := decide (e.w ∈ (bkS u es i).1) || decide (e.s ∈ (bkS u es i).1)) ?_ (fun hb H4 e4 => ?_) (fun hb H4 e4 => ?_)
      · refine et_or (et_test (ev_inLs ?_ (ev_var rfl) hG)) (fun _ => et_test (ev_inLs ?_ (ev_var rfl) hG))
        · exact ev_ixT (ev_var rfl) hPe ev_c rfl
        · exact ev_ixT (ev_var rfl) hPe ev_c rfl
      · have hb' : e.w ∈ (bkS u es i).1 ∨ e.s ∈ (bkS u es i).1 := by simpa only [Bool.or_eq_true, decide_eq_true_eq] using hb
        rw [if_pos hb'] at hnx
        refine q_app (l := pg) (xs := (bkS u es i).1.map V.str) (v := .str e.w) (e4 _ _ hgn) (ev_var rfl) (ev_ixT (ev_var rfl) (ex_t e4 hPe) ev_c rfl) (by rw [List.length_map]; omega) (fun H5 e5 => ?_)
        have eg : (bkS u es i).1.map V.str ++ [V.str e.w] = (bkS u es (i + 1)).1.map V.str := by
          rw [hnx, List.map_append]
          rfl
        rw [eg]
        have x5 : ExT H5 (upd H5 pg (.lst ((bkS u es (i + 1)).1.map V.str))) := ExT.lst (e5 _ _ (e4 _ _ hgn))
        have xT : ExT H' (upd H5 pg (.lst ((bkS u es (i + 1)).1.map V.str))) := (ExT.of (e4.trans e5)).trans x5
        have eM : Ex H (upd H5 pg (.lst ((bkS u es (i + 1)).1.map V.str))) := Ex.mut (eH.trans (e4.trans e5)) hpg
        have hg5 : (upd H5 pg (.lst ((bkS u es (i + 1)).1.map V.str))) pg = some (.lst ((bkS u es (i + 1)).1.map V.str)) := upd_same
        have hfd5 : AHeld (bkS u es i).2 v (upd H5 pg (.lst ((bkS u es (i + 1)).1.map V.str))) := by
          obtain ⟨pv, vs, g1, g2, g3⟩ := hfd
          exact ⟨pv, vs, g1, xT _ _ g2, g3.upT xT⟩
        have hPe5 : SqT K (upd H5 pg (.lst ((bkS u es (i + 1)).1.map V.str))) pe e.vs := st_of (xT _ _ hpe)
        generalize upd H5 pg (.lst ((bkS u es (i + 1)).1.map V.str)) = H6 at *
        -- one = one[:4] + (False,)
        refine s_asgU (xs := [.str e.w, .str e.k, .int e.t, .str e.s] ++ [.bl false]) (eu_catUU (ep_slT (ev_var rfl) eo_none (eo_some ev_c) hPe5 (show cutV e.vs none (some 4) = [.str e.w, .str e.k, .int e.t, .str e.s] from rfl) (fun z => absurd z.2 (by show ¬ HT.sIx 5 5 (some 4) = 5; decide))) (eu_tup ?_ (Nat.le_of_ble_eq_true rfl)) (by simp) (by simp) (Nat.le_of_ble_eq_true rfl)) (fun po H7 hpo e7 h7 => ?_)
        · walk_at "ev"
        dsimp only
        refine s_asgP (ep_catT (es := (bkS u es i).2) (fs := [⟨e.w, e.k, e.t, e.s, false⟩]) (ep_heldvar rfl (hfd5.up e7)) (ep_one ?_) (by show (bkS u es i).2.length + 1 ≤ 100000; omega)) (fun z H8 e8 hz => ?_)
        · exact ep_entvar (v := .ref po) rfl ⟨po, rfl, h7⟩
        · refine ⟨eM.trans (e7.trans e8), e8 _ _ (e7 _ _ hg5), z, some (.ref po), ?_, rfl⟩
          rw [hnx]
          exact hz
      · have hb' : ¬ (e.w ∈ (bkS u es i).1 ∨ e.s ∈ (bkS u es i).1) := by simpa only [Bool.or_eq_false_iff, decide_eq_false_iff_not, not_or] using hb
        rw [if_neg hb'] at hnx
        refine s_asgP (ep_catT (es := (bkS u es i).2) (fs := [e]) (ep_heldvar rfl (hfd.up e4)) (ep_one (ep_entvar (v := .ref pe) rfl (hX'.up e4))) (by show (bkS u es i).2.length + 1 ≤ 100000; omega)) (fun z H8 e8 hz => ?_)
        refine ⟨eH.trans (e4.trans e8), ?_, z, some (.ref pe), ?_, rfl⟩
        · rw [hnx]
          exact e8 _ _ (e4 _ _ hgn)
        · rw [hnx]
          exact hz
    · rintro σ' H' ⟨eH, hgn, v, o, hfd, rfl⟩
      rw [hle] at hfd
      exact s_ret (v := v) (ev_var rfl) (fun H4 e4 => q v H4 (eH.trans e4) (hfd.up e4))
theorem ep_back {x : V} {es : List Ent} {u : Str} {ta : TA} {σ : L2.St} {H : Hp} {E : XK} (a : EvA ta σ H [x, .str u]) (hx : AHeld es x H) (hl : es.length ≤ 1000) : EvP (tCall (spBack K) [] E ta) σ H (AHeld (backM u es)) :=
  ep_call a fun H1 e Q q E => ⟨x, es, u, rfl, hx.up e, hl, q⟩
end
end BD
namespace BD
open PySem PySem.Spec PyProof.Rows L2 Evl
local macro_rules | `(tactic| walk_at "ev") => `(tactic| first
  | ((with_reducible apply ev_var) ; rfl)
  | with_reducible exact ev_c
  | ((with_reducible apply ev_I0) <;> walk_at "ev")
  | ((with_reducible apply ev_e9) <;> walk_at "ev")
  | ((with_reducible apply ev_I) <;> walk_at "ev")
  | ((with_reducible apply ev_eq) <;> walk_at "ev")
  | ((with_reducible apply ev_ne) <;> walk_at "ev")
  | ((with_reducible apply ev_neg) <;> walk_at "ev")
  | ((with_reducible apply ev_ixN) <;> walk_at "ev")
  | ((with_reducible apply ev_ixL) <;> walk_at "ev")
  | ((with_reducible apply ev_inN) <;> walk_at "ev")
  | ((with_reducible apply ev_inT) <;> walk_at "ev")
  | ((with_reducible apply ev_ixT) <;> walk_at "ev")
  | ((with_reducible apply ev_ixS) <;> walk_at "ev")
  | ((with_reducible apply ev_len') <;> walk_at "ev")
  | ((with_reducible apply et_test) <;> walk_at "ev")
  | ((with_reducible apply et_and) <;> walk_at "ev")
  | ((with_reducible apply et_or) <;> walk_at "ev")
  | ((with_reducible apply et_not) <;> walk_at "ev")
  | ((with_reducible apply et_B) <;> walk_at "ev")
  | ((with_reducible apply el_lst) <;> walk_at "ev")
  | ((with_reducible apply eu_tup) <;> walk_at "ev")
  | ((with_reducible apply ea_cons) <;> walk_at "ev")
  | with_reducible exact ea_nil
  | with_reducible assumption
  | ((with_reducible apply ex_l' ; assumption) ; walk_at "ex")
  | ((with_reducible apply ex_t' ; assumption) ; walk_at "ex")
  | (intro _ ; walk_at "ev")
  | (with_reducible first | exact atI_hd | exact at_kind | exact at2s | exact at3s | exact at3i)
  | (first | exact rfl | exact Nat.le_of_ble_eq_true rfl | exact ⟨by decide, by decide⟩ | decide | exact Or.inl ⟨by omega, by omega⟩ | exact Or.inr ⟨by omega, by omega⟩ | omega)
  | skip)
local macro_rules | `(tactic| walk_at "ex") => `(tactic| first
  | assumption
  | exact Ex.refl _
  | (refine' Ex.trans ?_ (by assumption) ; walk_at "ex"))
local macro_rules | `(tactic| walk_at "row") => `(tactic| first
  | (with_reducible exact er_nil)
  | ((with_reducible apply er_cons) <;> walk_at "row")
  | (((with_reducible apply er_var) ; rfl) ; walk_at "isrow")
  | (((with_reducible apply elr_var) ; rfl) ; walk_at "isrow")
  | ((with_reducible apply elr_cat) <;> walk_at "row")
  | ((with_reducible apply elr_lst) <;> walk_at "row")
  | ((with_reducible apply er_fin) <;> walk_at "ev")
  | ((with_reducible apply er_lendT) <;> walk_at "ev")
  | ((with_reducible apply er_lendW) <;> walk_at "ev")
  | ((with_reducible apply er_pick) <;> walk_at "ev")
  | ((with_reducible apply er_either) <;> walk_at "ev")
  | ((with_reducible apply er_or) <;> walk_at "ev")
  | ((with_reducible apply er_again) <;> walk_at "ev")
  | ((with_reducible apply er_back) <;> walk_at "ev")
  | ((with_reducible apply er_look) <;> walk_at "ev")
  | ((with_reducible apply er_change) <;> walk_at "ev")
  | exact Nat.le_of_ble_eq_true rfl
  | skip)
local macro_rules | `(tactic| walk_at "isrow") => `(tactic| first
  | assumption
  | (refine IsRow.up ?_ (by assumption) ; walk_at "ex")
  | (refine LRows.up ?_ (by assumption) ; walk_at "ex"))

local macro_rules | `(tactic| walk_at "ev") => `(tactic| (((with_reducible apply ev_tag) ; rfl) ; walk_at "isrow"))
local macro_rules | `(tactic| walk_at "skip") => `(tactic| (refine q_when (b := false) (et_is (et_test (ev_eq (ev_var rfl) ev_c rfl)) rfl) (fun hb _ _ => by cases hb) (fun _ _ _ => ?_)))
local macro_rules | `(tactic| walk_at "skip2") => `(tactic| (refine q_when (b := false) (et_is (et_and (a := false) (b := false) (et_is (et_test (ev_eq (ev_var rfl) ev_c rfl)) rfl) (fun hb => by cases hb)) rfl) (fun hb _ _ => by cases hb) (fun _ _ _ => ?_)))
local macro_rules | `(tactic| walk_at "hit") => `(tactic| (refine q_when (b := true) (et_is (et_test (ev_eq (ev_var rfl) ev_c rfl)) rfl) (fun _ _ _ => ?_) (fun hb _ _ => by cases hb)))
abbrev s_l_step : Stmt := topS 32
theorem sc_l_step : FnScope ["_law_rows", "_law_home", "_law_standing_here", "_law_choice", "_law_at", "_law_held", "_law_word_here", "_law_things", "_law_starts_here"] ["_law_rows", "_law_home", "_law_standing_here", "_law_choice"] (defScope s_l_step) := ⟨rfl, rfl, rfl, by decide +kernel, rfl, by decide +kernel, by decide +kernel⟩
def brI (rs : List Rw) (a n : Nat) : List Int := ((a : Int) + 1) :: ((List.range n).filter (orF rs a)).map fun (p : Nat) => (p : Int) + 1
theorem brV_I (rs : List Rw) (a n : Nat) : brV rs a n = (brI rs a n).map V.int := by
  unfold brV brI
  rw [List.map_cons, List.map_map]
  rfl
def Rw.isAgain : Rw → Bool
  | .again => true | _ => false
def goM (rs : List Rw) (i : Nat) (es : List Ent) (c : Int) : Int × List Ent := match rs[i]? with
  | some (.lend h k s) => ((i : Int) + 1, es ++ [lentE es h k s])
  | some (.pick w ts) => ((i : Int) + 1, es ++ [⟨w, "pick", ts.getD (c % ts.length).toNat 0, "", true⟩])
  | some (.back h) => ((i : Int) + 1, backM h es)
  | some .either => ((brI rs i rs.length).getD (c % (brI rs i rs.length).length).toNat 0, es)
  | some .or => (endUp rs (hm rs i).toNat rs.length, es)
  | some .again => if c % 2 = 0 then (endUp rs i rs.length + 1, es) else ((i : Int) + 1, es)
  | some .fin => if (rs.getD (hm rs i).toNat .fin).isAgain = true then (hm rs i, es) else if (rs.getD (hm rs i).toNat .fin).isEither = true then ((i : Int) + 1, es) else ((i : Int) + 1, es.dropLast)
  | _ => ((i : Int) + 1, es)
/-- what a step asks of the standing at row i -/
structure StepOk (rs : List Rw) (i : Nat) (es : List Ent) : Prop where
  lend : ∀ h k s, rs[i]? = some (.lend h k s) → (es.map Ent.w).Nodup ∧ ∀ u, s = .word u → ∃ e ∈ es, e.w = u
  pick : ∀ w ts, rs[i]? = some (.pick w ts) → 0 < ts.length
  or : rs[i]? = some .or → ∃ b : Nat, hm rs i = (b : Int)
section
variable {K : PySem.W.Frag} {σ : L2.St} {H H' : Hp} {ta tb te tr tw tt : TE} {es fs : List Ent} {e : Ent}
theorem ep_stand {i : Int} (ha : Ev ta σ H (.int i)) (hb : EvP tb σ H (AHeld es)) : EvP (tTup (tCons ta (tCons tb tNil))) σ H (AStand i es) := fun H1 x Q q =>
  ha H1 x _ fun H2 e2 => hb H2 (x.trans e2) _ fun v H3 e3 hv => ⟨by show 2 ≤ sizeLine; decide, fun p hp => by
    obtain ⟨r, vs, rfl, h1, h2⟩ := hv
    exact q _ _ ((e2.trans e3).trans (Ex.new hp)) ⟨p, r, vs, rfl, upd_same, (Ex.new hp) _ _ h1, h2.up (Ex.new hp)⟩⟩
end
section
variable {P : Program} {w : World} {K : PySem.W.Frag} {mg : Str → Option Value} {base : Heap}
def spStep (K : PySem.W.Frag) : Sp := fun vs H Q _ => ∃ (a hh : Addr) (x : V) (c : Int) (i : Nat) (es : List Ent) (rv : List V) (rs : List Rw), vs = [.ref a, .ref hh, x, .int c] ∧ SqL K H a rv ∧ Rows H rv rs ∧ SqL K H hh (homesV rs rs.length) ∧ AStand i es x H ∧
  i < rs.length ∧ rs.length ≤ 90000 ∧ Good rs ∧ StepOk rs i es ∧ es.length ≤ 900 ∧ Ret (AStand (goM rs i es c).1 (goM rs i es c).2) H Q
theorem ok_step (D : Dn K mg "_law_step" s_l_step ["_law_rows", "_law_home", "_law_standing_here", "_law_choice"]) (T : Blt mg) (h_l_lent : Has P w K mg base "_law_lent" 1 ["_law_held", "_law_row_here"] (spLent K)) (h_l_back : Has P w K mg base "_law_back" 1 ["_law_held", "_law_word_here"] (spBack K)) (h_l_starts : Has P w K mg base "_law_starts" 1 ["_law_rows", "_law_home", "_law_at"] (spStarts K)) (h_l_last : Has P w K mg base "_law_last" 1 ["_law_rows", "_law_home", "_law_at"] (spLast K)) : Has P w K mg base "_law_step" 2 ["_law_rows", "_law_home", "_law_standing_here", "_law_choice"] (spStep K) := by
  refine D.ok sc_l_step (fun vs H Q E h => ?_) (fun f cdv A outer st H vs Q E hr h => ?_)
  · obtain ⟨a, hh, x, c, i, es, rv, rs, rfl, _⟩ := h
    rfl
  · obtain ⟨a, hh, x, c, i, es, rv, rs, rfl, hS, hR, hM, hx, hi, hlen, g, ok, hes, q⟩ := h
    obtain ⟨px, pq, hv, rfl, hpx, hpq, hE⟩ := hx
    have hPx : SqT K H px [.int (i : Int), .ref pq] := st_of hpx
    have hHeld : AHeld es (.ref pq) H := ⟨pq, hv, rfl, hpq, hE⟩
    have hlr := hR.len
    have hgr := List.getElem?_eq_getElem hi
    obtain ⟨y, hy, hY⟩ := hR.get hgr
    generalize rs[i] = r at hgr hY
    obtain ⟨py, ys, rfl, hpy⟩ := hY.tup
    have hPy : SqT K H py (.str r.tag :: ys) := st_of hpy
    have hix : atI rv (i : Int) = some (.ref py) := atI_nat hy
    have hhx : atI (homesV rs rs.length) (i : Int) = some (.int (hm rs i)) := atI_nat (homesV_at hi)
    refine ⟨_, (pss_cons (ps_set (i := 4) sc_l_step.nd rfl (Or.inl rfl) (pe_ix (show IxR _ (rIxT K) from ix_tup) (pv 2) pe_int (fun _ _ => rfl))) (pss_cons (ps_set (i := 5) sc_l_step.nd rfl (Or.inl rfl) (pe_ix (show IxR _ (rIxT K) from ix_tup) (pv 2) pe_int (fun _ _ => rfl))) (pss_cons (ps_set (i := 6) sc_l_step.nd rfl (Or.inl rfl) (pe_ix (show IxR _ (rIxT K) from ix_tup) (pe_ix (show IxR _ (rIxL K) from ix_list) (pv 0) (pv 4) (fun _ _ => rfl)) pe_int (fun _ _ => rfl))) (pss_cons (ps_if (pt_cmpR op_eq (pv 6) pe_str (nomark _)) (pss_one (ps_set (i := 5) sc_l_step.nd rfl (Or.inl rfl) (pe_own h_l_lent (hr.mono (by decide)) (by rfl) (pa_cons (pv 5) (pa_cons (pe_ix (show IxR _ (rIxL K) from ix_list) (pv 0) (pv 4) (fun _ _ => rfl)) pa_nil))))) pss_nil) (pss_cons (ps_if (pt_cmpR op_eq (pv 6) pe_str (nomark _)) (pss_cons (ps_set (i := 7) sc_l_step.nd rfl (Or.inl rfl) (pe_ix (show IxR _ (rIxT K) from ix_tup) (pe_ix (show IxR _ (rIxL K) from ix_list) (pv 0) (pv 4) (fun _ _ => rfl)) pe_int (fun _ _ => rfl))) (pss_one (ps_set (i := 5) sc_l_step.nd rfl (Or.inl rfl) (pe_op op_catA (pv 5) (pe_tup (pa_cons (pe_tup (pa_cons (pe_ix (show IxR _ (rIxT K) from ix_tup) (pe_ix (show IxR _ (rIxL K) from ix_list) (pv 0) (pv 4) (fun _ _ => rfl)) pe_int (fun _ _ => rfl)) (pa_cons pe_str (pa_cons (pe_ix (show IxR _ (rIxT K) from ix_tup) (pv 7) (pe_op op_mod (pv 3) (pe_callB (show CallR _ _ (rLenS K) from call_len_seq) (by rfl) T.len_ (by decide +kernel) (pa_cons (pv 7) pa_nil))) (fun _ _ => rfl)) (pa_cons pe_str (pa_cons pe_bl pa_nil)))))) pa_nil)))))) pss_nil) (pss_cons (ps_if (pt_cmpR op_eq (pv 6) pe_str (nomark _)) (pss_one (ps_set (i := 5) sc_l_step.nd rfl (Or.inl rfl) (pe_own h_l_back (hr.mono (by decide)) (by rfl) (pa_cons (pv 5) (pa_cons (pe_ix (show IxR _ (rIxT K) from ix_tup) (pe_ix (show IxR _ (rIxL K) from ix_list) (pv 0) (pv 4) (fun _ _ => rfl)) pe_int (fun _ _ => rfl)) pa_nil))))) pss_nil) (pss_cons (ps_if (pt_cmpR op_eq (pv 6) pe_str (nomark _)) (pss_cons (ps_set (i := 8) sc_l_step.nd rfl (Or.inl rfl) (pe_own h_l_starts (hr.mono (by decide)) (by rfl) (pa_cons (pv 0) (pa_cons (pv 1) (pa_cons (pv 4) pa_nil))))) (pss_one (ps_ret (pe_tup (pa_cons (pe_ix (show IxR _ (rIxL K) from ix_list) (pv 8) (pe_op op_mod (pv 3) (pe_callB (show CallR _ _ (rLenS K) from call_len_seq) (by rfl) T.len_ (by decide +kernel) (pa_cons (pv 8) pa_nil))) (fun _ _ => rfl)) (pa_cons (pv 5) pa_nil)))))) pss_nil) (pss_cons (ps_if (pt_cmpR op_eq (pv 6) pe_str (nomark _)) (pss_one (ps_ret (pe_tup (pa_cons (pe_own h_l_last (hr.mono (by decide)) (by rfl) (pa_cons (pv 0) (pa_cons (pv 1) (pa_cons (pe_ix (show IxR _ (rIxL K) from ix_list) (pv 1) (pv 4) (fun _ _ => rfl)) pa_nil)))) (pa_cons (pv 5) pa_nil))))) pss_nil) (pss_cons (ps_if (PW.pt (pw_and (pt_cmpR op_eq (pv 6) pe_str (nomark _)) (pw_and1 (pt_cmpR op_eq (pe_op op_mod (pv 3) pe_int) pe_int (nomark _))))) (pss_one (ps_ret (pe_tup (pa_cons (pe_op op_add (pe_own h_l_last (hr.mono (by decide)) (by rfl) (pa_cons (pv 0) (pa_cons (pv 1) (pa_cons (pv 4) pa_nil)))) pe_int) (pa_cons (pv 5) pa_nil))))) pss_nil) (pss_cons (ps_if (PW.pt (pw_and (pt_cmpR op_eq (pv 6) pe_str (nomark _)) (pw_and1 (pt_cmpR op_eq (pe_ix (show IxR _ (rIxT K) from ix_tup) (pe_ix (show IxR _ (rIxL K) from ix_list) (pv 0) (pe_ix (show IxR _ (rIxL K) from ix_list) (pv 1) (pv 4) (fun _ _ => rfl)) (fun _ _ => rfl)) pe_int (fun _ _ => rfl)) pe_str (nomark _))))) (pss_one (ps_ret (pe_tup (pa_cons (pe_ix (show IxR _ (rIxL K) from ix_list) (pv 1) (pv 4) (fun _ _ => rfl)) (pa_cons (pv 5) pa_nil))))) pss_nil) (pss_cons (ps_if (PW.pt (pw_and (pt_cmpR op_eq (pv 6) pe_str (nomark _)) (pw_and1 (pt_cmpR op_ne (pe_ix (show IxR _ (rIxT K) from ix_tup) (pe_ix (show IxR _ (rIxL K) from ix_list) (pv 0) (pe_ix (show IxR _ (rIxL K) from ix_list) (pv 1) (pv 4) (fun _ _ => rfl)) (fun _ _ => rfl)) pe_int (fun _ _ => rfl)) pe_str (nomark _))))) (pss_one (ps_set (i := 5) sc_l_step.nd rfl (Or.inl rfl) (pe_slice sl_tupA (pv 5) po_none (po_some (pe_un un_neg pe_int))))) pss_nil) (pss_one (ps_ret (pe_tup (pa_cons (pe_op op_add (pv 4) pe_int) (pa_cons (pv 5) pa_nil)))))))))))))))), ?_⟩
    show (_ : L2.TS) _ [_, _, _, _, _, _, _, _, _] _
    refine' q_asg (v := .int (i : Int)) ?_ (fun H1 e1 => ?_)
    · walk_at "ev"
    show (_ : L2.TS) _ [_, _, _, _, _, _, _, _, _] _
    refine' q_asg (v := .ref pq) ?_ (fun H2 e2 => ?_)
    · walk_at "ev"
    show (_ : L2.TS) _ [_, _, _, _, _, _, _, _, _] _
    refine' q_asg (v := .str r.tag) ?_ (fun H3 e3 => ?_)
    · walk_at "ev"
    show (_ : L2.TS) _ [_, _, _, _, _, _, _, _, _] _
    have e03 : Ex H H3 := by walk_at "ex"
    have hS3 := ex_l e03 hS
    have hM3 := ex_l e03 hM
    have hR3 := hR.up e03
    have hY3 := hY.up e03
    have hPy3 := ex_t e03 hPy
    have hHeld3 := hHeld.up e03
    have q3 : Ret (AStand (goM rs i es c).1 (goM rs i es c).2) H3 Q := fun v H4 e4 h4 => q v H4 (e03.trans e4) h4
    clear e1 e2 e3 e03 hS hM hR hY hPy hHeld hPx hpx hpq hE q hpy
    unfold goM at q3
    rw [hgr] at q3
    cases r with
    | lend h k s =>
      have okl := ok.lend h k s hgr
      walk_at "hit"
      refine s_asgP (ep_lent (x := .ref pq) (y := .ref py) (h := h) (k := k) (s := s) ?_ (AHeld.up (by walk_at "ex") hHeld3) (IsRow.up (by walk_at "ex") hY3) okl.1 okl.2 (by omega)) (fun v4 H4 e4 hv4 => ?_)
      · walk_at "ev"
      dsimp only
      show (_ : L2.TS) _ [_, _, _, _, _, _, _, _, _] _
      walk_at "skip"
      walk_at "skip"
      walk_at "skip"
      walk_at "skip"
      walk_at "skip2"
      walk_at "skip2"
      walk_at "skip2"
      refine s_retP (ep_stand (i := (i : Int) + 1) ?_ (ep_heldvar rfl (AHeld.up (by walk_at "ex") hv4))) (fun v H9 e9 hv => q3 v H9 (by walk_at "ex") hv)
      walk_at "ev"
    | pick w ts =>
      have hts := ok.pick w ts hgr
      obtain ⟨p', q', hp1, hp2, hq2⟩ := id hY3
      cases hp1
      have hPp : SqT K H3 py [.str "pick", .str w, .ref q'] := st_of hp2
      have hPq : SqT K H3 q' (ts.map V.int) := st_of hq2
      have hidx : atI (ts.map V.int) (c % ((ts.map V.int).length : Int)) = some (.int (ts.getD (c % ts.length).toNat 0)) := by
        rw [List.length_map]
        exact at_ints ts (Int.emod_nonneg _ (by omega)) (Int.emod_lt_of_pos _ (by omega))
      have hposl : (0 : Int) < ((ts.map V.int).length : Int) := by rw [List.length_map]; omega
      walk_at "skip"
      walk_at "hit"
      refine q_asg (v := .ref q') (ev_ixT (ev_ixL (ev_var rfl) (ex_l (by walk_at "ex") hS3) (ev_var rfl) hix) (ex_t (by walk_at "ex") hPp) ev_c rfl) (fun H5 e5 => ?_)
      show (_ : L2.TS) _ [_, _, _, _, _, _, _, _, _] _
      refine s_asgP (ep_catT (es := es) (fs := [⟨w, "pick", ts.getD (c % ts.length).toNat 0, "", true⟩]) (ep_heldvar rfl (AHeld.up (by walk_at "ex") hHeld3)) (ep_one (ep_ent5 (ea_cons (ev_ixT (ev_ixL (ev_var rfl) (ex_l (by walk_at "ex") hS3) (ev_var rfl) hix) (ex_t (by walk_at "ex") hPp) ev_c rfl) (ea_cons ev_c (ea_cons (ev_ixT (ev_var rfl) (ex_t (by walk_at "ex") hPq) (ev_I (ev_var rfl) (ev_lenT (ev_var rfl) (ex_t (by walk_at "ex") hPq)) hposl) hidx) (ea_cons ev_c (ea_cons ev_c ea_nil))))))) (by show es.length + 1 ≤ 100000; omega)) (fun v4 H4 e4 hv4 => ?_)
      dsimp only
      show (_ : L2.TS) _ [_, _, _, _, _, _, _, _, _] _
      walk_at "skip"
      walk_at "skip"
      walk_at "skip"
      walk_at "skip2"
      walk_at "skip2"
      walk_at "skip2"
      refine s_retP (ep_stand (i := (i : Int) + 1) ?_ (ep_heldvar rfl (AHeld.up (by walk_at "ex") hv4))) (fun v H9 e9 hv => q3 v H9 (by walk_at "ex") hv)
      walk_at "ev"
    | back h =>
      obtain ⟨p', hp1, hp2⟩ := id hY3
      cases hp1
      have hPp : SqT K H3 py [.str "back", .str h] := st_of hp2
      walk_at "skip"
      walk_at "skip"
      walk_at "hit"
      refine s_asgP (ep_back (x := .ref pq) (u := h) ?_ (AHeld.up (by walk_at "ex") hHeld3) (by omega)) (fun v4 H4 e4 hv4 => ?_)
      · walk_at "ev"
      dsimp only
      show (_ : L2.TS) _ [_, _, _, _, _, _, _, _, _] _
      walk_at "skip"
      walk_at "skip"
      walk_at "skip2"
      walk_at "skip2"
      walk_at "skip2"
      refine s_retP (ep_stand (i := (i : Int) + 1) ?_ (ep_heldvar rfl (AHeld.up (by walk_at "ex") hv4))) (fun v H9 e9 hv => q3 v H9 (by walk_at "ex") hv)
      walk_at "ev"
    | either =>
      have hbi : atI (brV rs i rs.length) (c % ((brV rs i rs.length).length : Int)) = some (.int ((brI rs i rs.length).getD (c % (brI rs i rs.length).length).toNat 0)) := by
        rw [brV_I, List.length_map]
        exact at_ints _ (Int.emod_nonneg _ (by show ((((_ : List Int).length + 1 : Nat)) : Int) ≠ 0; omega)) (Int.emod_lt_of_pos _ (by show (0 : Int) < (((_ : List Int).length + 1 : Nat) : Int); omega))
      have hposl : (0 : Int) < ((brV rs i rs.length).length : Int) := by unfold brV; rw [List.length_cons]; omega
      walk_at "skip"
      walk_at "skip"
      walk_at "skip"
      walk_at "hit"
      refine q_asgL (xs := brV rs i rs.length) (el_starts (a := a) (hh := hh) (n := i) (rv := rv) (rs := rs) ?_ (ex_l (by walk_at "ex") hS3) (Rows.up (by walk_at "ex") hR3) (ex_l (by walk_at "ex") hM3) hi hlen) (fun ps H5 hps e5 h5 => ?_)
      · walk_at "ev"
      show (_ : L2.TS) _ [_, _, _, _, _, _, _, _, _] _
      refine s_retP (ep_stand (ev_ixL (ev_var rfl) (sq_of h5) (ev_I (ev_var rfl) (ev_len (ev_var rfl) (sq_of h5)) hposl) hbi) (ep_heldvar rfl (AHeld.up (by walk_at "ex") hHeld3))) (fun v H9 e9 hv => q3 v H9 (by walk_at "ex") hv)
    | or =>
      obtain ⟨b, hb⟩ := ok.or hgr
      have hlt := hm_lt (rs := rs) i
      walk_at "skip"
      walk_at "skip"
      walk_at "skip"
      walk_at "skip"
      walk_at "hit"
      rw [hb, Int.toNat_natCast] at q3
      rw [hb] at hhx
      refine s_retP (ep_stand (ev_last (a := a) (hh := hh) (n := b) (rv := rv) (rs := rs) ?_ (ex_l (by walk_at "ex") hS3) (Rows.up (by walk_at "ex") hR3) (ex_l (by walk_at "ex") hM3) (by omega) hlen) (ep_heldvar rfl (AHeld.up (by walk_at "ex") hHeld3))) (fun v H9 e9 hv => q3 v H9 (by walk_at "ex") hv)
      walk_at "ev"
    | again =>
      walk_at "skip"
      walk_at "skip"
      walk_at "skip"
      walk_at "skip"
      walk_at "skip"
      refine' q_when (b := true && decide (V.int (c % 2) = V.int 0)) ?_ (fun hb H9 e9 => ?_) (fun hb H9 e9 => ?_)
      · refine et_and (et_is (et_test (ev_eq (ev_var rfl) ev_c rfl)) rfl) (fun _ => ?_)
        walk_at "ev"
      · have hb := V.int.inj (of_decide_eq_true (by simpa using hb))
        rw [if_pos hb] at q3
        refine s_retP (ep_stand (i := endUp rs i rs.length + 1) (ev_I0 (i := endUp rs i rs.length) (j := 1) (ev_last (a := a) (hh := hh) (n := i) (rv := rv) (rs := rs) ?_ (ex_l (by walk_at "ex") hS3) (Rows.up (by walk_at "ex") hR3) (ex_l (by walk_at "ex") hM3) hi hlen) ev_c) (ep_heldvar rfl (AHeld.up (by walk_at "ex") hHeld3))) (fun v H9 e9 hv => q3 v H9 (by walk_at "ex") hv)
        walk_at "ev"
      · have hb : ¬ c % 2 = 0 := fun z => by
          rw [z] at hb
          cases hb
        rw [if_neg hb] at q3
        walk_at "skip2"
        walk_at "skip2"
        refine s_retP (ep_stand (i := (i : Int) + 1) ?_ (ep_heldvar rfl (AHeld.up (by walk_at "ex") hHeld3))) (fun v H9 e9 hv => q3 v H9 (by walk_at "ex") hv)
        walk_at "ev"
    | fin =>
      obtain ⟨b, t, hp1, hp2, hbi, z, hz, hzo⟩ := hm_fin g hgr rfl
      dsimp only at q3
      rw [hp2, Int.toNat_natCast, show rs.getD b .fin = z by rw [List.getD_eq_getElem?_getD, hz]; rfl] at q3
      rw [hp2] at hhx
      obtain ⟨y2, hy2, hY2⟩ := hR3.get hz
      obtain ⟨pz, zs, rfl, hpz⟩ := hY2.tup
      have hPz : SqT K H3 pz (.str z.tag :: zs) := st_of hpz
      have hizx : atI rv (b : Int) = some (.ref pz) := atI_nat hy2
      have ev_z : ∀ H9, Ex H3 H9 → ∀ σ9 : L2.St, σ9[0]? = some (some (.ref a)) → σ9[1]? = some (some (.ref hh)) → σ9[4]? = some (some (.int (i : Int))) → Ev (tOp (rIxT K) (tOp (rIxL K) (tVar 0) (tOp (rIxL K) (tVar 1) (tVar 4))) (tC (.int 0))) σ9 H9 (.str z.tag) := fun H9 e9 σ9 h0 h1 h4 =>
        ev_ixT (ev_ixL (ev_var h0) (ex_l e9 hS3) (ev_ixL (ev_var h1) (ex_l e9 hM3) (ev_var h4) hhx) hizx) (ex_t e9 hPz) ev_c atI_hd
      walk_at "skip"
      walk_at "skip"
      walk_at "skip"
      walk_at "skip"
      walk_at "skip"
      walk_at "skip2"
      cases hza : z.isAgain with
      | true =>
        have ez : z = .again := by cases z <;> first | rfl | cases hza
        subst ez
        rw [if_pos (show Rw.again.isAgain = true from rfl)] at q3
        refine q_when (b := true) (et_is (et_and (a := true) (b := true) (et_is (et_test (ev_eq (ev_var rfl) ev_c rfl)) rfl) (fun _ => et_is (et_test (ev_eq (ev_z _ (by walk_at "ex") _ rfl rfl rfl) ev_c rfl)) rfl)) rfl) (fun _ H9 e9 => ?_) (fun hb _ _ => by cases hb)
        refine s_retP (ep_stand (ev_ixL (ev_var rfl) (ex_l (by walk_at "ex") hM3) (ev_var rfl) hhx) (ep_heldvar rfl (AHeld.up (by walk_at "ex") hHeld3))) (fun v H9 e9 hv => q3 v H9 (by walk_at "ex") hv)
      | false =>
        have dz : decide (V.str z.tag = V.str "again") = false := by cases z <;> first | rfl | cases hza
        rw [hza, if_neg (by decide)] at q3
        refine q_when (b := false) (et_is (et_and (a := true) (b := false) (et_is (et_test (ev_eq (ev_var rfl) ev_c rfl)) rfl) (fun _ => et_is (et_test (ev_eq (ev_z _ (by walk_at "ex") _ rfl rfl rfl) ev_c rfl)) dz)) rfl) (fun hb _ _ => by cases hb) (fun _ H9 e9 => ?_)
        cases hze : z.isEither with
        | true =>
          have ez : z = .either := by cases z <;> first | rfl | cases hze
          subst ez
          rw [if_pos (show Rw.either.isEither = true from rfl)] at q3
          refine q_when (b := false) (et_is (et_and (a := true) (b := false) (et_is (et_test (ev_eq (ev_var rfl) ev_c rfl)) rfl) (fun _ => et_is (et_test (ev_ne (ev_z _ (by walk_at "ex") _ rfl rfl rfl) ev_c rfl)) rfl)) rfl) (fun hb _ _ => by cases hb) (fun _ Ha ea => ?_)
          refine s_retP (ep_stand (i := (i : Int) + 1) ?_ (ep_heldvar rfl (AHeld.up (by walk_at "ex") hHeld3))) (fun v H9 e9 hv => q3 v H9 (by walk_at "ex") hv)
          walk_at "ev"
        | false =>
          have dz2 : (!decide (V.str z.tag = V.str "either")) = true := by rw [tag_either, hze]; rfl
          rw [hze, if_neg (by decide)] at q3
          refine q_when (b := true) (et_is (et_and (a := true) (b := true) (et_is (et_test (ev_eq (ev_var rfl) ev_c rfl)) rfl) (fun _ => et_is (et_test (ev_ne (ev_z _ (by walk_at "ex") _ rfl rfl rfl) ev_c rfl)) dz2)) rfl) (fun _ Ha ea => ?_) (fun hb _ _ => by cases hb)
          refine s_asgP (ep_dropT (es := es) (ep_heldvar rfl (AHeld.up (by walk_at "ex") hHeld3)) (eo_some ?_)) (fun v4 H4 e4 hv4 => ?_)
          · walk_at "ev"
          dsimp only
          show (_ : L2.TS) _ [_, _, _, _, _, _, _, _, _] _
          refine s_retP (ep_stand (i := (i : Int) + 1) ?_ (ep_heldvar rfl hv4)) (fun v H9 e9 hv => q3 v H9 (by walk_at "ex") hv)
          walk_at "ev"
    | look h =>
      walk_at "skip"
      walk_at "skip"
      walk_at "skip"
      walk_at "skip"
      walk_at "skip"
      walk_at "skip2"
      walk_at "skip2"
      walk_at "skip2"
      refine s_retP (ep_stand (i := (i : Int) + 1) ?_ (ep_heldvar rfl (AHeld.up (by walk_at "ex") hHeld3))) (fun v H9 e9 hv => q3 v H9 (by walk_at "ex") hv)
      walk_at "ev"
    | change h =>
      walk_at "skip"
      walk_at "skip"
      walk_at "skip"
      walk_at "skip"
      walk_at "skip"
      walk_at "skip2"
      walk_at "skip2"
      walk_at "skip2"
      refine s_retP (ep_stand (i := (i : Int) + 1) ?_ (ep_heldvar rfl (AHeld.up (by walk_at "ex") hHeld3))) (fun v H9 e9 hv => q3 v H9 (by walk_at "ex") hv)
      walk_at "ev"
end
end BD
namespace BD
open PySem PySem.Spec PyProof.Rows L2 Evl
/-! ### a sheet is one: words, hands, branches -/
def Fresh (op : List Rw) (w : Str) : Prop := ∀ q ∈ op, q.named = true → q.word ≠ w
def Hand (op : List Rw) (w : Str) (k : Str → Prop) : Prop := ∃ q ∈ op, q.isLend = true ∧ q.word = w ∧ k q.kind
def Meant (op : List Rw) (w : Str) (k : Str) : Prop := ∃ q ∈ op, q.named = true ∧ q.word = w ∧ (k = "write" → q.isLend = true → q.kind = "write")
def OkRow (op : List Rw) : Rw → Prop
  | .lend h k s => Fresh op h ∧ (∀ u, s = .word u → Meant op u k) ∧ (op.filter Rw.isLend).length < 6
  | .pick w ts => Fresh op w ∧ 0 < ts.length ∧ (op.filter Rw.isPick).length < 3
  | .back h => Hand op h fun _ => True
  | .look h => Hand op h fun _ => True
  | .change h => Hand op h fun k => k = "write"
  | .or => op.getLast? = some .either
  | .fin => op ≠ []
  | _ => True
def VR : List Rw → List Rw → List Rw → Prop
  | op, [], op' => op = op'
  | op, r :: rs, op' => OkRow op r ∧ VR (opUpd op r) rs op'
theorem VR.app : ∀ {xs ys : List Rw} {op op1 op2 : List Rw}, VR op xs op1 → VR op1 ys op2 → VR op (xs ++ ys) op2
  | [], _, _, _, _, h, h2 => by
    cases h
    exact h2
  | _ :: _, _, _, _, _, h, h2 => ⟨h.1, VR.app h.2 h2⟩
/-! words at different depths differ -/
theorem mkS_inj {a b : List Nat} (h : mkS a = mkS b) : a = b := by
  have := congrArg (fun s : Str => s.cps.toList) h
  exact this
theorem word_ne {one two one' two' j j' : Int} {d : Draw} (ok : d.Ok) (h0 : 0 ≤ j) (h1 : j < 26) (h2 : 0 ≤ j') (h3 : j' < 26) (hne : j ≠ j') : wordM one two j d ≠ wordM one' two' j' d := by
  obtain ⟨st0, st4, sz1, sz12, pl0, pl1, sg0, sg26⟩ := ok
  intro h
  unfold wordM at h
  split at h
  · rw [mul_word (by omega), mul_word (by omega)] at h
    have := congrArg List.length (mkS_inj h)
    rw [List.length_replicate, List.length_replicate] at this
    omega
  · have hl := mkS_inj h
    have hp : d.place.toNat < d.size.toNat := by omega
    have e1 := congrArg (fun l : List Nat => l[d.place.toNat]?) hl
    simp only [List.getElem?_map, List.getElem?_range hp, Option.map_some, Option.some.injEq] at e1
    unfold chM at e1
    rw [if_pos (by omega), if_pos (by omega)] at e1
    omega
theorem wordM_ne_empty {one two j : Int} {d : Draw} (ok : d.Ok) (h0 : 0 ≤ j) (h1 : j ≤ 11) : wordM one two j d ≠ "" := by
  obtain ⟨l, hl, h2, _⟩ := wordM_s (one := one) (two := two) ok h0 h1
  rw [hl]
  intro h
  have e : (mkS l).length = ("" : Str).length := by rw [h]
  rw [mkS_len] at e
  have : ("" : Str).length = 0 := by decide +kernel
  omega
/-- the words of what is open: the j-th named one has a word of depth j -/
def WordsAt (d : Draw) (op : List Rw) : Prop := ∀ (j : Nat) (r : Rw), (op.filter Rw.named)[j]? = some r → ∃ one two, r.word = wordM one two (j : Int) d
theorem fresh_of {d : Draw} (ok : d.Ok) {op : List Rw} (h : WordsAt d op) (hl : (op.filter Rw.named).length ≤ 20) {one two deep : Int} (h0 : ((op.filter Rw.named).length : Int) ≤ deep) (h1 : deep < 26) : Fresh op (wordM one two deep d) := fun q hq hn => by
  have hm : q ∈ op.filter Rw.named := List.mem_filter.mpr ⟨hq, hn⟩
  obtain ⟨j, hj⟩ := List.getElem?_of_mem hm
  obtain ⟨o, t, e⟩ := h j q hj
  have hlt := (List.getElem?_eq_some_iff.mp hj).1
  rw [e]
  exact word_ne ok (by omega) (by omega) (by omega) h1 (by omega)
theorem wordsAt_push {d : Draw} {op : List Rw} {r : Rw} (h : WordsAt d op) (hr : r.named = true → ∃ one two, r.word = wordM one two ((op.filter Rw.named).length : Int) d) : WordsAt d (op ++ [r]) := fun j q hq => by
  rw [List.filter_append] at hq
  by_cases hj : j < (op.filter Rw.named).length
  · rw [List.getElem?_append_left hj] at hq
    exact h j q hq
  · rw [List.getElem?_append_right (by omega)] at hq
    cases hn : r.named with
    | true =>
      rw [List.filter_cons, if_pos hn] at hq
      have hlt := (List.getElem?_eq_some_iff.mp hq).1
      have ej : j - (op.filter Rw.named).length = 0 := by
        have : ([r] : List Rw).length = 1 := rfl
        have h5 : j - (op.filter Rw.named).length < 1 := hlt
        omega
      rw [ej] at hq
      have eq : r = q := Option.some.inj hq
      subst eq
      obtain ⟨o, t, e⟩ := hr hn
      exact ⟨o, t, by rw [e, show (j : Int) = ((op.filter Rw.named).length : Int) by omega]⟩
    | false =>
      rw [List.filter_cons, if_neg (by rw [hn]; decide)] at hq
      cases hq
theorem wordsAt_drop {d : Draw} {op : List Rw} (h : WordsAt d op) : WordsAt d op.dropLast := by
  cases hop : op.reverse with
  | nil =>
    have e : op = [] := List.reverse_eq_nil_iff.mp hop
    subst e
    exact h
  | cons a t =>
    have e : op = t.reverse ++ [a] := by
      have := congrArg List.reverse hop
      rw [List.reverse_reverse, List.reverse_cons] at this
      exact this
    subst e
    rw [List.dropLast_concat]
    intro j r hj
    refine h j r ?_
    rw [List.filter_append, List.getElem?_append_left (List.getElem?_eq_some_iff.mp hj).1]
    exact hj
theorem wordsAt_upd {d : Draw} {op : List Rw} {r : Rw} (h : WordsAt d op) (hr : r.named = true → ∃ one two, r.word = wordM one two ((op.filter Rw.named).length : Int) d) : WordsAt d (opUpd op r) := by
  unfold opUpd
  split
  · exact wordsAt_push h hr
  split
  · exact wordsAt_drop h
  · exact h
theorem lendM_word (one two : Int) (named : List Rw) (d : Draw) : (lendM one two named d).word = wordM one two named.length d := by
  unfold lendM
  split <;> rfl
theorem rowM_word {op : List Rw} {way one two : Int} {d : Draw} (hn : (rowM way one two op d).named = true) : ∃ o t, (rowM way one two op d).word = wordM o t ((op.filter Rw.named).length : Int) d := by
  have hd : (deedM one two ((op.filter Rw.named).filter Rw.isLend)).named = false := by
    have := deedM_not one two ((op.filter Rw.named).filter Rw.isLend)
    generalize deedM one two ((op.filter Rw.named).filter Rw.isLend) = r at *
    cases r <;> simp_all [Rw.opens, Rw.named, Rw.isFin]
  unfold rowM rowN at hn ⊢
  split at hn
  · rename_i h; rw [if_pos h]; exact ⟨one, two, lendM_word _ _ _ _⟩
  rename_i h; rw [if_neg h]
  split at hn
  · rename_i h; rw [if_pos h]; exact ⟨one, two, rfl⟩
  rename_i h; rw [if_neg h]
  split at hn
  · cases hn
  split at hn
  · cases hn
  split at hn
  · cases hn
  split at hn
  · rw [hd] at hn; cases hn
  split at hn
  · cases hn
  rename_i h1 h2 h3 h4 h5
  rw [if_neg h1, if_neg h2, if_neg h3, if_neg h4, if_neg h5]
  exact ⟨one, two, lendM_word _ _ _ _⟩
end BD
namespace BD
open PySem PySem.Spec PyProof.Rows L2 Evl
/-! ### each drawn sheet is one -/
theorem kind_write {x : Int} : kindM x = "write" → True := fun _ => trivial
theorem read_ne_write : ¬ (("read" : Str) = "write") := by decide +kernel
/-- a lend of the law's -/
theorem lendM_ok {one two : Int} {op : List Rw} {d : Draw} (ok : d.Ok) (hw : WordsAt d op) (hf : Few op) (hk : ∀ r ∈ op, RowS r) (h6 : (op.filter Rw.isLend).length < 6) : OkRow op (lendM one two (op.filter Rw.named) d) := by
  have hn := hf.named
  have hfr : Fresh op (wordM one two ((op.filter Rw.named).length : Int) d) := fresh_of ok hw (by omega) (Int.le_refl _) (by omega)
  unfold lendM
  split
  · rename_i h
    have hm : (op.filter Rw.named).getD (two % (op.filter Rw.named).length).toNat .fin ∈ op.filter Rw.named := getD_mem (by
      have := Int.emod_lt_of_pos two h.2
      have := Int.emod_nonneg two (show ((op.filter Rw.named).length : Int) ≠ 0 by omega)
      omega)
    generalize (op.filter Rw.named).getD (two % (op.filter Rw.named).length).toNat .fin = q at *
    have hq := List.mem_filter.mp hm
    refine ⟨hfr, fun u hu => ?_, h6⟩
    cases hu
    refine ⟨q, hq.1, hq.2, rfl, fun hkw hl => ?_⟩
    split at hkw
    · exact absurd hkw read_ne_write
    · rename_i h2
      have hs := hk q hq.1
      cases q with
      | lend a b c =>
        rcases hs.2.1 with hb | hb
        · exact absurd ⟨rfl, hb⟩ h2
        · exact hb
      | _ => cases hl
  · exact ⟨hfr, fun u hu => (by cases hu), h6⟩
theorem deedM_ok {one two : Int} {op hands : List Rw} (hh : hands = (op.filter Rw.named).filter Rw.isLend) (hk : ∀ r ∈ op, RowS r) (hl : 0 < hands.length) : OkRow op (deedM one two hands) := by
  have hm : hands.getD (two % hands.length).toNat .fin ∈ hands := getD_mem (by
    have := Int.emod_lt_of_pos two (show (0 : Int) < hands.length by omega)
    have := Int.emod_nonneg two (show (hands.length : Int) ≠ 0 by omega)
    omega)
  unfold deedM
  generalize hands.getD (two % hands.length).toNat .fin = q at *
  rw [hh] at hm
  have hq2 := List.mem_filter.mp hm
  have hq := List.mem_filter.mp hq2.1
  split
  · exact ⟨q, hq.1, hq2.2, rfl, trivial⟩
  split
  · exact ⟨q, hq.1, hq2.2, rfl, trivial⟩
  split
  · exact ⟨q, hq.1, hq2.2, rfl, trivial⟩
  · rename_i h
    refine ⟨q, hq.1, hq2.2, rfl, ?_⟩
    have hs := hk q hq.1
    have hl2 := hq2.2
    cases q with
    | lend a b c =>
      rcases hs.2.1 with hb | hb
      · exact absurd hb h
      · exact hb
    | _ => cases hl2
theorem getLast_getD {op : List Rw} (h : 0 < op.length) : op.getLast? = some (op.getD (op.length - 1) .fin) := by
  rw [List.getLast?_eq_getElem?, List.getD_eq_getElem?_getD, List.getElem?_eq_getElem (by omega)]
  rfl
theorem rowM_ok {way one two : Int} {op : List Rw} {d : Draw} (ok : d.Ok) (hw : WordsAt d op) (hf : Few op) (hk : ∀ r ∈ op, RowS r) : OkRow op (rowM way one two op d) := by
  have hn := hf.named
  have hnl := named_len op
  unfold rowM
  have hll : ((op.filter Rw.named).filter Rw.isLend).length = (op.filter Rw.isLend).length := by rw [lend_of_named]
  unfold rowN
  split
  · rename_i h
    exact lendM_ok ok hw hf hk (by omega)
  split
  · rename_i h
    refine ⟨fresh_of ok hw (by omega) (Int.le_refl _) (by omega), ?_, by omega⟩
    rw [List.length_map, List.length_range]
    omega
  split
  · trivial
  split
  · trivial
  split
  · rename_i h
    show op.getLast? = some .either
    rw [getLast_getD (by omega)]
    have h2 := h.2.2
    generalize op.getD (op.length - 1) .fin = q at *
    cases q <;> first | rfl | cases h2
  split
  · rename_i h
    exact deedM_ok rfl hk (by omega)
  split
  · rename_i h
    intro z
    rw [z] at h
    exact absurd h (by decide)
  · rename_i h
    refine lendM_ok ok hw hf hk ?_
    cases op with
    | nil => decide
    | cons a b => exact absurd (by show (0 : Int) < ((b.length + 1 : Nat) : Int); omega) h
/-! a gadget -/
theorem fresh_app {op : List Rw} {r : Rw} {w : Str} (h : Fresh op w) (hr : r.named = true → r.word ≠ w) : Fresh (op ++ [r]) w := fun q hq hn => by
  rcases List.mem_append.mp hq with hq | hq
  · exact h q hq hn
  · rcases List.mem_singleton.mp hq with rfl
    exact hr hn
theorem hand_last {op : List Rw} {h k : Str} {s : Src} {p : Str → Prop} (hp : p k) : Hand (op ++ [.lend h k s]) h p := ⟨_, List.mem_append.mpr (.inr List.mem_cons_self), rfl, rfl, hp⟩
theorem hand_app {op : List Rw} {r : Rw} {w : Str} {p : Str → Prop} (h : Hand op w p) : Hand (op ++ [r]) w p := by
  obtain ⟨q, h1, h2⟩ := h
  exact ⟨q, List.mem_append.mpr (.inl h1), h2⟩
theorem meant_last {op : List Rw} {r : Rw} {k : Str} (hn : r.named = true) (hk : k = "write" → r.isLend = true → r.kind = "write") : Meant (op ++ [r]) r.word k := ⟨r, List.mem_append.mpr (.inr List.mem_cons_self), hn, rfl, hk⟩
theorem meant_app {op : List Rw} {r : Rw} {w k : Str} (h : Meant op w k) : Meant (op ++ [r]) w k := by
  obtain ⟨q, h1, h2⟩ := h
  exact ⟨q, List.mem_append.mpr (.inl h1), h2⟩
theorem lends_app (op : List Rw) (r : Rw) : ((op ++ [r]).filter Rw.isLend).length = (op.filter Rw.isLend).length + (if r.isLend = true then 1 else 0) := by
  rw [List.filter_append, List.length_append, List.filter_cons]
  split <;> rfl
theorem picks_app (op : List Rw) (r : Rw) : ((op ++ [r]).filter Rw.isPick).length = (op.filter Rw.isPick).length + (if r.isPick = true then 1 else 0) := by
  rw [List.filter_append, List.length_append, List.filter_cons]
  split <;> rfl
theorem VR.lendT {op op' rs : List Rw} {h k : Str} {n : Int} (f : Fresh op h) (l : (op.filter Rw.isLend).length < 6) (t : VR (op ++ [.lend h k (.thing n)]) rs op') : VR op (.lend h k (.thing n) :: rs) op' := ⟨⟨f, fun u hu => (by cases hu), l⟩, t⟩
theorem VR.lendW {op op' rs : List Rw} {h k u : Str} (f : Fresh op h) (m : Meant op u k) (l : (op.filter Rw.isLend).length < 6) (t : VR (op ++ [.lend h k (.word u)]) rs op') : VR op (.lend h k (.word u) :: rs) op' := ⟨⟨f, fun v hv => (by cases hv; exact m), l⟩, t⟩
theorem VR.pickR {op op' rs : List Rw} {w : Str} {ts : List Int} (f : Fresh op w) (p : 0 < ts.length) (l : (op.filter Rw.isPick).length < 3) (t : VR (op ++ [.pick w ts]) rs op') : VR op (.pick w ts :: rs) op' := ⟨⟨f, p, l⟩, t⟩
theorem VR.againR {op op' rs : List Rw} (t : VR (op ++ [.again]) rs op') : VR op (.again :: rs) op' := ⟨trivial, t⟩
theorem VR.eitherR {op op' rs : List Rw} (t : VR (op ++ [.either]) rs op') : VR op (.either :: rs) op' := ⟨trivial, t⟩
theorem VR.lookR {op op' rs : List Rw} {h : Str} (a : Hand op h fun _ => True) (t : VR op rs op') : VR op (.look h :: rs) op' := ⟨a, t⟩
theorem VR.backR {op op' rs : List Rw} {h : Str} (a : Hand op h fun _ => True) (t : VR op rs op') : VR op (.back h :: rs) op' := ⟨a, t⟩
theorem VR.orR {op op' rs : List Rw} (t : VR (op ++ [.either]) rs op') : VR (op ++ [.either]) (.or :: rs) op' := ⟨by show (op ++ [Rw.either]).getLast? = _; rw [List.getLast?_concat], t⟩
theorem VR.finR {op op' rs : List Rw} {r : Rw} (t : VR op rs op') : VR (op ++ [r]) (.fin :: rs) op' := ⟨(by show op ++ [r] ≠ []; simp), by
  show VR (opUpd (op ++ [r]) .fin) rs op'
  have e : opUpd (op ++ [r]) .fin = op := by
    unfold opUpd
    rw [if_neg (by decide), if_pos (show Rw.fin.isFin = true from rfl), List.dropLast_concat]
  rw [e]
  exact t⟩
theorem VR.nilR {op : List Rw} : VR op [] op := rfl
theorem gad_vr {op : List Rw} {one two t : Int} {a b c : Str} (fa : Fresh op a) (fb : Fresh op b) (fc : Fresh op c) (ab : a ≠ b) (ac : a ≠ c) (bc : b ≠ c) (hl : (op.filter Rw.isLend).length ≤ 2) (hp : (op.filter Rw.isPick).length ≤ 2) : VR op (gadA one two a b c t) op := by
  have ww : ∀ {k : Str}, k = "write" → ("write" : Str) = "write" := fun _ => rfl
  unfold gadA
  split
  · unfold fourM
    split
    · exact VR.lendT fa (by first | omega | (simp only [lends_app, Rw.isLend, if_true, if_false, Bool.false_eq_true]; omega)) (VR.againR (VR.lookR (hand_app (hand_last trivial)) (VR.backR (hand_app (hand_last trivial)) (VR.finR (VR.finR VR.nilR)))))
    split
    · exact VR.lendT fa (by first | omega | (simp only [lends_app, Rw.isLend, if_true, if_false, Bool.false_eq_true]; omega)) (VR.eitherR (VR.backR (hand_app (hand_last trivial)) (VR.orR (VR.lookR (hand_app (hand_last trivial)) (VR.finR (VR.lookR (hand_last trivial) (VR.finR VR.nilR)))))))
    split
    · refine VR.lendT fa (by first | omega | (simp only [lends_app, Rw.isLend, if_true, if_false, Bool.false_eq_true]; omega)) (VR.lendW (fresh_app fb fun _ => ab) (meant_last (r := .lend a "write" (.thing t)) rfl fun _ _ => rfl) (by first | omega | (simp only [lends_app, Rw.isLend, if_true, if_false, Bool.false_eq_true]; omega)) (VR.lendW (fresh_app (fresh_app fc fun _ => ac) fun _ => bc) (meant_last (r := .lend b "write" (.word a)) rfl fun _ _ => rfl) (by first | omega | (simp only [lends_app, Rw.isLend, if_true, if_false, Bool.false_eq_true]; omega)) (VR.backR ?_ (VR.lookR ?_ (VR.finR (VR.finR (VR.finR VR.nilR)))))))
      · exact pick3_s (p := fun w => Hand _ w _) two (hand_app (hand_app (hand_last trivial))) (hand_app (hand_last trivial)) (hand_app (hand_app (hand_last trivial)))
      · exact pick3_s (p := fun w => Hand _ w _) one (hand_last trivial) (hand_last trivial) (hand_app (hand_last trivial))
    · exact VR.lendT fa (by first | omega | (simp only [lends_app, Rw.isLend, if_true, if_false, Bool.false_eq_true]; omega)) (VR.lendW (fresh_app fb fun _ => ab) (meant_last (r := .lend a "write" (.thing t)) rfl fun _ _ => rfl) (by first | omega | (simp only [lends_app, Rw.isLend, if_true, if_false, Bool.false_eq_true]; omega)) (VR.lendT (fresh_app (fresh_app fc fun _ => ac) fun _ => bc) (by first | omega | (simp only [lends_app, Rw.isLend, if_true, if_false, Bool.false_eq_true]; omega)) (VR.againR (VR.backR (hand_app (hand_app (hand_last trivial))) (VR.finR (VR.finR (VR.finR (VR.finR VR.nilR))))))))
  split
  · exact VR.pickR fc (by show 0 < 5; decide) (by first | omega | (simp only [picks_app, Rw.isPick, if_true, if_false, Bool.false_eq_true]; omega)) (VR.lendT (fresh_app fa fun _ => ac.symm) (by first | omega | (simp only [lends_app, Rw.isLend, if_true, if_false, Bool.false_eq_true]; omega)) (VR.lendW (fresh_app (fresh_app fb fun _ => bc.symm) fun _ => ab) (meant_app (meant_last (r := .pick c _) rfl fun _ z => (by cases z))) (by first | omega | (simp only [lends_app, Rw.isLend, if_true, if_false, Bool.false_eq_true]; omega)) (VR.finR (VR.finR (VR.finR VR.nilR)))))
  split
  · refine VR.lendT fa (by first | omega | (simp only [lends_app, Rw.isLend, if_true, if_false, Bool.false_eq_true]; omega)) (VR.lendW (fresh_app fb fun _ => ab) (meant_last (r := .lend a "write" (.thing t)) rfl fun _ _ => rfl) (by first | omega | (simp only [lends_app, Rw.isLend, if_true, if_false, Bool.false_eq_true]; omega)) (VR.eitherR (VR.backR ?_ (VR.orR (VR.lookR (hand_app (hand_last trivial)) (VR.finR (VR.lookR (hand_app (hand_last trivial)) (VR.finR (VR.finR VR.nilR)))))))))
    exact pick2_s (p := fun w => Hand _ w _) two (hand_app (hand_app (hand_last trivial))) (hand_app (hand_last trivial))
  split
  · exact VR.lendT fa (by first | omega | (simp only [lends_app, Rw.isLend, if_true, if_false, Bool.false_eq_true]; omega)) (VR.lendT (fresh_app fb fun _ => ab) (by first | omega | (simp only [lends_app, Rw.isLend, if_true, if_false, Bool.false_eq_true]; omega)) (VR.lendT (fresh_app (fresh_app fc fun _ => ac) fun _ => bc) (by first | omega | (simp only [lends_app, Rw.isLend, if_true, if_false, Bool.false_eq_true]; omega)) (VR.lookR (hand_app (hand_last trivial)) (VR.finR (VR.finR (VR.finR VR.nilR))))))
  split
  · exact VR.lendT fa (by first | omega | (simp only [lends_app, Rw.isLend, if_true, if_false, Bool.false_eq_true]; omega)) (VR.backR (hand_last trivial) (VR.lendW (fresh_app fb fun _ => ab) (meant_last (r := .lend a "write" (.thing t)) rfl fun _ _ => rfl) (by first | omega | (simp only [lends_app, Rw.isLend, if_true, if_false, Bool.false_eq_true]; omega)) (VR.lookR (hand_last trivial) (VR.finR (VR.finR VR.nilR)))))
  · exact VR.pickR fc (by show 0 < 2; decide) (by first | omega | (simp only [picks_app, Rw.isPick, if_true, if_false, Bool.false_eq_true]; omega)) (VR.lendT (fresh_app fa fun _ => ac.symm) (by first | omega | (simp only [lends_app, Rw.isLend, if_true, if_false, Bool.false_eq_true]; omega)) (VR.eitherR (VR.backR (hand_app (hand_last trivial)) (VR.orR (VR.finR (VR.lendW (fresh_app (fresh_app fb fun _ => bc.symm) fun _ => ab) (meant_app (meant_last (r := .pick c _) rfl fun _ z => (by cases z))) (by first | omega | (simp only [lends_app, Rw.isLend, if_true, if_false, Bool.false_eq_true]; omega)) (VR.lookR (hand_app (hand_last trivial)) (VR.finR (VR.finR (VR.finR VR.nilR))))))))))
theorem wordsAt_st {cells : List Int} {d : Draw} {most : Int} {odd : Bool} : ∀ i, WordsAt d (sheetSt cells d most odd i).2
  | 0 => fun j r h => by cases h
  | i + 1 => by
    have ih := wordsAt_st (cells := cells) (d := d) (most := most) (odd := odd) i
    unfold sheetSt stepM
    split
    · exact ih
    · exact wordsAt_upd ih rowM_word
theorem vr_st {cells : List Int} {d : Draw} {most : Int} {odd : Bool} (ok : d.Ok) : ∀ i, VR [] (sheetSt cells d most odd i).1 (sheetSt cells d most odd i).2
  | 0 => rfl
  | i + 1 => by
    have ih := vr_st (cells := cells) (most := most) (odd := odd) ok i
    have hw := wordsAt_st (cells := cells) (d := d) (most := most) (odd := odd) i
    have hf := few_st cells d most odd i
    have hs := (st_s (cells := cells) (most := most) (odd := odd) ok i).2
    have hn := hf.named
    have hnl := named_len (sheetSt cells d most odd i).2
    unfold sheetSt stepM
    split
    · rename_i h
      refine VR.app ih ?_
      exact gad_vr (fresh_of ok hw (by omega) (Int.le_refl _) (by omega)) (fresh_of ok hw (by omega) (by omega) (by omega)) (fresh_of ok hw (by omega) (by omega) (by omega))
        (word_ne ok (by omega) (by omega) (by omega) (by omega) (by omega)) (word_ne ok (by omega) (by omega) (by omega) (by omega) (by omega)) (word_ne ok (by omega) (by omega) (by omega) (by omega) (by omega)) (by omega) (by omega)
    · exact VR.app ih ⟨rowM_ok ok hw hf hs, rfl⟩
theorem vr_fins : ∀ (n : Nat) (op : List Rw), op.length = n → VR op ((List.range n).map fun _ => Rw.fin) []
  | 0, op, h => List.length_eq_zero_iff.mp h
  | n + 1, op, h => by
    have hne : op ≠ [] := fun z => by rw [z] at h; cases h
    rw [List.range_succ_eq_map, List.map_cons, List.map_map]
    rw [← List.dropLast_concat_getLast hne]
    exact VR.finR (vr_fins n op.dropLast (by rw [List.length_dropLast]; omega))
theorem vr_drawn (ns : List Int) (most : Int) : VR [] (drawnM ns most) [] := by
  have h : VR [] (baseM ns most) [] := by
    have := vr_st (cells := cellsM ns most) (most := mostM (wayM ns)) (odd := decide (3 < wayM ns)) (drawM_ok ns) ((cellsM ns most).length / 3)
    exact VR.app this (vr_fins _ _ rfl)
  unfold drawnM
  split
  · exact VR.app (VR.app (VR.app h h) h) h
  · exact h
end BD
namespace BD
open PySem PySem.Spec PyProof.Rows L2 Evl
/-! ### the stack by rows -/
def opL (rs : List Rw) : Nat → List Rw
  | 0 => []
  | i + 1 => match rs[i]? with
    | some r => opUpd (opL rs i) r
    | none => opL rs i
theorem opL_next {rs : List Rw} {i : Nat} {r : Rw} (h : rs[i]? = some r) : opL rs (i + 1) = opUpd (opL rs i) r := by
  show (match rs[i]? with
    | some r => opUpd (opL rs i) r
    | none => opL rs i) = _
  rw [h]
theorem vr_at {op' : List Rw} : ∀ {rs : List Rw} {op : List Rw}, VR op rs op' → ∀ (i : Nat) (r : Rw), rs[i]? = some r → ∃ opi, OkRow opi r ∧ VR (opUpd opi r) (rs.drop (i + 1)) op' ∧ (i = 0 → opi = op)
  | [], _, _, i, r, h => by simp at h
  | a :: rs, op, hv, 0, r, h => by
    have e : a = r := Option.some.inj h
    subst e
    exact ⟨op, hv.1, hv.2, fun _ => rfl⟩
  | a :: rs, op, hv, i + 1, r, h => by
    obtain ⟨opi, h1, h2, _⟩ := vr_at hv.2 i r h
    exact ⟨opi, h1, h2, fun z => by cases z⟩
theorem vr_opL {rs op' : List Rw} (hv : VR [] rs op') : ∀ i, i ≤ rs.length → VR (opL rs i) (rs.drop i) op'
  | 0, _ => hv
  | i + 1, h => by
    have hlt : i < rs.length := h
    have ih := vr_opL hv i (by omega)
    rw [List.drop_eq_getElem_cons hlt] at ih
    rw [opL_next (List.getElem?_eq_getElem hlt)]
    exact ih.2
theorem vr_ok {rs op' : List Rw} (hv : VR [] rs op') {i : Nat} {r : Rw} (h : rs[i]? = some r) : OkRow (opL rs i) r := by
  have hlt := (List.getElem?_eq_some_iff.mp h).1
  have ih := vr_opL hv i (by omega)
  rw [List.drop_eq_getElem_cons hlt, (List.getElem?_eq_some_iff.mp h).2] at ih
  exact ih.1
theorem vr_last {rs op' : List Rw} (hv : VR [] rs op') : opL rs rs.length = op' := by
  have := vr_opL hv rs.length (Nat.le_refl _)
  rw [List.drop_length] at this
  exact this
theorem opL_pr {rs : List Rw} (g : Good rs) : ∀ i, i ≤ rs.length → opL rs i = (pr rs i).reverse.map fun j => rs.getD j .fin
  | 0, _ => rfl
  | i + 1, h => by
    have hlt : i < rs.length := h
    have hg := List.getElem?_eq_getElem hlt
    have ih := opL_pr g i (by omega)
    rw [opL_next hg, pr_next hg, ih]
    unfold opUpd
    split
    · rw [List.reverse_cons, List.map_append]
      congr 1
      show [rs[i]] = [rs.getD i .fin]
      rw [List.getD_eq_getElem?_getD, hg]
      rfl
    split
    · rename_i h1 h2
      cases hp : pr rs i with
      | nil => exact absurd hp (g.fin i _ hg h2)
      | cons a t =>
        rw [List.reverse_cons, List.map_append]
        show (_ ++ [_]).dropLast = _
        rw [List.dropLast_concat]
        rfl
    · rfl
/-! ### where a block ends -/
theorem pr_suffix {rs : List Rw} {i : Nat} : ∀ p, i ∈ pr rs p → ∃ l, pr rs p = l ++ i :: pr rs i
  | 0, h => by cases h
  | p + 1, h => by
    cases hg : rs[p]? with
    | none =>
      have e : pr rs (p + 1) = pr rs p := by
        show (match rs[p]? with
          | some r => if r.opens = true then p :: pr rs p else if r.isFin = true then (pr rs p).tail else pr rs p
          | none => pr rs p) = _
        rw [hg]
      rw [e] at h ⊢
      exact pr_suffix p h
    | some r =>
      rw [pr_next hg] at h ⊢
      split
      · rename_i ho
        rw [if_pos ho] at h
        rcases List.mem_cons.mp h with h | h
        · subst h
          exact ⟨[], rfl⟩
        · obtain ⟨l, hl⟩ := pr_suffix p h
          exact ⟨p :: l, by rw [hl]; rfl⟩
      · rename_i ho
        rw [if_neg ho] at h
        split
        · rename_i hf
          rw [if_pos hf] at h
          obtain ⟨l, hl⟩ := pr_suffix p (List.mem_of_mem_tail h)
          cases l with
          | nil =>
            rw [hl] at h
            have h2 : i ∈ pr rs i := h
            have := (pr_mem i i h2).1
            omega
          | cons a l => exact ⟨l, by rw [hl]; rfl⟩
        · rename_i hf
          rw [if_neg hf] at h
          exact pr_suffix p h
theorem leaves {rs : List Rw} {i : Nat} : ∀ (k p : Nat), p + k = rs.length → i ∈ pr rs p → i ∉ pr rs rs.length → ∃ e, p ≤ e ∧ e < rs.length ∧ i ∈ pr rs e ∧ i ∉ pr rs (e + 1)
  | 0, p, hk, h, hn => by
    rw [← hk] at hn
    exact absurd h hn
  | k + 1, p, hk, h, hn => by
    by_cases h2 : i ∈ pr rs (p + 1)
    · obtain ⟨e, h3, h4, h5, h6⟩ := leaves k (p + 1) (by omega) h2 hn
      exact ⟨e, by omega, h4, h5, h6⟩
    · exact ⟨p, Nat.le_refl _, by omega, h, h2⟩
structure EndOf (rs : List Rw) (i e : Nat) : Prop where
  gt : i < e
  lt : e < rs.length
  fin : ∃ r, rs[e]? = some r ∧ r.isFin = true
  st : pr rs e = i :: pr rs i
  up : endUp rs i rs.length = (e : Int)
theorem end_of {rs : List Rw} (g : Good rs) {i : Nat} {r : Rw} (h : rs[i]? = some r) (ho : r.opens = true) : ∃ e, EndOf rs i e := by
  have hil := (List.getElem?_eq_some_iff.mp h).1
  have h1 : i ∈ pr rs (i + 1) := by
    rw [pr_next h, if_pos ho]
    exact List.mem_cons_self
  have hn : i ∉ pr rs rs.length := by
    rw [g.last]
    exact fun z => by cases z
  obtain ⟨e, h2, h3, h4, h5⟩ := leaves (rs.length - (i + 1)) (i + 1) (by omega) h1 hn
  have hg := List.getElem?_eq_getElem h3
  rw [pr_next hg] at h5
  have hno : ¬ rs[e].opens = true := fun z => by
    rw [if_pos z] at h5
    exact h5 (List.mem_cons_of_mem _ h4)
  rw [if_neg hno] at h5
  have hf : rs[e].isFin = true := by
    cases hf : rs[e].isFin with
    | true => rfl
    | false =>
      rw [hf, if_neg (by decide)] at h5
      exact absurd h4 h5
  rw [if_pos hf] at h5
  obtain ⟨l, hl⟩ := pr_suffix e h4
  cases l with
  | cons a l =>
    rw [hl] at h5
    exact absurd (List.mem_append.mpr (.inr List.mem_cons_self)) h5
  | nil =>
    have hst : pr rs e = i :: pr rs i := hl
    have hhm : hm rs e = (i : Int) := by unfold hm; rw [hst]
    exact ⟨e, by omega, h3, ⟨_, hg, hf⟩, hst, endUp_stay (by rw [finF_at hg, hf, hhm, decide_eq_true rfl]; rfl) (first_end g hg hst) rs.length h3⟩
/-- an end's own opener -/
theorem end_at {rs : List Rw} (g : Good rs) {e : Nat} {r : Rw} (h : rs[e]? = some r) (hf : r.isFin = true) : ∃ (i : Nat) (q : Rw), rs[i]? = some q ∧ q.opens = true ∧ hm rs e = (i : Int) ∧ EndOf rs i e := by
  obtain ⟨i, t, h1, h2, h3, q, hq, ho⟩ := hm_fin g h hf
  have hel := (List.getElem?_eq_some_iff.mp h).1
  have hm' : i ∈ pr rs e := by rw [h1]; exact List.mem_cons_self
  obtain ⟨l, hl⟩ := pr_suffix e hm'
  have hst : pr rs e = i :: pr rs i := by
    cases l with
    | nil => exact hl
    | cons a l =>
      rw [h1] at hl
      have hnd := pr_nodup (rs := rs) e
      rw [h1] at hnd
      injection hl with ha hb
      rw [hb] at hnd
      exact absurd (List.mem_append.mpr (.inr List.mem_cons_self)) (List.nodup_cons.mp hnd).1
  exact ⟨i, q, hq, ho, h2, h3, hel, ⟨r, h, hf⟩, hst, endUp_stay (by rw [finF_at h, hf, h2, decide_eq_true rfl]; rfl) (first_end g h hst) rs.length hel⟩
theorem EndOf.next {rs : List Rw} {i e : Nat} (h : EndOf rs i e) : pr rs (e + 1) = pr rs i := by
  obtain ⟨r, h1, h2⟩ := h.fin
  have ho : r.opens = false := by cases r <;> first | rfl | cases h2
  rw [pr_next h1, if_neg (by rw [ho]; decide), if_pos h2, h.st]
  rfl
theorem head_st {rs : List Rw} {p i : Nat} {t : List Nat} (h : pr rs p = i :: t) : pr rs p = i :: pr rs i := by
  have hm' : i ∈ pr rs p := by rw [h]; exact List.mem_cons_self
  obtain ⟨l, hl⟩ := pr_suffix p hm'
  cases l with
  | nil => exact hl
  | cons a l =>
    rw [h] at hl
    have hnd := pr_nodup (rs := rs) p
    rw [h] at hnd
    injection hl with ha hb
    rw [hb] at hnd
    exact absurd (List.mem_append.mpr (.inr List.mem_cons_self)) (List.nodup_cons.mp hnd).1
theorem hm_head {rs : List Rw} {p : Nat} {i : Nat} (h : hm rs p = (i : Int)) : pr rs p = i :: pr rs i := by
  unfold hm at h
  cases hp : pr rs p with
  | nil => rw [hp] at h; exact absurd h (by show ¬ (-1 : Int) = (i : Int); omega)
  | cons a t =>
    rw [hp] at h
    have e : a = i := by
      have h2 : (a : Int) = (i : Int) := h
      omega
    subst e
    rw [← hp]
    exact head_st hp
theorem opL_eq {rs : List Rw} (g : Good rs) {i j : Nat} (hi : i ≤ rs.length) (hj : j ≤ rs.length) (h : pr rs i = pr rs j) : opL rs i = opL rs j := by
  rw [opL_pr g i hi, opL_pr g j hj, h]
theorem opL_in {rs : List Rw} (g : Good rs) {i p : Nat} {q : Rw} (hp : p ≤ rs.length) (hq : rs[i]? = some q) (h : pr rs p = i :: pr rs i) : opL rs p = opL rs i ++ [q] := by
  have hil := (List.getElem?_eq_some_iff.mp hq).1
  rw [opL_pr g p hp, opL_pr g i (by omega), h, List.reverse_cons, List.map_append]
  congr 1
  show [rs.getD i .fin] = [q]
  rw [List.getD_eq_getElem?_getD, hq]
  rfl
/-! ### a sheet -/
structure Sheet (rs : List Rw) : Prop where
  vr : VR [] rs []
  g : Good rs
  s : ∀ r ∈ rs, RowS r
theorem sheet_drawn (ns : List Int) (most : Int) : Sheet (drawnM ns most) := ⟨vr_drawn ns most, good_drawn ns most, drawn_s ns most⟩
theorem or_home {rs : List Rw} (sh : Sheet rs) {i : Nat} (h : rs[i]? = some .or) : ∃ b : Nat, hm rs i = (b : Int) ∧ pr rs i = b :: pr rs b ∧ rs[b]? = some .either := by
  have ok : (opL rs i).getLast? = some .either := vr_ok sh.vr h
  have hil := (List.getElem?_eq_some_iff.mp h).1
  rw [opL_pr sh.g i (by omega)] at ok
  cases hp : pr rs i with
  | nil => rw [hp] at ok; cases ok
  | cons b t =>
    rw [hp, List.reverse_cons, List.map_append] at ok
    have ok2 : (t.reverse.map (fun j => rs.getD j .fin) ++ [rs.getD b .fin]).getLast? = some .either := ok
    rw [List.getLast?_concat] at ok2
    have hb := (pr_mem i b (by rw [hp]; exact List.mem_cons_self)).1
    have hbl := List.getElem?_eq_getElem (show b < rs.length by omega)
    refine ⟨b, by unfold hm; rw [hp], ?_, ?_⟩
    · rw [← hp]
      exact head_st hp
    · rw [List.getD_eq_getElem?_getD, hbl] at ok2
      rw [hbl]
      exact ok2
end BD
namespace BD
open PySem PySem.Spec PyProof.Rows L2 Evl
/-! ### what is held answers to the blocks -/
def Rw.kindE : Rw → Str
  | .lend _ k _ => k
  | _ => "pick"
structure EntOf (q : Rw) (e : Ent) : Prop where
  w : e.w = q.word
  k : e.k = q.kindE
def HeldOk (op : List Rw) (es : List Ent) : Prop := Paired EntOf (op.filter Rw.named) es
theorem held_words : ∀ {qs : List Rw} {es : List Ent}, Paired EntOf qs es → es.map Ent.w = qs.map Rw.word
  | _, _, .nil => rfl
  | _, _, .cons r t => by rw [List.map_cons, List.map_cons, r.w, held_words t]
theorem held_mem {qs : List Rw} {es : List Ent} (h : Paired EntOf qs es) {q : Rw} (hq : q ∈ qs) : ∃ e ∈ es, EntOf q e := by
  induction h with
  | nil => cases hq
  | cons r t ih =>
    rcases List.mem_cons.mp hq with z | z
    · subst z
      exact ⟨_, List.mem_cons_self, r⟩
    · obtain ⟨e, h1, h2⟩ := ih z
      exact ⟨e, List.mem_cons_of_mem _ h1, h2⟩
/-- the words of what is open differ -/
def WN (op : List Rw) : Prop := ((op.filter Rw.named).map Rw.word).Nodup
theorem wn_upd {op : List Rw} {r : Rw} (h : WN op) (ok : OkRow op r) : WN (opUpd op r) := by
  unfold opUpd
  split
  · unfold WN
    rw [List.filter_append, List.map_append]
    cases hn : r.named with
    | false =>
      rw [List.filter_cons, if_neg (by rw [hn]; decide)]
      show (_ ++ []).Nodup
      rw [List.append_nil]
      exact h
    | true =>
      have hf : Fresh op r.word := by
        cases r with
        | lend a b c => exact ok.1
        | pick a b => exact ok.1
        | _ => cases hn
      rw [List.filter_cons, if_pos hn]
      refine List.nodup_append.mpr ⟨h, by simp, fun a ha b hb => ?_⟩
      obtain ⟨q, hq, rfl⟩ := List.mem_map.mp ha
      rcases List.mem_singleton.mp hb with rfl
      have := List.mem_filter.mp hq
      exact hf q this.1 this.2
  split
  · unfold WN at h ⊢
    exact h.sublist (((List.dropLast_sublist op).filter _).map _)
  · exact h
theorem wn_at {rs : List Rw} (sh : Sheet rs) : ∀ i, i ≤ rs.length → WN (opL rs i)
  | 0, _ => List.nodup_nil
  | i + 1, h => by
    have hlt : i < rs.length := h
    have hg := List.getElem?_eq_getElem hlt
    rw [opL_next hg]
    exact wn_upd (wn_at sh i (by omega)) (vr_ok sh.vr hg)
theorem few_upd {op : List Rw} {r : Rw} (f : Few op) (ok : OkRow op r) : Few (opUpd op r) := by
  unfold opUpd
  split
  · cases r with
    | lend a b c => exact ⟨by rw [lends_app]; show _ + 1 ≤ 6; have := ok.2.2; omega, by rw [picks_app]; exact f.picks⟩
    | pick a b => exact ⟨by rw [lends_app]; exact f.lends, by rw [picks_app]; show _ + 1 ≤ 3; have := ok.2.2; omega⟩
    | either => exact ⟨by rw [lends_app]; exact f.lends, by rw [picks_app]; exact f.picks⟩
    | again => exact ⟨by rw [lends_app]; exact f.lends, by rw [picks_app]; exact f.picks⟩
    | _ => rename_i h; cases h
  split
  · exact few_drop f
  · exact f
theorem few_at {rs : List Rw} (sh : Sheet rs) : ∀ i, i ≤ rs.length → Few (opL rs i)
  | 0, _ => ⟨Nat.zero_le _, Nat.zero_le _⟩
  | i + 1, h => by
    have hlt : i < rs.length := h
    have hg := List.getElem?_eq_getElem hlt
    rw [opL_next hg]
    exact few_upd (few_at sh i (by omega)) (vr_ok sh.vr hg)
/-- a standing of the sheet -/
structure Std (rs : List Rw) (i : Nat) (es : List Ent) : Prop where
  le : i ≤ rs.length
  held : HeldOk (opL rs i) es
theorem Std.len {rs : List Rw} {i : Nat} {es : List Ent} (sh : Sheet rs) (h : Std rs i es) : es.length ≤ 9 := by
  have := (few_at sh i h.le).named
  have e := Paired.length h.held
  omega
theorem std0 (rs : List Rw) : Std rs 0 [] := ⟨Nat.zero_le _, .nil⟩
theorem Std.ok {rs : List Rw} {i : Nat} {es : List Ent} (sh : Sheet rs) (h : Std rs i es) : StepOk rs i es := by
  refine ⟨fun hh k s hr => ⟨?_, fun u hu => ?_⟩, fun w ts hr => ?_, fun hr => ?_⟩
  · rw [held_words h.held]
    exact wn_at sh i h.le
  · have ok : OkRow (opL rs i) (.lend hh k s) := vr_ok sh.vr hr
    obtain ⟨q, h1, h2, h3, _⟩ := ok.2.1 u hu
    obtain ⟨e, he, hE⟩ := held_mem h.held (List.mem_filter.mpr ⟨h1, h2⟩)
    exact ⟨e, he, hE.w.trans h3⟩
  · have ok : OkRow (opL rs i) (.pick w ts) := vr_ok sh.vr hr
    exact ok.2.1
  · obtain ⟨b, hb, _⟩ := or_home sh hr
    exact ⟨b, hb⟩
theorem heldOk_app {op : List Rw} {es : List Ent} {r : Rw} {e : Ent} (h : HeldOk op es) (hn : r.named = true) (he : EntOf r e) : HeldOk (op ++ [r]) (es ++ [e]) := by
  unfold HeldOk
  rw [List.filter_append, List.filter_cons, if_pos hn]
  exact paired_app h (.cons he .nil)
theorem heldOk_skip {op : List Rw} {es : List Ent} {r : Rw} (h : HeldOk op es) (hn : r.named = false) : HeldOk (op ++ [r]) es := by
  unfold HeldOk
  rw [List.filter_append, List.filter_cons, if_neg (by rw [hn]; decide)]
  show Paired EntOf (_ ++ []) es
  rw [List.append_nil]
  exact h
theorem heldOk_unskip {op : List Rw} {es : List Ent} {r : Rw} (h : HeldOk (op ++ [r]) es) (hn : r.named = false) : HeldOk op es := by
  unfold HeldOk at h
  rw [List.filter_append, List.filter_cons, if_neg (by rw [hn]; decide)] at h
  have h : Paired EntOf (op.filter Rw.named ++ []) es := h
  rw [List.append_nil] at h
  exact h
theorem heldOk_pop {op : List Rw} {es : List Ent} {r : Rw} (h : HeldOk (op ++ [r]) es) (hn : r.named = true) : HeldOk op es.dropLast := by
  unfold HeldOk at h
  rw [List.filter_append, List.filter_cons, if_pos hn] at h
  have := paired_drop h
  have e : (op.filter Rw.named ++ [r]).dropLast = op.filter Rw.named := List.dropLast_concat
  rw [show (op.filter Rw.named ++ r :: List.filter Rw.named []) = op.filter Rw.named ++ [r] from rfl, e] at this
  exact this
/-- giving back leaves words, kinds, things and sources -/
structure SameE (a b : Ent) : Prop where
  w : b.w = a.w
  k : b.k = a.k
  t : b.t = a.t
  s : b.s = a.s
theorem bk_same (u : Str) (es : List Ent) : ∀ i, i ≤ es.length → Paired SameE (es.take i) (bkS u es i).2
  | 0, _ => by rw [List.take_zero]; exact .nil
  | i + 1, h => by
    have hlt : i < es.length := h
    have hg := List.getElem?_eq_getElem hlt
    have ih := bk_same u es i (by omega)
    rw [List.take_add_one, hg, bkS_next hg]
    split
    · exact paired_app ih (.cons ⟨rfl, rfl, rfl, rfl⟩ .nil)
    · exact paired_app ih (.cons ⟨rfl, rfl, rfl, rfl⟩ .nil)
theorem back_same (u : Str) (es : List Ent) : Paired SameE es (backM u es) := by
  have := bk_same u es es.length (Nat.le_refl _)
  rw [List.take_length] at this
  exact this
theorem held_same : ∀ {qs : List Rw} {es fs : List Ent}, Paired EntOf qs es → Paired SameE es fs → Paired EntOf qs fs
  | _, _, _, .nil, .nil => .nil
  | _, _, _, .cons r t, .cons r2 t2 => .cons ⟨r2.w.trans r.w, r2.k.trans r.k⟩ (held_same t t2)
theorem lentE_of {es : List Ent} {h k : Str} {s : Src} : EntOf (.lend h k s) (lentE es h k s) := by
  unfold lentE
  cases s with
  | thing n => exact ⟨rfl, rfl⟩
  | word u =>
    dsimp only
    cases lookE es u <;> exact ⟨rfl, rfl⟩
/-! ### steps: where they go, what falls -/
def Rw.takes : Rw → Bool
  | .pick _ _ => true | .either => true | .again => true | _ => false
def posM (rs : List Rw) (i : Nat) : Nat := match rs[i]? with
  | some .again => 2 * (endUp rs i rs.length).toNat + 1
  | _ => 2 * i
theorem posM_ge {rs : List Rw} (g : Good rs) (i : Nat) : 2 * i ≤ posM rs i := by
  unfold posM
  split
  · rename_i h
    obtain ⟨e, he⟩ := end_of g h rfl
    rw [he.up]
    have := he.gt
    omega
  · omega
theorem posM_le {rs : List Rw} (g : Good rs) {i : Nat} (h : i ≤ rs.length) : posM rs i ≤ 2 * rs.length := by
  unfold posM
  split
  · rename_i h
    obtain ⟨e, he⟩ := end_of g h rfl
    rw [he.up]
    have := he.lt
    omega
  · omega
theorem posM_no {rs : List Rw} {i : Nat} {r : Rw} (h : rs[i]? = some r) (hn : r ≠ .again) : posM rs i = 2 * i := by
  unfold posM
  rw [h]
  split
  · rename_i h2
    exact absurd (Option.some.inj h2) hn
  · rfl
structure Goes (rs : List Rw) (i : Nat) (es : List Ent) (c : Int) (r : Rw) (j : Nat) : Prop where
  at_ : (goM rs i es c).1 = (j : Int)
  std : Std rs j (goM rs i es c).2
  pos : (r.takes = true → c = 0) → posM rs i < posM rs j
theorem goes {rs : List Rw} (sh : Sheet rs) {i : Nat} {es : List Ent} {c : Int} {r : Rw} (hs : Std rs i es) (hr : rs[i]? = some r) : ∃ j, Goes rs i es c r j := by
  have g := sh.g
  have hil := (List.getElem?_eq_some_iff.mp hr).1
  have ok := vr_ok sh.vr hr
  have hnext := opL_next hr
  have step1 : r ≠ .again → (posM rs i < posM rs (i + 1)) := fun hn => by
    rw [posM_no hr hn]
    have := posM_ge g (i + 1)
    omega
  have hgo : goM rs i es c = (match some r with
    | some (.lend h k s) => ((i : Int) + 1, es ++ [lentE es h k s])
    | some (.pick w ts) => ((i : Int) + 1, es ++ [⟨w, "pick", ts.getD (c % ts.length).toNat 0, "", true⟩])
    | some (.back h) => ((i : Int) + 1, backM h es)
    | some .either => ((brI rs i rs.length).getD (c % (brI rs i rs.length).length).toNat 0, es)
    | some .or => (endUp rs (hm rs i).toNat rs.length, es)
    | some .again => if c % 2 = 0 then (endUp rs i rs.length + 1, es) else ((i : Int) + 1, es)
    | some .fin => if (rs.getD (hm rs i).toNat .fin).isAgain = true then (hm rs i, es) else if (rs.getD (hm rs i).toNat .fin).isEither = true then ((i : Int) + 1, es) else ((i : Int) + 1, es.dropLast)
    | _ => ((i : Int) + 1, es)) := by
    unfold goM
    rw [hr]
    try (cases r <;> rfl)
  cases r with
  | lend h k s =>
    refine ⟨i + 1, by rw [hgo]; rfl, ⟨hil, ?_⟩, fun _ => step1 (fun z => nomatch z)⟩
    rw [hgo, hnext]
    exact heldOk_app hs.held rfl lentE_of
  | pick w ts =>
    refine ⟨i + 1, by rw [hgo]; rfl, ⟨hil, ?_⟩, fun _ => step1 (fun z => nomatch z)⟩
    rw [hgo, hnext]
    exact heldOk_app hs.held rfl ⟨rfl, rfl⟩
  | back h =>
    refine ⟨i + 1, by rw [hgo]; rfl, ⟨hil, ?_⟩, fun _ => step1 (fun z => nomatch z)⟩
    rw [hgo, hnext]
    exact held_same hs.held (back_same h es)
  | look h =>
    refine ⟨i + 1, by rw [hgo]; rfl, ⟨hil, ?_⟩, fun _ => step1 (fun z => nomatch z)⟩
    rw [hgo, hnext]
    exact hs.held
  | change h =>
    refine ⟨i + 1, by rw [hgo]; rfl, ⟨hil, ?_⟩, fun _ => step1 (fun z => nomatch z)⟩
    rw [hgo, hnext]
    exact hs.held
  | either =>
    have hlen : 0 < (brI rs i rs.length).length := Nat.succ_pos _
    have hk : (c % ((brI rs i rs.length).length : Int)).toNat < (brI rs i rs.length).length := by
      have := Int.emod_lt_of_pos c (show (0 : Int) < ((brI rs i rs.length).length : Int) by omega)
      have := Int.emod_nonneg c (show ((brI rs i rs.length).length : Int) ≠ 0 by omega)
      omega
    have hmem : (brI rs i rs.length).getD (c % ((brI rs i rs.length).length : Int)).toNat 0 ∈ brI rs i rs.length := by
      rw [List.getD_eq_getElem?_getD, List.getElem?_eq_getElem hk]
      exact List.getElem_mem hk
    have hto : ∃ j : Nat, (brI rs i rs.length).getD (c % ((brI rs i rs.length).length : Int)).toNat 0 = (j : Int) ∧ i < j ∧ j ≤ rs.length ∧ opL rs j = opL rs i ++ [.either] := by
      rcases List.mem_cons.mp hmem with hm' | hm'
      · exact ⟨i + 1, by rw [hm']; rfl, by omega, hil, by rw [hnext]; rfl⟩
      · obtain ⟨p, hp, he⟩ := List.mem_map.mp hm'
        have hp2 := List.mem_filter.mp hp
        have hpl := List.mem_range.mp hp2.1
        have hgp := List.getElem?_eq_getElem hpl
        have hor := hp2.2
        rw [orF_at hgp] at hor
        simp only [Bool.and_eq_true, decide_eq_true_eq] at hor
        have hst := hm_head hor.1
        have hip := (pr_mem p i (by rw [hst]; exact List.mem_cons_self)).1
        have hno : rs[p].opens = false ∧ rs[p].isFin = false := by
          have h2 := hor.2
          generalize rs[p] = q at *
          cases q <;> first | exact ⟨rfl, rfl⟩ | cases h2
        have hpn : pr rs (p + 1) = pr rs p := by
          rw [pr_next hgp, if_neg (by rw [hno.1]; decide), if_neg (by rw [hno.2]; decide)]
        exact ⟨p + 1, by rw [← he]; rfl, by omega, hpl, opL_in g hpl hr (by rw [hpn, hst])⟩
    obtain ⟨j, h1, h2, h3, h4⟩ := hto
    refine ⟨j, by rw [hgo]; exact h1, ⟨h3, ?_⟩, fun _ => ?_⟩
    · rw [hgo, h4]
      exact heldOk_skip hs.held rfl
    · rw [posM_no hr (fun z => nomatch z)]
      have := posM_ge g j
      omega
  | or =>
    obtain ⟨b, hb, hst, hbe⟩ := or_home sh hr
    obtain ⟨e, he⟩ := end_of g hbe rfl
    have hie : i < e := by
      obtain ⟨q, hq, hf⟩ := he.fin
      by_cases hlt : i < e
      · exact hlt
      · by_cases heq : e = i
        · subst heq
          rw [hr] at hq
          cases hq
          cases hf
        · have := gone hq hf he.st he.gt i (by omega)
          rw [hst] at this
          exact absurd List.mem_cons_self this
    refine ⟨e, by rw [hgo]; show endUp rs (hm rs i).toNat rs.length = _; rw [hb, Int.toNat_natCast]; exact he.up, ⟨by have := he.lt; omega, ?_⟩, fun _ => ?_⟩
    · rw [hgo, opL_eq g (by have := he.lt; omega) (by omega) (he.st.trans hst.symm)]
      exact hs.held
    · rw [posM_no hr (fun z => nomatch z)]
      have := posM_ge g e
      omega
  | again =>
    obtain ⟨e, he⟩ := end_of g hr rfl
    have hel := he.lt
    by_cases hc : c % 2 = 0
    · refine ⟨e + 1, by rw [hgo]; show (if c % 2 = 0 then _ else _ : Int × List Ent).1 = _; rw [if_pos hc, he.up]; rfl, ⟨by omega, ?_⟩, fun _ => ?_⟩
      · rw [hgo, opL_eq g (by omega) (by omega) he.next]
        show HeldOk _ (if c % 2 = 0 then _ else _ : Int × List Ent).2
        rw [if_pos hc]
        exact hs.held
      · unfold posM
        rw [hr]
        show 2 * (endUp rs i rs.length).toNat + 1 < posM rs (e + 1)
        have := posM_ge g (e + 1)
        rw [he.up, Int.toNat_natCast]
        omega
    · refine ⟨i + 1, by rw [hgo]; show (if c % 2 = 0 then _ else _ : Int × List Ent).1 = _; rw [if_neg hc]; rfl, ⟨hil, ?_⟩, fun h0 => ?_⟩
      · rw [hgo, hnext]
        show HeldOk _ (if c % 2 = 0 then _ else _ : Int × List Ent).2
        rw [if_neg hc]
        exact heldOk_skip hs.held rfl
      · exact absurd (by rw [h0 rfl]; rfl) hc
  | fin =>
    obtain ⟨b, z, hz, hzo, hh, he⟩ := end_at g hr rfl
    have hin : opL rs i = opL rs b ++ [z] := opL_in g (by omega) hz he.st
    have hout : opL rs (i + 1) = opL rs b := opL_eq g hil (by have := he.gt; omega) he.next
    have hgz : rs.getD (hm rs i).toNat .fin = z := by
      rw [hh, Int.toNat_natCast, List.getD_eq_getElem?_getD, hz]
      rfl
    have hheld := hs.held
    rw [hin] at hheld
    cases hza : z.isAgain with
    | true =>
      have ez : z = .again := by cases z <;> first | rfl | cases hza
      refine ⟨b, ?_, ⟨by have := he.gt; omega, ?_⟩, fun _ => ?_⟩
      · rw [hgo]
        show (if (rs.getD (hm rs i).toNat .fin).isAgain = true then _ else _ : Int × List Ent).1 = _
        rw [hgz, if_pos hza, hh]
      · rw [hgo]
        show HeldOk _ (if (rs.getD (hm rs i).toNat .fin).isAgain = true then _ else _ : Int × List Ent).2
        rw [hgz, if_pos hza]
        exact heldOk_unskip hheld (by rw [ez]; rfl)
      · rw [posM_no hr (fun y => nomatch y)]
        unfold posM
        rw [hz, ez]
        show 2 * i < 2 * (endUp rs b rs.length).toNat + 1
        rw [he.up, Int.toNat_natCast]
        omega
    | false =>
      refine ⟨i + 1, ?_, ⟨hil, ?_⟩, fun _ => step1 (fun y => nomatch y)⟩
      · rw [hgo]
        show (if (rs.getD (hm rs i).toNat .fin).isAgain = true then _ else if (rs.getD (hm rs i).toNat .fin).isEither = true then _ else _ : Int × List Ent).1 = _
        rw [hgz, hza, if_neg (by decide)]
        split <;> rfl
      · rw [hgo, hout]
        show HeldOk _ (if (rs.getD (hm rs i).toNat .fin).isAgain = true then _ else if (rs.getD (hm rs i).toNat .fin).isEither = true then _ else _ : Int × List Ent).2
        rw [hgz, hza, if_neg (by decide)]
        cases hze : z.isEither with
        | true =>
          have ez : z = .either := by cases z <;> first | rfl | cases hze
          rw [if_pos rfl]
          exact heldOk_unskip hheld (by rw [ez]; rfl)
        | false =>
          rw [if_neg (by decide)]
          have hzn : z.named = true := by cases z <;> first | rfl | (cases hzo ; done) | (cases hza ; done) | (cases hze ; done)
          exact heldOk_pop hheld hzn
end BD
namespace BD
open PySem PySem.Spec PyProof.Rows L2 Evl
local macro_rules | `(tactic| walk_at "ev") => `(tactic| first
  | ((with_reducible apply ev_var) ; rfl)
  | with_reducible exact ev_c
  | ((with_reducible apply ev_I0) <;> walk_at "ev")
  | ((with_reducible apply ev_e9) <;> walk_at "ev")
  | ((with_reducible apply ev_I) <;> walk_at "ev")
  | ((with_reducible apply ev_eq) <;> walk_at "ev")
  | ((with_reducible apply ev_ne) <;> walk_at "ev")
  | ((with_reducible apply ev_neg) <;> walk_at "ev")
  | ((with_reducible apply ev_ixN) <;> walk_at "ev")
  | ((with_reducible apply ev_ixL) <;> walk_at "ev")
  | ((with_reducible apply ev_inN) <;> walk_at "ev")
  | ((with_reducible apply ev_inT) <;> walk_at "ev")
  | ((with_reducible apply ev_ixT) <;> walk_at "ev")
  | ((with_reducible apply ev_ixS) <;> walk_at "ev")
  | ((with_reducible apply ev_len') <;> walk_at "ev")
  | ((with_reducible apply et_test) <;> walk_at "ev")
  | ((with_reducible apply et_and) <;> walk_at "ev")
  | ((with_reducible apply et_or) <;> walk_at "ev")
  | ((with_reducible apply et_not) <;> walk_at "ev")
  | ((with_reducible apply et_B) <;> walk_at "ev")
  | ((with_reducible apply el_lst) <;> walk_at "ev")
  | ((with_reducible apply eu_tup) <;> walk_at "ev")
  | ((with_reducible apply ea_cons) <;> walk_at "ev")
  | with_reducible exact ea_nil
  | with_reducible assumption
  | ((with_reducible apply ex_l' ; assumption) ; walk_at "ex")
  | ((with_reducible apply ex_t' ; assumption) ; walk_at "ex")
  | (intro _ ; walk_at "ev")
  | (with_reducible first | exact atI_hd | exact at_kind | exact at2s | exact at3s | exact at3i)
  | (first | exact rfl | exact Nat.le_of_ble_eq_true rfl | exact ⟨by decide, by decide⟩ | decide | exact Or.inl ⟨by omega, by omega⟩ | exact Or.inr ⟨by omega, by omega⟩ | omega)
  | skip)
local macro_rules | `(tactic| walk_at "ex") => `(tactic| first
  | assumption
  | exact Ex.refl _
  | (refine' Ex.trans ?_ (by assumption) ; walk_at "ex"))
local macro_rules | `(tactic| walk_at "row") => `(tactic| first
  | (with_reducible exact er_nil)
  | ((with_reducible apply er_cons) <;> walk_at "row")
  | (((with_reducible apply er_var) ; rfl) ; walk_at "isrow")
  | (((with_reducible apply elr_var) ; rfl) ; walk_at "isrow")
  | ((with_reducible apply elr_cat) <;> walk_at "row")
  | ((with_reducible apply elr_lst) <;> walk_at "row")
  | ((with_reducible apply er_fin) <;> walk_at "ev")
  | ((with_reducible apply er_lendT) <;> walk_at "ev")
  | ((with_reducible apply er_lendW) <;> walk_at "ev")
  | ((with_reducible apply er_pick) <;> walk_at "ev")
  | ((with_reducible apply er_either) <;> walk_at "ev")
  | ((with_reducible apply er_or) <;> walk_at "ev")
  | ((with_reducible apply er_again) <;> walk_at "ev")
  | ((with_reducible apply er_back) <;> walk_at "ev")
  | ((with_reducible apply er_look) <;> walk_at "ev")
  | ((with_reducible apply er_change) <;> walk_at "ev")
  | exact Nat.le_of_ble_eq_true rfl
  | skip)
local macro_rules | `(tactic| walk_at "isrow") => `(tactic| first
  | assumption
  | (refine IsRow.up ?_ (by assumption) ; walk_at "ex")
  | (refine LRows.up ?_ (by assumption) ; walk_at "ex"))

local macro_rules | `(tactic| walk_at "ev") => `(tactic| (((with_reducible apply ev_tag) ; rfl) ; walk_at "isrow"))
abbrev s_l_run : Stmt := topS 33
theorem sc_l_run : FnScope ["_law_rows", "_law_choices_here", "_law_home", "_law_found", "_law_standing_here", "_law_taken", "_law_choice"] ["_law_rows", "_law_choices_here"] (defScope s_l_run) := ⟨rfl, rfl, rfl, by decide +kernel, rfl, by decide +kernel, by decide +kernel⟩
theorem tag_takes (r : Rw) : inV (.str r.tag) [V.str "pick", V.str "either", V.str "again"] = r.takes := by cases r <;> rfl
/-- a run: the choice that is taken, what is left -/
def takeC (r : Rw) (cs : List Int) : Int := if r.takes = true then cs.headD 0 else 0
def leftC (r : Rw) (cs : List Int) : List Int := if r.takes = true then cs.tail else cs
def runF (rs : List Rw) : Nat → Nat → List Ent → List Int → List (Nat × List Ent)
  | 0, _, _, _ => []
  | f + 1, i, es, cs => match rs[i]? with
    | none => []
    | some r => (i, es) :: runF rs f (goM rs i es (takeC r cs)).1.toNat (goM rs i es (takeC r cs)).2 (leftC r cs)
def mu (rs : List Rw) (i k : Nat) : Nat := k * (2 * rs.length + 3) + (2 * rs.length + 2 - posM rs i)
def runM (rs : List Rw) (cs : List Int) : List (Nat × List Ent) := runF rs (mu rs 0 cs.length) 0 [] cs
theorem runF_go {rs : List Rw} {f i : Nat} {es : List Ent} {cs : List Int} {r : Rw} (h : rs[i]? = some r) : runF rs (f + 1) i es cs = (i, es) :: runF rs f (goM rs i es (takeC r cs)).1.toNat (goM rs i es (takeC r cs)).2 (leftC r cs) := by
  show (match rs[i]? with
    | none => []
    | some r => (i, es) :: runF rs f (goM rs i es (takeC r cs)).1.toNat (goM rs i es (takeC r cs)).2 (leftC r cs)) = _
  rw [h]
theorem runF_stop {rs : List Rw} {i : Nat} {es : List Ent} {cs : List Int} (h : rs[i]? = none) : ∀ f, runF rs f i es cs = []
  | 0 => rfl
  | f + 1 => by
    show (match rs[i]? with
      | none => []
      | some r => (i, es) :: runF rs f (goM rs i es (takeC r cs)).1.toNat (goM rs i es (takeC r cs)).2 (leftC r cs)) = _
    rw [h]
/-- a turn makes the measure fall -/
theorem mu_falls {rs : List Rw} (sh : Sheet rs) {i j : Nat} {es : List Ent} {cs : List Int} {r : Rw} (hr : rs[i]? = some r) (hg : Goes rs i es (takeC r cs) r j) : mu rs j (leftC r cs).length < mu rs i cs.length := by
  have hil := (List.getElem?_eq_some_iff.mp hr).1
  have h1 := posM_le sh.g (show i ≤ rs.length by omega)
  have h2 := posM_le sh.g hg.std.le
  unfold mu
  by_cases ht : r.takes = true
  · have hl : leftC r cs = cs.tail := if_pos ht
    have hc : takeC r cs = cs.headD 0 := if_pos ht
    rw [hl]
    cases cs with
    | nil =>
      have := hg.pos (fun _ => hc)
      show 0 * _ + _ < 0 * _ + _
      omega
    | cons a t =>
      show t.length * _ + _ < (t.length + 1) * _ + _
      rw [Nat.add_mul]
      omega
  · have hl : leftC r cs = cs := if_neg ht
    have := hg.pos (fun z => absurd z ht)
    rw [hl]
    omega
theorem mu_pos {rs : List Rw} (sh : Sheet rs) {i k : Nat} (h : i ≤ rs.length) : 0 < mu rs i k := by
  have h1 := posM_le sh.g h
  unfold mu
  omega
theorem mu_le (rs : List Rw) (i k : Nat) : mu rs i k ≤ (k + 1) * (2 * rs.length + 3) := by
  unfold mu
  rw [Nat.add_mul]
  omega
def Stds (H : Hp) (vs : List V) (sts : List (Nat × List Ent)) : Prop := Paired (fun x (st : Nat × List Ent) => AStand (st.1 : Int) st.2 x H) vs sts
theorem AStand.upT {i : Int} {es : List Ent} {v : V} {H H' : Hp} (e : ExT H H') (h : AStand i es v H) : AStand i es v H' := by
  obtain ⟨p, q, vs, h1, h2, h3, h4⟩ := h
  exact ⟨p, q, vs, h1, e _ _ h2, e _ _ h3, h4.upT e⟩
theorem Stds.upT {H H' : Hp} (e : ExT H H') : ∀ {vs : List V} {sts : List (Nat × List Ent)}, Stds H vs sts → Stds H' vs sts
  | _, _, .nil => .nil
  | _, _, .cons r t => .cons (AStand.upT e r) (Stds.upT e t)
theorem Stds.up {H H' : Hp} (e : Ex H H') {vs : List V} {sts : List (Nat × List Ent)} (h : Stds H vs sts) : Stds H' vs sts := h.upT (ExT.of e)
section
variable {P : Program} {w : World} {K : PySem.W.Frag} {mg : Str → Option Value} {base : Heap}
theorem el_homes {a : Addr} {rv : List V} {rs : List Rw} {ta : TA} {σ : L2.St} {H : Hp} {E : XK} (h : EvA ta σ H [.ref a]) (hS : SqL K H a rv) (hR : Rows H rv rs) (g : Good rs) (hl : rs.length ≤ 90000) : EvL (tCall (spHomes K) [] E ta) σ H (homesV rs rs.length) :=
  el_call h fun H1 e Q q E => ⟨a, rv, rs, rfl, ex_l e hS, hR.up e, g, hl, fun p H2 hp e2 h2 => q p H2 hp e2 h2⟩
theorem ep_step {a hh : Addr} {x : V} {c : Int} {i : Nat} {es : List Ent} {rv : List V} {rs : List Rw} {ta : TA} {σ : L2.St} {H : Hp} {E : XK} (h : EvA ta σ H [.ref a, .ref hh, x, .int c]) (hS : SqL K H a rv) (hR : Rows H rv rs) (hM : SqL K H hh (homesV rs rs.length)) (hx : AStand i es x H)
    (hi : i < rs.length) (hl : rs.length ≤ 90000) (g : Good rs) (ok : StepOk rs i es) (he : es.length ≤ 900) : EvP (tCall (spStep K) [] E ta) σ H (AStand (goM rs i es c).1 (goM rs i es c).2) :=
  ep_call h fun H1 e Q q E => ⟨a, hh, x, c, i, es, rv, rs, rfl, ex_l e hS, hR.up e, ex_l e hM, hx.up e, hi, hl, g, ok, he, q⟩
def spRun (K : PySem.W.Frag) : Sp := fun vs H Q _ => ∃ (a pc : Addr) (cs : List Int) (rv : List V) (rs : List Rw), vs = [.ref a, .ref pc] ∧ SqL K H a rv ∧ Rows H rv rs ∧ SqL K H pc (cs.map V.int) ∧ Sheet rs ∧ rs.length ≤ 40000 ∧ (cs.length + 1) * (2 * rs.length + 3) ≤ 99000 ∧
  ∀ p vs H2, H p = none → Ex H H2 → H2 p = some (.lst vs) → Stds H2 vs (runM rs cs) → Q (.ref p) H2
theorem ok_run (D : Dn K mg "_law_run" s_l_run ["_law_rows", "_law_choices_here"]) (T : Blt mg) (h_l_homes : Has P w K mg base "_law_homes" 1 ["_law_rows"] (spHomes K)) (h_l_step : Has P w K mg base "_law_step" 2 ["_law_rows", "_law_home", "_law_standing_here", "_law_choice"] (spStep K)) : Has P w K mg base "_law_run" 3 ["_law_rows", "_law_choices_here"] (spRun K) := by
  refine D.ok sc_l_run (fun vs H Q E h => ?_) (fun f cdv A outer st H vs Q E hr h => ?_)
  · obtain ⟨a, pc, cs, rv, rs, rfl, _⟩ := h
    rfl
  · obtain ⟨a, pc, cs, rv, rs, rfl, hS, hR, hC, sh, hlen, hbound, q⟩ := h
    have hlr := hR.len
    refine ⟨_, (pss_cons (ps_set (i := 2) sc_l_run.nd rfl (Or.inl rfl) (pe_own h_l_homes (hr.mono (by decide)) (by rfl) (pa_cons (pv 0) pa_nil))) (pss_cons (ps_set (i := 3) sc_l_run.nd rfl (Or.inl rfl) (pe_lst pa_nil)) (pss_cons (ps_set (i := 4) sc_l_run.nd rfl (Or.inl rfl) (pe_tup (pa_cons pe_int (pa_cons (pe_tup pa_nil) pa_nil)))) (pss_cons (ps_set (i := 5) sc_l_run.nd rfl (Or.inl rfl) pe_int) (pss_cons (ps_while PassesOwn.never (pt_cmpR op_lt (pe_ix (show IxR _ (rIxT K) from ix_tup) (pv 4) pe_int (fun _ _ => rfl)) (pe_callB (show CallR _ _ (rLenS K) from call_len_seq) (by rfl) T.len_ (by decide +kernel) (pa_cons (pv 0) pa_nil)) (nomark _)) (pss_cons (ps_expr (pe_bm PySem.F.plainAttrs_list PySem.F.slot_list_append PySem.F.type_list_append mt_append (pv 3) (pa_cons (pv 4) pa_nil))) (pss_cons (ps_set (i := 6) sc_l_run.nd rfl (Or.inl rfl) pe_int) (pss_cons (ps_if (pt_cmpR (show OpR _ _ (rIn K false) from op_in_seq) (pe_ix (show IxR _ (rIxT K) from ix_tup) (pe_ix (show IxR _ (rIxL K) from ix_list) (pv 0) (pe_ix (show IxR _ (rIxT K) from ix_tup) (pv 4) pe_int (fun _ _ => rfl)) (fun _ _ => rfl)) pe_int (fun _ _ => rfl)) (pe_lst (pa_cons pe_str (pa_cons pe_str (pa_cons pe_str pa_nil)))) (by rfl)) (pss_cons (ps_if (pt_cmpR op_lt (pv 5) (pe_callB (show CallR _ _ (rLenS K) from call_len_seq) (by rfl) T.len_ (by decide +kernel) (pa_cons (pv 1) pa_nil)) (nomark _)) (pss_one (ps_set (i := 6) sc_l_run.nd rfl (Or.inl rfl) (pe_ix (show IxR _ (rIxL K) from ix_list) (pv 1) (pv 5) (fun _ _ => rfl)))) pss_nil) (pss_one (ps_set (i := 5) sc_l_run.nd rfl (Or.inl rfl) (pe_op op_add (pv 5) pe_int)))) pss_nil) (pss_one (ps_set (i := 4) sc_l_run.nd rfl (Or.inl rfl) (pe_own h_l_step (hr.mono (by decide)) (by rfl) (pa_cons (pv 0) (pa_cons (pv 2) (pa_cons (pv 4) (pa_cons (pv 6) pa_nil))))))))))) (pss_one (ps_ret (pv 3)))))))), ?_⟩
    show (_ : L2.TS) _ [_, _, _, _, _, _, _] _
    refine q_asgL (xs := homesV rs rs.length) (el_homes ?_ hS hR sh.g (by omega)) (fun ph H1 hph e1 h1 => ?_)
    · walk_at "ev"
    show (_ : L2.TS) _ [_, _, _, _, _, _, _] _
    have hM1 : SqL K H1 ph (homesV rs rs.length) := sq_of h1
    refine q_asgL (xs := []) ?_ (fun pf H2 hpf e2 h2 => ?_)
    · walk_at "ev"
    show (_ : L2.TS) _ [_, _, _, _, _, _, _] _
    refine q_asgP (R := AStand 0 []) (ep_stand (es := []) ev_c (EvP.mono (ep_U (xs := []) ?_) (fun v H h => ?_))) (fun x0 H3 e3 hx0 => ?_)
    · walk_at "ev"
    · obtain ⟨p, h4, h5⟩ := h
      exact ⟨p, [], h4, h5, .nil⟩
    show (_ : L2.TS) _ [_, _, _, _, _, _, _] _
    refine q_asg ev_c (fun H4 e4 => ?_)
    show (_ : L2.TS) _ [_, _, _, _, _, _, _] _
    have e04 : Ex H H4 := by walk_at "ex"
    have hpfH : H pf = none := fresh_back e1 hpf
    have hM4 : SqL K H4 ph (homesV rs rs.length) := ex_l (e2.trans (e3.trans e4)) hM1
    have hMx : ∃ Hm : Hp, Hm pf = none ∧ SqL K Hm ph (homesV rs rs.length) ∧ Ex H Hm ∧ Ex Hm H4 := ⟨H1, hpf, hM1, e1, e2.trans (e3.trans e4)⟩
    obtain ⟨Hm, hmf, hMm, e0m, em4⟩ := hMx
    refine q_while (fun m σ' H' => ∃ (i k : Nat) (es : List Ent) (x : V) (fv : List V) (dn : List (Nat × List Ent)) (o : Option V), Ex Hm H' ∧ H' pf = some (.lst fv) ∧ Stds H' fv dn ∧ Std rs i es ∧ AStand (i : Int) es x H' ∧ mu rs i (cs.drop k).length ≤ m ∧
      dn ++ runF rs m i es (cs.drop k) = runM rs cs ∧ dn.length + m ≤ 99000 ∧ σ' = [some (.ref a), some (.ref pc), some (.ref ph), some (.ref pf), some x, some (.int (k : Int)), o]) (mu rs 0 cs.length)
      ⟨0, 0, [], x0, [], [], none, em4, e4 _ _ (e3 _ _ h2), .nil, std0 rs, AStand.up e4 hx0, Nat.le_refl _, rfl, by have := mu_le rs 0 cs.length; show 0 + _ ≤ _; omega, rfl⟩ ?_
    rintro m σ' H' ⟨i, k, es, x, fv, dn, o, eH, hf, hD, hst, hx, hmu, hrun, hbd, rfl⟩
    have eH0 : Ex H H' := e0m.trans eH
    have hS' := ex_l eH0 hS
    have hC' := ex_l eH0 hC
    have hM' := ex_l eH hMm
    have hR' := hR.up eH0
    obtain ⟨px, pq, hv, rfl, hpx, hpq, hE⟩ := id hx
    have hPx : SqT K H' px [.int (i : Int), .ref pq] := st_of hpx
    refine ⟨decide ((i : Int) < (rv.length : Int)), ?_, fun hb H5 e5 => ?_, fun hb H5 e5 => ?_⟩
    · walk_at "ev"
    · have hb := of_decide_eq_true hb
      have hil : i < rs.length := by omega
      have hg := List.getElem?_eq_getElem hil
      obtain ⟨y, hy, hY⟩ := hR'.get hg
      generalize rs[i] = r at hg hY
      obtain ⟨py, ys, rfl, hpy⟩ := hY.tup
      have hPy : SqT K H' py (.str r.tag :: ys) := st_of hpy
      have hix : atI rv (i : Int) = some (.ref py) := atI_nat hy
      obtain ⟨j, hgo⟩ := goes (c := takeC r (cs.drop k)) sh hst hg
      have hfall := mu_falls sh hg hgo
      have hmp := mu_pos sh (k := (cs.drop k).length) hst.le
      obtain ⟨m', rfl⟩ : ∃ m', m = m' + 1 := ⟨m - 1, by omega⟩
      rw [runF_go hg, hgo.at_, Int.toNat_natCast] at hrun
      have hfl : fv.length = dn.length := Paired.length hD
      have hes := hst.len sh
      refine ⟨fun σ2 H2 => ∃ (i k : Nat) (es : List Ent) (x : V) (fv : List V) (dn : List (Nat × List Ent)) (o : Option V), Ex Hm H2 ∧ H2 pf = some (.lst fv) ∧ Stds H2 fv dn ∧ Std rs i es ∧ AStand (i : Int) es x H2 ∧ mu rs i (cs.drop k).length ≤ m' ∧
        dn ++ runF rs m' i es (cs.drop k) = runM rs cs ∧ dn.length + m' ≤ 99000 ∧ σ2 = [some (.ref a), some (.ref pc), some (.ref ph), some (.ref pf), some x, some (.int (k : Int)), o], fun σ2 H2 h => ⟨m', Nat.lt_succ_self _, h⟩, ?_⟩
      refine q_app (l := pf) (xs := fv) (v := .ref px) (e5 _ _ hf) (ev_var rfl) (ev_var rfl) (by omega) (fun H6 e6 => ?_)
      have x7 : ExT H' (upd H6 pf (.lst (fv ++ [.ref px]))) := (ExT.of (e5.trans e6)).trans (ExT.lst (e6 _ _ (e5 _ _ hf)))
      have e7 : Ex Hm (upd H6 pf (.lst (fv ++ [.ref px]))) := Ex.mut (eH.trans (e5.trans e6)) hmf
      have hf7 : (upd H6 pf (.lst (fv ++ [.ref px]))) pf = some (.lst (fv ++ [.ref px])) := upd_same
      generalize upd H6 pf (.lst (fv ++ [.ref px])) = H7 at *
      have hx7 : AStand (i : Int) es (.ref px) H7 := hx.upT x7
      have hD7 : Stds H7 (fv ++ [.ref px]) (dn ++ [(i, es)]) := paired_app (hD.upT x7) (.cons hx7 .nil)
      have hS7 := ex_l (e0m.trans e7) hS
      have hC7 := ex_l (e0m.trans e7) hC
      have hM7 := ex_l e7 hMm
      have hR7 := hR.up (e0m.trans e7)
      have hPx7 : SqT K H7 px [.int (i : Int), .ref pq] := st_of (x7 _ _ hpx)
      have hPy7 : SqT K H7 py (.str r.tag :: ys) := st_of (x7 _ _ hpy)
      have hrun2 : (dn ++ [(i, es)]) ++ runF rs m' j (goM rs i es (takeC r (cs.drop k))).2 (leftC r (cs.drop k)) = runM rs cs := by
        rw [← hrun, List.append_assoc]
        rfl
      clear hS' hC' hM' hR' hPx hPy x7 e5 e6 eH0 hx hpx hpy hpq hE hD hf hY
      refine q_asg ev_c (fun H8 e8 => ?_)
      show (_ : L2.TS) _ [_, _, _, _, _, _, _] _
      cases ht : r.takes with
      | false =>
        have etk : takeC r (cs.drop k) = 0 := if_neg (by rw [ht]; decide)
        have elf : leftC r (cs.drop k) = cs.drop k := if_neg (by rw [ht]; decide)
        rw [etk, elf] at hrun2
        rw [etk] at hgo
        rw [elf] at hfall
        refine q_when (b := false) (et_is ?_ ht) (fun hb _ _ => by cases hb) (fun _ H9 e9 => ?_)
        · rw [← tag_takes r]
          walk_at "ev"
        · refine s_asgP (ep_step (a := a) (hh := ph) (x := .ref px) (c := 0) (i := i) (es := es) (rv := rv) (rs := rs) ?_ (ex_l (e8.trans e9) hS7) (hR7.up (e8.trans e9)) (ex_l (e8.trans e9) hM7) (hx7.up (e8.trans e9)) hil (by omega) sh.g (hst.ok sh) (by omega)) (fun z H10 e10 hz => ?_)
          · walk_at "ev"
          · dsimp only
            rw [hgo.at_] at hz
            have e710 : Ex H7 H10 := e8.trans (e9.trans e10)
            exact ⟨j, k, _, z, _, _, some (.int 0), e7.trans e710, e710 _ _ hf7, hD7.up e710, hgo.std, hz, by omega, hrun2, by rw [List.length_append]; show dn.length + 1 + m' ≤ _; omega, rfl⟩
      | true =>
        have elf : leftC r (cs.drop k) = cs.drop (k + 1) := by
          unfold leftC
          rw [if_pos ht, List.tail_drop]
        rw [elf] at hrun2 hfall
        refine q_when (b := true) (et_is ?_ ht) (fun _ H9 e9 => ?_) (fun hb _ _ => by cases hb)
        · rw [← tag_takes r]
          walk_at "ev"
        · by_cases hk : k < cs.length
          · have etk : takeC r (cs.drop k) = cs[k] := by
              unfold takeC
              rw [if_pos ht, List.drop_eq_getElem_cons hk]
              rfl
            rw [etk] at hrun2 hgo
            have hck : atI (cs.map V.int) (k : Int) = some (.int cs[k]) := atI_nat (by rw [List.getElem?_map, List.getElem?_eq_getElem hk]; rfl)
            refine q_when (b := true) (et_is (b := true) (a := decide ((k : Int) < (((cs.map V.int).length : Nat) : Int))) ?_ (decide_eq_true (by rw [List.length_map]; omega))) (fun _ H10 e10 => ?_) (fun hb _ _ => by cases hb)
            · walk_at "ev"
            · refine s_asg (v := .int cs[k]) (ev_ixL (ev_var rfl) (ex_l (by walk_at "ex") hC7) (ev_var rfl) hck) (fun H11 e11 => ?_)
              dsimp only
              show (_ : L2.TS) _ [_, _, _, _, _, _, _] _
              refine s_asg (v := .int ((k : Int) + 1)) ?_ (fun H12 e12 => ?_)
              · walk_at "ev"
              dsimp only
              show (_ : L2.TS) _ [_, _, _, _, _, _, _] _
              have e712 : Ex H7 H12 := by walk_at "ex"
              refine s_asgP (ep_step (a := a) (hh := ph) (x := .ref px) (c := cs[k]) (i := i) (es := es) (rv := rv) (rs := rs) ?_ (ex_l e712 hS7) (hR7.up e712) (ex_l e712 hM7) (hx7.up e712) hil (by omega) sh.g (hst.ok sh) (by omega)) (fun z H13 e13 hz => ?_)
              · walk_at "ev"
              · dsimp only
                rw [hgo.at_] at hz
                have e713 : Ex H7 H13 := e712.trans e13
                exact ⟨j, k + 1, _, z, _, _, some (.int cs[k]), e7.trans e713, e713 _ _ hf7, hD7.up e713, hgo.std, hz, by omega, hrun2, by rw [List.length_append]; show dn.length + 1 + m' ≤ _; omega, rfl⟩
          · have etk : takeC r (cs.drop k) = 0 := by
              unfold takeC
              rw [if_pos ht, List.drop_eq_nil_of_le (by omega)]
              rfl
            rw [etk] at hrun2 hgo
            refine q_when (b := false) (et_is (b := false) (a := decide ((k : Int) < (((cs.map V.int).length : Nat) : Int))) ?_ (decide_eq_false (by rw [List.length_map]; omega))) (fun hb _ _ => by cases hb) (fun _ H10 e10 => ?_)
            · walk_at "ev"
            · refine s_asg (v := .int ((k : Int) + 1)) ?_ (fun H12 e12 => ?_)
              · walk_at "ev"
              dsimp only
              show (_ : L2.TS) _ [_, _, _, _, _, _, _] _
              have e712 : Ex H7 H12 := by walk_at "ex"
              refine s_asgP (ep_step (a := a) (hh := ph) (x := .ref px) (c := 0) (i := i) (es := es) (rv := rv) (rs := rs) ?_ (ex_l e712 hS7) (hR7.up e712) (ex_l e712 hM7) (hx7.up e712) hil (by omega) sh.g (hst.ok sh) (by omega)) (fun z H13 e13 hz => ?_)
              · walk_at "ev"
              · dsimp only
                rw [hgo.at_] at hz
                have e713 : Ex H7 H13 := e712.trans e13
                exact ⟨j, k + 1, _, z, _, _, some (.int 0), e7.trans e713, e713 _ _ hf7, hD7.up e713, hgo.std, hz, by omega, hrun2, by rw [List.length_append]; show dn.length + 1 + m' ≤ _; omega, rfl⟩
    · have hb := of_decide_eq_false hb
      have hn : rs[i]? = none := List.getElem?_eq_none (by have := hst.le; omega)
      rw [runF_stop hn, List.append_nil] at hrun
      subst hrun
      refine s_ret (v := .ref pf) (ev_var rfl) (fun H6 e6 => q pf fv H6 hpfH (eH0.trans (e5.trans e6)) (e6 _ _ (e5 _ _ hf)) (hD.up (e5.trans e6)))
theorem epl_run {a pc : Addr} {cs : List Int} {rv : List V} {rs : List Rw} {ta : TA} {σ : L2.St} {H : Hp} {E : XK} (h : EvA ta σ H [.ref a, .ref pc]) (hS : SqL K H a rv) (hR : Rows H rv rs) (hC : SqL K H pc (cs.map V.int)) (sh : Sheet rs) (hl : rs.length ≤ 40000) (hb : (cs.length + 1) * (2 * rs.length + 3) ≤ 99000) :
    EvPL (tCall (spRun K) [] E ta) σ H (fun us H2 => Stds H2 us (runM rs cs)) := fun H1 e Q q =>
  h H1 e _ fun H2 e2 => ⟨a, pc, cs, rv, rs, rfl, ex_l (e.trans e2) hS, hR.up (e.trans e2), ex_l (e.trans e2) hC, sh, hl, hb, fun p vs H3 hp e3 h3 hs => q p vs H3 (fresh_back e2 hp) (e2.trans e3) h3 hs⟩
end
end BD
namespace BD
open PySem PySem.Spec PyProof.Rows L2 Evl
/-! ### list(reversed(xs)) -/
section
variable {prog : Program} {w : World} {A : Around} {E : Value → Shared → Prop} {s : Shared}
theorem grow_rev {R : Result → Shared → Prop} {it l : Addr} {its : Array Value} (hnh : A.handled = none) (h1 : s.heap.IsRevIter it l ((its.size : Int) - 1)) (h2 : s.heap.IsList l its) (h3 : l ≠ it) (h4 : its.size ≤ sizeLine) (S : Addr) (n1 : S ≠ it) (n2 : S ≠ l) (res : Value) (cap : Nat)
    (h5 : s.heap.get? S = some { cls := .type "list", data := .seq #[] cap }) (k : ∀ hp tk ac cp, (∀ b o, b ≠ S → b ≠ it → s.heap.get? b = some o → hp.get? b = some o) → hp.get? S = some { cls := .type "list", dict := none, data := .seq ac cp, slots := #[] } →
      ItemsOf (fun i v => its[its.size - 1 - i]? = some v) ac its.size → R (.ok (.ret res)) { s with heap := hp, toks := tk }) :
    wpAny (model prog w) A.in1 (Builtin.List.listExtendWith (.ref S) (.ref it) res)
      (fun fin s2 => match fin with | .done g => R (.ok g) s2 | .again c2 => c2.quiet = true ∧ codeAny (model prog w) A c2 R s2) (fun e s2 => R (.error e) s2) s := by
  have WW := (Walks.listRev (prog := prog) (w := w) (A := A.in1) hnh it l h3 its).toS
  have tyR : s.TypeIs (.ref it) "list_reverseiterator" := h1.typeIs
  have nin : S ∉ [it, l] := by
    simp only [List.mem_cons, List.not_mem_nil, or_false, not_or]
    exact ⟨n1, n2⟩
  have sr : Builtin.List.listSameRef (.ref S) (.ref it) = false := by
    unfold Builtin.List.listSameRef
    simp [n1]
  unfold Builtin.List.listExtendWith
  refine wpAny_bind (wpAny_typeOf tyR ?_)
  rw [if_neg (by rw [sr] ; decide)]
  refine wpAny_bind (wpAny_pyIter_revIter h1 (wpAny_bind (wpAny_holding ?_)))
  unfold Builtin.List.listLengthHint
  refine wpAny_bind (wpAny_specialOf tyR RT.nolen_lri (wpAny_bind (wpAny_specialOf tyR RT.hint_lri ?_)))
  generalize hnm : ("list_reverseiterator.__length_hint__" : String) = nm
  wp_delta
  rw [show splitId nm = some ("list_reverseiterator", "__length_hint__") by subst hnm ; decide +kernel]
  subst hnm
  refine wpAny_bind (wpAny_isInstance (b := true) tyR (by rw [isSubtype_type] ; kernel_rfl) (wpAny_pure ?_))
  rw [if_neg (by decide)]
  have ez : ((its.size : Nat) : Int) - 1 - ((0 : Nat) : Int) = (its.size : Int) - 1 := by omega
  refine wpAny_pure ⟨plainId_quiet F.plain_extend_loop _, codeAny_extend_loopS WW h4 _ nin _ its.size 0 _ _ _ rfl (Nat.zero_le _) ⟨Nat.zero_le _, by rw [ez] ; exact h1, h2⟩ h5 (ItemsOf.nil _) fun s2 ac cp mv g2 ia => ?_⟩
  rw [Moved.eq_with mv]
  refine k s2.heap s2.toks ac cp (fun b o b1 b2 e => mv.heap b o (fun z => ?_) e) g2 ia
  rcases List.mem_cons.mp z with z | z
  · exact b1 z
  · exact b2 (List.mem_singleton.mp z)
theorem init_rev {R : Result → Shared → Prop} {it l : Addr} {its : Array Value} (hnh : A.handled = none) (h1 : s.heap.IsRevIter it l ((its.size : Int) - 1)) (h2 : s.heap.IsList l its) (h3 : l ≠ it) (h4 : its.size ≤ sizeLine) (S : Addr) (n1 : S ≠ it) (n2 : S ≠ l)
    (h5 : s.heap.get? S = some { cls := .type "list", data := .seq #[] }) (k : ∀ hp tk ac cp, (∀ b o, b ≠ S → b ≠ it → s.heap.get? b = some o → hp.get? b = some o) → hp.get? S = some { cls := .type "list", dict := none, data := .seq ac cp, slots := #[] } →
      ItemsOf (fun i v => its[its.size - 1 - i]? = some v) ac its.size → R (.ok (.ret .none)) { s with heap := hp, toks := tk }) :
    wpAny (model prog w) A.in1 (Builtin.«list.__init__» ⟨[.ref S, .ref it], []⟩)
      (fun fin s2 => match fin with | .done g => R (.ok g) s2 | .again c2 => c2.quiet = true ∧ codeAny (model prog w) A c2 R s2) (fun e s2 => R (.error e) s2) s := by
  show wpAny _ A.in1 (Builtin.List.listItems (.ref S) >>= fun old => Builtin.List.listUpdate (.ref S) (fun _ => #[]) >>= fun _ => letGo old.toList.reverse >>= fun _ => Builtin.List.listExtendWith (.ref S) (.ref it) .none) _ _ s
  unfold Builtin.List.listItems
  refine wpAny_bind (wpAny_bind (wpAny_seqItems h5 rfl (wpAny_pure ?_)))
  refine wpAny_bind (show wpAny _ A.in1 (updateSeq S (fun _ => #[])) _ _ s from wpAny_updateSeq h5 rfl ?_)
  have ot : ∀ b o, b ≠ S → s.heap.get? b = some o → (s.heap.update S (Obj.mapSeq (fun _ => (#[] : Array Value)))).get? b = some o := fun b o n e => (Heap.get?_update_other _ _ (Ne.symm n)).trans e
  have g0 := Heap.get?_update_self (Obj.mapSeq (fun _ => (#[] : Array Value))) h5 rfl
  refine wpAny_bind (show wpAny _ A.in1 (letGo (#[] : Array Value).toList.reverse) _ _ _ from wpAny_letGo ?_)
  obtain ⟨oi, gi, xi⟩ := h1
  obtain ⟨ol, gl, xl⟩ := h2
  refine grow_rev hnh ⟨oi, ot _ _ n1.symm gi, xi⟩ ⟨ol, ot _ _ n2.symm gl, xl⟩ h3 h4 S n1 n2 .none _ g0 fun hp tk ac cp kp g2 ia => ?_
  exact k hp tk ac cp (fun b o b1 b2 e => kp b o b1 b2 (ot b o b1 e)) g2 ia
theorem call_lstRev {Q : Value → Shared → Prop} {it l : Addr} {its : Array Value} (hnh : A.handled = none) (h1 : s.heap.IsRevIter it l ((its.size : Int) - 1)) (h2 : s.heap.IsList l its) (h3 : l ≠ it) (h4 : its.size ≤ sizeLine)
    (k : ∀ hp tk ac cp, (∀ b o, b ≠ it → s.heap.get? b = some o → hp.get? b = some o) → hp.get? s.heap.objs.size = some { cls := .type "list", dict := none, data := .seq ac cp, slots := #[] } →
      ItemsOf (fun i v => its[its.size - 1 - i]? = some v) ac its.size → Q (.ref s.heap.objs.size) { s with heap := hp, toks := tk }) : wpAny (model prog w) A (call (.type "list") [.ref it]) Q E s := by
  refine callType_codes (Q₁ := fun ob sn => ob = .ref s.heap.objs.size ∧ sn = { s with heap := s.heap.push { cls := .type "list", data := .seq #[] } }) F.called_list (F.typeCall_list_1 _) F.entry_list_init (code_list_new _ ⟨rfl, rfl⟩) ?_
  rintro _ _ ⟨rfl, rfl⟩
  have g0 : (s.heap.push { cls := .type "list", data := .seq #[] }).get? s.heap.objs.size = some { cls := .type "list", data := .seq #[] } := Heap.get?_push_size _ rfl
  obtain ⟨oi, gi, xi⟩ := h1
  obtain ⟨ol, gl, xl⟩ := h2
  refine ⟨⟨_, g0, rfl⟩, F.args_list_init_2 _ _, init_rev (A := A.in1) hnh ⟨oi, Heap.get?_push_of_some _ gi, xi⟩ ⟨ol, Heap.get?_push_of_some _ gl, xl⟩ h3 h4 s.heap.objs.size (Nat.ne_of_gt (Heap.lt_size gi)) (Nat.ne_of_gt (Heap.lt_size gl)) g0 fun hp tk ac cp kp g2 ia => ⟨rfl, ?_⟩⟩
  exact k hp tk ac cp (fun b o n e => kp b o (Nat.ne_of_lt (Heap.lt_size e)) n (Heap.get?_push_of_some _ e)) g2 ia
end
section
variable {X : Cx}
/-- list(reversed(x)), x a list: a new list -/
def tLstRev (K : PySem.W.Frag) (te : TE) : TE := fun σ H Q => te σ H fun v H1 => ∃ (a : Addr) (xs : List V), v = .ref a ∧ SqL K H1 a xs ∧ ∀ q, H1 q = none → Q (.ref q) (upd H1 q (.lst xs.reverse))
theorem pe_lstRev {e : Expr} {te : TE} {p p2 pos pos2 : Pos} (hc : X.calm = true) (g1 : Gl X "list") (m1 : X.mg "list" = none) (g2 : Gl X "reversed") (m2 : X.mg "reversed" = none) (he : PE X e te)
    (n1 : starEach [e] X.env = (false, eval e X.env) :: starEach [] X.env := by rfl)
    (n2 : starEach [.Call (.Name "reversed" p2) [e] [] pos2] X.env = (false, eval (.Call (.Name "reversed" p2) [e] [] pos2) X.env) :: starEach [] X.env := by rfl) :
    PE X (.Call (.Name "list" p) [.Call (.Name "reversed" p2) [e] [] pos2] [] pos) (tLstRev X.K te) := by
  refine ⟨fun pins s σ H Q I0 h => ?_⟩
  refine Call_ (ld_blt I0 g1 m1 boot_list (PyProof.Rows.callWith_type1 (args_cons (Call_ (ld_blt I0 g2 m2 PyProof.Rows.boot_reversed (PyProof.Rows.callWith_type1 (args_cons (thn (he.run pins s σ H _ I0 h) ?_) n1) n1 rfl))) n2) n2 rfl))
  rintro u s1 ⟨v, H1, I1, rl, a, xs, rfl, hq, q⟩
  refine args_nil ?_
  obtain rfl : u = Value.ref a := rl
  obtain ⟨its, rv, pp, hz⟩ := I1.list hq
  refine call_reversed_list pp.isList (args_nil ?_)
  have I2 : Inv X pins σ H1 { s1 with heap := s1.heap.push (revObj a ((its.toArray.size : Int) - 1)) } := I1.kept (t' := s1.toks) fun b o e => Heap.get?_push_of_some _ e
  have fp := I1.fpOk (H' := H1) (b := s1.heap.objs.size) (Nat.le_refl _) (I1.hok.fresh (Nat.le_refl _))
  obtain ⟨ol, gl, xl⟩ := pp.isList
  have ne : a ≠ s1.heap.objs.size := Nat.ne_of_lt (Heap.lt_size gl)
  have sz : its.toArray.size ≤ sizeLine := by rw [List.size_toArray, ← rv.length] ; exact hz
  refine call_lstRev (s := { s1 with heap := s1.heap.push (revObj a ((its.toArray.size : Int) - 1)) }) (I1.ok.hd hc) ⟨_, Heap.get?_push_size _ rfl, rfl, rfl⟩ ⟨ol, Heap.get?_push_of_some _ gl, xl⟩ ne sz fun hp tk ac cp kp gS ia => ?_
  refine ⟨.ref _, upd H1 _ (.lst xs.reverse), I2.turnedNew (t' := tk) (ch := [s1.heap.objs.size]) (fun b o nb e => kp b o (fun z => nb (List.mem_singleton.mpr z)) e) (fun b z => by rw [List.mem_singleton.mp z] ; exact fp) (Nat.le_refl _)
    (show ObjOk X.prog X.w _ _ _ (.lst xs.reverse) from ⟨by rw [List.length_reverse] ; exact hz, ac.toList, cp, RT.vals_rev rv ia, by rw [Array.toArray_toList] ; exact gS⟩), rfl, q _ (I2.hok.fresh (Nat.le_refl _))⟩
end
end BD
namespace BD
open PySem PySem.Spec PyProof.Rows L2 Evl
local macro_rules | `(tactic| walk_at "ev") => `(tactic| first
  | ((with_reducible apply ev_var) ; rfl)
  | with_reducible exact ev_c
  | ((with_reducible apply ev_I0) <;> walk_at "ev")
  | ((with_reducible apply ev_e9) <;> walk_at "ev")
  | ((with_reducible apply ev_I) <;> walk_at "ev")
  | ((with_reducible apply ev_eq) <;> walk_at "ev")
  | ((with_reducible apply ev_ne) <;> walk_at "ev")
  | ((with_reducible apply ev_neg) <;> walk_at "ev")
  | ((with_reducible apply ev_ixN) <;> walk_at "ev")
  | ((with_reducible apply ev_ixL) <;> walk_at "ev")
  | ((with_reducible apply ev_inN) <;> walk_at "ev")
  | ((with_reducible apply ev_inT) <;> walk_at "ev")
  | ((with_reducible apply ev_ixT) <;> walk_at "ev")
  | ((with_reducible apply ev_ixS) <;> walk_at "ev")
  | ((with_reducible apply ev_len') <;> walk_at "ev")
  | ((with_reducible apply et_test) <;> walk_at "ev")
  | ((with_reducible apply et_and) <;> walk_at "ev")
  | ((with_reducible apply et_or) <;> walk_at "ev")
  | ((with_reducible apply et_not) <;> walk_at "ev")
  | ((with_reducible apply et_B) <;> walk_at "ev")
  | ((with_reducible apply el_lst) <;> walk_at "ev")
  | ((with_reducible apply eu_tup) <;> walk_at "ev")
  | ((with_reducible apply ea_cons) <;> walk_at "ev")
  | with_reducible exact ea_nil
  | with_reducible assumption
  | ((with_reducible apply ex_l' ; assumption) ; walk_at "ex")
  | ((with_reducible apply ex_t' ; assumption) ; walk_at "ex")
  | (intro _ ; walk_at "ev")
  | (with_reducible first | exact atI_hd | exact at_kind | exact at2s | exact at3s | exact at3i)
  | (first | exact rfl | exact Nat.le_of_ble_eq_true rfl | exact ⟨by decide, by decide⟩ | decide | exact Or.inl ⟨by omega, by omega⟩ | exact Or.inr ⟨by omega, by omega⟩ | omega)
  | skip)
local macro_rules | `(tactic| walk_at "ex") => `(tactic| first
  | assumption
  | exact Ex.refl _
  | (refine' Ex.trans ?_ (by assumption) ; walk_at "ex"))
local macro_rules | `(tactic| walk_at "row") => `(tactic| first
  | (with_reducible exact er_nil)
  | ((with_reducible apply er_cons) <;> walk_at "row")
  | (((with_reducible apply er_var) ; rfl) ; walk_at "isrow")
  | (((with_reducible apply elr_var) ; rfl) ; walk_at "isrow")
  | ((with_reducible apply elr_cat) <;> walk_at "row")
  | ((with_reducible apply elr_lst) <;> walk_at "row")
  | ((with_reducible apply er_fin) <;> walk_at "ev")
  | ((with_reducible apply er_lendT) <;> walk_at "ev")
  | ((with_reducible apply er_lendW) <;> walk_at "ev")
  | ((with_reducible apply er_pick) <;> walk_at "ev")
  | ((with_reducible apply er_either) <;> walk_at "ev")
  | ((with_reducible apply er_or) <;> walk_at "ev")
  | ((with_reducible apply er_again) <;> walk_at "ev")
  | ((with_reducible apply er_back) <;> walk_at "ev")
  | ((with_reducible apply er_look) <;> walk_at "ev")
  | ((with_reducible apply er_change) <;> walk_at "ev")
  | exact Nat.le_of_ble_eq_true rfl
  | skip)
local macro_rules | `(tactic| walk_at "isrow") => `(tactic| first
  | assumption
  | (refine IsRow.up ?_ (by assumption) ; walk_at "ex")
  | (refine LRows.up ?_ (by assumption) ; walk_at "ex"))

abbrev s_l_choices : Stmt := topS 37
theorem sc_l_choices : FnScope ["_law_script", "_law_cell"] ["_law_script"] (defScope s_l_choices) := ⟨rfl, rfl, rfl, by decide +kernel, rfl, by decide +kernel, by decide +kernel⟩
/-- the choices: the last twenty from behind -/
def choM (ns : List Int) : List Int := (ns.reverse.take 20).map fun x => x % 60
theorem choM_len (ns : List Int) : (choM ns).length ≤ 20 := by
  unfold choM
  rw [List.length_map]
  exact List.length_take_le _ _
section
variable {K : PySem.W.Frag} {σ : L2.St} {H H' : Hp} {ta tb te tl : TE} {tx ty : TO} {xs : List V}
theorem el_lstRev {p : Addr} (h : Ev te σ H (.ref p)) (hp : SqL K H p xs) : EvL (tLstRev K te) σ H xs.reverse := fun H1 e Q q =>
  h H1 e _ fun H2 e2 => ⟨p, xs, rfl, ex_l (e.trans e2) hp, fun l hl => q l _ (fresh_back e2 hl) (e2.trans (Ex.new hl)) upd_same⟩
theorem el_slN {lo hi : Option Int} (h : EvL te σ H xs) (h1 : EvO tx σ H lo) (h2 : EvO ty σ H hi) : EvL (tSl (rSlL K) te tx ty) σ H (cutV xs lo hi) := fun H1 e _ q =>
  h H1 e _ fun p H2 hp e2 hx => h1 H2 (e.trans e2) _ fun H3 e3 => h2 H3 ((e.trans e2).trans e3) _ fun H4 e4 =>
    ⟨p, xs, rfl, sq_of (e4 _ _ (e3 _ _ hx)), fun l hl => q l _ (fresh_back ((e2.trans e3).trans e4) hl) (((e2.trans e3).trans e4).trans (Ex.new hl)) upd_same⟩
theorem ev_sum {a : Addr} {ns : List Int} (h : Ev te σ H (.ref a)) (hS : SqL K H a (ns.map V.int)) : Ev (tCB (rSum K) (tCons te tNil)) σ H (.int ns.sum) := fun H1 e Q q =>
  h H1 e _ fun H2 e2 => ⟨a, ns, rfl, ex_l (e.trans e2) hS, q H2 e2⟩
end
section
variable {P : Program} {w : World} {K : PySem.W.Frag} {mg : Str → Option Value} {base : Heap}
def spCho (K : PySem.W.Frag) : Sp := fun vs H Q _ => ∃ (a : Addr) (ns : List Int), vs = [.ref a] ∧ SqL K H a (ns.map V.int) ∧ RetL ((choM ns).map V.int) H Q
theorem cho_given (ns : List Int) : (choM ns).map V.int = given (cutV (ns.map V.int).reverse none (some (20 : Nat))).length (fun _ => true) (fun i => .int ((ns.reverse.getD i 0) % 60)) := by
  rw [cut_take, given_all]
  unfold choM
  refine List.ext_getElem? fun i => ?_
  rw [List.map_map, List.getElem?_map, List.getElem?_map, List.length_take, List.length_reverse, List.length_map]
  by_cases hi : i < 20 ∧ i < ns.length
  · rw [List.getElem?_range (by omega), List.getElem?_take_of_lt hi.1]
    show _ = some (V.int (ns.reverse.getD i 0 % 60))
    rw [List.getD_eq_getElem?_getD, List.getElem?_eq_getElem (by rw [List.length_reverse] ; exact hi.2)]
    rfl
  · rw [List.getElem?_eq_none (l := List.range _) (by rw [List.length_range] ; omega), List.getElem?_eq_none (by rw [List.length_take, List.length_reverse] ; omega)]
    rfl
theorem ok_cho (D : Dn K mg "_law_choices" s_l_choices ["_law_script"]) (T : Blt mg) : Has P w K mg base "_law_choices" 1 ["_law_script"] (spCho K) := by
  refine D.ok sc_l_choices (fun vs H Q E h => ?_) (fun f cdv A outer s H vs Q E hr h => ?_)
  · obtain ⟨a, ns, rfl, _⟩ := h
    rfl
  · obtain ⟨a, ns, rfl, hS, q⟩ := h
    refine ⟨_, (pss_one (ps_ret (pe_lc (own := [("_law_cell", 1)]) (g := (gName 1)) (tt := tYes) rfl sc_l_choices.nd (pi_list (pe_slice sl_list (pe_lstRev rfl (by rfl) T.list_ (by rfl) T.reversed_ (pv 0)) po_none (po_some pe_int))) (blkOk_by (own := [("_law_cell", 1)]) (N := ["_law_script", "_law_cell"]) (sc := defScope s_l_choices) (by decide +kernel)) (fun _ _ _ _ _ => (pg_name (i := 1) sc_l_choices.nd rfl (Or.inl rfl))) (fun _ _ _ _ _ => pts_nil) (fun _ _ _ _ _ => (pe_op op_mod (pv 1) pe_int))))), ?_⟩
    show (_ : L2.TS) _ [_, _] _
    refine s_retL (xs := (choM ns).map V.int) ?_ (fun p H1 hp e1 h1 => q p H1 hp e1 h1)
    rw [cho_given]
    refine el_lcNL _ _ (el_slN (el_lstRev (ev_var rfl) hS) eo_none (eo_some ev_c)) ?_ (fun x => rfl) (fun i x H2 e2 hi => et_yes) (fun i x H2 e2 hi _ => ?_)
    · rw [cut_take]
      have := List.length_take_le 20 (ns.map V.int).reverse
      omega
    · rw [cut_take] at hi
      have h2 : (ns.map V.int).reverse[i]? = some x := by
        rw [List.getElem?_take] at hi
        split at hi
        · exact hi
        · cases hi
      rw [← List.map_reverse, List.getElem?_map] at h2
      cases h3 : ns.reverse[i]? with
      | none => rw [h3] at h2; cases h2
      | some n =>
        rw [h3] at h2
        cases h2
        rw [List.getD_eq_getElem?_getD, h3]
        exact ev_I (ev_var rfl) ev_c (by decide)
theorem el_cho {a : Addr} {ns : List Int} {ta : TA} {σ : L2.St} {H : Hp} {E : XK} (h : EvA ta σ H [.ref a]) (hS : SqL K H a (ns.map V.int)) : EvL (tCall (spCho K) [] E ta) σ H ((choM ns).map V.int) :=
  el_call h fun H1 e Q q E => ⟨a, ns, rfl, ex_l e hS, fun p H2 hp e2 h2 => q p H2 hp e2 h2⟩
end
end BD
namespace BD
open PySem PySem.Spec PyProof.Rows L2 Evl
local macro_rules | `(tactic| walk_at "ev") => `(tactic| first
  | ((with_reducible apply ev_var) ; rfl)
  | with_reducible exact ev_c
  | ((with_reducible apply ev_I0) <;> walk_at "ev")
  | ((with_reducible apply ev_e9) <;> walk_at "ev")
  | ((with_reducible apply ev_I) <;> walk_at "ev")
  | ((with_reducible apply ev_eq) <;> walk_at "ev")
  | ((with_reducible apply ev_ne) <;> walk_at "ev")
  | ((with_reducible apply ev_neg) <;> walk_at "ev")
  | ((with_reducible apply ev_ixN) <;> walk_at "ev")
  | ((with_reducible apply ev_ixL) <;> walk_at "ev")
  | ((with_reducible apply ev_inN) <;> walk_at "ev")
  | ((with_reducible apply ev_inT) <;> walk_at "ev")
  | ((with_reducible apply ev_ixT) <;> walk_at "ev")
  | ((with_reducible apply ev_ixS) <;> walk_at "ev")
  | ((with_reducible apply ev_len') <;> walk_at "ev")
  | ((with_reducible apply et_test) <;> walk_at "ev")
  | ((with_reducible apply et_and) <;> walk_at "ev")
  | ((with_reducible apply et_or) <;> walk_at "ev")
  | ((with_reducible apply et_not) <;> walk_at "ev")
  | ((with_reducible apply et_B) <;> walk_at "ev")
  | ((with_reducible apply el_lst) <;> walk_at "ev")
  | ((with_reducible apply eu_tup) <;> walk_at "ev")
  | ((with_reducible apply ea_cons) <;> walk_at "ev")
  | with_reducible exact ea_nil
  | with_reducible assumption
  | ((with_reducible apply ex_l' ; assumption) ; walk_at "ex")
  | ((with_reducible apply ex_t' ; assumption) ; walk_at "ex")
  | (intro _ ; walk_at "ev")
  | (with_reducible first | exact atI_hd | exact at_kind | exact at2s | exact at3s | exact at3i)
  | (first | exact rfl | exact Nat.le_of_ble_eq_true rfl | exact ⟨by decide, by decide⟩ | decide | exact Or.inl ⟨by omega, by omega⟩ | exact Or.inr ⟨by omega, by omega⟩ | omega)
  | skip)
local macro_rules | `(tactic| walk_at "ex") => `(tactic| first
  | assumption
  | exact Ex.refl _
  | (refine' Ex.trans ?_ (by assumption) ; walk_at "ex"))
local macro_rules | `(tactic| walk_at "row") => `(tactic| first
  | (with_reducible exact er_nil)
  | ((with_reducible apply er_cons) <;> walk_at "row")
  | (((with_reducible apply er_var) ; rfl) ; walk_at "isrow")
  | (((with_reducible apply elr_var) ; rfl) ; walk_at "isrow")
  | ((with_reducible apply elr_cat) <;> walk_at "row")
  | ((with_reducible apply elr_lst) <;> walk_at "row")
  | ((with_reducible apply er_fin) <;> walk_at "ev")
  | ((with_reducible apply er_lendT) <;> walk_at "ev")
  | ((with_reducible apply er_lendW) <;> walk_at "ev")
  | ((with_reducible apply er_pick) <;> walk_at "ev")
  | ((with_reducible apply er_either) <;> walk_at "ev")
  | ((with_reducible apply er_or) <;> walk_at "ev")
  | ((with_reducible apply er_again) <;> walk_at "ev")
  | ((with_reducible apply er_back) <;> walk_at "ev")
  | ((with_reducible apply er_look) <;> walk_at "ev")
  | ((with_reducible apply er_change) <;> walk_at "ev")
  | exact Nat.le_of_ble_eq_true rfl
  | skip)
local macro_rules | `(tactic| walk_at "isrow") => `(tactic| first
  | assumption
  | (refine IsRow.up ?_ (by assumption) ; walk_at "ex")
  | (refine LRows.up ?_ (by assumption) ; walk_at "ex"))

/-! ### what is told of a run, of a sheet -/
theorem runF_std {rs : List Rw} (sh : Sheet rs) : ∀ (f i : Nat) (es : List Ent) (cs : List Int), Std rs i es → ∀ st ∈ runF rs f i es cs, Std rs st.1 st.2 ∧ st.1 < rs.length
  | 0, _, _, _, _, st, h => by cases h
  | f + 1, i, es, cs, hs, st, h => by
    cases hr : rs[i]? with
    | none => rw [runF_stop hr] at h; cases h
    | some r =>
      rw [runF_go hr] at h
      obtain ⟨j, hg⟩ := goes (c := takeC r cs) sh hs hr
      rcases List.mem_cons.mp h with z | z
      · rw [z]
        exact ⟨hs, (List.getElem?_eq_some_iff.mp hr).1⟩
      · rw [hg.at_, Int.toNat_natCast] at z
        exact runF_std sh f j _ _ hg.std st z
theorem runM_std {rs : List Rw} (sh : Sheet rs) (cs : List Int) : ∀ st ∈ runM rs cs, Std rs st.1 st.2 ∧ st.1 < rs.length := runF_std sh _ 0 [] cs (std0 rs)
theorem Stds.at {H : Hp} : ∀ {vs : List V} {sts : List (Nat × List Ent)} {i : Nat} {x : V}, Stds H vs sts → vs[i]? = some x → ∃ st, sts[i]? = some st ∧ AStand (st.1 : Int) st.2 x H
  | _, _, 0, _, .cons r _, e => by cases e; exact ⟨_, rfl, r⟩
  | _, _, i + 1, _, .cons _ t, e => Stds.at (i := i) t e
theorem Std.backed {rs : List Rw} {i : Nat} {es : List Ent} (u : Str) (h : Std rs i es) : Std rs i (backM u es) := ⟨h.le, held_same h.held (back_same u es)⟩
theorem rows_dp {K : PySem.W.Frag} {H : Hp} : ∀ {us : List V} {rs : List Rw}, Rows H us rs → DpAll K H us (rs.map rowD)
  | _, _, .nil => .nil
  | _, _, .cons r t => .cons (row_dp r) (rows_dp t)
theorem row_deep {r : Rw} : (rowD r).depth ≤ 3 := by
  cases r with
  | lend a b s => cases s <;> simp [rowD, Src.d, PyData.depth, PyData.depthAll]
  | pick w ts => simp [rowD, PyData.depth, PyData.depthAll, PySem.W.ke_depthAll]
  | _ => simp [rowD, PyData.depth, PyData.depthAll]
theorem rows_lay : ∀ {rs : List Rw}, (∀ r ∈ rs, RowS r) → PyData.canLayAll0 (rs.map rowD) = true ∧ PyData.depthAll (rs.map rowD) ≤ 3
  | [], _ => ⟨rfl, Nat.zero_le _⟩
  | r :: rs, h => by
    have hr := row_lay (h r List.mem_cons_self)
    have hd := row_deep (r := r)
    have ih := rows_lay (rs := rs) fun x hx => h x (List.mem_cons_of_mem _ hx)
    constructor
    · rw [List.map_cons]
      simp [PyData.canLayAll0, hr.1, ih.1]
    · rw [List.map_cons]
      have := ih.2
      simp [PyData.depthAll]
      omega
theorem rows_shaped {rs : List Rw} (h : ∀ r ∈ rs, RowS r) : SeqAt.shaped (.list (rs.map rowD)) = true := by
  have := rows_lay h
  unfold SeqAt.shaped
  have e : (PyData.list (rs.map rowD)).canLay0 = true := by simp [PyData.canLay0, this.1]
  have e2 : (PyData.list (rs.map rowD)).depth ≤ 64 := by simp [PyData.depth]; omega
  rw [e, decide_eq_true e2]
  rfl
section
variable {K : PySem.W.Frag} {σ : L2.St} {H H' : Hp} {ta tb te : TE} {rs : List Rw}
theorem ev_neRows {p p' : Addr} {us vs : List V} (hs : ∀ r ∈ rs, RowS r) (ha : Ev ta σ H (.ref p)) (hb : Ev tb σ H (.ref p')) (hp : SqL K H p us) (hR : Rows H us rs) (hp' : SqL K H p' vs) (hR' : Rows H vs rs) : Ev (tOp (rNeD K) ta tb) σ H (.bl false) :=
  ev_is (ev_neD ha hb (fun H1 e => .lst (ex_l e hp) (rows_dp (hR.up e))) (fun H1 e => .lst (ex_l e hp') (rows_dp (hR'.up e))) (rows_shaped hs) (rows_shaped hs)) (by
    rw [SeqAt.eqv_refl _ (SeqAt.canLay_of_shaped (rows_shaped hs))]
    rfl)
theorem ep_var {i : Nat} {v : V} {R : V → Hp → Prop} (h : σ[i]? = some (some v)) (hr : ∀ H1, Ex H H1 → R v H1) : EvP (tVar i) σ H R := fun H1 x Q q => ⟨v, h, q v H1 (Ex.refl H1) (hr H1 x)⟩
end
section
variable {K : PySem.W.Frag} {σ : L2.St} {H H' : Hp} {ta tb te : TE} {rs : List Rw}
theorem epl_runN {a : Addr} {cs : List Int} {rv : List V} {E : XK} (h : Ev ta σ H (.ref a)) (hc : EvL tb σ H (cs.map V.int)) (hS : SqL K H a rv) (hR : Rows H rv rs) (sh : Sheet rs) (hl : rs.length ≤ 40000) (hb : (cs.length + 1) * (2 * rs.length + 3) ≤ 99000) :
    EvPL (tCall (spRun K) [] E (tCons ta (tCons tb tNil))) σ H (fun us H2 => Stds H2 us (runM rs cs)) := fun H1 e Q q =>
  h H1 e _ fun H2 e2 => hc H2 (e.trans e2) _ fun pc H3 _ e3 h3 => ⟨a, pc, cs, rv, rs, rfl, ex_l (e.trans (e2.trans e3)) hS, hR.up (e.trans (e2.trans e3)), sq_of h3, sh, hl, hb, fun p vs H4 hp e4 h4 hs => q p vs H4 (fresh_back (e2.trans e3) hp) ((e2.trans e3).trans e4) h4 hs⟩
theorem run_bound {rs : List Rw} {cs : List Int} (h : cs.length ≤ 20) (hl : rs.length ≤ 1500) : (cs.length + 1) * (2 * rs.length + 3) ≤ 99000 := by
  have h1 : (cs.length + 1) * (2 * rs.length + 3) ≤ 21 * 3003 := Nat.mul_le_mul (by omega) (by omega)
  omega
/-- a place by a remainder -/
theorem at_mod {xs : List V} (h : 0 < xs.length) (n : Int) : ∃ (k : Nat) (x : V), k < xs.length ∧ xs[k]? = some x ∧ atI xs (n % (xs.length : Int)) = some x := by
  have h1 := Int.emod_nonneg n (show (xs.length : Int) ≠ 0 by omega)
  have h2 := Int.emod_lt_of_pos n (show (0 : Int) < xs.length by omega)
  have hk : (n % (xs.length : Int)).toNat < xs.length := by omega
  refine ⟨_, xs[(n % (xs.length : Int)).toNat], hk, List.getElem?_eq_getElem hk, ?_⟩
  have h3 := atI_nat (xs := xs) (List.getElem?_eq_getElem hk)
  rwa [Int.toNat_of_nonneg h1] at h3
end
end BD
namespace BD
open PySem PySem.Spec PyProof.Rows L2 Evl
local macro_rules | `(tactic| walk_at "ev") => `(tactic| first
  | ((with_reducible apply ev_var) ; rfl)
  | with_reducible exact ev_c
  | ((with_reducible apply ev_I0) <;> walk_at "ev")
  | ((with_reducible apply ev_e9) <;> walk_at "ev")
  | ((with_reducible apply ev_I) <;> walk_at "ev")
  | ((with_reducible apply ev_eq) <;> walk_at "ev")
  | ((with_reducible apply ev_ne) <;> walk_at "ev")
  | ((with_reducible apply ev_neg) <;> walk_at "ev")
  | ((with_reducible apply ev_ixN) <;> walk_at "ev")
  | ((with_reducible apply ev_ixL) <;> walk_at "ev")
  | ((with_reducible apply ev_inN) <;> walk_at "ev")
  | ((with_reducible apply ev_inT) <;> walk_at "ev")
  | ((with_reducible apply ev_ixT) <;> walk_at "ev")
  | ((with_reducible apply ev_ixS) <;> walk_at "ev")
  | ((with_reducible apply ev_len') <;> walk_at "ev")
  | ((with_reducible apply et_test) <;> walk_at "ev")
  | ((with_reducible apply et_and) <;> walk_at "ev")
  | ((with_reducible apply et_or) <;> walk_at "ev")
  | ((with_reducible apply et_not) <;> walk_at "ev")
  | ((with_reducible apply et_B) <;> walk_at "ev")
  | ((with_reducible apply el_lst) <;> walk_at "ev")
  | ((with_reducible apply eu_tup) <;> walk_at "ev")
  | ((with_reducible apply ea_cons) <;> walk_at "ev")
  | with_reducible exact ea_nil
  | with_reducible assumption
  | ((with_reducible apply ex_l' ; assumption) ; walk_at "ex")
  | ((with_reducible apply ex_t' ; assumption) ; walk_at "ex")
  | (intro _ ; walk_at "ev")
  | (with_reducible first | exact atI_hd | exact at_kind | exact at2s | exact at3s | exact at3i)
  | (first | exact rfl | exact Nat.le_of_ble_eq_true rfl | exact ⟨by decide, by decide⟩ | decide | exact Or.inl ⟨by omega, by omega⟩ | exact Or.inr ⟨by omega, by omega⟩ | omega)
  | skip)
local macro_rules | `(tactic| walk_at "ex") => `(tactic| first
  | assumption
  | exact Ex.refl _
  | (refine' Ex.trans ?_ (by assumption) ; walk_at "ex"))
local macro_rules | `(tactic| walk_at "row") => `(tactic| first
  | (with_reducible exact er_nil)
  | ((with_reducible apply er_cons) <;> walk_at "row")
  | (((with_reducible apply er_var) ; rfl) ; walk_at "isrow")
  | (((with_reducible apply elr_var) ; rfl) ; walk_at "isrow")
  | ((with_reducible apply elr_cat) <;> walk_at "row")
  | ((with_reducible apply elr_lst) <;> walk_at "row")
  | ((with_reducible apply er_fin) <;> walk_at "ev")
  | ((with_reducible apply er_lendT) <;> walk_at "ev")
  | ((with_reducible apply er_lendW) <;> walk_at "ev")
  | ((with_reducible apply er_pick) <;> walk_at "ev")
  | ((with_reducible apply er_either) <;> walk_at "ev")
  | ((with_reducible apply er_or) <;> walk_at "ev")
  | ((with_reducible apply er_again) <;> walk_at "ev")
  | ((with_reducible apply er_back) <;> walk_at "ev")
  | ((with_reducible apply er_look) <;> walk_at "ev")
  | ((with_reducible apply er_change) <;> walk_at "ev")
  | exact Nat.le_of_ble_eq_true rfl
  | skip)
local macro_rules | `(tactic| walk_at "isrow") => `(tactic| first
  | assumption
  | (refine IsRow.up ?_ (by assumption) ; walk_at "ex")
  | (refine LRows.up ?_ (by assumption) ; walk_at "ex"))

/-! ### entries and standings as data -/
def KindS (k : Str) : Prop := k = "read" ∨ k = "write" ∨ k = "pick"
structure EntS (e : Ent) : Prop where
  w : WordS e.w
  k : KindS e.k
  s : e.s = "" ∨ WordS e.s
def entD (e : Ent) : PyData := .tuple [.str e.w, .str e.k, .int e.t, .str e.s, .bool e.o]
def stD (i : Int) (es : List Ent) : PyData := .tuple [.int i, .tuple (es.map entD)]
theorem ents_dp {K : PySem.W.Frag} {H : Hp} : ∀ {us : List V} {ls : List Ent}, Ents H us ls → DpAll K H us (ls.map entD)
  | _, _, .nil => .nil
  | _, _, .cons r t => by
    obtain ⟨p, rfl, hp⟩ := r
    exact .cons (.tup (st_of hp) (.cons (.str _) (.cons (.str _) (.cons (.int _) (.cons (.str _) (.cons (.bl _) .nil)))))) (ents_dp t)
theorem stand_dp {K : PySem.W.Frag} {H : Hp} {i : Int} {es : List Ent} {x : V} (h : AStand i es x H) : Dp K H x (stD i es) := by
  obtain ⟨p, q, vs, rfl, hp, hq, hE⟩ := h
  exact .tup (st_of hp) (.cons (.int _) (.cons (.tup (st_of hq) (ents_dp hE)) .nil))
theorem kindS_ok {k : Str} (h : KindS k) : PyData.strOk k = true := by
  rcases h with h | h | h <;> subst h <;> decide +kernel
theorem ents_lay : ∀ {ls : List Ent}, (∀ e ∈ ls, EntS e) → PyData.canLayAll0 (ls.map entD) = true ∧ PyData.depthAll (ls.map entD) ≤ 1
  | [], _ => ⟨rfl, Nat.zero_le _⟩
  | e :: ls, h => by
    have he := h e List.mem_cons_self
    have ih := ents_lay (ls := ls) fun x hx => h x (List.mem_cons_of_mem _ hx)
    have h1 := word_ok he.w
    have h2 := kindS_ok he.k
    have h3 : PyData.strOk e.s = true := by
      rcases he.s with z | z
      · rw [z]; decide +kernel
      · exact word_ok z
    constructor
    · rw [List.map_cons]
      simp [entD, PyData.canLayAll0, PyData.canLay0, h1, h2, h3, ih.1]
    · rw [List.map_cons]
      have := ih.2
      simp [entD, PyData.depthAll, PyData.depth]
      omega
theorem stand_shaped {i : Int} {es : List Ent} (h : ∀ e ∈ es, EntS e) : SeqAt.shaped (stD i es) = true := by
  have h1 := ents_lay h
  have e : (stD i es).canLay0 = true := by simp [stD, PyData.canLay0, PyData.canLayAll0, h1.1]
  have e2 : (stD i es).depth ≤ 64 := by
    have := h1.2
    simp [stD, PyData.depth, PyData.depthAll]
    omega
  unfold SeqAt.shaped
  rw [e, decide_eq_true e2]
  rfl
/-! ### runs keep the entries whole -/
theorem named_mem {op : List Rw} {r : Rw} (h : r ∈ op.filter Rw.named) : r ∈ op ∧ r.named = true := List.mem_filter.mp h
theorem back_entS {es : List Ent} (u : Str) (h : ∀ e ∈ es, EntS e) : ∀ e ∈ backM u es, EntS e := by
  have key : ∀ {xs ys : List Ent}, Paired SameE xs ys → (∀ e ∈ xs, EntS e) → ∀ e ∈ ys, EntS e := by
    intro xs ys hp
    induction hp with
    | nil => intro _ e he; cases he
    | cons r t ih =>
      intro hx e he
      rcases List.mem_cons.mp he with z | z
      · subst z
        have h0 := hx _ List.mem_cons_self
        exact ⟨by rw [r.w]; exact h0.w, by rw [r.k]; exact h0.k, by rw [r.s]; exact h0.s⟩
      · exact ih (fun e he => hx e (List.mem_cons_of_mem _ he)) e z
  exact key (back_same u es) h
theorem look_in {es : List Ent} {u : Str} {e : Ent} (h : lookE es u = some e) : e ∈ es := by
  exact List.mem_of_find?_eq_some h
theorem goM_entS {rs : List Rw} (sh : Sheet rs) {i : Nat} {es : List Ent} {c : Int} {r : Rw} (hr : rs[i]? = some r) (h : ∀ e ∈ es, EntS e) : ∀ e ∈ (goM rs i es c).2, EntS e := by
  have hs := sh.s r (List.mem_of_getElem? hr)
  unfold goM
  rw [hr]
  cases r with
  | lend a k s =>
    intro e he
    rcases List.mem_append.mp he with z | z
    · exact h e z
    · rw [List.mem_singleton.mp z]
      have hk : KindS k := hs.2.1.elim Or.inl fun y => Or.inr (Or.inl y)
      cases s with
      | thing n => exact ⟨hs.1, hk, Or.inl rfl⟩
      | word u =>
        show EntS (match lookE es u with
          | some e => ⟨a, k, e.t, if e.k = "pick" then "" else e.w, e.o⟩
          | none => ⟨a, k, 0, "", true⟩)
        cases hl : lookE es u with
        | none => exact ⟨hs.1, hk, Or.inl rfl⟩
        | some e2 =>
          have he2 := h e2 (look_in hl)
          refine ⟨hs.1, hk, ?_⟩
          show (if e2.k = "pick" then ("" : Str) else e2.w) = "" ∨ WordS (if e2.k = "pick" then ("" : Str) else e2.w)
          by_cases hp : e2.k = "pick"
          · rw [if_pos hp]; exact Or.inl rfl
          · rw [if_neg hp]; exact Or.inr he2.w
  | pick w ts =>
    intro e he
    rcases List.mem_append.mp he with z | z
    · exact h e z
    · rw [List.mem_singleton.mp z]
      exact ⟨hs.1, Or.inr (Or.inr rfl), Or.inl rfl⟩
  | back u => exact back_entS u h
  | either => exact h
  | or => exact h
  | again => intro e he; dsimp only at he; split at he <;> exact h e he
  | fin =>
    intro e he
    dsimp only at he
    split at he
    · exact h e he
    · split at he
      · exact h e he
      · exact h e ((List.dropLast_sublist es).mem he)
  | look u => exact h
  | change u => exact h
theorem runF_entS {rs : List Rw} (sh : Sheet rs) : ∀ (f i : Nat) (es : List Ent) (cs : List Int), (∀ e ∈ es, EntS e) → ∀ st ∈ runF rs f i es cs, ∀ e ∈ st.2, EntS e
  | 0, _, _, _, _, st, h => by cases h
  | f + 1, i, es, cs, hs, st, h => by
    cases hr : rs[i]? with
    | none => rw [runF_stop hr] at h; cases h
    | some r =>
      rw [runF_go hr] at h
      rcases List.mem_cons.mp h with z | z
      · rw [z]; exact hs
      · exact runF_entS sh f _ _ _ (goM_entS sh hr hs) st z
theorem runM_entS {rs : List Rw} (sh : Sheet rs) (cs : List Int) : ∀ st ∈ runM rs cs, ∀ e ∈ st.2, EntS e := runF_entS sh _ 0 [] cs (fun e he => by cases he)
end BD
namespace BD
open PySem PySem.Spec PyProof.Rows L2 Evl
local macro_rules | `(tactic| walk_at "ev") => `(tactic| first
  | ((with_reducible apply ev_var) ; rfl)
  | with_reducible exact ev_c
  | ((with_reducible apply ev_I0) <;> walk_at "ev")
  | ((with_reducible apply ev_e9) <;> walk_at "ev")
  | ((with_reducible apply ev_I) <;> walk_at "ev")
  | ((with_reducible apply ev_eq) <;> walk_at "ev")
  | ((with_reducible apply ev_ne) <;> walk_at "ev")
  | ((with_reducible apply ev_neg) <;> walk_at "ev")
  | ((with_reducible apply ev_ixN) <;> walk_at "ev")
  | ((with_reducible apply ev_ixL) <;> walk_at "ev")
  | ((with_reducible apply ev_inN) <;> walk_at "ev")
  | ((with_reducible apply ev_inT) <;> walk_at "ev")
  | ((with_reducible apply ev_ixT) <;> walk_at "ev")
  | ((with_reducible apply ev_ixS) <;> walk_at "ev")
  | ((with_reducible apply ev_len') <;> walk_at "ev")
  | ((with_reducible apply et_test) <;> walk_at "ev")
  | ((with_reducible apply et_and) <;> walk_at "ev")
  | ((with_reducible apply et_or) <;> walk_at "ev")
  | ((with_reducible apply et_not) <;> walk_at "ev")
  | ((with_reducible apply et_B) <;> walk_at "ev")
  | ((with_reducible apply el_lst) <;> walk_at "ev")
  | ((with_reducible apply eu_tup) <;> walk_at "ev")
  | ((with_reducible apply ea_cons) <;> walk_at "ev")
  | with_reducible exact ea_nil
  | with_reducible assumption
  | ((with_reducible apply ex_l' ; assumption) ; walk_at "ex")
  | ((with_reducible apply ex_t' ; assumption) ; walk_at "ex")
  | (intro _ ; walk_at "ev")
  | (with_reducible first | exact atI_hd | exact at_kind | exact at2s | exact at3s | exact at3i)
  | (first | exact rfl | exact Nat.le_of_ble_eq_true rfl | exact ⟨by decide, by decide⟩ | decide | exact Or.inl ⟨by omega, by omega⟩ | exact Or.inr ⟨by omega, by omega⟩ | omega)
  | skip)
local macro_rules | `(tactic| walk_at "ex") => `(tactic| first
  | assumption
  | exact Ex.refl _
  | (refine' Ex.trans ?_ (by assumption) ; walk_at "ex"))
local macro_rules | `(tactic| walk_at "row") => `(tactic| first
  | (with_reducible exact er_nil)
  | ((with_reducible apply er_cons) <;> walk_at "row")
  | (((with_reducible apply er_var) ; rfl) ; walk_at "isrow")
  | (((with_reducible apply elr_var) ; rfl) ; walk_at "isrow")
  | ((with_reducible apply elr_cat) <;> walk_at "row")
  | ((with_reducible apply elr_lst) <;> walk_at "row")
  | ((with_reducible apply er_fin) <;> walk_at "ev")
  | ((with_reducible apply er_lendT) <;> walk_at "ev")
  | ((with_reducible apply er_lendW) <;> walk_at "ev")
  | ((with_reducible apply er_pick) <;> walk_at "ev")
  | ((with_reducible apply er_either) <;> walk_at "ev")
  | ((with_reducible apply er_or) <;> walk_at "ev")
  | ((with_reducible apply er_again) <;> walk_at "ev")
  | ((with_reducible apply er_back) <;> walk_at "ev")
  | ((with_reducible apply er_look) <;> walk_at "ev")
  | ((with_reducible apply er_change) <;> walk_at "ev")
  | exact Nat.le_of_ble_eq_true rfl
  | skip)
local macro_rules | `(tactic| walk_at "isrow") => `(tactic| first
  | assumption
  | (refine IsRow.up ?_ (by assumption) ; walk_at "ex")
  | (refine LRows.up ?_ (by assumption) ; walk_at "ex"))

abbrev s_l_whole : Stmt := topS 34
theorem sc_l_whole : FnScope ["_law_found"] ["_law_found"] (defScope s_l_whole) := ⟨rfl, rfl, rfl, by decide +kernel, rfl, by decide +kernel, by decide +kernel⟩
abbrev s_l_entry : Stmt := topS 35
theorem sc_l_entry : FnScope ["_law_found"] ["_law_found"] (defScope s_l_entry) := ⟨rfl, rfl, rfl, by decide +kernel, rfl, by decide +kernel, by decide +kernel⟩
abbrev s_l_standing : Stmt := topS 36
theorem sc_l_standing : FnScope ["_law_found", "_law_one"] ["_law_found"] (defScope s_l_standing) := ⟨rfl, rfl, rfl, by decide +kernel, rfl, by decide +kernel, by decide +kernel⟩
section
variable {P : Program} {w : World} {K : PySem.W.Frag} {mg : Str → Option Value} {base : Heap}
def spWhole : Sp := fun vs H Q _ => ∃ (i : Int), vs = [.int i] ∧ RetV (.bl true) H Q
theorem ok_whole (D : Dn K mg "_law_whole" s_l_whole ["_law_found"]) (T : Blt mg) : Has P w K mg base "_law_whole" 1 ["_law_found"] spWhole := by
  refine D.ok sc_l_whole (fun vs H Q E h => ?_) (fun f cdv A outer s H vs Q E hr h => ?_)
  · obtain ⟨i, rfl, _⟩ := h
    rfl
  · obtain ⟨i, rfl, q⟩ := h
    refine ⟨_, (pss_one (ps_ret (pe_and (pe_callB (show CallR _ _ (rIsi K) from call_isi) (by rfl) T.isinstance_ (by decide +kernel) (pa_cons (pv 0) (pa_cons (pe_bltn (v := .ty "int") (by rfl) T.int_ (by decide +kernel) rfl) pa_nil))) (pe_one (pe_not (pe_callB (show CallR _ _ (rIsi K) from call_isi) (by rfl) T.isinstance_ (by decide +kernel) (pa_cons (pv 0) (pa_cons (pe_bltn (v := .ty "bool") (by rfl) T.bool_ (by decide +kernel) rfl) pa_nil)))))))), ?_⟩
    refine s_ret (v := .bl (true && !false)) (ev_andV (ev_isiI (i := i) ?_ (show kitB "int" "int" = some true by decide +kernel)) (fun _ => ev_notV (ev_isiI (i := i) ?_ (show kitB "int" "bool" = some false by decide +kernel)))) (fun H1 e1 => q H1 e1)
    · walk_at "ev"
    · walk_at "ev"
theorem ev_whole {i : Int} {ta : TA} {σ : L2.St} {H : Hp} {E : XK} (h : EvA ta σ H [.int i]) : Ev (tCall spWhole [] E ta) σ H (.bl true) := ev_call h fun H1 e Q q E => ⟨i, rfl, q⟩
def spEntry : Sp := fun vs H Q _ => ∃ (x : V) (e : Ent), vs = [x] ∧ IsEnt H x e ∧ RetV (.bl true) H Q
theorem ok_entry (D : Dn K mg "_law_entry" s_l_entry ["_law_found"]) (T : Blt mg) (h_l_whole : Has P w K mg base "_law_whole" 1 ["_law_found"] spWhole) : Has P w K mg base "_law_entry" 2 ["_law_found"] spEntry := by
  refine D.ok sc_l_entry (fun vs H Q E h => ?_) (fun f cdv A outer s H vs Q E hr h => ?_)
  · obtain ⟨x, e, rfl, _⟩ := h
    rfl
  · obtain ⟨x, e, rfl, hX, q⟩ := h
    obtain ⟨px, rfl, hpx⟩ := id hX
    refine ⟨_, (pss_cons (ps_if (PW.pt (pw_or (pt_not (pt_val (pe_callB (show CallR _ _ (rIsi K) from call_isi) (by rfl) T.isinstance_ (by decide +kernel) (pa_cons (pv 0) (pa_cons (pe_bltn (v := .ty "tuple") (by rfl) T.tuple_ (by decide +kernel) rfl) pa_nil))))) (pw_or (pt_cmpR op_ne (pe_callB (show CallR _ _ (rLenS K) from call_len_seq) (by rfl) T.len_ (by decide +kernel) (pa_cons (pv 0) pa_nil)) pe_int (nomark _)) (pw_or1 (pt_not (pt_val (pe_callB (show CallR _ _ (rIsi K) from call_isi) (by rfl) T.isinstance_ (by decide +kernel) (pa_cons (pe_ix (show IxR _ (rIxT K) from ix_tup) (pv 0) pe_int (fun _ _ => rfl)) (pa_cons (pe_bltn (v := .ty "bool") (by rfl) T.bool_ (by decide +kernel) rfl) pa_nil))))))))) (pss_one (ps_ret pe_bl)) pss_nil) (pss_cons (ps_if (PW.pt (pw_or (pt_not (pt_val (pe_callB (show CallR _ _ (rIsi K) from call_isi) (by rfl) T.isinstance_ (by decide +kernel) (pa_cons (pe_ix (show IxR _ (rIxT K) from ix_tup) (pv 0) pe_int (fun _ _ => rfl)) (pa_cons (pe_bltn (v := .ty "str") (by rfl) T.str_ (by decide +kernel) rfl) pa_nil))))) (pw_or (pt_not (pt_val (pe_callB (show CallR _ _ (rIsi K) from call_isi) (by rfl) T.isinstance_ (by decide +kernel) (pa_cons (pe_ix (show IxR _ (rIxT K) from ix_tup) (pv 0) pe_int (fun _ _ => rfl)) (pa_cons (pe_bltn (v := .ty "str") (by rfl) T.str_ (by decide +kernel) rfl) pa_nil))))) (pw_or1 (pt_not (pt_val (pe_callB (show CallR _ _ (rIsi K) from call_isi) (by rfl) T.isinstance_ (by decide +kernel) (pa_cons (pe_ix (show IxR _ (rIxT K) from ix_tup) (pv 0) pe_int (fun _ _ => rfl)) (pa_cons (pe_bltn (v := .ty "str") (by rfl) T.str_ (by decide +kernel) rfl) pa_nil))))))))) (pss_one (ps_ret pe_bl)) pss_nil) (pss_one (ps_ret (pe_own h_l_whole (hr.mono (by decide)) (by rfl) (pa_cons (pe_ix (show IxR _ (rIxT K) from ix_tup) (pv 0) pe_int (fun _ _ => rfl)) pa_nil)))))), ?_⟩
    show (_ : L2.TS) _ [_] _
    refine q_when (b := false) (et_is (et_or (et_not (et_B (ev_isiT (ea_cons (ev_var rfl) (ea_cons ev_c ea_nil)) hpx (show kitB "tuple" "tuple" = some true by decide +kernel)))) (fun _ => et_or (et_test (ev_ne (ev_lenT (ev_var rfl) (st_of hpx)) ev_c rfl)) (fun _ => et_not (et_B (ev_isiB (ea_cons (ev_e4 rfl hX) (ea_cons ev_c ea_nil)) (show kitB "bool" "bool" = some true by decide +kernel)))))) rfl) (fun hb _ _ => by cases hb) (fun _ H1 e1 => ?_)
    have hX1 := hX.up e1
    refine q_when (b := false) (et_is (et_or (et_not (et_B (ev_isiS (ea_cons (ev_e0 rfl hX1) (ea_cons ev_c ea_nil)) (show kitB "str" "str" = some true by decide +kernel)))) (fun _ => et_or (et_not (et_B (ev_isiS (ea_cons (ev_e1 rfl hX1) (ea_cons ev_c ea_nil)) (show kitB "str" "str" = some true by decide +kernel)))) (fun _ => et_not (et_B (ev_isiS (ea_cons (ev_e3 rfl hX1) (ea_cons ev_c ea_nil)) (show kitB "str" "str" = some true by decide +kernel)))))) rfl) (fun hb _ _ => by cases hb) (fun _ H2 e2 => ?_)
    exact s_ret (v := .bl true) (ev_whole (ea_cons (ev_e2 rfl (hX1.up e2)) ea_nil)) (fun H3 e3 => q H3 (e1.trans (e2.trans e3)))
theorem ev_entry {x : V} {e : Ent} {ta : TA} {σ : L2.St} {H : Hp} {E : XK} (h : EvA ta σ H [x]) (hX : IsEnt H x e) : Ev (tCall spEntry [] E ta) σ H (.bl true) := ev_call h fun H1 e1 Q q E => ⟨x, e, rfl, hX.up e1, q⟩
/-- all([entry(one) for one in a tuple]) -/
theorem ev_allEntT {E : XK} {tl : TE} {σ : L2.St} {H : Hp} {p : Addr} {us : List V} {ls : List Ent} {j : Nat} {ws : List Nat} (hl : Ev tl σ H (.ref p)) (hp : SqT K H p us) (hU : Ents H us ls) (hz : us.length ≤ 40000) (hw : ∀ x, wipe ((wipe σ ws).set j (some x)) ws = wipe σ ws)
    (hj : ∀ x, ((wipe σ ws).set j (some x))[j]? = some (some x)) : Ev (tCB (rAll K) (tCons (tLc (iTup K tl) (gName j) tYes (tCall spEntry [] E (tCons (tVar j) tNil)) ws) tNil)) σ H (.bl true) := by
  refine ev_is (ev_all (bs := List.replicate us.length true) ?_) (by rw [rep_all])
  rw [List.map_replicate, ← given_rep]
  refine el_lcT _ _ hl hp hz hw (fun i x H2 e2 hi => et_yes) (fun i x H2 e2 hi _ => ?_)
  obtain ⟨e, he, hX⟩ := hU.at hi
  exact ev_entry (e := e) (ea_cons (ev_var (hj x)) ea_nil) (hX.up e2)
def spStanding : Sp := fun vs H Q _ => ∃ (x : V) (i : Int) (es : List Ent), vs = [x] ∧ AStand i es x H ∧ es.length ≤ 1000 ∧ RetV (.bl true) H Q
theorem ok_standing (D : Dn K mg "_law_standing" s_l_standing ["_law_found"]) (T : Blt mg) (h_l_whole : Has P w K mg base "_law_whole" 1 ["_law_found"] spWhole) (h_l_entry : Has P w K mg base "_law_entry" 2 ["_law_found"] spEntry) : Has P w K mg base "_law_standing" 3 ["_law_found"] spStanding := by
  refine D.ok sc_l_standing (fun vs H Q E h => ?_) (fun f cdv A outer s H vs Q E hr h => ?_)
  · obtain ⟨x, i, es, rfl, _⟩ := h
    rfl
  · obtain ⟨x, i, es, rfl, hX, hlen, q⟩ := h
    obtain ⟨px, pq, hv, rfl, hpx, hpq, hE⟩ := id hX
    have hle := hE.len
    refine ⟨_, (pss_cons (ps_if (PW.pt (pw_or (pt_not (pt_val (pe_callB (show CallR _ _ (rIsi K) from call_isi) (by rfl) T.isinstance_ (by decide +kernel) (pa_cons (pv 0) (pa_cons (pe_bltn (v := .ty "tuple") (by rfl) T.tuple_ (by decide +kernel) rfl) pa_nil))))) (pw_or (pt_cmpR op_ne (pe_callB (show CallR _ _ (rLenS K) from call_len_seq) (by rfl) T.len_ (by decide +kernel) (pa_cons (pv 0) pa_nil)) pe_int (nomark _)) (pw_or1 (pt_not (pt_val (pe_own h_l_whole (hr.mono (by decide)) (by rfl) (pa_cons (pe_ix (show IxR _ (rIxT K) from ix_tup) (pv 0) pe_int (fun _ _ => rfl)) pa_nil)))))))) (pss_one (ps_ret pe_bl)) pss_nil) (pss_one (ps_ret (pe_and (pe_callB (show CallR _ _ (rIsi K) from call_isi) (by rfl) T.isinstance_ (by decide +kernel) (pa_cons (pe_ix (show IxR _ (rIxT K) from ix_tup) (pv 0) pe_int (fun _ _ => rfl)) (pa_cons (pe_bltn (v := .ty "tuple") (by rfl) T.tuple_ (by decide +kernel) rfl) pa_nil))) (pe_one (pe_callB (cr_all rfl) (by rfl) T.all_ (by decide +kernel) (pa_cons (pe_lc (own := [("_law_one", 1)]) (g := (gName 1)) (tt := tYes) rfl sc_l_standing.nd (pi_tup (pe_ix (show IxR _ (rIxT K) from ix_tup) (pv 0) pe_int (fun _ _ => rfl))) (blkOk_by (own := [("_law_one", 1)]) (N := ["_law_found", "_law_one"]) (sc := defScope s_l_standing) (by decide +kernel)) (fun _ _ _ _ _ => (pg_name (i := 1) sc_l_standing.nd rfl (Or.inl rfl))) (fun _ _ _ _ _ => pts_nil) (fun _ _ _ _ _ => (pe_own h_l_entry (hr.mono (by decide)) (by rfl) (pa_cons (pv 1) pa_nil)))) pa_nil))))))), ?_⟩
    show (_ : L2.TS) _ [_, _] _
    have hPx : SqT K H px [.int i, .ref pq] := st_of hpx
    refine q_when (b := false) (et_is (et_or (et_not (et_B (ev_isiT (ea_cons (ev_var rfl) (ea_cons ev_c ea_nil)) hpx (show kitB "tuple" "tuple" = some true by decide +kernel)))) (fun _ => et_or (et_test (ev_ne (ev_lenT (ev_var rfl) hPx) ev_c rfl)) (fun _ => et_not (et_B (ev_whole (i := i) (ea_cons (ev_ixT (ev_var rfl) hPx ev_c rfl) ea_nil)))))) rfl) (fun hb _ _ => by cases hb) (fun _ H1 e1 => ?_)
    have hPx1 := ex_t e1 hPx
    have hpq1 := e1 _ _ hpq
    refine s_ret (v := .bl (true && true)) (ev_andV (ev_isiT (ea_cons (ev_ixT (ev_var rfl) hPx1 ev_c rfl) (ea_cons ev_c ea_nil)) hpq1 (show kitB "tuple" "tuple" = some true by decide +kernel)) (fun _ => ev_allEntT (p := pq) (us := hv) (ls := es) (ev_ixT (ev_var rfl) hPx1 ev_c rfl) (st_of hpq1) (hE.up e1) (by omega) (fun x => rfl) (fun x => rfl))) (fun H2 e2 => q H2 (e1.trans e2))
theorem ev_standing {x : V} {i : Int} {es : List Ent} {ta : TA} {σ : L2.St} {H : Hp} {E : XK} (h : EvA ta σ H [x]) (hX : AStand i es x H) (hl : es.length ≤ 1000) : Ev (tCall spStanding [] E ta) σ H (.bl true) := ev_call h fun H1 e1 Q q E => ⟨x, i, es, rfl, hX.up e1, hl, q⟩
end
end BD
namespace BD
open PySem PySem.Spec PyProof.Rows L2 Evl
local macro_rules | `(tactic| walk_at "ev") => `(tactic| first
  | ((with_reducible apply ev_var) ; rfl)
  | with_reducible exact ev_c
  | ((with_reducible apply ev_I0) <;> walk_at "ev")
  | ((with_reducible apply ev_e9) <;> walk_at "ev")
  | ((with_reducible apply ev_I) <;> walk_at "ev")
  | ((with_reducible apply ev_eq) <;> walk_at "ev")
  | ((with_reducible apply ev_ne) <;> walk_at "ev")
  | ((with_reducible apply ev_neg) <;> walk_at "ev")
  | ((with_reducible apply ev_ixN) <;> walk_at "ev")
  | ((with_reducible apply ev_ixL) <;> walk_at "ev")
  | ((with_reducible apply ev_inN) <;> walk_at "ev")
  | ((with_reducible apply ev_inT) <;> walk_at "ev")
  | ((with_reducible apply ev_ixT) <;> walk_at "ev")
  | ((with_reducible apply ev_ixS) <;> walk_at "ev")
  | ((with_reducible apply ev_len') <;> walk_at "ev")
  | ((with_reducible apply et_test) <;> walk_at "ev")
  | ((with_reducible apply et_and) <;> walk_at "ev")
  | ((with_reducible apply et_or) <;> walk_at "ev")
  | ((with_reducible apply et_not) <;> walk_at "ev")
  | ((with_reducible apply et_B) <;> walk_at "ev")
  | ((with_reducible apply el_lst) <;> walk_at "ev")
  | ((with_reducible apply eu_tup) <;> walk_at "ev")
  | ((with_reducible apply ea_cons) <;> walk_at "ev")
  | with_reducible exact ea_nil
  | with_reducible assumption
  | ((with_reducible apply ex_l' ; assumption) ; walk_at "ex")
  | ((with_reducible apply ex_t' ; assumption) ; walk_at "ex")
  | (intro _ ; walk_at "ev")
  | (with_reducible first | exact atI_hd | exact at_kind | exact at2s | exact at3s | exact at3i)
  | (first | exact rfl | exact Nat.le_of_ble_eq_true rfl | exact ⟨by decide, by decide⟩ | decide | exact Or.inl ⟨by omega, by omega⟩ | exact Or.inr ⟨by omega, by omega⟩ | omega)
  | skip)
local macro_rules | `(tactic| walk_at "ex") => `(tactic| first
  | assumption
  | exact Ex.refl _
  | (refine' Ex.trans ?_ (by assumption) ; walk_at "ex"))
local macro_rules | `(tactic| walk_at "row") => `(tactic| first
  | (with_reducible exact er_nil)
  | ((with_reducible apply er_cons) <;> walk_at "row")
  | (((with_reducible apply er_var) ; rfl) ; walk_at "isrow")
  | (((with_reducible apply elr_var) ; rfl) ; walk_at "isrow")
  | ((with_reducible apply elr_cat) <;> walk_at "row")
  | ((with_reducible apply elr_lst) <;> walk_at "row")
  | ((with_reducible apply er_fin) <;> walk_at "ev")
  | ((with_reducible apply er_lendT) <;> walk_at "ev")
  | ((with_reducible apply er_lendW) <;> walk_at "ev")
  | ((with_reducible apply er_pick) <;> walk_at "ev")
  | ((with_reducible apply er_either) <;> walk_at "ev")
  | ((with_reducible apply er_or) <;> walk_at "ev")
  | ((with_reducible apply er_again) <;> walk_at "ev")
  | ((with_reducible apply er_back) <;> walk_at "ev")
  | ((with_reducible apply er_look) <;> walk_at "ev")
  | ((with_reducible apply er_change) <;> walk_at "ev")
  | exact Nat.le_of_ble_eq_true rfl
  | skip)
local macro_rules | `(tactic| walk_at "isrow") => `(tactic| first
  | assumption
  | (refine IsRow.up ?_ (by assumption) ; walk_at "ex")
  | (refine LRows.up ?_ (by assumption) ; walk_at "ex"))

abbrev s_l_ways : Stmt := topS 38
theorem sc_l_ways : FnScope ["_law_rows", "_law_home", "_law_at"] ["_law_rows", "_law_home", "_law_at"] (defScope s_l_ways) := ⟨rfl, rfl, rfl, by decide +kernel, rfl, by decide +kernel, by decide +kernel⟩
def rInt1 : List V → Hp → VK → Prop := fun xs H Q => (∃ i, xs = [.int i] ∧ Q (.int i) H) ∨ ∃ k, xs = [.bl k] ∧ Q (.int (if k then 1 else 0)) H
def waysM (rs : List Rw) (i : Nat) : Int := match rs[i]? with
  | some (.pick _ ts) => ts.length
  | some .either => (brI rs i rs.length).length
  | some .again => 2
  | _ => 1
section
variable {K : PySem.W.Frag} {σ : L2.St} {H H' : Hp} {ta tb te : TE} {xs ys : List V}
theorem ev_intB {b : Bool} (h : Ev te σ H (.bl b)) : Ev (tCB rInt1 (tCons te tNil)) σ H (.int (if b then 1 else 0)) := fun H1 e Q q =>
  h H1 e _ fun H2 e2 => Or.inr ⟨b, rfl, q H2 e2⟩
theorem el_catLL (ha : EvL ta σ H xs) (hb : EvL tb σ H ys) (hl : xs.length + ys.length ≤ 100000) : EvL (tOp rCat ta tb) σ H (xs ++ ys) := fun H1 e Q q =>
  ha H1 e _ fun p H2 _ e2 h2 => hb H2 (e.trans e2) _ fun p' H3 _ e3 h3 => ⟨p, p', xs, ys, rfl, rfl, e3 _ _ h2, h3, sz_of hl, fun z hz => q z _ (fresh_back (e2.trans e3) hz) (e2.trans (e3.trans (Ex.new hz))) upd_same⟩
theorem ev_neStand {x : V} {i : Int} {es : List Ent} (hs : ∀ e ∈ es, EntS e) (ha : Ev ta σ H x) (hx : AStand i es x H) (hb : EvP tb σ H (AStand i es)) : Ev (tOp (rNeD K) ta tb) σ H (.bl false) := fun H1 e Q k =>
  ha H1 e _ fun H2 e2 => hb H2 (e.trans e2) _ fun y H3 e3 hy => ⟨_, _, stand_dp (hx.up (e.trans (e2.trans e3))), stand_dp hy, stand_shaped hs, stand_shaped hs, by
    rw [SeqAt.eqv_refl _ (SeqAt.canLay_of_shaped (stand_shaped hs))]
    exact k H3 (e2.trans e3)⟩
theorem ev_ixLN {i : Int} {v : V} (ha : EvL ta σ H xs) (hb : Ev tb σ H (.int i)) (hi : atI xs i = some v) : Ev (tOp (rIxL K) ta tb) σ H v := fun H1 e Q q =>
  ha H1 e _ fun p H2 _ e2 h2 => hb H2 (e.trans e2) _ fun H3 e3 => rv_ixL (K := K) (H := H3) (sq_of (e3 _ _ h2)) hi H3 (Ex.refl H3) Q fun H4 e4 => q H4 (e2.trans (e3.trans e4))
end
section
variable {P : Program} {w : World} {K : PySem.W.Frag} {mg : Str → Option Value} {base : Heap}
def spWays (K : PySem.W.Frag) : Sp := fun vs H Q _ => ∃ (a hh : Addr) (i : Nat) (rv : List V) (rs : List Rw), vs = [.ref a, .ref hh, .int (i : Int)] ∧ SqL K H a rv ∧ Rows H rv rs ∧ SqL K H hh (homesV rs rs.length) ∧ i < rs.length ∧ rs.length ≤ 40000 ∧ RetV (.int (waysM rs i)) H Q
theorem ok_ways (D : Dn K mg "_law_ways" s_l_ways ["_law_rows", "_law_home", "_law_at"]) (T : Blt mg) (h_l_starts : Has P w K mg base "_law_starts" 1 ["_law_rows", "_law_home", "_law_at"] (spStarts K)) : Has P w K mg base "_law_ways" 2 ["_law_rows", "_law_home", "_law_at"] (spWays K) := by
  refine D.ok sc_l_ways (fun vs H Q E h => ?_) (fun f cdv A outer s H vs Q E hr h => ?_)
  · obtain ⟨a, hh, i, rv, rs, rfl, _⟩ := h
    rfl
  · obtain ⟨a, hh, i, rv, rs, rfl, hS, hR, hM, hi, hl, q⟩ := h
    refine ⟨_, (pss_cons (ps_if (pt_cmpR op_eq (pe_ix (show IxR _ (rIxT K) from ix_tup) (pe_ix (show IxR _ (rIxL K) from ix_list) (pv 0) (pv 2) (fun _ _ => rfl)) pe_int (fun _ _ => rfl)) pe_str (nomark _)) (pss_one (ps_ret (pe_callB (show CallR _ _ (rLenS K) from call_len_seq) (by rfl) T.len_ (by decide +kernel) (pa_cons (pe_ix (show IxR _ (rIxT K) from ix_tup) (pe_ix (show IxR _ (rIxL K) from ix_list) (pv 0) (pv 2) (fun _ _ => rfl)) pe_int (fun _ _ => rfl)) pa_nil)))) pss_nil) (pss_cons (ps_if (pt_cmpR op_eq (pe_ix (show IxR _ (rIxT K) from ix_tup) (pe_ix (show IxR _ (rIxL K) from ix_list) (pv 0) (pv 2) (fun _ _ => rfl)) pe_int (fun _ _ => rfl)) pe_str (nomark _)) (pss_one (ps_ret (pe_callB (show CallR _ _ (rLenS K) from call_len_seq) (by rfl) T.len_ (by decide +kernel) (pa_cons (pe_own h_l_starts (hr.mono (by decide)) (by rfl) (pa_cons (pv 0) (pa_cons (pv 1) (pa_cons (pv 2) pa_nil)))) pa_nil)))) pss_nil) (pss_one (ps_ret (pe_ix (show IxR _ (rIxL K) from ix_list) (pe_lst (pa_cons pe_int (pa_cons pe_int pa_nil))) (pe_callTy (show CallR _ _ rInt1 from call_int1) (by rfl) T.int_ (by decide +kernel) (pa_cons (pe_cmpR op_eq (pe_ix (show IxR _ (rIxT K) from ix_tup) (pe_ix (show IxR _ (rIxL K) from ix_list) (pv 0) (pv 2) (fun _ _ => rfl)) pe_int (fun _ _ => rfl)) pe_str (nomark _)) pa_nil)) (fun _ _ => rfl)))))), ?_⟩
    show (_ : L2.TS) _ [_, _, _] _
    have hg := List.getElem?_eq_getElem hi
    generalize rs[i] = r at hg
    obtain ⟨y, hy, hY⟩ := hR.get hg
    have hix : atI rv (i : Int) = some y := atI_nat hy
    obtain ⟨py, ys, rfl, hpy⟩ := hY.tup
    have hPy : SqT K H py (.str r.tag :: ys) := st_of hpy
    unfold waysM at q
    rw [hg] at q
    refine q_when (b := decide (V.str r.tag = V.str "pick")) (et_test (ev_eq (ev_ixT (ev_ixL (ev_var rfl) hS (ev_var rfl) hix) hPy ev_c atI_hd) ev_c rfl)) (fun hb H1 e1 => ?_) (fun hb H1 e1 => ?_)
    · cases r with
      | pick w ts =>
        obtain ⟨p, pt, h1, h2, h3⟩ := hY
        cases h1
        refine s_ret (v := .int (ts.length : Int)) (ev_is (ev_lenT (xs := ts.map V.int) (ev_ixT (ev_ixL (ev_var rfl) (ex_l e1 hS) (ev_var rfl) hix) (ex_t e1 (st_of h2)) ev_c rfl) (ex_t e1 (st_of h3))) (by rw [List.length_map])) (fun H2 e2 => q H2 (e1.trans e2))
      | _ => exact absurd hb (by simp [Rw.tag] <;> decide)
    · refine q_when (b := decide (V.str r.tag = V.str "either")) (et_test (ev_eq (ev_ixT (ev_ixL (ev_var rfl) (ex_l e1 hS) (ev_var rfl) hix) (ex_t e1 hPy) ev_c atI_hd) ev_c rfl)) (fun hb2 H2 e2 => ?_) (fun hb2 H2 e2 => ?_)
      · have e02 := e1.trans e2
        cases r with
        | either =>
          refine s_ret (v := .int ((brI rs i rs.length).length : Int)) (ev_is (ev_lenN (el_starts (n := i) (ea_cons (ev_var rfl) (ea_cons (ev_var rfl) (ea_cons (ev_var rfl) ea_nil))) (ex_l e02 hS) (hR.up e02) (ex_l e02 hM) hi (by omega))) (by rw [brV_I, List.length_map])) (fun H3 e3 => q H3 (e02.trans e3))
        | _ => exact absurd hb2 (by simp [Rw.tag] <;> decide)
      · have e02 := e1.trans e2
        refine s_ret (v := .int (match r with
          | .pick _ ts => (ts.length : Int)
          | .either => ((brI rs i rs.length).length : Int)
          | .again => 2
          | _ => 1)) (ev_ixLN (xs := [.int 1, .int 2]) (el_lst (ea_cons ev_c (ea_cons ev_c ea_nil)) (Nat.le_of_ble_eq_true rfl)) (ev_intB (b := decide (V.str r.tag = V.str "again")) (ev_eq (ev_ixT (ev_ixL (ev_var rfl) (ex_l e02 hS) (ev_var rfl) hix) (ex_t e02 hPy) ev_c atI_hd) ev_c rfl)) ?_) (fun H3 e3 => ?_)
        · cases r with
          | pick w ts => exact absurd hb (by simp [Rw.tag] <;> decide)
          | either => exact absurd hb2 (by simp [Rw.tag] <;> decide)
          | _ => rfl
        · cases r <;> exact q H3 (e02.trans e3)
theorem ev_ways {a hh : Addr} {i : Nat} {rv : List V} {rs : List Rw} {ta : TA} {σ : L2.St} {H : Hp} {E : XK} (h : EvA ta σ H [.ref a, .ref hh, .int (i : Int)]) (hS : SqL K H a rv) (hR : Rows H rv rs) (hM : SqL K H hh (homesV rs rs.length)) (hi : i < rs.length) (hl : rs.length ≤ 40000) :
    Ev (tCall (spWays K) [] E ta) σ H (.int (waysM rs i)) := ev_call h fun H1 e Q q E => ⟨a, hh, i, rv, rs, rfl, ex_l e hS, hR.up e, ex_l e hM, hi, hl, q⟩
end
end BD
namespace BD
open PySem PySem.Spec PyProof.Rows L2 Evl
local macro_rules | `(tactic| walk_at "ev") => `(tactic| first
  | ((with_reducible apply ev_var) ; rfl)
  | with_reducible exact ev_c
  | ((with_reducible apply ev_I0) <;> walk_at "ev")
  | ((with_reducible apply ev_e9) <;> walk_at "ev")
  | ((with_reducible apply ev_I) <;> walk_at "ev")
  | ((with_reducible apply ev_eq) <;> walk_at "ev")
  | ((with_reducible apply ev_ne) <;> walk_at "ev")
  | ((with_reducible apply ev_neg) <;> walk_at "ev")
  | ((with_reducible apply ev_ixN) <;> walk_at "ev")
  | ((with_reducible apply ev_ixL) <;> walk_at "ev")
  | ((with_reducible apply ev_inN) <;> walk_at "ev")
  | ((with_reducible apply ev_inT) <;> walk_at "ev")
  | ((with_reducible apply ev_ixT) <;> walk_at "ev")
  | ((with_reducible apply ev_ixS) <;> walk_at "ev")
  | ((with_reducible apply ev_len') <;> walk_at "ev")
  | ((with_reducible apply et_test) <;> walk_at "ev")
  | ((with_reducible apply et_and) <;> walk_at "ev")
  | ((with_reducible apply et_or) <;> walk_at "ev")
  | ((with_reducible apply et_not) <;> walk_at "ev")
  | ((with_reducible apply et_B) <;> walk_at "ev")
  | ((with_reducible apply el_lst) <;> walk_at "ev")
  | ((with_reducible apply eu_tup) <;> walk_at "ev")
  | ((with_reducible apply ea_cons) <;> walk_at "ev")
  | with_reducible exact ea_nil
  | with_reducible assumption
  | ((with_reducible apply ex_l' ; assumption) ; walk_at "ex")
  | ((with_reducible apply ex_t' ; assumption) ; walk_at "ex")
  | (intro _ ; walk_at "ev")
  | (with_reducible first | exact atI_hd | exact at_kind | exact at2s | exact at3s | exact at3i)
  | (first | exact rfl | exact Nat.le_of_ble_eq_true rfl | exact ⟨by decide, by decide⟩ | decide | exact Or.inl ⟨by omega, by omega⟩ | exact Or.inr ⟨by omega, by omega⟩ | omega)
  | skip)
local macro_rules | `(tactic| walk_at "ex") => `(tactic| first
  | assumption
  | exact Ex.refl _
  | (refine' Ex.trans ?_ (by assumption) ; walk_at "ex"))
local macro_rules | `(tactic| walk_at "row") => `(tactic| first
  | (with_reducible exact er_nil)
  | ((with_reducible apply er_cons) <;> walk_at "row")
  | (((with_reducible apply er_var) ; rfl) ; walk_at "isrow")
  | (((with_reducible apply elr_var) ; rfl) ; walk_at "isrow")
  | ((with_reducible apply elr_cat) <;> walk_at "row")
  | ((with_reducible apply elr_lst) <;> walk_at "row")
  | ((with_reducible apply er_fin) <;> walk_at "ev")
  | ((with_reducible apply er_lendT) <;> walk_at "ev")
  | ((with_reducible apply er_lendW) <;> walk_at "ev")
  | ((with_reducible apply er_pick) <;> walk_at "ev")
  | ((with_reducible apply er_either) <;> walk_at "ev")
  | ((with_reducible apply er_or) <;> walk_at "ev")
  | ((with_reducible apply er_again) <;> walk_at "ev")
  | ((with_reducible apply er_back) <;> walk_at "ev")
  | ((with_reducible apply er_look) <;> walk_at "ev")
  | ((with_reducible apply er_change) <;> walk_at "ev")
  | exact Nat.le_of_ble_eq_true rfl
  | skip)
local macro_rules | `(tactic| walk_at "isrow") => `(tactic| first
  | assumption
  | (refine IsRow.up ?_ (by assumption) ; walk_at "ex")
  | (refine LRows.up ?_ (by assumption) ; walk_at "ex"))

section
variable {K : PySem.W.Frag} {σ : L2.St} {H H' : Hp} {ta tb tc te : TE} {rs : List Rw}
theorem ev_eqRows {p p' : Addr} {us vs : List V} (hs : ∀ r ∈ rs, RowS r) (ha : Ev ta σ H (.ref p)) (hb : Ev tb σ H (.ref p')) (hp : SqL K H p us) (hR : Rows H us rs) (hp' : SqL K H p' vs) (hR' : Rows H vs rs) : Ev (tOp (rEqD K) ta tb) σ H (.bl true) :=
  ev_is (ev_eqD ha hb (fun H1 e => .lst (ex_l e hp) (rows_dp (hR.up e))) (fun H1 e => .lst (ex_l e hp') (rows_dp (hR'.up e))) (rows_shaped hs) (rows_shaped hs)) (by
    rw [SeqAt.eqv_refl _ (SeqAt.canLay_of_shaped (rows_shaped hs))])
theorem cut_map (ns : List Int) (lo hi : Option Int) : ∃ ms : List Int, cutV (ns.map V.int) lo hi = ms.map V.int := by
  refine ⟨(ns.drop (HT.sIx ns.length 0 lo)).take (HT.sIx ns.length ns.length hi - HT.sIx ns.length 0 lo), ?_⟩
  unfold cutV
  rw [List.length_map, List.map_take, List.map_drop]
theorem ev_sumN {ns : List Int} (h : EvL te σ H (ns.map V.int)) : Ev (tCB (rSum K) (tCons te tNil)) σ H (.int ns.sum) := fun H1 e Q q =>
  h H1 e _ fun p H2 _ e2 h2 => ⟨p, ns, rfl, sq_of h2, q H2 e2⟩
/-- the program's ways, stepped -/
def spPWays (K : PySem.W.Frag) : Sp := fun vs H Q _ => ∃ (a : Addr) (x : V) (rv : List V) (rs : List Rw) (i : Nat) (es : List Ent) (r : Rw), vs = [.ref a, x] ∧ SqL K H a rv ∧ Rows H rv rs ∧ AStand (i : Int) es x H ∧ Sheet rs ∧ Std rs i es ∧ rs[i]? = some r ∧ rs.length ≤ 40000 ∧ RetV (.int (waysM rs i)) H Q
def spPStep (K : PySem.W.Frag) : Sp := fun vs H Q _ => ∃ (a : Addr) (x : V) (c : Int) (rv : List V) (rs : List Rw) (i : Nat) (es : List Ent) (r : Rw), vs = [.ref a, x, .int c] ∧ SqL K H a rv ∧ Rows H rv rs ∧ AStand (i : Int) es x H ∧ Sheet rs ∧ Std rs i es ∧ rs[i]? = some r ∧ rs.length ≤ 40000 ∧ Ret (AStand (goM rs i es c).1 (goM rs i es c).2) H Q
theorem ev_pways {a : Addr} {x : V} {rv : List V} {i : Nat} {es : List Ent} {r : Rw} {E : XK} {ta : TA} (h : EvA ta σ H [.ref a, x]) (hS : SqL K H a rv) (hR : Rows H rv rs) (hx : AStand (i : Int) es x H) (sh : Sheet rs) (hs : Std rs i es) (hr : rs[i]? = some r) (hl : rs.length ≤ 40000) :
    Ev (tCall (spPWays K) [] E ta) σ H (.int (waysM rs i)) := ev_call h fun H1 e Q q E => ⟨a, x, rv, rs, i, es, r, rfl, ex_l e hS, hR.up e, hx.up e, sh, hs, hr, hl, q⟩
theorem ep_pstep {a : Addr} {x : V} {c : Int} {rv : List V} {i : Nat} {es : List Ent} {r : Rw} {E : XK} {ta : TA} (h : EvA ta σ H [.ref a, x, .int c]) (hS : SqL K H a rv) (hR : Rows H rv rs) (hx : AStand (i : Int) es x H) (sh : Sheet rs) (hs : Std rs i es) (hr : rs[i]? = some r) (hl : rs.length ≤ 40000) :
    EvP (tCall (spPStep K) [] E ta) σ H (AStand (goM rs i es c).1 (goM rs i es c).2) := ep_call h fun H1 e Q q E => ⟨a, x, c, rv, rs, i, es, r, rfl, ex_l e hS, hR.up e, hx.up e, sh, hs, hr, hl, q⟩
end
theorem Goes.len {rs : List Rw} {i : Nat} {es : List Ent} {c : Int} {r : Rw} {j : Nat} (sh : Sheet rs) (h : Goes rs i es c r j) : (goM rs i es c).2.length ≤ 9 := h.std.len sh
abbrev s_law : Stmt := topS 39
theorem sc_law : FnScope ["_law_script", "_law_rows", "_law_standings", "_law_some", "_law_home", "_law_kept", "_law_looked_at", "_law_k", "_law_standing_here", "_law_choice", "_law_many", "_law_found"] ["_law_script"] (defScope s_law) := ⟨rfl, rfl, rfl, by decide +kernel, rfl, by decide +kernel, by decide +kernel⟩
def picked (n : Int) (k : Nat) : Int := if n % 3 = 1 then n % 10 ^ (30 : Int).toNat + (k : Int) else n / 3 % 100 + (k : Int)
section
variable {P : Program} {w : World} {K : PySem.W.Frag} {mg : Str → Option Value} {base : Heap}
def spLaw (K : PySem.W.Frag) : Sp := fun vs H Q _ => ∃ (a : Addr) (ns : List Int), vs = [.ref a] ∧ SqL K H a (ns.map V.int) ∧ ns.length ≤ 63 ∧ ∀ H', Q (.bl true) H'
theorem ok_law {f : Addr} {fd : FuncData} (F : Fun K "law" "law" s_law f fd) (T : Blt mg) (h_l_drawn : Has P w K mg base "_law_drawn" 5 ["_law_script", "_law_most"] (spDrawn K)) (h_l_run : Has P w K mg base "_law_run" 3 ["_law_rows", "_law_choices_here"] (spRun K)) (h_l_choices : Has P w K mg base "_law_choices" 1 ["_law_script"] (spCho K)) (h_l_homes : Has P w K mg base "_law_homes" 1 ["_law_rows"] (spHomes K)) (h_ways : Has P w K mg base "ways" 5 ["rows", "standing"] (spPWays K)) (h_stepped : Has P w K mg base "stepped" 5 ["rows", "standing", "choice"] (spPStep K)) (h_l_whole : Has P w K mg base "_law_whole" 1 ["_law_found"] spWhole) (h_l_ways : Has P w K mg base "_law_ways" 2 ["_law_rows", "_law_home", "_law_at"] (spWays K)) (h_l_standing : Has P w K mg base "_law_standing" 3 ["_law_found"] spStanding) (h_l_step : Has P w K mg base "_law_step" 2 ["_law_rows", "_law_home", "_law_standing_here", "_law_choice"] (spStep K)) :
    FnOk P w K mg base CX0 6 f fd ["_law_script"] (spLaw K) := by
  refine F.ok sc_law (fun vs H Q E h => ?_) (fun cdv A outer s H vs Q E hr h => ?_)
  · obtain ⟨a, ns, rfl, _⟩ := h
    rfl
  · obtain ⟨a, ns, rfl, hS, hlen, q⟩ := h
    refine ⟨_, (pss_cons (ps_set (i := 1) sc_law.nd rfl (Or.inl rfl) (pe_own h_l_drawn (hr.mono (by decide)) (by rfl) (pa_cons (pv 0) (pa_cons pe_int pa_nil)))) (pss_cons (ps_set (i := 2) sc_law.nd rfl (Or.inl rfl) (pe_own h_l_run (hr.mono (by decide)) (by rfl) (pa_cons (pv 1) (pa_cons (pe_own h_l_choices (hr.mono (by decide)) (by rfl) (pa_cons (pv 0) pa_nil)) pa_nil)))) (pss_cons (ps_if (pt_cmpR op_eq (pe_callB (show CallR _ _ (rLenS K) from call_len_seq) (by rfl) T.len_ (by decide +kernel) (pa_cons (pv 2) pa_nil)) pe_int (nomark _)) (pss_one (ps_ret pe_bl)) pss_nil) (pss_cons (ps_set (i := 3) sc_law.nd rfl (Or.inl rfl) (pe_callB (cr_sum rfl) (by rfl) T.sum_ (by decide +kernel) (pa_cons (pe_slice sl_list (pv 0) (po_some pe_int) (po_some pe_int)) pa_nil))) (pss_cons (ps_set (i := 4) sc_law.nd rfl (Or.inl rfl) (pe_own h_l_homes (hr.mono (by decide)) (by rfl) (pa_cons (pv 1) pa_nil))) (pss_cons (ps_set (i := 5) sc_law.nd rfl (Or.inl rfl) (pe_callTy (show CallR _ _ (rListS K) from call_list_of) (by rfl) T.list_ (by decide +kernel) (pa_cons (pv 1) pa_nil))) (pss_cons (ps_set (i := 6) sc_law.nd rfl (Or.inl rfl) (pe_op op_cat (pe_slice sl_list (pv 2) po_none (po_some pe_int)) (pe_lst (pa_cons (pe_ix (show IxR _ (rIxL K) from ix_list) (pv 2) (pe_op op_mod (pe_callB (cr_sum rfl) (by rfl) T.sum_ (by decide +kernel) (pa_cons (pv 0) pa_nil)) (pe_callB (show CallR _ _ (rLenS K) from call_len_seq) (by rfl) T.len_ (by decide +kernel) (pa_cons (pv 2) pa_nil))) (fun _ _ => rfl)) pa_nil)))) (pss_cons (ps_for PassesOwn.never rfl (pi_enum (by rfl) T.enumerate_ (pa_cons (pv 6) pa_nil)) (pg_tup rfl (pgs_cons (pg_name (i := 7) sc_law.nd rfl (Or.inl rfl)) (pgs_cons (pg_name (i := 8) sc_law.nd rfl (Or.inl rfl)) pgs_nil))) (pss_cons (ps_set (i := 9) sc_law.nd rfl (Or.inl rfl) (pe_op op_add (pe_op op_mod (pe_op op_fdiv (pv 3) pe_int) pe_int) (pv 7))) (pss_cons (ps_if (pt_cmpR op_eq (pe_op op_mod (pv 3) pe_int) pe_int (nomark _)) (pss_one (ps_set (i := 9) sc_law.nd rfl (Or.inl rfl) (pe_op op_add (pe_op op_mod (pv 3) (pe_op op_pow pe_int pe_int)) (pv 7)))) pss_nil) (pss_cons (ps_set (i := 10) sc_law.nd rfl (Or.inl rfl) (pe_own h_ways (hr.mono (by decide)) (by rfl) (pa_cons (pv 5) (pa_cons (pv 8) pa_nil)))) (pss_cons (ps_if (PW.pt (pw_or (pt_not (pt_val (pe_own h_l_whole (hr.mono (by decide)) (by rfl) (pa_cons (pv 10) pa_nil)))) (pw_or1 (pt_cmpR op_ne (pv 10) (pe_own h_l_ways (hr.mono (by decide)) (by rfl) (pa_cons (pv 1) (pa_cons (pv 4) (pa_cons (pe_ix (show IxR _ (rIxT K) from ix_tup) (pv 8) pe_int (fun _ _ => rfl)) pa_nil)))) (nomark _))))) (pss_one (ps_ret pe_bl)) pss_nil) (pss_cons (ps_set (i := 11) sc_law.nd rfl (Or.inl rfl) (pe_own h_stepped (hr.mono (by decide)) (by rfl) (pa_cons (pv 5) (pa_cons (pv 8) (pa_cons (pv 9) pa_nil))))) (pss_one (ps_if (PW.pt (pw_or (pt_not (pt_val (pe_own h_l_standing (hr.mono (by decide)) (by rfl) (pa_cons (pv 11) pa_nil)))) (pw_or1 (pt_cmpR (show OpR _ _ (rNeD K) from op_neD hr.units) (pv 11) (pe_own h_l_step (hr.mono (by decide)) (by rfl) (pa_cons (pv 1) (pa_cons (pv 4) (pa_cons (pv 8) (pa_cons (pv 9) pa_nil))))) (nomark _))))) (pss_one (ps_ret pe_bl)) pss_nil)))))))) (pss_one (ps_ret (pe_and (pe_cmpR op_eq (pe_callB (show CallR _ _ (rLenS K) from call_len_seq) (by rfl) T.len_ (by decide +kernel) (pa_cons (pv 5) pa_nil)) (pe_callB (show CallR _ _ (rLenS K) from call_len_seq) (by rfl) T.len_ (by decide +kernel) (pa_cons (pv 1) pa_nil)) (nomark _)) (pe_one (pe_cmpR (show OpR _ _ (rEqD K) from op_eqD hr.units) (pv 5) (pv 1) (nomark _)))))))))))))), ?_⟩
    show (_ : L2.TS) _ [_, _, _, _, _, _, _, _, _, _, _, _] _
    refine q_asgP (ep_drawn (a := a) (ns := ns) (most := 20) ?_ hS (by decide) (by decide)) (fun v H1 e1 hv => ?_)
    · walk_at "ev"
    show (_ : L2.TS) _ [_, _, _, _, _, _, _, _, _, _, _, _] _
    have sh : Sheet (drawnM ns 20) := sheet_drawn ns 20
    have hdl : (drawnM ns 20).length ≤ 1500 := drawn_len ns (by decide) (by decide)
    generalize drawnM ns 20 = rs at *
    obtain ⟨p1, rv, rfl, hp1, hR⟩ := hv
    have hlr := hR.len
    have hP1 : SqL K H1 p1 rv := sq_of hp1
    have hS1 := ex_l e1 hS
    refine q_asgPL (epl_runN (cs := choM ns) (ev_var rfl) (el_cho (ea_cons (ev_var rfl) ea_nil) hS1) hP1 hR sh (by omega) (run_bound (choM_len ns) hdl)) (fun p2 sv H2 hp2 e2 h2 hD => ?_)
    show (_ : L2.TS) _ [_, _, _, _, _, _, _, _, _, _, _, _] _
    have hst := runM_std sh (choM ns)
    have hse := runM_entS sh (choM ns)
    generalize runM rs (choM ns) = sts at *
    have hL2 : SqL K H2 p2 sv := sq_of h2
    have hP2 := ex_l e2 hP1
    have hR2 := hR.up e2
    have hS2 := ex_l e2 hS1
    clear hp1 hS hS1 e1 e2 hP1 hR hp2 h2
    refine q_when (b := decide (V.int (sv.length : Int) = V.int 0)) (et_test (ev_eq (ev_len' (ev_var rfl) hL2) ev_c rfl)) (fun hb H3 e3 => s_ret ev_c (fun H4 e4 => q H4)) (fun hb H3 e3 => ?_)
    have hpos : 0 < sv.length := by
      have := of_decide_eq_false hb
      rw [V.int.injEq] at this
      omega
    -- a number
    obtain ⟨ms, hms⟩ := cut_map ns (some 3) (some 12)
    refine q_asg (v := .int ms.sum) (ev_sumN (by
      rw [← hms]
      exact el_sl (ev_var rfl) (eo_some ev_c) (eo_some ev_c) (ex_l e3 hS2))) (fun H4 e4 => ?_)
    show (_ : L2.TS) _ [_, _, _, _, _, _, _, _, _, _, _, _] _
    generalize ms.sum = n at *
    have e24 : Ex H2 H4 := e3.trans e4
    refine q_asgL (xs := homesV rs rs.length) (el_homes ?_ (ex_l e24 hP2) (hR2.up e24) sh.g (by omega)) (fun ph H5 hph e5 h5 => ?_)
    · walk_at "ev"
    show (_ : L2.TS) _ [_, _, _, _, _, _, _, _, _, _, _, _] _
    have e25 := e24.trans e5
    refine q_asgL (xs := rv) (el_list (ev_var rfl) (ex_l e25 hP2)) (fun pk H6 hpk e6 h6 => ?_)
    show (_ : L2.TS) _ [_, _, _, _, _, _, _, _, _, _, _, _] _
    have e26 := e25.trans e6
    have hM6 : SqL K H6 ph (homesV rs rs.length) := sq_of (e6 _ _ h5)
    have hK6 : SqL K H6 pk rv := sq_of h6
    have hP6 := ex_l e26 hP2
    have hR6 := hR2.up e26
    have hS6 := ex_l e26 hS2
    have hL6 := ex_l e26 hL2
    have hD6 := hD.up e26
    clear e3 e4 e5 e6 e24 e25 e26 hP2 hR2 hS2 hL2 hD h5 h6 hph hpk
    obtain ⟨k, x, hk, hx, hat⟩ := at_mod hpos ns.sum
    have hcl := List.length_take_le 40 sv
    refine q_asgL (xs := sv.take 40 ++ [x]) (el_catLL ?_ (el_lst (ea_cons (ev_ixL (ev_var rfl) hL6 (ev_I (ev_sum (ev_var rfl) hS6) (ev_len' (ev_var rfl) hL6) (by omega)) hat) ea_nil) (Nat.le_of_ble_eq_true rfl)) (by show _ + 1 ≤ _; omega)) (fun pl H7 hpl e7 h7 => ?_)
    · have h := el_sl (K := K) (te := tVar 2) (σ := [some (.ref a), some (.ref p1), some (.ref p2), some (.int n), some (.ref ph), some (.ref pk), none, none, none, none, none, none]) (xs := sv) (ev_var rfl) eo_none (eo_some (i := ((40 : Nat) : Int)) ev_c) hL6
      rw [cut_take] at h
      exact h
    show (_ : L2.TS) _ [_, _, _, _, _, _, _, _, _, _, _, _] _
    have hall : ∀ z ∈ sv.take 40 ++ [x], ∃ st ∈ sts, AStand (st.1 : Int) st.2 z H7 := by
      intro z hz
      have hzz : z ∈ sv := by
        rcases List.mem_append.mp hz with y | y
        · exact List.mem_of_mem_take y
        · rw [List.mem_singleton.mp y]; exact List.mem_of_getElem? hx
      obtain ⟨i, hi⟩ := List.getElem?_of_mem hzz
      obtain ⟨st, h1, h2⟩ := hD6.at hi
      exact ⟨st, List.mem_of_getElem? h1, h2.up e7⟩
    have hM7 := ex_l e7 hM6
    have hK7 := ex_l e7 hK6
    have hP7 := ex_l e7 hP6
    have hR7 := hR6.up e7
    have hL7 : SqL K H7 pl (sv.take 40 ++ [x]) := sq_of h7
    clear hM6 hK6 hP6 hR6 hS6 hL6 hD6 e7 h7 hpl
    generalize sv.take 40 ++ [x] = lv at *
    refine q_forE (K := K) (a := pl) (xs := lv) (ev_var rfl) hL7 (fun i σ' H' => Ex H7 H' ∧ ∃ x7 x8 x9 x10 x11, σ' = [some (.ref a), some (.ref p1), some (.ref p2), some (.int n), some (.ref ph), some (.ref pk), some (.ref pl), x7, x8, x9, x10, x11]) ?_ (fun i σ' H' _ h => ex_l h.1 hL7) ?_ ?_
    · intro H8 e8
      exact ⟨e8, none, none, none, none, none, rfl⟩
    · rintro m z σ' H' H8 hi ⟨eH, x7, x8, x9, x10, x11, rfl⟩ e8
      obtain ⟨st, hmem, hX⟩ := hall z (List.mem_of_getElem? hi)
      obtain ⟨hstd, hil⟩ := hst st hmem
      have hes := hse st hmem
      obtain ⟨i, es⟩ := st
      dsimp only at hX hstd hil hes
      have hel := hstd.len sh
      have hgr := List.getElem?_eq_getElem hil
      generalize rs[i] = r at hgr
      have e78 : Ex H7 H8 := eH.trans e8
      clear eH e8
      show (_ : L2.TS) _ [_, _, _, _, _, _, _, _, _, _, _, _] _
      refine q_asg (v := .int (n / 3 % 100 + (m : Int))) ?_ (fun H9 e9 => ?_)
      · exact ev_I0 (ev_I (ev_I (ev_var rfl) ev_c ⟨by decide, by decide⟩) ev_c (by decide)) (ev_var rfl)
      show (_ : L2.TS) _ [_, _, _, _, _, _, _, _, _, _, _, _] _
      refine q_ifAsg (i := 9) (v := .int (picked n m)) (b := decide (V.int (n % 3) = V.int 1)) (et_test (ev_eq (ev_I (ev_var rfl) ev_c (by decide)) ev_c rfl)) (fun hb => ?_) (fun hb => ?_) (fun H10 e10 => ?_)
      · have hb := of_decide_eq_true hb
        rw [V.int.injEq] at hb
        unfold picked
        rw [if_pos hb]
        exact ev_I0 (ev_I (ev_var rfl) (ev_I (C := CPow) (g := fun i j => .int (i ^ j.toNat)) (i := 10) (j := 30) ev_c ev_c ⟨by decide, by decide, by decide⟩) (by decide)) (ev_var rfl)
      · have hb := of_decide_eq_false hb
        rw [V.int.injEq] at hb
        unfold picked
        rw [if_neg hb]
        rfl
      show (_ : L2.TS) _ [_, _, _, _, _, _, _, _, _, _, _, _] _
      generalize picked n m = c at *
      have e710 : Ex H7 H10 := e78.trans (e9.trans e10)
      have hX10 := hX.up e710
      have hK10 := ex_l e710 hK7
      have hR10 := hR7.up e710
      have hP10 := ex_l e710 hP7
      have hM10 := ex_l e710 hM7
      clear e9 e10 e78 hX
      -- ways
      refine q_asg (ev_pways (a := pk) (x := z) (i := i) (es := es) (r := r) (ea_cons (ev_var rfl) (ea_cons (ev_var rfl) ea_nil)) hK10 hR10 hX10 sh hstd hgr (by omega)) (fun H11 e11 => ?_)
      show (_ : L2.TS) _ [_, _, _, _, _, _, _, _, _, _, _, _] _
      obtain ⟨px, pq, hv, rfl, hpx, hpq, hE⟩ := id hX10
      have hPx : SqT K H10 px [.int (i : Int), .ref pq] := st_of hpx
      refine q_when (b := false) (et_is (et_or (et_not (et_B (ev_whole (i := waysM rs i) (ea_cons (ev_var rfl) ea_nil)))) (fun _ => et_test (ev_ne (ev_var rfl) (ev_ways (a := p1) (hh := ph) (i := i) (ea_cons (ev_var rfl) (ea_cons (ev_var rfl) (ea_cons (ev_ixT (ev_var rfl) (ex_t e11 hPx) ev_c rfl) ea_nil))) (ex_l e11 hP10) (hR10.up e11) (ex_l e11 hM10) hil (by omega)) rfl))) (by rw [decide_eq_true rfl] ; rfl)) (fun hb _ _ => by cases hb) (fun _ H12 e12 => ?_)
      have e1012 : Ex H10 H12 := e11.trans e12
      -- stepped
      refine q_asgP (ep_pstep (a := pk) (x := .ref px) (c := c) (i := i) (es := es) (r := r) (ea_cons (ev_var rfl) (ea_cons (ev_var rfl) (ea_cons (ev_var rfl) ea_nil))) (ex_l e1012 hK10) (hR10.up e1012) (hX10.up e1012) sh hstd hgr (by omega)) (fun u H13 e13 hu => ?_)
      show (_ : L2.TS) _ [_, _, _, _, _, _, _, _, _, _, _, _] _
      obtain ⟨j, hgo⟩ := goes (c := c) sh hstd hgr
      have hfl := hgo.len sh
      have hfs := goM_entS (c := c) sh hgr hes
      have e1013 : Ex H10 H13 := e1012.trans e13
      refine s_when (b := false) (et_is (et_or (et_not (et_B (ev_standing (ea_cons (ev_var rfl) ea_nil) hu (by omega)))) (fun _ => et_test (ev_neStand hfs (ev_var rfl) hu (ep_step (a := p1) (hh := ph) (x := .ref px) (c := c) (i := i) (es := es) (ea_cons (ev_var rfl) (ea_cons (ev_var rfl) (ea_cons (ev_var rfl) (ea_cons (ev_var rfl) ea_nil)))) (ex_l e1013 hP10) (hR10.up e1013) (ex_l e1013 hM10) (hX10.up e1013) hil (by omega) sh.g (hstd.ok sh) (by omega))))) rfl) (fun hb _ _ => by cases hb) (fun _ H14 e14 => ?_)
      exact ⟨e710.trans (e1013.trans e14), _, _, _, _, _, rfl⟩
    · rintro σ' H' ⟨eH, x7, x8, x9, x10, x11, rfl⟩
      refine s_ret (v := .bl (decide (V.int (rv.length : Int) = V.int (rv.length : Int)) && true)) (ev_andV (ev_eq (ev_len' (ev_var rfl) (ex_l eH hK7)) (ev_len' (ev_var rfl) (ex_l eH hP7)) rfl) (fun _ => ev_eqRows sh.s (ev_var rfl) (ev_var rfl) (ex_l eH hK7) (hR7.up eH) (ex_l eH hP7) (hR7.up eH))) (fun H2 e2 => ?_)
      rw [decide_eq_true rfl]
      exact q H2
end
end BD
namespace BD
open PySem PySem.Spec PyProof.Rows L2 Evl
local macro_rules | `(tactic| walk_at "ev") => `(tactic| first
  | ((with_reducible apply ev_var) ; rfl)
  | with_reducible exact ev_c
  | ((with_reducible apply ev_I0) <;> walk_at "ev")
  | ((with_reducible apply ev_e9) <;> walk_at "ev")
  | ((with_reducible apply ev_I) <;> walk_at "ev")
  | ((with_reducible apply ev_eq) <;> walk_at "ev")
  | ((with_reducible apply ev_ne) <;> walk_at "ev")
  | ((with_reducible apply ev_neg) <;> walk_at "ev")
  | ((with_reducible apply ev_ixN) <;> walk_at "ev")
  | ((with_reducible apply ev_ixL) <;> walk_at "ev")
  | ((with_reducible apply ev_inN) <;> walk_at "ev")
  | ((with_reducible apply ev_inT) <;> walk_at "ev")
  | ((with_reducible apply ev_ixT) <;> walk_at "ev")
  | ((with_reducible apply ev_ixS) <;> walk_at "ev")
  | ((with_reducible apply ev_len') <;> walk_at "ev")
  | ((with_reducible apply et_test) <;> walk_at "ev")
  | ((with_reducible apply et_and) <;> walk_at "ev")
  | ((with_reducible apply et_or) <;> walk_at "ev")
  | ((with_reducible apply et_not) <;> walk_at "ev")
  | ((with_reducible apply et_B) <;> walk_at "ev")
  | ((with_reducible apply el_lst) <;> walk_at "ev")
  | ((with_reducible apply eu_tup) <;> walk_at "ev")
  | ((with_reducible apply ea_cons) <;> walk_at "ev")
  | with_reducible exact ea_nil
  | with_reducible assumption
  | ((with_reducible apply ex_l' ; assumption) ; walk_at "ex")
  | ((with_reducible apply ex_t' ; assumption) ; walk_at "ex")
  | (intro _ ; walk_at "ev")
  | (with_reducible first | exact atI_hd | exact at_kind | exact at2s | exact at3s | exact at3i)
  | (first | exact rfl | exact Nat.le_of_ble_eq_true rfl | exact ⟨by decide, by decide⟩ | decide | exact Or.inl ⟨by omega, by omega⟩ | exact Or.inr ⟨by omega, by omega⟩ | omega)
  | skip)
local macro_rules | `(tactic| walk_at "ex") => `(tactic| first
  | assumption
  | exact Ex.refl _
  | (refine' Ex.trans ?_ (by assumption) ; walk_at "ex"))
local macro_rules | `(tactic| walk_at "row") => `(tactic| first
  | (with_reducible exact er_nil)
  | ((with_reducible apply er_cons) <;> walk_at "row")
  | (((with_reducible apply er_var) ; rfl) ; walk_at "isrow")
  | (((with_reducible apply elr_var) ; rfl) ; walk_at "isrow")
  | ((with_reducible apply elr_cat) <;> walk_at "row")
  | ((with_reducible apply elr_lst) <;> walk_at "row")
  | ((with_reducible apply er_fin) <;> walk_at "ev")
  | ((with_reducible apply er_lendT) <;> walk_at "ev")
  | ((with_reducible apply er_lendW) <;> walk_at "ev")
  | ((with_reducible apply er_pick) <;> walk_at "ev")
  | ((with_reducible apply er_either) <;> walk_at "ev")
  | ((with_reducible apply er_or) <;> walk_at "ev")
  | ((with_reducible apply er_again) <;> walk_at "ev")
  | ((with_reducible apply er_back) <;> walk_at "ev")
  | ((with_reducible apply er_look) <;> walk_at "ev")
  | ((with_reducible apply er_change) <;> walk_at "ev")
  | exact Nat.le_of_ble_eq_true rfl
  | skip)
local macro_rules | `(tactic| walk_at "isrow") => `(tactic| first
  | assumption
  | (refine IsRow.up ?_ (by assumption) ; walk_at "ex")
  | (refine LRows.up ?_ (by assumption) ; walk_at "ex"))

local macro_rules | `(tactic| walk_at "ev") => `(tactic| (((with_reducible apply ev_tag) ; rfl) ; walk_at "isrow"))
abbrev s_opens : Stmt := topS 2
theorem sc_opens : FnScope ["row"] ["row"] (defScope s_opens) := ⟨rfl, rfl, rfl, by decide +kernel, rfl, by decide +kernel, by decide +kernel⟩
abbrev s_Blocks_init : Stmt := inClass (topS 3) 0
theorem sc_Blocks_init : FnScope ["self", "rows", "opened", "at", "row", "home"] ["self", "rows"] (defScope s_Blocks_init) := ⟨rfl, rfl, rfl, by decide +kernel, rfl, by decide +kernel, by decide +kernel⟩
/-- a class whose __init__ keeps a promise -/
structure HasC (P : Program) (w : World) (K : PySem.W.Frag) (mg : Str → Option Value) (base : Heap) (x : Str) (C : Addr) (k : Nat) (ps : List Str) (sp : Sp) : Prop where
  ex : ∃ f fd, FnOk P w K mg base CX0 k f fd ps sp ∧ Mk K C f ∧ mg x = some (.ref C) ∧ Binds K fd ps []
theorem pe_cls {X : Cx} {x : Str} {C : Addr} {k : Nat} {ps : List Str} {sp : Sp} {e : Expr} {es : List Expr} {p pos : Pos} {t : TA} (h : HasC X.prog X.w X.K X.mg X.base x C k ps sp) (hr : Room (k + 1) X.A) (hg : Gl X x) (ha : PA X (e :: es) t)
    (hdb : (x == ("__debug__" : Str)) = false := by decide) (he : starEach (e :: es) X.env = (false, eval e X.env) :: starEach es X.env := by rfl) (hpl : (backTo pos (starEach es X.env)).any (·.1) = false := by rfl) :
    PE X (.Call (.Name x p) (e :: es) [] pos) (tMake C sp [] E0 t) := by
  obtain ⟨f, fd, F, M, m, b⟩ := h.ex
  exact pe_make M F hr hg m b .nil pass0 ha hdb he hpl
/-- what the class is -/
structure BlkC (K : PySem.W.Frag) (C : Addr) : Prop where
  cl : Cls K C
  nA : NoAttr K C "around"
  nC : NoAttr K C "closing"
  nF : NoAttr K C "firsts"
def flds (pa pc pf : Addr) : List (Str × V) := putF "firsts" (.ref pf) (putF "closing" (.ref pc) (putF "around" (.ref pa) []))
theorem neAC : ¬ (("around" : Str) = "closing") := by decide +kernel
theorem neAF : ¬ (("around" : Str) = "firsts") := by decide +kernel
theorem neCF : ¬ (("closing" : Str) = "firsts") := by decide +kernel
theorem flds_a (pa pc pf : Addr) : (flds pa pc pf).lookup ("around" : Str) = some (.ref pa) := by
  unfold flds
  rw [lookup_putF, if_neg neAF, lookup_putF, if_neg neAC, lookup_putF, if_pos rfl]
theorem flds_c (pa pc pf : Addr) : (flds pa pc pf).lookup ("closing" : Str) = some (.ref pc) := by
  unfold flds
  rw [lookup_putF, if_neg neCF, lookup_putF, if_pos rfl]
theorem flds_f (pa pc pf : Addr) : (flds pa pc pf).lookup ("firsts" : Str) = some (.ref pf) := by
  unfold flds
  rw [lookup_putF, if_pos rfl]
theorem putF_len (f : Str) (v : V) : ∀ fs : List (Str × V), (putF f v fs).length ≤ fs.length + 1
  | [] => Nat.le_refl _
  | (g, x) :: r => by
    show (if g = f then (g, v) :: r else (g, x) :: putF f v r).length ≤ _
    split
    · rw [List.length_cons, List.length_cons]; omega
    · have := putF_len f v r
      rw [List.length_cons, List.length_cons]; omega
def OrOk (rs : List Rw) : Prop := ∀ i, rs[i]? = some .or → ∃ b : Nat, hm rs i = (b : Int) ∧ rs[b]? = some .either
/-- what the first branches' dict holds of the rows below i -/
structure Firsts (Hb : Hp) (rs : List Rw) (pa pc po : Addr) (i : Nat) (kvs : List (Key × V)) (H : Hp) : Prop where
  at_ : ∀ a : Nat, a < i → rs[a]? = some .either → ∃ q, valV kvs (Sum.inl (a : Int)) = some (.ref q) ∧ H q = some (.lst (brV rs a i)) ∧ Hb q = none ∧ q ≠ pa ∧ q ≠ pc ∧ q ≠ po
  inj : ∀ (a b : Nat) q, valV kvs (Sum.inl (a : Int)) = some (.ref q) → valV kvs (Sum.inl (b : Int)) = some (.ref q) → a = b
  low : ∀ (a : Nat) v, valV kvs (Sum.inl (a : Int)) = some v → a < i ∧ rs[a]? = some .either
  len : kvs.length ≤ i
theorem Firsts.skip {Hb : Hp} {rs : List Rw} {pa pc po : Addr} {i : Nat} {kvs : List (Key × V)} {H H' : Hp} (F : Firsts Hb rs pa pc po i kvs H) {r : Rw} (hr : rs[i]? = some r) (no : r.isOr = false) (ne : r.isEither = false)
    (k : ∀ q xs, q ≠ pa → q ≠ pc → q ≠ po → H q = some (.lst xs) → H' q = some (.lst xs)) : Firsts Hb rs pa pc po (i + 1) kvs H' where
  at_ := fun a h1 h2 => by
    have hai : a < i := by
      rcases Nat.lt_or_ge a i with z | z
      · exact z
      · have e : a = i := by omega
        subst e
        rw [hr] at h2
        cases h2
        cases ne
    obtain ⟨q, q1, q2, q3, q4, q5, q6⟩ := F.at_ a hai h2
    refine ⟨q, q1, ?_, q3, q4, q5, q6⟩
    rw [brV_no (by rw [orF_at hr, no, Bool.and_false])]
    exact k q _ q4 q5 q6 q2
  inj := F.inj
  low := fun a v h => ⟨by have := (F.low a v h).1; omega, (F.low a v h).2⟩
  len := by have := F.len; omega
theorem Firsts.new {Hb : Hp} {rs : List Rw} {pa pc po : Addr} {i : Nat} {kvs : List (Key × V)} {H H' : Hp} (F : Firsts Hb rs pa pc po i kvs H) (hr : rs[i]? = some .either) {q0 : Addr} (n0 : H q0 = none) (nb : Hb q0 = none) (na : q0 ≠ pa) (nc : q0 ≠ pc) (np : q0 ≠ po)
    (h0 : H' q0 = some (.lst [.int ((i : Int) + 1)])) (k : ∀ q xs, H q = some (.lst xs) → H' q = some (.lst xs)) : Firsts Hb rs pa pc po (i + 1) (putK kvs (Sum.inl (i : Int)) (.ref q0)) H' where
  at_ := fun a h1 h2 => by
    by_cases e : a = i
    · subst e
      refine ⟨q0, by rw [valV_put, if_pos rfl], ?_, nb, na, nc, np⟩
      rw [brV_low _ _ _ (Nat.le_refl _)]
      exact h0
    · obtain ⟨q, q1, q2, q3⟩ := F.at_ a (by omega) h2
      refine ⟨q, ?_, ?_, q3⟩
      · rw [valV_put, if_neg (fun z => e (by have := Sum.inl.inj z; omega))]
        exact q1
      · rw [brV_no (by rw [orF_at hr]; exact Bool.and_false _)]
        exact k q _ q2
  inj := fun a b q h1 h2 => by
    rw [valV_put] at h1 h2
    have old : ∀ c : Nat, c ≠ i → valV kvs (Sum.inl (c : Int)) = some (.ref q0) → False := fun c _ hc => by
      obtain ⟨l1, l2⟩ := F.low c _ hc
      obtain ⟨q', q1, q2, _⟩ := F.at_ c l1 l2
      rw [hc] at q1
      cases q1
      rw [n0] at q2
      cases q2
    by_cases ea : a = i
    · by_cases eb : b = i
      · rw [ea, eb]
      · rw [if_pos (by rw [ea])] at h1
        rw [if_neg (fun z => eb (by have := Sum.inl.inj z; omega))] at h2
        cases h1
        exact (old b eb h2).elim
    · rw [if_neg (fun z => ea (by have := Sum.inl.inj z; omega))] at h1
      by_cases eb : b = i
      · rw [if_pos (by rw [eb])] at h2
        cases h2
        exact (old a ea h1).elim
      · rw [if_neg (fun z => eb (by have := Sum.inl.inj z; omega))] at h2
        exact F.inj a b q h1 h2
  low := fun a v h => by
    rw [valV_put] at h
    by_cases e : a = i
    · rw [e]
      exact ⟨by omega, hr⟩
    · rw [if_neg (fun z => e (by have := Sum.inl.inj z; omega))] at h
      have := F.low a v h
      exact ⟨by omega, this.2⟩
  len := by
    have := length_putK kvs (Sum.inl (i : Int)) (.ref q0)
    have := F.len
    omega
theorem Firsts.or {Hb : Hp} {rs : List Rw} {pa pc po : Addr} {i : Nat} {kvs : List (Key × V)} {H H' : Hp} (F : Firsts Hb rs pa pc po i kvs H) (hr : rs[i]? = some .or) {b : Nat} (hb : hm rs i = (b : Int)) {q0 : Addr} (hq : valV kvs (Sum.inl (b : Int)) = some (.ref q0))
    (h0 : H' q0 = some (.lst (brV rs b (i + 1)))) (k : ∀ q xs, q ≠ q0 → H q = some (.lst xs) → H' q = some (.lst xs)) : Firsts Hb rs pa pc po (i + 1) kvs H' where
  at_ := fun a h1 h2 => by
    have hai : a < i := by
      rcases Nat.lt_or_ge a i with z | z
      · exact z
      · have e : a = i := by omega
        subst e
        rw [hr] at h2
        cases h2
    obtain ⟨q, q1, q2, q3⟩ := F.at_ a hai h2
    by_cases e : a = b
    · subst e
      rw [hq] at q1
      cases q1
      exact ⟨q0, hq, h0, q3⟩
    · refine ⟨q, q1, ?_, q3⟩
      rw [brV_no (by rw [orF_at hr, hb, decide_eq_false (by omega)]; rfl)]
      refine k q _ (fun z => e ?_) q2
      subst z
      exact F.inj a b q q1 hq
  inj := F.inj
  low := fun a v h => ⟨by have := (F.low a v h).1; omega, (F.low a v h).2⟩
  len := by have := F.len; omega
/-- the blocks of a sheet, read off -/
def BlkAt (C : Addr) (rs : List Rw) (Hb : Hp) (x : Addr) (H : Hp) : Prop := ∃ dx pa pc pf kvs, H x = some (.ins C dx (flds pa pc pf)) ∧ H pa = some (.lst (homesV rs rs.length)) ∧ H pc = some (.lst (endsV rs rs.length)) ∧ H pf = some (.dK kvs) ∧ Hb pa = none ∧ Hb pc = none ∧
  ∀ a : Nat, rs[a]? = some .either → ∃ q, valV kvs (Sum.inl (a : Int)) = some (.ref q) ∧ H q = some (.lst (brV rs a rs.length)) ∧ Hb q = none
theorem BlkAt.up {C : Addr} {rs : List Rw} {Hb : Hp} {x : Addr} {H H' : Hp} (e : Ex H H') (h : BlkAt C rs Hb x H) : BlkAt C rs Hb x H' := by
  obtain ⟨dx, pa, pc, pf, kvs, h1, h2, h3, h4, h6, h7, h5⟩ := h
  exact ⟨dx, pa, pc, pf, kvs, e _ _ h1, e _ _ h2, e _ _ h3, e _ _ h4, h6, h7, fun a ha => by
    obtain ⟨q, q1, q2, q3⟩ := h5 a ha
    exact ⟨q, q1, e _ _ q2, q3⟩⟩
section
variable {P : Program} {w : World} {K : PySem.W.Frag} {mg : Str → Option Value} {base : Heap}
def spOpens : Sp := fun vs H Q _ => ∃ (x : V) (r : Rw), vs = [x] ∧ IsRow H x r ∧ RetV (.bl r.opens) H Q
theorem ok_opens (D : Dn K mg "opens" s_opens ["row"]) {a_OPENERS : Addr} (g_OPENERS : mg "OPENERS" = some (.ref a_OPENERS)) (hOP : ∀ H, SqT K H a_OPENERS [.str "lend", .str "pick", .str "either", .str "again"]) : Has P w K mg base "opens" 1 ["row"] spOpens := by
  refine D.ok sc_opens (fun vs H Q E h => ?_) (fun f cdv A outer s H vs Q E hr h => ?_)
  · obtain ⟨x, r, rfl, _⟩ := h
    rfl
  · obtain ⟨x, r, rfl, hX, q⟩ := h
    refine ⟨_, (pss_one (ps_ret (pe_cmpR (show OpR _ _ (rIn K false) from op_in_seq) (pe_ix (show IxR _ (rIxT K) from ix_tup) (pv 0) pe_int (fun _ _ => rfl)) (pe_glob (v := .ref a_OPENERS) rfl g_OPENERS rfl) (by rfl)))), ?_⟩
    refine s_ret (v := .bl r.opens) ?_ (fun H2 e2 => q H2 e2)
    rw [← tag_opens]
    refine ev_inT ?_ ev_c (hOP H) rfl rfl
    walk_at "ev"
theorem ev_opens {x : V} {r : Rw} {ta : TA} {σ : L2.St} {H : Hp} {E : XK} (h : EvA ta σ H [x]) (hX : IsRow H x r) : Ev (tCall spOpens [] E ta) σ H (.bl r.opens) :=
  ev_call h fun H1 e Q q E => ⟨x, r, rfl, hX.up e, q⟩
/-! ### Evl for fields and dicts -/
variable {σ : L2.St} {H H' : Hp} {ta tb te tv : TE} {D : Ends} {tz : TS} {v : V} {C : Addr}
theorem ev_fld {p dx : Addr} {fs : List (Str × V)} {f : Str} (h : Ev ta σ H (.ref p)) (hp : H p = some (.ins C dx fs)) (cl : Cls K C) (na : NoAttr K C f) (l : fs.lookup f = some v) : Ev (tFld K ta f) σ H v := fun H1 e Q q =>
  h H1 e _ fun H2 e2 => ⟨p, C, dx, fs, v, rfl, e2 _ _ (e _ _ hp), cl, na, l, q H2 e2⟩
theorem q_fldL {p dx : Addr} {fs : List (Str × V)} {f : Str} {xs : List V} (hp : H p = some (.ins C dx fs)) (cl : Cls K C) (na : NoAttr K C f) (few : fs.length < 1000) (h : Ev ta σ H (.ref p)) (hv : EvL tv σ H xs)
    (k : ∀ q H1, H q = none → Ex H H1 → H1 q = some (.lst xs) → tz D σ (upd H1 p (.ins C dx (putF f (.ref q) fs)))) : tSeq (sFld K ta tv f) tz D σ H := hv H (Ex.refl H) _ fun q H1 hq e1 h1 =>
  h H1 e1 _ fun H2 e2 => ⟨p, C, dx, fs, rfl, e2 _ _ (e1 _ _ hp), cl, na, few, k q H2 hq (e1.trans e2) (e2 _ _ h1)⟩
theorem q_fldD {p dx : Addr} {fs : List (Str × V)} {f : Str} (hp : H p = some (.ins C dx fs)) (cl : Cls K C) (na : NoAttr K C f) (few : fs.length < 1000) (h : Ev ta σ H (.ref p))
    (k : ∀ q H1, H q = none → Ex H H1 → H1 q = some (.dK []) → tz D σ (upd H1 p (.ins C dx (putF f (.ref q) fs)))) : tSeq (sFld K ta tDNewK f) tz D σ H := fun q hq =>
  h _ (Ex.new hq) _ fun H2 e2 => ⟨p, C, dx, fs, rfl, e2 _ _ (Ex.new hq _ _ hp), cl, na, few, k q H2 hq ((Ex.new hq).trans e2) (e2 _ _ upd_same)⟩
theorem ev_dget {d : Addr} {kvs : List (Key × V)} {i : Int} (h : Ev ta σ H (.ref d)) (hd : H d = some (.dK kvs)) (hi : Ev tb σ H (.int i)) (hv : valV kvs (Sum.inl i) = some v) : Ev (tDGet ta tb) σ H v := fun H1 e Q q =>
  h H1 e _ fun H2 e2 => hi H2 (e.trans e2) _ fun H3 e3 => ⟨d, v, rfl, by
    have := DGet.k (k := Sum.inl i) (e3 _ _ (e2 _ _ (e _ _ hd)))
    rw [hv] at this
    exact this, q H3 (e2.trans e3)⟩
theorem s_dputL {d : Addr} {kvs : List (Key × V)} {i : Int} {xs : List V} (hd : H d = some (.dK kvs)) (hl : kvs.length < 100000) (h : Ev ta σ H (.ref d)) (hi : Ev tb σ H (.int i)) (hv : EvL tv σ H xs)
    (k : ∀ q H1, H q = none → Ex H H1 → H1 q = some (.lst xs) → D.nx σ (upd H1 d (.dK (putK kvs (Sum.inl i) (.ref q))))) : sDPut ta tb tv D σ H := hv H (Ex.refl H) _ fun q H1 hq e1 h1 =>
  h H1 e1 _ fun H2 e2 => hi H2 (e1.trans e2) _ fun H3 e3 => ⟨d, _, rfl, DPut.k (k := Sum.inl i) (e3 _ _ (e2 _ _ (e1 _ _ hd))) (sz_lt hl), k q H3 hq (e1.trans (e2.trans e3)) (e3 _ _ (e2 _ _ h1))⟩
/-- xs[ys.pop()] = e -/
theorem s_setPop {l m : Addr} {xs ys : List V} {j : Nat} (hl : H l = some (.lst xs)) (hm' : H m = some (.lst ys)) (hne : l ≠ m) (h : Ev te σ H v) (ho : Ev ta σ H (.ref l)) (hi : Ev tb σ H (.ref m)) (hy : ys[ys.length - 1]? = some (.int (j : Int))) (hj : j < xs.length)
    (k : ∀ H1, Ex H H1 → D.nx σ (upd (upd H1 m (.lst ys.dropLast)) l (.lst (xs.set j v)))) : tAsg te (gSub ta (tBM0 K "list" rPop tb) rSetL) D σ H := h H (Ex.refl H) _ fun H1 e1 => ho H1 e1 _ fun H2 e2 => hi H2 (e1.trans e2) _ fun H3 e3 =>
  have e := e1.trans (e2.trans e3)
  ⟨Or.inl ⟨rfl, ys, sq_of (e _ _ hm')⟩, m, ys, _, rfl, rfl, e _ _ hm', hy, l, xs, (j : Int), j, rfl, rfl, by rw [upd_ne hne]; exact e _ _ hl, ixN_nat hj, k H3 e⟩
end
theorem s_forE {K : PySem.W.Frag} {D : Ends} {σ : L2.St} {H : Hp} {tl : TE} {tu : TS} {a : Addr} {xs : List V} {j k : Nat} (h : Ev tl σ H (.ref a)) (hx : SqL K H a xs) (Pv : Nat → L2.St → Hp → Prop) (h0 : ∀ H1, Ex H H1 → Pv 0 σ H1) (hl : ∀ i σ' H', i ≤ xs.length → Pv i σ' H' → SqL K H' a xs)
    (hs : ∀ (i : Nat) x σ' H' H2, xs[i]? = some x → Pv i σ' H' → Ex H' H2 → tu { D with nx := Pv (i + 1), ct := Pv (i + 1), bk := D.nx } ((σ'.set j (some (.int (i : Int)))).set k (some x)) H2) (hd : ∀ σ' H', Pv xs.length σ' H' → D.nx σ' H') :
    tFor (iEnum K (tCons tl tNil)) (gTup K 2 (gCons (gName j) (gCons (gName k) gNil))) tu D σ H :=
  h H (Ex.refl H) _ fun H1 e => ⟨a, xs, rfl, ex_l e hx, for_it walk_enum Pv (h0 H1 e) hl (fun i v σ' H' H2 hi p y => by
    obtain ⟨T, x1, x2, rfl, hT, rfl, e1, e2⟩ := y
    cases e1
    exact ⟨T, [.int (i : Int), x2], rfl, SqT.of upd_same, rfl, _, _, rfl, _, _, rfl, rfl, hs i x2 σ' H' _ e2 p (Ex.new hT)⟩) hd⟩
/-! ### the blocks are read off -/
section
variable {P : Program} {w : World} {K : PySem.W.Frag} {mg : Str → Option Value} {base : Heap} {C : Addr}
def spBInit (K : PySem.W.Frag) (C : Addr) : Sp := fun vs H Q _ => ∃ (p dx a : Addr) (Hb : Hp) (rv : List V) (rs : List Rw), vs = [.ref p, .ref a] ∧ H = upd (upd Hb dx (.own p)) p (.ins C dx []) ∧ Hb p = none ∧ Hb dx = none ∧ dx ≠ p ∧ SqL K Hb a rv ∧ Rows Hb rv rs ∧ Good rs ∧ OrOk rs ∧ rs.length ≤ 40000 ∧
  ∀ H2, Ex Hb H2 → BlkAt C rs Hb p H2 → Q .non H2
/-- while the rows are gone through -/
structure BlkI (C : Addr) (Hb : Hp) (rs : List Rw) (p dx pa pc pf po : Addr) (i : Nat) (H : Hp) : Prop where
  ex : Ex Hb H
  ob : H p = some (.ins C dx (flds pa pc pf))
  ar : H pa = some (.lst (homesV rs i))
  cl : H pc = some (.lst (endsV rs i))
  op : H po = some (.lst (stV rs i))
  fi : ∃ kvs, H pf = some (.dK kvs) ∧ Firsts Hb rs pa pc po i kvs H
theorem stV_top (rs : List Rw) (i : Nat) : (stV rs i)[(stV rs i).length - 1]? = some (.int (hm rs i)) := by
  unfold stV hm
  cases pr rs i with
  | nil => rfl
  | cons a t =>
    rw [List.reverse_cons, List.map_append]
    show ((V.int (-1) :: t.reverse.map fun (n : Nat) => V.int (n : Int)) ++ [V.int (a : Int)])[((V.int (-1) :: t.reverse.map fun (n : Nat) => V.int (n : Int)) ++ [V.int (a : Int)]).length - 1]? = _
    rw [List.length_append]
    exact List.getElem?_concat_length
theorem ok_binit {f : Addr} {fd : FuncData} (F : Fun K "__init__" "Blocks.__init__" s_Blocks_init f fd) (T : Blt mg) (B : BlkC K C) (h_opens : Has P w K mg base "opens" 1 ["row"] spOpens) : FnOk P w K mg base CX0 2 f fd ["self", "rows"] (spBInit K C) := by
  refine F.ok sc_Blocks_init (fun vs H Q E h => ?_) (fun cdv A outer s H vs Q E hr h => ?_)
  · obtain ⟨p, dx, a, Hb, rv, rs, rfl, _⟩ := h
    rfl
  · obtain ⟨p, dx, a, Hb, rv, rs, rfl, hH, hbp, hbd, hdp, hSb, hRb, g, ok, hlen, q⟩ := h
    have hlr := hRb.len
    have eb : Ex Hb H := fun x o hx => by rw [hH, upd_ne (ne_of_none hx hbp), upd_ne (ne_of_none hx hbd)]; exact hx
    have hp0 : H p = some (.ins C dx []) := by rw [hH, upd_same]
    clear hH
    have hrT : Room 1 _ := hr
    refine ⟨_, (pss_cons (ps_fld (pv 0) (pe_lst pa_nil) rfl) (pss_cons (ps_fld (pv 0) (pe_op op_rep (pe_lst (pa_cons (pe_un un_neg pe_int) pa_nil)) (pe_callB (show CallR _ _ (rLenS K) from call_len_seq) (by rfl) T.len_ (by decide +kernel) (pa_cons (pv 1) pa_nil))) rfl) (pss_cons (ps_fld (pv 0) pe_dnewK rfl) (pss_cons (ps_set (i := 2) sc_Blocks_init.nd rfl (Or.inl rfl) (pe_lst (pa_cons (pe_un un_neg pe_int) pa_nil))) (pss_one (ps_for PassesOwn.never rfl (pi_enum (by rfl) T.enumerate_ (pa_cons (pv 1) pa_nil)) (pg_tup rfl (pgs_cons (pg_name (i := 3) sc_Blocks_init.nd rfl (Or.inl rfl)) (pgs_cons (pg_name (i := 4) sc_Blocks_init.nd rfl (Or.inl rfl)) pgs_nil))) (pss_cons (ps_set (i := 5) sc_Blocks_init.nd rfl (Or.inl rfl) (pe_ix (show IxR _ (rIxL K) from ix_list) (pv 2) (pe_un un_neg pe_int) (fun _ _ => rfl))) (pss_cons (ps_expr (pe_bm PySem.F.plainAttrs_list PySem.F.slot_list_append PySem.F.type_list_append mt_append (pe_fld (pv 0) rfl) (pa_cons (pv 5) pa_nil))) (pss_cons (ps_if (pt_val (pe_own h_opens (hr.mono (by decide)) (by rfl) (pa_cons (pv 4) pa_nil))) (pss_one (ps_expr (pe_bm PySem.F.plainAttrs_list PySem.F.slot_list_append PySem.F.type_list_append mt_append (pv 2) (pa_cons (pv 3) pa_nil)))) pss_nil) (pss_one (ps_if (pt_cmpR op_eq (pe_ix (show IxR _ (rIxT K) from ix_tup) (pv 4) pe_int (fun _ _ => rfl)) pe_str (nomark _)) (pss_one (ps_dput (hu_of hr) (pe_fld (pv 0) rfl) (pv 3) (pe_lst (pa_cons (pe_op op_add (pv 3) pe_int) pa_nil)) rfl)) (pss_one (ps_if (pt_cmpR op_eq (pe_ix (show IxR _ (rIxT K) from ix_tup) (pv 4) pe_int (fun _ _ => rfl)) pe_str (nomark _)) (pss_one (ps_expr (pe_bm PySem.F.plainAttrs_list PySem.F.slot_list_append PySem.F.type_list_append mt_append (pe_dget (hu_of hr) (pe_fld (pv 0) rfl) (pv 5) (fun _ _ => rfl)) (pa_cons (pe_op op_add (pv 3) pe_int) pa_nil)))) (pss_one (ps_if (pt_cmpR op_eq (pe_ix (show IxR _ (rIxT K) from ix_tup) (pv 4) pe_int (fun _ _ => rfl)) pe_str (nomark _)) (pss_one (ps_asg (pv 3) (pg_sub (pe_fld (pv 0) rfl) (pe_bm0 PySem.F.plainAttrs_list PySem.F.slot_list_pop PySem.F.type_list_pop mt_pop (pv 2)) set_list))) pss_nil))))))))))))))), ?_⟩
    show (_ : L2.TS) _ [_, _, _, _, _, _] _
    refine q_fldL (xs := []) hp0 B.cl B.nA (by decide) (ev_var rfl) ?_ (fun pa H1 hpa e1 h1 => ?_)
    · walk_at "ev"
    have hbpa : Hb pa = none := fresh_back eb hpa
    have npa : pa ≠ p := (ne_of_none hp0 hpa).symm
    have x1 : Ex Hb (upd H1 p (.ins C dx (putF "around" (.ref pa) []))) := Ex.mut (eb.trans e1) hbp
    have p1 : (upd H1 p (.ins C dx (putF "around" (.ref pa) []))) p = some (.ins C dx (putF "around" (.ref pa) [])) := upd_same
    have a1 : (upd H1 p (.ins C dx (putF "around" (.ref pa) []))) pa = some (.lst []) := by rw [upd_ne npa]; exact h1
    generalize upd H1 p (.ins C dx (putF "around" (.ref pa) [])) = G1 at *
    clear e1 h1 hpa hp0 eb
    show (_ : L2.TS) _ [_, _, _, _, _, _] _
    refine q_fldL (xs := endsV rs 0) p1 B.cl B.nC (by have := putF_len "around" (.ref pa) []; show _ < 1000; simp at this ⊢; omega) (ev_var rfl) ?_ (fun pc H2 hpc e2 h2 => ?_)
    · rw [endsV_zero, ← flat_rep, ← hlr]
      have e : rv.length = ((rv.length : Nat) : Int).toNat := by omega
      rw [e]
      have hS1 : SqL K G1 a rv := ex_l x1 hSb
      refine el_rep ?_ ?_ (by omega) (by omega) (by show 1 * _ ≤ _; omega)
      · walk_at "ev"
      · walk_at "ev"
    have hbpc : Hb pc = none := fresh_back x1 hpc
    have npc : pc ≠ p := (ne_of_none p1 hpc).symm
    have nac : pa ≠ pc := ne_of_none a1 hpc
    have x2 : Ex Hb (upd H2 p (.ins C dx (putF "closing" (.ref pc) (putF "around" (.ref pa) [])))) := Ex.mut (x1.trans e2) hbp
    have p2 : (upd H2 p (.ins C dx (putF "closing" (.ref pc) (putF "around" (.ref pa) [])))) p = some (.ins C dx (putF "closing" (.ref pc) (putF "around" (.ref pa) []))) := upd_same
    have a2 : (upd H2 p (.ins C dx (putF "closing" (.ref pc) (putF "around" (.ref pa) [])))) pa = some (.lst []) := by rw [upd_ne npa]; exact e2 _ _ a1
    have c2 : (upd H2 p (.ins C dx (putF "closing" (.ref pc) (putF "around" (.ref pa) [])))) pc = some (.lst (endsV rs 0)) := by rw [upd_ne npc]; exact h2
    generalize upd H2 p (.ins C dx (putF "closing" (.ref pc) (putF "around" (.ref pa) []))) = G2 at *
    clear e2 h2 hpc p1 a1 x1
    show (_ : L2.TS) _ [_, _, _, _, _, _] _
    refine q_fldD p2 B.cl B.nF (by have := putF_len "around" (.ref pa) []; have := putF_len "closing" (.ref pc) (putF "around" (.ref pa) []); show _ < 1000; simp at *; omega) (ev_var rfl) (fun pf H3 hpf e3 h3 => ?_)
    have npf : pf ≠ p := (ne_of_none p2 hpf).symm
    have hbpf : Hb pf = none := fresh_back x2 hpf
    have x3 : Ex Hb (upd H3 p (.ins C dx (flds pa pc pf))) := Ex.mut (x2.trans e3) hbp
    have p3 : (upd H3 p (.ins C dx (flds pa pc pf))) p = some (.ins C dx (flds pa pc pf)) := upd_same
    have a3 : (upd H3 p (.ins C dx (flds pa pc pf))) pa = some (.lst (homesV rs 0)) := by rw [upd_ne npa]; exact e3 _ _ a2
    have c3 : (upd H3 p (.ins C dx (flds pa pc pf))) pc = some (.lst (endsV rs 0)) := by rw [upd_ne npc]; exact e3 _ _ c2
    have f3 : (upd H3 p (.ins C dx (flds pa pc pf))) pf = some (.dK []) := by rw [upd_ne npf]; exact h3
    show tSeq _ _ _ _ (upd H3 p (.ins C dx (flds pa pc pf)))
    generalize upd H3 p (.ins C dx (flds pa pc pf)) = G3 at *
    clear e3 h3 hpf p2 a2 c2 x2
    refine q_asgL (xs := [.int (-1)]) ?_ (fun po H4 hpo e4 h4 => ?_)
    · walk_at "ev"
    show (_ : L2.TS) _ [_, _, _, _, _, _] _
    have hbpo : Hb po = none := fresh_back x3 hpo
    have nao : pa ≠ po := ne_of_none a3 hpo
    have nco : pc ≠ po := ne_of_none c3 hpo
    have hS4 : SqL K H4 a rv := ex_l (x3.trans e4) hSb
    refine s_forE (K := K) (a := a) (xs := rv) (ev_var rfl) hS4 (fun i σ' H' => BlkI C Hb rs p dx pa pc pf po i H' ∧ ∃ b c d, σ' = [some (.ref p), some (.ref a), some (.ref po), b, c, d]) ?_ (fun i σ' H' _ h => ex_l h.1.ex hSb) ?_ ?_
    · intro H5 e5
      refine ⟨⟨x3.trans (e4.trans e5), e5 _ _ (e4 _ _ p3), e5 _ _ (e4 _ _ a3), e5 _ _ (e4 _ _ c3), e5 _ _ h4, [], e5 _ _ (e4 _ _ f3), fun b hb => absurd hb (Nat.not_lt_zero b), fun _ _ _ z => (nomatch z), fun _ _ z => (nomatch z), Nat.le_refl _⟩, none, none, none, rfl⟩
    · rintro i x σ' H' H5 hi ⟨I, b, c, d, rfl⟩ e5
      obtain ⟨xI, pI, aI, cI, oI, kvs, fI, FI⟩ := I
      have hil : i < rv.length := (List.getElem?_eq_some_iff.mp hi).1
      obtain ⟨r, hr1, hX⟩ := hRb.at hi
      have x5 := xI.trans e5
      have p5 := e5 _ _ pI
      have a5 := e5 _ _ aI
      have c5 := e5 _ _ cI
      have o5 := e5 _ _ oI
      have f5 := e5 _ _ fI
      have FA : ∀ a : Nat, a < i → rs[a]? = some .either → ∃ q, valV kvs (Sum.inl (a : Int)) = some (.ref q) ∧ H5 q = some (.lst (brV rs a i)) ∧ Hb q = none ∧ q ≠ pa ∧ q ≠ pc ∧ q ≠ po := fun a h1 h2 => by
        obtain ⟨q, q1, q2, q3⟩ := FI.at_ a h1 h2
        exact ⟨q, q1, e5 _ _ q2, q3⟩
      clear xI pI aI cI oI fI e5
      -- home = opened[-1]
      refine q_asg (v := .int (hm rs i)) ?_ (fun H6 e6 => ?_)
      · have hO : SqL K H5 po (stV rs i) := sq_of o5
        refine ev_ixL (ev_var rfl) hO ?_ (stV_last rs i)
        walk_at "ev"
      show (_ : L2.TS) _ [_, _, _, _, _, _] _
      -- self.around.append(home)
      refine q_app (l := pa) (xs := homesV rs i) (v := .int (hm rs i)) (e6 _ _ a5) (ev_fld (ev_var rfl) (e6 _ _ p5) B.cl B.nA (flds_a pa pc pf)) (ev_var rfl) (by rw [homesV_len]; omega) (fun H7 e7 => ?_)
      rw [← homesV_next]
      have e57 := e6.trans e7
      have x8 : Ex Hb (upd H7 pa (.lst (homesV rs (i + 1)))) := Ex.mut (x5.trans e57) hbpa
      have p8 : (upd H7 pa (.lst (homesV rs (i + 1)))) p = some (.ins C dx (flds pa pc pf)) := by rw [upd_ne npa.symm]; exact e57 _ _ p5
      have a8 : (upd H7 pa (.lst (homesV rs (i + 1)))) pa = some (.lst (homesV rs (i + 1))) := upd_same
      have c8 : (upd H7 pa (.lst (homesV rs (i + 1)))) pc = some (.lst (endsV rs i)) := by rw [upd_ne nac.symm]; exact e57 _ _ c5
      have o8 : (upd H7 pa (.lst (homesV rs (i + 1)))) po = some (.lst (stV rs i)) := by rw [upd_ne nao.symm]; exact e57 _ _ o5
      have npaf : pf ≠ pa := ne_of f5 a5 (fun z => nomatch z)
      have f8 : (upd H7 pa (.lst (homesV rs (i + 1)))) pf = some (.dK kvs) := by rw [upd_ne npaf]; exact e57 _ _ f5
      have F8 : ∀ a : Nat, a < i → rs[a]? = some .either → ∃ q, valV kvs (Sum.inl (a : Int)) = some (.ref q) ∧ (upd H7 pa (.lst (homesV rs (i + 1)))) q = some (.lst (brV rs a i)) ∧ Hb q = none ∧ q ≠ pa ∧ q ≠ pc ∧ q ≠ po := fun a h1 h2 => by
        obtain ⟨q, q1, q2, q3, q4, q5⟩ := FA a h1 h2
        exact ⟨q, q1, by rw [upd_ne q4]; exact e57 _ _ q2, q3, q4, q5⟩
      have hX8 : IsRow (upd H7 pa (.lst (homesV rs (i + 1)))) x r := hX.up x8
      generalize upd H7 pa (.lst (homesV rs (i + 1))) = G8 at *
      clear e6 e7 e57 x5 p5 a5 c5 o5 f5 FA
      have npof : pf ≠ po := ne_of f8 o8 (fun z => nomatch z)
      have npo : po ≠ p := ne_of o8 p8 (fun z => nomatch z)
      have npcf : pf ≠ pc := ne_of f8 c8 (fun z => nomatch z)
      -- if opens(row): opened.append(at)
      refine q_when (b := r.opens) (et_B (ev_opens (ea_cons (ev_var rfl) ea_nil) hX8)) (fun hro H9 e9 => ?_) (fun hro H9 e9 => ?_)
      · have e89 := e9
        refine s_app (l := po) (xs := stV rs i) (v := .int (i : Int)) (e9 _ _ o8) (ev_var rfl) (ev_var rfl) (by have := stV_len rs i; omega) (fun Ha ea => ?_)
        dsimp only
        rw [← stV_push hr1 hro]
        have e8a := e9.trans ea
        have xb : Ex Hb (upd Ha po (.lst (stV rs (i + 1)))) := Ex.mut (x8.trans e8a) hbpo
        have pb : (upd Ha po (.lst (stV rs (i + 1)))) p = some (.ins C dx (flds pa pc pf)) := by rw [upd_ne npo.symm]; exact e8a _ _ p8
        have ab : (upd Ha po (.lst (stV rs (i + 1)))) pa = some (.lst (homesV rs (i + 1))) := by rw [upd_ne nao]; exact e8a _ _ a8
        have cb : (upd Ha po (.lst (stV rs (i + 1)))) pc = some (.lst (endsV rs i)) := by rw [upd_ne nco]; exact e8a _ _ c8
        have ob : (upd Ha po (.lst (stV rs (i + 1)))) po = some (.lst (stV rs (i + 1))) := upd_same
        have fb : (upd Ha po (.lst (stV rs (i + 1)))) pf = some (.dK kvs) := by rw [upd_ne npof]; exact e8a _ _ f8
        have Fb : Firsts Hb rs pa pc po i kvs (upd Ha po (.lst (stV rs (i + 1)))) := ⟨fun a h1 h2 => by
          obtain ⟨q, q1, q2, q3, q4, q5, q6⟩ := F8 a h1 h2
          exact ⟨q, q1, by rw [upd_ne q6]; exact e8a _ _ q2, q3, q4, q5, q6⟩, FI.inj, FI.low, FI.len⟩
        have hXb : IsRow (upd Ha po (.lst (stV rs (i + 1)))) x r := hX.up xb
        generalize upd Ha po (.lst (stV rs (i + 1))) = Gb at *
        clear ea e9 e89 e8a x8 p8 a8 c8 o8 f8 F8 hX8
        have hfn : r.isFin = false := by cases r <;> first | rfl | cases hro
        have hon : r.isOr = false := by cases r <;> first | rfl | cases hro
        rw [← endsV_keep hr1 hfn] at cb
        refine s_if (b := r.isEither) ?_ (fun hre Hc ec => ?_) (fun hre Hc ec => ?_)
        · rw [← tag_either]
          walk_at "ev"
        · have er : r = .either := by cases r <;> first | rfl | cases hre
          subst er
          refine s_dputL (d := pf) (kvs := kvs) (i := (i : Int)) (xs := [.int ((i : Int) + 1)]) (ec _ _ fb) (by have := Fb.len; omega) (ev_fld (ev_var rfl) (ec _ _ pb) B.cl B.nF (flds_f pa pc pf)) (ev_var rfl) ?_ (fun q0 Hd hq0 ed hd => ?_)
          · walk_at "ev"
          · have ebd := ec.trans ed
            have n0 : Gb q0 = none := fresh_back ec hq0
            have nq : ∀ {z o}, Gb z = some o → q0 ≠ z := fun hz => (ne_of_none hz n0).symm
            refine ⟨⟨Ex.mut (xb.trans ebd) hbpf, ?_, ?_, ?_, ?_, _, upd_same, Fb.new hr1 n0 (fresh_back xb n0) (nq ab) (nq cb) (nq ob) ?_ (fun z xs hz => ?_)⟩, _, _, _, rfl⟩
            · rw [upd_ne npf.symm]; exact ebd _ _ pb
            · rw [upd_ne (ne_of fb ab (fun z => nomatch z)).symm]; exact ebd _ _ ab
            · rw [upd_ne npcf.symm]; exact ebd _ _ cb
            · rw [upd_ne npof.symm]; exact ebd _ _ ob
            · rw [upd_ne (nq fb)]; exact hd
            · rw [upd_ne (ne_of hz fb (fun z => nomatch z))]; exact ebd _ _ hz
        · refine s_if (b := r.isOr) ?_ (fun hb _ _ => by rw [hon] at hb; cases hb) (fun _ Hd ed => ?_)
          · have hXc := hXb.up ec
            rw [← tag_or]
            walk_at "ev"
          · refine s_when (b := r.isFin) ?_ (fun hb _ _ => by rw [hfn] at hb; cases hb) (fun _ He ee => ?_)
            · have hXd := (hXb.up ec).up ed
              rw [← tag_fin]
              walk_at "ev"
            · have ebe := ec.trans (ed.trans ee)
              exact ⟨⟨xb.trans ebe, ebe _ _ pb, ebe _ _ ab, ebe _ _ cb, ebe _ _ ob, kvs, ebe _ _ fb, Fb.skip hr1 hon hre fun q xs _ _ _ hq => ebe _ _ hq⟩, _, _, _, rfl⟩
      · have hre : r.isEither = false := by cases r <;> first | rfl | cases hro
        have Fb : Firsts Hb rs pa pc po i kvs G8 := ⟨F8, FI.inj, FI.low, FI.len⟩
        refine s_if (b := r.isEither) ?_ (fun hb _ _ => by rw [hre] at hb; cases hb) (fun _ Hc ec => ?_)
        · have hX9 := hX8.up e9
          rw [← tag_either]
          walk_at "ev"
        have e8c := e9.trans ec
        refine s_if (b := r.isOr) ?_ (fun hor Hd ed => ?_) (fun hor Hd ed => ?_)
        · have hXc := hX8.up e8c
          rw [← tag_or]
          walk_at "ev"
        · have er : r = .or := by cases r <;> first | rfl | cases hor
          subst er
          obtain ⟨b, hb1, hb2⟩ := ok i hr1
          have hbi : b < i := by have := hm_lt (rs := rs) i; omega
          obtain ⟨q0, q1, q2, q3, q4, q5, q6⟩ := Fb.at_ b hbi hb2
          have e8d := e8c.trans ed
          rw [hb1]
          refine s_app (l := q0) (xs := brV rs b i) (v := .int ((i : Int) + 1)) (e8d _ _ q2) (ev_dget (ev_fld (ev_var rfl) (e8d _ _ p8) B.cl B.nF (flds_f pa pc pf)) (e8d _ _ f8) (ev_var rfl) q1) ?_ (by have := brV_len rs b i; omega) (fun He ee => ?_)
          · walk_at "ev"
          · dsimp only
            rw [← brV_yes (by rw [orF_at hr1, hb1, decide_eq_true rfl]; rfl)]
            have e8e := e8d.trans ee
            rw [← endsV_keep hr1 rfl] at c8
            rw [← stV_keep hr1 rfl rfl] at o8
            refine ⟨⟨Ex.mut (x8.trans e8e) q3, ?_, ?_, ?_, ?_, kvs, ?_, Fb.or hr1 hb1 q1 upd_same (fun z xs hz h => ?_)⟩, _, _, _, rfl⟩
            · rw [upd_ne (ne_of p8 q2 (fun z => nomatch z))]; exact e8e _ _ p8
            · rw [upd_ne q4.symm]; exact e8e _ _ a8
            · rw [upd_ne q5.symm]; exact e8e _ _ c8
            · rw [upd_ne q6.symm]; exact e8e _ _ o8
            · rw [upd_ne (ne_of f8 q2 (fun z => nomatch z))]; exact e8e _ _ f8
            · rw [upd_ne hz]; exact e8e _ _ h
        · refine s_when (b := r.isFin) ?_ (fun hrf He ee => ?_) (fun hrf He ee => ?_)
          · have hXd := (hX8.up e8c).up ed
            rw [← tag_fin]
            walk_at "ev"
          · obtain ⟨b, t, hp1, hp2, hp3, qr, hq1, hq2⟩ := hm_fin g hr1 hrf
            have e8e := e8c.trans (ed.trans ee)
            have hpop := stV_pop g hr1 hrf
            refine s_setPop (l := pc) (m := po) (xs := endsV rs i) (ys := stV rs i) (j := b) (v := .int (i : Int)) (e8e _ _ c8) (e8e _ _ o8) nco (ev_var rfl) (ev_fld (ev_var rfl) (e8e _ _ p8) B.cl B.nC (flds_c pa pc pf)) (ev_var rfl) (by rw [stV_top, hp2]) (by rw [endsV_len]; have := (List.getElem?_eq_some_iff.mp hq1).1; exact this) (fun Hf ef => ?_)
            dsimp only
            rw [← endsV_set g hr1 hrf hp1 hp2 (show opAt rs b = true by unfold opAt; rw [hq1]; exact hq2), ← hpop.1]
            have e8f := e8e.trans ef
            have up2 : ∀ {z o}, z ≠ po → z ≠ pc → G8 z = some o → (upd (upd Hf po (.lst (stV rs (i + 1)))) pc (.lst (endsV rs (i + 1)))) z = some o := fun h1 h2 h3 => by rw [upd_ne h2, upd_ne h1]; exact e8f _ _ h3
            refine ⟨⟨Ex.mut (Ex.mut (x8.trans e8f) hbpo) hbpc, up2 npo.symm npc.symm p8, up2 nao nac a8, upd_same, by rw [upd_ne nco.symm, upd_same], kvs, up2 npof npcf f8, Fb.skip hr1 hor hre fun q xs z1 z2 z3 hq => up2 z3 z2 hq⟩, _, _, _, rfl⟩
          · have e8e := e8c.trans (ed.trans ee)
            rw [← endsV_keep hr1 hrf] at c8
            rw [← stV_keep hr1 hro hrf] at o8
            exact ⟨⟨x8.trans e8e, e8e _ _ p8, e8e _ _ a8, e8e _ _ c8, e8e _ _ o8, kvs, e8e _ _ f8, Fb.skip hr1 hor hre fun q xs _ _ _ hq => e8e _ _ hq⟩, _, _, _, rfl⟩
    · rintro σ' H' ⟨I, b, c, d, rfl⟩
      rw [hlr] at I
      obtain ⟨xI, pI, aI, cI, oI, kvs, fI, FI⟩ := I
      refine q H' xI ⟨dx, pa, pc, pf, kvs, pI, aI, cI, fI, hbpa, hbpc, fun a ha => ?_⟩
      obtain ⟨q1, h1, h2, h3, _⟩ := FI.at_ a (List.getElem?_eq_some_iff.mp ha).1 ha
      exact ⟨q1, h1, h2, h3⟩
def ABlk (C : Addr) (rs : List Rw) (Hb : Hp) : V → Hp → Prop := fun v H => ∃ x, v = .ref x ∧ BlkAt C rs Hb x H
theorem ABlk.up {rs : List Rw} {Hb : Hp} {v : V} {H H' : Hp} (e : Ex H H') (h : ABlk C rs Hb v H) : ABlk C rs Hb v H' := by
  obtain ⟨x, h1, h2⟩ := h
  exact ⟨x, h1, h2.up e⟩
/-- Blocks(rows) -/
theorem ep_blocks {ta : TE} {σ : L2.St} {H : Hp} {a : Addr} {rv : List V} {rs : List Rw} {E : XK} (h : Ev ta σ H (.ref a)) (hS : SqL K H a rv) (hR : Rows H rv rs) (g : Good rs) (ok : OrOk rs) (hl : rs.length ≤ 40000) :
    EvP (tMake C (spBInit K C) [] E (tCons ta tNil)) σ H (fun v H2 => ABlk C rs H v H2) := fun H1 e Q q =>
  h H1 e _ fun H2 e2 => fun x dx hx hd hne => ⟨x, dx, a, H2, rv, rs, rfl, rfl, hx, hd, hne, ex_l (e.trans e2) hS, hR.up (e.trans e2), g, ok, hl, fun H3 e3 hB => ⟨rfl, q _ H3 (e2.trans e3) ⟨x, rfl, by
    obtain ⟨dx, pa, pc, pf, kvs, h1, h2, h3, h4, h6, h7, h5⟩ := hB
    exact ⟨dx, pa, pc, pf, kvs, h1, h2, h3, h4, fresh_back (e.trans e2) h6, fresh_back (e.trans e2) h7, fun a ha => by
      obtain ⟨q, q1, q2, q3⟩ := h5 a ha
      exact ⟨q, q1, q2, fresh_back (e.trans e2) q3⟩⟩⟩⟩⟩
end
end BD
namespace BD
open PySem PySem.Spec PyProof.Rows L2 Evl
/-! ### {e}, e a key -/
def tSet1 (P : Program) (w : World) (te : TE) : TE := fun σ H Q => ∀ p, H p = none → te σ (upd H p (SetK P w p (fun _ => false) 0)) fun v H1 => ∃ k : Key, v = kV k ∧ H1 p = some (SetK P w p (fun _ => false) 0) ∧ Q (.ref p) (upd H1 p (SetK P w p (fun j => false || decide (j = k)) 1))
theorem pe_set1 {X : Cx} {e : Expr} {te : TE} {pos : Pos} (hcd : PySem.W.kdsCode X.K X.env.code = true) (he : PE X e te) (hp : [e].all PySem.W.kdsPlain = true := by rfl) : PE X (.Set [e] 0 pos) (tSet1 X.prog X.w te) := by
  refine ⟨fun pins s σ H Q I h => ?_⟩
  rw [arm_eval_Set]
  refine wpAny_bind (wpAny_standAt ?_)
  refine wpAny_bind (PySem.W.kds_main I.kIn hcd fun b => ?_)
  rw [PySem.W.kds_star [e] hp, List.map_map]
  refine PySem.W.kds_core (ts := (evalEach [e] X.env).map fun t => do let v ← t; standAt pos; pure v) (by rfl) (by rfl) (by show 1 ≤ 30; decide) (by rw [List.map_map]; rfl) fun led => ?_
  have hn : H s.heap.objs.size = none := I.hok.fresh (Nat.le_refl _)
  have new : (s.heap.push { cls := .type "set", dict := none, data := .set #[] 0 (.fresh 0 0 led) }).SetOf (mixKind X.prog X.w) s.heap.objs.size (fun _ => false) 0 :=
    ⟨_, #[], 0, _, Heap.get?_push_size _ rfl, ⟨rfl, rfl, rfl⟩, rfl, (fun e he => by simp at he), (fun k => by simp), (by decide), (by rfl), rfl⟩
  have I1 : Inv X pins σ (upd H s.heap.objs.size (SetK X.prog X.w s.heap.objs.size (fun _ => false) 0)) { s with heap := s.heap.push { cls := .type "set", dict := none, data := .set #[] 0 (.fresh 0 0 led) } } :=
    I.laid (t' := s.toks) (fun b u e => Heap.get?_push_of_some _ e) (Nat.le_refl _) (setK_new new)
  refine PySem.W.kds_all pos [e] _ _ ?_
  refine thn (he.run pins _ σ _ _ I1 (h _ hn)) fun v s2 ⟨x, H2, I2, r2, k, ex, hS, q⟩ => ?_
  subst ex
  refine PySem.W.kds_fill_cons ?_
  unfold setAdd
  refine wpAny_holding (wpAny_bind ((mixKind X.prog X.w).pyHash (kV_is r2) ?_))
  refine wpAny_setAddHashed_of (s := { s2 with toks := s2.toks + 1 }) (kV_is r2) (key_scan r2) (setK_get (I2.tok _) hS) (by decide) fun h' hsb hS' => ?_
  refine PySem.W.kds_fill_nil (by rfl) ?_
  have he' : ∃ u, h'.get? s.heap.objs.size = some u := by
    have ⟨o, _, _, _, ho, _⟩ := hS'
    exact ⟨o, ho⟩
  exact ⟨.ref s.heap.objs.size, upd H2 s.heap.objs.size (SetK X.prog X.w s.heap.objs.size (fun j => false || decide (j = k)) 1), I2.write (e := s.heap.objs.size) (t' := s2.toks + 1) (by rw [hS]; trivial) (.inl rfl) (fun b u hb hu => (hsb.2 b hb).trans hu) he' (setK_new hS'), rfl, q⟩
/-- a def that is told its own code object -/
theorem Dn.okC {P : Program} {w : World} {K : PySem.W.Frag} {mg : Str → Option Value} {base : Heap} {x : Str} {st : Stmt} {N ps : List Str} {k : Nat} {sp : Sp} (D : Dn K mg x st ps) (S : FnScope N ps (defScope st)) (len : ∀ vs H Q E, sp vs H Q E → vs.length = ps.length)
    (hbody : ∀ (f : Addr) (cdv : Value) (A : Around) (outer : List Env) (s : Shared) (H : Hp) (vs : List V) (Q : VK) (E : XK), PySem.W.kdsCode K cdv = true → Room k (A.deeper (envOfC x (defScope st) s.heap.objs.size f cdv)) → sp vs H Q E →
      ∃ t, PSs (cxOf CX0 P w K mg base N x (defScope st) f cdv A outer s H E).nox (defBody st) t ∧ t { nx := fun _ H' => Q .non H', rt := Q } (start N vs) H) : Has P w K mg base x (k + 1) ps sp := by
  obtain ⟨f, fd, F, m, b⟩ := D
  refine ⟨f, fd, ?_, m, F.kp, b⟩
  obtain ⟨oc, od, kV, doc, pm, an, cdv, ct, osl, rfl, lk, hcd⟩ := F.ex
  refine fn_of lk hcd S len fun A outer s H vs Q E hr hsp => ?_
  obtain ⟨t, h, q⟩ := hbody f cdv A outer s H vs Q E (kdsCode_of hcd) hr hsp
  exact ⟨t, h.nox, q⟩
section
variable {P : Program} {w : World} {σ : L2.St} {H : Hp} {ta tb te : TE} {D : Ends} {tz : TS}
theorem ev_inK {p : Addr} {S : Key → Bool} {n : Nat} {x : Str} (ha : Ev ta σ H (.str x)) (hb : Ev tb σ H (.ref p)) (hp : H p = some (SetK P w p S n)) : Ev (tOp (rSInK P w false) ta tb) σ H (.bl (S (Sum.inr x))) :=
  ev_op ha hb (rv_val fun H1 e Q q => ⟨Sum.inr x, p, S, n, rfl, rfl, e _ _ hp, q⟩)
theorem q_set1 {i : Nat} {x : Str} (h : ∀ H1, Ev te σ H1 (.str x)) (k : ∀ p H1, H p = none → Ex H H1 → H1 p = some (SetK P w p (fun j => decide (j = Sum.inr x)) 1) → tz D (σ.set i (some (.ref p))) H1) : tSeq (tAsg (tSet1 P w te) (gName i)) tz D σ H := fun p hp =>
  h _ _ (Ex.refl _) _ fun H2 e2 => ⟨Sum.inr x, rfl, e2 _ _ upd_same, k p _ hp (Ex.mut ((Ex.new hp).trans e2) hp) upd_same⟩
theorem q_saddK {p : Addr} {S : Key → Bool} {n : Nat} {x : Str} (hp : H p = some (SetK P w p S n)) (hn : n < 1000) (h : Ev ta σ H (.ref p)) (hx : Ev te σ H (.str x))
    (k : ∀ H1, Ex H H1 → tz D σ (upd H1 p (SetK P w p (fun j => S j || decide (j = Sum.inr x)) (if S (Sum.inr x) = true then n else n + 1)))) : tSeq (tDrop (tSAddK P w ta (tCons te tNil))) tz D σ H :=
  h H (Ex.refl H) _ fun H1 e1 => ⟨⟨p, S, n, rfl, e1 _ _ hp⟩, hx H1 e1 _ fun H2 e2 => ⟨p, Sum.inr x, S, n, rfl, rfl, e2 _ _ (e1 _ _ hp), Nat.lt_of_le_of_lt (by omega : n + 1 ≤ 1000) (by decide), k H2 (e1.trans e2)⟩⟩
end
end BD
namespace BD
open PySem PySem.Spec PyProof.Rows L2 Evl
local macro_rules | `(tactic| walk_at "ev") => `(tactic| first
  | ((with_reducible apply ev_var) ; rfl)
  | with_reducible exact ev_c
  | ((with_reducible apply ev_I0) <;> walk_at "ev")
  | ((with_reducible apply ev_e9) <;> walk_at "ev")
  | ((with_reducible apply ev_I) <;> walk_at "ev")
  | ((with_reducible apply ev_eq) <;> walk_at "ev")
  | ((with_reducible apply ev_ne) <;> walk_at "ev")
  | ((with_reducible apply ev_neg) <;> walk_at "ev")
  | ((with_reducible apply ev_ixN) <;> walk_at "ev")
  | ((with_reducible apply ev_ixL) <;> walk_at "ev")
  | ((with_reducible apply ev_inN) <;> walk_at "ev")
  | ((with_reducible apply ev_inT) <;> walk_at "ev")
  | ((with_reducible apply ev_ixT) <;> walk_at "ev")
  | ((with_reducible apply ev_ixS) <;> walk_at "ev")
  | ((with_reducible apply ev_len') <;> walk_at "ev")
  | ((with_reducible apply et_test) <;> walk_at "ev")
  | ((with_reducible apply et_and) <;> walk_at "ev")
  | ((with_reducible apply et_or) <;> walk_at "ev")
  | ((with_reducible apply et_not) <;> walk_at "ev")
  | ((with_reducible apply et_B) <;> walk_at "ev")
  | ((with_reducible apply el_lst) <;> walk_at "ev")
  | ((with_reducible apply eu_tup) <;> walk_at "ev")
  | ((with_reducible apply ea_cons) <;> walk_at "ev")
  | with_reducible exact ea_nil
  | with_reducible assumption
  | ((with_reducible apply ex_l' ; assumption) ; walk_at "ex")
  | ((with_reducible apply ex_t' ; assumption) ; walk_at "ex")
  | (intro _ ; walk_at "ev")
  | (with_reducible first | exact atI_hd | exact at_kind | exact at2s | exact at3s | exact at3i)
  | (first | exact rfl | exact Nat.le_of_ble_eq_true rfl | exact ⟨by decide, by decide⟩ | decide | exact Or.inl ⟨by omega, by omega⟩ | exact Or.inr ⟨by omega, by omega⟩ | omega)
  | skip)
local macro_rules | `(tactic| walk_at "ex") => `(tactic| first
  | assumption
  | exact Ex.refl _
  | (refine' Ex.trans ?_ (by assumption) ; walk_at "ex"))
local macro_rules | `(tactic| walk_at "row") => `(tactic| first
  | (with_reducible exact er_nil)
  | ((with_reducible apply er_cons) <;> walk_at "row")
  | (((with_reducible apply er_var) ; rfl) ; walk_at "isrow")
  | (((with_reducible apply elr_var) ; rfl) ; walk_at "isrow")
  | ((with_reducible apply elr_cat) <;> walk_at "row")
  | ((with_reducible apply elr_lst) <;> walk_at "row")
  | ((with_reducible apply er_fin) <;> walk_at "ev")
  | ((with_reducible apply er_lendT) <;> walk_at "ev")
  | ((with_reducible apply er_lendW) <;> walk_at "ev")
  | ((with_reducible apply er_pick) <;> walk_at "ev")
  | ((with_reducible apply er_either) <;> walk_at "ev")
  | ((with_reducible apply er_or) <;> walk_at "ev")
  | ((with_reducible apply er_again) <;> walk_at "ev")
  | ((with_reducible apply er_back) <;> walk_at "ev")
  | ((with_reducible apply er_look) <;> walk_at "ev")
  | ((with_reducible apply er_change) <;> walk_at "ev")
  | exact Nat.le_of_ble_eq_true rfl
  | skip)
local macro_rules | `(tactic| walk_at "isrow") => `(tactic| first
  | assumption
  | (refine IsRow.up ?_ (by assumption) ; walk_at "ex")
  | (refine LRows.up ?_ (by assumption) ; walk_at "ex"))

local macro_rules | `(tactic| walk_at "ev") => `(tactic| (((with_reducible apply ev_tag) ; rfl) ; walk_at "isrow"))
abbrev s_picked : Stmt := topS 6
theorem sc_picked : FnScope ["row", "thing"] ["row", "thing"] (defScope s_picked) := ⟨rfl, rfl, rfl, by decide +kernel, rfl, by decide +kernel, by decide +kernel⟩
abbrev s_lent : Stmt := topS 7
theorem sc_lent : FnScope ["row", "held", "hand", "kind", "source", "word", "source_kind", "thing", "_", "out", "lender"] ["row", "held"] (defScope s_lent) := ⟨rfl, rfl, rfl, by decide +kernel, rfl, by decide +kernel, by decide +kernel⟩
abbrev s_given_back : Stmt := topS 8
theorem sc_given_back : FnScope ["held", "hand", "gone", "left", "word", "kind", "thing", "lender", "out"] ["held", "hand"] (defScope s_given_back) := ⟨rfl, rfl, rfl, by decide +kernel, rfl, by decide +kernel, by decide +kernel⟩
section
variable {K : PySem.W.Frag} {σ : L2.St} {H : Hp} {te ta tb : TE} {D : Ends} {tz : TS}
/-- t[1:] -/
theorem eu_sl1 {p : Addr} {x : V} {xs : List V} (h : Ev te σ H (.ref p)) (hp : H p = some (.tup (x :: xs))) : EvU (tSl (rSlA K) te (tPart (tC (.int 1))) tNoPart) σ H xs := fun H1 e Q q =>
  h H1 e _ fun H2 e2 => ⟨1, rfl, p, x :: xs, rfl, st_of (e2 _ _ (e _ _ hp)), fun z => by
      have h1 := z.1
      have h2 : HT.sIx (x :: xs).length 0 (some 1) = min 1 (x :: xs).length := HT.sIx_nat _ _ 1
      rw [h2, List.length_cons] at h1
      omega, fun z r hr => by
      have hc : cutV (x :: xs) (some 1) none = xs := by
        unfold cutV
        have h2 : HT.sIx (x :: xs).length 0 (some 1) = min 1 (x :: xs).length := HT.sIx_nat _ _ 1
        rw [h2, HT.sIx_none, List.length_cons, Nat.min_eq_left (by omega)]
        show List.take _ xs = xs
        exact List.take_of_length_le (by omega)
      rw [hc]
      exact q r _ (fresh_back e2 hr) (e2.trans (Ex.new hr)) upd_same⟩
theorem eu_tupleL {p : Addr} {xs : List V} (h : Ev te σ H (.ref p)) (hp : SqL K H p xs) : EvU (tCB (rTupS K) (tCons te tNil)) σ H xs := fun H1 e Q q =>
  h H1 e _ fun H2 e2 => ⟨p, xs, rfl, .inl ⟨ex_l (e.trans e2) hp, fun l hl => q l _ (fresh_back e2 hl) (e2.trans (Ex.new hl)) upd_same⟩⟩
/-- a, b, c = t -/
theorem q_un3 {xs : List V} {a b c : V} {i j k : Nat} (h : EvU te σ H [a, b, c]) (kk : ∀ H1, Ex H H1 → tz D (((σ.set i (some a)).set j (some b)).set k (some c)) H1) : tSeq (tAsg te (gTup K 3 (gCons (gName i) (gCons (gName j) (gCons (gName k) gNil))))) tz D σ H :=
  h H (Ex.refl H) _ fun p H1 _ e hp => ⟨p, _, rfl, st_of hp, rfl, a, [b, c], rfl, b, [c], rfl, c, [], rfl, rfl, kk H1 e⟩
/-- at, held = standing -/
theorem q_unS {x : V} {n : Int} {es : List Ent} {i j : Nat} (h : Ev te σ H x) (hx : AStand n es x H) (kk : ∀ v H1, Ex H H1 → AHeld es v H1 → tz D ((σ.set i (some (.int n))).set j (some v)) H1) : tSeq (tAsg te (gTup K 2 (gCons (gName i) (gCons (gName j) gNil)))) tz D σ H :=
  h H (Ex.refl H) _ fun H1 e => by
    obtain ⟨p, q, vs, rfl, h1, h2, h3⟩ := hx
    exact ⟨p, _, rfl, st_of (e _ _ h1), rfl, .int n, [.ref q], rfl, .ref q, [], rfl, rfl, kk _ H1 e ⟨q, vs, rfl, e _ _ h2, h3.up e⟩⟩
/-- for w, k, t, s, o in held -/
theorem g_ent {x : V} {e : Ent} {a b c d f : Nat} {Q : L2.St → Hp → Prop} (hx : IsEnt H x e) (k : Q (((((σ.set a (some (.str e.w))).set b (some (.str e.k))).set c (some (.int e.t))).set d (some (.str e.s))).set f (some (.bl e.o))) H) :
    gTup K 5 (gCons (gName a) (gCons (gName b) (gCons (gName c) (gCons (gName d) (gCons (gName f) gNil))))) x σ H Q := by
  obtain ⟨p, rfl, hp⟩ := hx
  exact ⟨p, _, rfl, st_of hp, rfl, _, _, rfl, _, _, rfl, _, _, rfl, _, _, rfl, _, _, rfl, rfl, k⟩
end
section
variable {P : Program} {w : World} {K : PySem.W.Frag} {mg : Str → Option Value} {base : Heap}
def spPicked : Sp := fun vs H Q _ => ∃ (y : V) (t : Int) (u : Str) (ts : List Int), vs = [y, .int t] ∧ IsRow H y (.pick u ts) ∧ Ret (fun v H2 => IsEnt H2 v ⟨u, "pick", t, "", true⟩) H Q
theorem ok_picked (D : Dn K mg "picked" s_picked ["row", "thing"]) : Has P w K mg base "picked" 1 ["row", "thing"] spPicked := by
  refine D.ok sc_picked (fun vs H Q E h => ?_) (fun f cdv A outer st H vs Q E hr h => ?_)
  · obtain ⟨y, t, u, ts, rfl, _⟩ := h
    rfl
  · obtain ⟨y, t, u, ts, rfl, hy, q⟩ := h
    obtain ⟨p, r, rfl, h1, h2⟩ := hy
    refine ⟨_, (pss_one (ps_ret (pe_tup (pa_cons (pe_ix (show IxR _ (rIxT K) from ix_tup) (pv 0) pe_int (fun _ _ => rfl)) (pa_cons pe_str (pa_cons (pv 1) (pa_cons pe_str (pa_cons pe_bl pa_nil)))))))), ?_⟩
    show (_ : L2.TS) _ [_, _] _
    refine s_retP (ep_ent5 ?_) (fun v H1 e1 hv => q v H1 e1 hv)
    have hT : SqT K H p [.str "pick", .str u, .ref r] := st_of h1
    exact ea_cons (ev_ixT (ev_var rfl) hT ev_c (atI_nat (j := 1) rfl)) (ea_cons ev_c (ea_cons (ev_var rfl) (ea_cons ev_c (ea_cons ev_c ea_nil))))
def spPLent (K : PySem.W.Frag) : Sp := fun vs H Q _ => ∃ (y x : V) (es : List Ent) (h k : Str) (s : Src), vs = [y, x] ∧ AHeld es x H ∧ IsRow H y (.lend h k s) ∧ (∀ u, s = .word u → ∃ e ∈ es, e.w = u) ∧ es.length ≤ 1000 ∧ Ret (fun v H2 => IsEnt H2 v (lentE es h k s)) H Q
theorem ok_plent (D : Dn K mg "lent" s_lent ["row", "held"]) : Has P w K mg base "lent" 1 ["row", "held"] (spPLent K) := by
  refine D.ok sc_lent (fun vs H Q E h => ?_) (fun f cdv A outer st H vs Q E hr h => ?_)
  · obtain ⟨y, x, es, h, k, s, rfl, _⟩ := h
    rfl
  · obtain ⟨y, x, es, h, k, s, rfl, hx, hy, hmt, hlen, q⟩ := h
    obtain ⟨p, hv, rfl, hp, hE⟩ := hx
    obtain ⟨py, rfl, hpy⟩ := hy
    have hle := hE.len
    refine ⟨_, (pss_cons (ps_asg (pe_slice sl_tupA (pv 0) (po_some pe_int) po_none) (pg_tup rfl (pgs_cons (pg_name (i := 2) sc_lent.nd rfl (Or.inl rfl)) (pgs_cons (pg_name (i := 3) sc_lent.nd rfl (Or.inl rfl)) (pgs_cons (pg_name (i := 4) sc_lent.nd rfl (Or.inl rfl)) pgs_nil))))) (pss_cons (ps_for PassesOwn.never rfl (pi_tup (pv 1)) (pg_tup rfl (pgs_cons (pg_name (i := 5) sc_lent.nd rfl (Or.inl rfl)) (pgs_cons (pg_name (i := 6) sc_lent.nd rfl (Or.inl rfl)) (pgs_cons (pg_name (i := 7) sc_lent.nd rfl (Or.inl rfl)) (pgs_cons (pg_name (i := 8) sc_lent.nd rfl (Or.inl rfl)) (pgs_cons (pg_name (i := 9) sc_lent.nd rfl (Or.inl rfl)) pgs_nil)))))) (pss_one (ps_if (pt_cmpR op_eq (pv 5) (pv 4) (nomark _)) (pss_cons (ps_set (i := 10) sc_lent.nd rfl (Or.inl rfl) (pe_ifExp (pt_cmpR op_eq (pv 6) pe_str (nomark _)) pe_str (pv 5))) (pss_one (ps_ret (pe_tup (pa_cons (pv 2) (pa_cons (pv 3) (pa_cons (pv 7) (pa_cons (pv 10) (pa_cons (pv 9) pa_nil))))))))) pss_nil))) (pss_one (ps_ret (pe_tup (pa_cons (pv 2) (pa_cons (pv 3) (pa_cons (pv 4) (pa_cons pe_str (pa_cons pe_bl pa_nil)))))))))), ?_⟩
    show (_ : L2.TS) _ [_, _, _, _, _, _, _, _, _, _, _] _
    refine q_un3 (xs := []) (eu_sl1 (ev_var rfl) hpy) (fun H1 e1 => ?_)
    show (_ : L2.TS) _ [_, _, _, _, _, _, _, _, _, _, _] _
    refine q_forT (K := K) (a := p) (xs := hv) (ev_var rfl) (ex_t e1 (st_of hp)) (fun i σ' H' => Ex H H' ∧ (∀ e ∈ es.take i, V.str e.w ≠ s.v) ∧ ∃ a b c d f g, σ' = [some (.ref py), some (.ref p), some (.str h), some (.str k), some s.v, a, b, c, d, f, g]) ?_ (fun i σ' H' _ h => ex_t h.1 (st_of hp)) ?_ ?_
    · intro H2 e2
      exact ⟨e1.trans e2, (fun e he => by cases he), none, none, none, none, none, none, rfl⟩
    · rintro i x σ' H' hi ⟨eH, hno, a, b, c, d, f, g, rfl⟩
      obtain ⟨e, he, hX⟩ := hE.at hi
      refine g_ent (hX.up eH) ?_
      dsimp only [List.set]
      refine s_when (b := decide (V.str e.w = s.v)) ?_ (fun hb H2 e2 => ?_) (fun hb H2 e2 => ?_)
      · refine et_test (ev_eq (ev_var rfl) (ev_var rfl) ?_)
        cases s <;> rfl
      · have hb := of_decide_eq_true hb
        cases s with
        | thing n => cases hb
        | word u =>
          have hw : e.w = u := V.str.inj hb
          have hlk : lookE es u = some e := by
            unfold lookE
            have hil := (List.getElem?_eq_some_iff.mp he).1
            rw [← List.take_append_drop i es, List.find?_append]
            have h1 : (es.take i).find? (fun e => decide (e.w = u)) = none := List.find?_eq_none.mpr fun z hz => by
              have := hno z hz
              rw [decide_eq_false (fun y => this (by rw [y]; rfl))]
              decide
            rw [h1, List.drop_eq_getElem_cons hil, List.find?_cons]
            have h2 : es[i] = e := (List.getElem?_eq_some_iff.mp he).2
            rw [h2, decide_eq_true hw]
            rfl
          refine q_asg (v := .str (if e.k = "pick" then "" else e.w)) ?_ (fun H3 e3 => ?_)
          · refine ev_if (b := decide (e.k = ("pick" : Str))) (et_is (et_test (ev_eq (ev_var rfl) ev_c rfl)) (dec_str _ _)) (fun hk => ?_) (fun hk => ?_)
            · rw [if_pos (of_decide_eq_true hk)]
              exact ev_c
            · rw [if_neg (of_decide_eq_false hk)]
              exact ev_var rfl
          dsimp only [List.set]
          refine s_retP (ep_ent5 (w := h) (k := k) (t := e.t) (s := if e.k = "pick" then "" else e.w) (o := e.o) ?_) (fun v H4 e4 hv => q v H4 (eH.trans (e2.trans (e3.trans e4))) ?_)
          · exact ea_cons (ev_var rfl) (ea_cons (ev_var rfl) (ea_cons (ev_var rfl) (ea_cons (ev_var rfl) (ea_cons (ev_var rfl) ea_nil))))
          · unfold lentE
            dsimp only
            rw [hlk]
            exact hv
      · have hb := of_decide_eq_false hb
        refine ⟨eH.trans e2, fun z hz => ?_, _, _, _, _, _, _, rfl⟩
        rw [List.take_add_one, he] at hz
        rcases List.mem_append.mp hz with hz | hz
        · exact hno z hz
        · rcases List.mem_singleton.mp hz with rfl
          exact hb
    · rintro σ' H' ⟨eH, hno, a, b, c, d, f, g, rfl⟩
      rw [hle, List.take_length] at hno
      cases s with
      | word u =>
        obtain ⟨e, he, hw⟩ := hmt u rfl
        exact absurd (by rw [hw]; rfl) (hno e he)
      | thing n =>
        refine s_retP (ep_ent5 (w := h) (k := k) (t := n) (s := "") (o := true) ?_) (fun v H4 e4 hv => q v H4 (eH.trans e4) hv)
        exact ea_cons (ev_var rfl) (ea_cons (ev_var rfl) (ea_cons (ev_var rfl) (ea_cons ev_c (ea_cons ev_c ea_nil))))
def spGBack (K : PySem.W.Frag) : Sp := fun vs H Q _ => ∃ (x : V) (u : Str) (es : List Ent), vs = [x, .str u] ∧ AHeld es x H ∧ es.length ≤ 900 ∧ Ret (AHeld (backM u es)) H Q
theorem ok_gback (D : Dn K mg "given_back" s_given_back ["held", "hand"]) (T : Blt mg) : Has P w K mg base "given_back" 1 ["held", "hand"] (spGBack K) := by
  refine D.okC sc_given_back (fun vs H Q E h => ?_) (fun f cdv A outer st H vs Q E hcd hr h => ?_)
  · obtain ⟨x, u, es, rfl, _⟩ := h
    rfl
  · obtain ⟨x, u, es, rfl, hx, hlen, q⟩ := h
    obtain ⟨p, hv, rfl, hp, hE⟩ := hx
    have hle := hE.len
    refine ⟨_, (pss_cons (ps_set (i := 2) sc_given_back.nd rfl (Or.inl rfl) (pe_set1 hcd (pv 1))) (pss_cons (ps_set (i := 3) sc_given_back.nd rfl (Or.inl rfl) (pe_lst pa_nil)) (pss_cons (ps_for PassesOwn.never rfl (pi_tup (pv 0)) (pg_tup rfl (pgs_cons (pg_name (i := 4) sc_given_back.nd rfl (Or.inl rfl)) (pgs_cons (pg_name (i := 5) sc_given_back.nd rfl (Or.inl rfl)) (pgs_cons (pg_name (i := 6) sc_given_back.nd rfl (Or.inl rfl)) (pgs_cons (pg_name (i := 7) sc_given_back.nd rfl (Or.inl rfl)) (pgs_cons (pg_name (i := 8) sc_given_back.nd rfl (Or.inl rfl)) pgs_nil)))))) (pss_one (ps_if (PW.pt (pw_or (pt_cmpR or_sinK (pv 4) (pv 2) (by rfl)) (pw_or1 (pt_cmpR or_sinK (pv 7) (pv 2) (by rfl))))) (pss_cons (ps_expr (pe_saddK (pv 2) (pa_cons (pv 4) pa_nil))) (pss_one (ps_expr (pe_bm PySem.F.plainAttrs_list PySem.F.slot_list_append PySem.F.type_list_append mt_append (pv 3) (pa_cons (pe_tup (pa_cons (pv 4) (pa_cons (pv 5) (pa_cons (pv 6) (pa_cons (pv 7) (pa_cons pe_bl pa_nil)))))) pa_nil))))) (pss_one (ps_expr (pe_bm PySem.F.plainAttrs_list PySem.F.slot_list_append PySem.F.type_list_append mt_append (pv 3) (pa_cons (pe_tup (pa_cons (pv 4) (pa_cons (pv 5) (pa_cons (pv 6) (pa_cons (pv 7) (pa_cons (pv 8) pa_nil)))))) pa_nil))))))) (pss_one (ps_ret (pe_callTy (show CallR _ _ (rTupS K) from call_tuple_of) (by rfl) T.tuple_ (by decide +kernel) (pa_cons (pv 3) pa_nil))))))), ?_⟩
    show (_ : L2.TS) _ [_, _, _, _, _, _, _, _, _] _
    refine q_set1 (P := P) (w := w) (x := u) (fun H1 => ev_var rfl) (fun pg H1 hpg e1 h1 => ?_)
    show (_ : L2.TS) _ [_, _, _, _, _, _, _, _, _] _
    refine q_asgL (xs := []) (el_lst ea_nil (by decide)) (fun pl H2 hpl e2 h2 => ?_)
    show (_ : L2.TS) _ [_, _, _, _, _, _, _, _, _] _
    have hbl : H pl = none := fresh_back e1 hpl
    have ngl : pg ≠ pl := ne_of_none h1 hpl
    have hT2 : SqT K H2 p hv := ex_t (e1.trans e2) (st_of hp)
    refine q_forT (K := K) (a := p) (xs := hv) (ev_var rfl) hT2 (fun i σ' H' => Ex H H' ∧ (∃ (S : Key → Bool) (n : Nat), H' pg = some (SetK P w pg S n) ∧ n ≤ i + 1 ∧ ∀ z : Str, S (Sum.inr z) = decide (z ∈ (bkS u es i).1)) ∧ (∃ lv, H' pl = some (.lst lv) ∧ Ents H' lv (bkS u es i).2) ∧
      ∃ a b c d f, σ' = [some (.ref p), some (.str u), some (.ref pg), some (.ref pl), a, b, c, d, f]) ?_ (fun i σ' H' _ h => ex_t h.1 (st_of hp)) ?_ ?_
    · intro H3 e3
      refine ⟨e1.trans (e2.trans e3), ⟨_, 1, e3 _ _ (e2 _ _ h1), Nat.le_refl _, fun z => ?_⟩, ⟨[], e3 _ _ h2, .nil⟩, none, none, none, none, none, rfl⟩
      show decide ((Sum.inr z : Key) = Sum.inr u) = decide (z ∈ [u])
      by_cases hz : z = u
      · rw [hz, decide_eq_true rfl, decide_eq_true List.mem_cons_self]
      · rw [decide_eq_false (fun y => hz (Sum.inr.inj y)), decide_eq_false (fun y => hz (List.mem_singleton.mp y))]
    · rintro i x σ' H' hi ⟨eH, ⟨S, n, hS, hn, hSw⟩, ⟨lv, hl, hL⟩, a, b, c, d, f, rfl⟩
      obtain ⟨e, he, hX⟩ := hE.at hi
      have hil := (List.getElem?_eq_some_iff.mp he).1
      have hbl2 := (bkS_len u es i).2
      have hll := hL.len
      refine g_ent (hX.up eH) ?_
      dsimp only [List.set]
      have hbk := bkS_next (w := u) he
      refine s_if (b := decide (e.w ∈ (bkS u es i).1) || decide (e.s ∈ (bkS u es i).1)) ?_ (fun hb H3 e3 => ?_) (fun hb H3 e3 => ?_)
      · rw [← hSw, ← hSw]
        exact et_or (et_test (ev_inK (ev_var rfl) (ev_var rfl) hS)) (fun _ => et_test (ev_inK (ev_var rfl) (ev_var rfl) hS))
      · simp only [Bool.or_eq_true, decide_eq_true_eq] at hb
        rw [if_pos hb] at hbk
        refine q_saddK (P := P) (w := w) (p := pg) (S := S) (n := n) (x := e.w) (e3 _ _ hS) (by omega) (ev_var rfl) (ev_var rfl) (fun H4 e4 => ?_)
        have e04 := e3.trans e4
        have hl4 : (upd H4 pg (SetK P w pg (fun j => S j || decide (j = Sum.inr e.w)) (if S (Sum.inr e.w) = true then n else n + 1))) pl = some (.lst lv) := by rw [upd_ne ngl.symm]; exact e04 _ _ hl
        have hT4 : ExT H' (upd H4 pg (SetK P w pg (fun j => S j || decide (j = Sum.inr e.w)) (if S (Sum.inr e.w) = true then n else n + 1))) := fun z xs hz => by rw [upd_ne (ne_of hz hS (fun y => nomatch y))]; exact e04 _ _ hz
        have x4 : Ex H (upd H4 pg (SetK P w pg (fun j => S j || decide (j = Sum.inr e.w)) (if S (Sum.inr e.w) = true then n else n + 1))) := Ex.mut (eH.trans e04) hpg
        have hS4 : (upd H4 pg (SetK P w pg (fun j => S j || decide (j = Sum.inr e.w)) (if S (Sum.inr e.w) = true then n else n + 1))) pg = some (SetK P w pg (fun j => S j || decide (j = Sum.inr e.w)) (if S (Sum.inr e.w) = true then n else n + 1)) := upd_same
        generalize upd H4 pg (SetK P w pg (fun j => S j || decide (j = Sum.inr e.w)) (if S (Sum.inr e.w) = true then n else n + 1)) = G4 at *
        refine s_appU (l := pl) (xs := lv) (ys := [.str e.w, .str e.k, .int e.t, .str e.s, .bl false]) hl4 (ev_var rfl) ?_ (by omega) (fun pt H5 hpt e5 h5 => ?_)
        · exact eu_tup (ea_cons (ev_var rfl) (ea_cons (ev_var rfl) (ea_cons (ev_var rfl) (ea_cons (ev_var rfl) (ea_cons ev_c ea_nil))))) (Nat.le_of_ble_eq_true rfl)
        · dsimp only
          refine ⟨Ex.mut (x4.trans e5) hbl, ⟨fun j => S j || decide (j = Sum.inr e.w), if S (Sum.inr e.w) = true then n else n + 1, ?_, ?_, fun z => ?_⟩, ⟨_, upd_same, ?_⟩, _, _, _, _, _, rfl⟩
          · rw [upd_ne ngl]; exact e5 _ _ hS4
          · show (if S (Sum.inr e.w) = true then n else n + 1) ≤ i + 1 + 1
            split <;> omega
          · rw [hbk]
            show (S (Sum.inr z) || decide ((Sum.inr z : Key) = Sum.inr e.w)) = decide (z ∈ (bkS u es i).1 ++ [e.w])
            rw [hSw]
            by_cases h1 : z ∈ (bkS u es i).1
            · rw [decide_eq_true h1, decide_eq_true (List.mem_append_left _ h1)]
              rfl
            · rw [decide_eq_false h1]
              by_cases h2 : z = e.w
              · rw [h2, decide_eq_true rfl, decide_eq_true (List.mem_append_right _ List.mem_cons_self)]
                rfl
              · rw [decide_eq_false (fun y => h2 (Sum.inr.inj y)), decide_eq_false (fun y => (List.mem_append.mp y).elim h1 (fun y => h2 (List.mem_singleton.mp y)))]
                rfl
          · rw [hbk]
            have xt : ExT H5 (upd H5 pl (.lst (lv ++ [.ref pt]))) := ExT.lst (e5 _ _ hl4)
            exact Ents.append ((hL.upT (hT4.trans (ExT.of e5))).upT xt) (.cons ⟨pt, rfl, xt _ _ h5⟩ .nil)
      · simp only [Bool.or_eq_false_iff, decide_eq_false_iff_not] at hb
        rw [if_neg (fun z => z.elim hb.1 hb.2)] at hbk
        refine s_appU (l := pl) (xs := lv) (ys := e.vs) (e3 _ _ hl) (ev_var rfl) ?_ (by omega) (fun pt H5 hpt e5 h5 => ?_)
        · exact eu_tup (ea_cons (ev_var rfl) (ea_cons (ev_var rfl) (ea_cons (ev_var rfl) (ea_cons (ev_var rfl) (ea_cons (ev_var rfl) ea_nil))))) (Nat.le_of_ble_eq_true rfl)
        · dsimp only
          have e35 := e3.trans e5
          refine ⟨Ex.mut (eH.trans e35) hbl, ⟨S, n, ?_, by omega, fun z => ?_⟩, ⟨_, upd_same, ?_⟩, _, _, _, _, _, rfl⟩
          · rw [upd_ne ngl]; exact e35 _ _ hS
          · rw [hbk]; exact hSw z
          · rw [hbk]
            have xt : ExT H5 (upd H5 pl (.lst (lv ++ [.ref pt]))) := ExT.lst (e35 _ _ hl)
            exact Ents.append ((hL.up e35).upT xt) (.cons ⟨pt, rfl, xt _ _ h5⟩ .nil)
    · rintro σ' H' ⟨eH, _, ⟨lv, hl, hL⟩, a, b, c, d, f, rfl⟩
      rw [hle] at hL
      refine s_retU (eu_tupleL (ev_var rfl) (sq_of hl)) (fun pz H2 hpz e2 h2 => q _ H2 (eH.trans e2) ⟨pz, lv, rfl, h2, hL.up e2⟩)
end
end BD
namespace BD
open PySem PySem.Spec PyProof.Rows L2 Evl
local macro_rules | `(tactic| walk_at "ev") => `(tactic| first
  | ((with_reducible apply ev_var) ; rfl)
  | with_reducible exact ev_c
  | ((with_reducible apply ev_I0) <;> walk_at "ev")
  | ((with_reducible apply ev_e9) <;> walk_at "ev")
  | ((with_reducible apply ev_I) <;> walk_at "ev")
  | ((with_reducible apply ev_eq) <;> walk_at "ev")
  | ((with_reducible apply ev_ne) <;> walk_at "ev")
  | ((with_reducible apply ev_neg) <;> walk_at "ev")
  | ((with_reducible apply ev_ixN) <;> walk_at "ev")
  | ((with_reducible apply ev_ixL) <;> walk_at "ev")
  | ((with_reducible apply ev_inN) <;> walk_at "ev")
  | ((with_reducible apply ev_inT) <;> walk_at "ev")
  | ((with_reducible apply ev_ixT) <;> walk_at "ev")
  | ((with_reducible apply ev_ixS) <;> walk_at "ev")
  | ((with_reducible apply ev_len') <;> walk_at "ev")
  | ((with_reducible apply et_test) <;> walk_at "ev")
  | ((with_reducible apply et_and) <;> walk_at "ev")
  | ((with_reducible apply et_or) <;> walk_at "ev")
  | ((with_reducible apply et_not) <;> walk_at "ev")
  | ((with_reducible apply et_B) <;> walk_at "ev")
  | ((with_reducible apply el_lst) <;> walk_at "ev")
  | ((with_reducible apply eu_tup) <;> walk_at "ev")
  | ((with_reducible apply ea_cons) <;> walk_at "ev")
  | with_reducible exact ea_nil
  | with_reducible assumption
  | ((with_reducible apply ex_l' ; assumption) ; walk_at "ex")
  | ((with_reducible apply ex_t' ; assumption) ; walk_at "ex")
  | (intro _ ; walk_at "ev")
  | (with_reducible first | exact atI_hd | exact at_kind | exact at2s | exact at3s | exact at3i)
  | (first | exact rfl | exact Nat.le_of_ble_eq_true rfl | exact ⟨by decide, by decide⟩ | decide | exact Or.inl ⟨by omega, by omega⟩ | exact Or.inr ⟨by omega, by omega⟩ | omega)
  | skip)
local macro_rules | `(tactic| walk_at "ex") => `(tactic| first
  | assumption
  | exact Ex.refl _
  | (refine' Ex.trans ?_ (by assumption) ; walk_at "ex"))
local macro_rules | `(tactic| walk_at "row") => `(tactic| first
  | (with_reducible exact er_nil)
  | ((with_reducible apply er_cons) <;> walk_at "row")
  | (((with_reducible apply er_var) ; rfl) ; walk_at "isrow")
  | (((with_reducible apply elr_var) ; rfl) ; walk_at "isrow")
  | ((with_reducible apply elr_cat) <;> walk_at "row")
  | ((with_reducible apply elr_lst) <;> walk_at "row")
  | ((with_reducible apply er_fin) <;> walk_at "ev")
  | ((with_reducible apply er_lendT) <;> walk_at "ev")
  | ((with_reducible apply er_lendW) <;> walk_at "ev")
  | ((with_reducible apply er_pick) <;> walk_at "ev")
  | ((with_reducible apply er_either) <;> walk_at "ev")
  | ((with_reducible apply er_or) <;> walk_at "ev")
  | ((with_reducible apply er_again) <;> walk_at "ev")
  | ((with_reducible apply er_back) <;> walk_at "ev")
  | ((with_reducible apply er_look) <;> walk_at "ev")
  | ((with_reducible apply er_change) <;> walk_at "ev")
  | exact Nat.le_of_ble_eq_true rfl
  | skip)
local macro_rules | `(tactic| walk_at "isrow") => `(tactic| first
  | assumption
  | (refine IsRow.up ?_ (by assumption) ; walk_at "ex")
  | (refine LRows.up ?_ (by assumption) ; walk_at "ex"))

local macro_rules | `(tactic| walk_at "ev") => `(tactic| (((with_reducible apply ev_tag) ; rfl) ; walk_at "isrow"))
abbrev s_ended : Stmt := topS 9
theorem sc_ended : FnScope ["rows", "blocks", "standing", "at", "held", "home"] ["rows", "blocks", "standing"] (defScope s_ended) := ⟨rfl, rfl, rfl, by decide +kernel, rfl, by decide +kernel, by decide +kernel⟩
abbrev s_onward : Stmt := topS 10
theorem sc_onward : FnScope ["rows", "blocks", "standing", "at", "held", "row", "thing", "first"] ["rows", "blocks", "standing"] (defScope s_onward) := ⟨rfl, rfl, rfl, by decide +kernel, rfl, by decide +kernel, by decide +kernel⟩
abbrev s_chosen : Stmt := topS 11
theorem sc_chosen : FnScope ["standings", "choice"] ["standings", "choice"] (defScope s_chosen) := ⟨rfl, rfl, rfl, by decide +kernel, rfl, by decide +kernel, by decide +kernel⟩
/-! ### where a run may go on -/
def onM (rs : List Rw) (i : Nat) (es : List Ent) : List (Int × List Ent) := match rs[i]? with
  | some (.lend h k s) => [((i : Int) + 1, es ++ [lentE es h k s])]
  | some (.pick w ts) => ts.map fun t => ((i : Int) + 1, es ++ [⟨w, "pick", t, "", true⟩])
  | some .either => (brI rs i rs.length).map fun b => (b, es)
  | some .or => [(endUp rs (hm rs i).toNat rs.length, es)]
  | some .again => [(endUp rs i rs.length + 1, es), ((i : Int) + 1, es)]
  | some .fin => [if (rs.getD (hm rs i).toNat .fin).isAgain = true then (hm rs i, es) else if (rs.getD (hm rs i).toNat .fin).isEither = true then ((i : Int) + 1, es) else ((i : Int) + 1, es.dropLast)]
  | some (.back h) => [((i : Int) + 1, backM h es)]
  | _ => [((i : Int) + 1, es)]
theorem onM_len {rs : List Rw} {i : Nat} {es : List Ent} {r : Rw} (h : rs[i]? = some r) (ok : StepOk rs i es) : 0 < (onM rs i es).length := by
  unfold onM
  rw [h]
  cases r with
  | pick w ts => show 0 < (ts.map _).length; rw [List.length_map]; exact ok.pick w ts h
  | _ => exact Nat.succ_pos _
theorem onM_go {rs : List Rw} {i : Nat} {es : List Ent} {r : Rw} (h : rs[i]? = some r) (ok : StepOk rs i es) (c : Int) : (onM rs i es).getD (c % ((onM rs i es).length : Int)).toNat (0, []) = goM rs i es c := by
  have one : ∀ x : Int × List Ent, [x].getD (c % (([x] : List (Int × List Ent)).length : Int)).toNat (0, []) = x := fun x => by
    show [x].getD (c % (1 : Int)).toNat (0, []) = x
    rw [Int.emod_one]
    rfl
  have many : ∀ (ts : List Int) (f : Int → Int × List Ent), 0 < ts.length → (ts.map f).getD (c % ((ts.map f).length : Int)).toNat (0, []) = f (ts.getD (c % (ts.length : Int)).toNat 0) := fun ts f h0 => by
    rw [List.length_map]
    have h1 := Int.emod_nonneg c (show ((ts.length : Nat) : Int) ≠ 0 by omega)
    have h2 := Int.emod_lt_of_pos c (show (0 : Int) < ((ts.length : Nat) : Int) by omega)
    have h3 : (c % (ts.length : Int)).toNat < ts.length := by omega
    rw [List.getD_eq_getElem?_getD, List.getD_eq_getElem?_getD, List.getElem?_map, List.getElem?_eq_getElem h3]
    rfl
  unfold onM goM
  rw [h]
  cases r with
  | lend a b d => exact one _
  | pick w ts => exact many ts _ (ok.pick w ts h)
  | either => exact many _ _ (Nat.succ_pos _)
  | or => exact one _
  | again =>
    show [(endUp rs i rs.length + 1, es), ((i : Int) + 1, es)].getD (c % (2 : Int)).toNat (0, []) = if c % 2 = 0 then _ else _
    by_cases hc : c % 2 = 0
    · rw [if_pos hc, hc]
      rfl
    · rw [if_neg hc, show c % 2 = 1 by omega]
      rfl
  | fin => exact one _
  | back a => exact one _
  | look a => exact one _
  | change a => exact one _
theorem onM_ways {rs : List Rw} {i : Nat} {es : List Ent} {r : Rw} (h : rs[i]? = some r) : ((onM rs i es).length : Int) = (match rs[i]? with
  | some (.pick _ ts) => (ts.length : Int)
  | some .either => ((brI rs i rs.length).length : Int)
  | some .again => 2
  | _ => 1) := by
  unfold onM
  rw [h]
  cases r with
  | pick w ts => show ((ts.map _).length : Int) = _; rw [List.length_map]
  | either => show (((brI rs i rs.length).map _).length : Int) = _; rw [List.length_map]
  | _ => rfl
def StdsI (H : Hp) (vs : List V) (sts : List (Int × List Ent)) : Prop := Paired (fun x (st : Int × List Ent) => AStand st.1 st.2 x H) vs sts
theorem StdsI.upT {H H' : Hp} (e : ExT H H') : ∀ {vs : List V} {sts : List (Int × List Ent)}, StdsI H vs sts → StdsI H' vs sts
  | _, _, .nil => .nil
  | _, _, .cons r t => .cons (AStand.upT e r) (StdsI.upT e t)
theorem StdsI.up {H H' : Hp} (e : Ex H H') {vs : List V} {sts : List (Int × List Ent)} (h : StdsI H vs sts) : StdsI H' vs sts := h.upT (ExT.of e)
theorem StdsI.len {H : Hp} {vs : List V} {sts : List (Int × List Ent)} (h : StdsI H vs sts) : vs.length = sts.length := Paired.length h
theorem StdsI.get {H : Hp} : ∀ {vs : List V} {sts : List (Int × List Ent)} {i : Nat}, StdsI H vs sts → i < sts.length → ∃ x, vs[i]? = some x ∧ AStand (sts.getD i (0, [])).1 (sts.getD i (0, [])).2 x H
  | _, _, _, .nil, h => absurd h (Nat.not_lt_zero _)
  | _, _, 0, .cons r _, _ => ⟨_, rfl, r⟩
  | _, _, i + 1, .cons _ t, h => by
    obtain ⟨x, h1, h2⟩ := StdsI.get (i := i) t (by simpa using h)
    exact ⟨x, by simpa using h1, by simpa using h2⟩
section
variable {K : PySem.W.Frag} {σ : L2.St} {H : Hp} {te ta tb tl : TE} {D : Ends} {tz : TS}
/-- [a], [a, b] -/
theorem epl_one {st : Int × List Ent} (h : EvP te σ H (AStand st.1 st.2)) : EvPL (tLst (tCons te tNil)) σ H (fun us H2 => StdsI H2 us [st]) := fun H1 e Q q =>
  h H1 e _ fun v H2 e2 hv => ⟨by show 1 ≤ sizeLine; decide, fun p hp => q p [v] _ (fresh_back e2 hp) (e2.trans (Ex.new hp)) upd_same (.cons (hv.up (Ex.new hp)) .nil)⟩
theorem epl_two {st su : Int × List Ent} (h : EvP ta σ H (AStand st.1 st.2)) (h2 : EvP tb σ H (AStand su.1 su.2)) : EvPL (tLst (tCons ta (tCons tb tNil))) σ H (fun us H2 => StdsI H2 us [st, su]) := fun H1 e Q q =>
  h H1 e _ fun v H2 e2 hv => h2 H2 (e.trans e2) _ fun u H3 e3 hu => ⟨by show 2 ≤ sizeLine; decide, fun p hp => q p [v, u] _ (fresh_back (e2.trans e3) hp) ((e2.trans e3).trans (Ex.new hp)) upd_same (.cons ((hv.up e3).up (Ex.new hp)) (.cons (hu.up (Ex.new hp)) .nil))⟩
theorem s_retPL {R : List V → Hp → Prop} (h : EvPL te σ H R) (k : ∀ p us H1, H p = none → Ex H H1 → H1 p = some (.lst us) → R us H1 → D.rt (.ref p) H1) : tRet te D σ H :=
  h H (Ex.refl H) _ fun p us H1 hp e h1 hr => k p us H1 hp e h1 hr
/-- [e for x in t], e a standing -/
theorem epl_mapS {a : Addr} {xs : List V} {j : Nat} {ws : List Nat} (g : Nat → Int × List Ent) (h : Ev tl σ H (.ref a)) (hx : SqT K H a xs) (hz : xs.length ≤ 40000) (hw : ∀ x, wipe ((wipe σ ws).set j (some x)) ws = wipe σ ws)
    (he : ∀ i x H1, Ex H H1 → xs[i]? = some x → EvP te ((wipe σ ws).set j (some x)) H1 (AStand (g i).1 (g i).2)) : EvPL (tLc (iTup K tl) (gName j) tYes te ws) σ H (fun us H2 => StdsI H2 us ((List.range xs.length).map g)) := fun H0 e Q q => h H0 e _ fun H1 e1 => ⟨a, rfl, ⟨xs, ex_t (e.trans e1) hx⟩, fun Dl hD =>
  lc_tup (K := K) (a := a) (xs := xs) (fun i H' => H1 Dl = none ∧ Ex H1 H' ∧ ∃ acc, H' Dl = some (.lst acc) ∧ StdsI H' acc ((List.range i).map g)) ⟨hD, Ex.new hD, [], upd_same, .nil⟩ (fun i H' _ p => ex_t ((e.trans e1).trans p.2.1) hx)
    (fun i x H' hi p => ⟨hw x, by
      obtain ⟨p1, p2, acc, p3, p4⟩ := p
      have hil : i < xs.length := (List.getElem?_eq_some_iff.mp hi).1
      have hal : acc.length = i := by rw [p4.len, List.length_map, List.length_range]
      show te ((wipe σ ws).set j (some x)) H' fun y H4 => ∃ acc, H4 Dl = some (.lst acc) ∧ acc.length < sizeLine ∧ (H1 Dl = none ∧ Ex H1 (upd H4 Dl (.lst (acc ++ [y]))) ∧ ∃ acc2, (upd H4 Dl (.lst (acc ++ [y]))) Dl = some (.lst acc2) ∧ StdsI (upd H4 Dl (.lst (acc ++ [y]))) acc2 ((List.range (i + 1)).map g))
      refine he i x H' ((e.trans e1).trans p2) hi H' (Ex.refl H') _ fun y H4 e4 hy => ⟨acc, e4 _ _ p3, sz_lt (by omega), p1, Ex.mut (p2.trans e4) p1, acc ++ [y], upd_same, ?_⟩
      have x4 : ExT H4 (upd H4 Dl (.lst (acc ++ [y]))) := ExT.lst (e4 _ _ p3)
      rw [List.range_succ, List.map_append]
      exact paired_app ((p4.up e4).upT x4) (.cons (AStand.upT x4 hy) .nil)⟩) (fun H' p => by
      obtain ⟨p1, p2, acc, p3, p4⟩ := p
      exact q Dl acc H' (fresh_back e1 p1) (e1.trans p2) p3 p4)⟩
theorem epl_mapSL {a : Addr} {xs : List V} {j : Nat} {ws : List Nat} (g : Nat → Int × List Ent) (h : Ev tl σ H (.ref a)) (hx : SqL K H a xs) (hz : xs.length ≤ 40000) (hw : ∀ x, wipe ((wipe σ ws).set j (some x)) ws = wipe σ ws)
    (he : ∀ i x H1, Ex H H1 → xs[i]? = some x → EvP te ((wipe σ ws).set j (some x)) H1 (AStand (g i).1 (g i).2)) : EvPL (tLc (iList K tl) (gName j) tYes te ws) σ H (fun us H2 => StdsI H2 us ((List.range xs.length).map g)) := fun H0 e Q q => h H0 e _ fun H1 e1 => ⟨a, rfl, ⟨xs, ex_l (e.trans e1) hx⟩, fun Dl hD =>
  lc_list (K := K) (a := a) (xs := xs) (fun i H' => H1 Dl = none ∧ Ex H1 H' ∧ ∃ acc, H' Dl = some (.lst acc) ∧ StdsI H' acc ((List.range i).map g)) ⟨hD, Ex.new hD, [], upd_same, .nil⟩ (fun i H' _ p => ex_l ((e.trans e1).trans p.2.1) hx)
    (fun i x H' hi p => ⟨hw x, by
      obtain ⟨p1, p2, acc, p3, p4⟩ := p
      have hil : i < xs.length := (List.getElem?_eq_some_iff.mp hi).1
      have hal : acc.length = i := by rw [p4.len, List.length_map, List.length_range]
      show te ((wipe σ ws).set j (some x)) H' fun y H4 => ∃ acc, H4 Dl = some (.lst acc) ∧ acc.length < sizeLine ∧ (H1 Dl = none ∧ Ex H1 (upd H4 Dl (.lst (acc ++ [y]))) ∧ ∃ acc2, (upd H4 Dl (.lst (acc ++ [y]))) Dl = some (.lst acc2) ∧ StdsI (upd H4 Dl (.lst (acc ++ [y]))) acc2 ((List.range (i + 1)).map g))
      refine he i x H' ((e.trans e1).trans p2) hi H' (Ex.refl H') _ fun y H4 e4 hy => ⟨acc, e4 _ _ p3, sz_lt (by omega), p1, Ex.mut (p2.trans e4) p1, acc ++ [y], upd_same, ?_⟩
      have x4 : ExT H4 (upd H4 Dl (.lst (acc ++ [y]))) := ExT.lst (e4 _ _ p3)
      rw [List.range_succ, List.map_append]
      exact paired_app ((p4.up e4).upT x4) (.cons (AStand.upT x4 hy) .nil)⟩) (fun H' p => by
      obtain ⟨p1, p2, acc, p3, p4⟩ := p
      exact q Dl acc H' (fresh_back e1 p1) (e1.trans p2) p3 p4)⟩
theorem map_getD {α : Type} (ts : List Int) (f : Int → α) : (List.range ts.length).map (fun k => f (ts.getD k 0)) = ts.map f := by
  refine List.ext_getElem? fun i => ?_
  rw [List.getElem?_map, List.getElem?_map]
  by_cases h : i < ts.length
  · rw [List.getElem?_range h, List.getElem?_eq_getElem h]
    show some (f (ts.getD i 0)) = some (f ts[i])
    rw [List.getD_eq_getElem?_getD, List.getElem?_eq_getElem h]
    rfl
  · rw [List.getElem?_eq_none (by rw [List.length_range]; omega), List.getElem?_eq_none (by omega)]
    rfl
/-- the blocks' lists, read -/
theorem ev_around {C : Addr} {rs : List Rw} {Hb : Hp} {x : V} {i : Nat} (B : BlkC K C) (h : Ev ta σ H x) (hx : ABlk C rs Hb x H) (hi : Ev tb σ H (.int (i : Int))) (hl : i < rs.length) : Ev (tOp (rIxL K) (tFld K ta "around") tb) σ H (.int (hm rs i)) := by
  obtain ⟨p, rfl, dx, pa, pc, pf, kvs, h1, h2, h3, h4, h6, h7, h5⟩ := hx
  exact ev_ixL (ev_fld h h1 B.cl B.nA (flds_a pa pc pf)) (sq_of h2) hi (atI_nat (homesV_at hl))
theorem endsV_at {rs : List Rw} {i : Nat} {r : Rw} (h : rs[i]? = some r) (ho : r.opens = true) (n : Nat) : (endsV rs n)[i]? = some (.int (endUp rs i n)) := by
  have hl := (List.getElem?_eq_some_iff.mp h).1
  unfold endsV
  rw [List.getElem?_map, List.getElem?_range hl]
  show some (V.int (if opAt rs i = true then _ else _)) = _
  rw [if_pos (show opAt rs i = true by unfold opAt; rw [h]; exact ho)]
theorem ev_closing {C : Addr} {rs : List Rw} {Hb : Hp} {x : V} {i : Nat} {r : Rw} (B : BlkC K C) (h : Ev ta σ H x) (hx : ABlk C rs Hb x H) (hi : Ev tb σ H (.int (i : Int))) (hr : rs[i]? = some r) (ho : r.opens = true) : Ev (tOp (rIxL K) (tFld K ta "closing") tb) σ H (.int (endUp rs i rs.length)) := by
  obtain ⟨p, rfl, dx, pa, pc, pf, kvs, h1, h2, h3, h4, h6, h7, h5⟩ := hx
  exact ev_ixL (ev_fld h h1 B.cl B.nC (flds_c pa pc pf)) (sq_of h3) hi (atI_nat (endsV_at hr ho _))
theorem ev_firsts {C : Addr} {rs : List Rw} {Hb : Hp} {x : V} {i : Nat} (B : BlkC K C) (h : Ev ta σ H x) (hx : ABlk C rs Hb x H) (hi : Ev tb σ H (.int (i : Int))) (hr : rs[i]? = some .either) : ∃ q, Ev (tDGet (tFld K ta "firsts") tb) σ H (.ref q) ∧ H q = some (.lst (brV rs i rs.length)) := by
  obtain ⟨p, rfl, dx, pa, pc, pf, kvs, h1, h2, h3, h4, h6, h7, h5⟩ := hx
  obtain ⟨q, q1, q2, _⟩ := h5 i hr
  exact ⟨q, ev_dget (ev_fld h h1 B.cl B.nF (flds_f pa pc pf)) h4 hi q1, q2⟩
end
section
variable {P : Program} {w : World} {K : PySem.W.Frag} {mg : Str → Option Value} {base : Heap} {C : Addr}
def spEnded (K : PySem.W.Frag) (C : Addr) : Sp := fun vs H Q _ => ∃ (a : Addr) (xb x : V) (rv : List V) (rs : List Rw) (i : Nat) (es : List Ent) (Hb : Hp), vs = [.ref a, xb, x] ∧ SqL K H a rv ∧ Rows H rv rs ∧ ABlk C rs Hb xb H ∧ AStand (i : Int) es x H ∧ Sheet rs ∧ rs[i]? = some .fin ∧ rs.length ≤ 40000 ∧
  Ret (AStand (goM rs i es 0).1 (goM rs i es 0).2) H Q
theorem ok_ended (D : Dn K mg "ended" s_ended ["rows", "blocks", "standing"]) (B : BlkC K C) {a_NAMERS : Addr} (g_NAMERS : mg "NAMERS" = some (.ref a_NAMERS)) (hNM : ∀ H, SqT K H a_NAMERS [.str "lend", .str "pick"]) : Has P w K mg base "ended" 1 ["rows", "blocks", "standing"] (spEnded K C) := by
  refine D.ok sc_ended (fun vs H Q E h => ?_) (fun f cdv A outer st H vs Q E hr h => ?_)
  · obtain ⟨a, xb, x, rv, rs, i, es, Hb, rfl, _⟩ := h
    rfl
  · obtain ⟨a, xb, x, rv, rs, i, es, Hb, rfl, hS, hR, hB, hx, sh, hr1, hlen, q⟩ := h
    have hil := (List.getElem?_eq_some_iff.mp hr1).1
    obtain ⟨b, z, hz, hzo, hh, he⟩ := end_at sh.g hr1 rfl
    have hgz : rs.getD (hm rs i).toNat .fin = z := by
      rw [hh, Int.toNat_natCast, List.getD_eq_getElem?_getD, hz]
      rfl
    have hgo : goM rs i es 0 = if z.isAgain = true then ((b : Int), es) else if z.isEither = true then ((i : Int) + 1, es) else ((i : Int) + 1, es.dropLast) := by
      unfold goM
      rw [hr1]
      dsimp only
      rw [hgz, hh]
    rw [hgo] at q
    refine ⟨_, (pss_cons (ps_asg (pv 2) (pg_tup rfl (pgs_cons (pg_name (i := 3) sc_ended.nd rfl (Or.inl rfl)) (pgs_cons (pg_name (i := 4) sc_ended.nd rfl (Or.inl rfl)) pgs_nil)))) (pss_cons (ps_set (i := 5) sc_ended.nd rfl (Or.inl rfl) (pe_ix (show IxR _ (rIxL K) from ix_list) (pe_fld (pv 1) rfl) (pv 3) (fun _ _ => rfl))) (pss_cons (ps_if (pt_cmpR op_eq (pe_ix (show IxR _ (rIxT K) from ix_tup) (pe_ix (show IxR _ (rIxL K) from ix_list) (pv 0) (pv 5) (fun _ _ => rfl)) pe_int (fun _ _ => rfl)) pe_str (nomark _)) (pss_one (ps_ret (pe_tup (pa_cons (pv 5) (pa_cons (pv 4) pa_nil))))) pss_nil) (pss_cons (ps_if (pt_cmpR (show OpR _ _ (rIn K false) from op_in_seq) (pe_ix (show IxR _ (rIxT K) from ix_tup) (pe_ix (show IxR _ (rIxL K) from ix_list) (pv 0) (pv 5) (fun _ _ => rfl)) pe_int (fun _ _ => rfl)) (pe_glob (v := .ref a_NAMERS) rfl g_NAMERS rfl) (by rfl)) (pss_one (ps_ret (pe_tup (pa_cons (pe_op op_add (pv 3) pe_int) (pa_cons (pe_slice sl_tupA (pv 4) po_none (po_some (pe_un un_neg pe_int))) pa_nil))))) pss_nil) (pss_one (ps_ret (pe_tup (pa_cons (pe_op op_add (pv 3) pe_int) (pa_cons (pv 4) pa_nil))))))))), ?_⟩
    show (_ : L2.TS) _ [_, _, _, _, _, _] _
    refine q_unS (ev_var rfl) hx (fun v H1 e1 hv => ?_)
    show (_ : L2.TS) _ [_, _, _, _, _, _] _
    refine q_asg (v := .int (b : Int)) (ev_is (ev_around B (ev_var rfl) (hB.up e1) (ev_var rfl) hil) (by rw [hh])) (fun H2 e2 => ?_)
    show (_ : L2.TS) _ [_, _, _, _, _, _] _
    have e02 := e1.trans e2
    obtain ⟨y, hy, hY⟩ := hR.get hz
    have hS2 := ex_l e02 hS
    have hY2 := hY.up e02
    have hv2 := hv.up e2
    have hix : atI rv (b : Int) = some y := atI_nat hy
    obtain ⟨py, ys, rfl, hpy⟩ := hY2.tup
    have hPy : SqT K H2 py (.str z.tag :: ys) := st_of hpy
    have htag : ∀ H3, Ex H2 H3 → Ev (tOp (rIxT K) (tOp (rIxL K) (tVar 0) (tVar 5)) (tC (.int 0))) [some (.ref a), some xb, some x, some (.int (i : Int)), some v, some (.int (b : Int))] H3 (.str z.tag) := fun H3 e3 =>
      ev_ixT (ev_ixL (ev_var rfl) (ex_l e3 hS2) (ev_var rfl) hix) (ex_t e3 hPy) ev_c atI_hd
    refine q_when (b := z.isAgain) ?_ (fun hb H3 e3 => ?_) (fun hb H3 e3 => ?_)
    · have tg : decide (V.str z.tag = V.str "again") = z.isAgain := by cases z <;> rfl
      rw [← tg]
      exact et_test (ev_eq (htag H2 (Ex.refl H2)) ev_c rfl)
    · rw [if_pos hb] at q
      exact s_retP (ep_stand (ev_var rfl) (ep_heldvar rfl (hv2.up e3))) (fun u H4 e4 hu => q u H4 (e02.trans (e3.trans e4)) hu)
    · rw [if_neg (by rw [hb]; decide)] at q
      refine q_when (b := z.named) ?_ (fun hn H4 e4 => ?_) (fun hn H4 e4 => ?_)
      · rw [← tag_named]
        exact et_test (ev_inT (htag H3 e3) ev_c (hNM H3) rfl rfl)
      · rw [if_neg (by cases z <;> first | (cases hn; done) | exact (fun y => nomatch y))] at q
        refine s_retP (ep_stand (i := (i : Int) + 1) (ev_I0 (ev_var rfl) ev_c) (ep_dropT (ep_heldvar rfl (hv2.up (e3.trans e4))) (eo_some ?_))) (fun u H5 e5 hu => q u H5 (e02.trans (e3.trans (e4.trans e5))) hu)
        walk_at "ev"
      · rw [if_pos (by cases z <;> first | (cases hn; done) | (cases hb; done) | (cases hzo; done) | rfl)] at q
        exact s_retP (ep_stand (i := (i : Int) + 1) (ev_I0 (ev_var rfl) ev_c) (ep_heldvar rfl (hv2.up (e3.trans e4)))) (fun u H5 e5 hu => q u H5 (e02.trans (e3.trans (e4.trans e5))) hu)
def spOnward (K : PySem.W.Frag) (C : Addr) : Sp := fun vs H Q _ => ∃ (a : Addr) (xb x : V) (rv : List V) (rs : List Rw) (i : Nat) (es : List Ent) (r : Rw) (Hb : Hp), vs = [.ref a, xb, x] ∧ SqL K H a rv ∧ Rows H rv rs ∧ ABlk C rs Hb xb H ∧ AStand (i : Int) es x H ∧ Sheet rs ∧ Std rs i es ∧ rs[i]? = some r ∧ rs.length ≤ 40000 ∧
  ∀ p us H2, H p = none → Ex H H2 → H2 p = some (.lst us) → StdsI H2 us (onM rs i es) → Q (.ref p) H2
theorem ok_onward (D : Dn K mg "onward" s_onward ["rows", "blocks", "standing"]) (B : BlkC K C) (h_lent : Has P w K mg base "lent" 1 ["row", "held"] (spPLent K)) (h_picked : Has P w K mg base "picked" 1 ["row", "thing"] spPicked) (h_given_back : Has P w K mg base "given_back" 1 ["held", "hand"] (spGBack K)) (h_ended : Has P w K mg base "ended" 1 ["rows", "blocks", "standing"] (spEnded K C)) : Has P w K mg base "onward" 2 ["rows", "blocks", "standing"] (spOnward K C) := by
  refine D.ok sc_onward (fun vs H Q E h => ?_) (fun f cdv A outer st H vs Q E hr h => ?_)
  · obtain ⟨a, xb, x, rv, rs, i, es, r, Hb, rfl, _⟩ := h
    rfl
  · obtain ⟨a, xb, x, rv, rs, i, es, r, Hb, rfl, hS, hR, hB, hx, sh, hst, hr1, hlen, q⟩ := h
    have hil := (List.getElem?_eq_some_iff.mp hr1).1
    have ok := hst.ok sh
    have hel := hst.len sh
    refine ⟨_, (pss_cons (ps_asg (pv 2) (pg_tup rfl (pgs_cons (pg_name (i := 3) sc_onward.nd rfl (Or.inr rfl)) (pgs_cons (pg_name (i := 4) sc_onward.nd rfl (Or.inr rfl)) pgs_nil)))) (pss_cons (ps_set (i := 5) sc_onward.nd rfl (Or.inr rfl) (pe_ix (show IxR _ (rIxL K) from ix_list) (pv 0) (pv 3) (fun _ _ => rfl))) (pss_cons (ps_if (pt_cmpR op_eq (pe_ix (show IxR _ (rIxT K) from ix_tup) (pv 5) pe_int (fun _ _ => rfl)) pe_str (nomark _)) (pss_one (ps_ret (pe_lst (pa_cons (pe_tup (pa_cons (pe_op op_add (pv 3) pe_int) (pa_cons (pe_op (show OpR _ _ (rCatA K) from op_catA) (pv 4) (pe_tup (pa_cons (pe_own h_lent (hr.mono (by decide)) (by rfl) (pa_cons (pv 5) (pa_cons (pv 4) pa_nil))) pa_nil))) pa_nil))) pa_nil)))) pss_nil) (pss_cons (ps_if (pt_cmpR op_eq (pe_ix (show IxR _ (rIxT K) from ix_tup) (pv 5) pe_int (fun _ _ => rfl)) pe_str (nomark _)) (pss_one (ps_ret (pe_lc (own := [("thing", 6)]) (g := (gName 6)) (tt := tYes) rfl sc_onward.nd (pi_tup (pe_ix (show IxR _ (rIxT K) from ix_tup) (pv 5) pe_int (fun _ _ => rfl))) (blkOk_by (own := [("thing", 6)]) (N := ["rows", "blocks", "standing", "at", "held", "row", "thing", "first"]) (sc := defScope s_onward) (by decide +kernel)) (fun _ _ _ _ _ => (pg_name (i := 6) sc_onward.nd rfl (Or.inl rfl))) (fun _ _ _ _ _ => pts_nil) (fun _ _ _ _ _ => (pe_tup (pa_cons (pe_op op_add (pv 3) pe_int) (pa_cons (pe_op (show OpR _ _ (rCatA K) from op_catA) (pv 4) (pe_tup (pa_cons (pe_own h_picked (hr.mono (by decide)) (by rfl) (pa_cons (pv 5) (pa_cons (pv 6) pa_nil))) pa_nil))) pa_nil))))))) pss_nil) (pss_cons (ps_if (pt_cmpR op_eq (pe_ix (show IxR _ (rIxT K) from ix_tup) (pv 5) pe_int (fun _ _ => rfl)) pe_str (nomark _)) (pss_one (ps_ret (pe_lc (own := [("first", 7)]) (g := (gName 7)) (tt := tYes) rfl sc_onward.nd (pi_list (pe_dget (hu_of hr) (pe_fld (pv 1) rfl) (pv 3) (fun _ _ => rfl))) (blkOk_by (own := [("first", 7)]) (N := ["rows", "blocks", "standing", "at", "held", "row", "thing", "first"]) (sc := defScope s_onward) (by decide +kernel)) (fun _ _ _ _ _ => (pg_name (i := 7) sc_onward.nd rfl (Or.inl rfl))) (fun _ _ _ _ _ => pts_nil) (fun _ _ _ _ _ => (pe_tup (pa_cons (pv 7) (pa_cons (pv 4) pa_nil))))))) pss_nil) (pss_cons (ps_if (pt_cmpR op_eq (pe_ix (show IxR _ (rIxT K) from ix_tup) (pv 5) pe_int (fun _ _ => rfl)) pe_str (nomark _)) (pss_one (ps_ret (pe_lst (pa_cons (pe_tup (pa_cons (pe_ix (show IxR _ (rIxL K) from ix_list) (pe_fld (pv 1) rfl) (pe_ix (show IxR _ (rIxL K) from ix_list) (pe_fld (pv 1) rfl) (pv 3) (fun _ _ => rfl)) (fun _ _ => rfl)) (pa_cons (pv 4) pa_nil))) pa_nil)))) pss_nil) (pss_cons (ps_if (pt_cmpR op_eq (pe_ix (show IxR _ (rIxT K) from ix_tup) (pv 5) pe_int (fun _ _ => rfl)) pe_str (nomark _)) (pss_one (ps_ret (pe_lst (pa_cons (pe_tup (pa_cons (pe_op op_add (pe_ix (show IxR _ (rIxL K) from ix_list) (pe_fld (pv 1) rfl) (pv 3) (fun _ _ => rfl)) pe_int) (pa_cons (pv 4) pa_nil))) (pa_cons (pe_tup (pa_cons (pe_op op_add (pv 3) pe_int) (pa_cons (pv 4) pa_nil))) pa_nil))))) pss_nil) (pss_cons (ps_if (pt_cmpR op_eq (pe_ix (show IxR _ (rIxT K) from ix_tup) (pv 5) pe_int (fun _ _ => rfl)) pe_str (nomark _)) (pss_one (ps_ret (pe_lst (pa_cons (pe_own h_ended (hr.mono (by decide)) (by rfl) (pa_cons (pv 0) (pa_cons (pv 1) (pa_cons (pv 2) pa_nil)))) pa_nil)))) pss_nil) (pss_cons (ps_if (pt_cmpR op_eq (pe_ix (show IxR _ (rIxT K) from ix_tup) (pv 5) pe_int (fun _ _ => rfl)) pe_str (nomark _)) (pss_one (ps_ret (pe_lst (pa_cons (pe_tup (pa_cons (pe_op op_add (pv 3) pe_int) (pa_cons (pe_own h_given_back (hr.mono (by decide)) (by rfl) (pa_cons (pv 4) (pa_cons (pe_ix (show IxR _ (rIxT K) from ix_tup) (pv 5) pe_int (fun _ _ => rfl)) pa_nil))) pa_nil))) pa_nil)))) pss_nil) (pss_one (ps_ret (pe_lst (pa_cons (pe_tup (pa_cons (pe_op op_add (pv 3) pe_int) (pa_cons (pv 4) pa_nil))) pa_nil))))))))))))), ?_⟩
    show (_ : L2.TS) _ [_, _, _, _, _, _, _, _] _
    refine q_unS (ev_var rfl) hx (fun v H1 e1 hv => ?_)
    show (_ : L2.TS) _ [_, _, _, _, _, _, _, _] _
    obtain ⟨y, hy, hY⟩ := hR.get hr1
    have hS1 := ex_l e1 hS
    have hix : atI rv (i : Int) = some y := atI_nat hy
    refine q_asg (v := y) (ev_ixL (ev_var rfl) hS1 (ev_var rfl) hix) (fun H2 e2 => ?_)
    show (_ : L2.TS) _ [_, _, _, _, _, _, _, _] _
    have e02 := e1.trans e2
    have hY2 := hY.up e02
    have hv2 := hv.up e2
    have hB2 := hB.up e02
    have hS2 := ex_l e02 hS
    have hR2 := hR.up e02
    have hx2 := hx.up e02
    unfold onM at q
    rw [hr1] at q
    -- the tests, one after the other
    have tagE : ∀ (s : Str) (b : Bool), decide (V.str r.tag = V.str s) = b → ∀ H3, Ex H2 H3 → EvT (tTest (tOp rEq (tOp (rIxT K) (tVar 5) (tC (.int 0))) (tC (.str s)))) [some (.ref a), some xb, some x, some (.int (i : Int)), some v, some y, none, none] H3 b := fun s b hb H3 e3 => by
      rw [← hb]
      exact et_test (ev_eq (ev_tag rfl (hY2.up e3)) ev_c rfl)
    cases r with
    | lend hh kk s =>
      refine q_when (b := true) (tagE _ _ (by rfl) H2 (Ex.refl _)) (fun _ H3 e3 => ?_) (fun hb => nomatch hb)
      refine s_retPL (epl_one (ep_stand (i := (i : Int) + 1) (ev_I0 (ev_var rfl) ev_c) (ep_catT (ep_heldvar rfl (hv2.up e3)) (ep_one (ep_call (sp := spPLent K) (vs := [y, v]) (ea_cons (ev_var rfl) (ea_cons (ev_var rfl) ea_nil)) (fun H4 e4 Q k E => ⟨y, v, es, hh, kk, s, rfl, hv2.up (e3.trans e4), hY2.up (e3.trans e4), (ok.lend hh kk s hr1).2, by omega, k⟩))) (by show es.length + 1 ≤ 100000; omega))))
        (fun p us H4 hp e4 h4 hU => q p us H4 (fresh_back (e02.trans e3) hp) (e02.trans (e3.trans e4)) h4 hU)
    | pick w' ts =>
      refine q_when (b := false) (tagE _ _ (by rfl) H2 (Ex.refl _)) (fun hb => nomatch hb) (fun _ H3 e3 => ?_)
      refine q_when (b := true) (tagE _ _ (by rfl) H3 e3) (fun _ H4 e4 => ?_) (fun hb => nomatch hb)
      have e24 := e3.trans e4
      obtain ⟨py, pt, rfl, hp1, hp2⟩ := id hY2
      have hPy : SqT K H4 py [.str "pick", .str w', .ref pt] := st_of (e24 _ _ hp1)
      have hPt : SqT K H4 pt (ts.map V.int) := st_of (e24 _ _ hp2)
      have htl : (ts.map V.int).length = ts.length := List.length_map ..
      have hok : RowS (.pick w' ts) := sh.s _ (List.mem_of_getElem? hr1)
      refine s_retPL (epl_mapS (fun k => ((i : Int) + 1, es ++ [(⟨w', "pick", ts.getD k 0, "", true⟩ : Ent)])) (ev_ixT (ev_var rfl) hPy ev_c (atI_nat (j := 2) rfl)) hPt (by have := hok.2.2.1; omega) (fun z => rfl) (fun k z H5 e5 hk => ?_))
        (fun p us H5 hp e5 h5 hU => q p us H5 (fresh_back (e02.trans e24) hp) (e02.trans (e24.trans e5)) h5 ?_)
      · have hkl : k < ts.length := by have := (List.getElem?_eq_some_iff.mp hk).1; omega
        have ez : z = .int (ts.getD k 0) := by
          rw [List.getElem?_map, List.getElem?_eq_getElem hkl] at hk
          rw [List.getD_eq_getElem?_getD, List.getElem?_eq_getElem hkl]
          exact (Option.some.inj hk).symm
        subst ez
        exact ep_stand (i := (i : Int) + 1) (ev_I0 (ev_var rfl) ev_c) (ep_catT (ep_heldvar rfl (hv2.up (e24.trans e5))) (ep_one (ep_call (sp := spPicked) (vs := [.ref py, .int (ts.getD k 0)]) (ea_cons (ev_var rfl) (ea_cons (ev_var rfl) ea_nil)) (fun H6 e6 Q kk E => ⟨.ref py, _, w', ts, rfl, hY2.up (e24.trans (e5.trans e6)), kk⟩))) (by show es.length + 1 ≤ 100000; omega))
      · rw [htl] at hU
        show StdsI H5 us (ts.map fun t => ((i : Int) + 1, es ++ [(⟨w', "pick", t, "", true⟩ : Ent)]))
        rw [← map_getD ts fun t => ((i : Int) + 1, es ++ [(⟨w', "pick", t, "", true⟩ : Ent)])]
        exact hU
    | either =>
      refine q_when (b := false) (tagE _ _ (by rfl) H2 (Ex.refl _)) (fun hb => nomatch hb) (fun _ H3 e3 => ?_)
      refine q_when (b := false) (tagE _ _ (by rfl) H3 e3) (fun hb => nomatch hb) (fun _ H4 e4 => ?_)
      have e24 := e3.trans e4
      refine q_when (b := true) (tagE _ _ (by rfl) H4 e24) (fun _ H5 e5 => ?_) (fun hb => nomatch hb)
      have e25 := e24.trans e5
      obtain ⟨pq, hq1, hq2⟩ := ev_firsts (K := K) (σ := wipe [some (.ref a), some xb, some x, some (.int (i : Int)), some v, some y, none, none] []) (ta := tVar 1) (tb := tVar 3) B (ev_var rfl) (hB2.up e25) (ev_var rfl) hr1
      rw [brV_I] at hq2
      have hql : ((brI rs i rs.length).map V.int).length = (brI rs i rs.length).length := List.length_map ..
      have hbl : (brI rs i rs.length).length ≤ 40000 := by
        unfold brI
        rw [List.length_cons, List.length_map]
        have h1 : ((List.range rs.length).filter (orF rs i)).length ≤ rs.length - 1 := by
          have h2 : rs.length = (i + 1) + (rs.length - (i + 1)) := by omega
          rw [h2, List.range_add, List.filter_append, List.length_append]
          have h3 : (List.range (i + 1)).filter (orF rs i) = [] := List.filter_eq_nil_iff.mpr fun p hp => by
            have := List.mem_range.mp hp
            rw [orF_low (by omega)]
            decide
          rw [h3]
          have h4 := List.length_filter_le (orF rs i) ((List.range (rs.length - (i + 1))).map fun x => i + 1 + x)
          rw [List.length_map, List.length_range] at h4
          show 0 + _ ≤ _
          omega
        omega
      refine s_retPL (epl_mapSL (fun k => ((brI rs i rs.length).getD k 0, es)) hq1 (sq_of hq2) (by rw [hql]; omega) (fun z => rfl) (fun k z H6 e6 hk => ?_))
        (fun p us H6 hp e6 h6 hU => q p us H6 (fresh_back (e02.trans e25) hp) (e02.trans (e25.trans e6)) h6 ?_)
      · have hkl : k < (brI rs i rs.length).length := by have := (List.getElem?_eq_some_iff.mp hk).1; omega
        have ez : z = .int ((brI rs i rs.length).getD k 0) := by
          rw [List.getElem?_map, List.getElem?_eq_getElem hkl] at hk
          rw [List.getD_eq_getElem?_getD, List.getElem?_eq_getElem hkl]
          exact (Option.some.inj hk).symm
        subst ez
        exact ep_stand (ev_var rfl) (ep_heldvar rfl (hv2.up (e25.trans e6)))
      · rw [hql] at hU
        show StdsI H6 us ((brI rs i rs.length).map fun b => (b, es))
        rw [← map_getD (brI rs i rs.length) fun b => (b, es)]
        exact hU
    | or =>
      refine q_when (b := false) (tagE _ _ (by rfl) H2 (Ex.refl _)) (fun hb => nomatch hb) (fun _ H3 e3 => ?_)
      refine q_when (b := false) (tagE _ _ (by rfl) H3 e3) (fun hb => nomatch hb) (fun _ H4 e4 => ?_)
      have e24 := e3.trans e4
      refine q_when (b := false) (tagE _ _ (by rfl) H4 e24) (fun hb => nomatch hb) (fun _ H5 e5 => ?_)
      have e25 := e24.trans e5
      refine q_when (b := true) (tagE _ _ (by rfl) H5 e25) (fun _ H6 e6 => ?_) (fun hb => nomatch hb)
      have e26 := e25.trans e6
      obtain ⟨b, hb1, hb2, hb3⟩ := or_home sh hr1
      dsimp only at q
      rw [hb1, Int.toNat_natCast] at q
      refine s_retPL (epl_one (st := (endUp rs b rs.length, es)) (ep_stand (ev_closing B (ev_var rfl) (hB2.up e26) (ev_is (ev_around B (ev_var rfl) (hB2.up e26) (ev_var rfl) hil) (by rw [hb1])) hb3 rfl) (ep_heldvar rfl (hv2.up e26))))
        (fun p us H7 hp e7 h7 hU => q p us H7 (fresh_back (e02.trans e26) hp) (e02.trans (e26.trans e7)) h7 hU)
    | again =>
      refine q_when (b := false) (tagE _ _ (by rfl) H2 (Ex.refl _)) (fun hb => nomatch hb) (fun _ H3 e3 => ?_)
      refine q_when (b := false) (tagE _ _ (by rfl) H3 e3) (fun hb => nomatch hb) (fun _ H4 e4 => ?_)
      have e24 := e3.trans e4
      refine q_when (b := false) (tagE _ _ (by rfl) H4 e24) (fun hb => nomatch hb) (fun _ H5 e5 => ?_)
      have e25 := e24.trans e5
      refine q_when (b := false) (tagE _ _ (by rfl) H5 e25) (fun hb => nomatch hb) (fun _ H6 e6 => ?_)
      have e26 := e25.trans e6
      refine q_when (b := true) (tagE _ _ (by rfl) H6 e26) (fun _ H7 e7 => ?_) (fun hb => nomatch hb)
      have e27 := e26.trans e7
      refine s_retPL (epl_two (st := (endUp rs i rs.length + 1, es)) (su := ((i : Int) + 1, es)) (ep_stand (ev_I0 (ev_closing B (ev_var rfl) (hB2.up e27) (ev_var rfl) hr1 rfl) ev_c) (ep_heldvar rfl (hv2.up e27))) (ep_stand (ev_I0 (ev_var rfl) ev_c) (ep_heldvar rfl (hv2.up e27))))
        (fun p us H8 hp e8 h8 hU => q p us H8 (fresh_back (e02.trans e27) hp) (e02.trans (e27.trans e8)) h8 hU)
    | fin =>
      refine q_when (b := false) (tagE _ _ (by rfl) H2 (Ex.refl _)) (fun hb => nomatch hb) (fun _ H3 e3 => ?_)
      refine q_when (b := false) (tagE _ _ (by rfl) H3 e3) (fun hb => nomatch hb) (fun _ H4 e4 => ?_)
      have e24 := e3.trans e4
      refine q_when (b := false) (tagE _ _ (by rfl) H4 e24) (fun hb => nomatch hb) (fun _ H5 e5 => ?_)
      have e25 := e24.trans e5
      refine q_when (b := false) (tagE _ _ (by rfl) H5 e25) (fun hb => nomatch hb) (fun _ H6 e6 => ?_)
      have e26 := e25.trans e6
      refine q_when (b := false) (tagE _ _ (by rfl) H6 e26) (fun hb => nomatch hb) (fun _ H7 e7 => ?_)
      have e27 := e26.trans e7
      refine q_when (b := true) (tagE _ _ (by rfl) H7 e27) (fun _ H8 e8 => ?_) (fun hb => nomatch hb)
      have e28 := e27.trans e8
      refine s_retPL (epl_one (st := goM rs i es 0) (ep_call (sp := spEnded K C) (vs := [.ref a, xb, x]) (ea_cons (ev_var rfl) (ea_cons (ev_var rfl) (ea_cons (ev_var rfl) ea_nil))) (fun H9 e9 Q k E => ⟨a, xb, x, rv, rs, i, es, Hb, rfl, ex_l (e28.trans e9) hS2, hR2.up (e28.trans e9), hB2.up (e28.trans e9), hx2.up (e28.trans e9), sh, hr1, hlen, k⟩)))
        (fun p us H9 hp e9 h9 hU => q p us H9 (fresh_back (e02.trans e28) hp) (e02.trans (e28.trans e9)) h9 ?_)
      have hgo : goM rs i es 0 = (if (rs.getD (hm rs i).toNat .fin).isAgain = true then (hm rs i, es) else if (rs.getD (hm rs i).toNat .fin).isEither = true then ((i : Int) + 1, es) else ((i : Int) + 1, es.dropLast)) := by
        unfold goM
        rw [hr1]
      rw [hgo] at hU
      exact hU
    | back hh =>
      refine q_when (b := false) (tagE _ _ (by rfl) H2 (Ex.refl _)) (fun hb => nomatch hb) (fun _ H3 e3 => ?_)
      refine q_when (b := false) (tagE _ _ (by rfl) H3 e3) (fun hb => nomatch hb) (fun _ H4 e4 => ?_)
      have e24 := e3.trans e4
      refine q_when (b := false) (tagE _ _ (by rfl) H4 e24) (fun hb => nomatch hb) (fun _ H5 e5 => ?_)
      have e25 := e24.trans e5
      refine q_when (b := false) (tagE _ _ (by rfl) H5 e25) (fun hb => nomatch hb) (fun _ H6 e6 => ?_)
      have e26 := e25.trans e6
      refine q_when (b := false) (tagE _ _ (by rfl) H6 e26) (fun hb => nomatch hb) (fun _ H7 e7 => ?_)
      have e27 := e26.trans e7
      refine q_when (b := false) (tagE _ _ (by rfl) H7 e27) (fun hb => nomatch hb) (fun _ H8 e8 => ?_)
      have e28 := e27.trans e8
      refine q_when (b := true) (tagE _ _ (by rfl) H8 e28) (fun _ H9 e9 => ?_) (fun hb => nomatch hb)
      have e29 := e28.trans e9
      obtain ⟨py, rfl, hp1⟩ := id hY2
      have hPy : SqT K H9 py [.str "back", .str hh] := st_of (e29 _ _ hp1)
      refine s_retPL (epl_one (st := ((i : Int) + 1, backM hh es)) (ep_stand (ev_I0 (ev_var rfl) ev_c) (ep_call (sp := spGBack K) (vs := [v, .str hh]) (ea_cons (ev_var rfl) (ea_cons (ev_ixT (ev_var rfl) hPy ev_c (atI_nat (j := 1) rfl)) ea_nil)) (fun Ha ea Q k E => ⟨v, hh, es, rfl, hv2.up (e29.trans ea), by omega, k⟩))))
        (fun p us Ha hp ea ha hU => q p us Ha (fresh_back (e02.trans e29) hp) (e02.trans (e29.trans ea)) ha hU)
    | look hh =>
      refine q_when (b := false) (tagE _ _ (by rfl) H2 (Ex.refl _)) (fun hb => nomatch hb) (fun _ H3 e3 => ?_)
      refine q_when (b := false) (tagE _ _ (by rfl) H3 e3) (fun hb => nomatch hb) (fun _ H4 e4 => ?_)
      have e24 := e3.trans e4
      refine q_when (b := false) (tagE _ _ (by rfl) H4 e24) (fun hb => nomatch hb) (fun _ H5 e5 => ?_)
      have e25 := e24.trans e5
      refine q_when (b := false) (tagE _ _ (by rfl) H5 e25) (fun hb => nomatch hb) (fun _ H6 e6 => ?_)
      have e26 := e25.trans e6
      refine q_when (b := false) (tagE _ _ (by rfl) H6 e26) (fun hb => nomatch hb) (fun _ H7 e7 => ?_)
      have e27 := e26.trans e7
      refine q_when (b := false) (tagE _ _ (by rfl) H7 e27) (fun hb => nomatch hb) (fun _ H8 e8 => ?_)
      have e28 := e27.trans e8
      refine q_when (b := false) (tagE _ _ (by rfl) H8 e28) (fun hb => nomatch hb) (fun _ H9 e9 => ?_)
      have e29 := e28.trans e9
      refine s_retPL (epl_one (st := ((i : Int) + 1, es)) (ep_stand (ev_I0 (ev_var rfl) ev_c) (ep_heldvar rfl (hv2.up e29))))
        (fun p us Ha hp ea ha hU => q p us Ha (fresh_back (e02.trans e29) hp) (e02.trans (e29.trans ea)) ha hU)
    | change hh =>
      refine q_when (b := false) (tagE _ _ (by rfl) H2 (Ex.refl _)) (fun hb => nomatch hb) (fun _ H3 e3 => ?_)
      refine q_when (b := false) (tagE _ _ (by rfl) H3 e3) (fun hb => nomatch hb) (fun _ H4 e4 => ?_)
      have e24 := e3.trans e4
      refine q_when (b := false) (tagE _ _ (by rfl) H4 e24) (fun hb => nomatch hb) (fun _ H5 e5 => ?_)
      have e25 := e24.trans e5
      refine q_when (b := false) (tagE _ _ (by rfl) H5 e25) (fun hb => nomatch hb) (fun _ H6 e6 => ?_)
      have e26 := e25.trans e6
      refine q_when (b := false) (tagE _ _ (by rfl) H6 e26) (fun hb => nomatch hb) (fun _ H7 e7 => ?_)
      have e27 := e26.trans e7
      refine q_when (b := false) (tagE _ _ (by rfl) H7 e27) (fun hb => nomatch hb) (fun _ H8 e8 => ?_)
      have e28 := e27.trans e8
      refine q_when (b := false) (tagE _ _ (by rfl) H8 e28) (fun hb => nomatch hb) (fun _ H9 e9 => ?_)
      have e29 := e28.trans e9
      refine s_retPL (epl_one (st := ((i : Int) + 1, es)) (ep_stand (ev_I0 (ev_var rfl) ev_c) (ep_heldvar rfl (hv2.up e29))))
        (fun p us Ha hp ea ha hU => q p us Ha (fresh_back (e02.trans e29) hp) (e02.trans (e29.trans ea)) ha hU)
def spChosen (K : PySem.W.Frag) : Sp := fun vs H Q _ => ∃ (p : Addr) (c : Int) (us : List V) (sts : List (Int × List Ent)), vs = [.ref p, .int c] ∧ SqL K H p us ∧ StdsI H us sts ∧ 0 < sts.length ∧ Ret (AStand (sts.getD (c % (sts.length : Int)).toNat (0, [])).1 (sts.getD (c % (sts.length : Int)).toNat (0, [])).2) H Q
theorem ok_chosen (D : Dn K mg "chosen" s_chosen ["standings", "choice"]) (T : Blt mg) : Has P w K mg base "chosen" 1 ["standings", "choice"] (spChosen K) := by
  refine D.ok sc_chosen (fun vs H Q E h => ?_) (fun f cdv A outer st H vs Q E hr h => ?_)
  · obtain ⟨p, c, us, sts, rfl, _⟩ := h
    rfl
  · obtain ⟨p, c, us, sts, rfl, hP, hU, h0, q⟩ := h
    refine ⟨_, (pss_one (ps_ret (pe_ix (show IxR _ (rIxL K) from ix_list) (pv 0) (pe_op op_mod (pv 1) (pe_callB (show CallR _ _ (rLenS K) from call_len_seq) (by rfl) T.len_ (by decide +kernel) (pa_cons (pv 0) pa_nil))) (fun _ _ => rfl)))), ?_⟩
    show (_ : L2.TS) _ [_, _] _
    have hl := hU.len
    have h1 := Int.emod_nonneg c (show ((us.length : Nat) : Int) ≠ 0 by omega)
    have h2 := Int.emod_lt_of_pos c (show (0 : Int) < ((us.length : Nat) : Int) by omega)
    rw [← hl] at q
    have h3 : (c % (us.length : Int)).toNat < sts.length := by omega
    obtain ⟨x, hx1, hx2⟩ := hU.get h3
    have e : c % (us.length : Int) = (((c % (us.length : Int)).toNat : Nat) : Int) := by omega
    refine s_ret (v := x) (ev_ixL (ev_var rfl) hP (ev_I (ev_var rfl) (ev_len (ev_var rfl) hP) (by omega)) (by rw [e]; exact atI_nat hx1)) (fun H1 e1 => q x H1 e1 (hx2.up e1))
end
end BD
namespace BD
open PySem PySem.Spec PyProof.Rows L2 Evl
local macro_rules | `(tactic| walk_at "ev") => `(tactic| first
  | ((with_reducible apply ev_var) ; rfl)
  | with_reducible exact ev_c
  | ((with_reducible apply ev_I0) <;> walk_at "ev")
  | ((with_reducible apply ev_e9) <;> walk_at "ev")
  | ((with_reducible apply ev_I) <;> walk_at "ev")
  | ((with_reducible apply ev_eq) <;> walk_at "ev")
  | ((with_reducible apply ev_ne) <;> walk_at "ev")
  | ((with_reducible apply ev_neg) <;> walk_at "ev")
  | ((with_reducible apply ev_ixN) <;> walk_at "ev")
  | ((with_reducible apply ev_ixL) <;> walk_at "ev")
  | ((with_reducible apply ev_inN) <;> walk_at "ev")
  | ((with_reducible apply ev_inT) <;> walk_at "ev")
  | ((with_reducible apply ev_ixT) <;> walk_at "ev")
  | ((with_reducible apply ev_ixS) <;> walk_at "ev")
  | ((with_reducible apply ev_len') <;> walk_at "ev")
  | ((with_reducible apply et_test) <;> walk_at "ev")
  | ((with_reducible apply et_and) <;> walk_at "ev")
  | ((with_reducible apply et_or) <;> walk_at "ev")
  | ((with_reducible apply et_not) <;> walk_at "ev")
  | ((with_reducible apply et_B) <;> walk_at "ev")
  | ((with_reducible apply el_lst) <;> walk_at "ev")
  | ((with_reducible apply eu_tup) <;> walk_at "ev")
  | ((with_reducible apply ea_cons) <;> walk_at "ev")
  | with_reducible exact ea_nil
  | with_reducible assumption
  | ((with_reducible apply ex_l' ; assumption) ; walk_at "ex")
  | ((with_reducible apply ex_t' ; assumption) ; walk_at "ex")
  | (intro _ ; walk_at "ev")
  | (with_reducible first | exact atI_hd | exact at_kind | exact at2s | exact at3s | exact at3i)
  | (first | exact rfl | exact Nat.le_of_ble_eq_true rfl | exact ⟨by decide, by decide⟩ | decide | exact Or.inl ⟨by omega, by omega⟩ | exact Or.inr ⟨by omega, by omega⟩ | omega)
  | skip)
local macro_rules | `(tactic| walk_at "ex") => `(tactic| first
  | assumption
  | exact Ex.refl _
  | (refine' Ex.trans ?_ (by assumption) ; walk_at "ex"))
local macro_rules | `(tactic| walk_at "row") => `(tactic| first
  | (with_reducible exact er_nil)
  | ((with_reducible apply er_cons) <;> walk_at "row")
  | (((with_reducible apply er_var) ; rfl) ; walk_at "isrow")
  | (((with_reducible apply elr_var) ; rfl) ; walk_at "isrow")
  | ((with_reducible apply elr_cat) <;> walk_at "row")
  | ((with_reducible apply elr_lst) <;> walk_at "row")
  | ((with_reducible apply er_fin) <;> walk_at "ev")
  | ((with_reducible apply er_lendT) <;> walk_at "ev")
  | ((with_reducible apply er_lendW) <;> walk_at "ev")
  | ((with_reducible apply er_pick) <;> walk_at "ev")
  | ((with_reducible apply er_either) <;> walk_at "ev")
  | ((with_reducible apply er_or) <;> walk_at "ev")
  | ((with_reducible apply er_again) <;> walk_at "ev")
  | ((with_reducible apply er_back) <;> walk_at "ev")
  | ((with_reducible apply er_look) <;> walk_at "ev")
  | ((with_reducible apply er_change) <;> walk_at "ev")
  | exact Nat.le_of_ble_eq_true rfl
  | skip)
local macro_rules | `(tactic| walk_at "isrow") => `(tactic| first
  | assumption
  | (refine IsRow.up ?_ (by assumption) ; walk_at "ex")
  | (refine LRows.up ?_ (by assumption) ; walk_at "ex"))

abbrev s_ways : Stmt := topS 12
theorem sc_ways : FnScope ["rows", "standing"] ["rows", "standing"] (defScope s_ways) := ⟨rfl, rfl, rfl, by decide +kernel, rfl, by decide +kernel, by decide +kernel⟩
abbrev s_stepped : Stmt := topS 13
theorem sc_stepped : FnScope ["rows", "standing", "choice"] ["rows", "standing", "choice"] (defScope s_stepped) := ⟨rfl, rfl, rfl, by decide +kernel, rfl, by decide +kernel, by decide +kernel⟩
section
variable {P : Program} {w : World} {K : PySem.W.Frag} {mg : Str → Option Value} {base : Heap} {C : Addr}
theorem orok_sheet {rs : List Rw} (sh : Sheet rs) : OrOk rs := fun i hi => by
  obtain ⟨b, h1, _, h3⟩ := or_home sh hi
  exact ⟨b, h1, h3⟩
theorem epl_onward {σ : L2.St} {H : Hp} {ta tb tc : TE} {a : Addr} {x : V} {rv : List V} {rs : List Rw} {i : Nat} {es : List Ent} {r : Rw} {E : XK} {Hb : Hp} (h : Ev ta σ H (.ref a)) (h2 : EvP tb σ H (fun v H2 => ABlk C rs Hb v H2)) (h3 : Ev tc σ H x)
    (hS : SqL K H a rv) (hR : Rows H rv rs) (hx : AStand (i : Int) es x H) (sh : Sheet rs) (hst : Std rs i es) (hr : rs[i]? = some r) (hl : rs.length ≤ 40000) :
    EvPL (tCall (spOnward K C) [] E (tCons ta (tCons tb (tCons tc tNil)))) σ H (fun us H2 => StdsI H2 us (onM rs i es)) := fun H1 e Q q =>
  h H1 e _ fun H2 e2 => h2 H2 (e.trans e2) _ fun v H3 e3 hv => h3 H3 (e.trans (e2.trans e3)) _ fun H4 e4 =>
    have e14 := e2.trans (e3.trans e4)
    ⟨a, v, x, rv, rs, i, es, r, Hb, rfl, ex_l (e.trans e14) hS, hR.up (e.trans e14), hv.up e4, hx.up (e.trans e14), sh, hst, hr, hl, fun p us H5 hp e5 h5 hU => q p us H5 (fresh_back e14 hp) (e14.trans e5) h5 hU⟩
theorem ev_lenPL {σ : L2.St} {H : Hp} {te : TE} {R : List V → Hp → Prop} {n : Nat} (h : EvPL te σ H R) (k : ∀ us H1, R us H1 → us.length = n) : Ev (tCB (rLenS K) (tCons te tNil)) σ H (.int (n : Int)) := fun H1 e Q q =>
  h H1 e _ fun p us H2 _ e2 h2 hr => ⟨p, us, rfl, Or.inl (sq_of h2), by rw [k us H2 hr]; exact q H2 e2⟩
theorem ep_chosen {σ : L2.St} {H : Hp} {ta tb : TE} {sts : List (Int × List Ent)} {c : Int} {E : XK} (h : EvPL ta σ H (fun us H2 => StdsI H2 us sts)) (h2 : Ev tb σ H (.int c)) (h0 : 0 < sts.length) :
    EvP (tCall (spChosen K) [] E (tCons ta (tCons tb tNil))) σ H (AStand (sts.getD (c % (sts.length : Int)).toNat (0, [])).1 (sts.getD (c % (sts.length : Int)).toNat (0, [])).2) := fun H1 e Q q =>
  h H1 e _ fun p us H2 _ e2 g2 hr => h2 H2 (e.trans e2) _ fun H3 e3 => ⟨p, c, us, sts, rfl, sq_of (e3 _ _ g2), hr.up e3, h0, fun v H4 e4 hv => q v H4 (e2.trans (e3.trans e4)) hv⟩
abbrev HB (P : Program) (w : World) (K : PySem.W.Frag) (mg : Str → Option Value) (base : Heap) (C : Addr) : Prop := HasC P w K mg base "Blocks" C 2 ["self", "rows"] (spBInit K C)
theorem ok_pways1 (D : Dn K mg "ways" s_ways ["rows", "standing"]) (T : Blt mg) (h_Blocks : HB P w K mg base C) (h_onward : Has P w K mg base "onward" 2 ["rows", "blocks", "standing"] (spOnward K C)) : Has P w K mg base "ways" 4 ["rows", "standing"] (spPWays K) := by
  refine D.ok sc_ways (fun vs H Q E h => ?_) (fun f cdv A outer st H vs Q E hr h => ?_)
  · obtain ⟨a, x, rv, rs, i, es, r, rfl, _⟩ := h
    rfl
  · obtain ⟨a, x, rv, rs, i, es, r, rfl, hS, hR, hx, sh, hst, hr1, hl, q⟩ := h
    refine ⟨_, (pss_one (ps_ret (pe_callB (show CallR _ _ (rLenS K) from call_len_seq) (by rfl) T.len_ (by decide +kernel) (pa_cons (pe_own h_onward (hr.mono (by decide)) (by rfl) (pa_cons (pv 0) (pa_cons (pe_cls h_Blocks (hr.mono (by decide)) (by rfl) (pa_cons (pv 0) pa_nil)) (pa_cons (pv 1) pa_nil)))) pa_nil)))), ?_⟩
    show (_ : L2.TS) _ [_, _] _
    have e : waysM rs i = ((onM rs i es).length : Int) := by
      rw [onM_ways hr1]
      rfl
    rw [e] at q
    exact s_ret (ev_lenPL (epl_onward (ev_var rfl) (ep_blocks (ev_var rfl) hS hR sh.g (orok_sheet sh) hl) (ev_var rfl) hS hR hx sh hst hr1 hl) (fun us H1 hU => hU.len)) (fun H1 e1 => q H1 e1)
theorem ok_pways (D : Dn K mg "ways" s_ways ["rows", "standing"]) (T : Blt mg) (h_Blocks : HB P w K mg base C) (h_onward : Has P w K mg base "onward" 2 ["rows", "blocks", "standing"] (spOnward K C)) : Has P w K mg base "ways" 5 ["rows", "standing"] (spPWays K) := (ok_pways1 D T h_Blocks h_onward).mono (by decide)
theorem ok_pstep1 (D : Dn K mg "stepped" s_stepped ["rows", "standing", "choice"]) (h_Blocks : HB P w K mg base C) (h_onward : Has P w K mg base "onward" 2 ["rows", "blocks", "standing"] (spOnward K C)) (h_chosen : Has P w K mg base "chosen" 1 ["standings", "choice"] (spChosen K)) : Has P w K mg base "stepped" 4 ["rows", "standing", "choice"] (spPStep K) := by
  refine D.ok sc_stepped (fun vs H Q E h => ?_) (fun f cdv A outer st H vs Q E hr h => ?_)
  · obtain ⟨a, x, c, rv, rs, i, es, r, rfl, _⟩ := h
    rfl
  · obtain ⟨a, x, c, rv, rs, i, es, r, rfl, hS, hR, hx, sh, hst, hr1, hl, q⟩ := h
    refine ⟨_, (pss_one (ps_ret (pe_own h_chosen (hr.mono (by decide)) (by rfl) (pa_cons (pe_own h_onward (hr.mono (by decide)) (by rfl) (pa_cons (pv 0) (pa_cons (pe_cls h_Blocks (hr.mono (by decide)) (by rfl) (pa_cons (pv 0) pa_nil)) (pa_cons (pv 1) pa_nil)))) (pa_cons (pv 2) pa_nil))))), ?_⟩
    show (_ : L2.TS) _ [_, _, _] _
    have ok := hst.ok sh
    rw [← onM_go hr1 ok c] at q
    exact s_retP (ep_chosen (epl_onward (ev_var rfl) (ep_blocks (ev_var rfl) hS hR sh.g (orok_sheet sh) hl) (ev_var rfl) hS hR hx sh hst hr1 hl) (ev_var rfl) (onM_len hr1 ok)) (fun v H1 e1 hv => q v H1 e1 hv)
theorem ok_pstep (D : Dn K mg "stepped" s_stepped ["rows", "standing", "choice"]) (h_Blocks : HB P w K mg base C) (h_onward : Has P w K mg base "onward" 2 ["rows", "blocks", "standing"] (spOnward K C)) (h_chosen : Has P w K mg base "chosen" 1 ["standings", "choice"] (spChosen K)) : Has P w K mg base "stepped" 5 ["rows", "standing", "choice"] (spPStep K) := (ok_pstep1 D h_Blocks h_onward h_chosen).mono (by decide)
end
end BD
namespace BD
open PySem PySem.Spec PyProof.Rows L2 Evl
local macro_rules | `(tactic| walk_at "ev") => `(tactic| first
  | ((with_reducible apply ev_var) ; rfl)
  | with_reducible exact ev_c
  | ((with_reducible apply ev_I0) <;> walk_at "ev")
  | ((with_reducible apply ev_e9) <;> walk_at "ev")
  | ((with_reducible apply ev_I) <;> walk_at "ev")
  | ((with_reducible apply ev_eq) <;> walk_at "ev")
  | ((with_reducible apply ev_ne) <;> walk_at "ev")
  | ((with_reducible apply ev_neg) <;> walk_at "ev")
  | ((with_reducible apply ev_ixN) <;> walk_at "ev")
  | ((with_reducible apply ev_ixL) <;> walk_at "ev")
  | ((with_reducible apply ev_inN) <;> walk_at "ev")
  | ((with_reducible apply ev_inT) <;> walk_at "ev")
  | ((with_reducible apply ev_ixT) <;> walk_at "ev")
  | ((with_reducible apply ev_ixS) <;> walk_at "ev")
  | ((with_reducible apply ev_len') <;> walk_at "ev")
  | ((with_reducible apply et_test) <;> walk_at "ev")
  | ((with_reducible apply et_and) <;> walk_at "ev")
  | ((with_reducible apply et_or) <;> walk_at "ev")
  | ((with_reducible apply et_not) <;> walk_at "ev")
  | ((with_reducible apply et_B) <;> walk_at "ev")
  | ((with_reducible apply el_lst) <;> walk_at "ev")
  | ((with_reducible apply eu_tup) <;> walk_at "ev")
  | ((with_reducible apply ea_cons) <;> walk_at "ev")
  | with_reducible exact ea_nil
  | with_reducible assumption
  | ((with_reducible apply ex_l' ; assumption) ; walk_at "ex")
  | ((with_reducible apply ex_t' ; assumption) ; walk_at "ex")
  | (intro _ ; walk_at "ev")
  | (with_reducible first | exact atI_hd | exact at_kind | exact at2s | exact at3s | exact at3i)
  | (first | exact rfl | exact Nat.le_of_ble_eq_true rfl | exact ⟨by decide, by decide⟩ | decide | exact Or.inl ⟨by omega, by omega⟩ | exact Or.inr ⟨by omega, by omega⟩ | omega)
  | skip)
local macro_rules | `(tactic| walk_at "ex") => `(tactic| first
  | assumption
  | exact Ex.refl _
  | (refine' Ex.trans ?_ (by assumption) ; walk_at "ex"))
local macro_rules | `(tactic| walk_at "row") => `(tactic| first
  | (with_reducible exact er_nil)
  | ((with_reducible apply er_cons) <;> walk_at "row")
  | (((with_reducible apply er_var) ; rfl) ; walk_at "isrow")
  | (((with_reducible apply elr_var) ; rfl) ; walk_at "isrow")
  | ((with_reducible apply elr_cat) <;> walk_at "row")
  | ((with_reducible apply elr_lst) <;> walk_at "row")
  | ((with_reducible apply er_fin) <;> walk_at "ev")
  | ((with_reducible apply er_lendT) <;> walk_at "ev")
  | ((with_reducible apply er_lendW) <;> walk_at "ev")
  | ((with_reducible apply er_pick) <;> walk_at "ev")
  | ((with_reducible apply er_either) <;> walk_at "ev")
  | ((with_reducible apply er_or) <;> walk_at "ev")
  | ((with_reducible apply er_again) <;> walk_at "ev")
  | ((with_reducible apply er_back) <;> walk_at "ev")
  | ((with_reducible apply er_look) <;> walk_at "ev")
  | ((with_reducible apply er_change) <;> walk_at "ev")
  | exact Nat.le_of_ble_eq_true rfl
  | skip)
local macro_rules | `(tactic| walk_at "isrow") => `(tactic| first
  | assumption
  | (refine IsRow.up ?_ (by assumption) ; walk_at "ex")
  | (refine LRows.up ?_ (by assumption) ; walk_at "ex"))

theorem all_mk {l : PySem.W.OpenLaw} {w : World} {K : PySem.W.Frag} {h : Heap} {mg : Str → Option Value} {fa f35 f1 f2 f3 f4 f5 f6 f7 f8 f9 f10 f11 f12 f13 f14 f15 f16 f17 f18 f19 f20 f21 f22 f23 f24 f25 f26 f27 f28 f29 f30 f31 f32 f33 f34 fO fN CB : Addr} (X : K.In h) (G : h.Ns mainGlobals mg) (hfa : mg "law" = some (.ref fa))
    {od1 an1 : Option Addr} {sl1 : Array (Option Value)} {oc1 kV1 dc1 pm1 cd1 ct1 : Value}
    (a1 : PySem.W.nsIn K mainGlobals "_law_cell_at" = some (some (.ref f1))) (l1 : K.lookup f1 = some ⟨oc1, od1, .func (PySem.W.fnOf "_law_cell_at" "_law_cell_at" (defArgs s_l_cell_at) (defBody s_l_cell_at) (defScope s_l_cell_at) .none kV1 dc1 pm1 an1 cd1 ct1), sl1⟩) (c1 : PySem.W.codeIn K cd1 "_law_cell_at" = true) (k1 : PySem.W.keepIn K (.ref f1) = true)
    {od2 an2 : Option Addr} {sl2 : Array (Option Value)} {oc2 kV2 dc2 pm2 cd2 ct2 : Value}
    (a2 : PySem.W.nsIn K mainGlobals "_law_word" = some (some (.ref f2))) (l2 : K.lookup f2 = some ⟨oc2, od2, .func (PySem.W.fnOf "_law_word" "_law_word" (defArgs s_l_word) (defBody s_l_word) (defScope s_l_word) .none kV2 dc2 pm2 an2 cd2 ct2), sl2⟩) (c2 : PySem.W.codeIn K cd2 "_law_word" = true) (k2 : PySem.W.keepIn K (.ref f2) = true)
    {od3 an3 : Option Addr} {sl3 : Array (Option Value)} {oc3 kV3 dc3 pm3 cd3 ct3 : Value}
    (a3 : PySem.W.nsIn K mainGlobals "_law_draw" = some (some (.ref f3))) (l3 : K.lookup f3 = some ⟨oc3, od3, .func (PySem.W.fnOf "_law_draw" "_law_draw" (defArgs s_l_draw) (defBody s_l_draw) (defScope s_l_draw) .none kV3 dc3 pm3 an3 cd3 ct3), sl3⟩) (c3 : PySem.W.codeIn K cd3 "_law_draw" = true) (k3 : PySem.W.keepIn K (.ref f3) = true)
    {od4 an4 : Option Addr} {sl4 : Array (Option Value)} {oc4 kV4 dc4 pm4 cd4 ct4 : Value}
    (a4 : PySem.W.nsIn K mainGlobals "_law_thing" = some (some (.ref f4))) (l4 : K.lookup f4 = some ⟨oc4, od4, .func (PySem.W.fnOf "_law_thing" "_law_thing" (defArgs s_l_thing) (defBody s_l_thing) (defScope s_l_thing) .none kV4 dc4 pm4 an4 cd4 ct4), sl4⟩) (c4 : PySem.W.codeIn K cd4 "_law_thing" = true) (k4 : PySem.W.keepIn K (.ref f4) = true)
    {od5 an5 : Option Addr} {sl5 : Array (Option Value)} {oc5 kV5 dc5 pm5 cd5 ct5 : Value}
    (a5 : PySem.W.nsIn K mainGlobals "_law_lend" = some (some (.ref f5))) (l5 : K.lookup f5 = some ⟨oc5, od5, .func (PySem.W.fnOf "_law_lend" "_law_lend" (defArgs s_l_lend) (defBody s_l_lend) (defScope s_l_lend) .none kV5 dc5 pm5 an5 cd5 ct5), sl5⟩) (c5 : PySem.W.codeIn K cd5 "_law_lend" = true) (k5 : PySem.W.keepIn K (.ref f5) = true)
    {od6 an6 : Option Addr} {sl6 : Array (Option Value)} {oc6 kV6 dc6 pm6 cd6 ct6 : Value}
    (a6 : PySem.W.nsIn K mainGlobals "_law_deed" = some (some (.ref f6))) (l6 : K.lookup f6 = some ⟨oc6, od6, .func (PySem.W.fnOf "_law_deed" "_law_deed" (defArgs s_l_deed) (defBody s_l_deed) (defScope s_l_deed) .none kV6 dc6 pm6 an6 cd6 ct6), sl6⟩) (c6 : PySem.W.codeIn K cd6 "_law_deed" = true) (k6 : PySem.W.keepIn K (.ref f6) = true)
    {od7 an7 : Option Addr} {sl7 : Array (Option Value)} {oc7 kV7 dc7 pm7 cd7 ct7 : Value}
    (a7 : PySem.W.nsIn K mainGlobals "_law_row" = some (some (.ref f7))) (l7 : K.lookup f7 = some ⟨oc7, od7, .func (PySem.W.fnOf "_law_row" "_law_row" (defArgs s_l_row) (defBody s_l_row) (defScope s_l_row) .none kV7 dc7 pm7 an7 cd7 ct7), sl7⟩) (c7 : PySem.W.codeIn K cd7 "_law_row" = true) (k7 : PySem.W.keepIn K (.ref f7) = true)
    {od8 an8 : Option Addr} {sl8 : Array (Option Value)} {oc8 kV8 dc8 pm8 cd8 ct8 : Value}
    (a8 : PySem.W.nsIn K mainGlobals "_law_hands" = some (some (.ref f8))) (l8 : K.lookup f8 = some ⟨oc8, od8, .func (PySem.W.fnOf "_law_hands" "_law_hands" (defArgs s_l_hands) (defBody s_l_hands) (defScope s_l_hands) .none kV8 dc8 pm8 an8 cd8 ct8), sl8⟩) (c8 : PySem.W.codeIn K cd8 "_law_hands" = true) (k8 : PySem.W.keepIn K (.ref f8) = true)
    {od9 an9 : Option Addr} {sl9 : Array (Option Value)} {oc9 kV9 dc9 pm9 cd9 ct9 : Value}
    (a9 : PySem.W.nsIn K mainGlobals "_law_first_four" = some (some (.ref f9))) (l9 : K.lookup f9 = some ⟨oc9, od9, .func (PySem.W.fnOf "_law_first_four" "_law_first_four" (defArgs s_l_first_four) (defBody s_l_first_four) (defScope s_l_first_four) .none kV9 dc9 pm9 an9 cd9 ct9), sl9⟩) (c9 : PySem.W.codeIn K cd9 "_law_first_four" = true) (k9 : PySem.W.keepIn K (.ref f9) = true)
    {od10 an10 : Option Addr} {sl10 : Array (Option Value)} {oc10 kV10 dc10 pm10 cd10 ct10 : Value}
    (a10 : PySem.W.nsIn K mainGlobals "_law_gadget" = some (some (.ref f10))) (l10 : K.lookup f10 = some ⟨oc10, od10, .func (PySem.W.fnOf "_law_gadget" "_law_gadget" (defArgs s_l_gadget) (defBody s_l_gadget) (defScope s_l_gadget) .none kV10 dc10 pm10 an10 cd10 ct10), sl10⟩) (c10 : PySem.W.codeIn K cd10 "_law_gadget" = true) (k10 : PySem.W.keepIn K (.ref f10) = true)
    {od11 an11 : Option Addr} {sl11 : Array (Option Value)} {oc11 kV11 dc11 pm11 cd11 ct11 : Value}
    (a11 : PySem.W.nsIn K mainGlobals "_law_sheet" = some (some (.ref f11))) (l11 : K.lookup f11 = some ⟨oc11, od11, .func (PySem.W.fnOf "_law_sheet" "_law_sheet" (defArgs s_l_sheet) (defBody s_l_sheet) (defScope s_l_sheet) .none kV11 dc11 pm11 an11 cd11 ct11), sl11⟩) (c11 : PySem.W.codeIn K cd11 "_law_sheet" = true) (k11 : PySem.W.keepIn K (.ref f11) = true)
    {od12 an12 : Option Addr} {sl12 : Array (Option Value)} {oc12 kV12 dc12 pm12 cd12 ct12 : Value}
    (a12 : PySem.W.nsIn K mainGlobals "_law_drawn" = some (some (.ref f12))) (l12 : K.lookup f12 = some ⟨oc12, od12, .func (PySem.W.fnOf "_law_drawn" "_law_drawn" (defArgs s_l_drawn) (defBody s_l_drawn) (defScope s_l_drawn) .none kV12 dc12 pm12 an12 cd12 ct12), sl12⟩) (c12 : PySem.W.codeIn K cd12 "_law_drawn" = true) (k12 : PySem.W.keepIn K (.ref f12) = true)
    {od13 an13 : Option Addr} {sl13 : Array (Option Value)} {oc13 kV13 dc13 pm13 cd13 ct13 : Value}
    (a13 : PySem.W.nsIn K mainGlobals "_law_homes" = some (some (.ref f13))) (l13 : K.lookup f13 = some ⟨oc13, od13, .func (PySem.W.fnOf "_law_homes" "_law_homes" (defArgs s_l_homes) (defBody s_l_homes) (defScope s_l_homes) .none kV13 dc13 pm13 an13 cd13 ct13), sl13⟩) (c13 : PySem.W.codeIn K cd13 "_law_homes" = true) (k13 : PySem.W.keepIn K (.ref f13) = true)
    {od14 an14 : Option Addr} {sl14 : Array (Option Value)} {oc14 kV14 dc14 pm14 cd14 ct14 : Value}
    (a14 : PySem.W.nsIn K mainGlobals "_law_last" = some (some (.ref f14))) (l14 : K.lookup f14 = some ⟨oc14, od14, .func (PySem.W.fnOf "_law_last" "_law_last" (defArgs s_l_last) (defBody s_l_last) (defScope s_l_last) .none kV14 dc14 pm14 an14 cd14 ct14), sl14⟩) (c14 : PySem.W.codeIn K cd14 "_law_last" = true) (k14 : PySem.W.keepIn K (.ref f14) = true)
    {od15 an15 : Option Addr} {sl15 : Array (Option Value)} {oc15 kV15 dc15 pm15 cd15 ct15 : Value}
    (a15 : PySem.W.nsIn K mainGlobals "_law_starts" = some (some (.ref f15))) (l15 : K.lookup f15 = some ⟨oc15, od15, .func (PySem.W.fnOf "_law_starts" "_law_starts" (defArgs s_l_starts) (defBody s_l_starts) (defScope s_l_starts) .none kV15 dc15 pm15 an15 cd15 ct15), sl15⟩) (c15 : PySem.W.codeIn K cd15 "_law_starts" = true) (k15 : PySem.W.keepIn K (.ref f15) = true)
    {od16 an16 : Option Addr} {sl16 : Array (Option Value)} {oc16 kV16 dc16 pm16 cd16 ct16 : Value}
    (a16 : PySem.W.nsIn K mainGlobals "_law_lent" = some (some (.ref f16))) (l16 : K.lookup f16 = some ⟨oc16, od16, .func (PySem.W.fnOf "_law_lent" "_law_lent" (defArgs s_l_lent) (defBody s_l_lent) (defScope s_l_lent) .none kV16 dc16 pm16 an16 cd16 ct16), sl16⟩) (c16 : PySem.W.codeIn K cd16 "_law_lent" = true) (k16 : PySem.W.keepIn K (.ref f16) = true)
    {od17 an17 : Option Addr} {sl17 : Array (Option Value)} {oc17 kV17 dc17 pm17 cd17 ct17 : Value}
    (a17 : PySem.W.nsIn K mainGlobals "_law_back" = some (some (.ref f17))) (l17 : K.lookup f17 = some ⟨oc17, od17, .func (PySem.W.fnOf "_law_back" "_law_back" (defArgs s_l_back) (defBody s_l_back) (defScope s_l_back) .none kV17 dc17 pm17 an17 cd17 ct17), sl17⟩) (c17 : PySem.W.codeIn K cd17 "_law_back" = true) (k17 : PySem.W.keepIn K (.ref f17) = true)
    {od18 an18 : Option Addr} {sl18 : Array (Option Value)} {oc18 kV18 dc18 pm18 cd18 ct18 : Value}
    (a18 : PySem.W.nsIn K mainGlobals "_law_step" = some (some (.ref f18))) (l18 : K.lookup f18 = some ⟨oc18, od18, .func (PySem.W.fnOf "_law_step" "_law_step" (defArgs s_l_step) (defBody s_l_step) (defScope s_l_step) .none kV18 dc18 pm18 an18 cd18 ct18), sl18⟩) (c18 : PySem.W.codeIn K cd18 "_law_step" = true) (k18 : PySem.W.keepIn K (.ref f18) = true)
    {od19 an19 : Option Addr} {sl19 : Array (Option Value)} {oc19 kV19 dc19 pm19 cd19 ct19 : Value}
    (a19 : PySem.W.nsIn K mainGlobals "_law_run" = some (some (.ref f19))) (l19 : K.lookup f19 = some ⟨oc19, od19, .func (PySem.W.fnOf "_law_run" "_law_run" (defArgs s_l_run) (defBody s_l_run) (defScope s_l_run) .none kV19 dc19 pm19 an19 cd19 ct19), sl19⟩) (c19 : PySem.W.codeIn K cd19 "_law_run" = true) (k19 : PySem.W.keepIn K (.ref f19) = true)
    {od20 an20 : Option Addr} {sl20 : Array (Option Value)} {oc20 kV20 dc20 pm20 cd20 ct20 : Value}
    (a20 : PySem.W.nsIn K mainGlobals "_law_choices" = some (some (.ref f20))) (l20 : K.lookup f20 = some ⟨oc20, od20, .func (PySem.W.fnOf "_law_choices" "_law_choices" (defArgs s_l_choices) (defBody s_l_choices) (defScope s_l_choices) .none kV20 dc20 pm20 an20 cd20 ct20), sl20⟩) (c20 : PySem.W.codeIn K cd20 "_law_choices" = true) (k20 : PySem.W.keepIn K (.ref f20) = true)
    {od21 an21 : Option Addr} {sl21 : Array (Option Value)} {oc21 kV21 dc21 pm21 cd21 ct21 : Value}
    (a21 : PySem.W.nsIn K mainGlobals "_law_whole" = some (some (.ref f21))) (l21 : K.lookup f21 = some ⟨oc21, od21, .func (PySem.W.fnOf "_law_whole" "_law_whole" (defArgs s_l_whole) (defBody s_l_whole) (defScope s_l_whole) .none kV21 dc21 pm21 an21 cd21 ct21), sl21⟩) (c21 : PySem.W.codeIn K cd21 "_law_whole" = true) (k21 : PySem.W.keepIn K (.ref f21) = true)
    {od22 an22 : Option Addr} {sl22 : Array (Option Value)} {oc22 kV22 dc22 pm22 cd22 ct22 : Value}
    (a22 : PySem.W.nsIn K mainGlobals "_law_entry" = some (some (.ref f22))) (l22 : K.lookup f22 = some ⟨oc22, od22, .func (PySem.W.fnOf "_law_entry" "_law_entry" (defArgs s_l_entry) (defBody s_l_entry) (defScope s_l_entry) .none kV22 dc22 pm22 an22 cd22 ct22), sl22⟩) (c22 : PySem.W.codeIn K cd22 "_law_entry" = true) (k22 : PySem.W.keepIn K (.ref f22) = true)
    {od23 an23 : Option Addr} {sl23 : Array (Option Value)} {oc23 kV23 dc23 pm23 cd23 ct23 : Value}
    (a23 : PySem.W.nsIn K mainGlobals "_law_standing" = some (some (.ref f23))) (l23 : K.lookup f23 = some ⟨oc23, od23, .func (PySem.W.fnOf "_law_standing" "_law_standing" (defArgs s_l_standing) (defBody s_l_standing) (defScope s_l_standing) .none kV23 dc23 pm23 an23 cd23 ct23), sl23⟩) (c23 : PySem.W.codeIn K cd23 "_law_standing" = true) (k23 : PySem.W.keepIn K (.ref f23) = true)
    {od24 an24 : Option Addr} {sl24 : Array (Option Value)} {oc24 kV24 dc24 pm24 cd24 ct24 : Value}
    (a24 : PySem.W.nsIn K mainGlobals "_law_ways" = some (some (.ref f24))) (l24 : K.lookup f24 = some ⟨oc24, od24, .func (PySem.W.fnOf "_law_ways" "_law_ways" (defArgs s_l_ways) (defBody s_l_ways) (defScope s_l_ways) .none kV24 dc24 pm24 an24 cd24 ct24), sl24⟩) (c24 : PySem.W.codeIn K cd24 "_law_ways" = true) (k24 : PySem.W.keepIn K (.ref f24) = true)
    {od25 an25 : Option Addr} {sl25 : Array (Option Value)} {oc25 kV25 dc25 pm25 cd25 ct25 : Value}
    (a25 : PySem.W.nsIn K mainGlobals "opens" = some (some (.ref f25))) (l25 : K.lookup f25 = some ⟨oc25, od25, .func (PySem.W.fnOf "opens" "opens" (defArgs s_opens) (defBody s_opens) (defScope s_opens) .none kV25 dc25 pm25 an25 cd25 ct25), sl25⟩) (c25 : PySem.W.codeIn K cd25 "opens" = true) (k25 : PySem.W.keepIn K (.ref f25) = true)
    {od26 an26 : Option Addr} {sl26 : Array (Option Value)} {oc26 kV26 dc26 pm26 cd26 ct26 : Value}
    (a26 : PySem.W.findIn K (.ref CB) "__init__" = some (some (.ref f26))) (l26 : K.lookup f26 = some ⟨oc26, od26, .func (PySem.W.fnOf "__init__" "Blocks.__init__" (defArgs s_Blocks_init) (defBody s_Blocks_init) (defScope s_Blocks_init) .none kV26 dc26 pm26 an26 cd26 ct26), sl26⟩) (c26 : PySem.W.codeIn K cd26 "Blocks.__init__" = true) (k26 : PySem.W.keepIn K (.ref f26) = true)
    {od27 an27 : Option Addr} {sl27 : Array (Option Value)} {oc27 kV27 dc27 pm27 cd27 ct27 : Value}
    (a27 : PySem.W.nsIn K mainGlobals "picked" = some (some (.ref f27))) (l27 : K.lookup f27 = some ⟨oc27, od27, .func (PySem.W.fnOf "picked" "picked" (defArgs s_picked) (defBody s_picked) (defScope s_picked) .none kV27 dc27 pm27 an27 cd27 ct27), sl27⟩) (c27 : PySem.W.codeIn K cd27 "picked" = true) (k27 : PySem.W.keepIn K (.ref f27) = true)
    {od28 an28 : Option Addr} {sl28 : Array (Option Value)} {oc28 kV28 dc28 pm28 cd28 ct28 : Value}
    (a28 : PySem.W.nsIn K mainGlobals "lent" = some (some (.ref f28))) (l28 : K.lookup f28 = some ⟨oc28, od28, .func (PySem.W.fnOf "lent" "lent" (defArgs s_lent) (defBody s_lent) (defScope s_lent) .none kV28 dc28 pm28 an28 cd28 ct28), sl28⟩) (c28 : PySem.W.codeIn K cd28 "lent" = true) (k28 : PySem.W.keepIn K (.ref f28) = true)
    {od29 an29 : Option Addr} {sl29 : Array (Option Value)} {oc29 kV29 dc29 pm29 cd29 ct29 : Value}
    (a29 : PySem.W.nsIn K mainGlobals "given_back" = some (some (.ref f29))) (l29 : K.lookup f29 = some ⟨oc29, od29, .func (PySem.W.fnOf "given_back" "given_back" (defArgs s_given_back) (defBody s_given_back) (defScope s_given_back) .none kV29 dc29 pm29 an29 cd29 ct29), sl29⟩) (c29 : PySem.W.codeIn K cd29 "given_back" = true) (k29 : PySem.W.keepIn K (.ref f29) = true)
    {od30 an30 : Option Addr} {sl30 : Array (Option Value)} {oc30 kV30 dc30 pm30 cd30 ct30 : Value}
    (a30 : PySem.W.nsIn K mainGlobals "ended" = some (some (.ref f30))) (l30 : K.lookup f30 = some ⟨oc30, od30, .func (PySem.W.fnOf "ended" "ended" (defArgs s_ended) (defBody s_ended) (defScope s_ended) .none kV30 dc30 pm30 an30 cd30 ct30), sl30⟩) (c30 : PySem.W.codeIn K cd30 "ended" = true) (k30 : PySem.W.keepIn K (.ref f30) = true)
    {od31 an31 : Option Addr} {sl31 : Array (Option Value)} {oc31 kV31 dc31 pm31 cd31 ct31 : Value}
    (a31 : PySem.W.nsIn K mainGlobals "onward" = some (some (.ref f31))) (l31 : K.lookup f31 = some ⟨oc31, od31, .func (PySem.W.fnOf "onward" "onward" (defArgs s_onward) (defBody s_onward) (defScope s_onward) .none kV31 dc31 pm31 an31 cd31 ct31), sl31⟩) (c31 : PySem.W.codeIn K cd31 "onward" = true) (k31 : PySem.W.keepIn K (.ref f31) = true)
    {od32 an32 : Option Addr} {sl32 : Array (Option Value)} {oc32 kV32 dc32 pm32 cd32 ct32 : Value}
    (a32 : PySem.W.nsIn K mainGlobals "chosen" = some (some (.ref f32))) (l32 : K.lookup f32 = some ⟨oc32, od32, .func (PySem.W.fnOf "chosen" "chosen" (defArgs s_chosen) (defBody s_chosen) (defScope s_chosen) .none kV32 dc32 pm32 an32 cd32 ct32), sl32⟩) (c32 : PySem.W.codeIn K cd32 "chosen" = true) (k32 : PySem.W.keepIn K (.ref f32) = true)
    {od33 an33 : Option Addr} {sl33 : Array (Option Value)} {oc33 kV33 dc33 pm33 cd33 ct33 : Value}
    (a33 : PySem.W.nsIn K mainGlobals "ways" = some (some (.ref f33))) (l33 : K.lookup f33 = some ⟨oc33, od33, .func (PySem.W.fnOf "ways" "ways" (defArgs s_ways) (defBody s_ways) (defScope s_ways) .none kV33 dc33 pm33 an33 cd33 ct33), sl33⟩) (c33 : PySem.W.codeIn K cd33 "ways" = true) (k33 : PySem.W.keepIn K (.ref f33) = true)
    {od34 an34 : Option Addr} {sl34 : Array (Option Value)} {oc34 kV34 dc34 pm34 cd34 ct34 : Value}
    (a34 : PySem.W.nsIn K mainGlobals "stepped" = some (some (.ref f34))) (l34 : K.lookup f34 = some ⟨oc34, od34, .func (PySem.W.fnOf "stepped" "stepped" (defArgs s_stepped) (defBody s_stepped) (defScope s_stepped) .none kV34 dc34 pm34 an34 cd34 ct34), sl34⟩) (c34 : PySem.W.codeIn K cd34 "stepped" = true) (k34 : PySem.W.keepIn K (.ref f34) = true)
    {od35 an35 : Option Addr} {sl35 : Array (Option Value)} {oc35 kV35 dc35 pm35 cd35 ct35 : Value}
    (a35 : PySem.W.nsIn K mainGlobals "law" = some (some (.ref f35))) (l35 : K.lookup f35 = some ⟨oc35, od35, .func (PySem.W.fnOf "law" "law" (defArgs s_law) (defBody s_law) (defScope s_law) .none kV35 dc35 pm35 an35 cd35 ct35), sl35⟩) (c35 : PySem.W.codeIn K cd35 "law" = true) (k35 : PySem.W.keepIn K (.ref f35) = true)
    {oO : Obj} {iO : Array Value} {nO : Nat} (aO : PySem.W.nsIn K mainGlobals "OPENERS" = some (some (.ref fO))) (lO : K.lookup fO = some oO) (tO : oO.cls = .type "tuple") (dO : oO.data = .seq iO nO) (zO : iO.size ≤ sizeLine) (vO : Vals [.str "lend", .str "pick", .str "either", .str "again"] iO.toList)
    {oN : Obj} {iN : Array Value} {nN : Nat} (aN : PySem.W.nsIn K mainGlobals "NAMERS" = some (some (.ref fN))) (lN : K.lookup fN = some oN) (tN : oN.cls = .type "tuple") (dN : oN.data = .seq iN nN) (zN : iN.size ≤ sizeLine) (vN : Vals [.str "lend", .str "pick"] iN.toList)
    (aCB : PySem.W.nsIn K mainGlobals "Blocks" = some (some (.ref CB))) (fnCB : PySem.W.isFn K (.ref f26) = true) (pgCB : PySem.W.plainGet K CB Str.empty = true) (hdCB : PySem.W.hasDictIn K CB = true) (poCB : PySem.W.plainOver K CB = true) (saCB : PySem.W.findIn K (.ref CB) "__setattr__" = some (some (.builtin "object.__setattr__"))) (mkCB : PySem.W.makesIn K CB = true) (kcCB : PySem.W.keepIn K (.ref CB) = true) (nCB0 : PySem.W.findIn K (.ref CB) "around" = some none) (nCB1 : PySem.W.findIn K (.ref CB) "closing" = some none) (nCB2 : PySem.W.findIn K (.ref CB) "firsts" = some none)
    (z_len : PySem.W.nsIn K mainGlobals "len" = some none)
    (z_range : PySem.W.nsIn K mainGlobals "range" = some none)
    (z_enumerate : PySem.W.nsIn K mainGlobals "enumerate" = some none)
    (z_zip : PySem.W.nsIn K mainGlobals "zip" = some none)
    (z_list : PySem.W.nsIn K mainGlobals "list" = some none)
    (z_tuple : PySem.W.nsIn K mainGlobals "tuple" = some none)
    (z_isinstance : PySem.W.nsIn K mainGlobals "isinstance" = some none)
    (z_all : PySem.W.nsIn K mainGlobals "all" = some none)
    (z_int : PySem.W.nsIn K mainGlobals "int" = some none)
    (z_bool : PySem.W.nsIn K mainGlobals "bool" = some none)
    (z_str : PySem.W.nsIn K mainGlobals "str" = some none)
    (z_sum : PySem.W.nsIn K mainGlobals "sum" = some none)
    (z_reversed : PySem.W.nsIn K mainGlobals "reversed" = some none)
    : ∃ fd : FuncData, (∀ (s : Shared) (v : Value), BindsTo s fd ⟨[v], []⟩ [("_law_script", v)]) ∧ ∀ base : Heap, K.In base → base.Ns mainGlobals mg → FnOk l.prog w K mg base CX0 6 fa fd ["_law_script"] (spLaw K) := by
  have e := hfa.symm.trans (PySem.W.mg_of X G a35)
  cases e
  have D1 : Dn K mg "_law_cell_at" s_l_cell_at ["_law_script", "_law_k"] := dn_mk X G a1 l1 c1 k1 fun _ _ _ _ _ _ us hl => match us, hl with | [_, _], _ => rfl
  have D2 : Dn K mg "_law_word" s_l_word ["_law_one", "_law_two", "_law_deep", "_law_draw_here"] := dn_mk X G a2 l2 c2 k2 fun _ _ _ _ _ _ us hl => match us, hl with | [_, _, _, _], _ => rfl
  have D3 : Dn K mg "_law_draw" s_l_draw ["_law_script"] := dn_mk X G a3 l3 c3 k3 fun _ _ _ _ _ _ us hl => match us, hl with | [_], _ => rfl
  have D4 : Dn K mg "_law_thing" s_l_thing ["_law_cell", "_law_base"] := dn_mk X G a4 l4 c4 k4 fun _ _ _ _ _ _ us hl => match us, hl with | [_, _], _ => rfl
  have D5 : Dn K mg "_law_lend" s_l_lend ["_law_one", "_law_two", "_law_named", "_law_draw_here"] := dn_mk X G a5 l5 c5 k5 fun _ _ _ _ _ _ us hl => match us, hl with | [_, _, _, _], _ => rfl
  have D6 : Dn K mg "_law_deed" s_l_deed ["_law_one", "_law_two", "_law_hands_here"] := dn_mk X G a6 l6 c6 k6 fun _ _ _ _ _ _ us hl => match us, hl with | [_, _, _], _ => rfl
  have D7 : Dn K mg "_law_row" s_l_row ["_law_way", "_law_one", "_law_two", "_law_opened", "_law_draw_here"] := dn_mk X G a7 l7 c7 k7 fun _ _ _ _ _ _ us hl => match us, hl with | [_, _, _, _, _], _ => rfl
  have D8 : Dn K mg "_law_hands" s_l_hands ["_law_one", "_law_two", "_law_deep", "_law_draw_here"] := dn_mk X G a8 l8 c8 k8 fun _ _ _ _ _ _ us hl => match us, hl with | [_, _, _, _], _ => rfl
  have D9 : Dn K mg "_law_first_four" s_l_first_four ["_law_way", "_law_one", "_law_two", "_law_names", "_law_thing_here"] := dn_mk X G a9 l9 c9 k9 fun _ _ _ _ _ _ us hl => match us, hl with | [_, _, _, _, _], _ => rfl
  have D10 : Dn K mg "_law_gadget" s_l_gadget ["_law_one", "_law_two", "_law_deep", "_law_draw_here"] := dn_mk X G a10 l10 c10 k10 fun _ _ _ _ _ _ us hl => match us, hl with | [_, _, _, _], _ => rfl
  have D11 : Dn K mg "_law_sheet" s_l_sheet ["_law_cells", "_law_draw_here", "_law_most", "_law_odd"] := dn_mk X G a11 l11 c11 k11 fun _ _ _ _ _ _ us hl => match us, hl with | [_, _, _, _], _ => rfl
  have D12 : Dn K mg "_law_drawn" s_l_drawn ["_law_script", "_law_most"] := dn_mk X G a12 l12 c12 k12 fun _ _ _ _ _ _ us hl => match us, hl with | [_, _], _ => rfl
  have D13 : Dn K mg "_law_homes" s_l_homes ["_law_rows"] := dn_mk X G a13 l13 c13 k13 fun _ _ _ _ _ _ us hl => match us, hl with | [_], _ => rfl
  have D14 : Dn K mg "_law_last" s_l_last ["_law_rows", "_law_home", "_law_at"] := dn_mk X G a14 l14 c14 k14 fun _ _ _ _ _ _ us hl => match us, hl with | [_, _, _], _ => rfl
  have D15 : Dn K mg "_law_starts" s_l_starts ["_law_rows", "_law_home", "_law_at"] := dn_mk X G a15 l15 c15 k15 fun _ _ _ _ _ _ us hl => match us, hl with | [_, _, _], _ => rfl
  have D16 : Dn K mg "_law_lent" s_l_lent ["_law_held", "_law_row_here"] := dn_mk X G a16 l16 c16 k16 fun _ _ _ _ _ _ us hl => match us, hl with | [_, _], _ => rfl
  have D17 : Dn K mg "_law_back" s_l_back ["_law_held", "_law_word_here"] := dn_mk X G a17 l17 c17 k17 fun _ _ _ _ _ _ us hl => match us, hl with | [_, _], _ => rfl
  have D18 : Dn K mg "_law_step" s_l_step ["_law_rows", "_law_home", "_law_standing_here", "_law_choice"] := dn_mk X G a18 l18 c18 k18 fun _ _ _ _ _ _ us hl => match us, hl with | [_, _, _, _], _ => rfl
  have D19 : Dn K mg "_law_run" s_l_run ["_law_rows", "_law_choices_here"] := dn_mk X G a19 l19 c19 k19 fun _ _ _ _ _ _ us hl => match us, hl with | [_, _], _ => rfl
  have D20 : Dn K mg "_law_choices" s_l_choices ["_law_script"] := dn_mk X G a20 l20 c20 k20 fun _ _ _ _ _ _ us hl => match us, hl with | [_], _ => rfl
  have D21 : Dn K mg "_law_whole" s_l_whole ["_law_found"] := dn_mk X G a21 l21 c21 k21 fun _ _ _ _ _ _ us hl => match us, hl with | [_], _ => rfl
  have D22 : Dn K mg "_law_entry" s_l_entry ["_law_found"] := dn_mk X G a22 l22 c22 k22 fun _ _ _ _ _ _ us hl => match us, hl with | [_], _ => rfl
  have D23 : Dn K mg "_law_standing" s_l_standing ["_law_found"] := dn_mk X G a23 l23 c23 k23 fun _ _ _ _ _ _ us hl => match us, hl with | [_], _ => rfl
  have D24 : Dn K mg "_law_ways" s_l_ways ["_law_rows", "_law_home", "_law_at"] := dn_mk X G a24 l24 c24 k24 fun _ _ _ _ _ _ us hl => match us, hl with | [_, _, _], _ => rfl
  have D25 : Dn K mg "opens" s_opens ["row"] := dn_mk X G a25 l25 c25 k25 fun _ _ _ _ _ _ us hl => match us, hl with | [_], _ => rfl
  have F26 := fun_mk (st := s_Blocks_init) l26 c26 k26
  have b26 := F26.binds (ps := ["self", "rows"]) fun _ _ _ _ _ _ us hl => match us, hl with | [_, _], _ => rfl
  have D27 : Dn K mg "picked" s_picked ["row", "thing"] := dn_mk X G a27 l27 c27 k27 fun _ _ _ _ _ _ us hl => match us, hl with | [_, _], _ => rfl
  have D28 : Dn K mg "lent" s_lent ["row", "held"] := dn_mk X G a28 l28 c28 k28 fun _ _ _ _ _ _ us hl => match us, hl with | [_, _], _ => rfl
  have D29 : Dn K mg "given_back" s_given_back ["held", "hand"] := dn_mk X G a29 l29 c29 k29 fun _ _ _ _ _ _ us hl => match us, hl with | [_, _], _ => rfl
  have D30 : Dn K mg "ended" s_ended ["rows", "blocks", "standing"] := dn_mk X G a30 l30 c30 k30 fun _ _ _ _ _ _ us hl => match us, hl with | [_, _, _], _ => rfl
  have D31 : Dn K mg "onward" s_onward ["rows", "blocks", "standing"] := dn_mk X G a31 l31 c31 k31 fun _ _ _ _ _ _ us hl => match us, hl with | [_, _, _], _ => rfl
  have D32 : Dn K mg "chosen" s_chosen ["standings", "choice"] := dn_mk X G a32 l32 c32 k32 fun _ _ _ _ _ _ us hl => match us, hl with | [_, _], _ => rfl
  have D33 : Dn K mg "ways" s_ways ["rows", "standing"] := dn_mk X G a33 l33 c33 k33 fun _ _ _ _ _ _ us hl => match us, hl with | [_, _], _ => rfl
  have D34 : Dn K mg "stepped" s_stepped ["rows", "standing", "choice"] := dn_mk X G a34 l34 c34 k34 fun _ _ _ _ _ _ us hl => match us, hl with | [_, _, _], _ => rfl
  have T : Blt mg := ⟨PySem.W.mg_none_of X G z_len, PySem.W.mg_none_of X G z_range, PySem.W.mg_none_of X G z_enumerate, PySem.W.mg_none_of X G z_zip, PySem.W.mg_none_of X G z_list, PySem.W.mg_none_of X G z_tuple, PySem.W.mg_none_of X G z_isinstance, PySem.W.mg_none_of X G z_all, PySem.W.mg_none_of X G z_int, PySem.W.mg_none_of X G z_bool, PySem.W.mg_none_of X G z_str, PySem.W.mg_none_of X G z_sum, PySem.W.mg_none_of X G z_reversed⟩
  have gO : mg "OPENERS" = some (.ref fO) := PySem.W.mg_of X G aO
  have hO : ∀ H : Hp, SqT K H fO [.str "lend", .str "pick", .str "either", .str "again"] := fun H => .inr ⟨oO, iO, nO, lO, tO, dO, zO, vO⟩
  have gN : mg "NAMERS" = some (.ref fN) := PySem.W.mg_of X G aN
  have hN : ∀ H : Hp, SqT K H fN [.str "lend", .str "pick"] := fun H => .inr ⟨oN, iN, nN, lN, tN, dN, zN, vN⟩
  have BCB : BlkC K CB := ⟨⟨pgCB, hdCB, poCB, saCB⟩, nCB0, nCB1, nCB2⟩
  refine ⟨PySem.W.fnOf "law" "law" (defArgs s_law) (defBody s_law) (defScope s_law) .none kV35 dc35 pm35 an35 cd35 ct35, fun s v => .of_eq rfl, fun base _ _ => ?_⟩
  have F := fun_mk (st := s_law) l35 c35 k35
  have h_cell : Has l.prog w K mg base _ _ _ _ := ok_cell D1 T
  have h_word : Has l.prog w K mg base _ _ _ _ := ok_word D2 T
  have h_draw : Has l.prog w K mg base _ _ _ _ := ok_draw D3 h_cell
  have h_thing : Has l.prog w K mg base _ _ _ _ := ok_thing D4
  have h_lend : Has l.prog w K mg base _ _ _ _ := ok_lend D5 T h_thing h_word
  have h_deed : Has l.prog w K mg base _ _ _ _ := ok_deed D6 T
  have h_row : Has l.prog w K mg base _ _ _ _ := ok_row D7 T h_lend h_thing h_word h_deed
  have h_hands : Has l.prog w K mg base _ _ _ _ := ok_hands D8 h_word
  have h_four : Has l.prog w K mg base _ _ _ _ := ok_four D9
  have h_gadget : Has l.prog w K mg base _ _ _ _ := ok_gadget D10 h_hands h_thing h_four
  have h_sheet : Has l.prog w K mg base _ _ _ _ := ok_sheet D11 T h_gadget h_row
  have h_drawn : Has l.prog w K mg base _ _ _ _ := ok_drawn D12 T h_cell h_sheet h_draw
  have h_lhomes : Has l.prog w K mg base _ _ _ _ := ok_lhomes D13 T
  have h_last : Has l.prog w K mg base _ _ _ _ := ok_last D14 T
  have h_starts : Has l.prog w K mg base _ _ _ _ := ok_starts D15 T
  have h_lent : Has l.prog w K mg base _ _ _ _ := ok_lent D16
  have h_back : Has l.prog w K mg base _ _ _ _ := ok_back D17
  have h_step : Has l.prog w K mg base _ _ _ _ := ok_step D18 T h_lent h_back h_starts h_last
  have h_run : Has l.prog w K mg base _ _ _ _ := ok_run D19 T h_lhomes h_step
  have h_cho : Has l.prog w K mg base _ _ _ _ := ok_cho D20 T
  have h_whole : Has l.prog w K mg base _ _ _ _ := ok_whole D21 T
  have h_entry : Has l.prog w K mg base _ _ _ _ := ok_entry D22 T h_whole
  have h_standing : Has l.prog w K mg base _ _ _ _ := ok_standing D23 T h_whole h_entry
  have h_ways : Has l.prog w K mg base _ _ _ _ := ok_ways D24 T h_starts
  have h_opens : Has l.prog w K mg base _ _ _ _ := ok_opens D25 gO hO
  have h_Blocks : HasC l.prog w K mg base "Blocks" CB 2 ["self", "rows"] _ := ⟨_, _, ok_binit F26 T BCB h_opens, ⟨mkCB, a26, fnCB, kcCB⟩, PySem.W.mg_of X G aCB, b26⟩
  have h_picked : Has l.prog w K mg base _ _ _ _ := ok_picked D27
  have h_plent : Has l.prog w K mg base _ _ _ _ := ok_plent D28
  have h_gback : Has l.prog w K mg base _ _ _ _ := ok_gback D29 T
  have h_ended : Has l.prog w K mg base _ _ _ _ := ok_ended D30 BCB gN hN
  have h_onward : Has l.prog w K mg base _ _ _ _ := ok_onward D31 BCB h_plent h_picked h_gback h_ended
  have h_chosen : Has l.prog w K mg base _ _ _ _ := ok_chosen D32 T
  have h_pways : Has l.prog w K mg base _ _ _ _ := ok_pways D33 T h_Blocks h_onward
  have h_pstep : Has l.prog w K mg base _ _ _ _ := ok_pstep D34 h_Blocks h_onward h_chosen
  exact ok_law F T h_drawn h_run h_cho h_lhomes h_pways h_pstep h_whole h_ways h_standing h_step
end BD
open PySem PySem.W PyProof.Rows
set_option maxHeartbeats 0 in
theorem PySem.Challenge.cw_borrowdesk_k05_a_step_holds : PySem.Challenge.rw_borrowdesk_k05_a_step.Holds := by
  w_on; o_law; k_head; (case hw => w_witness2)
  k_fill
  refine L2.walk_of (l := PySem.Challenge.rw_borrowdesk_k05_a_step) (n := 63) (k := 6) (x := "_law_script") (CX := fun _ => L2.CX0) (sp := fun w => BD.spLaw _) rfl (by decide) rfl ⟨rfl, by decide, by decide⟩ (fun w h Y => PySem.W.kIn_of Y) ?F (fun _ _ a ns hl _ hS => ⟨a, ns, rfl, hS, hl, fun _ => rfl⟩) (fun _ _ _ _ _ h => h)
  case F =>
    intro w mg fa h KX G hmg
    refine' BD.all_mk KX G hmg ?a1 ?l1 ?c1 ?k1 ?a2 ?l2 ?c2 ?k2 ?a3 ?l3 ?c3 ?k3 ?a4 ?l4 ?c4 ?k4 ?a5 ?l5 ?c5 ?k5 ?a6 ?l6 ?c6 ?k6 ?a7 ?l7 ?c7 ?k7 ?a8 ?l8 ?c8 ?k8 ?a9 ?l9 ?c9 ?k9 ?a10 ?l10 ?c10 ?k10 ?a11 ?l11 ?c11 ?k11 ?a12 ?l12 ?c12 ?k12 ?a13 ?l13 ?c13 ?k13 ?a14 ?l14 ?c14 ?k14 ?a15 ?l15 ?c15 ?k15 ?a16 ?l16 ?c16 ?k16 ?a17 ?l17 ?c17 ?k17 ?a18 ?l18 ?c18 ?k18 ?a19 ?l19 ?c19 ?k19 ?a20 ?l20 ?c20 ?k20 ?a21 ?l21 ?c21 ?k21 ?a22 ?l22 ?c22 ?k22 ?a23 ?l23 ?c23 ?k23 ?a24 ?l24 ?c24 ?k24 ?a25 ?l25 ?c25 ?k25 ?a26 ?l26 ?c26 ?k26 ?a27 ?l27 ?c27 ?k27 ?a28 ?l28 ?c28 ?k28 ?a29 ?l29 ?c29 ?k29 ?a30 ?l30 ?c30 ?k30 ?a31 ?l31 ?c31 ?k31 ?a32 ?l32 ?c32 ?k32 ?a33 ?l33 ?c33 ?k33 ?a34 ?l34 ?c34 ?k34 ?a35 ?l35 ?c35 ?k35 ?aO ?lO ?tO ?dO ?zO ?vO ?aN ?lN ?tN ?dN ?zN ?vN ?aCB ?fnCB ?pgCB ?hdCB ?poCB ?saCB ?mkCB ?kcCB ?nCB0 ?nCB1 ?nCB2 ?z_len ?z_range ?z_enumerate ?z_zip ?z_list ?z_tuple ?z_isinstance ?z_all ?z_int ?z_bool ?z_str ?z_sum ?z_reversed
    (case aCB => k_is)
    (case a1 => k_is); (case l1 => k_is); (case c1 => k_is); (case k1 => k_is)
    (case a2 => k_is); (case l2 => k_is); (case c2 => k_is); (case k2 => k_is)
    (case a3 => k_is); (case l3 => k_is); (case c3 => k_is); (case k3 => k_is)
    (case a4 => k_is); (case l4 => k_is); (case c4 => k_is); (case k4 => k_is)
    (case a5 => k_is); (case l5 => k_is); (case c5 => k_is); (case k5 => k_is)
    (case a6 => k_is); (case l6 => k_is); (case c6 => k_is); (case k6 => k_is)
    (case a7 => k_is); (case l7 => k_is); (case c7 => k_is); (case k7 => k_is)
    (case a8 => k_is); (case l8 => k_is); (case c8 => k_is); (case k8 => k_is)
    (case a9 => k_is); (case l9 => k_is); (case c9 => k_is); (case k9 => k_is)
    (case a10 => k_is); (case l10 => k_is); (case c10 => k_is); (case k10 => k_is)
    (case a11 => k_is); (case l11 => k_is); (case c11 => k_is); (case k11 => k_is)
    (case a12 => k_is); (case l12 => k_is); (case c12 => k_is); (case k12 => k_is)
    (case a13 => k_is); (case l13 => k_is); (case c13 => k_is); (case k13 => k_is)
    (case a14 => k_is); (case l14 => k_is); (case c14 => k_is); (case k14 => k_is)
    (case a15 => k_is); (case l15 => k_is); (case c15 => k_is); (case k15 => k_is)
    (case a16 => k_is); (case l16 => k_is); (case c16 => k_is); (case k16 => k_is)
    (case a17 => k_is); (case l17 => k_is); (case c17 => k_is); (case k17 => k_is)
    (case a18 => k_is); (case l18 => k_is); (case c18 => k_is); (case k18 => k_is)
    (case a19 => k_is); (case l19 => k_is); (case c19 => k_is); (case k19 => k_is)
    (case a20 => k_is); (case l20 => k_is); (case c20 => k_is); (case k20 => k_is)
    (case a21 => k_is); (case l21 => k_is); (case c21 => k_is); (case k21 => k_is)
    (case a22 => k_is); (case l22 => k_is); (case c22 => k_is); (case k22 => k_is)
    (case a23 => k_is); (case l23 => k_is); (case c23 => k_is); (case k23 => k_is)
    (case a24 => k_is); (case l24 => k_is); (case c24 => k_is); (case k24 => k_is)
    (case a25 => k_is); (case l25 => k_is); (case c25 => k_is); (case k25 => k_is)
    (case a26 => k_is); (case l26 => k_is); (case c26 => k_is); (case k26 => k_is)
    (case a27 => k_is); (case l27 => k_is); (case c27 => k_is); (case k27 => k_is)
    (case a28 => k_is); (case l28 => k_is); (case c28 => k_is); (case k28 => k_is)
    (case a29 => k_is); (case l29 => k_is); (case c29 => k_is); (case k29 => k_is)
    (case a30 => k_is); (case l30 => k_is); (case c30 => k_is); (case k30 => k_is)
    (case a31 => k_is); (case l31 => k_is); (case c31 => k_is); (case k31 => k_is)
    (case a32 => k_is); (case l32 => k_is); (case c32 => k_is); (case k32 => k_is)
    (case a33 => k_is); (case l33 => k_is); (case c33 => k_is); (case k33 => k_is)
    (case a34 => k_is); (case l34 => k_is); (case c34 => k_is); (case k34 => k_is)
    (case a35 => k_is); (case l35 => k_is); (case c35 => k_is); (case k35 => k_is)
    (case aO => k_is); (case lO => k_is); (case tO => rfl); (case dO => rfl); (case zO => decide); (case vO => exact .cons ⟨_, rfl⟩ (.cons ⟨_, rfl⟩ (.cons ⟨_, rfl⟩ (.cons ⟨_, rfl⟩ .nil))))
    (case aN => k_is); (case lN => k_is); (case tN => rfl); (case dN => rfl); (case zN => decide); (case vN => exact .cons ⟨_, rfl⟩ (.cons ⟨_, rfl⟩ .nil))
    (case fnCB => k_is)
    (case pgCB => k_is)
    (case hdCB => k_is)
    (case poCB => k_is)
    (case saCB => k_is)
    (case mkCB => k_is)
    (case kcCB => k_is)
    (case nCB0 => k_is)
    (case nCB1 => k_is)
    (case nCB2 => k_is)
    (case z_len => k_is)
    (case z_range => k_is)
    (case z_enumerate => k_is)
    (case z_zip => k_is)
    (case z_list => k_is)
    (case z_tuple => k_is)
    (case z_isinstance => k_is)
    (case z_all => k_is)
    (case z_int => k_is)
    (case z_bool => k_is)
    (case z_str => k_is)
    (case z_sum => k_is)
    (case z_reversed => k_is)
