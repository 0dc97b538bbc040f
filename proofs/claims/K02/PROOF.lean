import PyProof.Rows.All
import Wide.All
import OpenK.AllK
import Wide.FinOn
import HandS.ForMost
import HandS.Evl
import HandS.IsInst
import HandS.Walk
import PyProof.StrBlock2
import KE.KEqSeq
import PySem.Challenge.RW_borrowdesk_k02_blocks
import HandS.SetKeys
set_option Elab.async false
set_option linter.all false
set_option maxRecDepth 100000
set_option maxHeartbeats 8000000
namespace BD
open PySem PySem.Spec PyProof.Rows L2 Evl

/-! ### a def that stands, a def whose promise is known -/
def Dn (K : PySem.W.Frag) (mg : Str → Option Value) (x : Str) (st : Stmt) (ps : List Str) : Prop :=
  ∃ f fd, Fun K x x st f fd ∧ mg x = some (.ref f) ∧ Binds K fd ps []
theorem dn_mk {K : PySem.W.Frag} {h : Heap} {mg : Str → Option Value} (X : K.In h) (G : h.Ns mainGlobals mg) {x : Str} {st : Stmt} {ps : List Str} {f : Addr} {oc kV dc pm cd ct : Value} {od an : Option Addr} {sl : Array (Option Value)}
    (a : PySem.W.nsIn K mainGlobals x = some (some (.ref f))) (l : K.lookup f = some ⟨oc, od, .func (PySem.W.fnOf x x (defArgs st) (defBody st) (defScope st) .none kV dc pm an cd ct), sl⟩) (c : PySem.W.codeIn K cd x = true) (k : PySem.W.keepIn K (.ref f) = true)
    (hb : ∀ (kV doc pm : Value) (an : Option Addr) (cdv ct : Value) (us : List Value), us.length = ps.length → bindArgs (PySem.W.fnOf x x (defArgs st) (defBody st) (defScope st) .none kV doc pm an cdv ct) ⟨us, []⟩ = pure (ps.zip us)) : Dn K mg x st ps :=
  ⟨f, _, fun_mk l c k, PySem.W.mg_of X G a, (fun_mk l c k).binds hb⟩
structure Has (P : Program) (w : World) (K : PySem.W.Frag) (mg : Str → Option Value) (base : Heap) (x : Str) (k : Nat) (ps : List Str) (sp : Sp) : Prop where
  ex : ∃ f fd, FnOk P w K mg base CX0 k f fd ps sp ∧ mg x = some (.ref f) ∧ PySem.W.keepIn K (.ref f) = true ∧ Binds K fd ps []
section
variable {P : Program} {w : World} {K : PySem.W.Frag} {mg : Str → Option Value} {base : Heap}
theorem Dn.ok {x : Str} {st : Stmt} {N ps : List Str} {k : Nat} {sp : Sp} (D : Dn K mg x st ps) (S : FnScope N ps (defScope st)) (len : ∀ vs H Q E, sp vs H Q E → vs.length = ps.length)
    (hbody : ∀ (f : Addr) (cdv : Value) (A : Around) (outer : List Env) (s : Shared) (H : Hp) (vs : List V) (Q : VK) (E : XK), Room k (A.deeper (envOfC x (defScope st) s.heap.objs.size f cdv)) → sp vs H Q E →
      ∃ t, PSs (cxOf CX0 P w K mg base N x (defScope st) f cdv A outer s H E).nox (defBody st) t ∧ t { nx := fun _ H' => Q .non H', rt := Q } (start N vs) H) : Has P w K mg base x (k + 1) ps sp := by
  obtain ⟨f, fd, F, m, b⟩ := D
  exact ⟨f, fd, F.ok S len (hbody f), m, F.kp, b⟩
theorem Has.mono {x : Str} {j k : Nat} {ps : List Str} {sp : Sp} (h : Has P w K mg base x j ps sp) (e : j ≤ k) : Has P w K mg base x k ps sp := by
  obtain ⟨f, fd, F, m, kp, b⟩ := h.ex
  exact ⟨f, fd, F.mono e, m, kp, b⟩
end
theorem pe_own {X : Cx} {x : Str} {k : Nat} {ps : List Str} {sp : Sp} {e : Expr} {es : List Expr} {p pos : Pos} {t : TA} (h : Has X.prog X.w X.K X.mg X.base x k ps sp) (hr : Room k X.A) (hg : Gl X x) (ha : PA X (e :: es) t)
    (hdb : (x == ("__debug__" : Str)) = false := by decide) (he : starEach (e :: es) X.env = (false, eval e X.env) :: starEach es X.env := by rfl) (hpl : (backTo pos (starEach es X.env)).any (·.1) = false := by rfl) :
    PE X (.Call (.Name x p) (e :: es) [] pos) (tCall sp [] E0 t) := by
  obtain ⟨f, fd, F, m, kp, b⟩ := h.ex
  exact pe_call F hr hg m kp b .nil pass0 ha hdb he hpl

structure Blt (mg : Str → Option Value) : Prop where
  len_ : mg "len" = none
  range_ : mg "range" = none
  enumerate_ : mg "enumerate" = none
  zip_ : mg "zip" = none
  list_ : mg "list" = none
  tuple_ : mg "tuple" = none
  isinstance_ : mg "isinstance" = none
  all_ : mg "all" = none
  int_ : mg "int" = none
  bool_ : mg "bool" = none
  str_ : mg "str" = none
  sum_ : mg "sum" = none
  reversed_ : mg "reversed" = none
/-! ### a text times a number -/
def rRepS : R2 := fun x y H Q => ∃ z k, x = .str z ∧ y = .int k ∧ MulOk z k ∧ Q (.str (Txt.mul z k)) H
theorem op_repS {X : Cx} : OpR X (binaryOp .Mult) rRepS := by
  intro pins s σ H x y v u Q I rx ry h
  obtain ⟨z, k, rfl, rfl, hz, q⟩ := h
  obtain ⟨t, rfl⟩ := rx
  obtain ⟨t', rfl⟩ := ry
  exact SB.mul hz (fun t' tk => ⟨.str (Txt.mul z k), H, I.tok _, ⟨_, rfl⟩, q⟩)

def rAddT : R2 := fun x y H Q => ∃ i j, x = .str i ∧ y = .str j ∧ i.length + j.length ≤ sizeLine ∧ Q (.str (i ++ j)) H
theorem op_addT {X : Cx} : OpR X (binaryOp .Add) rAddT := op_add_str
/-! ### evaluation with a post on value and heap -/
def EvP (te : TE) (σ : L2.St) (H : Hp) (R : V → Hp → Prop) : Prop := ∀ H1, Ex H H1 → ∀ Q : VK, (∀ v H2, Ex H1 H2 → R v H2 → Q v H2) → te σ H1 Q
def EvAP (ta : TA) (σ : L2.St) (H : Hp) (R : List V → Hp → Prop) : Prop := ∀ H1, Ex H H1 → ∀ Q : List V → Hp → Prop, (∀ vs H2, Ex H1 H2 → R vs H2 → Q vs H2) → ta σ H1 Q
/-- a new list whose items are told by R -/
def EvPL (te : TE) (σ : L2.St) (H : Hp) (R : List V → Hp → Prop) : Prop := ∀ H1, Ex H H1 → ∀ Q : VK, (∀ p vs H2, H1 p = none → Ex H1 H2 → H2 p = some (.lst vs) → R vs H2 → Q (.ref p) H2) → te σ H1 Q
section
variable {K : PySem.W.Frag} {σ : L2.St} {H H' : Hp} {ta tb te tx : TE} {t u : TT} {x y z v : V} {r : R2} {R R' : V → Hp → Prop} {D : Ends} {tu tw tz : TS}
theorem ep_ev (h : Ev te σ H v) : EvP te σ H (fun x _ => x = v) := fun H1 e Q q => h H1 e Q fun H2 e2 => q v H2 e2 rfl
theorem ep_U {xs : List V} (h : EvU te σ H xs) : EvP te σ H (fun x H2 => ∃ p, x = .ref p ∧ H2 p = some (.tup xs)) := fun H1 e Q q => h H1 e Q fun p H2 _ e2 h2 => q _ H2 e2 ⟨p, rfl, h2⟩
theorem ep_L {xs : List V} (h : EvL te σ H xs) : EvP te σ H (fun x H2 => ∃ p, x = .ref p ∧ H2 p = some (.lst xs)) := fun H1 e Q q => h H1 e Q fun p H2 _ e2 h2 => q _ H2 e2 ⟨p, rfl, h2⟩
theorem EvP.mono (h : EvP te σ H R) (k : ∀ v H2, R v H2 → R' v H2) : EvP te σ H R' := fun H1 e Q q => h H1 e Q fun v H2 e2 hr => q v H2 e2 (k v H2 hr)
theorem EvP.up (e : Ex H H') (h : EvP te σ H R) : EvP te σ H' R := fun H1 a Q q => h H1 (e.trans a) Q q
theorem q_asgP {i : Nat} (h : EvP te σ H R) (k : ∀ v H1, Ex H H1 → R v H1 → tz D (σ.set i (some v)) H1) : tSeq (tAsg te (gName i)) tz D σ H := h H (Ex.refl H) _ fun v H1 e hr => k v H1 e hr
theorem s_asgP {i : Nat} (h : EvP te σ H R) (k : ∀ v H1, Ex H H1 → R v H1 → D.nx (σ.set i (some v)) H1) : tAsg te (gName i) D σ H := h H (Ex.refl H) _ fun v H1 e hr => k v H1 e hr
theorem s_retP (h : EvP te σ H R) (k : ∀ v H1, Ex H H1 → R v H1 → D.rt v H1) : tRet te D σ H := h H (Ex.refl H) _ k
theorem eap_nil : EvAP tNil σ H (fun vs _ => vs = []) := fun H1 _ _ q => q [] H1 (Ex.refl H1) rfl
def SpP (sp : Sp) (vs : List V) (H : Hp) (R : V → Hp → Prop) : Prop := ∀ H1, Ex H H1 → ∀ Q : VK, (∀ v H2, Ex H1 H2 → R v H2 → Q v H2) → ∀ E : XK, sp vs H1 Q E
theorem ep_call {sp : Sp} {dvs vs : List V} {E : XK} {ta : TA} (h : EvA ta σ H vs) (hs : SpP sp (vs ++ dvs) H R) : EvP (tCall sp dvs E ta) σ H R := fun H1 e Q q =>
  h H1 e _ fun H2 e2 => hs H2 (e.trans e2) Q (fun v H3 e3 hr => q v H3 (e2.trans e3) hr) E
/-- the promise's usual end: some value of which R tells, what stood stands -/
def Ret (R : V → Hp → Prop) (H : Hp) (Q : VK) : Prop := ∀ v H2, Ex H H2 → R v H2 → Q v H2
theorem Ret.go {Q : VK} (k : Ret R H Q) {v : V} (e : Ex H H') (hr : R v H') : Q v H' := k v H' e hr
end

section
variable {K : PySem.W.Frag} {σ : L2.St} {H H' : Hp} {ta tb te tx : TE} {t u : TT} {x y z v : V} {r : R2}
theorem ev_I0 {g : Int → Int → V} {i j : Int} (ha : Ev ta σ H (.int i)) (hb : Ev tb σ H (.int j)) : Ev (tOp (rI0 g) ta tb) σ H (g i j) := ev_op ha hb rv_I0
theorem ev_I {C : Int → Int → Prop} {g : Int → Int → V} {i j : Int} (ha : Ev ta σ H (.int i)) (hb : Ev tb σ H (.int j)) (hc : C i j) : Ev (tOp (rI C g) ta tb) σ H (g i j) := ev_op ha hb (rv_I hc)
theorem ex_l' {a : Addr} {xs : List V} (h : SqL K H a xs) (e : Ex H H') : SqL K H' a xs := ex_l e h
theorem ex_t' {a : Addr} {xs : List V} (h : SqT K H a xs) (e : Ex H H') : SqT K H' a xs := ex_t e h
theorem ev_e9 (ha : Ev ta σ H (.int 10)) (hb : Ev tb σ H (.int 9)) : Ev (tOp (rI CPow fun i j => .int (i ^ j.toNat)) ta tb) σ H (.int 1000000000) := by
  have h := ev_op ha hb (rv_I (C := CPow) (g := fun i j => .int (i ^ j.toNat)) (H := H) (i := 10) (j := 9) ⟨by decide, by decide, by decide⟩)
  exact h
theorem ev_eq (ha : Ev ta σ H x) (hb : Ev tb σ H y) (hc : scal x y = true) : Ev (tOp rEq ta tb) σ H (.bl (decide (x = y))) := ev_op ha hb (rv_eq hc)
theorem ev_ne (ha : Ev ta σ H x) (hb : Ev tb σ H y) (hc : scal x y = true) : Ev (tOp rNe ta tb) σ H (.bl (!decide (x = y))) := ev_op ha hb (rv_ne hc)
theorem ev_neg {i : Int} (ha : Ev ta σ H (.int i)) : Ev (tUn (rU fun i => .int (-i)) ta) σ H (.int (-i)) := ev_un ha ru_neg
theorem ev_ixL {p : Addr} {xs : List V} {i : Int} (ha : Ev ta σ H (.ref p)) (h : SqL K H p xs) (hb : Ev tb σ H (.int i)) (hi : atI xs i = some v) : Ev (tOp (rIxL K) ta tb) σ H v := ev_op ha hb (rv_ixL h hi)
theorem ev_ixT {p : Addr} {xs : List V} {i : Int} (ha : Ev ta σ H (.ref p)) (h : SqT K H p xs) (hb : Ev tb σ H (.int i)) (hi : atI xs i = some v) : Ev (tOp (rIxT K) ta tb) σ H v := ev_op ha hb (rv_ixT h hi)
theorem ev_ixN {tA : TA} {xs : List V} {i : Int} (ha : EvA tA σ H xs) (hb : Ev tb σ H (.int i)) (hl : xs.length ≤ 100000) (hi : atI xs i = some v) : Ev (tOp (rIxL K) (tLst tA) tb) σ H v :=
  ev_opL1 (el_lst ha hl) (fun _ e => hb.mono e) fun _ _ hz _ => rv_ixL (sq_of hz) hi
theorem ev_ixS {w : Str} {i : Int} {c : Nat} (ha : Ev ta σ H (.str w)) (hb : Ev tb σ H (.int i)) (h : w.length ≤ 100000) (hi : atI w.cps.toList i = some c) : Ev (tOp rIxS ta tb) σ H (.str ⟨#[c]⟩) := ev_op ha hb (rv_ixS h hi)
theorem ev_inN {tA : TA} {xs : List V} (ha : Ev ta σ H x) (hb : EvA tA σ H xs) (hl : xs.length ≤ 100000) (hx : flatV x = true) (hf : xs.all flatV = true) : Ev (tOp (rIn K false) ta (tLst tA)) σ H (.bl (inV x xs)) :=
  ev_opL ha (el_lst hb hl) fun _ _ hz _ => rv_isL (sq_of hz) hx hf
theorem ev_inT {p : Addr} {xs : List V} (ha : Ev ta σ H x) (hb : Ev tb σ H (.ref p)) (h : SqT K H p xs) (hx : flatV x = true) (hf : xs.all flatV = true) : Ev (tOp (rIn K false) ta tb) σ H (.bl (inV x xs)) := ev_op ha hb (rv_isT h hx hf)
theorem ev_len' {p : Addr} {xs : List V} (ha : Ev ta σ H (.ref p)) (h : SqL K H p xs) : Ev (tCB (rLenS K) (tCons ta tNil)) σ H (.int (xs.length : Int)) := ev_len ha h
theorem ev_add (x y : Str) (ha : Ev ta σ H (.str x)) (hb : Ev tb σ H (.str y)) (h : x.length + y.length ≤ 100000) : Ev (tOp rAddT ta tb) σ H (.str (x ++ y)) :=
  ev_op ha hb (rv_val fun H1 _ Q q => ⟨x, y, rfl, rfl, sz_of h, q⟩)
theorem ev_repS {w : Str} {k : Int} (ha : Ev ta σ H (.str w)) (hb : Ev tb σ H (.int k)) (h : MulOk w k) : Ev (tOp rRepS ta tb) σ H (.str (Txt.mul w k)) :=
  ev_op ha hb (rv_val fun H1 _ Q q => ⟨w, k, rfl, rfl, h, q⟩)
end
/-! ### rows of a sheet -/
inductive Src where
  | thing (n : Int)
  | word (w : Str)
def Src.v : Src → V
  | .thing n => .int n
  | .word w => .str w
inductive Rw where
  | lend (h k : Str) (s : Src)
  | pick (w : Str) (ts : List Int)
  | either | or | again | fin
  | back (h : Str) | look (h : Str) | change (h : Str)
namespace Rw
def tag : Rw → Str
  | .lend _ _ _ => "lend" | .pick _ _ => "pick" | .either => "either" | .or => "or" | .again => "again" | .fin => "end"
  | .back _ => "back" | .look _ => "look" | .change _ => "change"
def opens : Rw → Bool
  | .lend _ _ _ => true | .pick _ _ => true | .either => true | .again => true | _ => false
def named : Rw → Bool
  | .lend _ _ _ => true | .pick _ _ => true | _ => false
def isLend : Rw → Bool
  | .lend _ _ _ => true | _ => false
def isFin : Rw → Bool
  | .fin => true | _ => false
def isOr : Rw → Bool
  | .or => true | _ => false
def isEither : Rw → Bool
  | .either => true | _ => false
def word : Rw → Str
  | .lend h _ _ => h | .pick w _ => w | .back h => h | .look h => h | .change h => h | _ => ""
def kind : Rw → Str
  | .lend _ k _ => k | _ => ""
end Rw
/-- the row stands in the heap -/
def IsRow (H : Hp) (v : V) : Rw → Prop
  | .lend h k s => ∃ p, v = .ref p ∧ H p = some (.tup [.str "lend", .str h, .str k, s.v])
  | .pick w ts => ∃ p q, v = .ref p ∧ H p = some (.tup [.str "pick", .str w, .ref q]) ∧ H q = some (.tup (ts.map V.int))
  | .either => ∃ p, v = .ref p ∧ H p = some (.tup [.str "either"])
  | .or => ∃ p, v = .ref p ∧ H p = some (.tup [.str "or"])
  | .again => ∃ p, v = .ref p ∧ H p = some (.tup [.str "again"])
  | .fin => ∃ p, v = .ref p ∧ H p = some (.tup [.str "end"])
  | .back h => ∃ p, v = .ref p ∧ H p = some (.tup [.str "back", .str h])
  | .look h => ∃ p, v = .ref p ∧ H p = some (.tup [.str "look", .str h])
  | .change h => ∃ p, v = .ref p ∧ H p = some (.tup [.str "change", .str h])
/-- what stays of tuples -/
def ExT (H H' : Hp) : Prop := ∀ a xs, H a = some (.tup xs) → H' a = some (.tup xs)
theorem ExT.of {H H' : Hp} (e : Ex H H') : ExT H H' := fun a xs h => e a _ h
theorem ExT.refl (H : Hp) : ExT H H := fun _ _ h => h
theorem ExT.trans {H H1 H2 : Hp} (a : ExT H H1) (b : ExT H1 H2) : ExT H H2 := fun x o h => b x o (a x o h)
theorem ExT.lst {H : Hp} {p : Addr} {xs ys : List V} (h : H p = some (.lst xs)) : ExT H (upd H p (.lst ys)) := fun a zs e => by
  rw [upd_ne (ne_of e h (fun q => nomatch q))]
  exact e
theorem IsRow.upT {H H' : Hp} {v : V} {r : Rw} (e : ExT H H') (h : IsRow H v r) : IsRow H' v r := by
  cases r with
  | pick w ts => obtain ⟨p, q, h1, h2, h3⟩ := h; exact ⟨p, q, h1, e _ _ h2, e _ _ h3⟩
  | _ => obtain ⟨p, h1, h2⟩ := h; exact ⟨p, h1, e _ _ h2⟩
theorem IsRow.up {H H' : Hp} {v : V} {r : Rw} (e : Ex H H') (h : IsRow H v r) : IsRow H' v r := h.upT (ExT.of e)
def Rows (H : Hp) (vs : List V) (rs : List Rw) : Prop := Paired (IsRow H) vs rs
theorem Rows.upT {H H' : Hp} (e : ExT H H') : ∀ {vs : List V} {rs : List Rw}, Rows H vs rs → Rows H' vs rs
  | _, _, .nil => .nil
  | _, _, .cons r t => .cons (r.upT e) (Rows.upT e t)
theorem Rows.up {H H' : Hp} (e : Ex H H') {vs : List V} {rs : List Rw} (h : Rows H vs rs) : Rows H' vs rs := h.upT (ExT.of e)
theorem Rows.len {H : Hp} {vs : List V} {rs : List Rw} (h : Rows H vs rs) : vs.length = rs.length := Paired.length h
theorem Rows.append {H : Hp} : ∀ {vs ws : List V} {rs ss : List Rw}, Rows H vs rs → Rows H ws ss → Rows H (vs ++ ws) (rs ++ ss)
  | _, _, _, _, .nil, s => s
  | _, _, _, _, .cons r t, s => .cons r (Rows.append t s)
theorem Rows.at {H : Hp} : ∀ {vs : List V} {rs : List Rw} {i : Nat} {x : V}, Rows H vs rs → vs[i]? = some x → ∃ r, rs[i]? = some r ∧ IsRow H x r
  | _, _, _, _, .nil, e => by simp at e
  | _, _, 0, _, .cons r _, e => by simp at e; subst e; exact ⟨_, rfl, r⟩
  | _, _, i + 1, x, .cons _ t, e => by
    obtain ⟨u, h1, h2⟩ := Rows.at (i := i) (x := x) t (by simpa using e)
    exact ⟨u, by simpa using h1, h2⟩
theorem Rows.get {H : Hp} {vs : List V} {rs : List Rw} {i : Nat} {r : Rw} (h : Rows H vs rs) (e : rs[i]? = some r) : ∃ x, vs[i]? = some x ∧ IsRow H x r := by
  have hi : i < vs.length := by
    rw [h.len]
    exact (List.getElem?_eq_some_iff.mp e).1
  obtain ⟨r', e', q⟩ := h.at (List.getElem?_eq_getElem hi)
  rw [e] at e'
  cases e'
  exact ⟨_, List.getElem?_eq_getElem hi, q⟩
theorem Rows.dropLast {H : Hp} : ∀ {vs : List V} {rs : List Rw}, Rows H vs rs → Rows H vs.dropLast rs.dropLast
  | _, _, .nil => .nil
  | _, _, .cons r .nil => .nil
  | _, _, .cons r (.cons r2 t) => .cons r (Rows.dropLast (.cons r2 t))
theorem Rows.take {H : Hp} : ∀ {vs : List V} {rs : List Rw} (n : Nat), Rows H vs rs → Rows H (vs.take n) (rs.take n)
  | _, _, 0, _ => .nil
  | _, _, _ + 1, .nil => .nil
  | _, _, n + 1, .cons r t => .cons r (Rows.take n t)
/-- the tuple of a row, from its tag on -/
theorem IsRow.tup {H : Hp} {v : V} {r : Rw} (h : IsRow H v r) : ∃ p xs, v = .ref p ∧ H p = some (.tup (.str r.tag :: xs)) := by
  cases r with
  | pick w ts => obtain ⟨p, q, h1, h2, _⟩ := h; exact ⟨p, _, h1, h2⟩
  | _ => obtain ⟨p, h1, h2⟩ := h; exact ⟨p, _, h1, h2⟩
/-- a list of rows at an address, a row given back -/
def LRows (rs : List Rw) : V → Hp → Prop := fun v H => ∃ p vs, v = .ref p ∧ H p = some (.lst vs) ∧ Rows H vs rs
def ARow (r : Rw) : V → Hp → Prop := fun v H => IsRow H v r
theorem at_get {xs : List V} {i : Int} (h0 : 0 ≤ i) (h1 : i < xs.length) : atI xs i = some (xs.getD i.toNat .non) := by
  have e : i = ((i.toNat : Nat) : Int) := by omega
  have h2 : i.toNat < xs.length := by omega
  rw [e]
  refine atI_nat ?_
  rw [List.getElem?_eq_getElem h2, Int.toNat_natCast, List.getD_eq_getElem?_getD, List.getElem?_eq_getElem h2]
  rfl
theorem atI_hd {v : V} {xs : List V} : atI (v :: xs) 0 = some v := atI_nat (j := 0) rfl
theorem at_strs (l : List Str) {i : Int} (h0 : 0 ≤ i) (h1 : i < l.length) : atI (l.map V.str) i = some (.str (l.getD i.toNat "")) := by
  have e : i = ((i.toNat : Nat) : Int) := by omega
  have h2 : i.toNat < l.length := by omega
  rw [e]
  refine atI_nat ?_
  rw [List.getElem?_map, List.getElem?_eq_getElem h2, Int.toNat_natCast, List.getD_eq_getElem?_getD, List.getElem?_eq_getElem h2]
  rfl
theorem at_ints (l : List Int) {i : Int} (h0 : 0 ≤ i) (h1 : i < l.length) : atI (l.map V.int) i = some (.int (l.getD i.toNat 0)) := by
  have e : i = ((i.toNat : Nat) : Int) := by omega
  have h2 : i.toNat < l.length := by omega
  rw [e]
  refine atI_nat ?_
  rw [List.getElem?_map, List.getElem?_eq_getElem h2, Int.toNat_natCast, List.getD_eq_getElem?_getD, List.getElem?_eq_getElem h2]
  rfl
/-! ### rows made -/
section
variable {K : PySem.W.Frag} {σ : L2.St} {H H' : Hp} {ta tb te tr tw tt : TE} {r : Rw} {rs ss : List Rw}
theorem er_nil : EvAP tNil σ H (fun vs H2 => Rows H2 vs []) := fun H1 _ _ q => q [] H1 (Ex.refl H1) .nil
theorem er_cons {tr : TA} (h : EvP te σ H (ARow r)) (h2 : EvAP tr σ H (fun vs H2 => Rows H2 vs rs)) : EvAP (tCons te tr) σ H (fun vs H2 => Rows H2 vs (r :: rs)) := fun H1 e _ q =>
  h H1 e _ fun v H2 e2 hv => h2 H2 (e.trans e2) _ fun vs H3 e3 hvs => q _ H3 (e2.trans e3) (.cons (IsRow.up e3 hv) hvs)
theorem elr_lst {ta : TA} (h : EvAP ta σ H (fun vs H2 => Rows H2 vs rs)) (hl : rs.length ≤ 100000) : EvP (tLst ta) σ H (LRows rs) := fun H1 e _ q =>
  h H1 e _ fun vs H2 e2 hv => ⟨sz_of (by rw [hv.len]; exact hl), fun p hp => q _ _ (e2.trans (Ex.new hp)) ⟨p, vs, rfl, upd_same, hv.up (Ex.new hp)⟩⟩
theorem LRows.up {v : V} (e : Ex H H') (h : LRows rs v H) : LRows rs v H' := by
  obtain ⟨p, vs, h1, h2, h3⟩ := h
  exact ⟨p, vs, h1, e _ _ h2, h3.up e⟩
theorem elr_cat (ha : EvP ta σ H (LRows rs)) (hb : EvP tb σ H (LRows ss)) (hl : rs.length + ss.length ≤ 100000) : EvP (tOp rCat ta tb) σ H (LRows (rs ++ ss)) := fun H1 e Q q =>
  ha H1 e _ fun v H2 e2 hv => hb H2 (e.trans e2) _ fun u H3 e3 hu => by
    obtain ⟨p, vs, rfl, h1, h2⟩ := hv
    obtain ⟨p', us, rfl, h3, h4⟩ := hu
    refine ⟨p, p', vs, us, rfl, rfl, e3 _ _ h1, h3, sz_of (by rw [h2.len, h4.len]; exact hl), fun z hz => q _ _ (e2.trans (e3.trans (Ex.new hz))) ⟨z, _, rfl, upd_same, Rows.append ((h2.up e3).up (Ex.new hz)) (h4.up (Ex.new hz))⟩⟩
theorem er_var {i : Nat} {v : V} (h : σ[i]? = some (some v)) (hr : IsRow H v r) : EvP (tVar i) σ H (ARow r) := fun H1 e Q q => ⟨v, h, q v H1 (Ex.refl H1) (hr.up e)⟩
theorem elr_var {i : Nat} {v : V} (h : σ[i]? = some (some v)) (hr : LRows rs v H) : EvP (tVar i) σ H (LRows rs) := fun H1 e Q q => ⟨v, h, q v H1 (Ex.refl H1) (hr.up e)⟩
theorem er_tup {ta : TA} {xs : List V} (h : EvA ta σ H xs) (hl : xs.length ≤ 100000) (k : ∀ p H2, H2 p = some (.tup xs) → IsRow H2 (.ref p) r) : EvP (tTup ta) σ H (ARow r) := fun H1 e _ q =>
  h H1 e _ fun H2 e2 => ⟨sz_of hl, fun p hp => q _ _ (e2.trans (Ex.new hp)) (k p _ upd_same)⟩
theorem er_lendT {ta : TA} {h k : Str} {n : Int} (a : EvA ta σ H [.str "lend", .str h, .str k, .int n]) : EvP (tTup ta) σ H (ARow (.lend h k (.thing n))) := er_tup a (Nat.le_of_ble_eq_true rfl) fun p _ e => ⟨p, rfl, e⟩
theorem er_lendW {ta : TA} {h k : Str} {n : Str} (a : EvA ta σ H [.str "lend", .str h, .str k, .str n]) : EvP (tTup ta) σ H (ARow (.lend h k (.word n))) := er_tup a (Nat.le_of_ble_eq_true rfl) fun p _ e => ⟨p, rfl, e⟩
theorem er_either {ta : TA} (a : EvA ta σ H [.str "either"]) : EvP (tTup ta) σ H (ARow .either) := er_tup a (Nat.le_of_ble_eq_true rfl) fun p _ e => ⟨p, rfl, e⟩
theorem er_or {ta : TA} (a : EvA ta σ H [.str "or"]) : EvP (tTup ta) σ H (ARow .or) := er_tup a (Nat.le_of_ble_eq_true rfl) fun p _ e => ⟨p, rfl, e⟩
theorem er_again {ta : TA} (a : EvA ta σ H [.str "again"]) : EvP (tTup ta) σ H (ARow .again) := er_tup a (Nat.le_of_ble_eq_true rfl) fun p _ e => ⟨p, rfl, e⟩
theorem er_fin {ta : TA} (a : EvA ta σ H [.str "end"]) : EvP (tTup ta) σ H (ARow .fin) := er_tup a (Nat.le_of_ble_eq_true rfl) fun p _ e => ⟨p, rfl, e⟩
theorem er_back {ta : TA} {h : Str} (a : EvA ta σ H [.str "back", .str h]) : EvP (tTup ta) σ H (ARow (.back h)) := er_tup a (Nat.le_of_ble_eq_true rfl) fun p _ e => ⟨p, rfl, e⟩
theorem er_look {ta : TA} {h : Str} (a : EvA ta σ H [.str "look", .str h]) : EvP (tTup ta) σ H (ARow (.look h)) := er_tup a (Nat.le_of_ble_eq_true rfl) fun p _ e => ⟨p, rfl, e⟩
theorem er_change {ta : TA} {h : Str} (a : EvA ta σ H [.str "change", .str h]) : EvP (tTup ta) σ H (ARow (.change h)) := er_tup a (Nat.le_of_ble_eq_true rfl) fun p _ e => ⟨p, rfl, e⟩
theorem er_pick {tt : TA} {w : Str} {vs : List V} {ts : List Int} (a : Ev tw σ H (.str w)) (b : EvA tt σ H vs) (e : vs = ts.map V.int) (hl : vs.length ≤ 100000) : EvP (tTup (tCons (tC (.str "pick")) (tCons tw (tCons (tTup tt) tNil)))) σ H (ARow (.pick w ts)) := fun H1 e1 _ q =>
  a H1 e1 _ fun H2 e2 => b H2 (e1.trans e2) _ fun H3 e3 => ⟨sz_of hl, fun y hy => ⟨by show 3 ≤ sizeLine; decide, fun x hx => q _ _ (((e2.trans e3).trans (Ex.new hy)).trans (Ex.new hx)) ⟨x, y, rfl, upd_same, by
    subst e
    exact Ex.new hx _ _ upd_same⟩⟩⟩
end
def rTupS (K : PySem.W.Frag) : List V → Hp → VK → Prop := fun xs H Q => ∃ p ys, xs = [.ref p] ∧ ((SqL K H p ys ∧ ∀ l, H l = none → Q (.ref l) (upd H l (.tup ys))) ∨ (SqT K H p ys ∧ Q (.ref p) H))
section
variable {K : PySem.W.Frag} {σ : L2.St} {H H' : Hp} {ta tb te tr tw tl : TE} {t : TT} {r : Rw} {rs ss : List Rw}
theorem eu_tuple {xs : List V} (h : EvL ta σ H xs) : EvU (tCB (rTupS K) (tCons ta tNil)) σ H xs := fun H1 e Q q =>
  h H1 e _ fun p H2 hp e2 h2 => ⟨p, xs, rfl, .inl ⟨sq_of h2, fun l hl => q l _ (fresh_back e2 hl) (e2.trans (Ex.new hl)) upd_same⟩⟩
theorem et_yes : EvT tYes σ H true := fun H1 _ Q q => q H1 (Ex.refl H1)
theorem er_pickV {ta : TA} {w : Str} {q : Addr} {ts : List Int} (a : EvA ta σ H [.str "pick", .str w, .ref q]) (hq : H q = some (.tup (ts.map V.int))) : EvP (tTup ta) σ H (ARow (.pick w ts)) := fun H1 e1 _ k =>
  a H1 e1 _ fun H2 e2 => ⟨by show 3 ≤ sizeLine; decide, fun x hx => k _ _ (e2.trans (Ex.new hx)) ⟨x, q, rfl, upd_same, (Ex.new hx) _ _ ((e1.trans e2) _ _ hq)⟩⟩
theorem ev_tag {i : Nat} {x : V} (h : σ[i]? = some (some x)) (hr : IsRow H x r) : Ev (tOp (rIxT K) (tVar i) (tC (.int 0))) σ H (.str r.tag) := by
  obtain ⟨p, xs, rfl, hp⟩ := hr.tup
  exact ev_ixT (ev_var h) (st_of hp) ev_c (atI_nat (j := 0) rfl)
theorem given_rows {f : Nat → Bool} {v : Nat → V} {p : Rw → Bool} {vs : List V} (hR : Rows H vs rs) (hf : ∀ i r, rs[i]? = some r → f i = p r) (hv : ∀ i x, vs[i]? = some x → v i = x) : ∀ n, n ≤ rs.length → Rows H (given n f v) ((rs.take n).filter p)
  | 0, _ => .nil
  | n + 1, h => by
    have hn : n < rs.length := h
    obtain ⟨x, hx, hX⟩ := hR.get (List.getElem?_eq_getElem hn)
    have ih := given_rows hR hf hv n (by omega)
    have e1 : f n = p rs[n] := hf n _ (List.getElem?_eq_getElem hn)
    rw [List.take_add_one, List.getElem?_eq_getElem hn, List.filter_append]
    cases hp : p rs[n] with
    | true =>
      rw [given_yes (by rw [e1, hp]), hv n x hx]
      refine Rows.append ih ?_
      rw [show (some rs[n]).toList = [rs[n]] from rfl, List.filter_cons, if_pos hp]
      exact .cons hX .nil
    | false =>
      rw [given_no (by rw [e1, hp])]
      rw [show (some rs[n]).toList = [rs[n]] from rfl, List.filter_cons, if_neg (by rw [hp]; decide)]
      show Rows H _ (_ ++ [])
      rw [List.append_nil]
      exact ih
/-- [x for x in rows if p x] -/
theorem elr_filter {a : Addr} {vs : List V} {j : Nat} {ws : List Nat} {p : Rw → Bool} (h : Ev tl σ H (.ref a)) (hx : SqL K H a vs) (hR : Rows H vs rs) (hz : vs.length ≤ 40000) (hw : ∀ x, wipe ((wipe σ ws).set j (some x)) ws = wipe σ ws)
    (ht : ∀ x r H1, Ex H H1 → IsRow H1 x r → EvT t ((wipe σ ws).set j (some x)) H1 (p r)) (hj : ∀ x, ((wipe σ ws).set j (some x))[j]? = some (some x)) :
    ∃ us, EvL (tLc (iList K tl) (gName j) t (tVar j) ws) σ H us ∧ Rows H us (rs.filter p) := by
  have hl := hR.len
  refine ⟨given vs.length (fun i => p (rs.getD i .fin)) (fun i => vs.getD i .non), el_lcL _ _ h hx hz hw (fun i x H1 e hi => ?_) (fun i x H1 e hi _ => ?_), ?_⟩
  · obtain ⟨r, hr, hX⟩ := hR.at hi
    rw [List.getD_eq_getElem?_getD, hr]
    exact ht x r H1 e (hX.up e)
  · rw [List.getD_eq_getElem?_getD, hi]
    exact ev_var (hj x)
  · have := given_rows (f := fun i => p (rs.getD i .fin)) (v := fun i => vs.getD i .non) (p := p) hR (fun i r hr => by rw [List.getD_eq_getElem?_getD, hr]; rfl) (fun i x hx => by rw [List.getD_eq_getElem?_getD, hx]; rfl) rs.length (Nat.le_refl _)
    rw [List.take_length] at this
    rw [hl]
    exact this
end
section
variable {K : PySem.W.Frag} {σ : L2.St} {H H' : Hp} {ta tb te tr tw tl : TE} {t : TT} {r : Rw} {rs ss : List Rw} {D : Ends} {tz : TS}
theorem epl_filter (p : Rw → Bool) {a : Addr} {vs : List V} {j : Nat} {ws : List Nat} (h : Ev tl σ H (.ref a)) (hx : SqL K H a vs) (hR : Rows H vs rs) (hz : vs.length ≤ 40000) (hw : ∀ x, wipe ((wipe σ ws).set j (some x)) ws = wipe σ ws)
    (ht : ∀ x r H1, Ex H H1 → IsRow H1 x r → EvT t ((wipe σ ws).set j (some x)) H1 (p r)) (hj : ∀ x, ((wipe σ ws).set j (some x))[j]? = some (some x)) :
    EvPL (tLc (iList K tl) (gName j) t (tVar j) ws) σ H (fun us H2 => Rows H2 us (rs.filter p)) := fun H1 e Q q => by
  obtain ⟨us, h1, h2⟩ := elr_filter h hx hR hz hw ht hj
  exact h1 H1 e Q fun p H2 hp e2 hq => q p us H2 hp e2 hq (h2.up (e.trans e2))
theorem q_asgPL {i : Nat} {R : List V → Hp → Prop} (h : EvPL te σ H R) (k : ∀ p us H1, H p = none → Ex H H1 → H1 p = some (.lst us) → R us H1 → tz D (σ.set i (some (.ref p))) H1) : tSeq (tAsg te (gName i)) tz D σ H :=
  h H (Ex.refl H) _ fun p us H1 hp e h1 hr => k p us H1 hp e h1 hr
end
section
variable {K : PySem.W.Frag} {σ : L2.St} {H H' : Hp} {ta tb te tr tw tl : TE} {t : TT} {r : Rw} {rs ss : List Rw} {D : Ends} {tz : TS}
theorem s_asgPL {i : Nat} {R : List V → Hp → Prop} (h : EvPL te σ H R) (k : ∀ p us H1, H p = none → Ex H H1 → H1 p = some (.lst us) → R us H1 → D.nx (σ.set i (some (.ref p))) H1) : tAsg te (gName i) D σ H :=
  h H (Ex.refl H) _ fun p us H1 hp e h1 hr => k p us H1 hp e h1 hr
theorem elr_catL (ha : EvP ta σ H (LRows rs)) (hb : EvP tb σ H (LRows ss)) (hl : rs.length + ss.length ≤ 100000) : EvPL (tOp rCat ta tb) σ H (fun us H2 => Rows H2 us (rs ++ ss)) := fun H1 e Q q =>
  ha H1 e _ fun v H2 e2 hv => hb H2 (e.trans e2) _ fun u H3 e3 hu => by
    obtain ⟨p, vs, rfl, h1, h2⟩ := hv
    obtain ⟨p', us, rfl, h3, h4⟩ := hu
    refine ⟨p, p', vs, us, rfl, rfl, e3 _ _ h1, h3, sz_of (by rw [h2.len, h4.len]; exact hl), fun z hz => q z _ _ (fresh_back (e2.trans e3) hz) (e2.trans (e3.trans (Ex.new hz))) upd_same (Rows.append ((h2.up e3).up (Ex.new hz)) (h4.up (Ex.new hz)))⟩
theorem ep_PL {rs : List Rw} (h : EvPL te σ H (fun us H2 => Rows H2 us rs)) : EvP te σ H (LRows rs) := fun H1 e Q q => h H1 e Q fun p us H2 _ e2 h2 hr => q _ H2 e2 ⟨p, us, rfl, h2, hr⟩
theorem s_pop {l : Addr} {xs : List V} (hl : H l = some (.lst xs)) (ha : Ev ta σ H (.ref l)) (hz : 0 < xs.length) (k : ∀ H1, Ex H H1 → D.nx σ (upd H1 l (.lst xs.dropLast))) : tDrop (tBM0 K "list" rPop ta) D σ H := ha H (Ex.refl H) _ fun H1 e1 =>
  ⟨Or.inl ⟨rfl, xs, sq_of (e1 l _ hl)⟩, l, xs, xs[xs.length - 1]'(by omega), rfl, rfl, e1 l _ hl, List.getElem?_eq_getElem (by omega), k H1 e1⟩
theorem q_pop {l : Addr} {xs : List V} (hl : H l = some (.lst xs)) (ha : Ev ta σ H (.ref l)) (hz : 0 < xs.length) (k : ∀ H1, Ex H H1 → tz D σ (upd H1 l (.lst xs.dropLast))) : tSeq (tDrop (tBM0 K "list" rPop ta)) tz D σ H := s_pop (D := { D with nx := tz D }) hl ha hz k
/-- [row for x in xs], a new row each -/
theorem epl_map {a : Addr} {xs : List V} {j : Nat} {ws : List Nat} (g : Nat → Rw) (h : Ev tl σ H (.ref a)) (hx : SqL K H a xs) (hz : xs.length ≤ 40000) (hw : ∀ x, wipe ((wipe σ ws).set j (some x)) ws = wipe σ ws)
    (he : ∀ i x H1, Ex H H1 → xs[i]? = some x → EvP te ((wipe σ ws).set j (some x)) H1 (ARow (g i))) : EvPL (tLc (iList K tl) (gName j) tYes te ws) σ H (fun us H2 => Rows H2 us ((List.range xs.length).map g)) := fun H0 e Q q => h H0 e _ fun H1 e1 => ⟨a, rfl, ⟨xs, ex_l (e.trans e1) hx⟩, fun Dl hD =>
  lc_list (K := K) (a := a) (xs := xs) (fun i H' => H1 Dl = none ∧ Ex H1 H' ∧ ∃ acc, H' Dl = some (.lst acc) ∧ Rows H' acc ((List.range i).map g)) ⟨hD, Ex.new hD, [], upd_same, .nil⟩ (fun i H' _ p => ex_l ((e.trans e1).trans p.2.1) hx)
    (fun i x H' hi p => ⟨hw x, by
      obtain ⟨p1, p2, acc, p3, p4⟩ := p
      have hil : i < xs.length := (List.getElem?_eq_some_iff.mp hi).1
      have hal : acc.length = i := by rw [p4.len, List.length_map, List.length_range]
      show te ((wipe σ ws).set j (some x)) H' fun y H4 => ∃ acc, H4 Dl = some (.lst acc) ∧ acc.length < sizeLine ∧ (H1 Dl = none ∧ Ex H1 (upd H4 Dl (.lst (acc ++ [y]))) ∧ ∃ acc2, (upd H4 Dl (.lst (acc ++ [y]))) Dl = some (.lst acc2) ∧ Rows (upd H4 Dl (.lst (acc ++ [y]))) acc2 ((List.range (i + 1)).map g))
      refine he i x H' ((e.trans e1).trans p2) hi H' (Ex.refl H') _ fun y H4 e4 hy => ⟨acc, e4 _ _ p3, sz_lt (by omega), p1, Ex.mut (p2.trans e4) p1, acc ++ [y], upd_same, ?_⟩
      have x4 : ExT H4 (upd H4 Dl (.lst (acc ++ [y]))) := ExT.lst (e4 _ _ p3)
      rw [List.range_succ, List.map_append]
      exact Rows.append ((p4.up e4).upT x4) (.cons (IsRow.upT x4 hy) .nil)⟩) (fun H' p => by
      obtain ⟨p1, p2, acc, p3, p4⟩ := p
      exact q Dl acc H' (fresh_back e1 p1) (e1.trans p2) p3 p4)⟩
end
section
variable {K : PySem.W.Frag} {σ : L2.St} {H H' : Hp} {ta tb te tr tw tl : TE} {t : TT} {r : Rw} {rs ss : List Rw} {D : Ends} {tz tu : TS}
/-- for i, x in enumerate(xs) -/
theorem q_forE {a : Addr} {xs : List V} {j k : Nat} (h : Ev tl σ H (.ref a)) (hx : SqL K H a xs) (Pv : Nat → L2.St → Hp → Prop) (h0 : ∀ H1, Ex H H1 → Pv 0 σ H1) (hl : ∀ i σ' H', i ≤ xs.length → Pv i σ' H' → SqL K H' a xs)
    (hs : ∀ (i : Nat) x σ' H' H2, xs[i]? = some x → Pv i σ' H' → Ex H' H2 → tu { D with nx := Pv (i + 1), ct := Pv (i + 1), bk := tz D } ((σ'.set j (some (.int (i : Int)))).set k (some x)) H2) (hd : ∀ σ' H', Pv xs.length σ' H' → tz D σ' H') :
    tSeq (tFor (iEnum K (tCons tl tNil)) (gTup K 2 (gCons (gName j) (gCons (gName k) gNil))) tu) tz D σ H :=
  h H (Ex.refl H) _ fun H1 e => ⟨a, xs, rfl, ex_l e hx, for_it (D := { D with nx := tz D }) walk_enum Pv (h0 H1 e) hl (fun i v σ' H' H2 hi p y => by
    obtain ⟨T, x1, x2, rfl, hT, rfl, e1, e2⟩ := y
    cases e1
    exact ⟨T, [.int (i : Int), x2], rfl, SqT.of upd_same, rfl, _, _, rfl, _, _, rfl, rfl, hs i x2 σ' H' _ e2 p (Ex.new hT)⟩) hd⟩
theorem q_forEN {xs : List V} {j k : Nat} (h : EvL tl σ H xs) (Pv : Addr → Nat → L2.St → Hp → Prop) (h0 : ∀ p H1, H p = none → Ex H H1 → H1 p = some (.lst xs) → Pv p 0 σ H1) (hl : ∀ p i σ' H', i ≤ xs.length → Pv p i σ' H' → SqL K H' p xs)
    (hs : ∀ p (i : Nat) x σ' H' H2, xs[i]? = some x → Pv p i σ' H' → Ex H' H2 → tu { D with nx := Pv p (i + 1), ct := Pv p (i + 1), bk := tz D } ((σ'.set j (some (.int (i : Int)))).set k (some x)) H2) (hd : ∀ p σ' H', Pv p xs.length σ' H' → tz D σ' H') :
    tSeq (tFor (iEnum K (tCons tl tNil)) (gTup K 2 (gCons (gName j) (gCons (gName k) gNil))) tu) tz D σ H :=
  h H (Ex.refl H) _ fun p H1 hp e h1 => ⟨p, xs, rfl, sq_of h1, for_it (D := { D with nx := tz D }) walk_enum (Pv p) (h0 p H1 hp e h1) (hl p) (fun i v σ' H' H2 hi q y => by
    obtain ⟨T, x1, x2, rfl, hT, rfl, e1, e2⟩ := y
    cases e1
    exact ⟨T, [.int (i : Int), x2], rfl, SqT.of upd_same, rfl, _, _, rfl, _, _, rfl, rfl, hs p i x2 σ' H' _ e2 q (Ex.new hT)⟩) (hd p)⟩
end
theorem given_all (n : Nat) (v : Nat → V) : given n (fun _ => true) v = (List.range n).map v := by
  unfold given
  rw [List.filter_eq_self.mpr (fun _ _ => rfl)]
theorem tag_named (r : Rw) : inV (.str r.tag) [V.str "lend", V.str "pick"] = r.named := by cases r <;> rfl
theorem tag_opens (r : Rw) : inV (.str r.tag) [V.str "lend", V.str "pick", V.str "either", V.str "again"] = r.opens := by cases r <;> rfl
theorem tag_lend (r : Rw) : decide (V.str r.tag = V.str "lend") = r.isLend := by cases r <;> rfl
theorem tag_fin (r : Rw) : decide (V.str r.tag = V.str "end") = r.isFin := by cases r <;> rfl
theorem tag_or (r : Rw) : decide (V.str r.tag = V.str "or") = r.isOr := by cases r <;> rfl
theorem tag_either (r : Rw) : decide (V.str r.tag = V.str "either") = r.isEither := by cases r <;> rfl
theorem rows_last {H : Hp} {vs : List V} {rs : List Rw} (h : Rows H vs rs) (h1 : 0 < vs.length) : ∃ x, atI vs (-1) = some x ∧ IsRow H x (rs.getD (rs.length - 1) .fin) := by
  have hl := h.len
  have h2 : rs.length - 1 < rs.length := by omega
  obtain ⟨x, hx, hr⟩ := h.get (List.getElem?_eq_getElem h2)
  have hne : vs ≠ [] := fun z => by
    subst z
    simp at h1
  refine ⟨x, ?_, ?_⟩
  · have e : vs = vs.dropLast ++ [x] := by
      have h3 := List.dropLast_concat_getLast hne
      have h4 : vs.getLast hne = x := by
        rw [List.getLast_eq_getElem]
        have := (List.getElem?_eq_some_iff.mp hx).2
        rw [← this]
        congr 1
        omega
      rw [h4] at h3
      exact h3.symm
    rw [e]
    exact atI_last _ _
  · rw [List.getD_eq_getElem?_getD, List.getElem?_eq_getElem h2]
    exact hr
/-! ### menus -/
def kindM (x : Int) : Str := if x % 2 = 0 then "read" else "write"
def pick2 {α : Type} (x : Int) (a b : α) : α := if x % 2 = 0 then a else b
def pick3 {α : Type} (x : Int) (a b c : α) : α := if x % 3 = 0 then a else if x % 3 = 1 then b else c
theorem at_nat' {xs : List V} {z : Int} (j : Nat) {v : V} (e : z = (j : Int)) (h : xs[j]? = some v) : atI xs z = some v := by
  rw [e]
  exact atI_nat h
theorem at_kind {x : Int} : atI [V.str "read", V.str "write"] (x % 2) = some (V.str (kindM x)) := by
  unfold kindM
  by_cases h : x % 2 = 0
  · rw [if_pos h]; exact at_nat' 0 (by omega) rfl
  · rw [if_neg h]; exact at_nat' 1 (by omega) rfl
theorem at2s {a b : Str} {x : Int} : atI [V.str a, V.str b] (x % 2) = some (V.str (pick2 x a b)) := by
  unfold pick2
  by_cases h : x % 2 = 0
  · rw [if_pos h]; exact at_nat' 0 (by omega) rfl
  · rw [if_neg h]; exact at_nat' 1 (by omega) rfl
theorem at3s {a b c : Str} {x : Int} : atI [V.str a, V.str b, V.str c] (x % 3) = some (V.str (pick3 x a b c)) := by
  unfold pick3
  by_cases h : x % 3 = 0
  · rw [if_pos h]; exact at_nat' 0 (by omega) rfl
  · rw [if_neg h]
    by_cases h2 : x % 3 = 1
    · rw [if_pos h2]; exact at_nat' 1 (by omega) rfl
    · rw [if_neg h2]; exact at_nat' 2 (by omega) rfl
theorem at3i {a b c : Int} {x : Int} : atI [V.int a, V.int b, V.int c] (x % 3) = some (V.int (pick3 x a b c)) := by
  unfold pick3
  by_cases h : x % 3 = 0
  · rw [if_pos h]; exact at_nat' 0 (by omega) rfl
  · rw [if_neg h]
    by_cases h2 : x % 3 = 1
    · rw [if_pos h2]; exact at_nat' 1 (by omega) rfl
    · rw [if_neg h2]; exact at_nat' 2 (by omega) rfl
theorem dp_ints {K : PySem.W.Frag} {H : Hp} : ∀ ns : List Int, DpAll K H (ns.map V.int) (ns.map PyData.int)
  | [] => .nil
  | n :: r => .cons (.int n) (dp_ints r)
end BD
namespace BD
open PySem PySem.Spec PyProof.Rows L2 Evl
def topS (i : Nat) : Stmt := PySem.Challenge.pw_borrowdesk_k02_blocks.main.body.getD i (.Pass ⟨0, 0, 0, 0⟩)
local macro_rules | `(tactic| walk_at "ev") => `(tactic| first
  | ((with_reducible apply ev_var) ; rfl)
  | with_reducible exact ev_c
  | ((with_reducible apply ev_I0) <;> walk_at "ev")
  | ((with_reducible apply ev_e9) <;> walk_at "ev")
  | ((with_reducible apply ev_I) <;> walk_at "ev")
  | ((with_reducible apply ev_eq) <;> walk_at "ev")
  | ((with_reducible apply ev_ne) <;> walk_at "ev")
  | ((with_reducible apply ev_neg) <;> walk_at "ev")
  | ((with_reducible apply ev_ixN) <;> walk_at "ev")
  | ((with_reducible apply ev_ixL) <;> walk_at "ev")
  | ((with_reducible apply ev_inN) <;> walk_at "ev")
  | ((with_reducible apply ev_inT) <;> walk_at "ev")
  | ((with_reducible apply ev_ixT) <;> walk_at "ev")
  | ((with_reducible apply ev_ixS) <;> walk_at "ev")
  | ((with_reducible apply ev_len') <;> walk_at "ev")
  | ((with_reducible apply et_test) <;> walk_at "ev")
  | ((with_reducible apply et_and) <;> walk_at "ev")
  | ((with_reducible apply et_or) <;> walk_at "ev")
  | ((with_reducible apply et_not) <;> walk_at "ev")
  | ((with_reducible apply et_B) <;> walk_at "ev")
  | ((with_reducible apply el_lst) <;> walk_at "ev")
  | ((with_reducible apply eu_tup) <;> walk_at "ev")
  | ((with_reducible apply ea_cons) <;> walk_at "ev")
  | with_reducible exact ea_nil
  | with_reducible assumption
  | ((with_reducible apply ex_l' ; assumption) ; walk_at "ex")
  | ((with_reducible apply ex_t' ; assumption) ; walk_at "ex")
  | (intro _ ; walk_at "ev")
  | (with_reducible first | exact atI_hd | exact at_kind | exact at2s | exact at3s | exact at3i)
  | (first | exact rfl | exact Nat.le_of_ble_eq_true rfl | exact ⟨by decide, by decide⟩ | decide | exact Or.inl ⟨by omega, by omega⟩ | exact Or.inr ⟨by omega, by omega⟩ | omega)
  | skip)
local macro_rules | `(tactic| walk_at "ex") => `(tactic| first
  | assumption
  | exact Ex.refl _
  | (refine' Ex.trans ?_ (by assumption) ; walk_at "ex"))
local macro_rules | `(tactic| walk_at "row") => `(tactic| first
  | (with_reducible exact er_nil)
  | ((with_reducible apply er_cons) <;> walk_at "row")
  | (((with_reducible apply er_var) ; rfl) ; walk_at "isrow")
  | (((with_reducible apply elr_var) ; rfl) ; walk_at "isrow")
  | ((with_reducible apply elr_cat) <;> walk_at "row")
  | ((with_reducible apply elr_lst) <;> walk_at "row")
  | ((with_reducible apply er_fin) <;> walk_at "ev")
  | ((with_reducible apply er_lendT) <;> walk_at "ev")
  | ((with_reducible apply er_lendW) <;> walk_at "ev")
  | ((with_reducible apply er_pick) <;> walk_at "ev")
  | ((with_reducible apply er_either) <;> walk_at "ev")
  | ((with_reducible apply er_or) <;> walk_at "ev")
  | ((with_reducible apply er_again) <;> walk_at "ev")
  | ((with_reducible apply er_back) <;> walk_at "ev")
  | ((with_reducible apply er_look) <;> walk_at "ev")
  | ((with_reducible apply er_change) <;> walk_at "ev")
  | exact Nat.le_of_ble_eq_true rfl
  | skip)
local macro_rules | `(tactic| walk_at "isrow") => `(tactic| first
  | assumption
  | (refine IsRow.up ?_ (by assumption) ; walk_at "ex")
  | (refine LRows.up ?_ (by assumption) ; walk_at "ex"))

abbrev s_l_cell_at : Stmt := topS 8
theorem sc_l_cell_at : FnScope ["_law_script", "_law_k"] ["_law_script", "_law_k"] (defScope s_l_cell_at) := ⟨rfl, rfl, rfl, by decide +kernel, rfl, by decide +kernel, by decide +kernel⟩
abbrev s_l_thing : Stmt := topS 11
theorem sc_l_thing : FnScope ["_law_cell", "_law_base"] ["_law_cell", "_law_base"] (defScope s_l_thing) := ⟨rfl, rfl, rfl, by decide +kernel, rfl, by decide +kernel, by decide +kernel⟩
abbrev s_l_draw : Stmt := topS 10
theorem sc_l_draw : FnScope ["_law_script", "_law_base", "_law_style", "_law_size"] ["_law_script"] (defScope s_l_draw) := ⟨rfl, rfl, rfl, by decide +kernel, rfl, by decide +kernel, by decide +kernel⟩
section
variable {P : Program} {w : World} {K : PySem.W.Frag} {mg : Str → Option Value} {base : Heap}
def cellM (ns : List Int) (k : Int) : Int := ns.getD k.toNat 0
def spCell (K : PySem.W.Frag) : Sp := fun vs H Q _ => ∃ (a : Addr) (ns : List Int) (k : Int), vs = [.ref a, .int k] ∧ SqL K H a (ns.map V.int) ∧ 0 ≤ k ∧ RetV (.int (cellM ns k)) H Q
theorem ok_cell (D : Dn K mg "_law_cell_at" s_l_cell_at ["_law_script", "_law_k"]) (T : Blt mg) : Has P w K mg base "_law_cell_at" 1 ["_law_script", "_law_k"] (spCell K) := by
  refine D.ok sc_l_cell_at (fun vs H Q E h => ?_) (fun f cdv A outer s H vs Q E hr h => ?_)
  · obtain ⟨a, ns, k, rfl, _⟩ := h
    rfl
  · obtain ⟨a, ns, k, rfl, hS, h0, q⟩ := h
    refine ⟨_, (pss_cons (ps_if (pt_cmpR op_lt (pv 1) (pe_callB (show CallR _ _ (rLenS K) from call_len_seq) (by rfl) T.len_ (by decide +kernel) (pa_cons (pv 0) pa_nil)) (nomark _)) (pss_one (ps_ret (pe_ix (show IxR _ (rIxL K) from ix_list) (pv 0) (pv 1) (fun _ _ => rfl)))) pss_nil) (pss_one (ps_ret pe_int))), ?_⟩
    refine q_when (b := decide (k < ((ns.map V.int).length : Int))) ?_ (fun hb H1 e1 => ?_) (fun hb H1 e1 => ?_)
    · walk_at "ev"
    · have hb := of_decide_eq_true hb
      have hS := ex_l e1 hS
      refine s_ret (v := .int (cellM ns k)) ?_ (fun H2 e2 => q _ (e1.trans e2))
      rw [List.length_map] at hb
      walk_at "ev"
      exact at_ints ns h0 hb
    · have hb := of_decide_eq_false hb
      rw [List.length_map] at hb
      refine s_ret (v := .int 0) ?_ (fun H2 e2 => ?_)
      · walk_at "ev"
      · have := q H2 (e1.trans e2)
        unfold cellM at this
        rw [List.getD_eq_getElem?_getD, List.getElem?_eq_none (by omega)] at this
        exact this
theorem sp_cell {a : Addr} {ns : List Int} {k : Int} {H : Hp} (hS : SqL K H a (ns.map V.int)) (h0 : 0 ≤ k) : SpV (spCell K) [.ref a, .int k] H (.int (cellM ns k)) := fun H1 e Q q E =>
  ⟨a, ns, k, rfl, ex_l e hS, h0, q⟩
theorem ev_cell {a : Addr} {ns : List Int} {k : Int} {ta : TA} {σ : L2.St} {H : Hp} {E : XK} (h : EvA ta σ H [.ref a, .int k]) (hS : SqL K H a (ns.map V.int)) (h0 : 0 ≤ k) : Ev (tCall (spCell K) [] E ta) σ H (.int (cellM ns k)) :=
  ev_call h (sp_cell hS h0)
local macro_rules | `(tactic| walk_at "ev") => `(tactic| ((with_reducible apply ev_cell) <;> walk_at "ev"))
def thingM (c b : Int) : Int := if c % 8 = 7 then c / 8 % 1000000000 else (b + c % 3) % 1000000000
def spThing : Sp := fun vs H Q _ => ∃ (c b : Int), vs = [.int c, .int b] ∧ RetV (.int (thingM c b)) H Q
theorem ok_thing (D : Dn K mg "_law_thing" s_l_thing ["_law_cell", "_law_base"]) : Has P w K mg base "_law_thing" 1 ["_law_cell", "_law_base"] spThing := by
  refine D.ok sc_l_thing (fun vs H Q E h => ?_) (fun f cdv A outer s H vs Q E hr h => ?_)
  · obtain ⟨c, b, rfl, _⟩ := h
    rfl
  · obtain ⟨c, b, rfl, q⟩ := h
    refine ⟨_, (pss_cons (ps_if (pt_cmpR op_eq (pe_op op_mod (pv 0) pe_int) pe_int (nomark _)) (pss_one (ps_ret (pe_op op_mod (pe_op op_fdiv (pv 0) pe_int) (pe_op op_pow pe_int pe_int)))) pss_nil) (pss_one (ps_ret (pe_op op_mod (pe_op op_add (pv 1) (pe_op op_mod (pv 0) pe_int)) (pe_op op_pow pe_int pe_int))))), ?_⟩
    unfold thingM at q
    refine q_when (b := decide ((V.int (c % 8)) = V.int 7)) ?_ (fun hb H1 e1 => ?_) (fun hb H1 e1 => ?_)
    · walk_at "ev"
    · have hb := V.int.inj (of_decide_eq_true hb)
      rw [if_pos hb] at q
      refine s_ret ?_ (fun H2 e2 => q _ (e1.trans e2))
      walk_at "ev"
    · have hb : ¬ c % 8 = 7 := fun z => of_decide_eq_false hb (by rw [z])
      rw [if_neg hb] at q
      refine s_ret ?_ (fun H2 e2 => q _ (e1.trans e2))
      walk_at "ev"
theorem sp_thing {c b : Int} {H : Hp} : SpV spThing [.int c, .int b] H (.int (thingM c b)) := fun H1 e Q q E => ⟨c, b, rfl, q⟩
structure Draw where
  base : Int
  style : Int
  size : Int
  place : Int
  sign : Int
def Draw.vs (d : Draw) : List V := [.int d.base, .int d.style, .int d.size, .int d.place, .int d.sign]
structure Draw.Ok (d : Draw) : Prop where
  st0 : 0 ≤ d.style
  st4 : d.style < 4
  sz1 : 1 ≤ d.size
  sz12 : d.size ≤ 12
  pl0 : 0 ≤ d.place
  pl1 : d.place < d.size
  sg0 : 0 ≤ d.sign
  sg26 : d.sign < 26
def drawM (ns : List Int) : Draw where
  base := cellM ns 1 / 2 % 1000000000 * (cellM ns 1 % 2)
  style := cellM ns 2 / 8 % 4
  size := 1 + cellM ns 2 / 8 / 4 % 12
  place := cellM ns 1 % (1 + cellM ns 2 / 8 / 4 % 12)
  sign := cellM ns 0 % 26
theorem drawM_ok (ns : List Int) : (drawM ns).Ok := by
  have h : 0 < 1 + cellM ns 2 / 8 / 4 % 12 := by omega
  exact ⟨by show 0 ≤ cellM ns 2 / 8 % 4; omega, by show cellM ns 2 / 8 % 4 < 4; omega, by show 1 ≤ 1 + cellM ns 2 / 8 / 4 % 12; omega, by show 1 + cellM ns 2 / 8 / 4 % 12 ≤ 12; omega,
    Int.emod_nonneg _ (by omega), Int.emod_lt_of_pos _ h, by show 0 ≤ cellM ns 0 % 26; omega, by show cellM ns 0 % 26 < 26; omega⟩
def spDraw (K : PySem.W.Frag) : Sp := fun vs H Q _ => ∃ (a : Addr) (ns : List Int), vs = [.ref a] ∧ SqL K H a (ns.map V.int) ∧ RetL (drawM ns).vs H Q
theorem ok_draw (D : Dn K mg "_law_draw" s_l_draw ["_law_script"]) (h_l_cell_at : Has P w K mg base "_law_cell_at" 1 ["_law_script", "_law_k"] (spCell K)) : Has P w K mg base "_law_draw" 2 ["_law_script"] (spDraw K) := by
  refine D.ok sc_l_draw (fun vs H Q E h => ?_) (fun f cdv A outer s H vs Q E hr h => ?_)
  · obtain ⟨a, ns, rfl, _⟩ := h
    rfl
  · obtain ⟨a, ns, rfl, hS, q⟩ := h
    refine ⟨_, (pss_cons (ps_set (i := 1) sc_l_draw.nd rfl (Or.inl rfl) (pe_op op_mul (pe_op op_mod (pe_op op_fdiv (pe_own h_l_cell_at (hr.mono (by decide)) (by rfl) (pa_cons (pv 0) (pa_cons pe_int pa_nil))) pe_int) (pe_op op_pow pe_int pe_int)) (pe_op op_mod (pe_own h_l_cell_at (hr.mono (by decide)) (by rfl) (pa_cons (pv 0) (pa_cons pe_int pa_nil))) pe_int))) (pss_cons (ps_set (i := 2) sc_l_draw.nd rfl (Or.inl rfl) (pe_op op_fdiv (pe_own h_l_cell_at (hr.mono (by decide)) (by rfl) (pa_cons (pv 0) (pa_cons pe_int pa_nil))) pe_int)) (pss_cons (ps_set (i := 3) sc_l_draw.nd rfl (Or.inl rfl) (pe_op op_add pe_int (pe_op op_mod (pe_op op_fdiv (pv 2) pe_int) pe_int))) (pss_one (ps_ret (pe_lst (pa_cons (pv 1) (pa_cons (pe_op op_mod (pv 2) pe_int) (pa_cons (pv 3) (pa_cons (pe_op op_mod (pe_own h_l_cell_at (hr.mono (by decide)) (by rfl) (pa_cons (pv 0) (pa_cons pe_int pa_nil))) (pv 3)) (pa_cons (pe_op op_mod (pe_own h_l_cell_at (hr.mono (by decide)) (by rfl) (pa_cons (pv 0) (pa_cons pe_int pa_nil))) pe_int) pa_nil))))))))))), ?_⟩
    have hp : (0 : Int) < 1 + cellM ns 2 / 8 / 4 % 12 := by omega
    refine' q_asg ?_ (fun H1 e1 => ?_)
    rotate_left 1
    · walk_at "ev"
    refine' q_asg ?_ (fun H2 e2 => ?_)
    rotate_left 1
    · walk_at "ev"
    refine' q_asg ?_ (fun H3 e3 => ?_)
    rotate_left 1
    · walk_at "ev"
    refine s_retL (xs := (drawM ns).vs) ?_ (fun p H4 hp e4 h4 => q p H4 (fresh_back (show Ex H H3 by walk_at "ex") hp) (show Ex H H4 by walk_at "ex") h4)
    show EvL _ _ _ [.int (cellM ns 1 / 2 % 1000000000 * (cellM ns 1 % 2)), .int (cellM ns 2 / 8 % 4), .int (1 + cellM ns 2 / 8 / 4 % 12), .int (cellM ns 1 % (1 + cellM ns 2 / 8 / 4 % 12)), .int (cellM ns 0 % 26)]
    walk_at "ev"
end
end BD
namespace BD
open PySem PySem.Spec PyProof.Rows L2 Evl
local macro_rules | `(tactic| walk_at "ev") => `(tactic| first
  | ((with_reducible apply ev_var) ; rfl)
  | with_reducible exact ev_c
  | ((with_reducible apply ev_I0) <;> walk_at "ev")
  | ((with_reducible apply ev_e9) <;> walk_at "ev")
  | ((with_reducible apply ev_I) <;> walk_at "ev")
  | ((with_reducible apply ev_eq) <;> walk_at "ev")
  | ((with_reducible apply ev_ne) <;> walk_at "ev")
  | ((with_reducible apply ev_neg) <;> walk_at "ev")
  | ((with_reducible apply ev_ixN) <;> walk_at "ev")
  | ((with_reducible apply ev_ixL) <;> walk_at "ev")
  | ((with_reducible apply ev_inN) <;> walk_at "ev")
  | ((with_reducible apply ev_inT) <;> walk_at "ev")
  | ((with_reducible apply ev_ixT) <;> walk_at "ev")
  | ((with_reducible apply ev_ixS) <;> walk_at "ev")
  | ((with_reducible apply ev_len') <;> walk_at "ev")
  | ((with_reducible apply et_test) <;> walk_at "ev")
  | ((with_reducible apply et_and) <;> walk_at "ev")
  | ((with_reducible apply et_or) <;> walk_at "ev")
  | ((with_reducible apply et_not) <;> walk_at "ev")
  | ((with_reducible apply et_B) <;> walk_at "ev")
  | ((with_reducible apply el_lst) <;> walk_at "ev")
  | ((with_reducible apply eu_tup) <;> walk_at "ev")
  | ((with_reducible apply ea_cons) <;> walk_at "ev")
  | with_reducible exact ea_nil
  | with_reducible assumption
  | ((with_reducible apply ex_l' ; assumption) ; walk_at "ex")
  | ((with_reducible apply ex_t' ; assumption) ; walk_at "ex")
  | (intro _ ; walk_at "ev")
  | (with_reducible first | exact atI_hd | exact at_kind | exact at2s | exact at3s | exact at3i)
  | (first | exact rfl | exact Nat.le_of_ble_eq_true rfl | exact ⟨by decide, by decide⟩ | decide | exact Or.inl ⟨by omega, by omega⟩ | exact Or.inr ⟨by omega, by omega⟩ | omega)
  | skip)
local macro_rules | `(tactic| walk_at "ex") => `(tactic| first
  | assumption
  | exact Ex.refl _
  | (refine' Ex.trans ?_ (by assumption) ; walk_at "ex"))
local macro_rules | `(tactic| walk_at "row") => `(tactic| first
  | (with_reducible exact er_nil)
  | ((with_reducible apply er_cons) <;> walk_at "row")
  | (((with_reducible apply er_var) ; rfl) ; walk_at "isrow")
  | (((with_reducible apply elr_var) ; rfl) ; walk_at "isrow")
  | ((with_reducible apply elr_cat) <;> walk_at "row")
  | ((with_reducible apply elr_lst) <;> walk_at "row")
  | ((with_reducible apply er_fin) <;> walk_at "ev")
  | ((with_reducible apply er_lendT) <;> walk_at "ev")
  | ((with_reducible apply er_lendW) <;> walk_at "ev")
  | ((with_reducible apply er_pick) <;> walk_at "ev")
  | ((with_reducible apply er_either) <;> walk_at "ev")
  | ((with_reducible apply er_or) <;> walk_at "ev")
  | ((with_reducible apply er_again) <;> walk_at "ev")
  | ((with_reducible apply er_back) <;> walk_at "ev")
  | ((with_reducible apply er_look) <;> walk_at "ev")
  | ((with_reducible apply er_change) <;> walk_at "ev")
  | exact Nat.le_of_ble_eq_true rfl
  | skip)
local macro_rules | `(tactic| walk_at "isrow") => `(tactic| first
  | assumption
  | (refine IsRow.up ?_ (by assumption) ; walk_at "ex")
  | (refine LRows.up ?_ (by assumption) ; walk_at "ex"))

abbrev s_l_word : Stmt := topS 9
theorem sc_l_word : FnScope ["_law_one", "_law_two", "_law_deep", "_law_draw_here", "_law_letters", "_law_sign", "_law_found", "_law_k"] ["_law_one", "_law_two", "_law_deep", "_law_draw_here"] (defScope s_l_word) := ⟨rfl, rfl, rfl, by decide +kernel, rfl, by decide +kernel, by decide +kernel⟩
section
variable {P : Program} {w : World} {K : PySem.W.Frag} {mg : Str → Option Value} {base : Heap}
def mkS (l : List Nat) : Str := ⟨l.toArray⟩
theorem mkS_app (a b : List Nat) : mkS a ++ mkS b = mkS (a ++ b) := by
  show (⟨a.toArray ++ b.toArray⟩ : Str) = ⟨(a ++ b).toArray⟩
  rw [List.append_toArray]
theorem mkS_len (a : List Nat) : (mkS a).length = a.length := by
  show a.toArray.size = a.length
  exact List.size_toArray
theorem letters_at {i : Int} (h0 : 0 ≤ i) (h1 : i < 26) : atI ("abcdefghijklmnopqrstuvwxyz" : Str).cps.toList i = some (97 + i.toNat) := by
  have e : ("abcdefghijklmnopqrstuvwxyz" : Str).cps.toList = (List.range 26).map (97 + ·) := by decide +kernel
  rw [e]
  have e2 : i = ((i.toNat : Nat) : Int) := by omega
  have h2 : i.toNat < 26 := by omega
  rw [e2]
  refine atI_nat ?_
  rw [List.getElem?_map, List.getElem?_range h2, Int.toNat_natCast]
  rfl
theorem letters_len : ("abcdefghijklmnopqrstuvwxyz" : Str).length ≤ 100000 := by decide +kernel
theorem ev_letter {ta tb : TE} {σ : L2.St} {H : Hp} {i : Int} (ha : Ev ta σ H (.str "abcdefghijklmnopqrstuvwxyz")) (hb : Ev tb σ H (.int i)) (h0 : 0 ≤ i) (h1 : i < 26) : Ev (tOp rIxS ta tb) σ H (.str (mkS [97 + i.toNat])) :=
  ev_ixS ha hb letters_len (letters_at h0 h1)
local macro_rules | `(tactic| walk_at "ev") => `(tactic| ((with_reducible apply ev_letter) <;> walk_at "ev"))
def chM (one two deep : Int) (d : Draw) (k : Nat) : Nat :=
  if (k : Int) = d.place then 97 + ((d.sign + 5 * deep) % 26).toNat else if d.style = 1 then 97 + ((one + (k : Int) * two) % 26).toNat else 97 + d.size.toNat
def wordM (one two deep : Int) (d : Draw) : Str :=
  if d.style = 0 then Txt.mul (mkS [97 + (d.sign % 26).toNat]) (deep + 1) else mkS ((List.range d.size.toNat).map (chM one two deep d))
def spWord (K : PySem.W.Frag) : Sp := fun vs H Q _ => ∃ (one two deep : Int) (a : Addr) (d : Draw), vs = [.int one, .int two, .int deep, .ref a] ∧ SqL K H a d.vs ∧ d.Ok ∧ 0 ≤ deep ∧ deep ≤ 20 ∧ RetV (.str (wordM one two deep d)) H Q
theorem dvs0 {d : Draw} : atI d.vs 0 = some (.int d.base) := rfl
theorem dvs1 {d : Draw} : atI d.vs 1 = some (.int d.style) := rfl
theorem dvs2 {d : Draw} : atI d.vs 2 = some (.int d.size) := rfl
theorem dvs3 {d : Draw} : atI d.vs 3 = some (.int d.place) := rfl
theorem dvs4 {d : Draw} : atI d.vs 4 = some (.int d.sign) := rfl
theorem mulOk1 {c : Nat} {n : Int} (h0 : 1 ≤ n) (h1 : n ≤ 100) : MulOk (mkS [c]) n := by
  refine ⟨?_, fun _ _ => ?_, fun _ _ => ?_⟩
  · rw [decide_eq_false (by omega), decide_eq_false (by omega)]
    rfl
  · rw [mkS_len]
    show ¬ ((1 : Nat) : Int) > (2 ^ 63 - 1) / n
    have h2 : n * 1 ≤ 2 ^ 63 - 1 := by omega
    have h3 : (1 : Int) ≤ (2 ^ 63 - 1) / n := by
      rw [Int.le_ediv_iff_mul_le (by omega)]
      omega
    omega
  · rw [mkS_len]
    show Builtin.Str.tooLong (1 * n.toNat) = false
    unfold Builtin.Str.tooLong
    exact decide_eq_false (by
      have h4 : n.toNat ≤ 100 := by omega
      have h5 : (100 : Nat) < sizeLine := by decide
      omega)
theorem ok_word (D : Dn K mg "_law_word" s_l_word ["_law_one", "_law_two", "_law_deep", "_law_draw_here"]) (T : Blt mg) : Has P w K mg base "_law_word" 1 ["_law_one", "_law_two", "_law_deep", "_law_draw_here"] (spWord K) := by
  refine D.ok sc_l_word (fun vs H Q E h => ?_) (fun f cdv A outer s H vs Q E hr h => ?_)
  · obtain ⟨one, two, deep, a, d, rfl, _⟩ := h
    rfl
  · obtain ⟨one, two, deep, a, d, rfl, hS, ok, hd0, hd1, q⟩ := h
    obtain ⟨st0, st4, sz1, sz12, pl0, pl1, sg0, sg26⟩ := ok
    refine ⟨_, (pss_cons (ps_set (i := 4) sc_l_word.nd rfl (Or.inl rfl) pe_str) (pss_cons (ps_set (i := 5) sc_l_word.nd rfl (Or.inl rfl) (pe_ix ix_str (pv 4) (pe_op op_mod (pe_op op_add (pe_ix (show IxR _ (rIxL K) from ix_list) (pv 3) pe_int (fun _ _ => rfl)) (pe_op op_mul pe_int (pv 2))) pe_int) (fun _ _ => rfl))) (pss_cons (ps_if (pt_cmpR op_eq (pe_ix (show IxR _ (rIxL K) from ix_list) (pv 3) pe_int (fun _ _ => rfl)) pe_int (nomark _)) (pss_one (ps_ret (pe_op op_repS (pe_ix ix_str (pv 4) (pe_op op_mod (pe_ix (show IxR _ (rIxL K) from ix_list) (pv 3) pe_int (fun _ _ => rfl)) pe_int) (fun _ _ => rfl)) (pe_op op_add (pv 2) pe_int)))) pss_nil) (pss_cons (ps_set (i := 6) sc_l_word.nd rfl (Or.inl rfl) pe_str) (pss_cons (ps_for PassesOwn.never rfl (pi_range1 (by rfl) T.range_ (pa_cons (pe_ix (show IxR _ (rIxL K) from ix_list) (pv 3) pe_int (fun _ _ => rfl)) pa_nil)) (pg_name (i := 7) sc_l_word.nd rfl (Or.inl rfl)) (pss_one (ps_if (pt_cmpR op_eq (pv 7) (pe_ix (show IxR _ (rIxL K) from ix_list) (pv 3) pe_int (fun _ _ => rfl)) (nomark _)) (pss_one (ps_set (i := 6) sc_l_word.nd rfl (Or.inl rfl) (pe_op op_addT (pv 6) (pv 5)))) (pss_one (ps_if (pt_cmpR op_eq (pe_ix (show IxR _ (rIxL K) from ix_list) (pv 3) pe_int (fun _ _ => rfl)) pe_int (nomark _)) (pss_one (ps_set (i := 6) sc_l_word.nd rfl (Or.inl rfl) (pe_op op_addT (pv 6) (pe_ix ix_str (pv 4) (pe_op op_mod (pe_op op_add (pv 0) (pe_op op_mul (pv 7) (pv 1))) pe_int) (fun _ _ => rfl))))) (pss_one (ps_set (i := 6) sc_l_word.nd rfl (Or.inl rfl) (pe_op op_addT (pv 6) (pe_ix ix_str (pv 4) (pe_ix (show IxR _ (rIxL K) from ix_list) (pv 3) pe_int (fun _ _ => rfl)) (fun _ _ => rfl)))))))))) (pss_one (ps_ret (pv 6)))))))), ?_⟩
    refine' q_asg ev_c (fun H1 e1 => ?_)
    refine' q_asg (v := .str (mkS [97 + ((d.sign + 5 * deep) % 26).toNat])) ?_ (fun H2 e2 => ?_)
    · walk_at "ev"
    refine q_when (b := decide (V.int d.style = V.int 0)) ?_ (fun hb H3 e3 => ?_) (fun hb H3 e3 => ?_)
    · walk_at "ev"
    · have hb := V.int.inj (of_decide_eq_true hb)
      unfold wordM at q
      rw [if_pos hb] at q
      refine s_ret (v := .str (Txt.mul (mkS [97 + (d.sign % 26).toNat]) (deep + 1))) ?_ (fun H4 e4 => q H4 (by walk_at "ex"))
      refine ev_repS ?_ ?_ (mulOk1 (by omega) (by omega))
      · walk_at "ev"
      · walk_at "ev"
    · have hb : ¬ d.style = 0 := fun z => of_decide_eq_false hb (by rw [z])
      unfold wordM at q
      rw [if_neg hb] at q
      refine' q_asg ev_c (fun H4 e4 => ?_)
      refine q_forR1 (n := d.size) ?_ ⟨by omega, by omega⟩ (fun i σ' H' => Ex H4 H' ∧ ∃ x, σ' = [some (.int one), some (.int two), some (.int deep), some (.ref a), some (.str "abcdefghijklmnopqrstuvwxyz"), some (.str (mkS [97 + ((d.sign + 5 * deep) % 26).toNat])), some (.str (mkS ((List.range i).map (chM one two deep d)))), x]) ?_ ?_ ?_
      · walk_at "ev"
      · intro H5 e5
        exact ⟨e5, none, rfl⟩
      · rintro i σ' H' hi ⟨e5, x, rfl⟩
        have hS' : SqL K H' a d.vs := by walk_at "ev"
        have hl : (mkS ((List.range i).map (chM one two deep d))).length = i := by
          rw [mkS_len, List.length_map, List.length_range]
        have grow : ∀ c : Nat, chM one two deep d i = c → mkS ((List.range i).map (chM one two deep d)) ++ mkS [c] = mkS ((List.range (i + 1)).map (chM one two deep d)) := fun c hc => by
          rw [mkS_app, List.range_succ, List.map_append]
          show mkS (_ ++ [c]) = mkS (_ ++ [chM one two deep d i])
          rw [hc]
        refine s_if (b := decide (V.int (i : Int) = V.int d.place)) ?_ (fun hb2 H6 e6 => ?_) (fun hb2 H6 e6 => ?_)
        · walk_at "ev"
        · have hb2 := V.int.inj (of_decide_eq_true hb2)
          refine s_asg (v := .str (mkS ((List.range (i + 1)).map (chM one two deep d)))) ?_ (fun H7 e7 => ⟨by walk_at "ex", _, rfl⟩)
          rw [← grow _ (if_pos hb2)]
          refine ev_add _ _ ?_ ?_ (by rw [hl, mkS_len]; show i + 1 ≤ 100000; omega)
          · walk_at "ev"
          · walk_at "ev"
        · have hb2 : ¬ (i : Int) = d.place := fun z => of_decide_eq_false hb2 (by rw [z])
          refine s_if (b := decide (V.int d.style = V.int 1)) ?_ (fun hb3 H7 e7 => ?_) (fun hb3 H7 e7 => ?_)
          · walk_at "ev"
          · have hb3 := V.int.inj (of_decide_eq_true hb3)
            refine s_asg (v := .str (mkS ((List.range (i + 1)).map (chM one two deep d)))) ?_ (fun H8 e8 => ⟨by walk_at "ex", _, rfl⟩)
            rw [← grow _ ((if_neg hb2).trans (if_pos hb3))]
            refine ev_add _ _ ?_ ?_ (by rw [hl, mkS_len]; show i + 1 ≤ 100000; omega)
            · walk_at "ev"
            · walk_at "ev"
          · have hb3 : ¬ d.style = 1 := fun z => of_decide_eq_false hb3 (by rw [z])
            refine s_asg (v := .str (mkS ((List.range (i + 1)).map (chM one two deep d)))) ?_ (fun H8 e8 => ⟨by walk_at "ex", _, rfl⟩)
            rw [← grow _ ((if_neg hb2).trans (if_neg hb3))]
            refine ev_add _ _ ?_ ?_ (by rw [hl, mkS_len]; show i + 1 ≤ 100000; omega)
            · walk_at "ev"
            · walk_at "ev"
      · rintro σ' H' ⟨e5, x, rfl⟩
        refine s_ret (v := .str (mkS ((List.range d.size.toNat).map (chM one two deep d)))) ?_ (fun H4 e4 => q H4 (by walk_at "ex"))
        walk_at "ev"
theorem ev_word {one two deep : Int} {a : Addr} {d : Draw} {ta : TA} {σ : L2.St} {H : Hp} {E : XK} (h : EvA ta σ H [.int one, .int two, .int deep, .ref a]) (hS : SqL K H a d.vs) (ok : d.Ok) (h0 : 0 ≤ deep) (h1 : deep ≤ 20) :
    Ev (tCall (spWord K) [] E ta) σ H (.str (wordM one two deep d)) :=
  ev_call h fun H1 e Q q E => ⟨one, two, deep, a, d, rfl, ex_l e hS, ok, h0, h1, q⟩
end
end BD
namespace BD
open PySem PySem.Spec PyProof.Rows L2 Evl
/-! ### words and rows are well formed -/
def WordS (w : Str) : Prop := ∃ l : List Nat, w = mkS l ∧ 1 ≤ l.length ∧ l.length ≤ 12 ∧ ∀ c ∈ l, 97 ≤ c ∧ c ≤ 122
theorem fold_rep (c : Nat) : ∀ (n : Nat) (acc : List Nat), (List.replicate n #[c]).foldl (· ++ ·) acc.toArray = (acc ++ List.replicate n c).toArray
  | 0, acc => by simp
  | n + 1, acc => by
    rw [List.replicate_succ, List.foldl_cons]
    have e : acc.toArray ++ #[c] = (acc ++ [c]).toArray := by simp
    rw [e, fold_rep c n (acc ++ [c]), List.replicate_succ]
    simp
theorem mul_word {c : Nat} {n : Int} (h : 1 ≤ n) : Txt.mul (mkS [c]) n = mkS (List.replicate n.toNat c) := by
  unfold Txt.mul
  rw [if_neg (by omega)]
  by_cases h1 : n = 1
  · subst h1
    rfl
  · have e : (n == 1) = false := by simp [h1]
    have e2 : ((mkS [c]).length == 0) = false := rfl
    rw [e, e2]
    show (⟨(List.replicate n.toNat #[c]).foldl (· ++ ·) #[]⟩ : Str) = mkS (List.replicate n.toNat c)
    have := fold_rep c n.toNat []
    rw [List.nil_append] at this
    unfold mkS
    rw [← this]
theorem wordM_s {one two deep : Int} {d : Draw} (ok : d.Ok) (h0 : 0 ≤ deep) (h1 : deep ≤ 11) : WordS (wordM one two deep d) := by
  obtain ⟨st0, st4, sz1, sz12, pl0, pl1, sg0, sg26⟩ := ok
  unfold wordM
  split
  · rw [mul_word (by omega)]
    refine ⟨_, rfl, ?_, ?_, fun c hc => ?_⟩
    · rw [List.length_replicate]; omega
    · rw [List.length_replicate]; omega
    · have := (List.mem_replicate.mp hc).2
      subst this
      omega
  · refine ⟨_, rfl, ?_, ?_, fun c hc => ?_⟩
    · rw [List.length_map, List.length_range]; omega
    · rw [List.length_map, List.length_range]; omega
    · obtain ⟨k, _, rfl⟩ := List.mem_map.mp hc
      unfold chM
      split
      · omega
      split <;> omega
theorem word_ok {w : Str} (h : WordS w) : PyData.strOk w = true := by
  obtain ⟨l, rfl, _, _, hl⟩ := h
  unfold PyData.strOk mkS
  rw [List.all_toArray, List.all_eq_true]
  intro c hc
  have := hl c hc
  exact decide_eq_true (by omega)
end BD
namespace BD
open PySem PySem.Spec PyProof.Rows L2 Evl
local macro_rules | `(tactic| walk_at "ev") => `(tactic| first
  | ((with_reducible apply ev_var) ; rfl)
  | with_reducible exact ev_c
  | ((with_reducible apply ev_I0) <;> walk_at "ev")
  | ((with_reducible apply ev_e9) <;> walk_at "ev")
  | ((with_reducible apply ev_I) <;> walk_at "ev")
  | ((with_reducible apply ev_eq) <;> walk_at "ev")
  | ((with_reducible apply ev_ne) <;> walk_at "ev")
  | ((with_reducible apply ev_neg) <;> walk_at "ev")
  | ((with_reducible apply ev_ixN) <;> walk_at "ev")
  | ((with_reducible apply ev_ixL) <;> walk_at "ev")
  | ((with_reducible apply ev_inN) <;> walk_at "ev")
  | ((with_reducible apply ev_inT) <;> walk_at "ev")
  | ((with_reducible apply ev_ixT) <;> walk_at "ev")
  | ((with_reducible apply ev_ixS) <;> walk_at "ev")
  | ((with_reducible apply ev_len') <;> walk_at "ev")
  | ((with_reducible apply et_test) <;> walk_at "ev")
  | ((with_reducible apply et_and) <;> walk_at "ev")
  | ((with_reducible apply et_or) <;> walk_at "ev")
  | ((with_reducible apply et_not) <;> walk_at "ev")
  | ((with_reducible apply et_B) <;> walk_at "ev")
  | ((with_reducible apply el_lst) <;> walk_at "ev")
  | ((with_reducible apply eu_tup) <;> walk_at "ev")
  | ((with_reducible apply ea_cons) <;> walk_at "ev")
  | with_reducible exact ea_nil
  | with_reducible assumption
  | ((with_reducible apply ex_l' ; assumption) ; walk_at "ex")
  | ((with_reducible apply ex_t' ; assumption) ; walk_at "ex")
  | (intro _ ; walk_at "ev")
  | (with_reducible first | exact atI_hd | exact at_kind | exact at2s | exact at3s | exact at3i)
  | (first | exact rfl | exact Nat.le_of_ble_eq_true rfl | exact ⟨by decide, by decide⟩ | decide | exact Or.inl ⟨by omega, by omega⟩ | exact Or.inr ⟨by omega, by omega⟩ | omega)
  | skip)
local macro_rules | `(tactic| walk_at "ex") => `(tactic| first
  | assumption
  | exact Ex.refl _
  | (refine' Ex.trans ?_ (by assumption) ; walk_at "ex"))
local macro_rules | `(tactic| walk_at "row") => `(tactic| first
  | (with_reducible exact er_nil)
  | ((with_reducible apply er_cons) <;> walk_at "row")
  | (((with_reducible apply er_var) ; rfl) ; walk_at "isrow")
  | (((with_reducible apply elr_var) ; rfl) ; walk_at "isrow")
  | ((with_reducible apply elr_cat) <;> walk_at "row")
  | ((with_reducible apply elr_lst) <;> walk_at "row")
  | ((with_reducible apply er_fin) <;> walk_at "ev")
  | ((with_reducible apply er_lendT) <;> walk_at "ev")
  | ((with_reducible apply er_lendW) <;> walk_at "ev")
  | ((with_reducible apply er_pick) <;> walk_at "ev")
  | ((with_reducible apply er_either) <;> walk_at "ev")
  | ((with_reducible apply er_or) <;> walk_at "ev")
  | ((with_reducible apply er_again) <;> walk_at "ev")
  | ((with_reducible apply er_back) <;> walk_at "ev")
  | ((with_reducible apply er_look) <;> walk_at "ev")
  | ((with_reducible apply er_change) <;> walk_at "ev")
  | exact Nat.le_of_ble_eq_true rfl
  | skip)
local macro_rules | `(tactic| walk_at "isrow") => `(tactic| first
  | assumption
  | (refine IsRow.up ?_ (by assumption) ; walk_at "ex")
  | (refine LRows.up ?_ (by assumption) ; walk_at "ex"))

local macro_rules | `(tactic| walk_at "ev") => `(tactic| ((with_reducible apply ev_letter) <;> walk_at "ev"))
local macro_rules | `(tactic| walk_at "ev") => `(tactic| ((with_reducible apply ev_cell) <;> walk_at "ev"))
local macro_rules | `(tactic| walk_at "ev") => `(tactic| ((with_reducible apply ev_word) <;> walk_at "ev"))
abbrev s_l_lend : Stmt := topS 12
theorem sc_l_lend : FnScope ["_law_one", "_law_two", "_law_named", "_law_draw_here", "_law_kind", "_law_source", "_law_holder"] ["_law_one", "_law_two", "_law_named", "_law_draw_here"] (defScope s_l_lend) := ⟨rfl, rfl, rfl, by decide +kernel, rfl, by decide +kernel, by decide +kernel⟩
abbrev s_l_deed : Stmt := topS 13
theorem sc_l_deed : FnScope ["_law_one", "_law_two", "_law_hands_here", "_law_hand", "_law_word_here"] ["_law_one", "_law_two", "_law_hands_here"] (defScope s_l_deed) := ⟨rfl, rfl, rfl, by decide +kernel, rfl, by decide +kernel, by decide +kernel⟩
abbrev s_l_hands : Stmt := topS 15
theorem sc_l_hands : FnScope ["_law_one", "_law_two", "_law_deep", "_law_draw_here", "_law_found"] ["_law_one", "_law_two", "_law_deep", "_law_draw_here"] (defScope s_l_hands) := ⟨rfl, rfl, rfl, by decide +kernel, rfl, by decide +kernel, by decide +kernel⟩
section
variable {P : Program} {w : World} {K : PySem.W.Frag} {mg : Str → Option Value} {base : Heap}
theorem ev_thing {c b : Int} {ta : TA} {σ : L2.St} {H : Hp} {E : XK} (h : EvA ta σ H [.int c, .int b]) : Ev (tCall spThing [] E ta) σ H (.int (thingM c b)) := ev_call h sp_thing
local macro_rules | `(tactic| walk_at "ev") => `(tactic| ((with_reducible apply ev_thing) <;> walk_at "ev"))
theorem rows_at {H : Hp} {vs : List V} {rs : List Rw} {i : Int} (h : Rows H vs rs) (h0 : 0 ≤ i) (h1 : i < vs.length) : ∃ x, atI vs i = some x ∧ IsRow H x (rs.getD i.toNat .fin) := by
  have e : i = ((i.toNat : Nat) : Int) := by omega
  have h2 : i.toNat < rs.length := by
    rw [← h.len]
    omega
  obtain ⟨x, hx, hr⟩ := h.get (List.getElem?_eq_getElem h2)
  refine ⟨x, ?_, ?_⟩
  · rw [e]
    exact atI_nat hx
  · rw [List.getD_eq_getElem?_getD, List.getElem?_eq_getElem h2]
    exact hr
def lendM (one two : Int) (named : List Rw) (d : Draw) : Rw :=
  if one / 2 % 2 = 1 ∧ 0 < (named.length : Int) then
    .lend (wordM one two named.length d) (if (named.getD (two % named.length).toNat .fin).isLend = true ∧ (named.getD (two % named.length).toNat .fin).kind = "read" then "read" else kindM one) (.word (named.getD (two % named.length).toNat .fin).word)
  else .lend (wordM one two named.length d) (kindM one) (.thing (thingM two d.base))
def spLend (K : PySem.W.Frag) : Sp := fun vs H Q _ => ∃ (one two : Int) (n a : Addr) (ns : List V) (named : List Rw) (d : Draw), vs = [.int one, .int two, .ref n, .ref a] ∧ SqL K H n ns ∧ Rows H ns named ∧ (∀ r ∈ named, r.named = true) ∧ named.length ≤ 20 ∧
  SqL K H a d.vs ∧ d.Ok ∧ Ret (ARow (lendM one two named d)) H Q
theorem getD_mem {rs : List Rw} {i : Nat} (h : i < rs.length) : rs.getD i .fin ∈ rs := by
  rw [List.getD_eq_getElem?_getD, List.getElem?_eq_getElem h]
  exact List.getElem_mem h
theorem ok_lend (D : Dn K mg "_law_lend" s_l_lend ["_law_one", "_law_two", "_law_named", "_law_draw_here"]) (T : Blt mg) (h_l_thing : Has P w K mg base "_law_thing" 1 ["_law_cell", "_law_base"] spThing) (h_l_word : Has P w K mg base "_law_word" 1 ["_law_one", "_law_two", "_law_deep", "_law_draw_here"] (spWord K)) : Has P w K mg base "_law_lend" 2 ["_law_one", "_law_two", "_law_named", "_law_draw_here"] (spLend K) := by
  refine D.ok sc_l_lend (fun vs H Q E h => ?_) (fun f cdv A outer s H vs Q E hr h => ?_)
  · obtain ⟨one, two, n, a, ns, named, d, rfl, _⟩ := h
    rfl
  · obtain ⟨one, two, n, a, ns, named, d, rfl, hN, hR, hnm, hlen, hS, ok, q⟩ := h
    refine ⟨_, (pss_cons (ps_set (i := 4) sc_l_lend.nd rfl (Or.inl rfl) (pe_ix (show IxR _ (rIxL K) from ix_list) (pe_lst (pa_cons pe_str (pa_cons pe_str pa_nil))) (pe_op op_mod (pv 0) pe_int) (fun _ _ => rfl))) (pss_cons (ps_set (i := 5) sc_l_lend.nd rfl (Or.inl rfl) (pe_own h_l_thing (hr.mono (by decide)) (by rfl) (pa_cons (pv 1) (pa_cons (pe_ix (show IxR _ (rIxL K) from ix_list) (pv 3) pe_int (fun _ _ => rfl)) pa_nil)))) (pss_cons (ps_if (PW.pt (pw_and (pt_cmpR op_eq (pe_op op_mod (pe_op op_fdiv (pv 0) pe_int) pe_int) pe_int (nomark _)) (pw_and1 (pt_cmpR op_gt (pe_callB (show CallR _ _ (rLenS K) from call_len_seq) (by rfl) T.len_ (by decide +kernel) (pa_cons (pv 2) pa_nil)) pe_int (nomark _))))) (pss_cons (ps_set (i := 6) sc_l_lend.nd rfl (Or.inl rfl) (pe_ix (show IxR _ (rIxL K) from ix_list) (pv 2) (pe_op op_mod (pv 1) (pe_callB (show CallR _ _ (rLenS K) from call_len_seq) (by rfl) T.len_ (by decide +kernel) (pa_cons (pv 2) pa_nil))) (fun _ _ => rfl))) (pss_cons (ps_set (i := 5) sc_l_lend.nd rfl (Or.inl rfl) (pe_ix (show IxR _ (rIxT K) from ix_tup) (pv 6) pe_int (fun _ _ => rfl))) (pss_one (ps_if (PW.pt (pw_and (pt_cmpR op_eq (pe_ix (show IxR _ (rIxT K) from ix_tup) (pv 6) pe_int (fun _ _ => rfl)) pe_str (nomark _)) (pw_and1 (pt_cmpR op_eq (pe_ix (show IxR _ (rIxT K) from ix_tup) (pv 6) pe_int (fun _ _ => rfl)) pe_str (nomark _))))) (pss_one (ps_set (i := 4) sc_l_lend.nd rfl (Or.inl rfl) pe_str)) pss_nil)))) pss_nil) (pss_one (ps_ret (pe_tup (pa_cons pe_str (pa_cons (pe_own h_l_word (hr.mono (by decide)) (by rfl) (pa_cons (pv 0) (pa_cons (pv 1) (pa_cons (pe_callB (show CallR _ _ (rLenS K) from call_len_seq) (by rfl) T.len_ (by decide +kernel) (pa_cons (pv 2) pa_nil)) (pa_cons (pv 3) pa_nil))))) (pa_cons (pv 4) (pa_cons (pv 5) pa_nil)))))))))), ?_⟩
    have hl : ns.length = named.length := hR.len
    unfold lendM at q
    rw [← hl] at q hlen
    refine' q_asg (v := .str (kindM one)) ?_ (fun H1 e1 => ?_)
    · walk_at "ev"
    refine' q_asg (v := .int (thingM two d.base)) ?_ (fun H2 e2 => ?_)
    · walk_at "ev"
    refine' q_when ?_ (fun hb H3 e3 => ?_) (fun hb H3 e3 => ?_)
    rotate_left 1
    · walk_at "ev"
    · simp only [Bool.and_eq_true, decide_eq_true_eq, V.int.injEq] at hb
      rw [if_pos hb] at q
      have hpos : (0 : Int) < ns.length := hb.2
      obtain ⟨x, hx, hX⟩ := rows_at hR (i := two % ns.length) (Int.emod_nonneg _ (by omega)) (Int.emod_lt_of_pos _ hpos)
      have hm : named.getD (two % ns.length).toNat .fin ∈ named := getD_mem (by
        have := Int.emod_lt_of_pos two hpos
        have := Int.emod_nonneg two (show (ns.length : Int) ≠ 0 by omega)
        omega)
      have hnamed := hnm _ hm
      generalize named.getD (two % ns.length).toNat .fin = h at *
      cases h with
      | lend hh hk hs =>
        obtain ⟨p, rfl, hp⟩ := hX
        have hP : SqT K H p [.str "lend", .str hh, .str hk, hs.v] := st_of hp
        refine' q_asg (v := .ref p) ?_ (fun H4 e4 => ?_)
        · walk_at "ev"
        refine' q_asg (v := .str hh) ?_ (fun H5 e5 => ?_)
        · walk_at "ev"
        refine' q_when ?_ (fun hb2 H6 e6 => ?_) (fun hb2 H6 e6 => ?_)
        rotate_left 1
        · walk_at "ev"
        · simp only [Bool.and_eq_true, decide_eq_true_eq, V.str.injEq] at hb2
          rw [if_pos ⟨rfl, hb2.2⟩] at q
          refine' q_asg ev_c (fun H7 e7 => ?_)
          refine s_retP ?_ (fun v H8 e8 hv => q v H8 (by walk_at "ex") hv)
          walk_at "row"
        · simp only [Bool.and_eq_false_iff, decide_eq_false_iff_not, V.str.injEq] at hb2
          have hk2 : ¬ (True ∧ hk = "read") := fun z => by
            rcases hb2 with hb2 | hb2
            · exact hb2 (by first | trivial | rfl)
            · exact hb2 z.2
          rw [if_neg (fun z => hk2 ⟨trivial, z.2⟩)] at q
          refine s_retP ?_ (fun v H8 e8 hv => q v H8 (by walk_at "ex") hv)
          walk_at "row"
      | pick hh ts =>
        obtain ⟨p, pq, rfl, hp, _⟩ := hX
        have hP : SqT K H p [.str "pick", .str hh, .ref pq] := st_of hp
        refine' q_asg (v := .ref p) ?_ (fun H4 e4 => ?_)
        · walk_at "ev"
        refine' q_asg (v := .str hh) ?_ (fun H5 e5 => ?_)
        · walk_at "ev"
        refine' q_when (b := false) ?_ (fun hb2 H6 e6 => ?_) (fun hb2 H6 e6 => ?_)
        · refine et_is (et_and (a := false) (b := false) ?_ (fun z => by cases z)) rfl
          refine et_is ?_ (show decide (V.str "pick" = V.str "lend") = false by decide +kernel)
          walk_at "ev"
        · cases hb2
        · rw [if_neg (fun z => by cases z.1)] at q
          refine s_retP ?_ (fun v H8 e8 hv => q v H8 (by walk_at "ex") hv)
          walk_at "row"
      | _ => cases hnamed
    · simp only [Bool.and_eq_false_iff, decide_eq_false_iff_not, V.int.injEq] at hb
      rw [if_neg (fun z => hb.elim (fun y => y z.1) (fun y => y z.2))] at q
      refine s_retP ?_ (fun v H8 e8 hv => q v H8 (by walk_at "ex") hv)
      walk_at "row"
theorem ev_lend {one two : Int} {n a : Addr} {ns : List V} {named : List Rw} {d : Draw} {ta : TA} {σ : L2.St} {H : Hp} {E : XK} (h : EvA ta σ H [.int one, .int two, .ref n, .ref a]) (hN : SqL K H n ns) (hR : Rows H ns named)
    (hn : ∀ r ∈ named, r.named = true) (hl : named.length ≤ 20) (hS : SqL K H a d.vs) (ok : d.Ok) : EvP (tCall (spLend K) [] E ta) σ H (ARow (lendM one two named d)) :=
  ep_call h fun H1 e Q q E => ⟨one, two, n, a, ns, named, d, rfl, ex_l e hN, hR.up e, hn, hl, ex_l e hS, ok, q⟩
def deedM (one two : Int) (hands : List Rw) : Rw :=
  if one % 3 = 0 then .look (hands.getD (two % hands.length).toNat .fin).word
  else if one % 3 = 1 then .back (hands.getD (two % hands.length).toNat .fin).word
  else if (hands.getD (two % hands.length).toNat .fin).kind = "read" then .look (hands.getD (two % hands.length).toNat .fin).word else .change (hands.getD (two % hands.length).toNat .fin).word
def spDeed (K : PySem.W.Frag) : Sp := fun vs H Q _ => ∃ (one two : Int) (n : Addr) (ns : List V) (hands : List Rw), vs = [.int one, .int two, .ref n] ∧ SqL K H n ns ∧ Rows H ns hands ∧ (∀ r ∈ hands, r.isLend = true) ∧ 0 < hands.length ∧ Ret (ARow (deedM one two hands)) H Q
theorem ok_deed (D : Dn K mg "_law_deed" s_l_deed ["_law_one", "_law_two", "_law_hands_here"]) (T : Blt mg) : Has P w K mg base "_law_deed" 1 ["_law_one", "_law_two", "_law_hands_here"] (spDeed K) := by
  refine D.ok sc_l_deed (fun vs H Q E h => ?_) (fun f cdv A outer s H vs Q E hr h => ?_)
  · obtain ⟨one, two, n, ns, hands, rfl, _⟩ := h
    rfl
  · obtain ⟨one, two, n, ns, hands, rfl, hN, hR, hlend, hlen, q⟩ := h
    refine ⟨_, (pss_cons (ps_set (i := 3) sc_l_deed.nd rfl (Or.inl rfl) (pe_ix (show IxR _ (rIxL K) from ix_list) (pv 2) (pe_op op_mod (pv 1) (pe_callB (show CallR _ _ (rLenS K) from call_len_seq) (by rfl) T.len_ (by decide +kernel) (pa_cons (pv 2) pa_nil))) (fun _ _ => rfl))) (pss_cons (ps_set (i := 4) sc_l_deed.nd rfl (Or.inl rfl) (pe_ix (show IxR _ (rIxL K) from ix_list) (pe_lst (pa_cons pe_str (pa_cons pe_str (pa_cons pe_str pa_nil)))) (pe_op op_mod (pv 0) pe_int) (fun _ _ => rfl))) (pss_cons (ps_if (PW.pt (pw_and (pt_cmpR op_eq (pv 4) pe_str (nomark _)) (pw_and1 (pt_cmpR op_eq (pe_ix (show IxR _ (rIxT K) from ix_tup) (pv 3) pe_int (fun _ _ => rfl)) pe_str (nomark _))))) (pss_one (ps_set (i := 4) sc_l_deed.nd rfl (Or.inl rfl) pe_str)) pss_nil) (pss_one (ps_ret (pe_tup (pa_cons (pv 4) (pa_cons (pe_ix (show IxR _ (rIxT K) from ix_tup) (pv 3) pe_int (fun _ _ => rfl)) pa_nil)))))))), ?_⟩
    have hl : ns.length = hands.length := hR.len
    unfold deedM at q
    rw [← hl] at q hlen
    have hpos : (0 : Int) < ns.length := by omega
    obtain ⟨x, hx, hX⟩ := rows_at hR (i := two % ns.length) (Int.emod_nonneg _ (by omega)) (Int.emod_lt_of_pos _ hpos)
    have hm : hands.getD (two % ns.length).toNat .fin ∈ hands := getD_mem (by
      have := Int.emod_lt_of_pos two hpos
      have := Int.emod_nonneg two (show (ns.length : Int) ≠ 0 by omega)
      omega)
    have hnamed := hlend _ hm
    generalize hands.getD (two % ns.length).toNat .fin = h at *
    cases h with
    | lend hh hk hs =>
      obtain ⟨p, rfl, hp⟩ := hX
      have hP : SqT K H p [.str "lend", .str hh, .str hk, hs.v] := st_of hp
      refine' q_asg (v := .ref p) ?_ (fun H1 e1 => ?_)
      · walk_at "ev"
      refine' q_asg (v := .str (pick3 one "look" "back" "change")) ?_ (fun H2 e2 => ?_)
      · walk_at "ev"
      by_cases h0 : one % 3 = 0
      · rw [if_pos h0] at q
        have e0 : pick3 one ("look" : Str) "back" "change" = "look" := if_pos h0
        rw [e0]
        refine' q_when (b := false) ?_ (fun hb2 H6 e6 => ?_) (fun hb2 H6 e6 => ?_)
        · refine et_is (et_and (a := false) (b := false) ?_ (fun z => by cases z)) rfl
          refine et_is ?_ (show decide (V.str "look" = V.str "change") = false by decide +kernel)
          walk_at "ev"
        · cases hb2
        · refine s_retP ?_ (fun v H8 e8 hv => q v H8 (by walk_at "ex") hv)
          walk_at "row"
      · rw [if_neg h0] at q
        by_cases h1 : one % 3 = 1
        · rw [if_pos h1] at q
          have e0 : pick3 one ("look" : Str) "back" "change" = "back" := (if_neg h0).trans (if_pos h1)
          rw [e0]
          refine' q_when (b := false) ?_ (fun hb2 H6 e6 => ?_) (fun hb2 H6 e6 => ?_)
          · refine et_is (et_and (a := false) (b := false) ?_ (fun z => by cases z)) rfl
            refine et_is ?_ (show decide (V.str "back" = V.str "change") = false by decide +kernel)
            walk_at "ev"
          · cases hb2
          · refine s_retP ?_ (fun v H8 e8 hv => q v H8 (by walk_at "ex") hv)
            walk_at "row"
        · rw [if_neg h1] at q
          have e0 : pick3 one ("look" : Str) "back" "change" = "change" := (if_neg h0).trans (if_neg h1)
          rw [e0]
          refine' q_when ?_ (fun hb2 H6 e6 => ?_) (fun hb2 H6 e6 => ?_)
          rotate_left 1
          · walk_at "ev"
          · simp only [Bool.and_eq_true, decide_eq_true_eq, V.str.injEq] at hb2
            rw [if_pos (show (Rw.lend hh hk hs).kind = _ from hb2.2)] at q
            refine s_asg ev_c (fun H7 e7 => ?_)
            dsimp only
            refine s_retP ?_ (fun v H8 e8 hv => q v H8 (by walk_at "ex") hv)
            walk_at "row"
          · simp only [Bool.and_eq_false_iff, decide_eq_false_iff_not, V.str.injEq] at hb2
            have hk2 : ¬ (hk = "read") := fun z => by
              rcases hb2 with hb2 | hb2
              · exact hb2 (by first | trivial | rfl)
              · exact hb2 z
            rw [if_neg (show ¬ (Rw.lend hh hk hs).kind = _ from hk2)] at q
            refine s_retP ?_ (fun v H8 e8 hv => q v H8 (by walk_at "ex") hv)
            walk_at "row"
    | _ => cases hnamed
theorem ev_deed {one two : Int} {n : Addr} {ns : List V} {hands : List Rw} {ta : TA} {σ : L2.St} {H : Hp} {E : XK} (h : EvA ta σ H [.int one, .int two, .ref n]) (hN : SqL K H n ns) (hR : Rows H ns hands)
    (hn : ∀ r ∈ hands, r.isLend = true) (hl : 0 < hands.length) : EvP (tCall (spDeed K) [] E ta) σ H (ARow (deedM one two hands)) :=
  ep_call h fun H1 e Q q E => ⟨one, two, n, ns, hands, rfl, ex_l e hN, hR.up e, hn, hl, q⟩
theorem el_catV {ta tb : TE} {σ : L2.St} {H : Hp} {p : Addr} {xs ys : List V} (ha : Ev ta σ H (.ref p)) (hp : H p = some (.lst xs)) (hb : EvL tb σ H ys) (hl : xs.length + ys.length ≤ 100000) : EvL (tOp rCat ta tb) σ H (xs ++ ys) := fun H1 e Q q =>
  ha H1 e _ fun H2 e2 => hb H2 (e.trans e2) _ fun u H3 _ e3 hu => ⟨p, u, xs, ys, rfl, rfl, (e.trans (e2.trans e3)) _ _ hp, hu, sz_of hl, fun z hz => q z _ (fresh_back (e2.trans e3) hz) (e2.trans (e3.trans (Ex.new hz))) upd_same⟩
def namesM (one two deep : Int) (d : Draw) : List V := [.str (wordM one two deep d), .str (wordM two one (deep + 1) d), .str (wordM one one (deep + 2) d)]
def spHands (K : PySem.W.Frag) : Sp := fun vs H Q _ => ∃ (one two deep : Int) (a : Addr) (d : Draw), vs = [.int one, .int two, .int deep, .ref a] ∧ SqL K H a d.vs ∧ d.Ok ∧ 0 ≤ deep ∧ deep ≤ 18 ∧ RetL (namesM one two deep d) H Q
theorem ok_hands (D : Dn K mg "_law_hands" s_l_hands ["_law_one", "_law_two", "_law_deep", "_law_draw_here"]) (h_l_word : Has P w K mg base "_law_word" 1 ["_law_one", "_law_two", "_law_deep", "_law_draw_here"] (spWord K)) : Has P w K mg base "_law_hands" 2 ["_law_one", "_law_two", "_law_deep", "_law_draw_here"] (spHands K) := by
  refine D.ok sc_l_hands (fun vs H Q E h => ?_) (fun f cdv A outer s H vs Q E hr h => ?_)
  · obtain ⟨one, two, deep, a, d, rfl, _⟩ := h
    rfl
  · obtain ⟨one, two, deep, a, d, rfl, hS, ok, h0, h1, q⟩ := h
    refine ⟨_, (pss_cons (ps_set (i := 4) sc_l_hands.nd rfl (Or.inl rfl) (pe_lst (pa_cons (pe_own h_l_word (hr.mono (by decide)) (by rfl) (pa_cons (pv 0) (pa_cons (pv 1) (pa_cons (pv 2) (pa_cons (pv 3) pa_nil))))) (pa_cons (pe_own h_l_word (hr.mono (by decide)) (by rfl) (pa_cons (pv 1) (pa_cons (pv 0) (pa_cons (pe_op op_add (pv 2) pe_int) (pa_cons (pv 3) pa_nil))))) pa_nil)))) (pss_one (ps_ret (pe_op op_cat (pv 4) (pe_lst (pa_cons (pe_own h_l_word (hr.mono (by decide)) (by rfl) (pa_cons (pv 0) (pa_cons (pv 0) (pa_cons (pe_op op_add (pv 2) pe_int) (pa_cons (pv 3) pa_nil))))) pa_nil)))))), ?_⟩
    refine q_asgL (xs := [.str (wordM one two deep d), .str (wordM two one (deep + 1) d)]) ?_ (fun p H1 hp0 e1 hp => ?_)
    · walk_at "ev"
    refine s_retL (xs := namesM one two deep d) ?_ (fun p2 H2 hp2 e2 h2 => q p2 H2 (fresh_back e1 hp2) (by walk_at "ex") h2)
    refine el_catV (p := p) (xs := [.str (wordM one two deep d), .str (wordM two one (deep + 1) d)]) (ys := [.str (wordM one one (deep + 2) d)]) ?_ hp ?_ (by show 3 ≤ 100000; decide)
    · walk_at "ev"
    · walk_at "ev"
end
end BD
namespace BD
open PySem PySem.Spec PyProof.Rows L2 Evl
local macro_rules | `(tactic| walk_at "ev") => `(tactic| first
  | ((with_reducible apply ev_var) ; rfl)
  | with_reducible exact ev_c
  | ((with_reducible apply ev_I0) <;> walk_at "ev")
  | ((with_reducible apply ev_e9) <;> walk_at "ev")
  | ((with_reducible apply ev_I) <;> walk_at "ev")
  | ((with_reducible apply ev_eq) <;> walk_at "ev")
  | ((with_reducible apply ev_ne) <;> walk_at "ev")
  | ((with_reducible apply ev_neg) <;> walk_at "ev")
  | ((with_reducible apply ev_ixN) <;> walk_at "ev")
  | ((with_reducible apply ev_ixL) <;> walk_at "ev")
  | ((with_reducible apply ev_inN) <;> walk_at "ev")
  | ((with_reducible apply ev_inT) <;> walk_at "ev")
  | ((with_reducible apply ev_ixT) <;> walk_at "ev")
  | ((with_reducible apply ev_ixS) <;> walk_at "ev")
  | ((with_reducible apply ev_len') <;> walk_at "ev")
  | ((with_reducible apply et_test) <;> walk_at "ev")
  | ((with_reducible apply et_and) <;> walk_at "ev")
  | ((with_reducible apply et_or) <;> walk_at "ev")
  | ((with_reducible apply et_not) <;> walk_at "ev")
  | ((with_reducible apply et_B) <;> walk_at "ev")
  | ((with_reducible apply el_lst) <;> walk_at "ev")
  | ((with_reducible apply eu_tup) <;> walk_at "ev")
  | ((with_reducible apply ea_cons) <;> walk_at "ev")
  | with_reducible exact ea_nil
  | with_reducible assumption
  | ((with_reducible apply ex_l' ; assumption) ; walk_at "ex")
  | ((with_reducible apply ex_t' ; assumption) ; walk_at "ex")
  | (intro _ ; walk_at "ev")
  | (with_reducible first | exact atI_hd | exact at_kind | exact at2s | exact at3s | exact at3i)
  | (first | exact rfl | exact Nat.le_of_ble_eq_true rfl | exact ⟨by decide, by decide⟩ | decide | exact Or.inl ⟨by omega, by omega⟩ | exact Or.inr ⟨by omega, by omega⟩ | omega)
  | skip)
local macro_rules | `(tactic| walk_at "ex") => `(tactic| first
  | assumption
  | exact Ex.refl _
  | (refine' Ex.trans ?_ (by assumption) ; walk_at "ex"))
local macro_rules | `(tactic| walk_at "row") => `(tactic| first
  | (with_reducible exact er_nil)
  | ((with_reducible apply er_cons) <;> walk_at "row")
  | (((with_reducible apply er_var) ; rfl) ; walk_at "isrow")
  | (((with_reducible apply elr_var) ; rfl) ; walk_at "isrow")
  | ((with_reducible apply elr_cat) <;> walk_at "row")
  | ((with_reducible apply elr_lst) <;> walk_at "row")
  | ((with_reducible apply er_fin) <;> walk_at "ev")
  | ((with_reducible apply er_lendT) <;> walk_at "ev")
  | ((with_reducible apply er_lendW) <;> walk_at "ev")
  | ((with_reducible apply er_pick) <;> walk_at "ev")
  | ((with_reducible apply er_either) <;> walk_at "ev")
  | ((with_reducible apply er_or) <;> walk_at "ev")
  | ((with_reducible apply er_again) <;> walk_at "ev")
  | ((with_reducible apply er_back) <;> walk_at "ev")
  | ((with_reducible apply er_look) <;> walk_at "ev")
  | ((with_reducible apply er_change) <;> walk_at "ev")
  | exact Nat.le_of_ble_eq_true rfl
  | skip)
local macro_rules | `(tactic| walk_at "isrow") => `(tactic| first
  | assumption
  | (refine IsRow.up ?_ (by assumption) ; walk_at "ex")
  | (refine LRows.up ?_ (by assumption) ; walk_at "ex"))

local macro_rules | `(tactic| walk_at "ev") => `(tactic| ((with_reducible apply ev_letter) <;> walk_at "ev"))
local macro_rules | `(tactic| walk_at "ev") => `(tactic| ((with_reducible apply ev_cell) <;> walk_at "ev"))
local macro_rules | `(tactic| walk_at "ev") => `(tactic| ((with_reducible apply ev_word) <;> walk_at "ev"))
local macro_rules | `(tactic| walk_at "ev") => `(tactic| ((with_reducible apply ev_thing) <;> walk_at "ev"))

abbrev s_l_first_four : Stmt := topS 16
theorem sc_l_first_four : FnScope ["_law_way", "_law_one", "_law_two", "_law_names", "_law_thing_here", "_law_a", "_law_b", "_law_c", "_law_kind", "_law_end", "_law_rows", "_law_first"] ["_law_way", "_law_one", "_law_two", "_law_names", "_law_thing_here"] (defScope s_l_first_four) := ⟨rfl, rfl, rfl, by decide +kernel, rfl, by decide +kernel, by decide +kernel⟩
abbrev s_l_gadget : Stmt := topS 17
theorem sc_l_gadget : FnScope ["_law_one", "_law_two", "_law_deep", "_law_draw_here", "_law_names", "_law_a", "_law_b", "_law_thing_here", "_law_far", "_law_last_here", "_law_kind", "_law_end", "_law_way", "_law_rows"] ["_law_one", "_law_two", "_law_deep", "_law_draw_here"] (defScope s_l_gadget) := ⟨rfl, rfl, rfl, by decide +kernel, rfl, by decide +kernel, by decide +kernel⟩
section
variable {P : Program} {w : World} {K : PySem.W.Frag} {mg : Str → Option Value} {base : Heap}
def fourM (way one two : Int) (a b c : Str) (t : Int) : List Rw :=
  if way = 0 then [.lend a (kindM (one / 8)) (.thing t), .again, .look a, .back a, .fin, .fin]
  else if way = 1 then [.lend a (kindM (one / 8)) (.thing t), .either, .back a, .or, .look a, .fin] ++ [.look a, .fin]
  else if way = 2 then [.lend a "write" (.thing t), .lend b "write" (.word a), .lend c (kindM (one / 8)) (.word b)] ++ [.back (pick3 two a b a), .look (pick3 one c c b), .fin, .fin, .fin]
  else [.lend a "write" (.thing t), .lend b "read" (.word a), .lend c (kindM two) (.thing t), .again] ++ [.back b, .fin, .fin, .fin, .fin]
def spFour (K : PySem.W.Frag) : Sp := fun vs H Q _ => ∃ (way one two t : Int) (p : Addr) (a b c : Str), vs = [.int way, .int one, .int two, .ref p, .int t] ∧ SqL K H p [.str a, .str b, .str c] ∧ Ret (LRows (fourM way one two a b c t)) H Q
theorem ok_four (D : Dn K mg "_law_first_four" s_l_first_four ["_law_way", "_law_one", "_law_two", "_law_names", "_law_thing_here"]) : Has P w K mg base "_law_first_four" 1 ["_law_way", "_law_one", "_law_two", "_law_names", "_law_thing_here"] (spFour K) := by
  refine D.ok sc_l_first_four (fun vs H Q E h => ?_) (fun f cdv A outer s H vs Q E hr h => ?_)
  · obtain ⟨way, one, two, t, p, a, b, c, rfl, _⟩ := h
    rfl
  · obtain ⟨way, one, two, t, p, a, b, c, rfl, hS, q⟩ := h
    refine ⟨_, (pss_cons (ps_set (i := 5) sc_l_first_four.nd rfl (Or.inl rfl) (pe_ix (show IxR _ (rIxL K) from ix_list) (pv 3) pe_int (fun _ _ => rfl))) (pss_cons (ps_set (i := 6) sc_l_first_four.nd rfl (Or.inl rfl) (pe_ix (show IxR _ (rIxL K) from ix_list) (pv 3) pe_int (fun _ _ => rfl))) (pss_cons (ps_set (i := 7) sc_l_first_four.nd rfl (Or.inl rfl) (pe_ix (show IxR _ (rIxL K) from ix_list) (pv 3) pe_int (fun _ _ => rfl))) (pss_cons (ps_set (i := 8) sc_l_first_four.nd rfl (Or.inl rfl) (pe_ix (show IxR _ (rIxL K) from ix_list) (pe_lst (pa_cons pe_str (pa_cons pe_str pa_nil))) (pe_op op_mod (pe_op op_fdiv (pv 1) pe_int) pe_int) (fun _ _ => rfl))) (pss_cons (ps_set (i := 9) sc_l_first_four.nd rfl (Or.inl rfl) (pe_tup (pa_cons pe_str pa_nil))) (pss_cons (ps_if (pt_cmpR op_eq (pv 0) pe_int (nomark _)) (pss_one (ps_ret (pe_lst (pa_cons (pe_tup (pa_cons pe_str (pa_cons (pv 5) (pa_cons (pv 8) (pa_cons (pv 4) pa_nil))))) (pa_cons (pe_tup (pa_cons pe_str pa_nil)) (pa_cons (pe_tup (pa_cons pe_str (pa_cons (pv 5) pa_nil))) (pa_cons (pe_tup (pa_cons pe_str (pa_cons (pv 5) pa_nil))) (pa_cons (pv 9) (pa_cons (pv 9) pa_nil))))))))) pss_nil) (pss_cons (ps_if (pt_cmpR op_eq (pv 0) pe_int (nomark _)) (pss_cons (ps_set (i := 10) sc_l_first_four.nd rfl (Or.inl rfl) (pe_lst (pa_cons (pe_tup (pa_cons pe_str (pa_cons (pv 5) (pa_cons (pv 8) (pa_cons (pv 4) pa_nil))))) (pa_cons (pe_tup (pa_cons pe_str pa_nil)) (pa_cons (pe_tup (pa_cons pe_str (pa_cons (pv 5) pa_nil))) (pa_cons (pe_tup (pa_cons pe_str pa_nil)) (pa_cons (pe_tup (pa_cons pe_str (pa_cons (pv 5) pa_nil))) (pa_cons (pv 9) pa_nil)))))))) (pss_one (ps_ret (pe_op op_cat (pv 10) (pe_lst (pa_cons (pe_tup (pa_cons pe_str (pa_cons (pv 5) pa_nil))) (pa_cons (pv 9) pa_nil))))))) pss_nil) (pss_cons (ps_set (i := 11) sc_l_first_four.nd rfl (Or.inl rfl) (pe_tup (pa_cons pe_str (pa_cons (pv 5) (pa_cons pe_str (pa_cons (pv 4) pa_nil)))))) (pss_cons (ps_if (pt_cmpR op_eq (pv 0) pe_int (nomark _)) (pss_cons (ps_set (i := 10) sc_l_first_four.nd rfl (Or.inl rfl) (pe_lst (pa_cons (pv 11) (pa_cons (pe_tup (pa_cons pe_str (pa_cons (pv 6) (pa_cons pe_str (pa_cons (pv 5) pa_nil))))) (pa_cons (pe_tup (pa_cons pe_str (pa_cons (pv 7) (pa_cons (pv 8) (pa_cons (pv 6) pa_nil))))) pa_nil))))) (pss_one (ps_ret (pe_op op_cat (pv 10) (pe_lst (pa_cons (pe_tup (pa_cons pe_str (pa_cons (pe_ix (show IxR _ (rIxL K) from ix_list) (pe_lst (pa_cons (pv 5) (pa_cons (pv 6) (pa_cons (pv 5) pa_nil)))) (pe_op op_mod (pv 2) pe_int) (fun _ _ => rfl)) pa_nil))) (pa_cons (pe_tup (pa_cons pe_str (pa_cons (pe_ix (show IxR _ (rIxL K) from ix_list) (pe_lst (pa_cons (pv 7) (pa_cons (pv 7) (pa_cons (pv 6) pa_nil)))) (pe_op op_mod (pv 1) pe_int) (fun _ _ => rfl)) pa_nil))) (pa_cons (pv 9) (pa_cons (pv 9) (pa_cons (pv 9) pa_nil)))))))))) pss_nil) (pss_cons (ps_set (i := 10) sc_l_first_four.nd rfl (Or.inl rfl) (pe_lst (pa_cons (pv 11) (pa_cons (pe_tup (pa_cons pe_str (pa_cons (pv 6) (pa_cons pe_str (pa_cons (pv 5) pa_nil))))) (pa_cons (pe_tup (pa_cons pe_str (pa_cons (pv 7) (pa_cons (pe_ix (show IxR _ (rIxL K) from ix_list) (pe_lst (pa_cons pe_str (pa_cons pe_str pa_nil))) (pe_op op_mod (pv 2) pe_int) (fun _ _ => rfl)) (pa_cons (pv 4) pa_nil))))) (pa_cons (pe_tup (pa_cons pe_str pa_nil)) pa_nil)))))) (pss_one (ps_ret (pe_op op_cat (pv 10) (pe_lst (pa_cons (pe_tup (pa_cons pe_str (pa_cons (pv 6) pa_nil))) (pa_cons (pv 9) (pa_cons (pv 9) (pa_cons (pv 9) (pa_cons (pv 9) pa_nil))))))))))))))))))), ?_⟩
    show (_ : L2.TS) _ [_, _, _, _, _, _, _, _, _, _, _, _] _
    unfold fourM at q
    refine' q_asg (v := .str a) ?_ (fun H1 e1 => ?_)
    · walk_at "ev"
    show (_ : L2.TS) _ [_, _, _, _, _, _, _, _, _, _, _, _] _
    refine' q_asg (v := .str b) ?_ (fun H2 e2 => ?_)
    · walk_at "ev"
    show (_ : L2.TS) _ [_, _, _, _, _, _, _, _, _, _, _, _] _
    refine' q_asg (v := .str c) ?_ (fun H3 e3 => ?_)
    · walk_at "ev"
    show (_ : L2.TS) _ [_, _, _, _, _, _, _, _, _, _, _, _] _
    refine' q_asg (v := .str (kindM (one / 8))) ?_ (fun H4 e4 => ?_)
    · walk_at "ev"
    show (_ : L2.TS) _ [_, _, _, _, _, _, _, _, _, _, _, _] _
    refine' q_asgP (R := ARow .fin) ?_ (fun v H5 e5 hv => ?_)
    · walk_at "row"
    show (_ : L2.TS) _ [_, _, _, _, _, _, _, _, _, _, _, _] _
    have hv : IsRow H5 v .fin := hv
    refine' q_when (b := decide (V.int way = V.int 0)) ?_ (fun hb H6 e6 => ?_) (fun hb H6 e6 => ?_)
    · walk_at "ev"
    · simp only [decide_eq_true_eq, V.int.injEq] at hb
      rw [if_pos hb] at q
      refine s_retP ?_ (fun v H8 e8 hv => q v H8 (by walk_at "ex") hv)
      walk_at "row"
    · simp only [decide_eq_false_iff_not, V.int.injEq] at hb
      rw [if_neg hb] at q
      refine' q_when (b := decide (V.int way = V.int 1)) ?_ (fun hb H7 e7 => ?_) (fun hb H7 e7 => ?_)
      · walk_at "ev"
      · simp only [decide_eq_true_eq, V.int.injEq] at hb
        rw [if_pos hb] at q
        refine' q_asgP (R := LRows [.lend a (kindM (one / 8)) (.thing t), .either, .back a, .or, .look a, .fin]) ?_ (fun u H8 e8 hu => ?_)
        · walk_at "row"
        show (_ : L2.TS) _ [_, _, _, _, _, _, _, _, _, _, _, _] _
        refine s_retP ?_ (fun v H9 e9 hv => q v H9 (by walk_at "ex") hv)
        walk_at "row"
      · simp only [decide_eq_false_iff_not, V.int.injEq] at hb
        rw [if_neg hb] at q
        refine' q_asgP (R := ARow (.lend a "write" (.thing t))) ?_ (fun x H8 e8 hx => ?_)
        · walk_at "row"
        show (_ : L2.TS) _ [_, _, _, _, _, _, _, _, _, _, _, _] _
        have hx : IsRow H8 x (.lend a "write" (.thing t)) := hx
        refine' q_when (b := decide (V.int way = V.int 2)) ?_ (fun hb H9 e9 => ?_) (fun hb H9 e9 => ?_)
        · walk_at "ev"
        · simp only [decide_eq_true_eq, V.int.injEq] at hb
          rw [if_pos hb] at q
          refine' q_asgP (R := LRows [.lend a "write" (.thing t), .lend b "write" (.word a), .lend c (kindM (one / 8)) (.word b)]) ?_ (fun u H10 e10 hu => ?_)
          · walk_at "row"
          show (_ : L2.TS) _ [_, _, _, _, _, _, _, _, _, _, _, _] _
          refine s_retP ?_ (fun v H11 e11 hv => q v H11 (by walk_at "ex") hv)
          walk_at "row"
        · simp only [decide_eq_false_iff_not, V.int.injEq] at hb
          rw [if_neg hb] at q
          refine' q_asgP (R := LRows [.lend a "write" (.thing t), .lend b "read" (.word a), .lend c (kindM two) (.thing t), .again]) ?_ (fun u H10 e10 hu => ?_)
          · walk_at "row"
          show (_ : L2.TS) _ [_, _, _, _, _, _, _, _, _, _, _, _] _
          refine s_retP ?_ (fun v H11 e11 hv => q v H11 (by walk_at "ex") hv)
          walk_at "row"
theorem ep_four {way one two t : Int} {p : Addr} {a b c : Str} {ta : TA} {σ : L2.St} {H : Hp} {E : XK} (h : EvA ta σ H [.int way, .int one, .int two, .ref p, .int t]) (hS : SqL K H p [.str a, .str b, .str c]) :
    EvP (tCall (spFour K) [] E ta) σ H (LRows (fourM way one two a b c t)) :=
  ep_call h fun H1 e Q q E => ⟨way, one, two, t, p, a, b, c, rfl, ex_l e hS, q⟩
def gadA (one two : Int) (a b c : Str) (t : Int) : List Rw :=
  if one % 8 < 4 then fourM (one % 8) one two a b c t
  else if one % 8 = 4 then [.pick c [t, t, (t + 1) % 1000000000, (t + 1) % 1000000000, (t + 2) % 1000000000]] ++ [.lend a "write" (.thing (pick3 two t ((t + 1) % 1000000000) ((t + 2) % 1000000000))), .lend b (kindM (one / 8)) (.word c)] ++ [.fin, .fin, .fin]
  else if one % 8 = 5 then [.lend a "write" (.thing t), .lend b "read" (.word a), .either, .back (pick2 two a b)] ++ [.or, .look b, .fin, .look a, .fin, .fin]
  else if one % 8 = 6 then [.lend a (kindM (one / 8)) (.thing ((t + 1) % 1000000000)), .lend b (kindM two) (.thing t)] ++ [.lend c "write" (.thing t), .look b, .fin, .fin, .fin]
  else if two % 3 = 0 then [.lend a "write" (.thing t), .back a, .lend b (kindM (one / 8)) (.word a), .look b, .fin, .fin]
  else [.pick c [(t + 1) % 1000000000, t], .lend a "write" (.thing t), .either, .back a] ++ [.or, .fin, .lend b (kindM (one / 8)) (.word c), .look a, .fin, .fin, .fin]
def gadgetM (one two deep : Int) (d : Draw) : List Rw := gadA one two (wordM one two deep d) (wordM two one (deep + 1) d) (wordM one one (deep + 2) d) (thingM two d.base)
def spGadget (K : PySem.W.Frag) : Sp := fun vs H Q _ => ∃ (one two deep : Int) (a : Addr) (d : Draw), vs = [.int one, .int two, .int deep, .ref a] ∧ SqL K H a d.vs ∧ d.Ok ∧ 0 ≤ deep ∧ deep ≤ 18 ∧ Ret (LRows (gadgetM one two deep d)) H Q
theorem el_hands {one two deep : Int} {a : Addr} {d : Draw} {ta : TA} {σ : L2.St} {H : Hp} {E : XK} (h : EvA ta σ H [.int one, .int two, .int deep, .ref a]) (hS : SqL K H a d.vs) (ok : d.Ok) (h0 : 0 ≤ deep) (h1 : deep ≤ 18) :
    EvL (tCall (spHands K) [] E ta) σ H (namesM one two deep d) :=
  el_call h fun H1 e Q q E => ⟨one, two, deep, a, d, rfl, ex_l e hS, ok, h0, h1, fun p H2 hp e2 h2 => q p H2 hp e2 h2⟩
theorem ok_gadget (D : Dn K mg "_law_gadget" s_l_gadget ["_law_one", "_law_two", "_law_deep", "_law_draw_here"]) (h_l_hands : Has P w K mg base "_law_hands" 2 ["_law_one", "_law_two", "_law_deep", "_law_draw_here"] (spHands K)) (h_l_thing : Has P w K mg base "_law_thing" 1 ["_law_cell", "_law_base"] spThing) (h_l_first_four : Has P w K mg base "_law_first_four" 1 ["_law_way", "_law_one", "_law_two", "_law_names", "_law_thing_here"] (spFour K)) : Has P w K mg base "_law_gadget" 3 ["_law_one", "_law_two", "_law_deep", "_law_draw_here"] (spGadget K) := by
  refine D.ok sc_l_gadget (fun vs H Q E h => ?_) (fun f cdv A outer s H vs Q E hr h => ?_)
  · obtain ⟨one, two, deep, a, d, rfl, _⟩ := h
    rfl
  · obtain ⟨one, two, deep, ad, d, rfl, hS, ok, h0, h1, q⟩ := h
    refine ⟨_, (pss_cons (ps_set (i := 4) sc_l_gadget.nd rfl (Or.inl rfl) (pe_own h_l_hands (hr.mono (by decide)) (by rfl) (pa_cons (pv 0) (pa_cons (pv 1) (pa_cons (pv 2) (pa_cons (pv 3) pa_nil)))))) (pss_cons (ps_set (i := 5) sc_l_gadget.nd rfl (Or.inl rfl) (pe_ix (show IxR _ (rIxL K) from ix_list) (pv 4) pe_int (fun _ _ => rfl))) (pss_cons (ps_set (i := 6) sc_l_gadget.nd rfl (Or.inl rfl) (pe_ix (show IxR _ (rIxL K) from ix_list) (pv 4) pe_int (fun _ _ => rfl))) (pss_cons (ps_set (i := 7) sc_l_gadget.nd rfl (Or.inl rfl) (pe_own h_l_thing (hr.mono (by decide)) (by rfl) (pa_cons (pv 1) (pa_cons (pe_ix (show IxR _ (rIxL K) from ix_list) (pv 3) pe_int (fun _ _ => rfl)) pa_nil)))) (pss_cons (ps_set (i := 8) sc_l_gadget.nd rfl (Or.inl rfl) (pe_op op_mod (pe_op op_add (pv 7) pe_int) (pe_op op_pow pe_int pe_int))) (pss_cons (ps_set (i := 9) sc_l_gadget.nd rfl (Or.inl rfl) (pe_op op_mod (pe_op op_add (pv 7) pe_int) (pe_op op_pow pe_int pe_int))) (pss_cons (ps_set (i := 10) sc_l_gadget.nd rfl (Or.inl rfl) (pe_ix (show IxR _ (rIxL K) from ix_list) (pe_lst (pa_cons pe_str (pa_cons pe_str pa_nil))) (pe_op op_mod (pe_op op_fdiv (pv 0) pe_int) pe_int) (fun _ _ => rfl))) (pss_cons (ps_set (i := 11) sc_l_gadget.nd rfl (Or.inl rfl) (pe_tup (pa_cons pe_str pa_nil))) (pss_cons (ps_set (i := 12) sc_l_gadget.nd rfl (Or.inl rfl) (pe_op op_mod (pv 0) pe_int)) (pss_cons (ps_if (pt_cmpR op_lt (pv 12) pe_int (nomark _)) (pss_one (ps_ret (pe_own h_l_first_four (hr.mono (by decide)) (by rfl) (pa_cons (pv 12) (pa_cons (pv 0) (pa_cons (pv 1) (pa_cons (pv 4) (pa_cons (pv 7) pa_nil)))))))) pss_nil) (pss_cons (ps_if (pt_cmpR op_eq (pv 12) pe_int (nomark _)) (pss_cons (ps_set (i := 13) sc_l_gadget.nd rfl (Or.inl rfl) (pe_lst (pa_cons (pe_tup (pa_cons pe_str (pa_cons (pe_ix (show IxR _ (rIxL K) from ix_list) (pv 4) pe_int (fun _ _ => rfl)) (pa_cons (pe_tup (pa_cons (pv 7) (pa_cons (pv 7) (pa_cons (pv 8) (pa_cons (pv 8) (pa_cons (pv 9) pa_nil)))))) pa_nil)))) pa_nil))) (pss_cons (ps_set (i := 13) sc_l_gadget.nd rfl (Or.inl rfl) (pe_op op_cat (pv 13) (pe_lst (pa_cons (pe_tup (pa_cons pe_str (pa_cons (pv 5) (pa_cons pe_str (pa_cons (pe_ix (show IxR _ (rIxL K) from ix_list) (pe_lst (pa_cons (pv 7) (pa_cons (pv 8) (pa_cons (pv 9) pa_nil)))) (pe_op op_mod (pv 1) pe_int) (fun _ _ => rfl)) pa_nil))))) (pa_cons (pe_tup (pa_cons pe_str (pa_cons (pv 6) (pa_cons (pv 10) (pa_cons (pe_ix (show IxR _ (rIxL K) from ix_list) (pv 4) pe_int (fun _ _ => rfl)) pa_nil))))) pa_nil))))) (pss_one (ps_ret (pe_op op_cat (pv 13) (pe_lst (pa_cons (pv 11) (pa_cons (pv 11) (pa_cons (pv 11) pa_nil))))))))) pss_nil) (pss_cons (ps_if (pt_cmpR op_eq (pv 12) pe_int (nomark _)) (pss_cons (ps_set (i := 13) sc_l_gadget.nd rfl (Or.inl rfl) (pe_lst (pa_cons (pe_tup (pa_cons pe_str (pa_cons (pv 5) (pa_cons pe_str (pa_cons (pv 7) pa_nil))))) (pa_cons (pe_tup (pa_cons pe_str (pa_cons (pv 6) (pa_cons pe_str (pa_cons (pv 5) pa_nil))))) (pa_cons (pe_tup (pa_cons pe_str pa_nil)) (pa_cons (pe_tup (pa_cons pe_str (pa_cons (pe_ix (show IxR _ (rIxL K) from ix_list) (pe_lst (pa_cons (pv 5) (pa_cons (pv 6) pa_nil))) (pe_op op_mod (pv 1) pe_int) (fun _ _ => rfl)) pa_nil))) pa_nil)))))) (pss_one (ps_ret (pe_op op_cat (pv 13) (pe_lst (pa_cons (pe_tup (pa_cons pe_str pa_nil)) (pa_cons (pe_tup (pa_cons pe_str (pa_cons (pv 6) pa_nil))) (pa_cons (pv 11) (pa_cons (pe_tup (pa_cons pe_str (pa_cons (pv 5) pa_nil))) (pa_cons (pv 11) (pa_cons (pv 11) pa_nil))))))))))) pss_nil) (pss_cons (ps_if (pt_cmpR op_eq (pv 12) pe_int (nomark _)) (pss_cons (ps_set (i := 13) sc_l_gadget.nd rfl (Or.inl rfl) (pe_lst (pa_cons (pe_tup (pa_cons pe_str (pa_cons (pv 5) (pa_cons (pv 10) (pa_cons (pv 8) pa_nil))))) (pa_cons (pe_tup (pa_cons pe_str (pa_cons (pv 6) (pa_cons (pe_ix (show IxR _ (rIxL K) from ix_list) (pe_lst (pa_cons pe_str (pa_cons pe_str pa_nil))) (pe_op op_mod (pv 1) pe_int) (fun _ _ => rfl)) (pa_cons (pv 7) pa_nil))))) pa_nil)))) (pss_one (ps_ret (pe_op op_cat (pv 13) (pe_lst (pa_cons (pe_tup (pa_cons pe_str (pa_cons (pe_ix (show IxR _ (rIxL K) from ix_list) (pv 4) pe_int (fun _ _ => rfl)) (pa_cons pe_str (pa_cons (pv 7) pa_nil))))) (pa_cons (pe_tup (pa_cons pe_str (pa_cons (pv 6) pa_nil))) (pa_cons (pv 11) (pa_cons (pv 11) (pa_cons (pv 11) pa_nil)))))))))) pss_nil) (pss_cons (ps_if (pt_cmpR op_eq (pe_op op_mod (pv 1) pe_int) pe_int (nomark _)) (pss_one (ps_ret (pe_lst (pa_cons (pe_tup (pa_cons pe_str (pa_cons (pv 5) (pa_cons pe_str (pa_cons (pv 7) pa_nil))))) (pa_cons (pe_tup (pa_cons pe_str (pa_cons (pv 5) pa_nil))) (pa_cons (pe_tup (pa_cons pe_str (pa_cons (pv 6) (pa_cons (pv 10) (pa_cons (pv 5) pa_nil))))) (pa_cons (pe_tup (pa_cons pe_str (pa_cons (pv 6) pa_nil))) (pa_cons (pv 11) (pa_cons (pv 11) pa_nil))))))))) pss_nil) (pss_cons (ps_set (i := 13) sc_l_gadget.nd rfl (Or.inl rfl) (pe_lst (pa_cons (pe_tup (pa_cons pe_str (pa_cons (pe_ix (show IxR _ (rIxL K) from ix_list) (pv 4) pe_int (fun _ _ => rfl)) (pa_cons (pe_tup (pa_cons (pv 8) (pa_cons (pv 7) pa_nil))) pa_nil)))) (pa_cons (pe_tup (pa_cons pe_str (pa_cons (pv 5) (pa_cons pe_str (pa_cons (pv 7) pa_nil))))) (pa_cons (pe_tup (pa_cons pe_str pa_nil)) (pa_cons (pe_tup (pa_cons pe_str (pa_cons (pv 5) pa_nil))) pa_nil)))))) (pss_one (ps_ret (pe_op op_cat (pv 13) (pe_lst (pa_cons (pe_tup (pa_cons pe_str pa_nil)) (pa_cons (pv 11) (pa_cons (pe_tup (pa_cons pe_str (pa_cons (pv 6) (pa_cons (pv 10) (pa_cons (pe_ix (show IxR _ (rIxL K) from ix_list) (pv 4) pe_int (fun _ _ => rfl)) pa_nil))))) (pa_cons (pe_tup (pa_cons pe_str (pa_cons (pv 5) pa_nil))) (pa_cons (pv 11) (pa_cons (pv 11) (pa_cons (pv 11) pa_nil)))))))))))))))))))))))))), ?_⟩
    show (_ : L2.TS) _ [_, _, _, _, _, _, _, _, _, _, _, _, _, _] _
    unfold gadgetM at q
    refine q_asgL (xs := namesM one two deep d) ?_ (fun pn H1 hpn e1 h1n => ?_)
    · refine el_hands ?_ hS ok h0 h1
      walk_at "ev"
    unfold namesM at h1n
    generalize wordM one two deep d = a at *
    generalize wordM two one (deep + 1) d = b at *
    generalize wordM one one (deep + 2) d = c at *
    have hNm : SqL K H1 pn [.str a, .str b, .str c] := sq_of h1n
    refine' q_asg (v := .str a) ?_ (fun H2 e2 => ?_)
    · walk_at "ev"
    show (_ : L2.TS) _ [_, _, _, _, _, _, _, _, _, _, _, _, _, _] _
    refine' q_asg (v := .str b) ?_ (fun H3 e3 => ?_)
    · walk_at "ev"
    show (_ : L2.TS) _ [_, _, _, _, _, _, _, _, _, _, _, _, _, _] _
    refine' q_asg (v := .int (thingM two d.base)) ?_ (fun H4 e4 => ?_)
    · walk_at "ev"
    show (_ : L2.TS) _ [_, _, _, _, _, _, _, _, _, _, _, _, _, _] _
    generalize thingM two d.base = t at *
    unfold gadA at q
    refine' q_asg (v := .int ((t + 1) % 1000000000)) ?_ (fun H5 e5 => ?_)
    · walk_at "ev"
    show (_ : L2.TS) _ [_, _, _, _, _, _, _, _, _, _, _, _, _, _] _
    refine' q_asg (v := .int ((t + 2) % 1000000000)) ?_ (fun H6 e6 => ?_)
    · walk_at "ev"
    show (_ : L2.TS) _ [_, _, _, _, _, _, _, _, _, _, _, _, _, _] _
    generalize (t + 1) % 1000000000 = far at *
    generalize (t + 2) % 1000000000 = last at *
    refine' q_asg (v := .str (kindM (one / 8))) ?_ (fun H7 e7 => ?_)
    · walk_at "ev"
    show (_ : L2.TS) _ [_, _, _, _, _, _, _, _, _, _, _, _, _, _] _
    refine' q_asgP (R := ARow .fin) ?_ (fun v H8 e8 hv => ?_)
    · walk_at "row"
    show (_ : L2.TS) _ [_, _, _, _, _, _, _, _, _, _, _, _, _, _] _
    have hv : IsRow H8 v .fin := hv
    refine' q_asg (v := .int (one % 8)) ?_ (fun H9 e9 => ?_)
    · walk_at "ev"
    show (_ : L2.TS) _ [_, _, _, _, _, _, _, _, _, _, _, _, _, _] _
    refine' q_when (b := decide (one % 8 < 4)) ?_ (fun hb H10 e10 => ?_) (fun hb H10 e10 => ?_)
    · walk_at "ev"
    · simp only [decide_eq_true_eq] at hb
      rw [if_pos hb] at q
      refine s_retP (ep_four (p := pn) ?_ ?_) (fun v H11 e11 hv => q v H11 (by walk_at "ex") hv)
      · walk_at "ev"
      · walk_at "ev"
    · simp only [decide_eq_false_iff_not] at hb
      rw [if_neg hb] at q
      refine' q_when (b := decide (V.int (one % 8) = V.int 4)) ?_ (fun hb H11 e11 => ?_) (fun hb H11 e11 => ?_)
      · walk_at "ev"
      · simp only [decide_eq_true_eq, V.int.injEq] at hb
        rw [if_pos hb] at q
        refine' q_asgP (R := LRows [.pick c [t, t, far, far, last]]) ?_ (fun u H12 e12 hu => ?_)
        · walk_at "row"
        show (_ : L2.TS) _ [_, _, _, _, _, _, _, _, _, _, _, _, _, _] _
        refine' q_asgP (R := LRows ([.pick c [t, t, far, far, last]] ++ [.lend a "write" (.thing (pick3 two t far last)), .lend b (kindM (one / 8)) (.word c)])) ?_ (fun u H13 e13 hu => ?_)
        · walk_at "row"
        show (_ : L2.TS) _ [_, _, _, _, _, _, _, _, _, _, _, _, _, _] _
        refine s_retP ?_ (fun v H14 e14 hv => q v H14 (by walk_at "ex") hv)
        walk_at "row"
      · simp only [decide_eq_false_iff_not, V.int.injEq] at hb
        rw [if_neg hb] at q
        refine' q_when (b := decide (V.int (one % 8) = V.int 5)) ?_ (fun hb H12 e12 => ?_) (fun hb H12 e12 => ?_)
        · walk_at "ev"
        · simp only [decide_eq_true_eq, V.int.injEq] at hb
          rw [if_pos hb] at q
          refine' q_asgP (R := LRows [.lend a "write" (.thing t), .lend b "read" (.word a), .either, .back (pick2 two a b)]) ?_ (fun u H13 e13 hu => ?_)
          · walk_at "row"
          show (_ : L2.TS) _ [_, _, _, _, _, _, _, _, _, _, _, _, _, _] _
          refine s_retP ?_ (fun v H14 e14 hv => q v H14 (by walk_at "ex") hv)
          walk_at "row"
        · simp only [decide_eq_false_iff_not, V.int.injEq] at hb
          rw [if_neg hb] at q
          refine' q_when (b := decide (V.int (one % 8) = V.int 6)) ?_ (fun hb H13 e13 => ?_) (fun hb H13 e13 => ?_)
          · walk_at "ev"
          · simp only [decide_eq_true_eq, V.int.injEq] at hb
            rw [if_pos hb] at q
            refine' q_asgP (R := LRows [.lend a (kindM (one / 8)) (.thing far), .lend b (kindM two) (.thing t)]) ?_ (fun u H14 e14 hu => ?_)
            · walk_at "row"
            show (_ : L2.TS) _ [_, _, _, _, _, _, _, _, _, _, _, _, _, _] _
            refine s_retP ?_ (fun v H15 e15 hv => q v H15 (by walk_at "ex") hv)
            walk_at "row"
          · simp only [decide_eq_false_iff_not, V.int.injEq] at hb
            rw [if_neg hb] at q
            refine' q_when (b := decide (V.int (two % 3) = V.int 0)) ?_ (fun hb H14 e14 => ?_) (fun hb H14 e14 => ?_)
            · walk_at "ev"
            · simp only [decide_eq_true_eq, V.int.injEq] at hb
              rw [if_pos hb] at q
              refine s_retP ?_ (fun v H15 e15 hv => q v H15 (by walk_at "ex") hv)
              walk_at "row"
            · simp only [decide_eq_false_iff_not, V.int.injEq] at hb
              rw [if_neg hb] at q
              refine' q_asgP (R := LRows [.pick c [far, t], .lend a "write" (.thing t), .either, .back a]) ?_ (fun u H15 e15 hu => ?_)
              · walk_at "row"
              show (_ : L2.TS) _ [_, _, _, _, _, _, _, _, _, _, _, _, _, _] _
              refine s_retP ?_ (fun v H16 e16 hv => q v H16 (by walk_at "ex") hv)
              walk_at "row"
theorem ep_gadget {one two deep : Int} {a : Addr} {d : Draw} {ta : TA} {σ : L2.St} {H : Hp} {E : XK} (h : EvA ta σ H [.int one, .int two, .int deep, .ref a]) (hS : SqL K H a d.vs) (ok : d.Ok) (h0 : 0 ≤ deep) (h1 : deep ≤ 18) :
    EvP (tCall (spGadget K) [] E ta) σ H (LRows (gadgetM one two deep d)) :=
  ep_call h fun H1 e Q q E => ⟨one, two, deep, a, d, rfl, ex_l e hS, ok, h0, h1, q⟩
end
end BD
namespace BD
open PySem PySem.Spec PyProof.Rows L2 Evl
local macro_rules | `(tactic| walk_at "ev") => `(tactic| first
  | ((with_reducible apply ev_var) ; rfl)
  | with_reducible exact ev_c
  | ((with_reducible apply ev_I0) <;> walk_at "ev")
  | ((with_reducible apply ev_e9) <;> walk_at "ev")
  | ((with_reducible apply ev_I) <;> walk_at "ev")
  | ((with_reducible apply ev_eq) <;> walk_at "ev")
  | ((with_reducible apply ev_ne) <;> walk_at "ev")
  | ((with_reducible apply ev_neg) <;> walk_at "ev")
  | ((with_reducible apply ev_ixN) <;> walk_at "ev")
  | ((with_reducible apply ev_ixL) <;> walk_at "ev")
  | ((with_reducible apply ev_inN) <;> walk_at "ev")
  | ((with_reducible apply ev_inT) <;> walk_at "ev")
  | ((with_reducible apply ev_ixT) <;> walk_at "ev")
  | ((with_reducible apply ev_ixS) <;> walk_at "ev")
  | ((with_reducible apply ev_len') <;> walk_at "ev")
  | ((with_reducible apply et_test) <;> walk_at "ev")
  | ((with_reducible apply et_and) <;> walk_at "ev")
  | ((with_reducible apply et_or) <;> walk_at "ev")
  | ((with_reducible apply et_not) <;> walk_at "ev")
  | ((with_reducible apply et_B) <;> walk_at "ev")
  | ((with_reducible apply el_lst) <;> walk_at "ev")
  | ((with_reducible apply eu_tup) <;> walk_at "ev")
  | ((with_reducible apply ea_cons) <;> walk_at "ev")
  | with_reducible exact ea_nil
  | with_reducible assumption
  | ((with_reducible apply ex_l' ; assumption) ; walk_at "ex")
  | ((with_reducible apply ex_t' ; assumption) ; walk_at "ex")
  | (intro _ ; walk_at "ev")
  | (with_reducible first | exact atI_hd | exact at_kind | exact at2s | exact at3s | exact at3i)
  | (first | exact rfl | exact Nat.le_of_ble_eq_true rfl | exact ⟨by decide, by decide⟩ | decide | exact Or.inl ⟨by omega, by omega⟩ | exact Or.inr ⟨by omega, by omega⟩ | omega)
  | skip)
local macro_rules | `(tactic| walk_at "ex") => `(tactic| first
  | assumption
  | exact Ex.refl _
  | (refine' Ex.trans ?_ (by assumption) ; walk_at "ex"))
local macro_rules | `(tactic| walk_at "row") => `(tactic| first
  | (with_reducible exact er_nil)
  | ((with_reducible apply er_cons) <;> walk_at "row")
  | (((with_reducible apply er_var) ; rfl) ; walk_at "isrow")
  | (((with_reducible apply elr_var) ; rfl) ; walk_at "isrow")
  | ((with_reducible apply elr_cat) <;> walk_at "row")
  | ((with_reducible apply elr_lst) <;> walk_at "row")
  | ((with_reducible apply er_fin) <;> walk_at "ev")
  | ((with_reducible apply er_lendT) <;> walk_at "ev")
  | ((with_reducible apply er_lendW) <;> walk_at "ev")
  | ((with_reducible apply er_pick) <;> walk_at "ev")
  | ((with_reducible apply er_either) <;> walk_at "ev")
  | ((with_reducible apply er_or) <;> walk_at "ev")
  | ((with_reducible apply er_again) <;> walk_at "ev")
  | ((with_reducible apply er_back) <;> walk_at "ev")
  | ((with_reducible apply er_look) <;> walk_at "ev")
  | ((with_reducible apply er_change) <;> walk_at "ev")
  | exact Nat.le_of_ble_eq_true rfl
  | skip)
local macro_rules | `(tactic| walk_at "isrow") => `(tactic| first
  | assumption
  | (refine IsRow.up ?_ (by assumption) ; walk_at "ex")
  | (refine LRows.up ?_ (by assumption) ; walk_at "ex"))

local macro_rules | `(tactic| walk_at "ev") => `(tactic| ((with_reducible apply ev_letter) <;> walk_at "ev"))
local macro_rules | `(tactic| walk_at "ev") => `(tactic| ((with_reducible apply ev_cell) <;> walk_at "ev"))
local macro_rules | `(tactic| walk_at "ev") => `(tactic| ((with_reducible apply ev_word) <;> walk_at "ev"))
local macro_rules | `(tactic| walk_at "ev") => `(tactic| ((with_reducible apply ev_thing) <;> walk_at "ev"))

local macro_rules | `(tactic| walk_at "ev") => `(tactic| (((with_reducible apply ev_tag) ; rfl) ; walk_at "isrow"))
abbrev s_l_row : Stmt := topS 14
theorem sc_l_row : FnScope ["_law_way", "_law_one", "_law_two", "_law_opened", "_law_draw_here", "_law_named", "_law_hands_here", "_law_things", "_law_row_here", "_law_k"] ["_law_way", "_law_one", "_law_two", "_law_opened", "_law_draw_here"] (defScope s_l_row) := ⟨rfl, rfl, rfl, by decide +kernel, rfl, by decide +kernel, by decide +kernel⟩
section
variable {P : Program} {w : World} {K : PySem.W.Frag} {mg : Str → Option Value} {base : Heap}
def rowN (way one two : Int) (opened named hands : List Rw) (d : Draw) : Rw :=
  if way < 4 ∧ (hands.length : Int) < 6 then lendM one two named d
  else if way = 4 ∧ (named.length : Int) - hands.length < 3 then .pick (wordM one two named.length d) ((List.range (1 + one % 5).toNat).map fun (k : Nat) => thingM (two + (k : Int) * (1 + one % 2)) d.base)
  else if way = 5 ∧ (opened.length : Int) < 12 then .either
  else if way = 6 ∧ (opened.length : Int) < 12 then .again
  else if way = 7 ∧ 0 < (opened.length : Int) ∧ (opened.getD (opened.length - 1) .fin).isEither = true then .or
  else if way < 10 ∧ 0 < (hands.length : Int) then deedM one two hands
  else if 0 < (opened.length : Int) then .fin
  else lendM one two named d
def rowM (way one two : Int) (opened : List Rw) (d : Draw) : Rw := rowN way one two opened (opened.filter Rw.named) ((opened.filter Rw.named).filter Rw.isLend) d
def spRow (K : PySem.W.Frag) : Sp := fun vs H Q _ => ∃ (way one two : Int) (o a : Addr) (ov : List V) (opened : List Rw) (d : Draw), vs = [.int way, .int one, .int two, .ref o, .ref a] ∧ SqL K H o ov ∧ Rows H ov opened ∧ opened.length ≤ 1000 ∧ (opened.filter Rw.named).length ≤ 18 ∧
  SqL K H a d.vs ∧ d.Ok ∧ Ret (ARow (rowM way one two opened d)) H Q
theorem in56 (way : Int) : inV (.int way) [V.int 5, V.int 6] = decide (way = 5 ∨ way = 6) := by
  unfold inV
  show (List.any [V.int 5, V.int 6] fun y => eqV y (.int way)) = _
  show ((5 : Int) == way || ((6 : Int) == way || false)) = _
  by_cases h5 : way = 5
  · subst h5; rfl
  · by_cases h6 : way = 6
    · subst h6; rfl
    · rw [decide_eq_false (fun z => z.elim h5 h6), beq_eq_false_iff_ne.mpr (Ne.symm h5), beq_eq_false_iff_ne.mpr (Ne.symm h6)]
      rfl
theorem ok_row (D : Dn K mg "_law_row" s_l_row ["_law_way", "_law_one", "_law_two", "_law_opened", "_law_draw_here"]) (T : Blt mg) (h_l_lend : Has P w K mg base "_law_lend" 2 ["_law_one", "_law_two", "_law_named", "_law_draw_here"] (spLend K)) (h_l_thing : Has P w K mg base "_law_thing" 1 ["_law_cell", "_law_base"] spThing) (h_l_word : Has P w K mg base "_law_word" 1 ["_law_one", "_law_two", "_law_deep", "_law_draw_here"] (spWord K)) (h_l_deed : Has P w K mg base "_law_deed" 1 ["_law_one", "_law_two", "_law_hands_here"] (spDeed K)) : Has P w K mg base "_law_row" 3 ["_law_way", "_law_one", "_law_two", "_law_opened", "_law_draw_here"] (spRow K) := by
  refine D.ok sc_l_row (fun vs H Q E h => ?_) (fun f cdv A outer s H vs Q E hr h => ?_)
  · obtain ⟨way, one, two, o, a, ov, opened, d, rfl, _⟩ := h
    rfl
  · obtain ⟨way, one, two, o, a, ov, opened, d, rfl, hO, hR, hlen, hlen2, hS, ok, q⟩ := h
    have hlo := hR.len
    refine ⟨_, (pss_cons (ps_setLc (i := 5) (own := [("_law_row_here", 8)]) (g := (gName 8))  rfl sc_l_row.nd rfl rfl (sw_true rfl rfl rfl (by decide +kernel)) (pi_list (pv 3)) (blkOk_by (own := [("_law_row_here", 8)]) (N := ["_law_way", "_law_one", "_law_two", "_law_opened", "_law_draw_here", "_law_named", "_law_hands_here", "_law_things", "_law_row_here", "_law_k"]) (sc := defScope s_l_row) (by decide +kernel)) (fun _ _ _ _ _ => (pg_name (i := 8) sc_l_row.nd rfl (Or.inl rfl))) (fun _ _ _ _ _ => (pts_one (pt_cmpR (show OpR _ _ (rIn K false) from op_in_seq) (pe_ix (show IxR _ (rIxT K) from ix_tup) (pv 8) pe_int (fun _ _ => rfl)) (pe_lst (pa_cons pe_str (pa_cons pe_str pa_nil))) (by rfl)))) (fun _ _ _ _ _ => (pv 8))) (pss_cons (ps_setLc (i := 6) (own := [("_law_row_here", 8)]) (g := (gName 8))  rfl sc_l_row.nd rfl rfl (sw_true rfl rfl rfl (by decide +kernel)) (pi_list (pv 5)) (blkOk_by (own := [("_law_row_here", 8)]) (N := ["_law_way", "_law_one", "_law_two", "_law_opened", "_law_draw_here", "_law_named", "_law_hands_here", "_law_things", "_law_row_here", "_law_k"]) (sc := defScope s_l_row) (by decide +kernel)) (fun _ _ _ _ _ => (pg_name (i := 8) sc_l_row.nd rfl (Or.inl rfl))) (fun _ _ _ _ _ => (pts_one (pt_cmpR op_eq (pe_ix (show IxR _ (rIxT K) from ix_tup) (pv 8) pe_int (fun _ _ => rfl)) pe_str (nomark _)))) (fun _ _ _ _ _ => (pv 8))) (pss_cons (ps_if (PW.pt (pw_and (pt_cmpR op_lt (pv 0) pe_int (nomark _)) (pw_and1 (pt_cmpR op_lt (pe_callB (show CallR _ _ (rLenS K) from call_len_seq) (by rfl) T.len_ (by decide +kernel) (pa_cons (pv 6) pa_nil)) pe_int (nomark _))))) (pss_one (ps_ret (pe_own h_l_lend (hr.mono (by decide)) (by rfl) (pa_cons (pv 1) (pa_cons (pv 2) (pa_cons (pv 5) (pa_cons (pv 4) pa_nil))))))) pss_nil) (pss_cons (ps_if (PW.pt (pw_and (pt_cmpR op_eq (pv 0) pe_int (nomark _)) (pw_and1 (pt_cmpR op_lt (pe_op op_sub (pe_callB (show CallR _ _ (rLenS K) from call_len_seq) (by rfl) T.len_ (by decide +kernel) (pa_cons (pv 5) pa_nil)) (pe_callB (show CallR _ _ (rLenS K) from call_len_seq) (by rfl) T.len_ (by decide +kernel) (pa_cons (pv 6) pa_nil))) pe_int (nomark _))))) (pss_cons (ps_set (i := 7) sc_l_row.nd rfl (Or.inl rfl) (pe_callTy (show CallR _ _ (rTupS K) from call_tuple_of) (by rfl) T.tuple_ (by decide +kernel) (pa_cons (pe_lc (own := [("_law_k", 9)]) (g := (gName 9)) (tt := tYes) rfl sc_l_row.nd (pi_range1 (by rfl) T.range_ (pa_cons (pe_op op_add pe_int (pe_op op_mod (pv 1) pe_int)) pa_nil)) (blkOk_by (own := [("_law_k", 9)]) (N := ["_law_way", "_law_one", "_law_two", "_law_opened", "_law_draw_here", "_law_named", "_law_hands_here", "_law_things", "_law_row_here", "_law_k"]) (sc := defScope s_l_row) (by decide +kernel)) (fun _ _ _ _ _ => (pg_name (i := 9) sc_l_row.nd rfl (Or.inl rfl))) (fun _ _ _ _ _ => pts_nil) (fun _ _ _ _ _ => (pe_own h_l_thing (hr.mono (by decide)) (by rfl) (pa_cons (pe_op op_add (pv 2) (pe_op op_mul (pv 9) (pe_op op_add pe_int (pe_op op_mod (pv 1) pe_int)))) (pa_cons (pe_ix (show IxR _ (rIxL K) from ix_list) (pv 4) pe_int (fun _ _ => rfl)) pa_nil))))) pa_nil))) (pss_one (ps_ret (pe_tup (pa_cons pe_str (pa_cons (pe_own h_l_word (hr.mono (by decide)) (by rfl) (pa_cons (pv 1) (pa_cons (pv 2) (pa_cons (pe_callB (show CallR _ _ (rLenS K) from call_len_seq) (by rfl) T.len_ (by decide +kernel) (pa_cons (pv 5) pa_nil)) (pa_cons (pv 4) pa_nil))))) (pa_cons (pv 7) pa_nil))))))) pss_nil) (pss_cons (ps_if (PW.pt (pw_and (pt_cmpR (show OpR _ _ (rIn K false) from op_in_seq) (pv 0) (pe_lst (pa_cons pe_int (pa_cons pe_int pa_nil))) (by rfl)) (pw_and1 (pt_cmpR op_lt (pe_callB (show CallR _ _ (rLenS K) from call_len_seq) (by rfl) T.len_ (by decide +kernel) (pa_cons (pv 3) pa_nil)) pe_int (nomark _))))) (pss_one (ps_ret (pe_tup (pa_cons (pe_ix (show IxR _ (rIxL K) from ix_list) (pe_lst (pa_cons pe_str (pa_cons pe_str pa_nil))) (pe_op op_sub (pv 0) pe_int) (fun _ _ => rfl)) pa_nil)))) pss_nil) (pss_cons (ps_if (PW.pt (pw_and (pt_cmpR op_eq (pv 0) pe_int (nomark _)) (pw_and (pt_cmpR op_gt (pe_callB (show CallR _ _ (rLenS K) from call_len_seq) (by rfl) T.len_ (by decide +kernel) (pa_cons (pv 3) pa_nil)) pe_int (nomark _)) (pw_and1 (pt_cmpR op_eq (pe_ix (show IxR _ (rIxT K) from ix_tup) (pe_ix (show IxR _ (rIxL K) from ix_list) (pv 3) (pe_un un_neg pe_int) (fun _ _ => rfl)) pe_int (fun _ _ => rfl)) pe_str (nomark _)))))) (pss_one (ps_ret (pe_tup (pa_cons pe_str pa_nil)))) pss_nil) (pss_cons (ps_if (PW.pt (pw_and (pt_cmpR op_lt (pv 0) pe_int (nomark _)) (pw_and1 (pt_cmpR op_gt (pe_callB (show CallR _ _ (rLenS K) from call_len_seq) (by rfl) T.len_ (by decide +kernel) (pa_cons (pv 6) pa_nil)) pe_int (nomark _))))) (pss_one (ps_ret (pe_own h_l_deed (hr.mono (by decide)) (by rfl) (pa_cons (pv 1) (pa_cons (pv 2) (pa_cons (pv 6) pa_nil)))))) pss_nil) (pss_cons (ps_if (pt_cmpR op_gt (pe_callB (show CallR _ _ (rLenS K) from call_len_seq) (by rfl) T.len_ (by decide +kernel) (pa_cons (pv 3) pa_nil)) pe_int (nomark _)) (pss_one (ps_ret (pe_tup (pa_cons pe_str pa_nil)))) pss_nil) (pss_one (ps_ret (pe_own h_l_lend (hr.mono (by decide)) (by rfl) (pa_cons (pv 1) (pa_cons (pv 2) (pa_cons (pv 5) (pa_cons (pv 4) pa_nil))))))))))))))), ?_⟩
    show (_ : L2.TS) _ [_, _, _, _, _, _, _, _, _, _] _
    refine q_asgPL (epl_filter Rw.named (ev_var rfl) hO hR (by omega) (fun x => rfl) (fun x r H1 e hx => ?_) (fun x => rfl)) (fun pn nv H1 hpn e1 h1 hNv => ?_)
    · rw [← tag_named r]
      walk_at "ev"
    show (_ : L2.TS) _ [_, _, _, _, _, _, _, _, _, _] _
    have hN : SqL K H1 pn nv := sq_of h1
    have hln : nv.length = (opened.filter Rw.named).length := hNv.len
    have hln2 : (opened.filter Rw.named).length ≤ opened.length := List.length_filter_le _ _
    refine q_asgPL (epl_filter Rw.isLend (ev_var rfl) hN hNv (by omega) (fun x => rfl) (fun x r H1 e hx => ?_) (fun x => rfl)) (fun ph hv H2 hph e2 h2 hHv => ?_)
    · rw [← tag_lend r]
      walk_at "ev"
    show (_ : L2.TS) _ [_, _, _, _, _, _, _, _, _, _] _
    have hH : SqL K H2 ph hv := sq_of h2
    have hlh : hv.length = ((opened.filter Rw.named).filter Rw.isLend).length := hHv.len
    have hall : ∀ r ∈ opened.filter Rw.named, r.named = true := fun r hr => (List.mem_filter.mp hr).2
    have hallH : ∀ r ∈ (opened.filter Rw.named).filter Rw.isLend, r.isLend = true := fun r hr => (List.mem_filter.mp hr).2
    unfold rowM rowN at q
    generalize hnm : opened.filter Rw.named = named at *
    generalize hhm : named.filter Rw.isLend = hands at *
    have hlnm : named.length ≤ 20 := by omega
    have hNv2 := hNv.up e2
    rw [← hlo, ← hln, ← hlh] at q
    refine' q_when (b := decide (way < 4) && decide ((hv.length : Int) < 6)) ?_ (fun hb H3 e3 => ?_) (fun hb H3 e3 => ?_)
    · walk_at "ev"
    · simp only [Bool.and_eq_true, decide_eq_true_eq] at hb
      rw [if_pos hb] at q
      refine s_retP (ev_lend (n := pn) (a := a) (ns := nv) (d := d) ?_ ?_ (hNv2.up e3) hall hlnm ?_ ok) (fun v H4 e4 hv => q v H4 (by walk_at "ex") hv)
      · walk_at "ev"
      · walk_at "ev"
      · walk_at "ev"
    · simp only [Bool.and_eq_false_iff, decide_eq_false_iff_not] at hb
      rw [if_neg (fun z => hb.elim (fun y => y z.1) (fun y => y z.2))] at q
      refine' q_when (b := decide (V.int way = V.int 4) && decide ((nv.length : Int) - hv.length < 3)) ?_ (fun hb H4 e4 => ?_) (fun hb H4 e4 => ?_)
      · walk_at "ev"
      · simp only [Bool.and_eq_true, decide_eq_true_eq, V.int.injEq] at hb
        rw [if_pos hb] at q
        refine q_asgU (xs := ((List.range (1 + one % 5).toNat).map fun (k : Nat) => thingM (two + (k : Int) * (1 + one % 2)) d.base).map V.int) ?_ (fun pt H5 hpt e5 h5 => ?_)
        · refine eu_tuple ?_
          have hg := given_all (1 + one % 5).toNat (fun k => V.int (thingM (two + (k : Int) * (1 + one % 2)) d.base))
          rw [List.map_map]
          show EvL _ _ _ ((List.range (1 + one % 5).toNat).map fun (k : Nat) => V.int (thingM (two + (k : Int) * (1 + one % 2)) d.base))
          rw [← hg]
          refine el_lcR1 _ _ (n := 1 + one % 5) ?_ ⟨by omega, by omega⟩ (fun x => rfl) (fun i H6 e6 hi => et_yes) (fun i H6 e6 hi _ => ?_)
          · walk_at "ev"
          · walk_at "ev"
        · show (_ : L2.TS) _ [_, _, _, _, _, _, _, _, _, _] _
          refine s_retP (er_pickV (q := pt) ?_ h5) (fun v H6 e6 hv => q v H6 (by walk_at "ex") hv)
          walk_at "ev"
      · simp only [Bool.and_eq_false_iff, decide_eq_false_iff_not, V.int.injEq] at hb
        rw [if_neg (fun z => hb.elim (fun y => y z.1) (fun y => y z.2))] at q
        refine' q_when (b := decide (way = 5 ∨ way = 6) && decide ((ov.length : Int) < 12)) ?_ (fun hb H5 e5 => ?_) (fun hb H5 e5 => ?_)
        · rw [← in56]
          walk_at "ev"
        · simp only [Bool.and_eq_true, decide_eq_true_eq] at hb
          obtain ⟨hw | hw, hlt⟩ := hb
          · subst hw
            rw [if_pos ⟨rfl, hlt⟩] at q
            refine s_retP (er_either ?_) (fun v H6 e6 hv => q v H6 (by walk_at "ex") hv)
            walk_at "ev"
          · subst hw
            rw [if_neg (fun z => absurd z.1 (by decide)), if_pos ⟨rfl, hlt⟩] at q
            refine s_retP (er_again ?_) (fun v H6 e6 hv => q v H6 (by walk_at "ex") hv)
            walk_at "ev"
        · simp only [Bool.and_eq_false_iff, decide_eq_false_iff_not] at hb
          rw [if_neg (fun z => hb.elim (fun y => y (.inl z.1)) (fun y => y z.2)), if_neg (fun z => hb.elim (fun y => y (.inr z.1)) (fun y => y z.2))] at q
          by_cases h0 : 0 < ov.length
          · obtain ⟨x, hx, hX⟩ := rows_last hR h0
            rw [← hlo] at hX
            have hX5 : IsRow H5 x (opened.getD (ov.length - 1) .fin) := hX.up (by walk_at "ex")
            obtain ⟨px, xs, rfl, hpx⟩ := hX5.tup
            have hPx : SqT K H5 px (.str (opened.getD (ov.length - 1) .fin).tag :: xs) := st_of hpx
            refine' q_when (b := decide (V.int way = V.int 7) && (decide ((0 : Int) < ov.length) && (opened.getD (ov.length - 1) .fin).isEither)) ?_ (fun hb H6 e6 => ?_) (fun hb H6 e6 => ?_)
            · rw [← tag_either]
              walk_at "ev"
            · simp only [Bool.and_eq_true, decide_eq_true_eq, V.int.injEq] at hb
              rw [if_pos hb] at q
              refine s_retP (er_or ?_) (fun v H7 e7 hv => q v H7 (by walk_at "ex") hv)
              walk_at "ev"
            · simp only [Bool.and_eq_false_iff, decide_eq_false_iff_not, V.int.injEq] at hb
              rw [if_neg (fun z => hb.elim (fun y => y z.1) (fun y => y.elim (fun u => u z.2.1) (fun u => by rw [z.2.2] at u; cases u)))] at q
              refine' q_when (b := decide (way < 10) && decide ((0 : Int) < hv.length)) ?_ (fun hb H7 e7 => ?_) (fun hb H7 e7 => ?_)
              · walk_at "ev"
              · simp only [Bool.and_eq_true, decide_eq_true_eq] at hb
                rw [if_pos hb] at q
                refine s_retP (ev_deed (n := ph) (ns := hv) ?_ ?_ (hHv.up (by walk_at "ex")) hallH (by omega)) (fun v H8 e8 hv => q v H8 (by walk_at "ex") hv)
                · walk_at "ev"
                · walk_at "ev"
              · simp only [Bool.and_eq_false_iff, decide_eq_false_iff_not] at hb
                rw [if_neg (fun z => hb.elim (fun y => y z.1) (fun y => y z.2))] at q
                rw [if_pos (by omega)] at q
                refine' q_when (b := decide ((0 : Int) < ov.length)) ?_ (fun hb H8 e8 => ?_) (fun hb H8 e8 => ?_)
                · walk_at "ev"
                · refine s_retP (er_fin ?_) (fun v H9 e9 hv => q v H9 (by walk_at "ex") hv)
                  walk_at "ev"
                · exact absurd (by omega) (of_decide_eq_false hb)
          · have h00 : ¬ (0 : Int) < ov.length := by omega
            have hh0 : ¬ (0 : Int) < hv.length := by
              have := List.length_filter_le Rw.isLend named
              rw [hhm] at this
              omega
            rw [if_neg (fun z => h00 z.2.1), if_neg (fun z => hh0 z.2), if_neg h00] at q
            refine' q_when (b := false) ?_ (fun hb H6 e6 => ?_) (fun hb H6 e6 => ?_)
            · refine et_is (et_and (a := decide (V.int way = V.int 7)) (b := false) ?_ (fun _ => et_is (et_and (a := decide ((0 : Int) < ov.length)) (b := false) ?_ (fun z => absurd (of_decide_eq_true z) h00)) (Bool.and_false _))) (Bool.and_false _)
              · walk_at "ev"
              · walk_at "ev"
            · cases hb
            · refine' q_when (b := decide (way < 10) && decide ((0 : Int) < hv.length)) ?_ (fun hb H7 e7 => ?_) (fun hb H7 e7 => ?_)
              · walk_at "ev"
              · simp only [Bool.and_eq_true, decide_eq_true_eq] at hb
                exact absurd hb.2 hh0
              · refine' q_when (b := decide ((0 : Int) < ov.length)) ?_ (fun hb H8 e8 => ?_) (fun hb H8 e8 => ?_)
                · walk_at "ev"
                · exact absurd (of_decide_eq_true hb) h00
                · refine s_retP (ev_lend (n := pn) (a := a) (ns := nv) (d := d) ?_ ?_ (hNv2.up (by walk_at "ex")) hall hlnm ?_ ok) (fun v H4 e4 hv => q v H4 (by walk_at "ex") hv)
                  · walk_at "ev"
                  · walk_at "ev"
                  · walk_at "ev"
theorem ep_row {way one two : Int} {o a : Addr} {ov : List V} {opened : List Rw} {d : Draw} {ta : TA} {σ : L2.St} {H : Hp} {E : XK} (h : EvA ta σ H [.int way, .int one, .int two, .ref o, .ref a]) (hO : SqL K H o ov) (hR : Rows H ov opened) (hl : opened.length ≤ 1000) (hl2 : (opened.filter Rw.named).length ≤ 18)
    (hS : SqL K H a d.vs) (ok : d.Ok) : EvP (tCall (spRow K) [] E ta) σ H (ARow (rowM way one two opened d)) :=
  ep_call h fun H1 e Q q E => ⟨way, one, two, o, a, ov, opened, d, rfl, ex_l e hO, hR.up e, hl, hl2, ex_l e hS, ok, q⟩
end
end BD
namespace BD
open PySem PySem.Spec PyProof.Rows L2 Evl
local macro_rules | `(tactic| walk_at "ev") => `(tactic| first
  | ((with_reducible apply ev_var) ; rfl)
  | with_reducible exact ev_c
  | ((with_reducible apply ev_I0) <;> walk_at "ev")
  | ((with_reducible apply ev_e9) <;> walk_at "ev")
  | ((with_reducible apply ev_I) <;> walk_at "ev")
  | ((with_reducible apply ev_eq) <;> walk_at "ev")
  | ((with_reducible apply ev_ne) <;> walk_at "ev")
  | ((with_reducible apply ev_neg) <;> walk_at "ev")
  | ((with_reducible apply ev_ixN) <;> walk_at "ev")
  | ((with_reducible apply ev_ixL) <;> walk_at "ev")
  | ((with_reducible apply ev_inN) <;> walk_at "ev")
  | ((with_reducible apply ev_inT) <;> walk_at "ev")
  | ((with_reducible apply ev_ixT) <;> walk_at "ev")
  | ((with_reducible apply ev_ixS) <;> walk_at "ev")
  | ((with_reducible apply ev_len') <;> walk_at "ev")
  | ((with_reducible apply et_test) <;> walk_at "ev")
  | ((with_reducible apply et_and) <;> walk_at "ev")
  | ((with_reducible apply et_or) <;> walk_at "ev")
  | ((with_reducible apply et_not) <;> walk_at "ev")
  | ((with_reducible apply et_B) <;> walk_at "ev")
  | ((with_reducible apply el_lst) <;> walk_at "ev")
  | ((with_reducible apply eu_tup) <;> walk_at "ev")
  | ((with_reducible apply ea_cons) <;> walk_at "ev")
  | with_reducible exact ea_nil
  | with_reducible assumption
  | ((with_reducible apply ex_l' ; assumption) ; walk_at "ex")
  | ((with_reducible apply ex_t' ; assumption) ; walk_at "ex")
  | (intro _ ; walk_at "ev")
  | (with_reducible first | exact atI_hd | exact at_kind | exact at2s | exact at3s | exact at3i)
  | (first | exact rfl | exact Nat.le_of_ble_eq_true rfl | exact ⟨by decide, by decide⟩ | decide | exact Or.inl ⟨by omega, by omega⟩ | exact Or.inr ⟨by omega, by omega⟩ | omega)
  | skip)
local macro_rules | `(tactic| walk_at "ex") => `(tactic| first
  | assumption
  | exact Ex.refl _
  | (refine' Ex.trans ?_ (by assumption) ; walk_at "ex"))
local macro_rules | `(tactic| walk_at "row") => `(tactic| first
  | (with_reducible exact er_nil)
  | ((with_reducible apply er_cons) <;> walk_at "row")
  | (((with_reducible apply er_var) ; rfl) ; walk_at "isrow")
  | (((with_reducible apply elr_var) ; rfl) ; walk_at "isrow")
  | ((with_reducible apply elr_cat) <;> walk_at "row")
  | ((with_reducible apply elr_lst) <;> walk_at "row")
  | ((with_reducible apply er_fin) <;> walk_at "ev")
  | ((with_reducible apply er_lendT) <;> walk_at "ev")
  | ((with_reducible apply er_lendW) <;> walk_at "ev")
  | ((with_reducible apply er_pick) <;> walk_at "ev")
  | ((with_reducible apply er_either) <;> walk_at "ev")
  | ((with_reducible apply er_or) <;> walk_at "ev")
  | ((with_reducible apply er_again) <;> walk_at "ev")
  | ((with_reducible apply er_back) <;> walk_at "ev")
  | ((with_reducible apply er_look) <;> walk_at "ev")
  | ((with_reducible apply er_change) <;> walk_at "ev")
  | exact Nat.le_of_ble_eq_true rfl
  | skip)
local macro_rules | `(tactic| walk_at "isrow") => `(tactic| first
  | assumption
  | (refine IsRow.up ?_ (by assumption) ; walk_at "ex")
  | (refine LRows.up ?_ (by assumption) ; walk_at "ex"))

local macro_rules | `(tactic| walk_at "ev") => `(tactic| ((with_reducible apply ev_letter) <;> walk_at "ev"))
local macro_rules | `(tactic| walk_at "ev") => `(tactic| ((with_reducible apply ev_cell) <;> walk_at "ev"))
local macro_rules | `(tactic| walk_at "ev") => `(tactic| ((with_reducible apply ev_word) <;> walk_at "ev"))
local macro_rules | `(tactic| walk_at "ev") => `(tactic| ((with_reducible apply ev_thing) <;> walk_at "ev"))

local macro_rules | `(tactic| walk_at "ev") => `(tactic| (((with_reducible apply ev_tag) ; rfl) ; walk_at "isrow"))
abbrev s_l_sheet : Stmt := topS 18
theorem sc_l_sheet : FnScope ["_law_cells", "_law_draw_here", "_law_most", "_law_odd", "_law_rows", "_law_opened", "_law_k", "_law_row_here", "_law_named", "_law_way"] ["_law_cells", "_law_draw_here", "_law_most", "_law_odd"] (defScope s_l_sheet) := ⟨rfl, rfl, rfl, by decide +kernel, rfl, by decide +kernel, by decide +kernel⟩
abbrev s_l_drawn : Stmt := topS 19
theorem sc_l_drawn : FnScope ["_law_script", "_law_most", "_law_many", "_law_way", "_law_cells", "_law_rows", "_law_k"] ["_law_script", "_law_most"] (defScope s_l_drawn) := ⟨rfl, rfl, rfl, by decide +kernel, rfl, by decide +kernel, by decide +kernel⟩
/-! ### the sheet's mirror -/
def opUpd (op : List Rw) (r : Rw) : List Rw := if r.opens = true then op ++ [r] else if r.isFin = true then op.dropLast else op
def stepM (c0 c1 c2 most : Int) (odd : Bool) (d : Draw) (st : List Rw × List Rw) : List Rw × List Rw :=
  if odd = true ∧ c0 % 2 = 0 ∧ ((st.2.filter Rw.named).length : Int) < 3 then (st.1 ++ gadgetM c1 c2 (st.2.filter Rw.named).length d, st.2)
  else (st.1 ++ [rowM (c0 % most) c1 c2 st.2 d], opUpd st.2 (rowM (c0 % most) c1 c2 st.2 d))
def sheetSt (cells : List Int) (d : Draw) (most : Int) (odd : Bool) : Nat → List Rw × List Rw
  | 0 => ([], [])
  | i + 1 => stepM (cells.getD (3 * i) 0) (cells.getD (3 * i + 1) 0) (cells.getD (3 * i + 2) 0) most odd d (sheetSt cells d most odd i)
def sheetM (cells : List Int) (d : Draw) (most : Int) (odd : Bool) : List Rw :=
  (sheetSt cells d most odd (cells.length / 3)).1 ++ (List.range (sheetSt cells d most odd (cells.length / 3)).2.length).map fun _ => Rw.fin
/-- what is open is small: six lends, three picks -/
def Rw.isPick : Rw → Bool
  | .pick _ _ => true | _ => false
structure Few (op : List Rw) : Prop where
  lends : (op.filter Rw.isLend).length ≤ 6
  picks : (op.filter Rw.isPick).length ≤ 3
theorem named_len : ∀ op : List Rw, (op.filter Rw.named).length = (op.filter Rw.isLend).length + (op.filter Rw.isPick).length
  | [] => rfl
  | r :: op => by
    have ih := named_len op
    cases r <;> simp only [List.filter_cons, Rw.named, Rw.isLend, Rw.isPick, if_true, if_false, List.length_cons, Bool.false_eq_true] <;> omega
theorem lend_of_named (op : List Rw) : (op.filter Rw.named).filter Rw.isLend = op.filter Rw.isLend := by
  rw [List.filter_filter]
  congr 1
  funext r
  cases r <;> rfl
theorem Few.named {op : List Rw} (f : Few op) : (op.filter Rw.named).length ≤ 9 := by
  have := named_len op
  have := f.lends
  have := f.picks
  omega
theorem few_drop {op : List Rw} (f : Few op) : Few op.dropLast := by
  have h : List.Sublist op.dropLast op := List.dropLast_sublist op
  exact ⟨Nat.le_trans (h.filter _).length_le f.lends, Nat.le_trans (h.filter _).length_le f.picks⟩
theorem lendM_isLend (one two : Int) (named : List Rw) (d : Draw) : (lendM one two named d).isLend = true := by
  unfold lendM
  split <;> rfl
theorem deedM_not (one two : Int) (hands : List Rw) : (deedM one two hands).opens = false ∧ (deedM one two hands).isFin = false := by
  unfold deedM
  split
  · exact ⟨rfl, rfl⟩
  · split
    · exact ⟨rfl, rfl⟩
    · split <;> exact ⟨rfl, rfl⟩
theorem lend_few {op : List Rw} {r : Rw} (f : Few op) (hr : r.isLend = true) (h : (op.filter Rw.isLend).length < 6 ∨ op = []) : Few (opUpd op r) := by
  cases r with
  | lend a b c =>
    have e : opUpd op (.lend a b c) = op ++ [.lend a b c] := rfl
    rw [e]
    refine ⟨?_, ?_⟩
    · rw [List.filter_append, List.length_append]
      show _ + 1 ≤ 6
      rcases h with h | h
      · omega
      · subst h; decide
    · rw [List.filter_append, List.length_append]
      exact f.picks
  | _ => cases hr
theorem few_row {op : List Rw} (f : Few op) (way one two : Int) (d : Draw) : Few (opUpd op (rowM way one two op d)) := by
  unfold rowM
  rw [lend_of_named]
  have hn := named_len op
  unfold rowN
  split
  · rename_i h
    exact lend_few f (lendM_isLend _ _ _ _) (.inl (by omega))
  split
  · rename_i h
    show Few (op ++ [_])
    refine ⟨?_, ?_⟩
    · rw [List.filter_append, List.length_append]
      exact f.lends
    · rw [List.filter_append, List.length_append]
      show _ + 1 ≤ 3
      omega
  split
  · show Few (op ++ [_])
    refine ⟨?_, ?_⟩
    · rw [List.filter_append, List.length_append]
      exact f.lends
    · rw [List.filter_append, List.length_append]
      exact f.picks
  split
  · show Few (op ++ [_])
    refine ⟨?_, ?_⟩
    · rw [List.filter_append, List.length_append]
      exact f.lends
    · rw [List.filter_append, List.length_append]
      exact f.picks
  split
  · exact f
  split
  · have h := deedM_not one two (op.filter Rw.isLend)
    unfold opUpd
    rw [h.1, h.2]
    exact f
  split
  · exact few_drop f
  · rename_i h
    refine lend_few f (lendM_isLend _ _ _ _) (.inr ?_)
    cases op with
    | nil => rfl
    | cons a b => exact absurd (by show (0 : Int) < ((b.length + 1 : Nat) : Int); omega) h
theorem rowM_fin {op : List Rw} {way one two : Int} {d : Draw} (h : (rowM way one two op d).isFin = true) : 0 < op.length := by
  have hl : ∀ named : List Rw, (lendM one two named d).isFin = true → False := fun named z => by
    have := lendM_isLend one two named d
    generalize lendM one two named d = r at *
    cases r <;> simp_all [Rw.isFin, Rw.isLend]
  unfold rowM rowN at h
  split at h
  · exact (hl _ h).elim
  split at h
  · cases h
  split at h
  · cases h
  split at h
  · cases h
  split at h
  · cases h
  split at h
  · rw [(deedM_not _ _ _).2] at h; cases h
  split at h
  · omega
  · exact (hl _ h).elim
theorem few_st (cells : List Int) (d : Draw) (most : Int) (odd : Bool) : ∀ i, Few (sheetSt cells d most odd i).2
  | 0 => ⟨Nat.zero_le _, Nat.zero_le _⟩
  | i + 1 => by
    have ih := few_st cells d most odd i
    unfold sheetSt stepM
    split
    · exact ih
    · exact few_row ih _ _ _ _
theorem gad_len (one two : Int) (a b c : Str) (t : Int) : (gadA one two a b c t).length ≤ 12 := by
  unfold gadA
  split
  · unfold fourM
    split
    · exact Nat.le_of_ble_eq_true rfl
    split
    · exact Nat.le_of_ble_eq_true rfl
    split <;> exact Nat.le_of_ble_eq_true rfl
  split
  · show 6 ≤ 12
    exact Nat.le_of_ble_eq_true rfl
  split
  · exact Nat.le_of_ble_eq_true rfl
  split
  · exact Nat.le_of_ble_eq_true rfl
  split <;> exact Nat.le_of_ble_eq_true rfl
theorem opUpd_len (op : List Rw) (r : Rw) : (opUpd op r).length ≤ op.length + 1 := by
  unfold opUpd
  split
  · rw [List.length_append]; exact Nat.le_refl _
  split
  · rw [List.length_dropLast]; omega
  · omega
theorem st_len (cells : List Int) (d : Draw) (most : Int) (odd : Bool) : ∀ i, (sheetSt cells d most odd i).1.length ≤ 12 * i ∧ (sheetSt cells d most odd i).2.length ≤ i
  | 0 => ⟨Nat.le_refl _, Nat.le_refl _⟩
  | i + 1 => by
    have ih := st_len cells d most odd i
    unfold sheetSt stepM
    split
    · have h := gad_len (cells.getD (3 * i + 1) 0) (cells.getD (3 * i + 2) 0) (wordM (cells.getD (3 * i + 1) 0) (cells.getD (3 * i + 2) 0) ((sheetSt cells d most odd i).2.filter Rw.named).length d)
        (wordM (cells.getD (3 * i + 2) 0) (cells.getD (3 * i + 1) 0) (((sheetSt cells d most odd i).2.filter Rw.named).length + 1) d) (wordM (cells.getD (3 * i + 1) 0) (cells.getD (3 * i + 1) 0) (((sheetSt cells d most odd i).2.filter Rw.named).length + 2) d) (thingM (cells.getD (3 * i + 2) 0) d.base)
      show (_ ++ gadgetM _ _ _ _).length ≤ _ ∧ _
      rw [List.length_append]
      unfold gadgetM
      exact ⟨by omega, by show (sheetSt cells d most odd i).2.length ≤ i + 1; omega⟩
    · show (_ ++ [_]).length ≤ _ ∧ (opUpd _ _).length ≤ _
      rw [List.length_append]
      have h2 := opUpd_len (sheetSt cells d most odd i).2 (rowM (cells.getD (3 * i) 0 % most) (cells.getD (3 * i + 1) 0) (cells.getD (3 * i + 2) 0) (sheetSt cells d most odd i).2 d)
      exact ⟨by show _ + 1 ≤ _; omega, by omega⟩
theorem sheet_len (cells : List Int) (d : Draw) (most : Int) (odd : Bool) : (sheetM cells d most odd).length ≤ 13 * (cells.length / 3) := by
  have h := st_len cells d most odd (cells.length / 3)
  unfold sheetM
  rw [List.length_append, List.length_map, List.length_range]
  omega
section
variable {P : Program} {w : World} {K : PySem.W.Frag} {mg : Str → Option Value} {base : Heap}
def spSheet (K : PySem.W.Frag) : Sp := fun vs H Q _ => ∃ (ac a : Addr) (cells : List Int) (d : Draw) (most : Int) (odd : Bool), vs = [.ref ac, .ref a, .int most, .bl odd] ∧ SqL K H ac (cells.map V.int) ∧ cells.length ≤ 600 ∧ SqL K H a d.vs ∧ d.Ok ∧ 0 < most ∧
  Ret (LRows (sheetM cells d most odd)) H Q
theorem cell_at {cells : List Int} {n : Nat} (h : n < cells.length) {z : Int} (e : z = (n : Int)) : atI (cells.map V.int) z = some (.int (cells.getD n 0)) := by
  have := at_ints cells (i := (n : Int)) (by omega) (by omega)
  rw [e, this, Int.toNat_natCast]
theorem ok_sheet (D : Dn K mg "_law_sheet" s_l_sheet ["_law_cells", "_law_draw_here", "_law_most", "_law_odd"]) (T : Blt mg) (h_l_gadget : Has P w K mg base "_law_gadget" 3 ["_law_one", "_law_two", "_law_deep", "_law_draw_here"] (spGadget K)) (h_l_row : Has P w K mg base "_law_row" 3 ["_law_way", "_law_one", "_law_two", "_law_opened", "_law_draw_here"] (spRow K)) : Has P w K mg base "_law_sheet" 4 ["_law_cells", "_law_draw_here", "_law_most", "_law_odd"] (spSheet K) := by
  refine D.ok sc_l_sheet (fun vs H Q E h => ?_) (fun f cdv A outer s H vs Q E hr h => ?_)
  · obtain ⟨ac, a, cells, d, most, odd, rfl, _⟩ := h
    rfl
  · obtain ⟨ac, a, cells, d, most, odd, rfl, hC, hlen, hS, ok, hm, q⟩ := h
    refine ⟨_, (pss_cons (ps_set (i := 4) sc_l_sheet.nd rfl (Or.inl rfl) (pe_lst pa_nil)) (pss_cons (ps_set (i := 5) sc_l_sheet.nd rfl (Or.inl rfl) (pe_lst pa_nil)) (pss_cons (ps_for PassesOwn.never rfl (pi_range1 (by rfl) T.range_ (pa_cons (pe_op op_fdiv (pe_callB (show CallR _ _ (rLenS K) from call_len_seq) (by rfl) T.len_ (by decide +kernel) (pa_cons (pv 0) pa_nil)) pe_int) pa_nil)) (pg_name (i := 6) sc_l_sheet.nd rfl (Or.inl rfl)) (pss_cons (ps_setLc (i := 8) (own := [("_law_row_here", 7)]) (g := (gName 7))  rfl sc_l_sheet.nd rfl rfl (sw_true rfl rfl rfl (by decide +kernel)) (pi_list (pv 5)) (blkOk_by (own := [("_law_row_here", 7)]) (N := ["_law_cells", "_law_draw_here", "_law_most", "_law_odd", "_law_rows", "_law_opened", "_law_k", "_law_row_here", "_law_named", "_law_way"]) (sc := defScope s_l_sheet) (by decide +kernel)) (fun _ _ _ _ _ => (pg_name (i := 7) sc_l_sheet.nd rfl (Or.inl rfl))) (fun _ _ _ _ _ => (pts_one (pt_cmpR (show OpR _ _ (rIn K false) from op_in_seq) (pe_ix (show IxR _ (rIxT K) from ix_tup) (pv 7) pe_int (fun _ _ => rfl)) (pe_lst (pa_cons pe_str (pa_cons pe_str pa_nil))) (by rfl)))) (fun _ _ _ _ _ => (pv 7))) (pss_cons (ps_set (i := 9) sc_l_sheet.nd rfl (Or.inl rfl) (pe_ix (show IxR _ (rIxL K) from ix_list) (pv 0) (pe_op op_mul pe_int (pv 6)) (fun _ _ => rfl))) (pss_one (ps_if (PW.pt (pw_and (pt_val (pv 3)) (pw_and (pt_cmpR op_eq (pe_op op_mod (pv 9) pe_int) pe_int (nomark _)) (pw_and1 (pt_cmpR op_lt (pe_callB (show CallR _ _ (rLenS K) from call_len_seq) (by rfl) T.len_ (by decide +kernel) (pa_cons (pv 8) pa_nil)) pe_int (nomark _)))))) (pss_one (ps_set (i := 4) sc_l_sheet.nd rfl (Or.inl rfl) (pe_op op_cat (pv 4) (pe_own h_l_gadget (hr.mono (by decide)) (by rfl) (pa_cons (pe_ix (show IxR _ (rIxL K) from ix_list) (pv 0) (pe_op op_add (pe_op op_mul pe_int (pv 6)) pe_int) (fun _ _ => rfl)) (pa_cons (pe_ix (show IxR _ (rIxL K) from ix_list) (pv 0) (pe_op op_add (pe_op op_mul pe_int (pv 6)) pe_int) (fun _ _ => rfl)) (pa_cons (pe_callB (show CallR _ _ (rLenS K) from call_len_seq) (by rfl) T.len_ (by decide +kernel) (pa_cons (pv 8) pa_nil)) (pa_cons (pv 1) pa_nil)))))))) (pss_cons (ps_set (i := 7) sc_l_sheet.nd rfl (Or.inl rfl) (pe_own h_l_row (hr.mono (by decide)) (by rfl) (pa_cons (pe_op op_mod (pv 9) (pv 2)) (pa_cons (pe_ix (show IxR _ (rIxL K) from ix_list) (pv 0) (pe_op op_add (pe_op op_mul pe_int (pv 6)) pe_int) (fun _ _ => rfl)) (pa_cons (pe_ix (show IxR _ (rIxL K) from ix_list) (pv 0) (pe_op op_add (pe_op op_mul pe_int (pv 6)) pe_int) (fun _ _ => rfl)) (pa_cons (pv 5) (pa_cons (pv 1) pa_nil))))))) (pss_cons (ps_set (i := 4) sc_l_sheet.nd rfl (Or.inl rfl) (pe_op op_cat (pv 4) (pe_lst (pa_cons (pv 7) pa_nil)))) (pss_cons (ps_if (pt_cmpR (show OpR _ _ (rIn K false) from op_in_seq) (pe_ix (show IxR _ (rIxT K) from ix_tup) (pv 7) pe_int (fun _ _ => rfl)) (pe_lst (pa_cons pe_str (pa_cons pe_str (pa_cons pe_str (pa_cons pe_str pa_nil))))) (by rfl)) (pss_one (ps_expr (pe_bm PySem.F.plainAttrs_list PySem.F.slot_list_append PySem.F.type_list_append mt_append (pv 5) (pa_cons (pv 7) pa_nil)))) pss_nil) (pss_one (ps_if (pt_cmpR op_eq (pe_ix (show IxR _ (rIxT K) from ix_tup) (pv 7) pe_int (fun _ _ => rfl)) pe_str (nomark _)) (pss_one (ps_expr (pe_bm0 PySem.F.plainAttrs_list PySem.F.slot_list_pop PySem.F.type_list_pop mt_pop (pv 5)))) pss_nil)))))))))) (pss_one (ps_ret (pe_op op_cat (pv 4) (pe_lc (own := [("_law_row_here", 7)]) (g := (gName 7)) (tt := tYes) rfl sc_l_sheet.nd (pi_list (pv 5)) (blkOk_by (own := [("_law_row_here", 7)]) (N := ["_law_cells", "_law_draw_here", "_law_most", "_law_odd", "_law_rows", "_law_opened", "_law_k", "_law_row_here", "_law_named", "_law_way"]) (sc := defScope s_l_sheet) (by decide +kernel)) (fun _ _ _ _ _ => (pg_name (i := 7) sc_l_sheet.nd rfl (Or.inl rfl))) (fun _ _ _ _ _ => pts_nil) (fun _ _ _ _ _ => (pe_tup (pa_cons pe_str pa_nil)))))))))), ?_⟩
    show (_ : L2.TS) _ [_, _, _, _, _, _, _, _, _, _] _
    refine q_asgL (xs := []) ?_ (fun pr0 H1 hpr0 e1 h1 => ?_)
    · walk_at "ev"
    show (_ : L2.TS) _ [_, _, _, _, _, _, _, _, _, _] _
    refine q_asgL (xs := []) ?_ (fun po H2 hpo e2 h2 => ?_)
    · walk_at "ev"
    show (_ : L2.TS) _ [_, _, _, _, _, _, _, _, _, _] _
    have hpoH : H po = none := fresh_back e1 hpo
    refine q_forR1 (n := (((cells.map V.int).length : Nat) : Int) / 3) ?_ ?_ (fun i σ' H' => Ex H H' ∧ ∃ pr rv ov x6 x7 x8 x9, σ' = [some (.ref ac), some (.ref a), some (.int most), some (.bl odd), some (.ref pr), some (.ref po), x6, x7, x8, x9] ∧ pr ≠ po ∧
      H' pr = some (.lst rv) ∧ Rows H' rv (sheetSt cells d most odd i).1 ∧ H' po = some (.lst ov) ∧ Rows H' ov (sheetSt cells d most odd i).2) ?_ ?_ ?_
    · walk_at "ev"
    · rw [List.length_map]
      omega
    · intro H3 e3
      exact ⟨by walk_at "ex", pr0, [], [], none, none, none, none, rfl, (ne_of_none h1 hpo), e3 _ _ (e2 _ _ h1), .nil, e3 _ _ h2, .nil⟩
    · rintro i σ' H' hi ⟨e3, pr, rv, ov, x6, x7, x8, x9, rfl, hne, hpr, hRv, hpo', hOv⟩
      rw [List.length_map] at hi
      have hst := st_len cells d most odd i
      have hfew := (few_st cells d most odd i).named
      have hi3 : 3 * i + 2 < cells.length := by omega
      generalize hste : sheetSt cells d most odd i = st at *
      have hO : SqL K H' po ov := sq_of hpo'
      have hlo := hOv.len
      refine q_asgPL (epl_filter Rw.named (ev_var rfl) hO hOv (by omega) (fun x => rfl) (fun x r H1 e hx => ?_) (fun x => rfl)) (fun pn nv H4 hpn e4 h4 hNv => ?_)
      · rw [← tag_named r]
        walk_at "ev"
      show (_ : L2.TS) _ [_, _, _, _, _, _, _, _, _, _] _
      have hN : SqL K H4 pn nv := sq_of h4
      have hln := hNv.len
      refine' q_asg (v := .int (cells.getD (3 * i) 0)) ?_ (fun H5 e5 => ?_)
      · walk_at "ev"
        exact cell_at (by omega) (by omega)
      show (_ : L2.TS) _ [_, _, _, _, _, _, _, _, _, _] _
      refine' s_if (b := odd && (decide (V.int (cells.getD (3 * i) 0 % 2) = V.int 0) && decide ((nv.length : Int) < 3))) ?_ (fun hb H6 e6 => ?_) (fun hb H6 e6 => ?_)
      · walk_at "ev"
      · simp only [Bool.and_eq_true, decide_eq_true_eq, V.int.injEq] at hb
        rw [hln] at hb
        have hL6 : LRows st.1 (.ref pr) H6 := ⟨pr, rv, rfl, e6 _ _ (e5 _ _ (e4 _ _ hpr)), ((hRv.up e4).up e5).up e6⟩
        have hg := gad_len (cells.getD (3 * i + 1) 0) (cells.getD (3 * i + 2) 0) (wordM (cells.getD (3 * i + 1) 0) (cells.getD (3 * i + 2) 0) (st.2.filter Rw.named).length d)
          (wordM (cells.getD (3 * i + 2) 0) (cells.getD (3 * i + 1) 0) ((st.2.filter Rw.named).length + 1) d) (wordM (cells.getD (3 * i + 1) 0) (cells.getD (3 * i + 1) 0) ((st.2.filter Rw.named).length + 2) d) (thingM (cells.getD (3 * i + 2) 0) d.base)
        refine s_asgPL (elr_catL (elr_var rfl hL6) (ep_gadget (one := cells.getD (3 * i + 1) 0) (two := cells.getD (3 * i + 2) 0) (deep := ((st.2.filter Rw.named).length : Nat)) (a := a) (d := d) ?_ ?_ ok (by omega) (by omega)) ?_) (fun p us H7 hp e7 h7 hR => ?_)
        · rw [← hln]
          walk_at "ev"
          · exact cell_at (n := 3 * i + 1) (by omega) (by omega)
          · exact cell_at (n := 3 * i + 2) (by omega) (by omega)
        · walk_at "ev"
        · unfold gadgetM
          omega
        · have e37 : Ex H' H7 := by walk_at "ex"
          refine ⟨e3.trans e37, p, us, ov, _, _, _, _, rfl, (ne_of_none (e6 _ _ (e5 _ _ (e4 _ _ hpo'))) hp).symm, h7, ?_, e37 _ _ hpo', ?_⟩
          · unfold sheetSt stepM
            rw [hste, if_pos ⟨hb.1, hb.2.1, hb.2.2⟩]
            exact hR
          · unfold sheetSt stepM
            rw [hste, if_pos ⟨hb.1, hb.2.1, hb.2.2⟩]
            exact hOv.up e37
      · simp only [Bool.and_eq_false_iff, decide_eq_false_iff_not, V.int.injEq] at hb
        rw [hln] at hb
        have hneg : ¬ (odd = true ∧ cells.getD (3 * i) 0 % 2 = 0 ∧ ((st.2.filter Rw.named).length : Int) < 3) := fun z => by
          rcases hb with hb | hb | hb
          · rw [z.1] at hb; cases hb
          · exact hb z.2.1
          · exact hb z.2.2
        have est : sheetSt cells d most odd (i + 1) = (st.1 ++ [rowM (cells.getD (3 * i) 0 % most) (cells.getD (3 * i + 1) 0) (cells.getD (3 * i + 2) 0) st.2 d], opUpd st.2 (rowM (cells.getD (3 * i) 0 % most) (cells.getD (3 * i + 1) 0) (cells.getD (3 * i + 2) 0) st.2 d)) := by
          show stepM _ _ _ _ _ _ _ = _
          rw [hste]
          unfold stepM
          rw [if_neg hneg]
        have e46 : Ex H' H6 := by walk_at "ex"
        refine q_asgP (ep_row (way := cells.getD (3 * i) 0 % most) (one := cells.getD (3 * i + 1) 0) (two := cells.getD (3 * i + 2) 0) (o := po) (a := a) (ov := ov) (opened := st.2) (d := d) ?_ (sq_of (e46 _ _ hpo')) (hOv.up e46) (by omega) (by omega) ?_ ok) (fun v H7 e7 hv => ?_)
        · clear e46
          walk_at "ev"
          · exact cell_at (n := 3 * i + 1) (by omega) (by omega)
          · exact cell_at (n := 3 * i + 2) (by omega) (by omega)
        · clear e46
          walk_at "ev"
        show (_ : L2.TS) _ [_, _, _, _, _, _, _, _, _, _] _
        have hfin : (rowM (cells.getD (3 * i) 0 % most) (cells.getD (3 * i + 1) 0) (cells.getD (3 * i + 2) 0) st.2 d).isFin = true → 0 < st.2.length := rowM_fin
        generalize rowM (cells.getD (3 * i) 0 % most) (cells.getD (3 * i + 1) 0) (cells.getD (3 * i + 2) 0) st.2 d = r at *
        have hv : IsRow H7 v r := hv
        have e67 : Ex H' H7 := e46.trans e7
        have hL7 : LRows st.1 (.ref pr) H7 := ⟨pr, rv, rfl, e67 _ _ hpr, hRv.up e67⟩
        refine q_asgPL (elr_catL (elr_var rfl hL7) (elr_lst (er_cons (er_var rfl hv) er_nil) (Nat.le_of_ble_eq_true rfl)) (by show st.1.length + 1 ≤ 100000; omega)) (fun p us H8 hp e8 h8 hR => ?_)
        show (_ : L2.TS) _ [_, _, _, _, _, _, _, _, _, _] _
        have e68 : Ex H' H8 := e67.trans e8
        have hv8 : IsRow H8 v r := hv.up e8
        have hpo8 : H8 po = some (.lst ov) := e68 _ _ hpo'
        have hnp : p ≠ po := (ne_of_none (e67 _ _ hpo') hp).symm
        have eH8 : Ex H H8 := e3.trans e68
        clear e4 e5 e6 e7 e8 e46 e67
        have hR1 : Rows H8 us (sheetSt cells d most odd (i + 1)).1 := by
          rw [est]
          exact hR
        have e2nd : (sheetSt cells d most odd (i + 1)).2 = opUpd st.2 r := by rw [est]
        cases hro : r.opens with
        | true =>
          have hrf : r.isFin = false := by cases r <;> first | rfl | cases hro
          refine q_when (b := true) ?_ (fun _ H9 e9 => ?_) (fun hb _ _ => by cases hb)
          · refine et_is ?_ hro
            rw [← tag_opens r]
            walk_at "ev"
          · refine s_app (e9 _ _ hpo8) (ev_var rfl) (ev_var rfl) (by omega) (fun H10 e10 => ?_)
            have x10 : ExT H10 (upd H10 po (.lst (ov ++ [v]))) := ExT.lst (e10 _ _ (e9 _ _ hpo8))
            have eT : ExT H8 (upd H10 po (.lst (ov ++ [v]))) := (ExT.of (e9.trans e10)).trans x10
            have e11 : Ex H (upd H10 po (.lst (ov ++ [v]))) := Ex.mut (eH8.trans (e9.trans e10)) hpoH
            have hX : IsRow (upd H10 po (.lst (ov ++ [v]))) v r := hv8.upT eT
            dsimp only
            refine s_when (b := false) ?_ (fun hb _ _ => by cases hb) (fun _ H11 e12 => ?_)
            · refine et_is ?_ hrf
              rw [← tag_fin r]
              walk_at "ev"
            · refine ⟨e11.trans e12, p, us, ov ++ [v], _, _, _, _, rfl, hnp, e12 _ _ (by rw [upd_ne hnp]; exact e10 _ _ (e9 _ _ h8)), (hR1.upT eT).up e12, e12 _ _ upd_same, ?_⟩
              rw [e2nd]
              unfold opUpd
              rw [if_pos hro]
              exact (Rows.append ((hOv.up e68).upT eT) (.cons hX .nil)).up e12
        | false =>
          refine q_when (b := false) ?_ (fun hb _ _ => by cases hb) (fun _ H9 e9 => ?_)
          · refine et_is ?_ hro
            rw [← tag_opens r]
            walk_at "ev"
          · have hv9 : IsRow H9 v r := hv8.up e9
            cases hrf : r.isFin with
            | true =>
              have hpos : 0 < ov.length := by
                have := hfin hrf
                omega
              refine s_when (b := true) ?_ (fun _ H10 e10 => ?_) (fun hb _ _ => by cases hb)
              · refine et_is ?_ hrf
                rw [← tag_fin r]
                walk_at "ev"
              · refine s_pop (e10 _ _ (e9 _ _ hpo8)) (ev_var rfl) hpos (fun H11 e11 => ?_)
                have x10 : ExT H11 (upd H11 po (.lst ov.dropLast)) := ExT.lst (e11 _ _ (e10 _ _ (e9 _ _ hpo8)))
                have eT : ExT H8 (upd H11 po (.lst ov.dropLast)) := (ExT.of (e9.trans (e10.trans e11))).trans x10
                have e12 : Ex H (upd H11 po (.lst ov.dropLast)) := Ex.mut (eH8.trans (e9.trans (e10.trans e11))) hpoH
                refine ⟨e12, p, us, ov.dropLast, _, _, _, _, rfl, hnp, (by rw [upd_ne hnp]; exact e11 _ _ (e10 _ _ (e9 _ _ h8))), hR1.upT eT, upd_same, ?_⟩
                rw [e2nd]
                unfold opUpd
                rw [if_neg (by rw [hro]; decide), if_pos hrf]
                exact ((hOv.up e68).upT eT).dropLast
            | false =>
              refine s_when (b := false) ?_ (fun hb _ _ => by cases hb) (fun _ H10 e10 => ?_)
              · refine et_is ?_ hrf
                rw [← tag_fin r]
                walk_at "ev"
              · have e11 : Ex H8 H10 := e9.trans e10
                refine ⟨eH8.trans e11, p, us, ov, _, _, _, _, rfl, hnp, e11 _ _ h8, hR1.up e11, e11 _ _ hpo8, ?_⟩
                rw [e2nd]
                unfold opUpd
                rw [if_neg (by rw [hro]; decide), if_neg (by rw [hrf]; decide)]
                exact (hOv.up e68).up e11
    · rintro σ' H' ⟨e3, pr, rv, ov, x6, x7, x8, x9, rfl, hne, hpr, hRv, hpo', hOv⟩
      rw [show ((((cells.map V.int).length : Nat) : Int) / 3).toNat = cells.length / 3 by rw [List.length_map]; omega] at hRv hOv
      have hst := st_len cells d most odd (cells.length / 3)
      have hlo := hOv.len
      refine s_retP (ep_PL (elr_catL (elr_var rfl ⟨pr, rv, rfl, hpr, hRv⟩) (ep_PL (epl_map (fun _ => Rw.fin) (ev_var rfl) (sq_of hpo') (by omega) (fun x => rfl) (fun j x H4 e4 hx => ?_))) ?_)) (fun v H5 e5 hv => q v H5 (e3.trans e5) ?_)
      · walk_at "row"
      · rw [List.length_map, List.length_range]
        omega
      · unfold sheetM
        rw [← hlo]
        exact hv
theorem ep_sheet {ac a : Addr} {cells : List Int} {d : Draw} {most : Int} {odd : Bool} {ta : TA} {σ : L2.St} {H : Hp} {E : XK} (h : EvA ta σ H [.ref ac, .ref a, .int most, .bl odd]) (hC : SqL K H ac (cells.map V.int)) (hl : cells.length ≤ 600)
    (hS : SqL K H a d.vs) (ok : d.Ok) (hm : 0 < most) : EvP (tCall (spSheet K) [] E ta) σ H (LRows (sheetM cells d most odd)) :=
  ep_call h fun H1 e Q q E => ⟨ac, a, cells, d, most, odd, rfl, ex_l e hC, hl, ex_l e hS, ok, hm, q⟩
end
end BD
namespace BD
open PySem PySem.Spec PyProof.Rows L2 Evl
local macro_rules | `(tactic| walk_at "ev") => `(tactic| first
  | ((with_reducible apply ev_var) ; rfl)
  | with_reducible exact ev_c
  | ((with_reducible apply ev_I0) <;> walk_at "ev")
  | ((with_reducible apply ev_e9) <;> walk_at "ev")
  | ((with_reducible apply ev_I) <;> walk_at "ev")
  | ((with_reducible apply ev_eq) <;> walk_at "ev")
  | ((with_reducible apply ev_ne) <;> walk_at "ev")
  | ((with_reducible apply ev_neg) <;> walk_at "ev")
  | ((with_reducible apply ev_ixN) <;> walk_at "ev")
  | ((with_reducible apply ev_ixL) <;> walk_at "ev")
  | ((with_reducible apply ev_inN) <;> walk_at "ev")
  | ((with_reducible apply ev_inT) <;> walk_at "ev")
  | ((with_reducible apply ev_ixT) <;> walk_at "ev")
  | ((with_reducible apply ev_ixS) <;> walk_at "ev")
  | ((with_reducible apply ev_len') <;> walk_at "ev")
  | ((with_reducible apply et_test) <;> walk_at "ev")
  | ((with_reducible apply et_and) <;> walk_at "ev")
  | ((with_reducible apply et_or) <;> walk_at "ev")
  | ((with_reducible apply et_not) <;> walk_at "ev")
  | ((with_reducible apply et_B) <;> walk_at "ev")
  | ((with_reducible apply el_lst) <;> walk_at "ev")
  | ((with_reducible apply eu_tup) <;> walk_at "ev")
  | ((with_reducible apply ea_cons) <;> walk_at "ev")
  | with_reducible exact ea_nil
  | with_reducible assumption
  | ((with_reducible apply ex_l' ; assumption) ; walk_at "ex")
  | ((with_reducible apply ex_t' ; assumption) ; walk_at "ex")
  | (intro _ ; walk_at "ev")
  | (with_reducible first | exact atI_hd | exact at_kind | exact at2s | exact at3s | exact at3i)
  | (first | exact rfl | exact Nat.le_of_ble_eq_true rfl | exact ⟨by decide, by decide⟩ | decide | exact Or.inl ⟨by omega, by omega⟩ | exact Or.inr ⟨by omega, by omega⟩ | omega)
  | skip)
local macro_rules | `(tactic| walk_at "ex") => `(tactic| first
  | assumption
  | exact Ex.refl _
  | (refine' Ex.trans ?_ (by assumption) ; walk_at "ex"))
local macro_rules | `(tactic| walk_at "row") => `(tactic| first
  | (with_reducible exact er_nil)
  | ((with_reducible apply er_cons) <;> walk_at "row")
  | (((with_reducible apply er_var) ; rfl) ; walk_at "isrow")
  | (((with_reducible apply elr_var) ; rfl) ; walk_at "isrow")
  | ((with_reducible apply elr_cat) <;> walk_at "row")
  | ((with_reducible apply elr_lst) <;> walk_at "row")
  | ((with_reducible apply er_fin) <;> walk_at "ev")
  | ((with_reducible apply er_lendT) <;> walk_at "ev")
  | ((with_reducible apply er_lendW) <;> walk_at "ev")
  | ((with_reducible apply er_pick) <;> walk_at "ev")
  | ((with_reducible apply er_either) <;> walk_at "ev")
  | ((with_reducible apply er_or) <;> walk_at "ev")
  | ((with_reducible apply er_again) <;> walk_at "ev")
  | ((with_reducible apply er_back) <;> walk_at "ev")
  | ((with_reducible apply er_look) <;> walk_at "ev")
  | ((with_reducible apply er_change) <;> walk_at "ev")
  | exact Nat.le_of_ble_eq_true rfl
  | skip)
local macro_rules | `(tactic| walk_at "isrow") => `(tactic| first
  | assumption
  | (refine IsRow.up ?_ (by assumption) ; walk_at "ex")
  | (refine LRows.up ?_ (by assumption) ; walk_at "ex"))

local macro_rules | `(tactic| walk_at "ev") => `(tactic| ((with_reducible apply ev_letter) <;> walk_at "ev"))
local macro_rules | `(tactic| walk_at "ev") => `(tactic| ((with_reducible apply ev_cell) <;> walk_at "ev"))
local macro_rules | `(tactic| walk_at "ev") => `(tactic| ((with_reducible apply ev_word) <;> walk_at "ev"))
local macro_rules | `(tactic| walk_at "ev") => `(tactic| ((with_reducible apply ev_thing) <;> walk_at "ev"))

section
variable {P : Program} {w : World} {K : PySem.W.Frag} {mg : Str → Option Value} {base : Heap}
def mostM (way : Int) : Int := if way = 2 then 5 else if way = 3 ∨ way = 6 then 10 else 12
def wayM (ns : List Int) : Int := cellM ns 2 % 8
def manyM (ns : List Int) (most : Int) : Int :=
  if 3 < wayM ns then cellM ns 0 % (if cellM ns 2 / 384 % 4 = 3 then most + 10 else most) % 6 else cellM ns 0 % (if cellM ns 2 / 384 % 4 = 3 then most + 10 else most)
def cellsM (ns : List Int) (most : Int) : List Int := (List.range (3 * manyM ns most).toNat).map fun (k : Nat) => cellM ns (3 + (k : Int))
def baseM (ns : List Int) (most : Int) : List Rw := sheetM (cellsM ns most) (drawM ns) (mostM (wayM ns)) (decide (3 < wayM ns))
def drawnM (ns : List Int) (most : Int) : List Rw :=
  if (wayM ns = 1 ∨ wayM ns = 6) ∧ ((baseM ns most).length : Int) < 21 then baseM ns most ++ baseM ns most ++ baseM ns most ++ baseM ns most else baseM ns most
theorem in16 (way : Int) : inV (.int way) [V.int 1, V.int 6] = decide (way = 1 ∨ way = 6) := by
  unfold inV
  show ((1 : Int) == way || ((6 : Int) == way || false)) = _
  by_cases h5 : way = 1
  · subst h5; rfl
  · by_cases h6 : way = 6
    · subst h6; rfl
    · rw [decide_eq_false (fun z => z.elim h5 h6), beq_eq_false_iff_ne.mpr (Ne.symm h5), beq_eq_false_iff_ne.mpr (Ne.symm h6)]
      rfl
theorem at_most {way : Int} (h0 : 0 ≤ way) (h8 : way < 8) : atI [V.int 12, V.int 12, V.int 5, V.int 10, V.int 12, V.int 12, V.int 10, V.int 12] way = some (.int (mostM way)) := by
  have h : way = 0 ∨ way = 1 ∨ way = 2 ∨ way = 3 ∨ way = 4 ∨ way = 5 ∨ way = 6 ∨ way = 7 := by omega
  rcases h with h | h | h | h | h | h | h | h <;> subst h <;> rfl
theorem many_le (ns : List Int) {most : Int} (h : 0 < most) (h2 : most ≤ 100) : 0 ≤ manyM ns most ∧ manyM ns most < 110 := by
  unfold manyM
  have e : 0 < (if cellM ns 2 / 384 % 4 = 3 then most + 10 else most) ∧ (if cellM ns 2 / 384 % 4 = 3 then most + 10 else most) ≤ 110 := by
    split <;> omega
  have h3 := Int.emod_nonneg (cellM ns 0) (show (if cellM ns 2 / 384 % 4 = 3 then most + 10 else most) ≠ 0 by omega)
  have h4 := Int.emod_lt_of_pos (cellM ns 0) e.1
  split <;> omega
theorem cells_len (ns : List Int) (most : Int) : (cellsM ns most).length = (3 * manyM ns most).toNat := by
  unfold cellsM
  rw [List.length_map, List.length_range]
theorem base_len (ns : List Int) {most : Int} (h : 0 < most) (h2 : most ≤ 100) : (baseM ns most).length ≤ 1500 := by
  have h3 := sheet_len (cellsM ns most) (drawM ns) (mostM (wayM ns)) (decide (3 < wayM ns))
  have h4 := many_le ns h h2
  rw [cells_len] at h3
  unfold baseM
  omega
theorem drawn_len (ns : List Int) {most : Int} (h : 0 < most) (h2 : most ≤ 100) : (drawnM ns most).length ≤ 1500 := by
  have := base_len ns h h2
  unfold drawnM
  split
  · rw [List.length_append, List.length_append, List.length_append]
    omega
  · exact this
def spDrawn (K : PySem.W.Frag) : Sp := fun vs H Q _ => ∃ (a : Addr) (ns : List Int) (most : Int), vs = [.ref a, .int most] ∧ SqL K H a (ns.map V.int) ∧ 0 < most ∧ most ≤ 90 ∧ Ret (LRows (drawnM ns most)) H Q
theorem ok_drawn (D : Dn K mg "_law_drawn" s_l_drawn ["_law_script", "_law_most"]) (T : Blt mg) (h_l_cell_at : Has P w K mg base "_law_cell_at" 1 ["_law_script", "_law_k"] (spCell K)) (h_l_sheet : Has P w K mg base "_law_sheet" 4 ["_law_cells", "_law_draw_here", "_law_most", "_law_odd"] (spSheet K)) (h_l_draw : Has P w K mg base "_law_draw" 2 ["_law_script"] (spDraw K)) : Has P w K mg base "_law_drawn" 5 ["_law_script", "_law_most"] (spDrawn K) := by
  refine D.ok sc_l_drawn (fun vs H Q E h => ?_) (fun f cdv A outer s H vs Q E hr h => ?_)
  · obtain ⟨a, ns, most, rfl, _⟩ := h
    rfl
  · obtain ⟨a, ns, most, rfl, hS, hm0, hm1, q⟩ := h
    refine ⟨_, (pss_cons (ps_if (pt_cmpR op_eq (pe_op op_mod (pe_op op_fdiv (pe_own h_l_cell_at (hr.mono (by decide)) (by rfl) (pa_cons (pv 0) (pa_cons pe_int pa_nil))) pe_int) pe_int) pe_int (nomark _)) (pss_one (ps_set (i := 1) sc_l_drawn.nd rfl (Or.inl rfl) (pe_op op_add (pv 1) pe_int))) pss_nil) (pss_cons (ps_set (i := 2) sc_l_drawn.nd rfl (Or.inl rfl) (pe_op op_mod (pe_own h_l_cell_at (hr.mono (by decide)) (by rfl) (pa_cons (pv 0) (pa_cons pe_int pa_nil))) (pv 1))) (pss_cons (ps_set (i := 3) sc_l_drawn.nd rfl (Or.inl rfl) (pe_op op_mod (pe_own h_l_cell_at (hr.mono (by decide)) (by rfl) (pa_cons (pv 0) (pa_cons pe_int pa_nil))) pe_int)) (pss_cons (ps_if (pt_cmpR op_gt (pv 3) pe_int (nomark _)) (pss_one (ps_set (i := 2) sc_l_drawn.nd rfl (Or.inl rfl) (pe_op op_mod (pv 2) pe_int))) pss_nil) (pss_cons (ps_setLc (i := 4) (own := [("_law_k", 6)]) (g := (gName 6)) (tt := tYes) rfl sc_l_drawn.nd rfl rfl (sw_true rfl rfl rfl (by decide +kernel)) (pi_range1 (by rfl) T.range_ (pa_cons (pe_op op_mul pe_int (pv 2)) pa_nil)) (blkOk_by (own := [("_law_k", 6)]) (N := ["_law_script", "_law_most", "_law_many", "_law_way", "_law_cells", "_law_rows", "_law_k"]) (sc := defScope s_l_drawn) (by decide +kernel)) (fun _ _ _ _ _ => (pg_name (i := 6) sc_l_drawn.nd rfl (Or.inl rfl))) (fun _ _ _ _ _ => pts_nil) (fun _ _ _ _ _ => (pe_own h_l_cell_at (hr.mono (by decide)) (by rfl) (pa_cons (pv 0) (pa_cons (pe_op op_add pe_int (pv 6)) pa_nil))))) (pss_cons (ps_set (i := 5) sc_l_drawn.nd rfl (Or.inl rfl) (pe_own h_l_sheet (hr.mono (by decide)) (by rfl) (pa_cons (pv 4) (pa_cons (pe_own h_l_draw (hr.mono (by decide)) (by rfl) (pa_cons (pv 0) pa_nil)) (pa_cons (pe_ix (show IxR _ (rIxL K) from ix_list) (pe_lst (pa_cons pe_int (pa_cons pe_int (pa_cons pe_int (pa_cons pe_int (pa_cons pe_int (pa_cons pe_int (pa_cons pe_int (pa_cons pe_int pa_nil))))))))) (pv 3) (fun _ _ => rfl)) (pa_cons (pe_cmpR op_gt (pv 3) pe_int (nomark _)) pa_nil)))))) (pss_cons (ps_if (PW.pt (pw_and (pt_cmpR (show OpR _ _ (rIn K false) from op_in_seq) (pv 3) (pe_lst (pa_cons pe_int (pa_cons pe_int pa_nil))) (by rfl)) (pw_and1 (pt_cmpR op_lt (pe_callB (show CallR _ _ (rLenS K) from call_len_seq) (by rfl) T.len_ (by decide +kernel) (pa_cons (pv 5) pa_nil)) pe_int (nomark _))))) (pss_one (ps_set (i := 5) sc_l_drawn.nd rfl (Or.inl rfl) (pe_op op_cat (pe_op op_cat (pe_op op_cat (pv 5) (pv 5)) (pv 5)) (pv 5)))) pss_nil) (pss_one (ps_ret (pv 5)))))))))), ?_⟩
    show (_ : L2.TS) _ [_, _, _, _, _, _, _] _
    have hmany := many_le ns hm0 (by omega)
    have hbl := base_len ns hm0 (by omega)
    refine q_ifAsg (i := 1) (v := .int (if cellM ns 2 / 384 % 4 = 3 then most + 10 else most)) (b := decide (V.int (cellM ns 2 / 384 % 4) = V.int 3)) ?_ (fun hb => ?_) (fun hb => ?_) (fun H1 e1 => ?_)
    · walk_at "ev"
    · have hb := V.int.inj (of_decide_eq_true hb)
      rw [if_pos hb]
      walk_at "ev"
    · have hb : ¬ cellM ns 2 / 384 % 4 = 3 := fun z => of_decide_eq_false hb (by rw [z])
      rw [if_neg hb]
      rfl
    show (_ : L2.TS) _ [_, _, _, _, _, _, _] _
    have hmp : 0 < (if cellM ns 2 / 384 % 4 = 3 then most + 10 else most) := by split <;> omega
    generalize hmm : (if cellM ns 2 / 384 % 4 = 3 then most + 10 else most) = most2 at *
    refine' q_asg (v := .int (cellM ns 0 % most2)) ?_ (fun H2 e2 => ?_)
    · walk_at "ev"
    show (_ : L2.TS) _ [_, _, _, _, _, _, _] _
    refine' q_asg (v := .int (wayM ns)) ?_ (fun H3 e3 => ?_)
    · unfold wayM
      walk_at "ev"
    show (_ : L2.TS) _ [_, _, _, _, _, _, _] _
    have hw0 : 0 ≤ wayM ns := by unfold wayM; omega
    have hw8 : wayM ns < 8 := by unfold wayM; omega
    refine q_ifAsg (i := 2) (v := .int (manyM ns most)) (b := decide (3 < wayM ns)) ?_ (fun hb => ?_) (fun hb => ?_) (fun H4 e4 => ?_)
    · walk_at "ev"
    · have hb := of_decide_eq_true hb
      unfold manyM
      rw [if_pos hb, hmm]
      walk_at "ev"
    · have hb := of_decide_eq_false hb
      unfold manyM
      rw [if_neg hb, hmm]
      rfl
    show (_ : L2.TS) _ [_, _, _, _, _, _, _] _
    refine q_asgL (xs := (cellsM ns most).map V.int) ?_ (fun pc H5 hpc e5 h5 => ?_)
    · unfold cellsM
      have hg := given_all (3 * manyM ns most).toNat (fun k => V.int (cellM ns (3 + (k : Int))))
      rw [List.map_map]
      show EvL _ _ _ ((List.range (3 * manyM ns most).toNat).map fun (k : Nat) => V.int (cellM ns (3 + (k : Int))))
      rw [← hg]
      refine el_lcR1 _ _ (n := 3 * manyM ns most) ?_ ⟨by omega, by omega⟩ (fun x => rfl) (fun i H6 e6 hi => et_yes) (fun i H6 e6 hi _ => ?_)
      · walk_at "ev"
      · walk_at "ev"
    show (_ : L2.TS) _ [_, _, _, _, _, _, _] _
    have hcl := cells_len ns most
    have hPC : SqL K H5 pc ((cellsM ns most).map V.int) := sq_of h5
    have hS5 : SqL K H5 a (ns.map V.int) := ex_l (by walk_at "ex") hS
    refine q_asgP (R := LRows (baseM ns most)) ?_ (fun v H6 e6 hv => ?_)
    · refine fun H6 e6 Q' q' => ?_
      -- the arguments, one of them a new list
      refine ⟨.ref pc, rfl, ?_⟩
      refine (el_call (sp := spDraw K) (xs := (drawM ns).vs) (vs := [.ref a]) ?_ (fun H1 e Q q E => ⟨a, ns, rfl, ex_l e (ex_l e6 hS5), fun p H2 hp e2 h2 => q p H2 hp e2 h2⟩)) H6 (Ex.refl H6) _ fun pd H8 hpd e8 h8 => ?_
      · walk_at "ev"
      refine (show EvA _ _ H8 [.int (mostM (wayM ns)), .bl (decide (3 < wayM ns))] from ?_) H8 (Ex.refl H8) _ fun H9 e9 => ?_
      · walk_at "ev"
        exact at_most hw0 hw8
      have e69 : Ex H5 H9 := e6.trans (e8.trans e9)
      refine ⟨pc, pd, cellsM ns most, drawM ns, mostM (wayM ns), decide (3 < wayM ns), rfl, ex_l e69 hPC, by omega, sq_of (e9 _ _ h8), drawM_ok ns, ?_, fun v H10 e10 hv => q' v H10 (e8.trans (e9.trans e10)) hv⟩
      unfold mostM
      split
      · decide
      · split <;> decide
    show (_ : L2.TS) _ [_, _, _, _, _, _, _] _
    obtain ⟨pr, rv, rfl, hpr, hR⟩ := id hv
    have hPR : SqL K H6 pr rv := sq_of hpr
    have hlr := hR.len
    refine q_when (b := decide (wayM ns = 1 ∨ wayM ns = 6) && decide ((rv.length : Int) < 21)) ?_ (fun hb H7 e7 => ?_) (fun hb H7 e7 => ?_)
    · rw [← in16]
      walk_at "ev"
    · simp only [Bool.and_eq_true, decide_eq_true_eq] at hb
      rw [hlr] at hb
      have hv7 := hv.up e7
      have hsm : (baseM ns most).length < 21 := by omega
      unfold drawnM at q
      rw [if_pos hb] at q
      refine s_asgP (elr_cat (elr_cat (elr_cat (elr_var rfl hv7) (elr_var rfl hv7) ?_) (elr_var rfl hv7) ?_) (elr_var rfl hv7) ?_) (fun u H8 e8 hu => ?_)
      · omega
      · rw [List.length_append]; omega
      · rw [List.length_append, List.length_append]; omega
      · refine s_ret (v := u) (ev_var rfl) (fun H9 e9 => q u H9 (by walk_at "ex") (hu.up e9))
    · simp only [Bool.and_eq_false_iff, decide_eq_false_iff_not] at hb
      rw [hlr] at hb
      unfold drawnM at q
      rw [if_neg (fun z => hb.elim (fun y => y z.1) (fun y => y z.2))] at q
      refine s_ret (v := .ref pr) (ev_var rfl) (fun H9 e9 => q _ H9 (by walk_at "ex") ((hv.up e7).up e9))
theorem ep_drawn {a : Addr} {ns : List Int} {most : Int} {ta : TA} {σ : L2.St} {H : Hp} {E : XK} (h : EvA ta σ H [.ref a, .int most]) (hS : SqL K H a (ns.map V.int)) (h0 : 0 < most) (h1 : most ≤ 90) : EvP (tCall (spDrawn K) [] E ta) σ H (LRows (drawnM ns most)) :=
  ep_call h fun H1 e Q q E => ⟨a, ns, most, rfl, ex_l e hS, h0, h1, q⟩
end
end BD
namespace BD
open PySem PySem.Spec PyProof.Rows L2 Evl
/-! ### blocks: depth -/
def run : Nat → List Rw → Option Nat
  | d, [] => some d
  | d, r :: rs => if r.opens = true then run (d + 1) rs else if r.isFin = true then (if d = 0 then none else run (d - 1) rs) else run d rs
theorem run_app : ∀ (xs ys : List Rw) (d : Nat), run d (xs ++ ys) = (run d xs).bind fun e => run e ys
  | [], ys, d => rfl
  | r :: xs, ys, d => by
    show (if r.opens = true then run (d + 1) (xs ++ ys) else if r.isFin = true then (if d = 0 then none else run (d - 1) (xs ++ ys)) else run d (xs ++ ys)) =
      (if r.opens = true then run (d + 1) xs else if r.isFin = true then (if d = 0 then none else run (d - 1) xs) else run d xs).bind fun e => run e ys
    split
    · exact run_app xs ys _
    split
    · split
      · rfl
      · exact run_app xs ys _
    · exact run_app xs ys _
theorem run_gad (n : Nat) (one two : Int) (a b c : Str) (t : Int) : run n (gadA one two a b c t) = some n := by
  unfold gadA
  split
  · unfold fourM
    split
    · rfl
    split
    · rfl
    split <;> rfl
  split
  · rfl
  split
  · rfl
  split
  · rfl
  split <;> rfl
theorem run_row {op : List Rw} {r : Rw} (h : r.isFin = true → 0 < op.length) : run op.length [r] = some (opUpd op r).length := by
  unfold opUpd
  show (if r.opens = true then run (op.length + 1) [] else if r.isFin = true then (if op.length = 0 then none else run (op.length - 1) []) else run op.length []) = _
  split
  · rw [List.length_append]; rfl
  split
  · rename_i h2
    rw [if_neg (by have := h h2; omega), List.length_dropLast]
    rfl
  · rfl
theorem run_st (cells : List Int) (d : Draw) (most : Int) (odd : Bool) : ∀ i, run 0 (sheetSt cells d most odd i).1 = some (sheetSt cells d most odd i).2.length
  | 0 => rfl
  | i + 1 => by
    have ih := run_st cells d most odd i
    unfold sheetSt stepM
    split
    · show run 0 (_ ++ gadgetM _ _ _ _) = _
      rw [run_app, ih]
      exact run_gad _ _ _ _ _ _ _
    · show run 0 (_ ++ [_]) = _
      rw [run_app, ih]
      exact run_row rowM_fin
theorem run_fins : ∀ n, run n ((List.range n).map fun _ => Rw.fin) = some 0
  | 0 => rfl
  | n + 1 => by
    rw [List.range_succ_eq_map, List.map_cons, List.map_map]
    show (if n + 1 = 0 then none else run (n + 1 - 1) _) = _
    rw [if_neg (by omega)]
    exact run_fins n
theorem run_sheet (cells : List Int) (d : Draw) (most : Int) (odd : Bool) : run 0 (sheetM cells d most odd) = some 0 := by
  unfold sheetM
  rw [run_app, run_st]
  exact run_fins _
theorem run_drawn (ns : List Int) (most : Int) : run 0 (drawnM ns most) = some 0 := by
  have h : run 0 (baseM ns most) = some 0 := run_sheet _ _ _ _
  unfold drawnM
  split
  · rw [run_app, run_app, run_app, h]
    show ((((run 0 (baseM ns most)).bind fun e => run e (baseM ns most)).bind fun e => run e (baseM ns most))) = _
    rw [h]
    show (((run 0 (baseM ns most)).bind fun e => run e (baseM ns most))) = _
    rw [h]
    exact h
  · exact h
/-! ### the stack of openers -/
def pr (rs : List Rw) : Nat → List Nat
  | 0 => []
  | i + 1 => match rs[i]? with
    | some r => if r.opens = true then i :: pr rs i else if r.isFin = true then (pr rs i).tail else pr rs i
    | none => pr rs i
def hm (rs : List Rw) (i : Nat) : Int := match pr rs i with
  | [] => -1
  | h :: _ => (h : Int)
structure Good (rs : List Rw) : Prop where
  fin : ∀ i r, rs[i]? = some r → r.isFin = true → pr rs i ≠ []
  last : pr rs rs.length = []
theorem pr_next {rs : List Rw} {i : Nat} {r : Rw} (h : rs[i]? = some r) : pr rs (i + 1) = if r.opens = true then i :: pr rs i else if r.isFin = true then (pr rs i).tail else pr rs i := by
  show (match rs[i]? with
    | some r => if r.opens = true then i :: pr rs i else if r.isFin = true then (pr rs i).tail else pr rs i
    | none => pr rs i) = _
  rw [h]
theorem run_pr {rs : List Rw} (h : (run 0 rs).isSome = true) : ∀ i, i ≤ rs.length → run 0 (rs.take i) = some (pr rs i).length
  | 0, _ => by rw [List.take_zero]; rfl
  | i + 1, hi => by
    have hlt : i < rs.length := hi
    have ih := run_pr h i (by omega)
    have hg := List.getElem?_eq_getElem hlt
    have hs : (run 0 (rs.take (i + 1))).isSome = true := by
      have e := List.take_append_drop (i + 1) rs
      rw [← e, run_app] at h
      cases hh : run 0 (rs.take (i + 1)) with
      | none => rw [hh] at h; cases h
      | some _ => rfl
    rw [List.take_add_one, hg, run_app, ih] at hs
    rw [List.take_add_one, hg, run_app, ih, pr_next hg]
    show run (pr rs i).length [rs[i]] = _
    have hs : (run (pr rs i).length [rs[i]]).isSome = true := hs
    show (if rs[i].opens = true then some ((pr rs i).length + 1) else if rs[i].isFin = true then (if (pr rs i).length = 0 then none else some ((pr rs i).length - 1)) else some (pr rs i).length) = _
    split
    · rfl
    split
    · rename_i h1 h2
      have hs2 : (if rs[i].opens = true then some ((pr rs i).length + 1) else if rs[i].isFin = true then (if (pr rs i).length = 0 then none else some ((pr rs i).length - 1)) else some (pr rs i).length).isSome = true := hs
      rw [if_neg h1, if_pos h2] at hs2
      split at hs2
      · cases hs2
      · rename_i h3
        rw [if_neg h3, List.length_tail]
    · rfl
theorem good_of {rs : List Rw} (h : run 0 rs = some 0) : Good rs := by
  have hs : (run 0 rs).isSome = true := by rw [h]; rfl
  refine ⟨fun i r hr hf => ?_, ?_⟩
  · have hlt : i < rs.length := (List.getElem?_eq_some_iff.mp hr).1
    have h1 := run_pr hs i (by omega)
    have h2 := run_pr hs (i + 1) hlt
    rw [List.take_add_one, hr, run_app, h1] at h2
    have h3 : (if r.opens = true then some ((pr rs i).length + 1) else if r.isFin = true then (if (pr rs i).length = 0 then none else some ((pr rs i).length - 1)) else some (pr rs i).length) = some (pr rs (i + 1)).length := h2
    have ho : r.opens = false := by cases r <;> first | rfl | cases hf
    rw [if_neg (by rw [ho]; decide), if_pos hf] at h3
    intro z
    rw [z] at h3
    rw [if_pos (by rfl)] at h3
    cases h3
  · have h1 := run_pr hs rs.length (Nat.le_refl _)
    rw [List.take_length, h] at h1
    have h2 : (pr rs rs.length).length = 0 := (Option.some.inj h1).symm
    exact List.length_eq_zero_iff.mp h2
theorem good_drawn (ns : List Int) (most : Int) : Good (drawnM ns most) := good_of (run_drawn ns most)
/-- what is in the stack -/
theorem pr_mem {rs : List Rw} : ∀ i x, x ∈ pr rs i → x < i ∧ ∃ r, rs[x]? = some r ∧ r.opens = true
  | 0, x, h => by cases h
  | i + 1, x, h => by
    cases hg : rs[i]? with
    | none =>
      have e : pr rs (i + 1) = pr rs i := by
        show (match rs[i]? with
          | some r => if r.opens = true then i :: pr rs i else if r.isFin = true then (pr rs i).tail else pr rs i
          | none => pr rs i) = _
        rw [hg]
      rw [e] at h
      have := pr_mem i x h
      exact ⟨by omega, this.2⟩
    | some r =>
      rw [pr_next hg] at h
      split at h
      · rcases List.mem_cons.mp h with h | h
        · subst h
          exact ⟨Nat.lt_succ_self _, r, hg, by assumption⟩
        · have := pr_mem i x h
          exact ⟨by omega, this.2⟩
      split at h
      · have := pr_mem i x (List.mem_of_mem_tail h)
        exact ⟨by omega, this.2⟩
      · have := pr_mem i x h
        exact ⟨by omega, this.2⟩
theorem pr_nodup {rs : List Rw} : ∀ i, (pr rs i).Nodup
  | 0 => List.nodup_nil
  | i + 1 => by
    have ih := pr_nodup (rs := rs) i
    show (match rs[i]? with
      | some r => if r.opens = true then i :: pr rs i else if r.isFin = true then (pr rs i).tail else pr rs i
      | none => pr rs i).Nodup
    split
    · split
      · refine List.nodup_cons.mpr ⟨fun h => ?_, ih⟩
        have := (pr_mem i i h).1
        omega
      split
      · exact ih.sublist (List.tail_sublist _)
      · exact ih
    · exact ih
theorem hm_lt {rs : List Rw} (i : Nat) : hm rs i < i := by
  unfold hm
  cases h : pr rs i with
  | nil => show (-1 : Int) < i; omega
  | cons a t =>
    have := (pr_mem i a (by rw [h]; exact List.mem_cons_self)).1
    show (a : Int) < i
    omega
/-- at an end: the opener -/
theorem hm_fin {rs : List Rw} (g : Good rs) {i : Nat} {r : Rw} (h : rs[i]? = some r) (hf : r.isFin = true) : ∃ (a : Nat) (t : List Nat), pr rs i = a :: t ∧ hm rs i = (a : Int) ∧ a < i ∧ ∃ q, rs[a]? = some q ∧ q.opens = true := by
  cases hp : pr rs i with
  | nil => exact absurd hp (g.fin i r h hf)
  | cons a t =>
    have := pr_mem i a (by rw [hp]; exact List.mem_cons_self)
    refine ⟨a, t, rfl, ?_, this.1, this.2⟩
    unfold hm
    rw [hp]
/-- an end's opener leaves the stack for good -/
theorem gone {rs : List Rw} {p a : Nat} {t : List Nat} {r : Rw} (h : rs[p]? = some r) (hf : r.isFin = true) (hp : pr rs p = a :: t) (ha : a < p) : ∀ i, p < i → a ∉ pr rs i
  | 0, hi => by omega
  | i + 1, hi => by
    by_cases e : p = i
    · subst e
      have ho : r.opens = false := by cases r <;> first | rfl | cases hf
      rw [pr_next h, if_neg (by rw [ho]; decide), if_pos hf, hp]
      have := pr_nodup (rs := rs) p
      rw [hp] at this
      exact (List.nodup_cons.mp this).1
    · have ih := gone h hf hp ha i (by omega)
      show a ∉ (match rs[i]? with
        | some r => if r.opens = true then i :: pr rs i else if r.isFin = true then (pr rs i).tail else pr rs i
        | none => pr rs i)
      split
      · split
        · intro z
          rcases List.mem_cons.mp z with z | z
          · omega
          · exact ih z
        split
        · exact fun z => ih (List.mem_of_mem_tail z)
        · exact ih
      · exact ih
/-- rows behind the sheet do not reach back -/
theorem pr_app (rs ss : List Rw) : ∀ i, i ≤ rs.length → pr (rs ++ ss) i = pr rs i
  | 0, _ => rfl
  | i + 1, h => by
    have hlt : i < rs.length := h
    have e : (rs ++ ss)[i]? = rs[i]? := List.getElem?_append_left hlt
    have ih := pr_app rs ss i (by omega)
    rw [pr_next (e.trans (List.getElem?_eq_getElem hlt)), pr_next (List.getElem?_eq_getElem hlt), ih]
theorem hm_app (rs ss : List Rw) (i : Nat) (h : i ≤ rs.length) : hm (rs ++ ss) i = hm rs i := by
  unfold hm
  rw [pr_app rs ss i h]
end BD
namespace BD
open PySem PySem.Spec PyProof.Rows L2 Evl
local macro_rules | `(tactic| walk_at "ev") => `(tactic| first
  | ((with_reducible apply ev_var) ; rfl)
  | with_reducible exact ev_c
  | ((with_reducible apply ev_I0) <;> walk_at "ev")
  | ((with_reducible apply ev_e9) <;> walk_at "ev")
  | ((with_reducible apply ev_I) <;> walk_at "ev")
  | ((with_reducible apply ev_eq) <;> walk_at "ev")
  | ((with_reducible apply ev_ne) <;> walk_at "ev")
  | ((with_reducible apply ev_neg) <;> walk_at "ev")
  | ((with_reducible apply ev_ixN) <;> walk_at "ev")
  | ((with_reducible apply ev_ixL) <;> walk_at "ev")
  | ((with_reducible apply ev_inN) <;> walk_at "ev")
  | ((with_reducible apply ev_inT) <;> walk_at "ev")
  | ((with_reducible apply ev_ixT) <;> walk_at "ev")
  | ((with_reducible apply ev_ixS) <;> walk_at "ev")
  | ((with_reducible apply ev_len') <;> walk_at "ev")
  | ((with_reducible apply et_test) <;> walk_at "ev")
  | ((with_reducible apply et_and) <;> walk_at "ev")
  | ((with_reducible apply et_or) <;> walk_at "ev")
  | ((with_reducible apply et_not) <;> walk_at "ev")
  | ((with_reducible apply et_B) <;> walk_at "ev")
  | ((with_reducible apply el_lst) <;> walk_at "ev")
  | ((with_reducible apply eu_tup) <;> walk_at "ev")
  | ((with_reducible apply ea_cons) <;> walk_at "ev")
  | with_reducible exact ea_nil
  | with_reducible assumption
  | ((with_reducible apply ex_l' ; assumption) ; walk_at "ex")
  | ((with_reducible apply ex_t' ; assumption) ; walk_at "ex")
  | (intro _ ; walk_at "ev")
  | (with_reducible first | exact atI_hd | exact at_kind | exact at2s | exact at3s | exact at3i)
  | (first | exact rfl | exact Nat.le_of_ble_eq_true rfl | exact ⟨by decide, by decide⟩ | decide | exact Or.inl ⟨by omega, by omega⟩ | exact Or.inr ⟨by omega, by omega⟩ | omega)
  | skip)
local macro_rules | `(tactic| walk_at "ex") => `(tactic| first
  | assumption
  | exact Ex.refl _
  | (refine' Ex.trans ?_ (by assumption) ; walk_at "ex"))
local macro_rules | `(tactic| walk_at "row") => `(tactic| first
  | (with_reducible exact er_nil)
  | ((with_reducible apply er_cons) <;> walk_at "row")
  | (((with_reducible apply er_var) ; rfl) ; walk_at "isrow")
  | (((with_reducible apply elr_var) ; rfl) ; walk_at "isrow")
  | ((with_reducible apply elr_cat) <;> walk_at "row")
  | ((with_reducible apply elr_lst) <;> walk_at "row")
  | ((with_reducible apply er_fin) <;> walk_at "ev")
  | ((with_reducible apply er_lendT) <;> walk_at "ev")
  | ((with_reducible apply er_lendW) <;> walk_at "ev")
  | ((with_reducible apply er_pick) <;> walk_at "ev")
  | ((with_reducible apply er_either) <;> walk_at "ev")
  | ((with_reducible apply er_or) <;> walk_at "ev")
  | ((with_reducible apply er_again) <;> walk_at "ev")
  | ((with_reducible apply er_back) <;> walk_at "ev")
  | ((with_reducible apply er_look) <;> walk_at "ev")
  | ((with_reducible apply er_change) <;> walk_at "ev")
  | exact Nat.le_of_ble_eq_true rfl
  | skip)
local macro_rules | `(tactic| walk_at "isrow") => `(tactic| first
  | assumption
  | (refine IsRow.up ?_ (by assumption) ; walk_at "ex")
  | (refine LRows.up ?_ (by assumption) ; walk_at "ex"))

local macro_rules | `(tactic| walk_at "ev") => `(tactic| ((with_reducible apply ev_letter) <;> walk_at "ev"))
local macro_rules | `(tactic| walk_at "ev") => `(tactic| ((with_reducible apply ev_cell) <;> walk_at "ev"))
local macro_rules | `(tactic| walk_at "ev") => `(tactic| ((with_reducible apply ev_word) <;> walk_at "ev"))
local macro_rules | `(tactic| walk_at "ev") => `(tactic| ((with_reducible apply ev_thing) <;> walk_at "ev"))

local macro_rules | `(tactic| walk_at "ev") => `(tactic| (((with_reducible apply ev_tag) ; rfl) ; walk_at "isrow"))
section
variable {P : Program} {w : World} {K : PySem.W.Frag} {mg : Str → Option Value} {base : Heap}
/-! ### homes -/
def stV (rs : List Rw) (i : Nat) : List V := .int (-1) :: (pr rs i).reverse.map fun (n : Nat) => V.int (n : Int)
theorem stV_last (rs : List Rw) (i : Nat) : atI (stV rs i) (-1) = some (.int (hm rs i)) := by
  unfold stV hm
  cases pr rs i with
  | nil => exact atI_last [] _
  | cons a t =>
    rw [List.reverse_cons, List.map_append]
    exact atI_last (V.int (-1) :: t.reverse.map fun (n : Nat) => V.int (n : Int)) _
theorem stV_push {rs : List Rw} {i : Nat} {r : Rw} (h : rs[i]? = some r) (ho : r.opens = true) : stV rs (i + 1) = stV rs i ++ [.int (i : Int)] := by
  unfold stV
  rw [pr_next h, if_pos ho, List.reverse_cons, List.map_append]
  rfl
theorem stV_pop {rs : List Rw} {i : Nat} {r : Rw} (g : Good rs) (h : rs[i]? = some r) (hf : r.isFin = true) : stV rs (i + 1) = (stV rs i).dropLast ∧ 0 < (stV rs i).length := by
  obtain ⟨a, t, hp, _⟩ := hm_fin g h hf
  have ho : r.opens = false := by cases r <;> first | rfl | cases hf
  unfold stV
  rw [pr_next h, if_neg (by rw [ho]; decide), if_pos hf, hp, List.reverse_cons, List.map_append]
  refine ⟨?_, Nat.succ_pos _⟩
  show _ = ((V.int (-1) :: t.reverse.map fun (n : Nat) => V.int (n : Int)) ++ [V.int (a : Int)]).dropLast
  rw [List.dropLast_concat]
  rfl
theorem stV_keep {rs : List Rw} {i : Nat} {r : Rw} (h : rs[i]? = some r) (ho : r.opens = false) (hf : r.isFin = false) : stV rs (i + 1) = stV rs i := by
  unfold stV
  rw [pr_next h, if_neg (by rw [ho]; decide), if_neg (by rw [hf]; decide)]
theorem pr_len (rs : List Rw) : ∀ i, (pr rs i).length ≤ i
  | 0 => Nat.le_refl _
  | i + 1 => by
    have ih := pr_len rs i
    show (match rs[i]? with
      | some r => if r.opens = true then i :: pr rs i else if r.isFin = true then (pr rs i).tail else pr rs i
      | none => pr rs i).length ≤ _
    split
    · split
      · rw [List.length_cons]; omega
      split
      · rw [List.length_tail]; omega
      · omega
    · omega
theorem stV_len (rs : List Rw) (i : Nat) : (stV rs i).length ≤ i + 1 := by
  unfold stV
  rw [List.length_cons, List.length_map, List.length_reverse]
  have := pr_len rs i
  omega
def homesV (rs : List Rw) (n : Nat) : List V := (List.range n).map fun i => V.int (hm rs i)
theorem homesV_next (rs : List Rw) (n : Nat) : homesV rs (n + 1) = homesV rs n ++ [.int (hm rs n)] := by
  unfold homesV
  rw [List.range_succ, List.map_append]
  rfl
theorem homesV_len (rs : List Rw) (n : Nat) : (homesV rs n).length = n := by
  unfold homesV
  rw [List.length_map, List.length_range]
theorem homesV_at {rs : List Rw} {n i : Nat} (h : i < n) : (homesV rs n)[i]? = some (.int (hm rs i)) := by
  unfold homesV
  rw [List.getElem?_map, List.getElem?_range h]
  rfl
def spHomes (K : PySem.W.Frag) : Sp := fun vs H Q _ => ∃ (a : Addr) (rv : List V) (rs : List Rw), vs = [.ref a] ∧ SqL K H a rv ∧ Rows H rv rs ∧ Good rs ∧ rs.length ≤ 90000 ∧ RetL (homesV rs rs.length) H Q
end
end BD
namespace BD
open PySem PySem.Spec PyProof.Rows L2 Evl
local macro_rules | `(tactic| walk_at "ev") => `(tactic| first
  | ((with_reducible apply ev_var) ; rfl)
  | with_reducible exact ev_c
  | ((with_reducible apply ev_I0) <;> walk_at "ev")
  | ((with_reducible apply ev_e9) <;> walk_at "ev")
  | ((with_reducible apply ev_I) <;> walk_at "ev")
  | ((with_reducible apply ev_eq) <;> walk_at "ev")
  | ((with_reducible apply ev_ne) <;> walk_at "ev")
  | ((with_reducible apply ev_neg) <;> walk_at "ev")
  | ((with_reducible apply ev_ixN) <;> walk_at "ev")
  | ((with_reducible apply ev_ixL) <;> walk_at "ev")
  | ((with_reducible apply ev_inN) <;> walk_at "ev")
  | ((with_reducible apply ev_inT) <;> walk_at "ev")
  | ((with_reducible apply ev_ixT) <;> walk_at "ev")
  | ((with_reducible apply ev_ixS) <;> walk_at "ev")
  | ((with_reducible apply ev_len') <;> walk_at "ev")
  | ((with_reducible apply et_test) <;> walk_at "ev")
  | ((with_reducible apply et_and) <;> walk_at "ev")
  | ((with_reducible apply et_or) <;> walk_at "ev")
  | ((with_reducible apply et_not) <;> walk_at "ev")
  | ((with_reducible apply et_B) <;> walk_at "ev")
  | ((with_reducible apply el_lst) <;> walk_at "ev")
  | ((with_reducible apply eu_tup) <;> walk_at "ev")
  | ((with_reducible apply ea_cons) <;> walk_at "ev")
  | with_reducible exact ea_nil
  | with_reducible assumption
  | ((with_reducible apply ex_l' ; assumption) ; walk_at "ex")
  | ((with_reducible apply ex_t' ; assumption) ; walk_at "ex")
  | (intro _ ; walk_at "ev")
  | (with_reducible first | exact atI_hd | exact at_kind | exact at2s | exact at3s | exact at3i)
  | (first | exact rfl | exact Nat.le_of_ble_eq_true rfl | exact ⟨by decide, by decide⟩ | decide | exact Or.inl ⟨by omega, by omega⟩ | exact Or.inr ⟨by omega, by omega⟩ | omega)
  | skip)
local macro_rules | `(tactic| walk_at "ex") => `(tactic| first
  | assumption
  | exact Ex.refl _
  | (refine' Ex.trans ?_ (by assumption) ; walk_at "ex"))
local macro_rules | `(tactic| walk_at "row") => `(tactic| first
  | (with_reducible exact er_nil)
  | ((with_reducible apply er_cons) <;> walk_at "row")
  | (((with_reducible apply er_var) ; rfl) ; walk_at "isrow")
  | (((with_reducible apply elr_var) ; rfl) ; walk_at "isrow")
  | ((with_reducible apply elr_cat) <;> walk_at "row")
  | ((with_reducible apply elr_lst) <;> walk_at "row")
  | ((with_reducible apply er_fin) <;> walk_at "ev")
  | ((with_reducible apply er_lendT) <;> walk_at "ev")
  | ((with_reducible apply er_lendW) <;> walk_at "ev")
  | ((with_reducible apply er_pick) <;> walk_at "ev")
  | ((with_reducible apply er_either) <;> walk_at "ev")
  | ((with_reducible apply er_or) <;> walk_at "ev")
  | ((with_reducible apply er_again) <;> walk_at "ev")
  | ((with_reducible apply er_back) <;> walk_at "ev")
  | ((with_reducible apply er_look) <;> walk_at "ev")
  | ((with_reducible apply er_change) <;> walk_at "ev")
  | exact Nat.le_of_ble_eq_true rfl
  | skip)
local macro_rules | `(tactic| walk_at "isrow") => `(tactic| first
  | assumption
  | (refine IsRow.up ?_ (by assumption) ; walk_at "ex")
  | (refine LRows.up ?_ (by assumption) ; walk_at "ex"))

local macro_rules | `(tactic| walk_at "ev") => `(tactic| ((with_reducible apply ev_letter) <;> walk_at "ev"))
local macro_rules | `(tactic| walk_at "ev") => `(tactic| ((with_reducible apply ev_cell) <;> walk_at "ev"))
local macro_rules | `(tactic| walk_at "ev") => `(tactic| ((with_reducible apply ev_word) <;> walk_at "ev"))
local macro_rules | `(tactic| walk_at "ev") => `(tactic| ((with_reducible apply ev_thing) <;> walk_at "ev"))

local macro_rules | `(tactic| walk_at "ev") => `(tactic| (((with_reducible apply ev_tag) ; rfl) ; walk_at "isrow"))
def opAt (rs : List Rw) (i : Nat) : Bool := match rs[i]? with
  | some r => r.opens
  | none => false
def finF (rs : List Rw) (a p : Nat) : Bool := decide (hm rs p = (a : Int)) && (match rs[p]? with
  | some r => r.isFin
  | none => false)
def orF (rs : List Rw) (a p : Nat) : Bool := decide (hm rs p = (a : Int)) && (match rs[p]? with
  | some r => r.isOr
  | none => false)
theorem finF_low {rs : List Rw} {a p : Nat} (h : p ≤ a) : finF rs a p = false := by
  unfold finF
  have := hm_lt (rs := rs) p
  rw [decide_eq_false (by omega)]
  rfl
theorem orF_low {rs : List Rw} {a p : Nat} (h : p ≤ a) : orF rs a p = false := by
  unfold orF
  have := hm_lt (rs := rs) p
  rw [decide_eq_false (by omega)]
  rfl
theorem finF_at {rs : List Rw} {a p : Nat} {r : Rw} (h : rs[p]? = some r) : finF rs a p = (decide (hm rs p = (a : Int)) && r.isFin) := by
  unfold finF
  rw [h]
theorem orF_at {rs : List Rw} {a p : Nat} {r : Rw} (h : rs[p]? = some r) : orF rs a p = (decide (hm rs p = (a : Int)) && r.isOr) := by
  unfold orF
  rw [h]
/-- the first end of the block at a, of the rows below i -/
def endUp (rs : List Rw) (a i : Nat) : Int := match (List.range i).find? (finF rs a) with
  | some p => (p : Int)
  | none => -1
def endsV (rs : List Rw) (i : Nat) : List V := (List.range rs.length).map fun a => V.int (if opAt rs a = true then endUp rs a i else -1)
theorem endsV_len (rs : List Rw) (i : Nat) : (endsV rs i).length = rs.length := by
  unfold endsV
  rw [List.length_map, List.length_range]
theorem endUp_next {rs : List Rw} {a i : Nat} (h : finF rs a i = false) : endUp rs a (i + 1) = endUp rs a i := by
  unfold endUp
  rw [List.range_succ, List.find?_append, List.find?_cons, h]
  cases (List.range i).find? (finF rs a) <;> rfl
theorem endUp_hit {rs : List Rw} {a i : Nat} (h : finF rs a i = true) (hn : ∀ p, p < i → finF rs a p = false) : endUp rs a (i + 1) = (i : Int) := by
  unfold endUp
  have e : (List.range i).find? (finF rs a) = none := List.find?_eq_none.mpr fun x hx => by
    rw [hn x (List.mem_range.mp hx)]
    decide
  rw [List.range_succ, List.find?_append, List.find?_cons, h, e]
  rfl
theorem endUp_none {rs : List Rw} {a i : Nat} (hn : ∀ p, p < i → finF rs a p = false) : endUp rs a i = -1 := by
  unfold endUp
  have e : (List.range i).find? (finF rs a) = none := List.find?_eq_none.mpr fun x hx => by
    rw [hn x (List.mem_range.mp hx)]
    decide
  rw [e]
/-- behind a first hit nothing changes -/
theorem endUp_stay {rs : List Rw} {a p : Nat} (h : finF rs a p = true) (hn : ∀ q, q < p → finF rs a q = false) : ∀ i, p < i → endUp rs a i = (p : Int)
  | 0, hi => by omega
  | i + 1, hi => by
    by_cases e : p = i
    · subst e
      exact endUp_hit h hn
    · have ih := endUp_stay h hn i (by omega)
      unfold endUp at ih ⊢
      rw [List.range_succ, List.find?_append]
      cases hf : (List.range i).find? (finF rs a) with
      | none =>
        rw [hf] at ih
        exact absurd ih (by show ¬ (-1 : Int) = (p : Int); omega)
      | some q =>
        rw [hf] at ih
        exact ih
theorem first_end {rs : List Rw} (g : Good rs) {i a : Nat} {t : List Nat} {r : Rw} (hi : rs[i]? = some r) (hp : pr rs i = a :: t) : ∀ p, p < i → finF rs a p = false := fun p hpi => by
  cases hq : rs[p]? with
  | none => unfold finF; rw [hq, Bool.and_false]
  | some q =>
    rw [finF_at hq]
    cases hf : q.isFin with
    | false => exact Bool.and_false _
    | true =>
      rw [Bool.and_true]
      refine decide_eq_false fun z => ?_
      obtain ⟨b, u, e1, e2, e3, _⟩ := hm_fin g hq hf
      have eb : b = a := by rw [e2] at z; omega
      subst eb
      refine gone hq hf e1 e3 i hpi ?_
      rw [hp]
      exact List.mem_cons_self
theorem endsV_keep {rs : List Rw} {i : Nat} {r : Rw} (hi : rs[i]? = some r) (hf : r.isFin = false) : endsV rs (i + 1) = endsV rs i := by
  unfold endsV
  refine List.map_congr_left fun a _ => ?_
  rw [endUp_next (by rw [finF_at hi, hf, Bool.and_false])]
theorem endsV_set {rs : List Rw} (g : Good rs) {i a : Nat} {t : List Nat} {r : Rw} (hi : rs[i]? = some r) (hf : r.isFin = true) (hp : pr rs i = a :: t) (hm' : hm rs i = (a : Int)) (ho : opAt rs a = true) : endsV rs (i + 1) = (endsV rs i).set a (.int (i : Int)) := by
  have hil : i < rs.length := (List.getElem?_eq_some_iff.mp hi).1
  refine List.ext_getElem? fun b => ?_
  by_cases hb : b < rs.length
  · unfold endsV
    rw [List.getElem?_map, List.getElem?_range hb, List.getElem?_set]
    by_cases hab : a = b
    · subst hab
      rw [if_pos rfl, if_pos (by rw [List.length_map, List.length_range]; exact hb)]
      show some (V.int (if opAt rs a = true then endUp rs a (i + 1) else -1)) = _
      rw [if_pos ho, endUp_hit (by rw [finF_at hi, hf, hm', decide_eq_true rfl]; rfl) (first_end g hi hp)]
    · rw [if_neg hab, List.getElem?_map, List.getElem?_range hb]
      show some (V.int (if opAt rs b = true then endUp rs b (i + 1) else -1)) = some (V.int (if opAt rs b = true then endUp rs b i else -1))
      rw [endUp_next (by rw [finF_at hi, hm', decide_eq_false (by omega)]; rfl)]
  · rw [List.getElem?_eq_none (by rw [endsV_len]; omega), List.getElem?_eq_none (by rw [List.length_set, endsV_len]; omega)]
theorem endsV_zero (rs : List Rw) : endsV rs 0 = List.replicate rs.length (.int (-1)) := by
  refine List.ext_getElem? fun b => ?_
  by_cases hb : b < rs.length
  · unfold endsV
    rw [List.getElem?_map, List.getElem?_range hb, List.getElem?_replicate, if_pos hb]
    show some (V.int (if opAt rs b = true then -1 else -1)) = _
    split <;> rfl
  · rw [List.getElem?_eq_none (by rw [endsV_len]; omega), List.getElem?_eq_none (by rw [List.length_replicate]; omega)]
/-- the firsts of the branches, of the rows below i -/
def brV (rs : List Rw) (a i : Nat) : List V := .int ((a : Int) + 1) :: ((List.range i).filter (orF rs a)).map fun (p : Nat) => V.int ((p : Int) + 1)
theorem brV_yes {rs : List Rw} {a i : Nat} (h : orF rs a i = true) : brV rs a (i + 1) = brV rs a i ++ [.int ((i : Int) + 1)] := by
  unfold brV
  rw [List.range_succ, List.filter_append, List.map_append, List.filter_cons, if_pos h]
  rfl
theorem brV_no {rs : List Rw} {a i : Nat} (h : orF rs a i = false) : brV rs a (i + 1) = brV rs a i := by
  unfold brV
  rw [List.range_succ, List.filter_append, List.map_append, List.filter_cons, if_neg (by rw [h]; decide)]
  show _ :: (_ ++ []) = _
  rw [List.append_nil]
theorem brV_len (rs : List Rw) (a i : Nat) : (brV rs a i).length ≤ i + 1 := by
  unfold brV
  rw [List.length_cons, List.length_map]
  have := List.length_filter_le (orF rs a) (List.range i)
  rw [List.length_range] at this
  omega
theorem brV_low (rs : List Rw) (a : Nat) : ∀ i, i ≤ a + 1 → brV rs a i = [.int ((a : Int) + 1)]
  | 0, _ => rfl
  | i + 1, h => by rw [brV_no (orF_low (by omega)), brV_low rs a i (by omega)]
section
variable {P : Program} {w : World} {K : PySem.W.Frag} {mg : Str → Option Value} {base : Heap}
theorem el_rep {ta tb : TE} {σ : L2.St} {H : Hp} {xs : List V} {k : Int} (ha : EvL ta σ H xs) (hb : Ev tb σ H (.int k)) (h0 : 0 ≤ k) (h1 : k ≤ 90000) (hl : xs.length * k.toNat ≤ 100000) : EvL (tOp rRep ta tb) σ H (List.replicate k.toNat xs).flatten := fun H1 e Q q =>
  ha H1 e _ fun p H2 hp e2 h2 => hb H2 (e.trans e2) _ fun H3 e3 => ⟨p, k, xs, rfl, rfl, e3 _ _ h2, by omega, by omega, sz_of hl, fun z hz => q z _ (fresh_back (e2.trans e3) hz) ((e2.trans e3).trans (Ex.new hz)) upd_same⟩
theorem flat_rep (v : V) : ∀ n, (List.replicate n [v]).flatten = List.replicate n v
  | 0 => rfl
  | n + 1 => by
    rw [List.replicate_succ, List.flatten_cons, flat_rep v n]
    rfl
end
end BD
namespace BD
open PySem PySem.Spec PyProof.Rows L2 Evl
def Src.S : Src → Prop
  | .thing n => 0 ≤ n ∧ n ≤ 999999999
  | .word w => WordS w
def RowS : Rw → Prop
  | .lend h k s => WordS h ∧ (k = "read" ∨ k = "write") ∧ s.S
  | .pick w ts => WordS w ∧ 1 ≤ ts.length ∧ ts.length ≤ 5 ∧ ∀ t ∈ ts, 0 ≤ t ∧ t ≤ 999999999
  | .back h => WordS h
  | .look h => WordS h
  | .change h => WordS h
  | _ => True
theorem kindM_s (x : Int) : kindM x = "read" ∨ kindM x = "write" := by
  unfold kindM
  split
  · exact .inl rfl
  · exact .inr rfl
theorem thingM_s (c b : Int) : 0 ≤ thingM c b ∧ thingM c b ≤ 999999999 := by
  unfold thingM
  split <;> omega
theorem rowS_word {r : Rw} (h : RowS r) (hn : r.named = true) : WordS r.word := by
  cases r with
  | lend a b c => exact h.1
  | pick a b => exact h.1
  | _ => cases hn
theorem lendM_s {one two : Int} {named : List Rw} {d : Draw} (ok : d.Ok) (hl : named.length ≤ 11) (hn : ∀ r ∈ named, RowS r ∧ r.named = true) : RowS (lendM one two named d) := by
  have hw : WordS (wordM one two named.length d) := wordM_s ok (by omega) (by omega)
  unfold lendM
  split
  · rename_i h
    have hm : named.getD (two % named.length).toNat .fin ∈ named := getD_mem (by
      have := Int.emod_lt_of_pos two h.2
      have := Int.emod_nonneg two (show (named.length : Int) ≠ 0 by omega)
      omega)
    have := hn _ hm
    refine ⟨hw, ?_, rowS_word this.1 this.2⟩
    split
    · exact .inl rfl
    · exact kindM_s _
  · exact ⟨hw, kindM_s _, thingM_s _ _⟩
theorem deedM_s {one two : Int} {hands : List Rw} (hl : 0 < hands.length) (hn : ∀ r ∈ hands, RowS r ∧ r.isLend = true) : RowS (deedM one two hands) := by
  have hm : hands.getD (two % hands.length).toNat .fin ∈ hands := getD_mem (by
    have := Int.emod_lt_of_pos two (show (0 : Int) < hands.length by omega)
    have := Int.emod_nonneg two (show (hands.length : Int) ≠ 0 by omega)
    omega)
  have := hn _ hm
  have hw : WordS (hands.getD (two % hands.length).toNat .fin).word := rowS_word this.1 (by
    have h2 := this.2
    generalize hands.getD (two % hands.length).toNat .fin = r at *
    cases r <;> first | rfl | cases h2)
  unfold deedM
  split
  · exact hw
  split
  · exact hw
  split <;> exact hw
theorem rowM_s {way one two : Int} {op : List Rw} {d : Draw} (ok : d.Ok) (hf : Few op) (ho : ∀ r ∈ op, RowS r) : RowS (rowM way one two op d) := by
  have hnl := hf.named
  have hn : ∀ r ∈ op.filter Rw.named, RowS r ∧ r.named = true := fun r hr => ⟨ho r (List.mem_filter.mp hr).1, (List.mem_filter.mp hr).2⟩
  have hh : ∀ r ∈ (op.filter Rw.named).filter Rw.isLend, RowS r ∧ r.isLend = true := fun r hr => ⟨(hn r (List.mem_filter.mp hr).1).1, (List.mem_filter.mp hr).2⟩
  unfold rowM rowN
  split
  · exact lendM_s ok (by omega) hn
  split
  · refine ⟨wordM_s ok (by omega) (by omega), ?_, ?_, fun t ht => ?_⟩
    · rw [List.length_map, List.length_range]; omega
    · rw [List.length_map, List.length_range]; omega
    · obtain ⟨k, _, rfl⟩ := List.mem_map.mp ht
      exact thingM_s _ _
  split
  · trivial
  split
  · trivial
  split
  · trivial
  split
  · rename_i h
    exact deedM_s (by omega) hh
  split
  · trivial
  · exact lendM_s ok (by omega) hn
theorem pick3_s {α : Type} {p : α → Prop} (x : Int) {a b c : α} (ha : p a) (hb : p b) (hc : p c) : p (pick3 x a b c) := by
  unfold pick3
  split
  · exact ha
  split
  · exact hb
  · exact hc
theorem pick2_s {α : Type} {p : α → Prop} (x : Int) {a b : α} (ha : p a) (hb : p b) : p (pick2 x a b) := by
  unfold pick2
  split
  · exact ha
  · exact hb
theorem all_cons {α : Type} {p : α → Prop} {a : α} {l : List α} (h : p a) (t : ∀ x ∈ l, p x) : ∀ x ∈ a :: l, p x := fun x hx => by
  rcases List.mem_cons.mp hx with e | e
  · subst e; exact h
  · exact t x e
theorem all_nil {α : Type} {p : α → Prop} : ∀ x ∈ ([] : List α), p x := fun x hx => by cases hx
theorem all_app {α : Type} {p : α → Prop} {a b : List α} (h : ∀ x ∈ a, p x) (t : ∀ x ∈ b, p x) : ∀ x ∈ a ++ b, p x := fun x hx => (List.mem_append.mp hx).elim (h x) (t x)
theorem gadA_s {one two t : Int} {a b c : Str} (ha : WordS a) (hb : WordS b) (hc : WordS c) (ht : 0 ≤ t ∧ t ≤ 999999999) : ∀ r ∈ gadA one two a b c t, RowS r := by
  have k8 := kindM_s (one / 8)
  have k2 := kindM_s two
  have kr : ("read" : Str) = "read" ∨ ("read" : Str) = "write" := .inl rfl
  have kw : ("write" : Str) = "read" ∨ ("write" : Str) = "write" := .inr rfl
  have hf : 0 ≤ (t + 1) % 1000000000 ∧ (t + 1) % 1000000000 ≤ 999999999 := by omega
  have hl : 0 ≤ (t + 2) % 1000000000 ∧ (t + 2) % 1000000000 ≤ 999999999 := by omega
  have ba : RowS (.back a) := ha
  have bb : RowS (.back b) := hb
  have la : RowS (.look a) := ha
  have lb : RowS (.look b) := hb
  have tf : RowS .fin := trivial
  have te : RowS .either := trivial
  have to : RowS .or := trivial
  have tg : RowS .again := trivial
  have wwt : ∀ {x : Str} {k : Str} {n : Int}, WordS x → (k = "read" ∨ k = "write") → (0 ≤ n ∧ n ≤ 999999999) → RowS (.lend x k (.thing n)) := fun a b c => ⟨a, b, c⟩
  have www : ∀ {x k y : Str}, WordS x → (k = "read" ∨ k = "write") → WordS y → RowS (.lend x k (.word y)) := fun a b c => ⟨a, b, c⟩
  have p3 : RowS (.back (pick3 two a b a)) := pick3_s (p := WordS) two ha hb ha
  have q3 : RowS (.look (pick3 one c c b)) := pick3_s (p := WordS) one hc hc hb
  have p2 : RowS (.back (pick2 two a b)) := pick2_s (p := WordS) two ha hb
  have t3 : 0 ≤ pick3 two t ((t + 1) % 1000000000) ((t + 2) % 1000000000) ∧ pick3 two t ((t + 1) % 1000000000) ((t + 2) % 1000000000) ≤ 999999999 := pick3_s (p := fun n : Int => 0 ≤ n ∧ n ≤ 999999999) two ht hf hl
  have pk5 : RowS (.pick c [t, t, (t + 1) % 1000000000, (t + 1) % 1000000000, (t + 2) % 1000000000]) := ⟨hc, by show 1 ≤ 5; omega, by show 5 ≤ 5; omega, all_cons ht (all_cons ht (all_cons hf (all_cons hf (all_cons hl all_nil))))⟩
  have pk2 : RowS (.pick c [(t + 1) % 1000000000, t]) := ⟨hc, by show 1 ≤ 2; omega, by show 2 ≤ 5; omega, all_cons hf (all_cons ht all_nil)⟩
  unfold gadA
  split
  · unfold fourM
    split
    · exact all_cons (wwt ha k8 ht) (all_cons tg (all_cons la (all_cons ba (all_cons tf (all_cons tf all_nil)))))
    split
    · exact all_app (all_cons (wwt ha k8 ht) (all_cons te (all_cons ba (all_cons to (all_cons la (all_cons tf all_nil)))))) (all_cons la (all_cons tf all_nil))
    split
    · exact all_app (all_cons (wwt ha kw ht) (all_cons (www hb kw ha) (all_cons (www hc k8 hb) all_nil))) (all_cons p3 (all_cons q3 (all_cons tf (all_cons tf (all_cons tf all_nil)))))
    · exact all_app (all_cons (wwt ha kw ht) (all_cons (www hb kr ha) (all_cons (wwt hc k2 ht) (all_cons tg all_nil)))) (all_cons bb (all_cons tf (all_cons tf (all_cons tf (all_cons tf all_nil)))))
  split
  · exact all_app (all_app (all_cons pk5 all_nil) (all_cons (wwt ha kw t3) (all_cons (www hb k8 hc) all_nil))) (all_cons tf (all_cons tf (all_cons tf all_nil)))
  split
  · exact all_app (all_cons (wwt ha kw ht) (all_cons (www hb kr ha) (all_cons te (all_cons p2 all_nil)))) (all_cons to (all_cons lb (all_cons tf (all_cons la (all_cons tf (all_cons tf all_nil))))))
  split
  · exact all_app (all_cons (wwt ha k8 hf) (all_cons (wwt hb k2 ht) all_nil)) (all_cons (wwt hc kw ht) (all_cons lb (all_cons tf (all_cons tf (all_cons tf all_nil)))))
  split
  · exact all_cons (wwt ha kw ht) (all_cons ba (all_cons (www hb k8 ha) (all_cons lb (all_cons tf (all_cons tf all_nil)))))
  · exact all_app (all_cons pk2 (all_cons (wwt ha kw ht) (all_cons te (all_cons ba all_nil)))) (all_cons to (all_cons tf (all_cons (www hb k8 hc) (all_cons la (all_cons tf (all_cons tf (all_cons tf all_nil)))))))
theorem opUpd_s {op : List Rw} {r : Rw} (ho : ∀ x ∈ op, RowS x) (hr : RowS r) : ∀ x ∈ opUpd op r, RowS x := by
  unfold opUpd
  split
  · exact all_app ho (all_cons hr all_nil)
  split
  · exact fun x hx => ho x ((List.dropLast_sublist op).mem hx)
  · exact ho
theorem st_s {cells : List Int} {d : Draw} {most : Int} {odd : Bool} (ok : d.Ok) : ∀ i, (∀ r ∈ (sheetSt cells d most odd i).1, RowS r) ∧ (∀ r ∈ (sheetSt cells d most odd i).2, RowS r)
  | 0 => ⟨all_nil, all_nil⟩
  | i + 1 => by
    have ih := st_s (cells := cells) (most := most) (odd := odd) ok i
    have hf := few_st cells d most odd i
    have hn := hf.named
    unfold sheetSt stepM
    split
    · exact ⟨all_app ih.1 (gadA_s (wordM_s ok (by omega) (by omega)) (wordM_s ok (by omega) (by omega)) (wordM_s ok (by omega) (by omega)) (thingM_s _ _)), ih.2⟩
    · have hr := rowM_s (way := cells.getD (3 * i) 0 % most) (one := cells.getD (3 * i + 1) 0) (two := cells.getD (3 * i + 2) 0) ok hf ih.2
      exact ⟨all_app ih.1 (all_cons hr all_nil), opUpd_s ih.2 hr⟩
theorem drawn_s (ns : List Int) (most : Int) : ∀ r ∈ drawnM ns most, RowS r := by
  have h : ∀ r ∈ baseM ns most, RowS r := by
    have := st_s (cells := cellsM ns most) (most := mostM (wayM ns)) (odd := decide (3 < wayM ns)) (drawM_ok ns) ((cellsM ns most).length / 3)
    refine all_app this.1 fun r hr => ?_
    obtain ⟨_, _, rfl⟩ := List.mem_map.mp hr
    trivial
  unfold drawnM
  split
  · exact all_app (all_app (all_app h h) h) h
  · exact h
/-! ### rows as data -/
def Src.d : Src → PyData
  | .thing n => .int n
  | .word w => .str w
def rowD : Rw → PyData
  | .lend h k s => .tuple [.str "lend", .str h, .str k, s.d]
  | .pick w ts => .tuple [.str "pick", .str w, .tuple (ts.map PyData.int)]
  | .either => .tuple [.str "either"]
  | .or => .tuple [.str "or"]
  | .again => .tuple [.str "again"]
  | .fin => .tuple [.str "end"]
  | .back h => .tuple [.str "back", .str h]
  | .look h => .tuple [.str "look", .str h]
  | .change h => .tuple [.str "change", .str h]
theorem row_dp {K : PySem.W.Frag} {H : Hp} {v : V} {r : Rw} (h : IsRow H v r) : Dp K H v (rowD r) := by
  cases r with
  | lend a b s =>
    obtain ⟨p, rfl, hp⟩ := h
    cases s with
    | thing n => exact .tup (st_of hp) (.cons (.str _) (.cons (.str _) (.cons (.str _) (.cons (.int _) .nil))))
    | word w => exact .tup (st_of hp) (.cons (.str _) (.cons (.str _) (.cons (.str _) (.cons (.str _) .nil))))
  | pick w ts =>
    obtain ⟨p, q, rfl, hp, hq⟩ := h
    exact .tup (st_of hp) (.cons (.str _) (.cons (.str _) (.cons (.tup (st_of hq) (dp_ints ts)) .nil)))
  | either => obtain ⟨p, rfl, hp⟩ := h; exact .tup (st_of hp) (.cons (.str _) .nil)
  | or => obtain ⟨p, rfl, hp⟩ := h; exact .tup (st_of hp) (.cons (.str _) .nil)
  | again => obtain ⟨p, rfl, hp⟩ := h; exact .tup (st_of hp) (.cons (.str _) .nil)
  | fin => obtain ⟨p, rfl, hp⟩ := h; exact .tup (st_of hp) (.cons (.str _) .nil)
  | back a => obtain ⟨p, rfl, hp⟩ := h; exact .tup (st_of hp) (.cons (.str _) (.cons (.str _) .nil))
  | look a => obtain ⟨p, rfl, hp⟩ := h; exact .tup (st_of hp) (.cons (.str _) (.cons (.str _) .nil))
  | change a => obtain ⟨p, rfl, hp⟩ := h; exact .tup (st_of hp) (.cons (.str _) (.cons (.str _) .nil))
theorem kind_ok {k : Str} (h : k = "read" ∨ k = "write") : PyData.strOk k = true := by
  rcases h with h | h <;> subst h <;> decide +kernel
theorem ok_lend' : PyData.strOk "lend" = true := by decide +kernel
theorem ok_pick' : PyData.strOk "pick" = true := by decide +kernel
theorem ok_back' : PyData.strOk "back" = true := by decide +kernel
theorem ok_look' : PyData.strOk "look" = true := by decide +kernel
theorem ok_change' : PyData.strOk "change" = true := by decide +kernel
theorem row_lay {r : Rw} (h : RowS r) : (rowD r).canLay0 = true ∧ (rowD r).depth ≤ 64 := by
  cases r with
  | lend a b s =>
    have h1 := word_ok h.1
    have h2 := kind_ok h.2.1
    cases s with
    | thing n =>
      simp [rowD, Src.d, PyData.canLay0, PyData.canLayAll0, PyData.depth, PyData.depthAll, h1, h2, ok_lend']
    | word w =>
      have h3 := word_ok h.2.2
      simp [rowD, Src.d, PyData.canLay0, PyData.canLayAll0, PyData.depth, PyData.depthAll, h1, h2, h3, ok_lend']
  | pick w ts =>
    have h1 := word_ok h.1
    simp [rowD, PyData.canLay0, PyData.canLayAll0, PyData.depth, PyData.depthAll, h1, ok_pick', PySem.W.ke_canLayAll0, PySem.W.ke_depthAll]
  | either => exact ⟨by decide +kernel, by decide +kernel⟩
  | or => exact ⟨by decide +kernel, by decide +kernel⟩
  | again => exact ⟨by decide +kernel, by decide +kernel⟩
  | fin => exact ⟨by decide +kernel, by decide +kernel⟩
  | back a =>
    have h1 := word_ok h
    simp [rowD, PyData.canLay0, PyData.canLayAll0, PyData.depth, PyData.depthAll, h1, ok_back']
  | look a =>
    have h1 := word_ok h
    simp [rowD, PyData.canLay0, PyData.canLayAll0, PyData.depth, PyData.depthAll, h1, ok_look']
  | change a =>
    have h1 := word_ok h
    simp [rowD, PyData.canLay0, PyData.canLayAll0, PyData.depth, PyData.depthAll, h1, ok_change']
theorem row_shaped {r : Rw} (h : RowS r) : SeqAt.shaped (rowD r) = true := by
  have := row_lay h
  unfold SeqAt.shaped
  rw [this.1, decide_eq_true this.2]
  rfl
end BD
namespace BD
open PySem PySem.Spec PyProof.Rows L2 Evl
local macro_rules | `(tactic| walk_at "ev") => `(tactic| first
  | ((with_reducible apply ev_var) ; rfl)
  | with_reducible exact ev_c
  | ((with_reducible apply ev_I0) <;> walk_at "ev")
  | ((with_reducible apply ev_e9) <;> walk_at "ev")
  | ((with_reducible apply ev_I) <;> walk_at "ev")
  | ((with_reducible apply ev_eq) <;> walk_at "ev")
  | ((with_reducible apply ev_ne) <;> walk_at "ev")
  | ((with_reducible apply ev_neg) <;> walk_at "ev")
  | ((with_reducible apply ev_ixN) <;> walk_at "ev")
  | ((with_reducible apply ev_ixL) <;> walk_at "ev")
  | ((with_reducible apply ev_inN) <;> walk_at "ev")
  | ((with_reducible apply ev_inT) <;> walk_at "ev")
  | ((with_reducible apply ev_ixT) <;> walk_at "ev")
  | ((with_reducible apply ev_ixS) <;> walk_at "ev")
  | ((with_reducible apply ev_len') <;> walk_at "ev")
  | ((with_reducible apply et_test) <;> walk_at "ev")
  | ((with_reducible apply et_and) <;> walk_at "ev")
  | ((with_reducible apply et_or) <;> walk_at "ev")
  | ((with_reducible apply et_not) <;> walk_at "ev")
  | ((with_reducible apply et_B) <;> walk_at "ev")
  | ((with_reducible apply el_lst) <;> walk_at "ev")
  | ((with_reducible apply eu_tup) <;> walk_at "ev")
  | ((with_reducible apply ea_cons) <;> walk_at "ev")
  | with_reducible exact ea_nil
  | with_reducible assumption
  | ((with_reducible apply ex_l' ; assumption) ; walk_at "ex")
  | ((with_reducible apply ex_t' ; assumption) ; walk_at "ex")
  | (intro _ ; walk_at "ev")
  | (with_reducible first | exact atI_hd | exact at_kind | exact at2s | exact at3s | exact at3i)
  | (first | exact rfl | exact Nat.le_of_ble_eq_true rfl | exact ⟨by decide, by decide⟩ | decide | exact Or.inl ⟨by omega, by omega⟩ | exact Or.inr ⟨by omega, by omega⟩ | omega)
  | skip)
local macro_rules | `(tactic| walk_at "ex") => `(tactic| first
  | assumption
  | exact Ex.refl _
  | (refine' Ex.trans ?_ (by assumption) ; walk_at "ex"))
local macro_rules | `(tactic| walk_at "row") => `(tactic| first
  | (with_reducible exact er_nil)
  | ((with_reducible apply er_cons) <;> walk_at "row")
  | (((with_reducible apply er_var) ; rfl) ; walk_at "isrow")
  | (((with_reducible apply elr_var) ; rfl) ; walk_at "isrow")
  | ((with_reducible apply elr_cat) <;> walk_at "row")
  | ((with_reducible apply elr_lst) <;> walk_at "row")
  | ((with_reducible apply er_fin) <;> walk_at "ev")
  | ((with_reducible apply er_lendT) <;> walk_at "ev")
  | ((with_reducible apply er_lendW) <;> walk_at "ev")
  | ((with_reducible apply er_pick) <;> walk_at "ev")
  | ((with_reducible apply er_either) <;> walk_at "ev")
  | ((with_reducible apply er_or) <;> walk_at "ev")
  | ((with_reducible apply er_again) <;> walk_at "ev")
  | ((with_reducible apply er_back) <;> walk_at "ev")
  | ((with_reducible apply er_look) <;> walk_at "ev")
  | ((with_reducible apply er_change) <;> walk_at "ev")
  | exact Nat.le_of_ble_eq_true rfl
  | skip)
local macro_rules | `(tactic| walk_at "isrow") => `(tactic| first
  | assumption
  | (refine IsRow.up ?_ (by assumption) ; walk_at "ex")
  | (refine LRows.up ?_ (by assumption) ; walk_at "ex"))

local macro_rules | `(tactic| walk_at "ev") => `(tactic| ((with_reducible apply ev_letter) <;> walk_at "ev"))
local macro_rules | `(tactic| walk_at "ev") => `(tactic| ((with_reducible apply ev_cell) <;> walk_at "ev"))
local macro_rules | `(tactic| walk_at "ev") => `(tactic| ((with_reducible apply ev_word) <;> walk_at "ev"))
local macro_rules | `(tactic| walk_at "ev") => `(tactic| ((with_reducible apply ev_thing) <;> walk_at "ev"))

local macro_rules | `(tactic| walk_at "ev") => `(tactic| (((with_reducible apply ev_tag) ; rfl) ; walk_at "isrow"))
abbrev s_l_homes : Stmt := topS 20
theorem sc_l_homes : FnScope ["_law_rows", "_law_found", "_law_opened", "_law_at", "_law_row_here"] ["_law_rows"] (defScope s_l_homes) := ⟨rfl, rfl, rfl, by decide +kernel, rfl, by decide +kernel, by decide +kernel⟩
abbrev s_l_last : Stmt := topS 21
theorem sc_l_last : FnScope ["_law_rows", "_law_home", "_law_at", "_law_place"] ["_law_rows", "_law_home", "_law_at"] (defScope s_l_last) := ⟨rfl, rfl, rfl, by decide +kernel, rfl, by decide +kernel, by decide +kernel⟩
abbrev s_l_starts : Stmt := topS 22
theorem sc_l_starts : FnScope ["_law_rows", "_law_home", "_law_at", "_law_found", "_law_place"] ["_law_rows", "_law_home", "_law_at"] (defScope s_l_starts) := ⟨rfl, rfl, rfl, by decide +kernel, rfl, by decide +kernel, by decide +kernel⟩
section
variable {P : Program} {w : World} {K : PySem.W.Frag} {mg : Str → Option Value} {base : Heap}
theorem ok_lhomes (D : Dn K mg "_law_homes" s_l_homes ["_law_rows"]) (T : Blt mg) : Has P w K mg base "_law_homes" 1 ["_law_rows"] (spHomes K) := by
  refine D.ok sc_l_homes (fun vs H Q E h => ?_) (fun f cdv A outer s H vs Q E hr h => ?_)
  · obtain ⟨a, rv, rs, rfl, _⟩ := h
    rfl
  · obtain ⟨a, rv, rs, rfl, hS, hR, g, hlen, q⟩ := h
    have hlr := hR.len
    refine ⟨_, (pss_cons (ps_set (i := 1) sc_l_homes.nd rfl (Or.inl rfl) (pe_lst pa_nil)) (pss_cons (ps_set (i := 2) sc_l_homes.nd rfl (Or.inl rfl) (pe_lst (pa_cons (pe_un un_neg pe_int) pa_nil))) (pss_cons (ps_for PassesOwn.never rfl (pi_enum (by rfl) T.enumerate_ (pa_cons (pv 0) pa_nil)) (pg_tup rfl (pgs_cons (pg_name (i := 3) sc_l_homes.nd rfl (Or.inl rfl)) (pgs_cons (pg_name (i := 4) sc_l_homes.nd rfl (Or.inl rfl)) pgs_nil))) (pss_cons (ps_expr (pe_bm PySem.F.plainAttrs_list PySem.F.slot_list_append PySem.F.type_list_append mt_append (pv 1) (pa_cons (pe_ix (show IxR _ (rIxL K) from ix_list) (pv 2) (pe_un un_neg pe_int) (fun _ _ => rfl)) pa_nil))) (pss_cons (ps_if (pt_cmpR (show OpR _ _ (rIn K false) from op_in_seq) (pe_ix (show IxR _ (rIxT K) from ix_tup) (pv 4) pe_int (fun _ _ => rfl)) (pe_lst (pa_cons pe_str (pa_cons pe_str (pa_cons pe_str (pa_cons pe_str pa_nil))))) (by rfl)) (pss_one (ps_expr (pe_bm PySem.F.plainAttrs_list PySem.F.slot_list_append PySem.F.type_list_append mt_append (pv 2) (pa_cons (pv 3) pa_nil)))) pss_nil) (pss_one (ps_if (pt_cmpR op_eq (pe_ix (show IxR _ (rIxT K) from ix_tup) (pv 4) pe_int (fun _ _ => rfl)) pe_str (nomark _)) (pss_one (ps_expr (pe_bm0 PySem.F.plainAttrs_list PySem.F.slot_list_pop PySem.F.type_list_pop mt_pop (pv 2)))) pss_nil))))) (pss_one (ps_ret (pv 1)))))), ?_⟩
    show (_ : L2.TS) _ [_, _, _, _, _] _
    refine q_asgL (xs := []) ?_ (fun pf H1 hpf e1 h1 => ?_)
    · walk_at "ev"
    show (_ : L2.TS) _ [_, _, _, _, _] _
    refine q_asgL (xs := [.int (-1)]) ?_ (fun po H2 hpo e2 h2 => ?_)
    · walk_at "ev"
    show (_ : L2.TS) _ [_, _, _, _, _] _
    have hne : pf ≠ po := ne_of_none h1 hpo
    have hpoH : H po = none := fresh_back e1 hpo
    refine q_forE (K := K) (a := a) (xs := rv) (ev_var rfl) (ex_l (by walk_at "ex") hS) (fun i σ' H' => Ex H H' ∧ H' pf = some (.lst (homesV rs i)) ∧ H' po = some (.lst (stV rs i)) ∧ ∃ x3 x4, σ' = [some (.ref a), some (.ref pf), some (.ref po), x3, x4]) ?_ (fun i σ' H' _ h => ex_l h.1 hS) ?_ ?_
    · intro H3 e3
      exact ⟨by walk_at "ex", e3 _ _ (e2 _ _ h1), e3 _ _ h2, none, none, rfl⟩
    · rintro i x σ' H' H3 hi ⟨eH, hf, ho, x3, x4, rfl⟩ e3
      obtain ⟨r, hr, hX⟩ := hR.at hi
      have hi' : i < rv.length := (List.getElem?_eq_some_iff.mp hi).1
      have hO : SqL K H3 po (stV rs i) := sq_of (e3 _ _ ho)
      have hsl := stV_len rs i
      refine q_app (l := pf) (xs := homesV rs i) (v := .int (hm rs i)) (e3 _ _ hf) (ev_var rfl) ?_ (by rw [homesV_len]; omega) (fun H4 e4 => ?_)
      · refine ev_ixL (ev_var rfl) hO ?_ (stV_last rs i)
        walk_at "ev"
      rw [← homesV_next]
      have e5 : Ex H (upd H4 pf (.lst (homesV rs (i + 1)))) := Ex.mut (eH.trans (e3.trans e4)) hpf
      have hX5 : IsRow (upd H4 pf (.lst (homesV rs (i + 1)))) x r := hX.up e5
      have ho5 : (upd H4 pf (.lst (homesV rs (i + 1)))) po = some (.lst (stV rs i)) := by
        rw [upd_ne hne.symm]
        exact e4 _ _ (e3 _ _ ho)
      have hf5 : (upd H4 pf (.lst (homesV rs (i + 1)))) pf = some (.lst (homesV rs (i + 1))) := upd_same
      generalize upd H4 pf (.lst (homesV rs (i + 1))) = H5 at *
      cases hro : r.opens with
      | true =>
        have hrf : r.isFin = false := by cases r <;> first | rfl | cases hro
        refine q_when (b := true) ?_ (fun _ H6 e6 => ?_) (fun hb _ _ => by cases hb)
        · refine et_is ?_ hro
          rw [← tag_opens r]
          walk_at "ev"
        · refine s_app (e6 _ _ ho5) (ev_var rfl) (ev_var rfl) (by omega) (fun H7 e7 => ?_)
          dsimp only
          rw [← stV_push hr hro]
          have e8 : Ex H (upd H7 po (.lst (stV rs (i + 1)))) := Ex.mut (e5.trans (e6.trans e7)) hpoH
          have hX8 : IsRow (upd H7 po (.lst (stV rs (i + 1)))) x r := hX.up e8
          refine s_when (b := false) ?_ (fun hb _ _ => by cases hb) (fun _ H9 e9 => ?_)
          · refine et_is ?_ hrf
            rw [← tag_fin r]
            walk_at "ev"
          · refine ⟨e8.trans e9, e9 _ _ ?_, e9 _ _ upd_same, _, _, rfl⟩
            rw [upd_ne hne]
            exact e7 _ _ (e6 _ _ hf5)
      | false =>
        refine q_when (b := false) ?_ (fun hb _ _ => by cases hb) (fun _ H6 e6 => ?_)
        · refine et_is ?_ hro
          rw [← tag_opens r]
          walk_at "ev"
        · have hX6 := hX5.up e6
          refine s_when (b := r.isFin) ?_ (fun hrf H7 e7 => ?_) (fun hrf H7 e7 => ?_)
          · rw [← tag_fin]
            walk_at "ev"
          · have hp := stV_pop g hr hrf
            refine s_pop (e7 _ _ (e6 _ _ ho5)) (ev_var rfl) hp.2 (fun H8 e8 => ?_)
            dsimp only
            rw [← hp.1]
            refine ⟨Ex.mut (e5.trans (e6.trans (e7.trans e8))) hpoH, ?_, upd_same, _, _, rfl⟩
            rw [upd_ne hne]
            exact e8 _ _ (e7 _ _ (e6 _ _ hf5))
          · refine ⟨e5.trans (e6.trans e7), e7 _ _ (e6 _ _ hf5), ?_, _, _, rfl⟩
            rw [stV_keep hr hro hrf]
            exact e7 _ _ (e6 _ _ ho5)
    · rintro σ' H' ⟨eH, hf, ho, x3, x4, rfl⟩
      rw [hlr] at hf
      exact s_ret (v := .ref pf) (ev_var rfl) (fun H4 e4 => q pf H4 hpf (eH.trans e4) (e4 _ _ hf))
/-! ### the law's own ends and branches -/
def spLast (K : PySem.W.Frag) : Sp := fun vs H Q _ => ∃ (a hh : Addr) (n : Nat) (rv : List V) (rs : List Rw), vs = [.ref a, .ref hh, .int (n : Int)] ∧ SqL K H a rv ∧ Rows H rv rs ∧ SqL K H hh (homesV rs rs.length) ∧ n < rs.length ∧ rs.length ≤ 90000 ∧
  RetV (.int (endUp rs n rs.length)) H Q
theorem ok_last (D : Dn K mg "_law_last" s_l_last ["_law_rows", "_law_home", "_law_at"]) (T : Blt mg) : Has P w K mg base "_law_last" 1 ["_law_rows", "_law_home", "_law_at"] (spLast K) := by
  refine D.ok sc_l_last (fun vs H Q E h => ?_) (fun f cdv A outer s H vs Q E hr h => ?_)
  · obtain ⟨a, hh, n, rv, rs, rfl, _⟩ := h
    rfl
  · obtain ⟨a, hh, n, rv, rs, rfl, hS, hR, hHm, hn, hlen, q⟩ := h
    have hlr := hR.len
    refine ⟨_, (pss_cons (ps_for PassesOwn.never rfl (pi_range2 (by rfl) T.range_ (pa_cons (pe_op op_add (pv 2) pe_int) (pa_cons (pe_callB (show CallR _ _ (rLenS K) from call_len_seq) (by rfl) T.len_ (by decide +kernel) (pa_cons (pv 0) pa_nil)) pa_nil))) (pg_name (i := 3) sc_l_last.nd rfl (Or.inl rfl)) (pss_one (ps_if (PW.pt (pw_and (pt_cmpR op_eq (pe_ix (show IxR _ (rIxL K) from ix_list) (pv 1) (pv 3) (fun _ _ => rfl)) (pv 2) (nomark _)) (pw_and1 (pt_cmpR op_eq (pe_ix (show IxR _ (rIxT K) from ix_tup) (pe_ix (show IxR _ (rIxL K) from ix_list) (pv 0) (pv 3) (fun _ _ => rfl)) pe_int (fun _ _ => rfl)) pe_str (nomark _))))) (pss_one (ps_ret (pv 3))) pss_nil))) (pss_one (ps_ret (pe_un un_neg pe_int)))), ?_⟩
    show (_ : L2.TS) _ [_, _, _, _] _
    refine q_forR2 (lo := (n : Int) + 1) (n := ((rv.length : Nat) : Int)) ?_ ⟨by omega, by omega, by omega, by omega⟩ (fun i σ' H' => Ex H H' ∧ (∀ p, p < n + 1 + i → finF rs n p = false) ∧ ∃ x3, σ' = [some (.ref a), some (.ref hh), some (.int (n : Int)), x3]) ?_ ?_ ?_
    · walk_at "ev"
    · intro H1 e1
      exact ⟨e1, fun p hp => finF_low (by omega), none, rfl⟩
    · rintro i σ' H' hi ⟨eH, hno, x3, rfl⟩
      have ep : (n : Int) + 1 + (i : Int) = ((n + 1 + i : Nat) : Int) := by omega
      rw [ep]
      have hpl : n + 1 + i < rs.length := by omega
      generalize n + 1 + i = p at *
      have hgr := List.getElem?_eq_getElem hpl
      obtain ⟨y, hy, hY⟩ := hR.get hgr
      generalize rs[p] = r at hgr hY
      have hY2 : IsRow H' y r := hY.up eH
      obtain ⟨py, ys, rfl, hpy⟩ := hY2.tup
      have hPy : SqT K H' py (.str r.tag :: ys) := st_of hpy
      have hix : atI rv (p : Int) = some (.ref py) := atI_nat hy
      have hhx : atI (homesV rs rs.length) (p : Int) = some (.int (hm rs p)) := atI_nat (homesV_at hpl)
      refine s_when (b := decide (V.int (hm rs p) = V.int (n : Int)) && r.isFin) ?_ (fun hb H3 e3 => ?_) (fun hb H3 e3 => ?_)
      · rw [← tag_fin]
        walk_at "ev"
      · simp only [Bool.and_eq_true, decide_eq_true_eq, V.int.injEq] at hb
        have hfin : finF rs n p = true := by rw [finF_at hgr, decide_eq_true hb.1, hb.2]; rfl
        have hst := endUp_stay hfin (fun q hq => hno q (by omega)) rs.length hpl
        rw [hst] at q
        exact s_ret (v := .int (p : Int)) (ev_var rfl) (fun H4 e4 => q H4 (eH.trans (e3.trans e4)))
      · simp only [Bool.and_eq_false_iff, decide_eq_false_iff_not, V.int.injEq] at hb
        refine ⟨eH.trans e3, fun q hq => ?_, _, rfl⟩
        by_cases e : q = p
        · subst e
          rw [finF_at hgr]
          rcases hb with hb | hb
          · rw [decide_eq_false hb]; rfl
          · rw [hb, Bool.and_false]
        · exact hno q (by omega)
    · rintro σ' H' ⟨eH, hno, x3, rfl⟩
      rw [endUp_none (fun p hp => hno p (by omega))] at q
      refine s_ret (v := .int (-1)) ?_ (fun H4 e4 => q H4 (eH.trans e4))
      walk_at "ev"
theorem ev_last {a hh : Addr} {n : Nat} {rv : List V} {rs : List Rw} {ta : TA} {σ : L2.St} {H : Hp} {E : XK} (h : EvA ta σ H [.ref a, .ref hh, .int (n : Int)]) (hS : SqL K H a rv) (hR : Rows H rv rs) (hH : SqL K H hh (homesV rs rs.length)) (hn : n < rs.length) (hl : rs.length ≤ 90000) :
    Ev (tCall (spLast K) [] E ta) σ H (.int (endUp rs n rs.length)) := ev_call h fun H1 e Q q E => ⟨a, hh, n, rv, rs, rfl, ex_l e hS, hR.up e, ex_l e hH, hn, hl, q⟩
def spStarts (K : PySem.W.Frag) : Sp := fun vs H Q _ => ∃ (a hh : Addr) (n : Nat) (rv : List V) (rs : List Rw), vs = [.ref a, .ref hh, .int (n : Int)] ∧ SqL K H a rv ∧ Rows H rv rs ∧ SqL K H hh (homesV rs rs.length) ∧ n < rs.length ∧ rs.length ≤ 90000 ∧
  RetL (brV rs n rs.length) H Q
theorem ok_starts (D : Dn K mg "_law_starts" s_l_starts ["_law_rows", "_law_home", "_law_at"]) (T : Blt mg) : Has P w K mg base "_law_starts" 1 ["_law_rows", "_law_home", "_law_at"] (spStarts K) := by
  refine D.ok sc_l_starts (fun vs H Q E h => ?_) (fun f cdv A outer s H vs Q E hr h => ?_)
  · obtain ⟨a, hh, n, rv, rs, rfl, _⟩ := h
    rfl
  · obtain ⟨a, hh, n, rv, rs, rfl, hS, hR, hHm, hn, hlen, q⟩ := h
    have hlr := hR.len
    refine ⟨_, (pss_cons (ps_set (i := 3) sc_l_starts.nd rfl (Or.inl rfl) (pe_lst (pa_cons (pe_op op_add (pv 2) pe_int) pa_nil))) (pss_cons (ps_for PassesOwn.never rfl (pi_range2 (by rfl) T.range_ (pa_cons (pe_op op_add (pv 2) pe_int) (pa_cons (pe_callB (show CallR _ _ (rLenS K) from call_len_seq) (by rfl) T.len_ (by decide +kernel) (pa_cons (pv 0) pa_nil)) pa_nil))) (pg_name (i := 4) sc_l_starts.nd rfl (Or.inl rfl)) (pss_one (ps_if (PW.pt (pw_and (pt_cmpR op_eq (pe_ix (show IxR _ (rIxL K) from ix_list) (pv 1) (pv 4) (fun _ _ => rfl)) (pv 2) (nomark _)) (pw_and1 (pt_cmpR op_eq (pe_ix (show IxR _ (rIxT K) from ix_tup) (pe_ix (show IxR _ (rIxL K) from ix_list) (pv 0) (pv 4) (fun _ _ => rfl)) pe_int (fun _ _ => rfl)) pe_str (nomark _))))) (pss_one (ps_expr (pe_bm PySem.F.plainAttrs_list PySem.F.slot_list_append PySem.F.type_list_append mt_append (pv 3) (pa_cons (pe_op op_add (pv 4) pe_int) pa_nil)))) pss_nil))) (pss_one (ps_ret (pv 3))))), ?_⟩
    show (_ : L2.TS) _ [_, _, _, _, _] _
    refine q_asgL (xs := brV rs n (n + 1)) ?_ (fun pf H1 hpf e1 h1 => ?_)
    · rw [brV_low rs n (n + 1) (Nat.le_refl _)]
      walk_at "ev"
    show (_ : L2.TS) _ [_, _, _, _, _] _
    refine q_forR2 (lo := (n : Int) + 1) (n := ((rv.length : Nat) : Int)) ?_ ⟨by omega, by omega, by omega, by omega⟩ (fun i σ' H' => Ex H H' ∧ H' pf = some (.lst (brV rs n (n + 1 + i))) ∧ ∃ x3, σ' = [some (.ref a), some (.ref hh), some (.int (n : Int)), some (.ref pf), x3]) ?_ ?_ ?_
    · walk_at "ev"
    · intro H2 e2
      exact ⟨e1.trans e2, e2 _ _ h1, none, rfl⟩
    · rintro i σ' H' hi ⟨eH, hf, x3, rfl⟩
      have ep : (n : Int) + 1 + (i : Int) = ((n + 1 + i : Nat) : Int) := by omega
      rw [ep]
      have hpl : n + 1 + i < rs.length := by omega
      rw [show n + 1 + (i + 1) = (n + 1 + i) + 1 from rfl]
      generalize n + 1 + i = p at *
      have hgr := List.getElem?_eq_getElem hpl
      obtain ⟨y, hy, hY⟩ := hR.get hgr
      generalize rs[p] = r at hgr hY
      have hY2 : IsRow H' y r := hY.up eH
      obtain ⟨py, ys, rfl, hpy⟩ := hY2.tup
      have hPy : SqT K H' py (.str r.tag :: ys) := st_of hpy
      have hix : atI rv (p : Int) = some (.ref py) := atI_nat hy
      have hhx : atI (homesV rs rs.length) (p : Int) = some (.int (hm rs p)) := atI_nat (homesV_at hpl)
      have hbl := brV_len rs n p
      refine s_when (b := decide (V.int (hm rs p) = V.int (n : Int)) && r.isOr) ?_ (fun hb H3 e3 => ?_) (fun hb H3 e3 => ?_)
      · rw [← tag_or]
        walk_at "ev"
      · simp only [Bool.and_eq_true, decide_eq_true_eq, V.int.injEq] at hb
        refine s_app (l := pf) (xs := brV rs n p) (v := .int ((p : Int) + 1)) (e3 _ _ hf) (ev_var rfl) ?_ (by omega) (fun H4 e4 => ?_)
        · walk_at "ev"
        dsimp only
        rw [← brV_yes (by rw [orF_at hgr, decide_eq_true hb.1, hb.2]; rfl)]
        exact ⟨Ex.mut (eH.trans (e3.trans e4)) hpf, upd_same, _, rfl⟩
      · simp only [Bool.and_eq_false_iff, decide_eq_false_iff_not, V.int.injEq] at hb
        refine ⟨eH.trans e3, ?_, _, rfl⟩
        rw [brV_no (by
          rw [orF_at hgr]
          rcases hb with hb | hb
          · rw [decide_eq_false hb]; rfl
          · rw [hb, Bool.and_false])]
        exact e3 _ _ hf
    · rintro σ' H' ⟨eH, hf, x3, rfl⟩
      rw [show n + 1 + (((rv.length : Nat) : Int) - ((n : Int) + 1)).toNat = rs.length by omega] at hf
      exact s_ret (v := .ref pf) (ev_var rfl) (fun H4 e4 => q pf H4 hpf (eH.trans e4) (e4 _ _ hf))
theorem el_starts {a hh : Addr} {n : Nat} {rv : List V} {rs : List Rw} {ta : TA} {σ : L2.St} {H : Hp} {E : XK} (h : EvA ta σ H [.ref a, .ref hh, .int (n : Int)]) (hS : SqL K H a rv) (hR : Rows H rv rs) (hH : SqL K H hh (homesV rs rs.length)) (hn : n < rs.length) (hl : rs.length ≤ 90000) :
    EvL (tCall (spStarts K) [] E ta) σ H (brV rs n rs.length) := el_call h fun H1 e Q q E => ⟨a, hh, n, rv, rs, rfl, ex_l e hS, hR.up e, ex_l e hH, hn, hl, fun p H2 hp e2 h2 => q p H2 hp e2 h2⟩
end
end BD
namespace BD
open PySem PySem.Spec PyProof.Rows L2 Evl
local macro_rules | `(tactic| walk_at "ev") => `(tactic| first
  | ((with_reducible apply ev_var) ; rfl)
  | with_reducible exact ev_c
  | ((with_reducible apply ev_I0) <;> walk_at "ev")
  | ((with_reducible apply ev_e9) <;> walk_at "ev")
  | ((with_reducible apply ev_I) <;> walk_at "ev")
  | ((with_reducible apply ev_eq) <;> walk_at "ev")
  | ((with_reducible apply ev_ne) <;> walk_at "ev")
  | ((with_reducible apply ev_neg) <;> walk_at "ev")
  | ((with_reducible apply ev_ixN) <;> walk_at "ev")
  | ((with_reducible apply ev_ixL) <;> walk_at "ev")
  | ((with_reducible apply ev_inN) <;> walk_at "ev")
  | ((with_reducible apply ev_inT) <;> walk_at "ev")
  | ((with_reducible apply ev_ixT) <;> walk_at "ev")
  | ((with_reducible apply ev_ixS) <;> walk_at "ev")
  | ((with_reducible apply ev_len') <;> walk_at "ev")
  | ((with_reducible apply et_test) <;> walk_at "ev")
  | ((with_reducible apply et_and) <;> walk_at "ev")
  | ((with_reducible apply et_or) <;> walk_at "ev")
  | ((with_reducible apply et_not) <;> walk_at "ev")
  | ((with_reducible apply et_B) <;> walk_at "ev")
  | ((with_reducible apply el_lst) <;> walk_at "ev")
  | ((with_reducible apply eu_tup) <;> walk_at "ev")
  | ((with_reducible apply ea_cons) <;> walk_at "ev")
  | with_reducible exact ea_nil
  | with_reducible assumption
  | ((with_reducible apply ex_l' ; assumption) ; walk_at "ex")
  | ((with_reducible apply ex_t' ; assumption) ; walk_at "ex")
  | (intro _ ; walk_at "ev")
  | (with_reducible first | exact atI_hd | exact at_kind | exact at2s | exact at3s | exact at3i)
  | (first | exact rfl | exact Nat.le_of_ble_eq_true rfl | exact ⟨by decide, by decide⟩ | decide | exact Or.inl ⟨by omega, by omega⟩ | exact Or.inr ⟨by omega, by omega⟩ | omega)
  | skip)
local macro_rules | `(tactic| walk_at "ex") => `(tactic| first
  | assumption
  | exact Ex.refl _
  | (refine' Ex.trans ?_ (by assumption) ; walk_at "ex"))
local macro_rules | `(tactic| walk_at "row") => `(tactic| first
  | (with_reducible exact er_nil)
  | ((with_reducible apply er_cons) <;> walk_at "row")
  | (((with_reducible apply er_var) ; rfl) ; walk_at "isrow")
  | (((with_reducible apply elr_var) ; rfl) ; walk_at "isrow")
  | ((with_reducible apply elr_cat) <;> walk_at "row")
  | ((with_reducible apply elr_lst) <;> walk_at "row")
  | ((with_reducible apply er_fin) <;> walk_at "ev")
  | ((with_reducible apply er_lendT) <;> walk_at "ev")
  | ((with_reducible apply er_lendW) <;> walk_at "ev")
  | ((with_reducible apply er_pick) <;> walk_at "ev")
  | ((with_reducible apply er_either) <;> walk_at "ev")
  | ((with_reducible apply er_or) <;> walk_at "ev")
  | ((with_reducible apply er_again) <;> walk_at "ev")
  | ((with_reducible apply er_back) <;> walk_at "ev")
  | ((with_reducible apply er_look) <;> walk_at "ev")
  | ((with_reducible apply er_change) <;> walk_at "ev")
  | exact Nat.le_of_ble_eq_true rfl
  | skip)
local macro_rules | `(tactic| walk_at "isrow") => `(tactic| first
  | assumption
  | (refine IsRow.up ?_ (by assumption) ; walk_at "ex")
  | (refine LRows.up ?_ (by assumption) ; walk_at "ex"))

local macro_rules | `(tactic| walk_at "ev") => `(tactic| ((with_reducible apply ev_letter) <;> walk_at "ev"))
local macro_rules | `(tactic| walk_at "ev") => `(tactic| ((with_reducible apply ev_cell) <;> walk_at "ev"))
local macro_rules | `(tactic| walk_at "ev") => `(tactic| ((with_reducible apply ev_word) <;> walk_at "ev"))
local macro_rules | `(tactic| walk_at "ev") => `(tactic| ((with_reducible apply ev_thing) <;> walk_at "ev"))

abbrev s_l_whole : Stmt := topS 23
theorem sc_l_whole : FnScope ["_law_found"] ["_law_found"] (defScope s_l_whole) := ⟨rfl, rfl, rfl, by decide +kernel, rfl, by decide +kernel, by decide +kernel⟩
abbrev s_l_numbers : Stmt := topS 25
theorem sc_l_numbers : FnScope ["_law_found", "_law_due", "_law_number"] ["_law_found", "_law_due"] (defScope s_l_numbers) := ⟨rfl, rfl, rfl, by decide +kernel, rfl, by decide +kernel, by decide +kernel⟩
abbrev s_l_rows_alike : Stmt := topS 24
theorem sc_l_rows_alike : FnScope ["_law_rows", "_law_kept", "_law_row_here", "_law_other"] ["_law_rows", "_law_kept"] (defScope s_l_rows_alike) := ⟨rfl, rfl, rfl, by decide +kernel, rfl, by decide +kernel, by decide +kernel⟩
section
variable {K : PySem.W.Frag} {σ : L2.St} {H H' : Hp} {ta tb te tl tm : TE} {t : TT}
theorem ev_isi {ta : TA} {x : V} {m n : String} {b : Bool} (h : EvA ta σ H [x, .ty n]) (ty : TyX K H x (.type m)) (up : ∀ H1, Ex H H1 → TyX K H1 x (.type m)) (k : kitB m n = some b) : Ev (tCB (rIsi K) ta) σ H (.bl b) :=
  ev_cb h fun H1 e Q q => ⟨x, .ty n, .type m, .type n, b, rfl, ClsV.ty n, up H1 e, kit_ty k, q H1 (Ex.refl H1)⟩
theorem ev_isiI {ta : TA} {i : Int} {n : String} {b : Bool} (h : EvA ta σ H [.int i, .ty n]) (k : kitB "int" n = some b) : Ev (tCB (rIsi K) ta) σ H (.bl b) :=
  ev_isi h (.base (.int i)) (fun _ _ => .base (.int i)) k
theorem ev_isiL {ta : TA} {p : Addr} {xs : List V} {n : String} {b : Bool} (h : EvA ta σ H [.ref p, .ty n]) (hp : H p = some (.lst xs)) (k : kitB "list" n = some b) : Ev (tCB (rIsi K) ta) σ H (.bl b) :=
  ev_isi h (.base (.lst hp)) (fun _ e => .base (.lst (e _ _ hp))) k
theorem ev_isiT {ta : TA} {p : Addr} {xs : List V} {n : String} {b : Bool} (h : EvA ta σ H [.ref p, .ty n]) (hp : H p = some (.tup xs)) (k : kitB "tuple" n = some b) : Ev (tCB (rIsi K) ta) σ H (.bl b) :=
  ev_isi h (.base (.tup hp)) (fun _ e => .base (.tup (e _ _ hp))) k
theorem ev_all {bs : List Bool} (h : EvL ta σ H (bs.map V.bl)) : Ev (tCB (rAll K) (tCons ta tNil)) σ H (.bl (bs.all id)) := fun H1 e Q q =>
  h H1 e _ fun p H2 _ e2 h2 => ⟨p, bs, rfl, sq_of h2, q H2 e2⟩
theorem ev_eqD {x y : V} {d e : PyData} (ha : Ev ta σ H x) (hb : Ev tb σ H y) (dx : ∀ H1, Ex H H1 → Dp K H1 x d) (dy : ∀ H1, Ex H H1 → Dp K H1 y e) (s1 : SeqAt.shaped d = true) (s2 : SeqAt.shaped e = true) : Ev (tOp (rEqD K) ta tb) σ H (.bl (PyData.eqv d e)) :=
  ev_op ha hb (rv_val fun H1 e1 Q q => ⟨d, e, dx H1 e1, dy H1 e1, s1, s2, q⟩)
theorem ev_neD {x y : V} {d e : PyData} (ha : Ev ta σ H x) (hb : Ev tb σ H y) (dx : ∀ H1, Ex H H1 → Dp K H1 x d) (dy : ∀ H1, Ex H H1 → Dp K H1 y e) (s1 : SeqAt.shaped d = true) (s2 : SeqAt.shaped e = true) : Ev (tOp (rNeD K) ta tb) σ H (.bl (!PyData.eqv d e)) :=
  ev_op ha hb (rv_val fun H1 e1 Q q => ⟨d, e, dx H1 e1, dy H1 e1, s1, s2, q⟩)
theorem dp_listI {p : Addr} {ns : List Int} (h : SqL K H p (ns.map V.int)) : Dp K H (.ref p) (.list (ns.map PyData.int)) := .lst h (dp_ints ns)
theorem eqv_ints (ns : List Int) : PyData.eqv (.list (ns.map PyData.int)) (.list (ns.map PyData.int)) = true :=
  SeqAt.eqv_refl _ (SeqAt.canLay_of_shaped (PySem.W.ke_shaped_ints ns))
theorem given_rep (n : Nat) (v : V) : given n (fun _ => true) (fun _ => v) = List.replicate n v := by
  rw [given_all]
  refine List.ext_getElem? fun i => ?_
  rw [List.getElem?_map, List.getElem?_replicate]
  by_cases h : i < n
  · rw [List.getElem?_range h, if_pos h]; rfl
  · rw [if_neg h, List.getElem?_eq_none (by rw [List.length_range]; omega)]; rfl
theorem rep_all : ∀ n, (List.replicate n true).all id = true
  | 0 => rfl
  | n + 1 => by rw [List.replicate_succ, List.all_cons, rep_all n]; rfl
theorem el_lcZ {a b : Addr} {xs ys : List V} {j k : Nat} {ws : List Nat} (v : V) (hxy : xs.length = ys.length) (h : Ev tl σ H (.ref a)) (h2 : Ev tm σ H (.ref b)) (hx : SqL K H a xs) (hy : SqL K H b ys) (hz : xs.length ≤ 40000)
    (hw : ∀ x y, wipe (((wipe σ ws).set j (some x)).set k (some y)) ws = wipe σ ws) (he : ∀ (i : Nat) x y H1, Ex H H1 → xs[i]? = some x → ys[i]? = some y → Ev te (((wipe σ ws).set j (some x)).set k (some y)) H1 v) :
    EvL (tLc (iZip K (tCons tl (tCons tm tNil))) (gTup K 2 (gCons (gName j) (gCons (gName k) gNil))) tYes te ws) σ H (List.replicate xs.length v) := fun H0 e Q q =>
  h H0 e _ fun H1 e1 => h2 H1 (e.trans e1) _ fun H2 e2 => ⟨a, b, xs, ys, rfl, ex_l ((e.trans e1).trans e2) hx, ex_l ((e.trans e1).trans e2) hy, fun Dl hD =>
    lc_it (walk_zip (K := K) (n := xs.length) (by omega)) (fun i H' => H2 Dl = none ∧ Ex H2 H' ∧ H' Dl = some (.lst (List.replicate i v))) ⟨hD, Ex.new hD, upd_same⟩ (fun i H' _ p => ⟨ex_l (((e.trans e1).trans e2).trans p.2.1) hx, ex_l (((e.trans e1).trans e2).trans p.2.1) hy⟩)
      (fun i z H' H3 hi p y => by
        obtain ⟨T, x1, x2, rfl, hT, rfl, g1, g2⟩ := y
        obtain ⟨p1, p2, p3⟩ := p
        have eT : Ex H' (upd H' T (.tup [x1, x2])) := Ex.new hT
        refine ⟨T, [x1, x2], rfl, SqT.of upd_same, rfl, _, _, rfl, _, _, rfl, rfl, hw x1 x2, ?_⟩
        show te _ _ _
        refine he i x1 x2 _ ((((e.trans e1).trans e2).trans p2).trans eT) g1 g2 _ (Ex.refl _) _ fun H4 e4 => ⟨List.replicate i v, e4 _ _ (eT _ _ p3), sz_lt (by rw [List.length_replicate]; omega), p1, Ex.mut ((p2.trans eT).trans e4) p1, ?_⟩
        rw [upd_same, List.replicate_succ']) (fun H' p => q Dl H' (fresh_back (e1.trans e2) p.1) ((e1.trans e2).trans p.2.1) p.2.2)⟩
end
section
variable {P : Program} {w : World} {K : PySem.W.Frag} {mg : Str → Option Value} {base : Heap}
def spWhole : Sp := fun vs H Q _ => ∃ (i : Int), vs = [.int i] ∧ RetV (.bl true) H Q
theorem ok_whole (D : Dn K mg "_law_whole" s_l_whole ["_law_found"]) (T : Blt mg) : Has P w K mg base "_law_whole" 1 ["_law_found"] spWhole := by
  refine D.ok sc_l_whole (fun vs H Q E h => ?_) (fun f cdv A outer s H vs Q E hr h => ?_)
  · obtain ⟨i, rfl, _⟩ := h
    rfl
  · obtain ⟨i, rfl, q⟩ := h
    refine ⟨_, (pss_one (ps_ret (pe_and (pe_callB (show CallR _ _ (rIsi K) from call_isi) (by rfl) T.isinstance_ (by decide +kernel) (pa_cons (pv 0) (pa_cons (pe_bltn (v := .ty "int") (by rfl) T.int_ (by decide +kernel) rfl) pa_nil))) (pe_one (pe_not (pe_callB (show CallR _ _ (rIsi K) from call_isi) (by rfl) T.isinstance_ (by decide +kernel) (pa_cons (pv 0) (pa_cons (pe_bltn (v := .ty "bool") (by rfl) T.bool_ (by decide +kernel) rfl) pa_nil)))))))), ?_⟩
    refine s_ret (v := .bl (true && !false)) (ev_andV (ev_isiI (i := i) ?_ (show kitB "int" "int" = some true by decide +kernel)) (fun _ => ev_notV (ev_isiI (i := i) ?_ (show kitB "int" "bool" = some false by decide +kernel)))) (fun H1 e1 => q H1 e1)
    · walk_at "ev"
    · walk_at "ev"
theorem ev_whole {i : Int} {ta : TA} {σ : L2.St} {H : Hp} {E : XK} (h : EvA ta σ H [.int i]) : Ev (tCall spWhole [] E ta) σ H (.bl true) := ev_call h fun H1 e Q q E => ⟨i, rfl, q⟩
def spNumbers (K : PySem.W.Frag) : Sp := fun vs H Q _ => ∃ (p q : Addr) (ns : List Int), vs = [.ref p, .ref q] ∧ H p = some (.lst (ns.map V.int)) ∧ SqL K H q (ns.map V.int) ∧ ns.length ≤ 40000 ∧ RetV (.bl true) H Q
theorem ok_numbers (D : Dn K mg "_law_numbers" s_l_numbers ["_law_found", "_law_due"]) (T : Blt mg) (h_l_whole : Has P w K mg base "_law_whole" 1 ["_law_found"] spWhole) : Has P w K mg base "_law_numbers" 2 ["_law_found", "_law_due"] (spNumbers K) := by
  refine D.ok sc_l_numbers (fun vs H Q E h => ?_) (fun f cdv A outer s H vs Q E hr h => ?_)
  · obtain ⟨p, q, ns, rfl, _⟩ := h
    rfl
  · obtain ⟨p, p2, ns, rfl, hP, hQ, hlen, q⟩ := h
    have hPs : SqL K H p (ns.map V.int) := sq_of hP
    refine ⟨_, (pss_cons (ps_if (PW.pt (pw_or (pt_not (pt_val (pe_callB (show CallR _ _ (rIsi K) from call_isi) (by rfl) T.isinstance_ (by decide +kernel) (pa_cons (pv 0) (pa_cons (pe_bltn (v := .ty "list") (by rfl) T.list_ (by decide +kernel) rfl) pa_nil))))) (pw_or1 (pt_cmpR op_ne (pe_callB (show CallR _ _ (rLenS K) from call_len_seq) (by rfl) T.len_ (by decide +kernel) (pa_cons (pv 0) pa_nil)) (pe_callB (show CallR _ _ (rLenS K) from call_len_seq) (by rfl) T.len_ (by decide +kernel) (pa_cons (pv 1) pa_nil)) (nomark _))))) (pss_one (ps_ret pe_bl)) pss_nil) (pss_one (ps_ret (pe_and (pe_callB (cr_all rfl) (by rfl) T.all_ (by decide +kernel) (pa_cons (pe_lc (own := [("_law_number", 2)]) (g := (gName 2)) (tt := tYes) rfl sc_l_numbers.nd (pi_list (pv 0)) (blkOk_by (own := [("_law_number", 2)]) (N := ["_law_found", "_law_due", "_law_number"]) (sc := defScope s_l_numbers) (by decide +kernel)) (fun _ _ _ _ _ => (pg_name (i := 2) sc_l_numbers.nd rfl (Or.inl rfl))) (fun _ _ _ _ _ => pts_nil) (fun _ _ _ _ _ => (pe_own h_l_whole (hr.mono (by decide)) (by rfl) (pa_cons (pv 2) pa_nil)))) pa_nil)) (pe_one (pe_cmpR (show OpR _ _ (rEqD K) from op_eqD hr.units) (pv 0) (pv 1) (nomark _))))))), ?_⟩
    show (_ : L2.TS) _ [_, _, _] _
    refine q_when (b := false) ?_ (fun hb _ _ => by cases hb) (fun _ H1 e1 => ?_)
    · refine et_is (et_or (et_not (et_B (ev_isiL ?_ hP (show kitB "list" "list" = some true by decide +kernel)))) (fun _ => et_test (ev_is (ev_ne (x := .int (((ns.map V.int).length : Nat) : Int)) (y := .int (((ns.map V.int).length : Nat) : Int)) ?_ ?_ rfl) (by rw [decide_eq_true rfl]; rfl)))) rfl
      · walk_at "ev"
      · walk_at "ev"
      · walk_at "ev"
    · have hz : (ns.map V.int).length ≤ 40000 := by rw [List.length_map]; exact hlen
      refine s_ret (v := .bl (((List.replicate (ns.map V.int).length true).all id) && PyData.eqv (.list (ns.map PyData.int)) (.list (ns.map PyData.int)))) (ev_andV (ev_all ?_) (fun _ => ev_eqD (ev_var rfl) (ev_var rfl) (fun H2 e2 => dp_listI (ex_l (e1.trans e2) hPs)) (fun H2 e2 => dp_listI (ex_l (e1.trans e2) hQ)) (PySem.W.ke_shaped_ints ns) (PySem.W.ke_shaped_ints ns))) (fun H2 e2 => ?_)
      · rw [List.map_replicate, ← given_rep]
        refine el_lcL _ _ (ev_var rfl) (ex_l e1 hPs) hz (fun x => rfl) (fun i x H2 e2 hi => et_yes) (fun i x H2 e2 hi _ => ?_)
        have hx : ∃ z, x = .int z := by
          rw [List.getElem?_map] at hi
          cases h : ns[i]? with
          | none => rw [h] at hi; cases hi
          | some z => rw [h] at hi; exact ⟨z, (Option.some.inj hi).symm⟩
        obtain ⟨z, rfl⟩ := hx
        refine ev_whole (i := z) ?_
        walk_at "ev"
      · rw [rep_all, eqv_ints]
        exact q H2 (e1.trans e2)
theorem ev_numbersA {p q : Addr} {ns : List Int} {ta : TA} {σ : L2.St} {H : Hp} {E : XK} (h : EvA ta σ H [.ref p, .ref q]) (hP : H p = some (.lst (ns.map V.int))) (hQ : SqL K H q (ns.map V.int)) (hl : ns.length ≤ 40000) : Ev (tCall (spNumbers K) [] E ta) σ H (.bl true) :=
  ev_call h fun H1 e Q k E => ⟨p, q, ns, rfl, e _ _ hP, ex_l e hQ, hl, k⟩
/-- both arguments new lists -/
theorem ev_numbersLL {ns : List Int} {ta tb : TE} {σ : L2.St} {H : Hp} {E : XK} (ha : EvL ta σ H (ns.map V.int)) (hb : EvL tb σ H (ns.map V.int)) (hl : ns.length ≤ 40000) : Ev (tCall (spNumbers K) [] E (tCons ta (tCons tb tNil))) σ H (.bl true) := fun H1 e Q k =>
  ha H1 e _ fun p H2 hp e2 h2 => hb H2 (e.trans e2) _ fun q H3 hq e3 h3 => ⟨p, q, ns, rfl, e3 _ _ h2, sq_of h3, hl, fun H4 e4 => k H4 (e2.trans (e3.trans e4))⟩
theorem ev_numbersL {ns : List Int} {q : Addr} {ta tb : TE} {σ : L2.St} {H : Hp} {E : XK} (ha : EvL ta σ H (ns.map V.int)) (hb : Ev tb σ H (.ref q)) (hQ : SqL K H q (ns.map V.int)) (hl : ns.length ≤ 40000) : Ev (tCall (spNumbers K) [] E (tCons ta (tCons tb tNil))) σ H (.bl true) := fun H1 e Q k =>
  ha H1 e _ fun p H2 hp e2 h2 => hb H2 (e.trans e2) _ fun H3 e3 => ⟨p, q, ns, rfl, e3 _ _ h2, ex_l (e.trans (e2.trans e3)) hQ, hl, fun H4 e4 => k H4 (e2.trans (e3.trans e4))⟩
def spAlike (K : PySem.W.Frag) : Sp := fun vs H Q _ => ∃ (p q : Addr) (xs : List V) (rs : List Rw), vs = [.ref p, .ref q] ∧ H p = some (.lst xs) ∧ SqL K H q xs ∧ Rows H xs rs ∧ (∀ r ∈ rs, RowS r) ∧ rs.length ≤ 40000 ∧ RetV (.bl true) H Q
theorem ok_alike (D : Dn K mg "_law_rows_alike" s_l_rows_alike ["_law_rows", "_law_kept"]) (T : Blt mg) : Has P w K mg base "_law_rows_alike" 1 ["_law_rows", "_law_kept"] (spAlike K) := by
  refine D.ok sc_l_rows_alike (fun vs H Q E h => ?_) (fun f cdv A outer s H vs Q E hr h => ?_)
  · obtain ⟨p, q, xs, rs, rfl, _⟩ := h
    rfl
  · obtain ⟨p, p2, xs, rs, rfl, hP, hQ, hR, hS, hlen, q⟩ := h
    have hPs : SqL K H p xs := sq_of hP
    have hl := hR.len
    refine ⟨_, (pss_cons (ps_if (PW.pt (pw_or (pt_not (pt_val (pe_callB (show CallR _ _ (rIsi K) from call_isi) (by rfl) T.isinstance_ (by decide +kernel) (pa_cons (pv 0) (pa_cons (pe_bltn (v := .ty "list") (by rfl) T.list_ (by decide +kernel) rfl) pa_nil))))) (pw_or1 (pt_cmpR op_ne (pe_callB (show CallR _ _ (rLenS K) from call_len_seq) (by rfl) T.len_ (by decide +kernel) (pa_cons (pv 0) pa_nil)) (pe_callB (show CallR _ _ (rLenS K) from call_len_seq) (by rfl) T.len_ (by decide +kernel) (pa_cons (pv 1) pa_nil)) (nomark _))))) (pss_one (ps_ret pe_bl)) pss_nil) (pss_one (ps_ret (pe_callB (cr_all rfl) (by rfl) T.all_ (by decide +kernel) (pa_cons (pe_lc (own := [("_law_row_here", 2), ("_law_other", 3)]) (g := (gTup K 2 (gCons (gName 2) (gCons (gName 3) gNil)))) (tt := tYes) rfl sc_l_rows_alike.nd (pi_zip (by rfl) T.zip_ (pa_cons (pv 0) (pa_cons (pv 1) pa_nil))) (blkOk_by (own := [("_law_row_here", 2), ("_law_other", 3)]) (N := ["_law_rows", "_law_kept", "_law_row_here", "_law_other"]) (sc := defScope s_l_rows_alike) (by decide +kernel)) (fun _ _ _ _ _ => (pg_tup rfl (pgs_cons (pg_name (i := 2) sc_l_rows_alike.nd rfl (Or.inl rfl)) (pgs_cons (pg_name (i := 3) sc_l_rows_alike.nd rfl (Or.inl rfl)) pgs_nil)))) (fun _ _ _ _ _ => pts_nil) (fun _ _ _ _ _ => (pe_and (pe_callB (show CallR _ _ (rIsi K) from call_isi) (by rfl) T.isinstance_ (by decide +kernel) (pa_cons (pv 2) (pa_cons (pe_bltn (v := .ty "tuple") (by rfl) T.tuple_ (by decide +kernel) rfl) pa_nil))) (pe_one (pe_cmpR (show OpR _ _ (rEqD K) from op_eqD hr.units) (pv 2) (pv 3) (nomark _)))))) pa_nil))))), ?_⟩
    show (_ : L2.TS) _ [_, _, _, _] _
    refine q_when (b := false) ?_ (fun hb _ _ => by cases hb) (fun _ H1 e1 => ?_)
    · refine et_is (et_or (et_not (et_B (ev_isiL ?_ hP (show kitB "list" "list" = some true by decide +kernel)))) (fun _ => et_test (ev_is (ev_ne (x := .int ((xs.length : Nat) : Int)) (y := .int ((xs.length : Nat) : Int)) ?_ ?_ rfl) (by rw [decide_eq_true rfl]; rfl)))) rfl
      · walk_at "ev"
      · walk_at "ev"
      · walk_at "ev"
    · refine s_ret (v := .bl ((List.replicate xs.length true).all id)) (ev_all ?_) (fun H2 e2 => ?_)
      · rw [List.map_replicate]
        refine el_lcZ (.bl true) rfl (ev_var rfl) (ev_var rfl) (ex_l e1 hPs) (ex_l e1 hQ) (by omega) (fun x y => rfl) (fun i x y H2 e2 hx hy => ?_)
        have exy : y = x := Option.some.inj (hy.symm.trans hx)
        subst exy
        obtain ⟨r, hr, hX⟩ := hR.at hx
        have hX2 : IsRow H2 y r := hX.up (e1.trans e2)
        have hrS : RowS r := hS r (List.mem_of_getElem? hr)
        obtain ⟨px, ys, rfl, hpx⟩ := hX2.tup
        have hsh := row_shaped hrS
        refine ev_is (ev_andV (a := true) (b := PyData.eqv (rowD r) (rowD r)) (ev_isiT ?_ hpx (show kitB "tuple" "tuple" = some true by decide +kernel)) (fun _ => ev_eqD (ev_var rfl) (ev_var rfl) (fun H3 e3 => row_dp (hX2.up e3)) (fun H3 e3 => row_dp (hX2.up e3)) hsh hsh)) ?_
        · walk_at "ev"
        · rw [SeqAt.eqv_refl _ (row_lay hrS).1]
          rfl
      · rw [rep_all]
        exact q H2 (e1.trans e2)
theorem ev_alike {p q : Addr} {xs : List V} {rs : List Rw} {ta : TA} {σ : L2.St} {H : Hp} {E : XK} (h : EvA ta σ H [.ref p, .ref q]) (hP : H p = some (.lst xs)) (hQ : SqL K H q xs) (hR : Rows H xs rs) (hS : ∀ r ∈ rs, RowS r) (hl : rs.length ≤ 40000) : Ev (tCall (spAlike K) [] E ta) σ H (.bl true) :=
  ev_call h fun H1 e Q k E => ⟨p, q, xs, rs, rfl, e _ _ hP, ex_l e hQ, hR.up e, hS, hl, k⟩
end
end BD
namespace BD
open PySem PySem.Spec PyProof.Rows L2 Evl
/-! ### a sheet is one: words, hands, branches -/
def Fresh (op : List Rw) (w : Str) : Prop := ∀ q ∈ op, q.named = true → q.word ≠ w
def Hand (op : List Rw) (w : Str) (k : Str → Prop) : Prop := ∃ q ∈ op, q.isLend = true ∧ q.word = w ∧ k q.kind
def Meant (op : List Rw) (w : Str) (k : Str) : Prop := ∃ q ∈ op, q.named = true ∧ q.word = w ∧ (k = "write" → q.isLend = true → q.kind = "write")
def OkRow (op : List Rw) : Rw → Prop
  | .lend h k s => Fresh op h ∧ (∀ u, s = .word u → Meant op u k) ∧ (op.filter Rw.isLend).length < 6
  | .pick w ts => Fresh op w ∧ 0 < ts.length ∧ (op.filter Rw.isPick).length < 3
  | .back h => Hand op h fun _ => True
  | .look h => Hand op h fun _ => True
  | .change h => Hand op h fun k => k = "write"
  | .or => op.getLast? = some .either
  | .fin => op ≠ []
  | _ => True
def VR : List Rw → List Rw → List Rw → Prop
  | op, [], op' => op = op'
  | op, r :: rs, op' => OkRow op r ∧ VR (opUpd op r) rs op'
theorem VR.app : ∀ {xs ys : List Rw} {op op1 op2 : List Rw}, VR op xs op1 → VR op1 ys op2 → VR op (xs ++ ys) op2
  | [], _, _, _, _, h, h2 => by
    cases h
    exact h2
  | _ :: _, _, _, _, _, h, h2 => ⟨h.1, VR.app h.2 h2⟩
/-! words at different depths differ -/
theorem mkS_inj {a b : List Nat} (h : mkS a = mkS b) : a = b := by
  have := congrArg (fun s : Str => s.cps.toList) h
  exact this
theorem word_ne {one two one' two' j j' : Int} {d : Draw} (ok : d.Ok) (h0 : 0 ≤ j) (h1 : j < 26) (h2 : 0 ≤ j') (h3 : j' < 26) (hne : j ≠ j') : wordM one two j d ≠ wordM one' two' j' d := by
  obtain ⟨st0, st4, sz1, sz12, pl0, pl1, sg0, sg26⟩ := ok
  intro h
  unfold wordM at h
  split at h
  · rw [mul_word (by omega), mul_word (by omega)] at h
    have := congrArg List.length (mkS_inj h)
    rw [List.length_replicate, List.length_replicate] at this
    omega
  · have hl := mkS_inj h
    have hp : d.place.toNat < d.size.toNat := by omega
    have e1 := congrArg (fun l : List Nat => l[d.place.toNat]?) hl
    simp only [List.getElem?_map, List.getElem?_range hp, Option.map_some, Option.some.injEq] at e1
    unfold chM at e1
    rw [if_pos (by omega), if_pos (by omega)] at e1
    omega
theorem wordM_ne_empty {one two j : Int} {d : Draw} (ok : d.Ok) (h0 : 0 ≤ j) (h1 : j ≤ 11) : wordM one two j d ≠ "" := by
  obtain ⟨l, hl, h2, _⟩ := wordM_s (one := one) (two := two) ok h0 h1
  rw [hl]
  intro h
  have e : (mkS l).length = ("" : Str).length := by rw [h]
  rw [mkS_len] at e
  have : ("" : Str).length = 0 := by decide +kernel
  omega
/-- the words of what is open: the j-th named one has a word of depth j -/
def WordsAt (d : Draw) (op : List Rw) : Prop := ∀ (j : Nat) (r : Rw), (op.filter Rw.named)[j]? = some r → ∃ one two, r.word = wordM one two (j : Int) d
theorem fresh_of {d : Draw} (ok : d.Ok) {op : List Rw} (h : WordsAt d op) (hl : (op.filter Rw.named).length ≤ 20) {one two deep : Int} (h0 : ((op.filter Rw.named).length : Int) ≤ deep) (h1 : deep < 26) : Fresh op (wordM one two deep d) := fun q hq hn => by
  have hm : q ∈ op.filter Rw.named := List.mem_filter.mpr ⟨hq, hn⟩
  obtain ⟨j, hj⟩ := List.getElem?_of_mem hm
  obtain ⟨o, t, e⟩ := h j q hj
  have hlt := (List.getElem?_eq_some_iff.mp hj).1
  rw [e]
  exact word_ne ok (by omega) (by omega) (by omega) h1 (by omega)
theorem wordsAt_push {d : Draw} {op : List Rw} {r : Rw} (h : WordsAt d op) (hr : r.named = true → ∃ one two, r.word = wordM one two ((op.filter Rw.named).length : Int) d) : WordsAt d (op ++ [r]) := fun j q hq => by
  rw [List.filter_append] at hq
  by_cases hj : j < (op.filter Rw.named).length
  · rw [List.getElem?_append_left hj] at hq
    exact h j q hq
  · rw [List.getElem?_append_right (by omega)] at hq
    cases hn : r.named with
    | true =>
      rw [List.filter_cons, if_pos hn] at hq
      have hlt := (List.getElem?_eq_some_iff.mp hq).1
      have ej : j - (op.filter Rw.named).length = 0 := by
        have : ([r] : List Rw).length = 1 := rfl
        have h5 : j - (op.filter Rw.named).length < 1 := hlt
        omega
      rw [ej] at hq
      have eq : r = q := Option.some.inj hq
      subst eq
      obtain ⟨o, t, e⟩ := hr hn
      exact ⟨o, t, by rw [e, show (j : Int) = ((op.filter Rw.named).length : Int) by omega]⟩
    | false =>
      rw [List.filter_cons, if_neg (by rw [hn]; decide)] at hq
      cases hq
theorem wordsAt_drop {d : Draw} {op : List Rw} (h : WordsAt d op) : WordsAt d op.dropLast := by
  cases hop : op.reverse with
  | nil =>
    have e : op = [] := List.reverse_eq_nil_iff.mp hop
    subst e
    exact h
  | cons a t =>
    have e : op = t.reverse ++ [a] := by
      have := congrArg List.reverse hop
      rw [List.reverse_reverse, List.reverse_cons] at this
      exact this
    subst e
    rw [List.dropLast_concat]
    intro j r hj
    refine h j r ?_
    rw [List.filter_append, List.getElem?_append_left (List.getElem?_eq_some_iff.mp hj).1]
    exact hj
theorem wordsAt_upd {d : Draw} {op : List Rw} {r : Rw} (h : WordsAt d op) (hr : r.named = true → ∃ one two, r.word = wordM one two ((op.filter Rw.named).length : Int) d) : WordsAt d (opUpd op r) := by
  unfold opUpd
  split
  · exact wordsAt_push h hr
  split
  · exact wordsAt_drop h
  · exact h
theorem lendM_word (one two : Int) (named : List Rw) (d : Draw) : (lendM one two named d).word = wordM one two named.length d := by
  unfold lendM
  split <;> rfl
theorem rowM_word {op : List Rw} {way one two : Int} {d : Draw} (hn : (rowM way one two op d).named = true) : ∃ o t, (rowM way one two op d).word = wordM o t ((op.filter Rw.named).length : Int) d := by
  have hd : (deedM one two ((op.filter Rw.named).filter Rw.isLend)).named = false := by
    have := deedM_not one two ((op.filter Rw.named).filter Rw.isLend)
    generalize deedM one two ((op.filter Rw.named).filter Rw.isLend) = r at *
    cases r <;> simp_all [Rw.opens, Rw.named, Rw.isFin]
  unfold rowM rowN at hn ⊢
  split at hn
  · rename_i h; rw [if_pos h]; exact ⟨one, two, lendM_word _ _ _ _⟩
  rename_i h; rw [if_neg h]
  split at hn
  · rename_i h; rw [if_pos h]; exact ⟨one, two, rfl⟩
  rename_i h; rw [if_neg h]
  split at hn
  · cases hn
  split at hn
  · cases hn
  split at hn
  · cases hn
  split at hn
  · rw [hd] at hn; cases hn
  split at hn
  · cases hn
  rename_i h1 h2 h3 h4 h5
  rw [if_neg h1, if_neg h2, if_neg h3, if_neg h4, if_neg h5]
  exact ⟨one, two, lendM_word _ _ _ _⟩
end BD
namespace BD
open PySem PySem.Spec PyProof.Rows L2 Evl
/-! ### each drawn sheet is one -/
theorem kind_write {x : Int} : kindM x = "write" → True := fun _ => trivial
theorem read_ne_write : ¬ (("read" : Str) = "write") := by decide +kernel
/-- a lend of the law's -/
theorem lendM_ok {one two : Int} {op : List Rw} {d : Draw} (ok : d.Ok) (hw : WordsAt d op) (hf : Few op) (hk : ∀ r ∈ op, RowS r) (h6 : (op.filter Rw.isLend).length < 6) : OkRow op (lendM one two (op.filter Rw.named) d) := by
  have hn := hf.named
  have hfr : Fresh op (wordM one two ((op.filter Rw.named).length : Int) d) := fresh_of ok hw (by omega) (Int.le_refl _) (by omega)
  unfold lendM
  split
  · rename_i h
    have hm : (op.filter Rw.named).getD (two % (op.filter Rw.named).length).toNat .fin ∈ op.filter Rw.named := getD_mem (by
      have := Int.emod_lt_of_pos two h.2
      have := Int.emod_nonneg two (show ((op.filter Rw.named).length : Int) ≠ 0 by omega)
      omega)
    generalize (op.filter Rw.named).getD (two % (op.filter Rw.named).length).toNat .fin = q at *
    have hq := List.mem_filter.mp hm
    refine ⟨hfr, fun u hu => ?_, h6⟩
    cases hu
    refine ⟨q, hq.1, hq.2, rfl, fun hkw hl => ?_⟩
    split at hkw
    · exact absurd hkw read_ne_write
    · rename_i h2
      have hs := hk q hq.1
      cases q with
      | lend a b c =>
        rcases hs.2.1 with hb | hb
        · exact absurd ⟨rfl, hb⟩ h2
        · exact hb
      | _ => cases hl
  · exact ⟨hfr, fun u hu => (by cases hu), h6⟩
theorem deedM_ok {one two : Int} {op hands : List Rw} (hh : hands = (op.filter Rw.named).filter Rw.isLend) (hk : ∀ r ∈ op, RowS r) (hl : 0 < hands.length) : OkRow op (deedM one two hands) := by
  have hm : hands.getD (two % hands.length).toNat .fin ∈ hands := getD_mem (by
    have := Int.emod_lt_of_pos two (show (0 : Int) < hands.length by omega)
    have := Int.emod_nonneg two (show (hands.length : Int) ≠ 0 by omega)
    omega)
  unfold deedM
  generalize hands.getD (two % hands.length).toNat .fin = q at *
  rw [hh] at hm
  have hq2 := List.mem_filter.mp hm
  have hq := List.mem_filter.mp hq2.1
  split
  · exact ⟨q, hq.1, hq2.2, rfl, trivial⟩
  split
  · exact ⟨q, hq.1, hq2.2, rfl, trivial⟩
  split
  · exact ⟨q, hq.1, hq2.2, rfl, trivial⟩
  · rename_i h
    refine ⟨q, hq.1, hq2.2, rfl, ?_⟩
    have hs := hk q hq.1
    have hl2 := hq2.2
    cases q with
    | lend a b c =>
      rcases hs.2.1 with hb | hb
      · exact absurd hb h
      · exact hb
    | _ => cases hl2
theorem getLast_getD {op : List Rw} (h : 0 < op.length) : op.getLast? = some (op.getD (op.length - 1) .fin) := by
  rw [List.getLast?_eq_getElem?, List.getD_eq_getElem?_getD, List.getElem?_eq_getElem (by omega)]
  rfl
theorem rowM_ok {way one two : Int} {op : List Rw} {d : Draw} (ok : d.Ok) (hw : WordsAt d op) (hf : Few op) (hk : ∀ r ∈ op, RowS r) : OkRow op (rowM way one two op d) := by
  have hn := hf.named
  have hnl := named_len op
  unfold rowM
  have hll : ((op.filter Rw.named).filter Rw.isLend).length = (op.filter Rw.isLend).length := by rw [lend_of_named]
  unfold rowN
  split
  · rename_i h
    exact lendM_ok ok hw hf hk (by omega)
  split
  · rename_i h
    refine ⟨fresh_of ok hw (by omega) (Int.le_refl _) (by omega), ?_, by omega⟩
    rw [List.length_map, List.length_range]
    omega
  split
  · trivial
  split
  · trivial
  split
  · rename_i h
    show op.getLast? = some .either
    rw [getLast_getD (by omega)]
    have h2 := h.2.2
    generalize op.getD (op.length - 1) .fin = q at *
    cases q <;> first | rfl | cases h2
  split
  · rename_i h
    exact deedM_ok rfl hk (by omega)
  split
  · rename_i h
    intro z
    rw [z] at h
    exact absurd h (by decide)
  · rename_i h
    refine lendM_ok ok hw hf hk ?_
    cases op with
    | nil => decide
    | cons a b => exact absurd (by show (0 : Int) < ((b.length + 1 : Nat) : Int); omega) h
/-! a gadget -/
theorem fresh_app {op : List Rw} {r : Rw} {w : Str} (h : Fresh op w) (hr : r.named = true → r.word ≠ w) : Fresh (op ++ [r]) w := fun q hq hn => by
  rcases List.mem_append.mp hq with hq | hq
  · exact h q hq hn
  · rcases List.mem_singleton.mp hq with rfl
    exact hr hn
theorem hand_last {op : List Rw} {h k : Str} {s : Src} {p : Str → Prop} (hp : p k) : Hand (op ++ [.lend h k s]) h p := ⟨_, List.mem_append.mpr (.inr List.mem_cons_self), rfl, rfl, hp⟩
theorem hand_app {op : List Rw} {r : Rw} {w : Str} {p : Str → Prop} (h : Hand op w p) : Hand (op ++ [r]) w p := by
  obtain ⟨q, h1, h2⟩ := h
  exact ⟨q, List.mem_append.mpr (.inl h1), h2⟩
theorem meant_last {op : List Rw} {r : Rw} {k : Str} (hn : r.named = true) (hk : k = "write" → r.isLend = true → r.kind = "write") : Meant (op ++ [r]) r.word k := ⟨r, List.mem_append.mpr (.inr List.mem_cons_self), hn, rfl, hk⟩
theorem meant_app {op : List Rw} {r : Rw} {w k : Str} (h : Meant op w k) : Meant (op ++ [r]) w k := by
  obtain ⟨q, h1, h2⟩ := h
  exact ⟨q, List.mem_append.mpr (.inl h1), h2⟩
theorem lends_app (op : List Rw) (r : Rw) : ((op ++ [r]).filter Rw.isLend).length = (op.filter Rw.isLend).length + (if r.isLend = true then 1 else 0) := by
  rw [List.filter_append, List.length_append, List.filter_cons]
  split <;> rfl
theorem picks_app (op : List Rw) (r : Rw) : ((op ++ [r]).filter Rw.isPick).length = (op.filter Rw.isPick).length + (if r.isPick = true then 1 else 0) := by
  rw [List.filter_append, List.length_append, List.filter_cons]
  split <;> rfl
theorem VR.lendT {op op' rs : List Rw} {h k : Str} {n : Int} (f : Fresh op h) (l : (op.filter Rw.isLend).length < 6) (t : VR (op ++ [.lend h k (.thing n)]) rs op') : VR op (.lend h k (.thing n) :: rs) op' := ⟨⟨f, fun u hu => (by cases hu), l⟩, t⟩
theorem VR.lendW {op op' rs : List Rw} {h k u : Str} (f : Fresh op h) (m : Meant op u k) (l : (op.filter Rw.isLend).length < 6) (t : VR (op ++ [.lend h k (.word u)]) rs op') : VR op (.lend h k (.word u) :: rs) op' := ⟨⟨f, fun v hv => (by cases hv; exact m), l⟩, t⟩
theorem VR.pickR {op op' rs : List Rw} {w : Str} {ts : List Int} (f : Fresh op w) (p : 0 < ts.length) (l : (op.filter Rw.isPick).length < 3) (t : VR (op ++ [.pick w ts]) rs op') : VR op (.pick w ts :: rs) op' := ⟨⟨f, p, l⟩, t⟩
theorem VR.againR {op op' rs : List Rw} (t : VR (op ++ [.again]) rs op') : VR op (.again :: rs) op' := ⟨trivial, t⟩
theorem VR.eitherR {op op' rs : List Rw} (t : VR (op ++ [.either]) rs op') : VR op (.either :: rs) op' := ⟨trivial, t⟩
theorem VR.lookR {op op' rs : List Rw} {h : Str} (a : Hand op h fun _ => True) (t : VR op rs op') : VR op (.look h :: rs) op' := ⟨a, t⟩
theorem VR.backR {op op' rs : List Rw} {h : Str} (a : Hand op h fun _ => True) (t : VR op rs op') : VR op (.back h :: rs) op' := ⟨a, t⟩
theorem VR.orR {op op' rs : List Rw} (t : VR (op ++ [.either]) rs op') : VR (op ++ [.either]) (.or :: rs) op' := ⟨by show (op ++ [Rw.either]).getLast? = _; rw [List.getLast?_concat], t⟩
theorem VR.finR {op op' rs : List Rw} {r : Rw} (t : VR op rs op') : VR (op ++ [r]) (.fin :: rs) op' := ⟨(by show op ++ [r] ≠ []; simp), by
  show VR (opUpd (op ++ [r]) .fin) rs op'
  have e : opUpd (op ++ [r]) .fin = op := by
    unfold opUpd
    rw [if_neg (by decide), if_pos (show Rw.fin.isFin = true from rfl), List.dropLast_concat]
  rw [e]
  exact t⟩
theorem VR.nilR {op : List Rw} : VR op [] op := rfl
theorem gad_vr {op : List Rw} {one two t : Int} {a b c : Str} (fa : Fresh op a) (fb : Fresh op b) (fc : Fresh op c) (ab : a ≠ b) (ac : a ≠ c) (bc : b ≠ c) (hl : (op.filter Rw.isLend).length ≤ 2) (hp : (op.filter Rw.isPick).length ≤ 2) : VR op (gadA one two a b c t) op := by
  have ww : ∀ {k : Str}, k = "write" → ("write" : Str) = "write" := fun _ => rfl
  unfold gadA
  split
  · unfold fourM
    split
    · exact VR.lendT fa (by first | omega | (simp only [lends_app, Rw.isLend, if_true, if_false, Bool.false_eq_true]; omega)) (VR.againR (VR.lookR (hand_app (hand_last trivial)) (VR.backR (hand_app (hand_last trivial)) (VR.finR (VR.finR VR.nilR)))))
    split
    · exact VR.lendT fa (by first | omega | (simp only [lends_app, Rw.isLend, if_true, if_false, Bool.false_eq_true]; omega)) (VR.eitherR (VR.backR (hand_app (hand_last trivial)) (VR.orR (VR.lookR (hand_app (hand_last trivial)) (VR.finR (VR.lookR (hand_last trivial) (VR.finR VR.nilR)))))))
    split
    · refine VR.lendT fa (by first | omega | (simp only [lends_app, Rw.isLend, if_true, if_false, Bool.false_eq_true]; omega)) (VR.lendW (fresh_app fb fun _ => ab) (meant_last (r := .lend a "write" (.thing t)) rfl fun _ _ => rfl) (by first | omega | (simp only [lends_app, Rw.isLend, if_true, if_false, Bool.false_eq_true]; omega)) (VR.lendW (fresh_app (fresh_app fc fun _ => ac) fun _ => bc) (meant_last (r := .lend b "write" (.word a)) rfl fun _ _ => rfl) (by first | omega | (simp only [lends_app, Rw.isLend, if_true, if_false, Bool.false_eq_true]; omega)) (VR.backR ?_ (VR.lookR ?_ (VR.finR (VR.finR (VR.finR VR.nilR)))))))
      · exact pick3_s (p := fun w => Hand _ w _) two (hand_app (hand_app (hand_last trivial))) (hand_app (hand_last trivial)) (hand_app (hand_app (hand_last trivial)))
      · exact pick3_s (p := fun w => Hand _ w _) one (hand_last trivial) (hand_last trivial) (hand_app (hand_last trivial))
    · exact VR.lendT fa (by first | omega | (simp only [lends_app, Rw.isLend, if_true, if_false, Bool.false_eq_true]; omega)) (VR.lendW (fresh_app fb fun _ => ab) (meant_last (r := .lend a "write" (.thing t)) rfl fun _ _ => rfl) (by first | omega | (simp only [lends_app, Rw.isLend, if_true, if_false, Bool.false_eq_true]; omega)) (VR.lendT (fresh_app (fresh_app fc fun _ => ac) fun _ => bc) (by first | omega | (simp only [lends_app, Rw.isLend, if_true, if_false, Bool.false_eq_true]; omega)) (VR.againR (VR.backR (hand_app (hand_app (hand_last trivial))) (VR.finR (VR.finR (VR.finR (VR.finR VR.nilR))))))))
  split
  · exact VR.pickR fc (by show 0 < 5; decide) (by first | omega | (simp only [picks_app, Rw.isPick, if_true, if_false, Bool.false_eq_true]; omega)) (VR.lendT (fresh_app fa fun _ => ac.symm) (by first | omega | (simp only [lends_app, Rw.isLend, if_true, if_false, Bool.false_eq_true]; omega)) (VR.lendW (fresh_app (fresh_app fb fun _ => bc.symm) fun _ => ab) (meant_app (meant_last (r := .pick c _) rfl fun _ z => (by cases z))) (by first | omega | (simp only [lends_app, Rw.isLend, if_true, if_false, Bool.false_eq_true]; omega)) (VR.finR (VR.finR (VR.finR VR.nilR)))))
  split
  · refine VR.lendT fa (by first | omega | (simp only [lends_app, Rw.isLend, if_true, if_false, Bool.false_eq_true]; omega)) (VR.lendW (fresh_app fb fun _ => ab) (meant_last (r := .lend a "write" (.thing t)) rfl fun _ _ => rfl) (by first | omega | (simp only [lends_app, Rw.isLend, if_true, if_false, Bool.false_eq_true]; omega)) (VR.eitherR (VR.backR ?_ (VR.orR (VR.lookR (hand_app (hand_last trivial)) (VR.finR (VR.lookR (hand_app (hand_last trivial)) (VR.finR (VR.finR VR.nilR)))))))))
    exact pick2_s (p := fun w => Hand _ w _) two (hand_app (hand_app (hand_last trivial))) (hand_app (hand_last trivial))
  split
  · exact VR.lendT fa (by first | omega | (simp only [lends_app, Rw.isLend, if_true, if_false, Bool.false_eq_true]; omega)) (VR.lendT (fresh_app fb fun _ => ab) (by first | omega | (simp only [lends_app, Rw.isLend, if_true, if_false, Bool.false_eq_true]; omega)) (VR.lendT (fresh_app (fresh_app fc fun _ => ac) fun _ => bc) (by first | omega | (simp only [lends_app, Rw.isLend, if_true, if_false, Bool.false_eq_true]; omega)) (VR.lookR (hand_app (hand_last trivial)) (VR.finR (VR.finR (VR.finR VR.nilR))))))
  split
  · exact VR.lendT fa (by first | omega | (simp only [lends_app, Rw.isLend, if_true, if_false, Bool.false_eq_true]; omega)) (VR.backR (hand_last trivial) (VR.lendW (fresh_app fb fun _ => ab) (meant_last (r := .lend a "write" (.thing t)) rfl fun _ _ => rfl) (by first | omega | (simp only [lends_app, Rw.isLend, if_true, if_false, Bool.false_eq_true]; omega)) (VR.lookR (hand_last trivial) (VR.finR (VR.finR VR.nilR)))))
  · exact VR.pickR fc (by show 0 < 2; decide) (by first | omega | (simp only [picks_app, Rw.isPick, if_true, if_false, Bool.false_eq_true]; omega)) (VR.lendT (fresh_app fa fun _ => ac.symm) (by first | omega | (simp only [lends_app, Rw.isLend, if_true, if_false, Bool.false_eq_true]; omega)) (VR.eitherR (VR.backR (hand_app (hand_last trivial)) (VR.orR (VR.finR (VR.lendW (fresh_app (fresh_app fb fun _ => bc.symm) fun _ => ab) (meant_app (meant_last (r := .pick c _) rfl fun _ z => (by cases z))) (by first | omega | (simp only [lends_app, Rw.isLend, if_true, if_false, Bool.false_eq_true]; omega)) (VR.lookR (hand_app (hand_last trivial)) (VR.finR (VR.finR (VR.finR VR.nilR))))))))))
theorem wordsAt_st {cells : List Int} {d : Draw} {most : Int} {odd : Bool} : ∀ i, WordsAt d (sheetSt cells d most odd i).2
  | 0 => fun j r h => by cases h
  | i + 1 => by
    have ih := wordsAt_st (cells := cells) (d := d) (most := most) (odd := odd) i
    unfold sheetSt stepM
    split
    · exact ih
    · exact wordsAt_upd ih rowM_word
theorem vr_st {cells : List Int} {d : Draw} {most : Int} {odd : Bool} (ok : d.Ok) : ∀ i, VR [] (sheetSt cells d most odd i).1 (sheetSt cells d most odd i).2
  | 0 => rfl
  | i + 1 => by
    have ih := vr_st (cells := cells) (most := most) (odd := odd) ok i
    have hw := wordsAt_st (cells := cells) (d := d) (most := most) (odd := odd) i
    have hf := few_st cells d most odd i
    have hs := (st_s (cells := cells) (most := most) (odd := odd) ok i).2
    have hn := hf.named
    have hnl := named_len (sheetSt cells d most odd i).2
    unfold sheetSt stepM
    split
    · rename_i h
      refine VR.app ih ?_
      exact gad_vr (fresh_of ok hw (by omega) (Int.le_refl _) (by omega)) (fresh_of ok hw (by omega) (by omega) (by omega)) (fresh_of ok hw (by omega) (by omega) (by omega))
        (word_ne ok (by omega) (by omega) (by omega) (by omega) (by omega)) (word_ne ok (by omega) (by omega) (by omega) (by omega) (by omega)) (word_ne ok (by omega) (by omega) (by omega) (by omega) (by omega)) (by omega) (by omega)
    · exact VR.app ih ⟨rowM_ok ok hw hf hs, rfl⟩
theorem vr_fins : ∀ (n : Nat) (op : List Rw), op.length = n → VR op ((List.range n).map fun _ => Rw.fin) []
  | 0, op, h => List.length_eq_zero_iff.mp h
  | n + 1, op, h => by
    have hne : op ≠ [] := fun z => by rw [z] at h; cases h
    rw [List.range_succ_eq_map, List.map_cons, List.map_map]
    rw [← List.dropLast_concat_getLast hne]
    exact VR.finR (vr_fins n op.dropLast (by rw [List.length_dropLast]; omega))
theorem vr_drawn (ns : List Int) (most : Int) : VR [] (drawnM ns most) [] := by
  have h : VR [] (baseM ns most) [] := by
    have := vr_st (cells := cellsM ns most) (most := mostM (wayM ns)) (odd := decide (3 < wayM ns)) (drawM_ok ns) ((cellsM ns most).length / 3)
    exact VR.app this (vr_fins _ _ rfl)
  unfold drawnM
  split
  · exact VR.app (VR.app (VR.app h h) h) h
  · exact h
end BD
namespace BD
open PySem PySem.Spec PyProof.Rows L2 Evl
/-! ### the stack by rows -/
def opL (rs : List Rw) : Nat → List Rw
  | 0 => []
  | i + 1 => match rs[i]? with
    | some r => opUpd (opL rs i) r
    | none => opL rs i
theorem opL_next {rs : List Rw} {i : Nat} {r : Rw} (h : rs[i]? = some r) : opL rs (i + 1) = opUpd (opL rs i) r := by
  show (match rs[i]? with
    | some r => opUpd (opL rs i) r
    | none => opL rs i) = _
  rw [h]
theorem vr_at {op' : List Rw} : ∀ {rs : List Rw} {op : List Rw}, VR op rs op' → ∀ (i : Nat) (r : Rw), rs[i]? = some r → ∃ opi, OkRow opi r ∧ VR (opUpd opi r) (rs.drop (i + 1)) op' ∧ (i = 0 → opi = op)
  | [], _, _, i, r, h => by simp at h
  | a :: rs, op, hv, 0, r, h => by
    have e : a = r := Option.some.inj h
    subst e
    exact ⟨op, hv.1, hv.2, fun _ => rfl⟩
  | a :: rs, op, hv, i + 1, r, h => by
    obtain ⟨opi, h1, h2, _⟩ := vr_at hv.2 i r h
    exact ⟨opi, h1, h2, fun z => by cases z⟩
theorem vr_opL {rs op' : List Rw} (hv : VR [] rs op') : ∀ i, i ≤ rs.length → VR (opL rs i) (rs.drop i) op'
  | 0, _ => hv
  | i + 1, h => by
    have hlt : i < rs.length := h
    have ih := vr_opL hv i (by omega)
    rw [List.drop_eq_getElem_cons hlt] at ih
    rw [opL_next (List.getElem?_eq_getElem hlt)]
    exact ih.2
theorem vr_ok {rs op' : List Rw} (hv : VR [] rs op') {i : Nat} {r : Rw} (h : rs[i]? = some r) : OkRow (opL rs i) r := by
  have hlt := (List.getElem?_eq_some_iff.mp h).1
  have ih := vr_opL hv i (by omega)
  rw [List.drop_eq_getElem_cons hlt, (List.getElem?_eq_some_iff.mp h).2] at ih
  exact ih.1
theorem vr_last {rs op' : List Rw} (hv : VR [] rs op') : opL rs rs.length = op' := by
  have := vr_opL hv rs.length (Nat.le_refl _)
  rw [List.drop_length] at this
  exact this
theorem opL_pr {rs : List Rw} (g : Good rs) : ∀ i, i ≤ rs.length → opL rs i = (pr rs i).reverse.map fun j => rs.getD j .fin
  | 0, _ => rfl
  | i + 1, h => by
    have hlt : i < rs.length := h
    have hg := List.getElem?_eq_getElem hlt
    have ih := opL_pr g i (by omega)
    rw [opL_next hg, pr_next hg, ih]
    unfold opUpd
    split
    · rw [List.reverse_cons, List.map_append]
      congr 1
      show [rs[i]] = [rs.getD i .fin]
      rw [List.getD_eq_getElem?_getD, hg]
      rfl
    split
    · rename_i h1 h2
      cases hp : pr rs i with
      | nil => exact absurd hp (g.fin i _ hg h2)
      | cons a t =>
        rw [List.reverse_cons, List.map_append]
        show (_ ++ [_]).dropLast = _
        rw [List.dropLast_concat]
        rfl
    · rfl
/-! ### where a block ends -/
theorem pr_suffix {rs : List Rw} {i : Nat} : ∀ p, i ∈ pr rs p → ∃ l, pr rs p = l ++ i :: pr rs i
  | 0, h => by cases h
  | p + 1, h => by
    cases hg : rs[p]? with
    | none =>
      have e : pr rs (p + 1) = pr rs p := by
        show (match rs[p]? with
          | some r => if r.opens = true then p :: pr rs p else if r.isFin = true then (pr rs p).tail else pr rs p
          | none => pr rs p) = _
        rw [hg]
      rw [e] at h ⊢
      exact pr_suffix p h
    | some r =>
      rw [pr_next hg] at h ⊢
      split
      · rename_i ho
        rw [if_pos ho] at h
        rcases List.mem_cons.mp h with h | h
        · subst h
          exact ⟨[], rfl⟩
        · obtain ⟨l, hl⟩ := pr_suffix p h
          exact ⟨p :: l, by rw [hl]; rfl⟩
      · rename_i ho
        rw [if_neg ho] at h
        split
        · rename_i hf
          rw [if_pos hf] at h
          obtain ⟨l, hl⟩ := pr_suffix p (List.mem_of_mem_tail h)
          cases l with
          | nil =>
            rw [hl] at h
            have h2 : i ∈ pr rs i := h
            have := (pr_mem i i h2).1
            omega
          | cons a l => exact ⟨l, by rw [hl]; rfl⟩
        · rename_i hf
          rw [if_neg hf] at h
          exact pr_suffix p h
theorem leaves {rs : List Rw} {i : Nat} : ∀ (k p : Nat), p + k = rs.length → i ∈ pr rs p → i ∉ pr rs rs.length → ∃ e, p ≤ e ∧ e < rs.length ∧ i ∈ pr rs e ∧ i ∉ pr rs (e + 1)
  | 0, p, hk, h, hn => by
    rw [← hk] at hn
    exact absurd h hn
  | k + 1, p, hk, h, hn => by
    by_cases h2 : i ∈ pr rs (p + 1)
    · obtain ⟨e, h3, h4, h5, h6⟩ := leaves k (p + 1) (by omega) h2 hn
      exact ⟨e, by omega, h4, h5, h6⟩
    · exact ⟨p, Nat.le_refl _, by omega, h, h2⟩
structure EndOf (rs : List Rw) (i e : Nat) : Prop where
  gt : i < e
  lt : e < rs.length
  fin : ∃ r, rs[e]? = some r ∧ r.isFin = true
  st : pr rs e = i :: pr rs i
  up : endUp rs i rs.length = (e : Int)
theorem end_of {rs : List Rw} (g : Good rs) {i : Nat} {r : Rw} (h : rs[i]? = some r) (ho : r.opens = true) : ∃ e, EndOf rs i e := by
  have hil := (List.getElem?_eq_some_iff.mp h).1
  have h1 : i ∈ pr rs (i + 1) := by
    rw [pr_next h, if_pos ho]
    exact List.mem_cons_self
  have hn : i ∉ pr rs rs.length := by
    rw [g.last]
    exact fun z => by cases z
  obtain ⟨e, h2, h3, h4, h5⟩ := leaves (rs.length - (i + 1)) (i + 1) (by omega) h1 hn
  have hg := List.getElem?_eq_getElem h3
  rw [pr_next hg] at h5
  have hno : ¬ rs[e].opens = true := fun z => by
    rw [if_pos z] at h5
    exact h5 (List.mem_cons_of_mem _ h4)
  rw [if_neg hno] at h5
  have hf : rs[e].isFin = true := by
    cases hf : rs[e].isFin with
    | true => rfl
    | false =>
      rw [hf, if_neg (by decide)] at h5
      exact absurd h4 h5
  rw [if_pos hf] at h5
  obtain ⟨l, hl⟩ := pr_suffix e h4
  cases l with
  | cons a l =>
    rw [hl] at h5
    exact absurd (List.mem_append.mpr (.inr List.mem_cons_self)) h5
  | nil =>
    have hst : pr rs e = i :: pr rs i := hl
    have hhm : hm rs e = (i : Int) := by unfold hm; rw [hst]
    exact ⟨e, by omega, h3, ⟨_, hg, hf⟩, hst, endUp_stay (by rw [finF_at hg, hf, hhm, decide_eq_true rfl]; rfl) (first_end g hg hst) rs.length h3⟩
/-- an end's own opener -/
theorem end_at {rs : List Rw} (g : Good rs) {e : Nat} {r : Rw} (h : rs[e]? = some r) (hf : r.isFin = true) : ∃ (i : Nat) (q : Rw), rs[i]? = some q ∧ q.opens = true ∧ hm rs e = (i : Int) ∧ EndOf rs i e := by
  obtain ⟨i, t, h1, h2, h3, q, hq, ho⟩ := hm_fin g h hf
  have hel := (List.getElem?_eq_some_iff.mp h).1
  have hm' : i ∈ pr rs e := by rw [h1]; exact List.mem_cons_self
  obtain ⟨l, hl⟩ := pr_suffix e hm'
  have hst : pr rs e = i :: pr rs i := by
    cases l with
    | nil => exact hl
    | cons a l =>
      rw [h1] at hl
      have hnd := pr_nodup (rs := rs) e
      rw [h1] at hnd
      injection hl with ha hb
      rw [hb] at hnd
      exact absurd (List.mem_append.mpr (.inr List.mem_cons_self)) (List.nodup_cons.mp hnd).1
  exact ⟨i, q, hq, ho, h2, h3, hel, ⟨r, h, hf⟩, hst, endUp_stay (by rw [finF_at h, hf, h2, decide_eq_true rfl]; rfl) (first_end g h hst) rs.length hel⟩
theorem EndOf.next {rs : List Rw} {i e : Nat} (h : EndOf rs i e) : pr rs (e + 1) = pr rs i := by
  obtain ⟨r, h1, h2⟩ := h.fin
  have ho : r.opens = false := by cases r <;> first | rfl | cases h2
  rw [pr_next h1, if_neg (by rw [ho]; decide), if_pos h2, h.st]
  rfl
theorem head_st {rs : List Rw} {p i : Nat} {t : List Nat} (h : pr rs p = i :: t) : pr rs p = i :: pr rs i := by
  have hm' : i ∈ pr rs p := by rw [h]; exact List.mem_cons_self
  obtain ⟨l, hl⟩ := pr_suffix p hm'
  cases l with
  | nil => exact hl
  | cons a l =>
    rw [h] at hl
    have hnd := pr_nodup (rs := rs) p
    rw [h] at hnd
    injection hl with ha hb
    rw [hb] at hnd
    exact absurd (List.mem_append.mpr (.inr List.mem_cons_self)) (List.nodup_cons.mp hnd).1
theorem hm_head {rs : List Rw} {p : Nat} {i : Nat} (h : hm rs p = (i : Int)) : pr rs p = i :: pr rs i := by
  unfold hm at h
  cases hp : pr rs p with
  | nil => rw [hp] at h; exact absurd h (by show ¬ (-1 : Int) = (i : Int); omega)
  | cons a t =>
    rw [hp] at h
    have e : a = i := by
      have h2 : (a : Int) = (i : Int) := h
      omega
    subst e
    rw [← hp]
    exact head_st hp
theorem opL_eq {rs : List Rw} (g : Good rs) {i j : Nat} (hi : i ≤ rs.length) (hj : j ≤ rs.length) (h : pr rs i = pr rs j) : opL rs i = opL rs j := by
  rw [opL_pr g i hi, opL_pr g j hj, h]
theorem opL_in {rs : List Rw} (g : Good rs) {i p : Nat} {q : Rw} (hp : p ≤ rs.length) (hq : rs[i]? = some q) (h : pr rs p = i :: pr rs i) : opL rs p = opL rs i ++ [q] := by
  have hil := (List.getElem?_eq_some_iff.mp hq).1
  rw [opL_pr g p hp, opL_pr g i (by omega), h, List.reverse_cons, List.map_append]
  congr 1
  show [rs.getD i .fin] = [q]
  rw [List.getD_eq_getElem?_getD, hq]
  rfl
/-! ### a sheet -/
structure Sheet (rs : List Rw) : Prop where
  vr : VR [] rs []
  g : Good rs
  s : ∀ r ∈ rs, RowS r
theorem sheet_drawn (ns : List Int) (most : Int) : Sheet (drawnM ns most) := ⟨vr_drawn ns most, good_drawn ns most, drawn_s ns most⟩
theorem or_home {rs : List Rw} (sh : Sheet rs) {i : Nat} (h : rs[i]? = some .or) : ∃ b : Nat, hm rs i = (b : Int) ∧ pr rs i = b :: pr rs b ∧ rs[b]? = some .either := by
  have ok : (opL rs i).getLast? = some .either := vr_ok sh.vr h
  have hil := (List.getElem?_eq_some_iff.mp h).1
  rw [opL_pr sh.g i (by omega)] at ok
  cases hp : pr rs i with
  | nil => rw [hp] at ok; cases ok
  | cons b t =>
    rw [hp, List.reverse_cons, List.map_append] at ok
    have ok2 : (t.reverse.map (fun j => rs.getD j .fin) ++ [rs.getD b .fin]).getLast? = some .either := ok
    rw [List.getLast?_concat] at ok2
    have hb := (pr_mem i b (by rw [hp]; exact List.mem_cons_self)).1
    have hbl := List.getElem?_eq_getElem (show b < rs.length by omega)
    refine ⟨b, by unfold hm; rw [hp], ?_, ?_⟩
    · rw [← hp]
      exact head_st hp
    · rw [List.getD_eq_getElem?_getD, hbl] at ok2
      rw [hbl]
      exact ok2
end BD
namespace BD
open PySem PySem.Spec PyProof.Rows L2 Evl
local macro_rules | `(tactic| walk_at "ev") => `(tactic| first
  | ((with_reducible apply ev_var) ; rfl)
  | with_reducible exact ev_c
  | ((with_reducible apply ev_I0) <;> walk_at "ev")
  | ((with_reducible apply ev_e9) <;> walk_at "ev")
  | ((with_reducible apply ev_I) <;> walk_at "ev")
  | ((with_reducible apply ev_eq) <;> walk_at "ev")
  | ((with_reducible apply ev_ne) <;> walk_at "ev")
  | ((with_reducible apply ev_neg) <;> walk_at "ev")
  | ((with_reducible apply ev_ixN) <;> walk_at "ev")
  | ((with_reducible apply ev_ixL) <;> walk_at "ev")
  | ((with_reducible apply ev_inN) <;> walk_at "ev")
  | ((with_reducible apply ev_inT) <;> walk_at "ev")
  | ((with_reducible apply ev_ixT) <;> walk_at "ev")
  | ((with_reducible apply ev_ixS) <;> walk_at "ev")
  | ((with_reducible apply ev_len') <;> walk_at "ev")
  | ((with_reducible apply et_test) <;> walk_at "ev")
  | ((with_reducible apply et_and) <;> walk_at "ev")
  | ((with_reducible apply et_or) <;> walk_at "ev")
  | ((with_reducible apply et_not) <;> walk_at "ev")
  | ((with_reducible apply et_B) <;> walk_at "ev")
  | ((with_reducible apply el_lst) <;> walk_at "ev")
  | ((with_reducible apply eu_tup) <;> walk_at "ev")
  | ((with_reducible apply ea_cons) <;> walk_at "ev")
  | with_reducible exact ea_nil
  | with_reducible assumption
  | ((with_reducible apply ex_l' ; assumption) ; walk_at "ex")
  | ((with_reducible apply ex_t' ; assumption) ; walk_at "ex")
  | (intro _ ; walk_at "ev")
  | (with_reducible first | exact atI_hd | exact at_kind | exact at2s | exact at3s | exact at3i)
  | (first | exact rfl | exact Nat.le_of_ble_eq_true rfl | exact ⟨by decide, by decide⟩ | decide | exact Or.inl ⟨by omega, by omega⟩ | exact Or.inr ⟨by omega, by omega⟩ | omega)
  | skip)
local macro_rules | `(tactic| walk_at "ex") => `(tactic| first
  | assumption
  | exact Ex.refl _
  | (refine' Ex.trans ?_ (by assumption) ; walk_at "ex"))
local macro_rules | `(tactic| walk_at "row") => `(tactic| first
  | (with_reducible exact er_nil)
  | ((with_reducible apply er_cons) <;> walk_at "row")
  | (((with_reducible apply er_var) ; rfl) ; walk_at "isrow")
  | (((with_reducible apply elr_var) ; rfl) ; walk_at "isrow")
  | ((with_reducible apply elr_cat) <;> walk_at "row")
  | ((with_reducible apply elr_lst) <;> walk_at "row")
  | ((with_reducible apply er_fin) <;> walk_at "ev")
  | ((with_reducible apply er_lendT) <;> walk_at "ev")
  | ((with_reducible apply er_lendW) <;> walk_at "ev")
  | ((with_reducible apply er_pick) <;> walk_at "ev")
  | ((with_reducible apply er_either) <;> walk_at "ev")
  | ((with_reducible apply er_or) <;> walk_at "ev")
  | ((with_reducible apply er_again) <;> walk_at "ev")
  | ((with_reducible apply er_back) <;> walk_at "ev")
  | ((with_reducible apply er_look) <;> walk_at "ev")
  | ((with_reducible apply er_change) <;> walk_at "ev")
  | exact Nat.le_of_ble_eq_true rfl
  | skip)
local macro_rules | `(tactic| walk_at "isrow") => `(tactic| first
  | assumption
  | (refine IsRow.up ?_ (by assumption) ; walk_at "ex")
  | (refine LRows.up ?_ (by assumption) ; walk_at "ex"))

local macro_rules | `(tactic| walk_at "ev") => `(tactic| (((with_reducible apply ev_tag) ; rfl) ; walk_at "isrow"))
abbrev s_opens : Stmt := topS 2
theorem sc_opens : FnScope ["row"] ["row"] (defScope s_opens) := ⟨rfl, rfl, rfl, by decide +kernel, rfl, by decide +kernel, by decide +kernel⟩
abbrev s_Blocks_init : Stmt := inClass (topS 3) 0
theorem sc_Blocks_init : FnScope ["self", "rows", "opened", "at", "row", "home"] ["self", "rows"] (defScope s_Blocks_init) := ⟨rfl, rfl, rfl, by decide +kernel, rfl, by decide +kernel, by decide +kernel⟩
/-- a class whose __init__ keeps a promise -/
structure HasC (P : Program) (w : World) (K : PySem.W.Frag) (mg : Str → Option Value) (base : Heap) (x : Str) (C : Addr) (k : Nat) (ps : List Str) (sp : Sp) : Prop where
  ex : ∃ f fd, FnOk P w K mg base CX0 k f fd ps sp ∧ Mk K C f ∧ mg x = some (.ref C) ∧ Binds K fd ps []
theorem pe_cls {X : Cx} {x : Str} {C : Addr} {k : Nat} {ps : List Str} {sp : Sp} {e : Expr} {es : List Expr} {p pos : Pos} {t : TA} (h : HasC X.prog X.w X.K X.mg X.base x C k ps sp) (hr : Room (k + 1) X.A) (hg : Gl X x) (ha : PA X (e :: es) t)
    (hdb : (x == ("__debug__" : Str)) = false := by decide) (he : starEach (e :: es) X.env = (false, eval e X.env) :: starEach es X.env := by rfl) (hpl : (backTo pos (starEach es X.env)).any (·.1) = false := by rfl) :
    PE X (.Call (.Name x p) (e :: es) [] pos) (tMake C sp [] E0 t) := by
  obtain ⟨f, fd, F, M, m, b⟩ := h.ex
  exact pe_make M F hr hg m b .nil pass0 ha hdb he hpl
/-- what the class is -/
structure BlkC (K : PySem.W.Frag) (C : Addr) : Prop where
  cl : Cls K C
  nA : NoAttr K C "around"
  nC : NoAttr K C "closing"
  nF : NoAttr K C "firsts"
def flds (pa pc pf : Addr) : List (Str × V) := putF "firsts" (.ref pf) (putF "closing" (.ref pc) (putF "around" (.ref pa) []))
theorem neAC : ¬ (("around" : Str) = "closing") := by decide +kernel
theorem neAF : ¬ (("around" : Str) = "firsts") := by decide +kernel
theorem neCF : ¬ (("closing" : Str) = "firsts") := by decide +kernel
theorem flds_a (pa pc pf : Addr) : (flds pa pc pf).lookup ("around" : Str) = some (.ref pa) := by
  unfold flds
  rw [lookup_putF, if_neg neAF, lookup_putF, if_neg neAC, lookup_putF, if_pos rfl]
theorem flds_c (pa pc pf : Addr) : (flds pa pc pf).lookup ("closing" : Str) = some (.ref pc) := by
  unfold flds
  rw [lookup_putF, if_neg neCF, lookup_putF, if_pos rfl]
theorem flds_f (pa pc pf : Addr) : (flds pa pc pf).lookup ("firsts" : Str) = some (.ref pf) := by
  unfold flds
  rw [lookup_putF, if_pos rfl]
theorem putF_len (f : Str) (v : V) : ∀ fs : List (Str × V), (putF f v fs).length ≤ fs.length + 1
  | [] => Nat.le_refl _
  | (g, x) :: r => by
    show (if g = f then (g, v) :: r else (g, x) :: putF f v r).length ≤ _
    split
    · rw [List.length_cons, List.length_cons]; omega
    · have := putF_len f v r
      rw [List.length_cons, List.length_cons]; omega
def OrOk (rs : List Rw) : Prop := ∀ i, rs[i]? = some .or → ∃ b : Nat, hm rs i = (b : Int) ∧ rs[b]? = some .either
/-- what the first branches' dict holds of the rows below i -/
structure Firsts (Hb : Hp) (rs : List Rw) (pa pc po : Addr) (i : Nat) (kvs : List (Key × V)) (H : Hp) : Prop where
  at_ : ∀ a : Nat, a < i → rs[a]? = some .either → ∃ q, valV kvs (Sum.inl (a : Int)) = some (.ref q) ∧ H q = some (.lst (brV rs a i)) ∧ Hb q = none ∧ q ≠ pa ∧ q ≠ pc ∧ q ≠ po
  inj : ∀ (a b : Nat) q, valV kvs (Sum.inl (a : Int)) = some (.ref q) → valV kvs (Sum.inl (b : Int)) = some (.ref q) → a = b
  low : ∀ (a : Nat) v, valV kvs (Sum.inl (a : Int)) = some v → a < i ∧ rs[a]? = some .either
  len : kvs.length ≤ i
theorem Firsts.skip {Hb : Hp} {rs : List Rw} {pa pc po : Addr} {i : Nat} {kvs : List (Key × V)} {H H' : Hp} (F : Firsts Hb rs pa pc po i kvs H) {r : Rw} (hr : rs[i]? = some r) (no : r.isOr = false) (ne : r.isEither = false)
    (k : ∀ q xs, q ≠ pa → q ≠ pc → q ≠ po → H q = some (.lst xs) → H' q = some (.lst xs)) : Firsts Hb rs pa pc po (i + 1) kvs H' where
  at_ := fun a h1 h2 => by
    have hai : a < i := by
      rcases Nat.lt_or_ge a i with z | z
      · exact z
      · have e : a = i := by omega
        subst e
        rw [hr] at h2
        cases h2
        cases ne
    obtain ⟨q, q1, q2, q3, q4, q5, q6⟩ := F.at_ a hai h2
    refine ⟨q, q1, ?_, q3, q4, q5, q6⟩
    rw [brV_no (by rw [orF_at hr, no, Bool.and_false])]
    exact k q _ q4 q5 q6 q2
  inj := F.inj
  low := fun a v h => ⟨by have := (F.low a v h).1; omega, (F.low a v h).2⟩
  len := by have := F.len; omega
theorem Firsts.new {Hb : Hp} {rs : List Rw} {pa pc po : Addr} {i : Nat} {kvs : List (Key × V)} {H H' : Hp} (F : Firsts Hb rs pa pc po i kvs H) (hr : rs[i]? = some .either) {q0 : Addr} (n0 : H q0 = none) (nb : Hb q0 = none) (na : q0 ≠ pa) (nc : q0 ≠ pc) (np : q0 ≠ po)
    (h0 : H' q0 = some (.lst [.int ((i : Int) + 1)])) (k : ∀ q xs, H q = some (.lst xs) → H' q = some (.lst xs)) : Firsts Hb rs pa pc po (i + 1) (putK kvs (Sum.inl (i : Int)) (.ref q0)) H' where
  at_ := fun a h1 h2 => by
    by_cases e : a = i
    · subst e
      refine ⟨q0, by rw [valV_put, if_pos rfl], ?_, nb, na, nc, np⟩
      rw [brV_low _ _ _ (Nat.le_refl _)]
      exact h0
    · obtain ⟨q, q1, q2, q3⟩ := F.at_ a (by omega) h2
      refine ⟨q, ?_, ?_, q3⟩
      · rw [valV_put, if_neg (fun z => e (by have := Sum.inl.inj z; omega))]
        exact q1
      · rw [brV_no (by rw [orF_at hr]; exact Bool.and_false _)]
        exact k q _ q2
  inj := fun a b q h1 h2 => by
    rw [valV_put] at h1 h2
    have old : ∀ c : Nat, c ≠ i → valV kvs (Sum.inl (c : Int)) = some (.ref q0) → False := fun c _ hc => by
      obtain ⟨l1, l2⟩ := F.low c _ hc
      obtain ⟨q', q1, q2, _⟩ := F.at_ c l1 l2
      rw [hc] at q1
      cases q1
      rw [n0] at q2
      cases q2
    by_cases ea : a = i
    · by_cases eb : b = i
      · rw [ea, eb]
      · rw [if_pos (by rw [ea])] at h1
        rw [if_neg (fun z => eb (by have := Sum.inl.inj z; omega))] at h2
        cases h1
        exact (old b eb h2).elim
    · rw [if_neg (fun z => ea (by have := Sum.inl.inj z; omega))] at h1
      by_cases eb : b = i
      · rw [if_pos (by rw [eb])] at h2
        cases h2
        exact (old a ea h1).elim
      · rw [if_neg (fun z => eb (by have := Sum.inl.inj z; omega))] at h2
        exact F.inj a b q h1 h2
  low := fun a v h => by
    rw [valV_put] at h
    by_cases e : a = i
    · rw [e]
      exact ⟨by omega, hr⟩
    · rw [if_neg (fun z => e (by have := Sum.inl.inj z; omega))] at h
      have := F.low a v h
      exact ⟨by omega, this.2⟩
  len := by
    have := length_putK kvs (Sum.inl (i : Int)) (.ref q0)
    have := F.len
    omega
theorem Firsts.or {Hb : Hp} {rs : List Rw} {pa pc po : Addr} {i : Nat} {kvs : List (Key × V)} {H H' : Hp} (F : Firsts Hb rs pa pc po i kvs H) (hr : rs[i]? = some .or) {b : Nat} (hb : hm rs i = (b : Int)) {q0 : Addr} (hq : valV kvs (Sum.inl (b : Int)) = some (.ref q0))
    (h0 : H' q0 = some (.lst (brV rs b (i + 1)))) (k : ∀ q xs, q ≠ q0 → H q = some (.lst xs) → H' q = some (.lst xs)) : Firsts Hb rs pa pc po (i + 1) kvs H' where
  at_ := fun a h1 h2 => by
    have hai : a < i := by
      rcases Nat.lt_or_ge a i with z | z
      · exact z
      · have e : a = i := by omega
        subst e
        rw [hr] at h2
        cases h2
    obtain ⟨q, q1, q2, q3⟩ := F.at_ a hai h2
    by_cases e : a = b
    · subst e
      rw [hq] at q1
      cases q1
      exact ⟨q0, hq, h0, q3⟩
    · refine ⟨q, q1, ?_, q3⟩
      rw [brV_no (by rw [orF_at hr, hb, decide_eq_false (by omega)]; rfl)]
      refine k q _ (fun z => e ?_) q2
      subst z
      exact F.inj a b q q1 hq
  inj := F.inj
  low := fun a v h => ⟨by have := (F.low a v h).1; omega, (F.low a v h).2⟩
  len := by have := F.len; omega
/-- the blocks of a sheet, read off -/
def BlkAt (C : Addr) (rs : List Rw) (Hb : Hp) (x : Addr) (H : Hp) : Prop := ∃ dx pa pc pf kvs, H x = some (.ins C dx (flds pa pc pf)) ∧ H pa = some (.lst (homesV rs rs.length)) ∧ H pc = some (.lst (endsV rs rs.length)) ∧ H pf = some (.dK kvs) ∧ Hb pa = none ∧ Hb pc = none ∧
  ∀ a : Nat, rs[a]? = some .either → ∃ q, valV kvs (Sum.inl (a : Int)) = some (.ref q) ∧ H q = some (.lst (brV rs a rs.length)) ∧ Hb q = none
theorem BlkAt.up {C : Addr} {rs : List Rw} {Hb : Hp} {x : Addr} {H H' : Hp} (e : Ex H H') (h : BlkAt C rs Hb x H) : BlkAt C rs Hb x H' := by
  obtain ⟨dx, pa, pc, pf, kvs, h1, h2, h3, h4, h6, h7, h5⟩ := h
  exact ⟨dx, pa, pc, pf, kvs, e _ _ h1, e _ _ h2, e _ _ h3, e _ _ h4, h6, h7, fun a ha => by
    obtain ⟨q, q1, q2, q3⟩ := h5 a ha
    exact ⟨q, q1, e _ _ q2, q3⟩⟩
section
variable {P : Program} {w : World} {K : PySem.W.Frag} {mg : Str → Option Value} {base : Heap}
def spOpens : Sp := fun vs H Q _ => ∃ (x : V) (r : Rw), vs = [x] ∧ IsRow H x r ∧ RetV (.bl r.opens) H Q
theorem ok_opens (D : Dn K mg "opens" s_opens ["row"]) {a_OPENERS : Addr} (g_OPENERS : mg "OPENERS" = some (.ref a_OPENERS)) (hOP : ∀ H, SqT K H a_OPENERS [.str "lend", .str "pick", .str "either", .str "again"]) : Has P w K mg base "opens" 1 ["row"] spOpens := by
  refine D.ok sc_opens (fun vs H Q E h => ?_) (fun f cdv A outer s H vs Q E hr h => ?_)
  · obtain ⟨x, r, rfl, _⟩ := h
    rfl
  · obtain ⟨x, r, rfl, hX, q⟩ := h
    refine ⟨_, (pss_one (ps_ret (pe_cmpR (show OpR _ _ (rIn K false) from op_in_seq) (pe_ix (show IxR _ (rIxT K) from ix_tup) (pv 0) pe_int (fun _ _ => rfl)) (pe_glob (v := .ref a_OPENERS) rfl g_OPENERS rfl) (by rfl)))), ?_⟩
    refine s_ret (v := .bl r.opens) ?_ (fun H2 e2 => q H2 e2)
    rw [← tag_opens]
    refine ev_inT ?_ ev_c (hOP H) rfl rfl
    walk_at "ev"
theorem ev_opens {x : V} {r : Rw} {ta : TA} {σ : L2.St} {H : Hp} {E : XK} (h : EvA ta σ H [x]) (hX : IsRow H x r) : Ev (tCall spOpens [] E ta) σ H (.bl r.opens) :=
  ev_call h fun H1 e Q q E => ⟨x, r, rfl, hX.up e, q⟩
/-! ### Evl for fields and dicts -/
variable {σ : L2.St} {H H' : Hp} {ta tb te tv : TE} {D : Ends} {tz : TS} {v : V} {C : Addr}
theorem ev_fld {p dx : Addr} {fs : List (Str × V)} {f : Str} (h : Ev ta σ H (.ref p)) (hp : H p = some (.ins C dx fs)) (cl : Cls K C) (na : NoAttr K C f) (l : fs.lookup f = some v) : Ev (tFld K ta f) σ H v := fun H1 e Q q =>
  h H1 e _ fun H2 e2 => ⟨p, C, dx, fs, v, rfl, e2 _ _ (e _ _ hp), cl, na, l, q H2 e2⟩
theorem q_fldL {p dx : Addr} {fs : List (Str × V)} {f : Str} {xs : List V} (hp : H p = some (.ins C dx fs)) (cl : Cls K C) (na : NoAttr K C f) (few : fs.length < 1000) (h : Ev ta σ H (.ref p)) (hv : EvL tv σ H xs)
    (k : ∀ q H1, H q = none → Ex H H1 → H1 q = some (.lst xs) → tz D σ (upd H1 p (.ins C dx (putF f (.ref q) fs)))) : tSeq (sFld K ta tv f) tz D σ H := hv H (Ex.refl H) _ fun q H1 hq e1 h1 =>
  h H1 e1 _ fun H2 e2 => ⟨p, C, dx, fs, rfl, e2 _ _ (e1 _ _ hp), cl, na, few, k q H2 hq (e1.trans e2) (e2 _ _ h1)⟩
theorem q_fldD {p dx : Addr} {fs : List (Str × V)} {f : Str} (hp : H p = some (.ins C dx fs)) (cl : Cls K C) (na : NoAttr K C f) (few : fs.length < 1000) (h : Ev ta σ H (.ref p))
    (k : ∀ q H1, H q = none → Ex H H1 → H1 q = some (.dK []) → tz D σ (upd H1 p (.ins C dx (putF f (.ref q) fs)))) : tSeq (sFld K ta tDNewK f) tz D σ H := fun q hq =>
  h _ (Ex.new hq) _ fun H2 e2 => ⟨p, C, dx, fs, rfl, e2 _ _ (Ex.new hq _ _ hp), cl, na, few, k q H2 hq ((Ex.new hq).trans e2) (e2 _ _ upd_same)⟩
theorem ev_dget {d : Addr} {kvs : List (Key × V)} {i : Int} (h : Ev ta σ H (.ref d)) (hd : H d = some (.dK kvs)) (hi : Ev tb σ H (.int i)) (hv : valV kvs (Sum.inl i) = some v) : Ev (tDGet ta tb) σ H v := fun H1 e Q q =>
  h H1 e _ fun H2 e2 => hi H2 (e.trans e2) _ fun H3 e3 => ⟨d, v, rfl, by
    have := DGet.k (k := Sum.inl i) (e3 _ _ (e2 _ _ (e _ _ hd)))
    rw [hv] at this
    exact this, q H3 (e2.trans e3)⟩
theorem s_dputL {d : Addr} {kvs : List (Key × V)} {i : Int} {xs : List V} (hd : H d = some (.dK kvs)) (hl : kvs.length < 100000) (h : Ev ta σ H (.ref d)) (hi : Ev tb σ H (.int i)) (hv : EvL tv σ H xs)
    (k : ∀ q H1, H q = none → Ex H H1 → H1 q = some (.lst xs) → D.nx σ (upd H1 d (.dK (putK kvs (Sum.inl i) (.ref q))))) : sDPut ta tb tv D σ H := hv H (Ex.refl H) _ fun q H1 hq e1 h1 =>
  h H1 e1 _ fun H2 e2 => hi H2 (e1.trans e2) _ fun H3 e3 => ⟨d, _, rfl, DPut.k (k := Sum.inl i) (e3 _ _ (e2 _ _ (e1 _ _ hd))) (sz_lt hl), k q H3 hq (e1.trans (e2.trans e3)) (e3 _ _ (e2 _ _ h1))⟩
/-- xs[ys.pop()] = e -/
theorem s_setPop {l m : Addr} {xs ys : List V} {j : Nat} (hl : H l = some (.lst xs)) (hm' : H m = some (.lst ys)) (hne : l ≠ m) (h : Ev te σ H v) (ho : Ev ta σ H (.ref l)) (hi : Ev tb σ H (.ref m)) (hy : ys[ys.length - 1]? = some (.int (j : Int))) (hj : j < xs.length)
    (k : ∀ H1, Ex H H1 → D.nx σ (upd (upd H1 m (.lst ys.dropLast)) l (.lst (xs.set j v)))) : tAsg te (gSub ta (tBM0 K "list" rPop tb) rSetL) D σ H := h H (Ex.refl H) _ fun H1 e1 => ho H1 e1 _ fun H2 e2 => hi H2 (e1.trans e2) _ fun H3 e3 =>
  have e := e1.trans (e2.trans e3)
  ⟨Or.inl ⟨rfl, ys, sq_of (e _ _ hm')⟩, m, ys, _, rfl, rfl, e _ _ hm', hy, l, xs, (j : Int), j, rfl, rfl, by rw [upd_ne hne]; exact e _ _ hl, ixN_nat hj, k H3 e⟩
end
theorem s_forE {K : PySem.W.Frag} {D : Ends} {σ : L2.St} {H : Hp} {tl : TE} {tu : TS} {a : Addr} {xs : List V} {j k : Nat} (h : Ev tl σ H (.ref a)) (hx : SqL K H a xs) (Pv : Nat → L2.St → Hp → Prop) (h0 : ∀ H1, Ex H H1 → Pv 0 σ H1) (hl : ∀ i σ' H', i ≤ xs.length → Pv i σ' H' → SqL K H' a xs)
    (hs : ∀ (i : Nat) x σ' H' H2, xs[i]? = some x → Pv i σ' H' → Ex H' H2 → tu { D with nx := Pv (i + 1), ct := Pv (i + 1), bk := D.nx } ((σ'.set j (some (.int (i : Int)))).set k (some x)) H2) (hd : ∀ σ' H', Pv xs.length σ' H' → D.nx σ' H') :
    tFor (iEnum K (tCons tl tNil)) (gTup K 2 (gCons (gName j) (gCons (gName k) gNil))) tu D σ H :=
  h H (Ex.refl H) _ fun H1 e => ⟨a, xs, rfl, ex_l e hx, for_it walk_enum Pv (h0 H1 e) hl (fun i v σ' H' H2 hi p y => by
    obtain ⟨T, x1, x2, rfl, hT, rfl, e1, e2⟩ := y
    cases e1
    exact ⟨T, [.int (i : Int), x2], rfl, SqT.of upd_same, rfl, _, _, rfl, _, _, rfl, rfl, hs i x2 σ' H' _ e2 p (Ex.new hT)⟩) hd⟩
/-! ### the blocks are read off -/
section
variable {P : Program} {w : World} {K : PySem.W.Frag} {mg : Str → Option Value} {base : Heap} {C : Addr}
def spBInit (K : PySem.W.Frag) (C : Addr) : Sp := fun vs H Q _ => ∃ (p dx a : Addr) (Hb : Hp) (rv : List V) (rs : List Rw), vs = [.ref p, .ref a] ∧ H = upd (upd Hb dx (.own p)) p (.ins C dx []) ∧ Hb p = none ∧ Hb dx = none ∧ dx ≠ p ∧ SqL K Hb a rv ∧ Rows Hb rv rs ∧ Good rs ∧ OrOk rs ∧ rs.length ≤ 40000 ∧
  ∀ H2, Ex Hb H2 → BlkAt C rs Hb p H2 → Q .non H2
/-- while the rows are gone through -/
structure BlkI (C : Addr) (Hb : Hp) (rs : List Rw) (p dx pa pc pf po : Addr) (i : Nat) (H : Hp) : Prop where
  ex : Ex Hb H
  ob : H p = some (.ins C dx (flds pa pc pf))
  ar : H pa = some (.lst (homesV rs i))
  cl : H pc = some (.lst (endsV rs i))
  op : H po = some (.lst (stV rs i))
  fi : ∃ kvs, H pf = some (.dK kvs) ∧ Firsts Hb rs pa pc po i kvs H
theorem stV_top (rs : List Rw) (i : Nat) : (stV rs i)[(stV rs i).length - 1]? = some (.int (hm rs i)) := by
  unfold stV hm
  cases pr rs i with
  | nil => rfl
  | cons a t =>
    rw [List.reverse_cons, List.map_append]
    show ((V.int (-1) :: t.reverse.map fun (n : Nat) => V.int (n : Int)) ++ [V.int (a : Int)])[((V.int (-1) :: t.reverse.map fun (n : Nat) => V.int (n : Int)) ++ [V.int (a : Int)]).length - 1]? = _
    rw [List.length_append]
    exact List.getElem?_concat_length
theorem ok_binit {f : Addr} {fd : FuncData} (F : Fun K "__init__" "Blocks.__init__" s_Blocks_init f fd) (T : Blt mg) (B : BlkC K C) (h_opens : Has P w K mg base "opens" 1 ["row"] spOpens) : FnOk P w K mg base CX0 2 f fd ["self", "rows"] (spBInit K C) := by
  refine F.ok sc_Blocks_init (fun vs H Q E h => ?_) (fun cdv A outer s H vs Q E hr h => ?_)
  · obtain ⟨p, dx, a, Hb, rv, rs, rfl, _⟩ := h
    rfl
  · obtain ⟨p, dx, a, Hb, rv, rs, rfl, hH, hbp, hbd, hdp, hSb, hRb, g, ok, hlen, q⟩ := h
    have hlr := hRb.len
    have eb : Ex Hb H := fun x o hx => by rw [hH, upd_ne (ne_of_none hx hbp), upd_ne (ne_of_none hx hbd)]; exact hx
    have hp0 : H p = some (.ins C dx []) := by rw [hH, upd_same]
    clear hH
    have hrT : Room 1 _ := hr
    refine ⟨_, (pss_cons (ps_fld (pv 0) (pe_lst pa_nil) rfl) (pss_cons (ps_fld (pv 0) (pe_op op_rep (pe_lst (pa_cons (pe_un un_neg pe_int) pa_nil)) (pe_callB (show CallR _ _ (rLenS K) from call_len_seq) (by rfl) T.len_ (by decide +kernel) (pa_cons (pv 1) pa_nil))) rfl) (pss_cons (ps_fld (pv 0) pe_dnewK rfl) (pss_cons (ps_set (i := 2) sc_Blocks_init.nd rfl (Or.inl rfl) (pe_lst (pa_cons (pe_un un_neg pe_int) pa_nil))) (pss_one (ps_for PassesOwn.never rfl (pi_enum (by rfl) T.enumerate_ (pa_cons (pv 1) pa_nil)) (pg_tup rfl (pgs_cons (pg_name (i := 3) sc_Blocks_init.nd rfl (Or.inl rfl)) (pgs_cons (pg_name (i := 4) sc_Blocks_init.nd rfl (Or.inl rfl)) pgs_nil))) (pss_cons (ps_set (i := 5) sc_Blocks_init.nd rfl (Or.inl rfl) (pe_ix (show IxR _ (rIxL K) from ix_list) (pv 2) (pe_un un_neg pe_int) (fun _ _ => rfl))) (pss_cons (ps_expr (pe_bm PySem.F.plainAttrs_list PySem.F.slot_list_append PySem.F.type_list_append mt_append (pe_fld (pv 0) rfl) (pa_cons (pv 5) pa_nil))) (pss_cons (ps_if (pt_val (pe_own h_opens (hr.mono (by decide)) (by rfl) (pa_cons (pv 4) pa_nil))) (pss_one (ps_expr (pe_bm PySem.F.plainAttrs_list PySem.F.slot_list_append PySem.F.type_list_append mt_append (pv 2) (pa_cons (pv 3) pa_nil)))) pss_nil) (pss_one (ps_if (pt_cmpR op_eq (pe_ix (show IxR _ (rIxT K) from ix_tup) (pv 4) pe_int (fun _ _ => rfl)) pe_str (nomark _)) (pss_one (ps_dput (hu_of hr) (pe_fld (pv 0) rfl) (pv 3) (pe_lst (pa_cons (pe_op op_add (pv 3) pe_int) pa_nil)) rfl)) (pss_one (ps_if (pt_cmpR op_eq (pe_ix (show IxR _ (rIxT K) from ix_tup) (pv 4) pe_int (fun _ _ => rfl)) pe_str (nomark _)) (pss_one (ps_expr (pe_bm PySem.F.plainAttrs_list PySem.F.slot_list_append PySem.F.type_list_append mt_append (pe_dget (hu_of hr) (pe_fld (pv 0) rfl) (pv 5) (fun _ _ => rfl)) (pa_cons (pe_op op_add (pv 3) pe_int) pa_nil)))) (pss_one (ps_if (pt_cmpR op_eq (pe_ix (show IxR _ (rIxT K) from ix_tup) (pv 4) pe_int (fun _ _ => rfl)) pe_str (nomark _)) (pss_one (ps_asg (pv 3) (pg_sub (pe_fld (pv 0) rfl) (pe_bm0 PySem.F.plainAttrs_list PySem.F.slot_list_pop PySem.F.type_list_pop mt_pop (pv 2)) set_list))) pss_nil))))))))))))))), ?_⟩
    show (_ : L2.TS) _ [_, _, _, _, _, _] _
    refine q_fldL (xs := []) hp0 B.cl B.nA (by decide) (ev_var rfl) ?_ (fun pa H1 hpa e1 h1 => ?_)
    · walk_at "ev"
    have hbpa : Hb pa = none := fresh_back eb hpa
    have npa : pa ≠ p := (ne_of_none hp0 hpa).symm
    have x1 : Ex Hb (upd H1 p (.ins C dx (putF "around" (.ref pa) []))) := Ex.mut (eb.trans e1) hbp
    have p1 : (upd H1 p (.ins C dx (putF "around" (.ref pa) []))) p = some (.ins C dx (putF "around" (.ref pa) [])) := upd_same
    have a1 : (upd H1 p (.ins C dx (putF "around" (.ref pa) []))) pa = some (.lst []) := by rw [upd_ne npa]; exact h1
    generalize upd H1 p (.ins C dx (putF "around" (.ref pa) [])) = G1 at *
    clear e1 h1 hpa hp0 eb
    show (_ : L2.TS) _ [_, _, _, _, _, _] _
    refine q_fldL (xs := endsV rs 0) p1 B.cl B.nC (by have := putF_len "around" (.ref pa) []; show _ < 1000; simp at this ⊢; omega) (ev_var rfl) ?_ (fun pc H2 hpc e2 h2 => ?_)
    · rw [endsV_zero, ← flat_rep, ← hlr]
      have e : rv.length = ((rv.length : Nat) : Int).toNat := by omega
      rw [e]
      have hS1 : SqL K G1 a rv := ex_l x1 hSb
      refine el_rep ?_ ?_ (by omega) (by omega) (by show 1 * _ ≤ _; omega)
      · walk_at "ev"
      · walk_at "ev"
    have hbpc : Hb pc = none := fresh_back x1 hpc
    have npc : pc ≠ p := (ne_of_none p1 hpc).symm
    have nac : pa ≠ pc := ne_of_none a1 hpc
    have x2 : Ex Hb (upd H2 p (.ins C dx (putF "closing" (.ref pc) (putF "around" (.ref pa) [])))) := Ex.mut (x1.trans e2) hbp
    have p2 : (upd H2 p (.ins C dx (putF "closing" (.ref pc) (putF "around" (.ref pa) [])))) p = some (.ins C dx (putF "closing" (.ref pc) (putF "around" (.ref pa) []))) := upd_same
    have a2 : (upd H2 p (.ins C dx (putF "closing" (.ref pc) (putF "around" (.ref pa) [])))) pa = some (.lst []) := by rw [upd_ne npa]; exact e2 _ _ a1
    have c2 : (upd H2 p (.ins C dx (putF "closing" (.ref pc) (putF "around" (.ref pa) [])))) pc = some (.lst (endsV rs 0)) := by rw [upd_ne npc]; exact h2
    generalize upd H2 p (.ins C dx (putF "closing" (.ref pc) (putF "around" (.ref pa) []))) = G2 at *
    clear e2 h2 hpc p1 a1 x1
    show (_ : L2.TS) _ [_, _, _, _, _, _] _
    refine q_fldD p2 B.cl B.nF (by have := putF_len "around" (.ref pa) []; have := putF_len "closing" (.ref pc) (putF "around" (.ref pa) []); show _ < 1000; simp at *; omega) (ev_var rfl) (fun pf H3 hpf e3 h3 => ?_)
    have npf : pf ≠ p := (ne_of_none p2 hpf).symm
    have hbpf : Hb pf = none := fresh_back x2 hpf
    have x3 : Ex Hb (upd H3 p (.ins C dx (flds pa pc pf))) := Ex.mut (x2.trans e3) hbp
    have p3 : (upd H3 p (.ins C dx (flds pa pc pf))) p = some (.ins C dx (flds pa pc pf)) := upd_same
    have a3 : (upd H3 p (.ins C dx (flds pa pc pf))) pa = some (.lst (homesV rs 0)) := by rw [upd_ne npa]; exact e3 _ _ a2
    have c3 : (upd H3 p (.ins C dx (flds pa pc pf))) pc = some (.lst (endsV rs 0)) := by rw [upd_ne npc]; exact e3 _ _ c2
    have f3 : (upd H3 p (.ins C dx (flds pa pc pf))) pf = some (.dK []) := by rw [upd_ne npf]; exact h3
    show tSeq _ _ _ _ (upd H3 p (.ins C dx (flds pa pc pf)))
    generalize upd H3 p (.ins C dx (flds pa pc pf)) = G3 at *
    clear e3 h3 hpf p2 a2 c2 x2
    refine q_asgL (xs := [.int (-1)]) ?_ (fun po H4 hpo e4 h4 => ?_)
    · walk_at "ev"
    show (_ : L2.TS) _ [_, _, _, _, _, _] _
    have hbpo : Hb po = none := fresh_back x3 hpo
    have nao : pa ≠ po := ne_of_none a3 hpo
    have nco : pc ≠ po := ne_of_none c3 hpo
    have hS4 : SqL K H4 a rv := ex_l (x3.trans e4) hSb
    refine s_forE (K := K) (a := a) (xs := rv) (ev_var rfl) hS4 (fun i σ' H' => BlkI C Hb rs p dx pa pc pf po i H' ∧ ∃ b c d, σ' = [some (.ref p), some (.ref a), some (.ref po), b, c, d]) ?_ (fun i σ' H' _ h => ex_l h.1.ex hSb) ?_ ?_
    · intro H5 e5
      refine ⟨⟨x3.trans (e4.trans e5), e5 _ _ (e4 _ _ p3), e5 _ _ (e4 _ _ a3), e5 _ _ (e4 _ _ c3), e5 _ _ h4, [], e5 _ _ (e4 _ _ f3), fun b hb => absurd hb (Nat.not_lt_zero b), fun _ _ _ z => (nomatch z), fun _ _ z => (nomatch z), Nat.le_refl _⟩, none, none, none, rfl⟩
    · rintro i x σ' H' H5 hi ⟨I, b, c, d, rfl⟩ e5
      obtain ⟨xI, pI, aI, cI, oI, kvs, fI, FI⟩ := I
      have hil : i < rv.length := (List.getElem?_eq_some_iff.mp hi).1
      obtain ⟨r, hr1, hX⟩ := hRb.at hi
      have x5 := xI.trans e5
      have p5 := e5 _ _ pI
      have a5 := e5 _ _ aI
      have c5 := e5 _ _ cI
      have o5 := e5 _ _ oI
      have f5 := e5 _ _ fI
      have FA : ∀ a : Nat, a < i → rs[a]? = some .either → ∃ q, valV kvs (Sum.inl (a : Int)) = some (.ref q) ∧ H5 q = some (.lst (brV rs a i)) ∧ Hb q = none ∧ q ≠ pa ∧ q ≠ pc ∧ q ≠ po := fun a h1 h2 => by
        obtain ⟨q, q1, q2, q3⟩ := FI.at_ a h1 h2
        exact ⟨q, q1, e5 _ _ q2, q3⟩
      clear xI pI aI cI oI fI e5
      -- home = opened[-1]
      refine q_asg (v := .int (hm rs i)) ?_ (fun H6 e6 => ?_)
      · have hO : SqL K H5 po (stV rs i) := sq_of o5
        refine ev_ixL (ev_var rfl) hO ?_ (stV_last rs i)
        walk_at "ev"
      show (_ : L2.TS) _ [_, _, _, _, _, _] _
      -- self.around.append(home)
      refine q_app (l := pa) (xs := homesV rs i) (v := .int (hm rs i)) (e6 _ _ a5) (ev_fld (ev_var rfl) (e6 _ _ p5) B.cl B.nA (flds_a pa pc pf)) (ev_var rfl) (by rw [homesV_len]; omega) (fun H7 e7 => ?_)
      rw [← homesV_next]
      have e57 := e6.trans e7
      have x8 : Ex Hb (upd H7 pa (.lst (homesV rs (i + 1)))) := Ex.mut (x5.trans e57) hbpa
      have p8 : (upd H7 pa (.lst (homesV rs (i + 1)))) p = some (.ins C dx (flds pa pc pf)) := by rw [upd_ne npa.symm]; exact e57 _ _ p5
      have a8 : (upd H7 pa (.lst (homesV rs (i + 1)))) pa = some (.lst (homesV rs (i + 1))) := upd_same
      have c8 : (upd H7 pa (.lst (homesV rs (i + 1)))) pc = some (.lst (endsV rs i)) := by rw [upd_ne nac.symm]; exact e57 _ _ c5
      have o8 : (upd H7 pa (.lst (homesV rs (i + 1)))) po = some (.lst (stV rs i)) := by rw [upd_ne nao.symm]; exact e57 _ _ o5
      have npaf : pf ≠ pa := ne_of f5 a5 (fun z => nomatch z)
      have f8 : (upd H7 pa (.lst (homesV rs (i + 1)))) pf = some (.dK kvs) := by rw [upd_ne npaf]; exact e57 _ _ f5
      have F8 : ∀ a : Nat, a < i → rs[a]? = some .either → ∃ q, valV kvs (Sum.inl (a : Int)) = some (.ref q) ∧ (upd H7 pa (.lst (homesV rs (i + 1)))) q = some (.lst (brV rs a i)) ∧ Hb q = none ∧ q ≠ pa ∧ q ≠ pc ∧ q ≠ po := fun a h1 h2 => by
        obtain ⟨q, q1, q2, q3, q4, q5⟩ := FA a h1 h2
        exact ⟨q, q1, by rw [upd_ne q4]; exact e57 _ _ q2, q3, q4, q5⟩
      have hX8 : IsRow (upd H7 pa (.lst (homesV rs (i + 1)))) x r := hX.up x8
      generalize upd H7 pa (.lst (homesV rs (i + 1))) = G8 at *
      clear e6 e7 e57 x5 p5 a5 c5 o5 f5 FA
      have npof : pf ≠ po := ne_of f8 o8 (fun z => nomatch z)
      have npo : po ≠ p := ne_of o8 p8 (fun z => nomatch z)
      have npcf : pf ≠ pc := ne_of f8 c8 (fun z => nomatch z)
      -- if opens(row): opened.append(at)
      refine q_when (b := r.opens) (et_B (ev_opens (ea_cons (ev_var rfl) ea_nil) hX8)) (fun hro H9 e9 => ?_) (fun hro H9 e9 => ?_)
      · have e89 := e9
        refine s_app (l := po) (xs := stV rs i) (v := .int (i : Int)) (e9 _ _ o8) (ev_var rfl) (ev_var rfl) (by have := stV_len rs i; omega) (fun Ha ea => ?_)
        dsimp only
        rw [← stV_push hr1 hro]
        have e8a := e9.trans ea
        have xb : Ex Hb (upd Ha po (.lst (stV rs (i + 1)))) := Ex.mut (x8.trans e8a) hbpo
        have pb : (upd Ha po (.lst (stV rs (i + 1)))) p = some (.ins C dx (flds pa pc pf)) := by rw [upd_ne npo.symm]; exact e8a _ _ p8
        have ab : (upd Ha po (.lst (stV rs (i + 1)))) pa = some (.lst (homesV rs (i + 1))) := by rw [upd_ne nao]; exact e8a _ _ a8
        have cb : (upd Ha po (.lst (stV rs (i + 1)))) pc = some (.lst (endsV rs i)) := by rw [upd_ne nco]; exact e8a _ _ c8
        have ob : (upd Ha po (.lst (stV rs (i + 1)))) po = some (.lst (stV rs (i + 1))) := upd_same
        have fb : (upd Ha po (.lst (stV rs (i + 1)))) pf = some (.dK kvs) := by rw [upd_ne npof]; exact e8a _ _ f8
        have Fb : Firsts Hb rs pa pc po i kvs (upd Ha po (.lst (stV rs (i + 1)))) := ⟨fun a h1 h2 => by
          obtain ⟨q, q1, q2, q3, q4, q5, q6⟩ := F8 a h1 h2
          exact ⟨q, q1, by rw [upd_ne q6]; exact e8a _ _ q2, q3, q4, q5, q6⟩, FI.inj, FI.low, FI.len⟩
        have hXb : IsRow (upd Ha po (.lst (stV rs (i + 1)))) x r := hX.up xb
        generalize upd Ha po (.lst (stV rs (i + 1))) = Gb at *
        clear ea e9 e89 e8a x8 p8 a8 c8 o8 f8 F8 hX8
        have hfn : r.isFin = false := by cases r <;> first | rfl | cases hro
        have hon : r.isOr = false := by cases r <;> first | rfl | cases hro
        rw [← endsV_keep hr1 hfn] at cb
        refine s_if (b := r.isEither) ?_ (fun hre Hc ec => ?_) (fun hre Hc ec => ?_)
        · rw [← tag_either]
          walk_at "ev"
        · have er : r = .either := by cases r <;> first | rfl | cases hre
          subst er
          refine s_dputL (d := pf) (kvs := kvs) (i := (i : Int)) (xs := [.int ((i : Int) + 1)]) (ec _ _ fb) (by have := Fb.len; omega) (ev_fld (ev_var rfl) (ec _ _ pb) B.cl B.nF (flds_f pa pc pf)) (ev_var rfl) ?_ (fun q0 Hd hq0 ed hd => ?_)
          · walk_at "ev"
          · have ebd := ec.trans ed
            have n0 : Gb q0 = none := fresh_back ec hq0
            have nq : ∀ {z o}, Gb z = some o → q0 ≠ z := fun hz => (ne_of_none hz n0).symm
            refine ⟨⟨Ex.mut (xb.trans ebd) hbpf, ?_, ?_, ?_, ?_, _, upd_same, Fb.new hr1 n0 (fresh_back xb n0) (nq ab) (nq cb) (nq ob) ?_ (fun z xs hz => ?_)⟩, _, _, _, rfl⟩
            · rw [upd_ne npf.symm]; exact ebd _ _ pb
            · rw [upd_ne (ne_of fb ab (fun z => nomatch z)).symm]; exact ebd _ _ ab
            · rw [upd_ne npcf.symm]; exact ebd _ _ cb
            · rw [upd_ne npof.symm]; exact ebd _ _ ob
            · rw [upd_ne (nq fb)]; exact hd
            · rw [upd_ne (ne_of hz fb (fun z => nomatch z))]; exact ebd _ _ hz
        · refine s_if (b := r.isOr) ?_ (fun hb _ _ => by rw [hon] at hb; cases hb) (fun _ Hd ed => ?_)
          · have hXc := hXb.up ec
            rw [← tag_or]
            walk_at "ev"
          · refine s_when (b := r.isFin) ?_ (fun hb _ _ => by rw [hfn] at hb; cases hb) (fun _ He ee => ?_)
            · have hXd := (hXb.up ec).up ed
              rw [← tag_fin]
              walk_at "ev"
            · have ebe := ec.trans (ed.trans ee)
              exact ⟨⟨xb.trans ebe, ebe _ _ pb, ebe _ _ ab, ebe _ _ cb, ebe _ _ ob, kvs, ebe _ _ fb, Fb.skip hr1 hon hre fun q xs _ _ _ hq => ebe _ _ hq⟩, _, _, _, rfl⟩
      · have hre : r.isEither = false := by cases r <;> first | rfl | cases hro
        have Fb : Firsts Hb rs pa pc po i kvs G8 := ⟨F8, FI.inj, FI.low, FI.len⟩
        refine s_if (b := r.isEither) ?_ (fun hb _ _ => by rw [hre] at hb; cases hb) (fun _ Hc ec => ?_)
        · have hX9 := hX8.up e9
          rw [← tag_either]
          walk_at "ev"
        have e8c := e9.trans ec
        refine s_if (b := r.isOr) ?_ (fun hor Hd ed => ?_) (fun hor Hd ed => ?_)
        · have hXc := hX8.up e8c
          rw [← tag_or]
          walk_at "ev"
        · have er : r = .or := by cases r <;> first | rfl | cases hor
          subst er
          obtain ⟨b, hb1, hb2⟩ := ok i hr1
          have hbi : b < i := by have := hm_lt (rs := rs) i; omega
          obtain ⟨q0, q1, q2, q3, q4, q5, q6⟩ := Fb.at_ b hbi hb2
          have e8d := e8c.trans ed
          rw [hb1]
          refine s_app (l := q0) (xs := brV rs b i) (v := .int ((i : Int) + 1)) (e8d _ _ q2) (ev_dget (ev_fld (ev_var rfl) (e8d _ _ p8) B.cl B.nF (flds_f pa pc pf)) (e8d _ _ f8) (ev_var rfl) q1) ?_ (by have := brV_len rs b i; omega) (fun He ee => ?_)
          · walk_at "ev"
          · dsimp only
            rw [← brV_yes (by rw [orF_at hr1, hb1, decide_eq_true rfl]; rfl)]
            have e8e := e8d.trans ee
            rw [← endsV_keep hr1 rfl] at c8
            rw [← stV_keep hr1 rfl rfl] at o8
            refine ⟨⟨Ex.mut (x8.trans e8e) q3, ?_, ?_, ?_, ?_, kvs, ?_, Fb.or hr1 hb1 q1 upd_same (fun z xs hz h => ?_)⟩, _, _, _, rfl⟩
            · rw [upd_ne (ne_of p8 q2 (fun z => nomatch z))]; exact e8e _ _ p8
            · rw [upd_ne q4.symm]; exact e8e _ _ a8
            · rw [upd_ne q5.symm]; exact e8e _ _ c8
            · rw [upd_ne q6.symm]; exact e8e _ _ o8
            · rw [upd_ne (ne_of f8 q2 (fun z => nomatch z))]; exact e8e _ _ f8
            · rw [upd_ne hz]; exact e8e _ _ h
        · refine s_when (b := r.isFin) ?_ (fun hrf He ee => ?_) (fun hrf He ee => ?_)
          · have hXd := (hX8.up e8c).up ed
            rw [← tag_fin]
            walk_at "ev"
          · obtain ⟨b, t, hp1, hp2, hp3, qr, hq1, hq2⟩ := hm_fin g hr1 hrf
            have e8e := e8c.trans (ed.trans ee)
            have hpop := stV_pop g hr1 hrf
            refine s_setPop (l := pc) (m := po) (xs := endsV rs i) (ys := stV rs i) (j := b) (v := .int (i : Int)) (e8e _ _ c8) (e8e _ _ o8) nco (ev_var rfl) (ev_fld (ev_var rfl) (e8e _ _ p8) B.cl B.nC (flds_c pa pc pf)) (ev_var rfl) (by rw [stV_top, hp2]) (by rw [endsV_len]; have := (List.getElem?_eq_some_iff.mp hq1).1; exact this) (fun Hf ef => ?_)
            dsimp only
            rw [← endsV_set g hr1 hrf hp1 hp2 (show opAt rs b = true by unfold opAt; rw [hq1]; exact hq2), ← hpop.1]
            have e8f := e8e.trans ef
            have up2 : ∀ {z o}, z ≠ po → z ≠ pc → G8 z = some o → (upd (upd Hf po (.lst (stV rs (i + 1)))) pc (.lst (endsV rs (i + 1)))) z = some o := fun h1 h2 h3 => by rw [upd_ne h2, upd_ne h1]; exact e8f _ _ h3
            refine ⟨⟨Ex.mut (Ex.mut (x8.trans e8f) hbpo) hbpc, up2 npo.symm npc.symm p8, up2 nao nac a8, upd_same, by rw [upd_ne nco.symm, upd_same], kvs, up2 npof npcf f8, Fb.skip hr1 hor hre fun q xs z1 z2 z3 hq => up2 z3 z2 hq⟩, _, _, _, rfl⟩
          · have e8e := e8c.trans (ed.trans ee)
            rw [← endsV_keep hr1 hrf] at c8
            rw [← stV_keep hr1 hro hrf] at o8
            exact ⟨⟨x8.trans e8e, e8e _ _ p8, e8e _ _ a8, e8e _ _ c8, e8e _ _ o8, kvs, e8e _ _ f8, Fb.skip hr1 hor hre fun q xs _ _ _ hq => e8e _ _ hq⟩, _, _, _, rfl⟩
    · rintro σ' H' ⟨I, b, c, d, rfl⟩
      rw [hlr] at I
      obtain ⟨xI, pI, aI, cI, oI, kvs, fI, FI⟩ := I
      refine q H' xI ⟨dx, pa, pc, pf, kvs, pI, aI, cI, fI, hbpa, hbpc, fun a ha => ?_⟩
      obtain ⟨q1, h1, h2, h3, _⟩ := FI.at_ a (List.getElem?_eq_some_iff.mp ha).1 ha
      exact ⟨q1, h1, h2, h3⟩
def ABlk (C : Addr) (rs : List Rw) (Hb : Hp) : V → Hp → Prop := fun v H => ∃ x, v = .ref x ∧ BlkAt C rs Hb x H
theorem ABlk.up {rs : List Rw} {Hb : Hp} {v : V} {H H' : Hp} (e : Ex H H') (h : ABlk C rs Hb v H) : ABlk C rs Hb v H' := by
  obtain ⟨x, h1, h2⟩ := h
  exact ⟨x, h1, h2.up e⟩
/-- Blocks(rows) -/
theorem ep_blocks {ta : TE} {σ : L2.St} {H : Hp} {a : Addr} {rv : List V} {rs : List Rw} {E : XK} (h : Ev ta σ H (.ref a)) (hS : SqL K H a rv) (hR : Rows H rv rs) (g : Good rs) (ok : OrOk rs) (hl : rs.length ≤ 40000) :
    EvP (tMake C (spBInit K C) [] E (tCons ta tNil)) σ H (fun v H2 => ABlk C rs H v H2) := fun H1 e Q q =>
  h H1 e _ fun H2 e2 => fun x dx hx hd hne => ⟨x, dx, a, H2, rv, rs, rfl, rfl, hx, hd, hne, ex_l (e.trans e2) hS, hR.up (e.trans e2), g, ok, hl, fun H3 e3 hB => ⟨rfl, q _ H3 (e2.trans e3) ⟨x, rfl, by
    obtain ⟨dx, pa, pc, pf, kvs, h1, h2, h3, h4, h6, h7, h5⟩ := hB
    exact ⟨dx, pa, pc, pf, kvs, h1, h2, h3, h4, fresh_back (e.trans e2) h6, fresh_back (e.trans e2) h7, fun a ha => by
      obtain ⟨q, q1, q2, q3⟩ := h5 a ha
      exact ⟨q, q1, q2, fresh_back (e.trans e2) q3⟩⟩⟩⟩⟩
end
end BD
namespace BD
open PySem PySem.Spec PyProof.Rows L2 Evl
local macro_rules | `(tactic| walk_at "ev") => `(tactic| first
  | ((with_reducible apply ev_var) ; rfl)
  | with_reducible exact ev_c
  | ((with_reducible apply ev_I0) <;> walk_at "ev")
  | ((with_reducible apply ev_e9) <;> walk_at "ev")
  | ((with_reducible apply ev_I) <;> walk_at "ev")
  | ((with_reducible apply ev_eq) <;> walk_at "ev")
  | ((with_reducible apply ev_ne) <;> walk_at "ev")
  | ((with_reducible apply ev_neg) <;> walk_at "ev")
  | ((with_reducible apply ev_ixN) <;> walk_at "ev")
  | ((with_reducible apply ev_ixL) <;> walk_at "ev")
  | ((with_reducible apply ev_inN) <;> walk_at "ev")
  | ((with_reducible apply ev_inT) <;> walk_at "ev")
  | ((with_reducible apply ev_ixT) <;> walk_at "ev")
  | ((with_reducible apply ev_ixS) <;> walk_at "ev")
  | ((with_reducible apply ev_len') <;> walk_at "ev")
  | ((with_reducible apply et_test) <;> walk_at "ev")
  | ((with_reducible apply et_and) <;> walk_at "ev")
  | ((with_reducible apply et_or) <;> walk_at "ev")
  | ((with_reducible apply et_not) <;> walk_at "ev")
  | ((with_reducible apply et_B) <;> walk_at "ev")
  | ((with_reducible apply el_lst) <;> walk_at "ev")
  | ((with_reducible apply eu_tup) <;> walk_at "ev")
  | ((with_reducible apply ea_cons) <;> walk_at "ev")
  | with_reducible exact ea_nil
  | with_reducible assumption
  | ((with_reducible apply ex_l' ; assumption) ; walk_at "ex")
  | ((with_reducible apply ex_t' ; assumption) ; walk_at "ex")
  | (intro _ ; walk_at "ev")
  | (with_reducible first | exact atI_hd | exact at_kind | exact at2s | exact at3s | exact at3i)
  | (first | exact rfl | exact Nat.le_of_ble_eq_true rfl | exact ⟨by decide, by decide⟩ | decide | exact Or.inl ⟨by omega, by omega⟩ | exact Or.inr ⟨by omega, by omega⟩ | omega)
  | skip)
local macro_rules | `(tactic| walk_at "ex") => `(tactic| first
  | assumption
  | exact Ex.refl _
  | (refine' Ex.trans ?_ (by assumption) ; walk_at "ex"))
local macro_rules | `(tactic| walk_at "row") => `(tactic| first
  | (with_reducible exact er_nil)
  | ((with_reducible apply er_cons) <;> walk_at "row")
  | (((with_reducible apply er_var) ; rfl) ; walk_at "isrow")
  | (((with_reducible apply elr_var) ; rfl) ; walk_at "isrow")
  | ((with_reducible apply elr_cat) <;> walk_at "row")
  | ((with_reducible apply elr_lst) <;> walk_at "row")
  | ((with_reducible apply er_fin) <;> walk_at "ev")
  | ((with_reducible apply er_lendT) <;> walk_at "ev")
  | ((with_reducible apply er_lendW) <;> walk_at "ev")
  | ((with_reducible apply er_pick) <;> walk_at "ev")
  | ((with_reducible apply er_either) <;> walk_at "ev")
  | ((with_reducible apply er_or) <;> walk_at "ev")
  | ((with_reducible apply er_again) <;> walk_at "ev")
  | ((with_reducible apply er_back) <;> walk_at "ev")
  | ((with_reducible apply er_look) <;> walk_at "ev")
  | ((with_reducible apply er_change) <;> walk_at "ev")
  | exact Nat.le_of_ble_eq_true rfl
  | skip)
local macro_rules | `(tactic| walk_at "isrow") => `(tactic| first
  | assumption
  | (refine IsRow.up ?_ (by assumption) ; walk_at "ex")
  | (refine LRows.up ?_ (by assumption) ; walk_at "ex"))

abbrev s_homes : Stmt := topS 4
theorem sc_homes : FnScope ["rows"] ["rows"] (defScope s_homes) := ⟨rfl, rfl, rfl, by decide +kernel, rfl, by decide +kernel, by decide +kernel⟩
abbrev s_ends : Stmt := topS 5
theorem sc_ends : FnScope ["rows"] ["rows"] (defScope s_ends) := ⟨rfl, rfl, rfl, by decide +kernel, rfl, by decide +kernel, by decide +kernel⟩
abbrev s_branches : Stmt := topS 6
theorem sc_branches : FnScope ["rows", "at"] ["rows", "at"] (defScope s_branches) := ⟨rfl, rfl, rfl, by decide +kernel, rfl, by decide +kernel, by decide +kernel⟩
section
variable {P : Program} {w : World} {K : PySem.W.Frag} {mg : Str → Option Value} {base : Heap} {C : Addr}
abbrev HB (P : Program) (w : World) (K : PySem.W.Frag) (mg : Str → Option Value) (base : Heap) (C : Addr) : Prop := HasC P w K mg base "Blocks" C 2 ["self", "rows"] (spBInit K C)
theorem s_retFld {σ : L2.St} {H : Hp} {ta : TE} {D : Ends} {f : Str} {R : V → Hp → Prop} (h : EvP ta σ H R) (k : ∀ v H1, Ex H H1 → R v H1 → ∃ p dx fs z, v = .ref p ∧ H1 p = some (.ins C dx fs) ∧ Cls K C ∧ NoAttr K C f ∧ fs.lookup f = some z ∧ D.rt z H1) : tRet (tFld K ta f) D σ H :=
  h H (Ex.refl H) _ fun v H1 e hr => by
    obtain ⟨p, dx, fs, z, h1, h2, h3, h4, h5, h6⟩ := k v H1 e hr
    exact ⟨p, C, dx, fs, z, h1, h2, h3, h4, h5, h6⟩
theorem s_retFldD {σ : L2.St} {H : Hp} {ta tb : TE} {D : Ends} {f : Str} {i : Int} {R : V → Hp → Prop} (h : EvP ta σ H R) (hi : Ev tb σ H (.int i)) (k : ∀ v H1, Ex H H1 → R v H1 → ∃ p dx fs d kvs z, v = .ref p ∧ H1 p = some (.ins C dx fs) ∧ Cls K C ∧ NoAttr K C f ∧ fs.lookup f = some (.ref d) ∧ H1 d = some (.dK kvs) ∧ valV kvs (Sum.inl i) = some z ∧ ∀ H2, Ex H1 H2 → D.rt z H2) :
    tRet (tDGet (tFld K ta f) tb) D σ H := h H (Ex.refl H) _ fun v H1 e hr => by
  obtain ⟨p, dx, fs, d, kvs, z, h1, h2, h3, h4, h5, h6, h7, h8⟩ := k v H1 e hr
  refine ⟨p, C, dx, fs, _, h1, h2, h3, h4, h5, hi H1 e _ fun H2 e2 => ⟨d, z, rfl, ?_, h8 H2 e2⟩⟩
  have := DGet.k (k := Sum.inl i) (e2 _ _ h6)
  rw [h7] at this
  exact this
def spPHomes (K : PySem.W.Frag) : Sp := fun vs H Q _ => ∃ (a : Addr) (rv : List V) (rs : List Rw), vs = [.ref a] ∧ SqL K H a rv ∧ Rows H rv rs ∧ Good rs ∧ OrOk rs ∧ rs.length ≤ 40000 ∧ RetL (homesV rs rs.length) H Q
def spPEnds (K : PySem.W.Frag) : Sp := fun vs H Q _ => ∃ (a : Addr) (rv : List V) (rs : List Rw), vs = [.ref a] ∧ SqL K H a rv ∧ Rows H rv rs ∧ Good rs ∧ OrOk rs ∧ rs.length ≤ 40000 ∧ RetL (endsV rs rs.length) H Q
def spPBranches (K : PySem.W.Frag) : Sp := fun vs H Q _ => ∃ (a : Addr) (n : Nat) (rv : List V) (rs : List Rw), vs = [.ref a, .int (n : Int)] ∧ SqL K H a rv ∧ Rows H rv rs ∧ Good rs ∧ OrOk rs ∧ rs.length ≤ 40000 ∧ rs[n]? = some .either ∧ RetL (brV rs n rs.length) H Q
theorem ok_homes (D : Dn K mg "homes" s_homes ["rows"]) (B : BlkC K C) (h_Blocks : HB P w K mg base C) : Has P w K mg base "homes" 4 ["rows"] (spPHomes K) := by
  refine D.ok sc_homes (fun vs H Q E h => ?_) (fun f cdv A outer s H vs Q E hr h => ?_)
  · obtain ⟨a, rv, rs, rfl, _⟩ := h
    rfl
  · obtain ⟨a, rv, rs, rfl, hS, hR, g, ok, hl, q⟩ := h
    refine ⟨_, (pss_one (ps_ret (pe_fld (pe_cls h_Blocks (hr.mono (by decide)) (by rfl) (pa_cons (pv 0) pa_nil)) rfl))), ?_⟩
    refine s_retFld (C := C) (ep_blocks (ev_var rfl) hS hR g ok hl) (fun v H1 e1 hv => ?_)
    obtain ⟨x, rfl, dx, pa, pc, pf, kvs, h1, h2, h3, h4, h6, h7, h5⟩ := hv
    exact ⟨x, dx, _, _, rfl, h1, B.cl, B.nA, flds_a pa pc pf, q pa H1 h6 e1 h2⟩
theorem ok_ends (D : Dn K mg "ends" s_ends ["rows"]) (B : BlkC K C) (h_Blocks : HB P w K mg base C) : Has P w K mg base "ends" 4 ["rows"] (spPEnds K) := by
  refine D.ok sc_ends (fun vs H Q E h => ?_) (fun f cdv A outer s H vs Q E hr h => ?_)
  · obtain ⟨a, rv, rs, rfl, _⟩ := h
    rfl
  · obtain ⟨a, rv, rs, rfl, hS, hR, g, ok, hl, q⟩ := h
    refine ⟨_, (pss_one (ps_ret (pe_fld (pe_cls h_Blocks (hr.mono (by decide)) (by rfl) (pa_cons (pv 0) pa_nil)) rfl))), ?_⟩
    refine s_retFld (C := C) (ep_blocks (ev_var rfl) hS hR g ok hl) (fun v H1 e1 hv => ?_)
    obtain ⟨x, rfl, dx, pa, pc, pf, kvs, h1, h2, h3, h4, h6, h7, h5⟩ := hv
    exact ⟨x, dx, _, _, rfl, h1, B.cl, B.nC, flds_c pa pc pf, q pc H1 h7 e1 h3⟩
theorem ok_branches (D : Dn K mg "branches" s_branches ["rows", "at"]) (B : BlkC K C) (h_Blocks : HB P w K mg base C) : Has P w K mg base "branches" 4 ["rows", "at"] (spPBranches K) := by
  refine D.ok sc_branches (fun vs H Q E h => ?_) (fun f cdv A outer s H vs Q E hr h => ?_)
  · obtain ⟨a, n, rv, rs, rfl, _⟩ := h
    rfl
  · obtain ⟨a, n, rv, rs, rfl, hS, hR, g, ok, hl, hn, q⟩ := h
    refine ⟨_, (pss_one (ps_ret (pe_dget (hu_of hr) (pe_fld (pe_cls h_Blocks (hr.mono (by decide)) (by rfl) (pa_cons (pv 0) pa_nil)) rfl) (pv 1) (fun _ _ => rfl)))), ?_⟩
    refine s_retFldD (C := C) (i := (n : Int)) (ep_blocks (ev_var rfl) hS hR g ok hl) (ev_var rfl) (fun v H1 e1 hv => ?_)
    obtain ⟨x, rfl, dx, pa, pc, pf, kvs, h1, h2, h3, h4, h6, h7, h5⟩ := hv
    obtain ⟨z, z1, z2, z3⟩ := h5 n hn
    exact ⟨x, dx, _, pf, kvs, _, rfl, h1, B.cl, B.nF, flds_f pa pc pf, h4, z1, fun H2 e2 => q z H2 z3 (e1.trans e2) (e2 _ _ z2)⟩
theorem el_homes {a : Addr} {rv : List V} {rs : List Rw} {ta : TA} {σ : L2.St} {H : Hp} {E : XK} (h : EvA ta σ H [.ref a]) (hS : SqL K H a rv) (hR : Rows H rv rs) (g : Good rs) (ok : OrOk rs) (hl : rs.length ≤ 40000) : EvL (tCall (spPHomes K) [] E ta) σ H (homesV rs rs.length) :=
  el_call h fun H1 e Q q E => ⟨a, rv, rs, rfl, ex_l e hS, hR.up e, g, ok, hl, fun p H2 hp e2 h2 => q p H2 hp e2 h2⟩
theorem el_ends {a : Addr} {rv : List V} {rs : List Rw} {ta : TA} {σ : L2.St} {H : Hp} {E : XK} (h : EvA ta σ H [.ref a]) (hS : SqL K H a rv) (hR : Rows H rv rs) (g : Good rs) (ok : OrOk rs) (hl : rs.length ≤ 40000) : EvL (tCall (spPEnds K) [] E ta) σ H (endsV rs rs.length) :=
  el_call h fun H1 e Q q E => ⟨a, rv, rs, rfl, ex_l e hS, hR.up e, g, ok, hl, fun p H2 hp e2 h2 => q p H2 hp e2 h2⟩
theorem el_branches {a : Addr} {n : Nat} {rv : List V} {rs : List Rw} {ta : TA} {σ : L2.St} {H : Hp} {E : XK} (h : EvA ta σ H [.ref a, .int (n : Int)]) (hS : SqL K H a rv) (hR : Rows H rv rs) (g : Good rs) (ok : OrOk rs) (hl : rs.length ≤ 40000) (hn : rs[n]? = some .either) : EvL (tCall (spPBranches K) [] E ta) σ H (brV rs n rs.length) :=
  el_call h fun H1 e Q q E => ⟨a, n, rv, rs, rfl, ex_l e hS, hR.up e, g, ok, hl, hn, fun p H2 hp e2 h2 => q p H2 hp e2 h2⟩
end
end BD
namespace BD
open PySem PySem.Spec PyProof.Rows L2 Evl
local macro_rules | `(tactic| walk_at "ev") => `(tactic| first
  | ((with_reducible apply ev_var) ; rfl)
  | with_reducible exact ev_c
  | ((with_reducible apply ev_I0) <;> walk_at "ev")
  | ((with_reducible apply ev_e9) <;> walk_at "ev")
  | ((with_reducible apply ev_I) <;> walk_at "ev")
  | ((with_reducible apply ev_eq) <;> walk_at "ev")
  | ((with_reducible apply ev_ne) <;> walk_at "ev")
  | ((with_reducible apply ev_neg) <;> walk_at "ev")
  | ((with_reducible apply ev_ixN) <;> walk_at "ev")
  | ((with_reducible apply ev_ixL) <;> walk_at "ev")
  | ((with_reducible apply ev_inN) <;> walk_at "ev")
  | ((with_reducible apply ev_inT) <;> walk_at "ev")
  | ((with_reducible apply ev_ixT) <;> walk_at "ev")
  | ((with_reducible apply ev_ixS) <;> walk_at "ev")
  | ((with_reducible apply ev_len') <;> walk_at "ev")
  | ((with_reducible apply et_test) <;> walk_at "ev")
  | ((with_reducible apply et_and) <;> walk_at "ev")
  | ((with_reducible apply et_or) <;> walk_at "ev")
  | ((with_reducible apply et_not) <;> walk_at "ev")
  | ((with_reducible apply et_B) <;> walk_at "ev")
  | ((with_reducible apply el_lst) <;> walk_at "ev")
  | ((with_reducible apply eu_tup) <;> walk_at "ev")
  | ((with_reducible apply ea_cons) <;> walk_at "ev")
  | with_reducible exact ea_nil
  | with_reducible assumption
  | ((with_reducible apply ex_l' ; assumption) ; walk_at "ex")
  | ((with_reducible apply ex_t' ; assumption) ; walk_at "ex")
  | (intro _ ; walk_at "ev")
  | (with_reducible first | exact atI_hd | exact at_kind | exact at2s | exact at3s | exact at3i)
  | (first | exact rfl | exact Nat.le_of_ble_eq_true rfl | exact ⟨by decide, by decide⟩ | decide | exact Or.inl ⟨by omega, by omega⟩ | exact Or.inr ⟨by omega, by omega⟩ | omega)
  | skip)
local macro_rules | `(tactic| walk_at "ex") => `(tactic| first
  | assumption
  | exact Ex.refl _
  | (refine' Ex.trans ?_ (by assumption) ; walk_at "ex"))
local macro_rules | `(tactic| walk_at "row") => `(tactic| first
  | (with_reducible exact er_nil)
  | ((with_reducible apply er_cons) <;> walk_at "row")
  | (((with_reducible apply er_var) ; rfl) ; walk_at "isrow")
  | (((with_reducible apply elr_var) ; rfl) ; walk_at "isrow")
  | ((with_reducible apply elr_cat) <;> walk_at "row")
  | ((with_reducible apply elr_lst) <;> walk_at "row")
  | ((with_reducible apply er_fin) <;> walk_at "ev")
  | ((with_reducible apply er_lendT) <;> walk_at "ev")
  | ((with_reducible apply er_lendW) <;> walk_at "ev")
  | ((with_reducible apply er_pick) <;> walk_at "ev")
  | ((with_reducible apply er_either) <;> walk_at "ev")
  | ((with_reducible apply er_or) <;> walk_at "ev")
  | ((with_reducible apply er_again) <;> walk_at "ev")
  | ((with_reducible apply er_back) <;> walk_at "ev")
  | ((with_reducible apply er_look) <;> walk_at "ev")
  | ((with_reducible apply er_change) <;> walk_at "ev")
  | exact Nat.le_of_ble_eq_true rfl
  | skip)
local macro_rules | `(tactic| walk_at "isrow") => `(tactic| first
  | assumption
  | (refine IsRow.up ?_ (by assumption) ; walk_at "ex")
  | (refine LRows.up ?_ (by assumption) ; walk_at "ex"))

local macro_rules | `(tactic| walk_at "ev") => `(tactic| ((with_reducible apply ev_letter) <;> walk_at "ev"))
local macro_rules | `(tactic| walk_at "ev") => `(tactic| ((with_reducible apply ev_cell) <;> walk_at "ev"))
local macro_rules | `(tactic| walk_at "ev") => `(tactic| ((with_reducible apply ev_word) <;> walk_at "ev"))
local macro_rules | `(tactic| walk_at "ev") => `(tactic| ((with_reducible apply ev_thing) <;> walk_at "ev"))

local macro_rules | `(tactic| walk_at "ev") => `(tactic| (((with_reducible apply ev_tag) ; rfl) ; walk_at "isrow"))
/-! ### one either more behind the sheet -/
def tail3 : List Rw := [.either, .or, .fin]
theorem run_ext {rs : List Rw} (h : run 0 rs = some 0) : run 0 (rs ++ tail3) = some 0 := by
  rw [run_app, h]
  rfl
section
variable {rs : List Rw} (g : Good rs)
theorem ext0 : (rs ++ tail3)[rs.length]? = some .either := by
  rw [List.getElem?_append_right (Nat.le_refl _), Nat.sub_self]
  rfl
theorem ext1 : (rs ++ tail3)[rs.length + 1]? = some .or := by
  rw [List.getElem?_append_right (by omega), show rs.length + 1 - rs.length = 1 by omega]
  rfl
theorem ext2 : (rs ++ tail3)[rs.length + 2]? = some .fin := by
  rw [List.getElem?_append_right (by omega), show rs.length + 2 - rs.length = 2 by omega]
  rfl
include g in
theorem extp0 : pr (rs ++ tail3) rs.length = [] := by
  rw [pr_app _ _ _ (Nat.le_refl _)]
  exact g.last
include g in
theorem extp1 : pr (rs ++ tail3) (rs.length + 1) = [rs.length] := by
  rw [pr_next ext0, if_pos (show Rw.either.opens = true from rfl), extp0 g]
include g in
theorem extp2 : pr (rs ++ tail3) (rs.length + 2) = [rs.length] := by
  rw [pr_next ext1, if_neg (by decide), if_neg (by decide), extp1 g]
include g in
theorem exth0 : hm (rs ++ tail3) rs.length = -1 := by
  unfold hm
  rw [extp0 g]
include g in
theorem exth1 : hm (rs ++ tail3) (rs.length + 1) = (rs.length : Int) := by
  unfold hm
  rw [extp1 g]
include g in
theorem exth2 : hm (rs ++ tail3) (rs.length + 2) = (rs.length : Int) := by
  unfold hm
  rw [extp2 g]
include g in
theorem ext_homes : homesV (rs ++ tail3) (rs.length + 3) = homesV rs rs.length ++ [.int (-1), .int (rs.length : Int), .int (rs.length : Int)] := by
  rw [homesV_next, homesV_next, homesV_next, exth0 g, exth1 g, exth2 g, List.append_assoc, List.append_assoc]
  congr 1
  unfold homesV
  refine List.map_congr_left fun i hi => ?_
  rw [hm_app _ _ _ (by have := List.mem_range.mp hi; omega)]
include g in
theorem ext_br : brV (rs ++ tail3) rs.length (rs.length + 3) = [.int ((rs.length : Int) + 1), .int ((rs.length : Int) + 2)] := by
  rw [brV_no (i := rs.length + 2) (by rw [orF_at ext2]; exact Bool.and_false _), brV_yes (i := rs.length + 1) (by rw [orF_at ext1, exth1 g, decide_eq_true rfl]; rfl), brV_low _ _ _ (Nat.le_refl _)]
  show [V.int ((rs.length : Int) + 1), V.int (((rs.length + 1 : Nat) : Int) + 1)] = _
  rw [show (((rs.length + 1 : Nat) : Int) + 1) = (rs.length : Int) + 2 by omega]
include g in
theorem ext_up {a : Nat} (ha : a < rs.length) : endUp (rs ++ tail3) a (rs.length + 3) = endUp rs a rs.length := by
  rw [endUp_next (i := rs.length + 2) (by rw [finF_at ext2, exth2 g, decide_eq_false (by omega)]; rfl), endUp_next (i := rs.length + 1) (by rw [finF_at ext1]; exact Bool.and_false _), endUp_next (i := rs.length) (by rw [finF_at ext0]; exact Bool.and_false _)]
  unfold endUp
  have e : ∀ l : List Nat, (∀ p ∈ l, p < rs.length) → l.find? (finF (rs ++ tail3) a) = l.find? (finF rs a) := fun l => by
    induction l with
    | nil => intro _; rfl
    | cons p l ih =>
      intro hp
      have h1 : finF (rs ++ tail3) a p = finF rs a p := by
        have hl := hp p List.mem_cons_self
        unfold finF
        rw [hm_app _ _ _ (by omega), List.getElem?_append_left hl]
      rw [List.find?_cons, List.find?_cons, h1, ih fun q hq => hp q (List.mem_cons_of_mem _ hq)]
  rw [e _ fun p hp => List.mem_range.mp hp]
include g in
theorem ext_ends : endsV (rs ++ tail3) (rs.length + 3) = endsV rs rs.length ++ [.int ((rs.length : Int) + 2), .int (-1), .int (-1)] := by
  unfold endsV
  have el : (rs ++ tail3).length = rs.length + 3 := by rw [List.length_append]; rfl
  rw [el, List.range_succ, List.range_succ, List.range_succ, List.map_append, List.map_append, List.map_append, List.append_assoc, List.append_assoc]
  have h0 : opAt (rs ++ tail3) rs.length = true := by unfold opAt; rw [ext0]; rfl
  have h1 : opAt (rs ++ tail3) (rs.length + 1) = false := by unfold opAt; rw [ext1]; rfl
  have h2 : opAt (rs ++ tail3) (rs.length + 2) = false := by unfold opAt; rw [ext2]; rfl
  have hu : endUp (rs ++ tail3) rs.length (rs.length + 3) = ((rs.length + 2 : Nat) : Int) := endUp_hit (i := rs.length + 2) (by rw [finF_at ext2, exth2 g, decide_eq_true rfl]; rfl) fun p hp => by
    by_cases hp1 : p ≤ rs.length
    · exact finF_low hp1
    · have : p = rs.length + 1 := by omega
      subst this
      rw [finF_at ext1]
      exact Bool.and_false _
  congr 1
  · refine List.map_congr_left fun a ha => ?_
    have hl := List.mem_range.mp ha
    have ho : opAt (rs ++ tail3) a = opAt rs a := by unfold opAt; rw [List.getElem?_append_left hl]
    rw [ho, ext_up g hl]
  · show [V.int (if opAt (rs ++ tail3) rs.length = true then _ else _)] ++ ([V.int (if opAt (rs ++ tail3) (rs.length + 1) = true then _ else _)] ++ [V.int (if opAt (rs ++ tail3) (rs.length + 2) = true then _ else _)]) = _
    rw [h0, h1, h2, if_pos rfl, if_neg (by decide), if_neg (by decide), hu]
    show [V.int ((rs.length + 2 : Nat) : Int), _, _] = _
    rw [show ((rs.length + 2 : Nat) : Int) = (rs.length : Int) + 2 by omega]
end
theorem homesV_ints (rs : List Rw) (n : Nat) : homesV rs n = ((List.range n).map (hm rs)).map V.int := by
  unfold homesV
  rw [List.map_map]
  rfl
theorem endsV_ints (rs : List Rw) (n : Nat) : endsV rs n = ((List.range rs.length).map fun a => if opAt rs a = true then endUp rs a n else -1).map V.int := by
  unfold endsV
  rw [List.map_map]
  rfl
theorem brV_ints (rs : List Rw) (a n : Nat) : brV rs a n = (((a : Int) + 1) :: ((List.range n).filter (orF rs a)).map fun (p : Nat) => (p : Int) + 1).map V.int := by
  unfold brV
  rw [List.map_cons, List.map_map]
  rfl
/-- the law's own list of ends, of the rows below i -/
def lhV (rs : List Rw) (i : Nat) : List V := (List.range i).map fun a => V.int (if opAt rs a = true then endUp rs a rs.length else -1)
theorem lhV_len (rs : List Rw) (i : Nat) : (lhV rs i).length = i := by
  unfold lhV
  rw [List.length_map, List.length_range]
theorem lhV_next (rs : List Rw) (i : Nat) : lhV rs (i + 1) = lhV rs i ++ [.int (if opAt rs i = true then endUp rs i rs.length else -1)] := by
  unfold lhV
  rw [List.range_succ, List.map_append]
  rfl
theorem lhV_ends (rs : List Rw) : lhV rs rs.length = endsV rs rs.length := rfl
section
variable {K : PySem.W.Frag} {σ : L2.St} {H H' : Hp} {ta tb te tl tm : TE}
theorem ev_neLL {ns : List Int} (ha : EvL ta σ H (ns.map V.int)) (hb : EvL tb σ H (ns.map V.int)) : Ev (tOp (rNeD K) ta tb) σ H (.bl false) := fun H1 e Q k =>
  ha H1 e _ fun p H2 _ e2 h2 => hb H2 (e.trans e2) _ fun q H3 _ e3 h3 => ⟨_, _, dp_listI (sq_of (e3 _ _ h2)), dp_listI (sq_of h3), PySem.W.ke_shaped_ints ns, PySem.W.ke_shaped_ints ns, by
    rw [eqv_ints]
    exact k H3 (e2.trans e3)⟩
theorem elr_catX {p : Addr} {xs : List V} {rs ss : List Rw} (ha : Ev ta σ H (.ref p)) (hp : H p = some (.lst xs)) (hR : Rows H xs rs) (hb : EvP tb σ H (LRows ss)) (hl : rs.length + ss.length ≤ 100000) :
    EvPL (tOp rCat ta tb) σ H (fun us H2 => ∃ ys, us = xs ++ ys ∧ Rows H2 us (rs ++ ss)) := fun H1 e Q q =>
  ha H1 e _ fun H2 e2 => hb H2 (e.trans e2) _ fun u H3 e3 hu => by
    obtain ⟨p', us, rfl, h3, h4⟩ := hu
    have e13 := e.trans (e2.trans e3)
    exact ⟨p, p', xs, us, rfl, rfl, e13 _ _ hp, h3, sz_of (by rw [hR.len, h4.len]; exact hl), fun z hz => q z _ _ (fresh_back (e2.trans e3) hz) (e2.trans (e3.trans (Ex.new hz))) upd_same ⟨us, rfl, Rows.append ((hR.up e13).up (Ex.new hz)) (h4.up (Ex.new hz))⟩⟩
theorem cut_to (xs ys : List V) : cutV (xs ++ ys) none (some (xs.length : Int)) = xs := by
  unfold cutV
  rw [HT.sIx_none, HT.sIx_nat, List.length_append, Nat.min_eq_left (by omega), List.drop_zero, Nat.sub_zero]
  exact List.take_left
end
theorem orok_sheet {rs : List Rw} (sh : Sheet rs) : OrOk rs := fun i hi => by
  obtain ⟨b, h1, _, h3⟩ := or_home sh hi
  exact ⟨b, h1, h3⟩
theorem orok_ext {rs : List Rw} (g : Good rs) (ok : OrOk rs) : OrOk (rs ++ tail3) := fun i hi => by
  rcases Nat.lt_or_ge i rs.length with z | z
  · rw [List.getElem?_append_left z] at hi
    obtain ⟨b, h1, h2⟩ := ok i hi
    refine ⟨b, by rw [hm_app _ _ _ (by omega)]; exact h1, ?_⟩
    rw [List.getElem?_append_left (List.getElem?_eq_some_iff.mp h2).1]
    exact h2
  · have hi2 : i = rs.length + 1 := by
      rw [List.getElem?_append_right z] at hi
      generalize hk : i - rs.length = k at hi
      match k, hi with
      | 0, hi => exact absurd hi (fun z => nomatch z)
      | 1, _ => omega
      | 2, hi => exact absurd hi (fun z => nomatch z)
    rw [hi2]
    exact ⟨rs.length, exth1 g, ext0⟩
section
variable {K : PySem.W.Frag}
theorem el_lhomes {a : Addr} {rv : List V} {rs : List Rw} {ta : TA} {σ : L2.St} {H : Hp} {E : XK} (h : EvA ta σ H [.ref a]) (hS : SqL K H a rv) (hR : Rows H rv rs) (g : Good rs) (hl : rs.length ≤ 90000) : EvL (tCall (spHomes K) [] E ta) σ H (homesV rs rs.length) :=
  el_call h fun H1 e Q q E => ⟨a, rv, rs, rfl, ex_l e hS, hR.up e, g, hl, fun p H2 hp e2 h2 => q p H2 hp e2 h2⟩
end
end BD
namespace BD
open PySem PySem.Spec PyProof.Rows L2 Evl
local macro_rules | `(tactic| walk_at "ev") => `(tactic| first
  | ((with_reducible apply ev_var) ; rfl)
  | with_reducible exact ev_c
  | ((with_reducible apply ev_I0) <;> walk_at "ev")
  | ((with_reducible apply ev_e9) <;> walk_at "ev")
  | ((with_reducible apply ev_I) <;> walk_at "ev")
  | ((with_reducible apply ev_eq) <;> walk_at "ev")
  | ((with_reducible apply ev_ne) <;> walk_at "ev")
  | ((with_reducible apply ev_neg) <;> walk_at "ev")
  | ((with_reducible apply ev_ixN) <;> walk_at "ev")
  | ((with_reducible apply ev_ixL) <;> walk_at "ev")
  | ((with_reducible apply ev_inN) <;> walk_at "ev")
  | ((with_reducible apply ev_inT) <;> walk_at "ev")
  | ((with_reducible apply ev_ixT) <;> walk_at "ev")
  | ((with_reducible apply ev_ixS) <;> walk_at "ev")
  | ((with_reducible apply ev_len') <;> walk_at "ev")
  | ((with_reducible apply et_test) <;> walk_at "ev")
  | ((with_reducible apply et_and) <;> walk_at "ev")
  | ((with_reducible apply et_or) <;> walk_at "ev")
  | ((with_reducible apply et_not) <;> walk_at "ev")
  | ((with_reducible apply et_B) <;> walk_at "ev")
  | ((with_reducible apply el_lst) <;> walk_at "ev")
  | ((with_reducible apply eu_tup) <;> walk_at "ev")
  | ((with_reducible apply ea_cons) <;> walk_at "ev")
  | with_reducible exact ea_nil
  | with_reducible assumption
  | ((with_reducible apply ex_l' ; assumption) ; walk_at "ex")
  | ((with_reducible apply ex_t' ; assumption) ; walk_at "ex")
  | (intro _ ; walk_at "ev")
  | (with_reducible first | exact atI_hd | exact at_kind | exact at2s | exact at3s | exact at3i)
  | (first | exact rfl | exact Nat.le_of_ble_eq_true rfl | exact ⟨by decide, by decide⟩ | decide | exact Or.inl ⟨by omega, by omega⟩ | exact Or.inr ⟨by omega, by omega⟩ | omega)
  | skip)
local macro_rules | `(tactic| walk_at "ex") => `(tactic| first
  | assumption
  | exact Ex.refl _
  | (refine' Ex.trans ?_ (by assumption) ; walk_at "ex"))
local macro_rules | `(tactic| walk_at "row") => `(tactic| first
  | (with_reducible exact er_nil)
  | ((with_reducible apply er_cons) <;> walk_at "row")
  | (((with_reducible apply er_var) ; rfl) ; walk_at "isrow")
  | (((with_reducible apply elr_var) ; rfl) ; walk_at "isrow")
  | ((with_reducible apply elr_cat) <;> walk_at "row")
  | ((with_reducible apply elr_lst) <;> walk_at "row")
  | ((with_reducible apply er_fin) <;> walk_at "ev")
  | ((with_reducible apply er_lendT) <;> walk_at "ev")
  | ((with_reducible apply er_lendW) <;> walk_at "ev")
  | ((with_reducible apply er_pick) <;> walk_at "ev")
  | ((with_reducible apply er_either) <;> walk_at "ev")
  | ((with_reducible apply er_or) <;> walk_at "ev")
  | ((with_reducible apply er_again) <;> walk_at "ev")
  | ((with_reducible apply er_back) <;> walk_at "ev")
  | ((with_reducible apply er_look) <;> walk_at "ev")
  | ((with_reducible apply er_change) <;> walk_at "ev")
  | exact Nat.le_of_ble_eq_true rfl
  | skip)
local macro_rules | `(tactic| walk_at "isrow") => `(tactic| first
  | assumption
  | (refine IsRow.up ?_ (by assumption) ; walk_at "ex")
  | (refine LRows.up ?_ (by assumption) ; walk_at "ex"))

local macro_rules | `(tactic| walk_at "ev") => `(tactic| ((with_reducible apply ev_letter) <;> walk_at "ev"))
local macro_rules | `(tactic| walk_at "ev") => `(tactic| ((with_reducible apply ev_cell) <;> walk_at "ev"))
local macro_rules | `(tactic| walk_at "ev") => `(tactic| ((with_reducible apply ev_word) <;> walk_at "ev"))
local macro_rules | `(tactic| walk_at "ev") => `(tactic| ((with_reducible apply ev_thing) <;> walk_at "ev"))

local macro_rules | `(tactic| walk_at "ev") => `(tactic| (((with_reducible apply ev_tag) ; rfl) ; walk_at "isrow"))
abbrev s_law : Stmt := topS 26
theorem sc_law : FnScope ["_law_script", "_law_rows", "_law_kept", "_law_home", "_law_last_here", "_law_at", "_law_row_here", "_law_found", "_law_other", "_law_size"] ["_law_script"] (defScope s_law) := ⟨rfl, rfl, rfl, by decide +kernel, rfl, by decide +kernel, by decide +kernel⟩
section
variable {P : Program} {w : World} {K : PySem.W.Frag} {mg : Str → Option Value} {base : Heap}
def spLaw (K : PySem.W.Frag) : Sp := fun vs H Q _ => ∃ (a : Addr) (ns : List Int), vs = [.ref a] ∧ SqL K H a (ns.map V.int) ∧ ns.length ≤ 63 ∧ ∀ H', Q (.bl true) H'
theorem ok_law {f : Addr} {fd : FuncData} (F : Fun K "law" "law" s_law f fd) (T : Blt mg) (h_l_drawn : Has P w K mg base "_law_drawn" 5 ["_law_script", "_law_most"] (spDrawn K)) (h_l_homes : Has P w K mg base "_law_homes" 1 ["_law_rows"] (spHomes K)) (h_l_numbers : Has P w K mg base "_law_numbers" 2 ["_law_found", "_law_due"] (spNumbers K)) (h_branches : Has P w K mg base "branches" 4 ["rows", "at"] (spPBranches K)) (h_l_starts : Has P w K mg base "_law_starts" 1 ["_law_rows", "_law_home", "_law_at"] (spStarts K)) (h_l_last : Has P w K mg base "_law_last" 1 ["_law_rows", "_law_home", "_law_at"] (spLast K)) (h_homes : Has P w K mg base "homes" 4 ["rows"] (spPHomes K)) (h_ends : Has P w K mg base "ends" 4 ["rows"] (spPEnds K)) (h_l_rows_alike : Has P w K mg base "_law_rows_alike" 1 ["_law_rows", "_law_kept"] (spAlike K)) :
    FnOk P w K mg base CX0 6 f fd ["_law_script"] (spLaw K) := by
  refine F.ok sc_law (fun vs H Q E h => ?_) (fun cdv A outer s H vs Q E hr h => ?_)
  · obtain ⟨a, ns, rfl, _⟩ := h
    rfl
  · obtain ⟨a, ns, rfl, hS, hlen, q⟩ := h
    refine ⟨_, (pss_cons (ps_set (i := 1) sc_law.nd rfl (Or.inl rfl) (pe_own h_l_drawn (hr.mono (by decide)) (by rfl) (pa_cons (pv 0) (pa_cons pe_int pa_nil)))) (pss_cons (ps_set (i := 2) sc_law.nd rfl (Or.inl rfl) (pe_callTy (show CallR _ _ (rListS K) from call_list_of) (by rfl) T.list_ (by decide +kernel) (pa_cons (pv 1) pa_nil))) (pss_cons (ps_set (i := 3) sc_law.nd rfl (Or.inl rfl) (pe_own h_l_homes (hr.mono (by decide)) (by rfl) (pa_cons (pv 1) pa_nil))) (pss_cons (ps_set (i := 4) sc_law.nd rfl (Or.inl rfl) (pe_lst pa_nil)) (pss_cons (ps_for PassesOwn.never rfl (pi_enum (by rfl) T.enumerate_ (pa_cons (pv 1) pa_nil)) (pg_tup rfl (pgs_cons (pg_name (i := 5) sc_law.nd rfl (Or.inl rfl)) (pgs_cons (pg_name (i := 6) sc_law.nd rfl (Or.inl rfl)) pgs_nil))) (pss_cons (ps_if (PW.pt (pw_and (pt_cmpR op_eq (pe_ix (show IxR _ (rIxT K) from ix_tup) (pv 6) pe_int (fun _ _ => rfl)) pe_str (nomark _)) (pw_and1 (pt_not (pt_val (pe_own h_l_numbers (hr.mono (by decide)) (by rfl) (pa_cons (pe_own h_branches (hr.mono (by decide)) (by rfl) (pa_cons (pv 2) (pa_cons (pv 5) pa_nil))) (pa_cons (pe_own h_l_starts (hr.mono (by decide)) (by rfl) (pa_cons (pv 1) (pa_cons (pv 3) (pa_cons (pv 5) pa_nil)))) pa_nil)))))))) (pss_one (ps_ret pe_bl)) pss_nil) (pss_cons (ps_expr (pe_bm PySem.F.plainAttrs_list PySem.F.slot_list_append PySem.F.type_list_append mt_append (pv 4) (pa_cons (pe_un un_neg pe_int) pa_nil))) (pss_one (ps_if (pt_cmpR (show OpR _ _ (rIn K false) from op_in_seq) (pe_ix (show IxR _ (rIxT K) from ix_tup) (pv 6) pe_int (fun _ _ => rfl)) (pe_lst (pa_cons pe_str (pa_cons pe_str (pa_cons pe_str (pa_cons pe_str pa_nil))))) (by rfl)) (pss_one (ps_asg (pe_own h_l_last (hr.mono (by decide)) (by rfl) (pa_cons (pv 1) (pa_cons (pv 3) (pa_cons (pv 5) pa_nil)))) (pg_sub (pv 4) (pv 5) set_list))) pss_nil))))) (pss_cons (ps_set (i := 7) sc_law.nd rfl (Or.inl rfl) (pe_own h_homes (hr.mono (by decide)) (by rfl) (pa_cons (pv 2) pa_nil))) (pss_cons (ps_set (i := 8) sc_law.nd rfl (Or.inl rfl) (pe_own h_ends (hr.mono (by decide)) (by rfl) (pa_cons (pv 2) pa_nil))) (pss_cons (ps_if (PW.pt (pw_or (pt_not (pt_val (pe_own h_l_numbers (hr.mono (by decide)) (by rfl) (pa_cons (pv 7) (pa_cons (pv 3) pa_nil))))) (pw_or1 (pt_not (pt_val (pe_own h_l_numbers (hr.mono (by decide)) (by rfl) (pa_cons (pv 8) (pa_cons (pv 4) pa_nil)))))))) (pss_one (ps_ret pe_bl)) pss_nil) (pss_cons (ps_expr (pe_bm PySem.F.plainAttrs_list PySem.F.slot_list_append PySem.F.type_list_append mt_append (pv 7) (pa_cons pe_int pa_nil))) (pss_cons (ps_expr (pe_bm PySem.F.plainAttrs_list PySem.F.slot_list_append PySem.F.type_list_append mt_append (pv 8) (pa_cons pe_int pa_nil))) (pss_cons (ps_if (PW.pt (pw_or (pt_not (pt_val (pe_own h_l_numbers (hr.mono (by decide)) (by rfl) (pa_cons (pe_own h_homes (hr.mono (by decide)) (by rfl) (pa_cons (pv 2) pa_nil)) (pa_cons (pv 3) pa_nil))))) (pw_or1 (pt_not (pt_val (pe_own h_l_numbers (hr.mono (by decide)) (by rfl) (pa_cons (pe_own h_ends (hr.mono (by decide)) (by rfl) (pa_cons (pv 2) pa_nil)) (pa_cons (pv 4) pa_nil)))))))) (pss_one (ps_ret pe_bl)) pss_nil) (pss_cons (ps_set (i := 2) sc_law.nd rfl (Or.inl rfl) (pe_op op_cat (pv 2) (pe_lst (pa_cons (pe_tup (pa_cons pe_str pa_nil)) (pa_cons (pe_tup (pa_cons pe_str pa_nil)) (pa_cons (pe_tup (pa_cons pe_str pa_nil)) pa_nil)))))) (pss_cons (ps_set (i := 9) sc_law.nd rfl (Or.inl rfl) (pe_callB (show CallR _ _ (rLenS K) from call_len_seq) (by rfl) T.len_ (by decide +kernel) (pa_cons (pv 1) pa_nil))) (pss_cons (ps_if (PW.pt (pw_or (pt_cmpR (show OpR _ _ (rNeD K) from op_neD hr.units) (pe_own h_branches (hr.mono (by decide)) (by rfl) (pa_cons (pv 2) (pa_cons (pv 9) pa_nil))) (pe_lst (pa_cons (pe_op op_add (pv 9) pe_int) (pa_cons (pe_op op_add (pv 9) pe_int) pa_nil))) (nomark _)) (pw_or1 (pt_cmpR (show OpR _ _ (rNeD K) from op_neD hr.units) (pe_own h_homes (hr.mono (by decide)) (by rfl) (pa_cons (pv 2) pa_nil)) (pe_op op_cat (pv 3) (pe_lst (pa_cons (pe_un un_neg pe_int) (pa_cons (pv 9) (pa_cons (pv 9) pa_nil))))) (nomark _))))) (pss_one (ps_ret pe_bl)) pss_nil) (pss_cons (ps_if (pt_cmpR (show OpR _ _ (rNeD K) from op_neD hr.units) (pe_own h_ends (hr.mono (by decide)) (by rfl) (pa_cons (pv 2) pa_nil)) (pe_op op_cat (pv 4) (pe_lst (pa_cons (pe_op op_add (pv 9) pe_int) (pa_cons (pe_un un_neg pe_int) (pa_cons (pe_un un_neg pe_int) pa_nil))))) (nomark _)) (pss_one (ps_ret pe_bl)) pss_nil) (pss_cons (ps_set (i := 2) sc_law.nd rfl (Or.inl rfl) (pe_slice sl_list (pv 2) po_none (po_some (pv 9)))) (pss_one (ps_ret (pe_own h_l_rows_alike (hr.mono (by decide)) (by rfl) (pa_cons (pv 2) (pa_cons (pv 1) pa_nil))))))))))))))))))))), ?_⟩
    show (_ : L2.TS) _ [_, _, _, _, _, _, _, _, _, _] _
    -- the sheet
    refine q_asgP (ep_drawn (a := a) (ns := ns) (most := 24) ?_ hS (by decide) (by decide)) (fun v H1 e1 hv => ?_)
    · walk_at "ev"
    show (_ : L2.TS) _ [_, _, _, _, _, _, _, _, _, _] _
    have hg : run 0 (drawnM ns 24) = some 0 := run_drawn ns 24
    have hrs : ∀ r ∈ drawnM ns 24, RowS r := drawn_s ns 24
    have ok : OrOk (drawnM ns 24) := orok_sheet (sheet_drawn ns 24)
    have hdl : (drawnM ns 24).length ≤ 1500 := drawn_len ns (by decide) (by decide)
    generalize drawnM ns 24 = rs at *
    have g : Good rs := good_of hg
    have gx0 : OrOk rs := ok
    have okx : OrOk (rs ++ tail3) := orok_ext g ok
    have gx : Good (rs ++ tail3) := good_of (run_ext hg)
    have elx : (rs ++ tail3).length = rs.length + 3 := by rw [List.length_append]; rfl
    obtain ⟨p1, rv, rfl, hp1, hR⟩ := hv
    have hlr := hR.len
    have hP1 : SqL K H1 p1 rv := sq_of hp1
    clear e1 hS
    -- kept = list(rows)
    refine q_asgL (xs := rv) (el_list (ev_var rfl) hP1) (fun p2 H2 hp2 e2 h2 => ?_)
    show (_ : L2.TS) _ [_, _, _, _, _, _, _, _, _, _] _
    have hP2 : SqL K H2 p2 rv := sq_of h2
    -- home
    refine q_asgL (xs := homesV rs rs.length) (el_lhomes ?_ (ex_l e2 hP1) (hR.up e2) g (by omega)) (fun ph H3 hph e3 h3 => ?_)
    · walk_at "ev"
    show (_ : L2.TS) _ [_, _, _, _, _, _, _, _, _, _] _
    have hP3 : SqL K H3 ph (homesV rs rs.length) := sq_of h3
    have hR3 : Rows H3 rv rs := (hR.up e2).up e3
    have hA3 : SqL K H3 p1 rv := ex_l e3 (ex_l e2 hP1)
    have hB3 : SqL K H3 p2 rv := ex_l e3 hP2
    have h23 : H3 p2 = some (.lst rv) := e3 _ _ h2
    clear e2 e3 hP1 hP2 hR hp1 h2 hp2 hph
    -- last_here = []
    refine q_asgL (xs := []) ?_ (fun pl H4 hpl e4 h4 => ?_)
    · walk_at "ev"
    show (_ : L2.TS) _ [_, _, _, _, _, _, _, _, _, _] _
    refine q_forE (K := K) (a := p1) (xs := rv) (ev_var rfl) (ex_l e4 hA3) (fun i σ' H' => Ex H3 H' ∧ H' pl = some (.lst (lhV rs i)) ∧ ∃ x5 x6, σ' = [some (.ref a), some (.ref p1), some (.ref p2), some (.ref ph), some (.ref pl), x5, x6, none, none, none]) ?_ (fun i σ' H' _ h => ex_l h.1 hA3) ?_ ?_
    · intro H5 e5
      exact ⟨e4.trans e5, e5 _ _ h4, none, none, rfl⟩
    · rintro i x σ' H' H5 hi ⟨eH, hf, x5, x6, rfl⟩ e5
      obtain ⟨r, hr1, hX⟩ := hR3.at hi
      have hi' : i < rv.length := (List.getElem?_eq_some_iff.mp hi).1
      have e35 : Ex H3 H5 := eH.trans e5
      have hX5 : IsRow H5 x r := hX.up e35
      refine q_when (b := false) ?_ (fun hb _ _ => by cases hb) (fun _ H6 e6 => ?_)
      · refine et_is (et_and (a := r.isEither) (b := false) ?_ (fun hei => et_is (et_not (et_B (ev_numbersLL (ns := ((i : Int) + 1) :: ((List.range rs.length).filter (orF rs i)).map fun (p : Nat) => (p : Int) + 1) ?_ ?_ ?_))) rfl)) (Bool.and_false _)
        · rw [← tag_either]
          walk_at "ev"
        · rw [← brV_ints]
          refine el_branches ?_ (ex_l e35 hB3) (hR3.up e35) g ok (by omega) (by cases r <;> first | exact hr1 | cases hei)
          walk_at "ev"
        · rw [← brV_ints]
          refine el_starts (a := p1) (hh := ph) (rv := rv) ?_ (ex_l e35 hA3) (hR3.up e35) (ex_l e35 hP3) (by omega) (by omega)
          walk_at "ev"
        · rw [List.length_cons, List.length_map]
          have := List.length_filter_le (orF rs i) (List.range rs.length)
          rw [List.length_range] at this
          omega
      · have hf6 : H6 pl = some (.lst (lhV rs i)) := e6 _ _ (e5 _ _ hf)
        refine q_app (l := pl) (xs := lhV rs i) (v := .int (-1)) hf6 (ev_var rfl) ?_ (by rw [lhV_len]; omega) (fun H7 e7 => ?_)
        · walk_at "ev"
        have e37 : Ex H3 (upd H7 pl (.lst (lhV rs i ++ [.int (-1)]))) := Ex.mut (e35.trans (e6.trans e7)) hpl
        have hX7 : IsRow (upd H7 pl (.lst (lhV rs i ++ [.int (-1)]))) x r := hX.up e37
        have hf7 : (upd H7 pl (.lst (lhV rs i ++ [.int (-1)]))) pl = some (.lst (lhV rs i ++ [.int (-1)])) := upd_same
        generalize upd H7 pl (.lst (lhV rs i ++ [.int (-1)])) = H8 at *
        have hop : opAt rs i = r.opens := by unfold opAt; rw [hr1]
        refine s_when (b := r.opens) ?_ (fun hro H9 e9 => ?_) (fun hro H9 e9 => ?_)
        · rw [← tag_opens]
          walk_at "ev"
        · refine s_setL (l := pl) (xs := lhV rs i ++ [.int (-1)]) (j := i) (v := .int (endUp rs i rs.length)) (e9 _ _ hf7) (ev_last (a := p1) (hh := ph) (n := i) (rv := rv) (rs := rs) ?_ (ex_l (e37.trans e9) hA3) (hR3.up (e37.trans e9)) (ex_l (e37.trans e9) hP3) (by omega) (by omega)) (ev_var rfl) (ev_var rfl) (by rw [List.length_append, lhV_len]; exact Nat.lt_succ_self i) (fun H10 e10 => ?_)
          · walk_at "ev"
          · dsimp only
            have es : (lhV rs i ++ [V.int (-1)]).set i (V.int (endUp rs i rs.length)) = lhV rs (i + 1) := by
              rw [lhV_next, hop, hro, if_pos rfl, List.set_append_right _ _ (by rw [lhV_len]; exact Nat.le_refl _), lhV_len, Nat.sub_self]
              rfl
            rw [es]
            exact ⟨Ex.mut (e37.trans (e9.trans e10)) hpl, upd_same, _, _, rfl⟩
        · refine ⟨e37.trans e9, ?_, _, _, rfl⟩
          have es : lhV rs i ++ [.int (-1)] = lhV rs (i + 1) := by
            rw [lhV_next, hop, hro, if_neg (by decide)]
          rw [← es]
          exact e9 _ _ hf7
    · rintro σ' H5 ⟨e5, hl5, x5, x6, rfl⟩
      rw [hlr, lhV_ends] at hl5
      have hL5 : SqL K H5 pl (endsV rs rs.length) := sq_of hl5
      have hA5 := ex_l e5 hA3
      have hB5 := ex_l e5 hB3
      have hM5 := ex_l e5 hP3
      have hR5 := hR3.up e5
      have hk5 := e5 _ _ h23
      have hh5 := e5 _ _ h3
      clear e4 h4 hpl hA3 hB3 hP3 hR3 h23 h3
      clear e5
      -- found = homes(kept), other = ends(kept)
      refine q_asgL (xs := homesV rs rs.length) (el_homes ?_ hB5 hR5 g ok (by omega)) (fun pf H6 hpf e6 h6 => ?_)
      · walk_at "ev"
      show (_ : L2.TS) _ [_, _, _, _, _, _, _, _, _, _] _
      refine q_asgL (xs := endsV rs rs.length) (el_ends ?_ (ex_l e6 hB5) (hR5.up e6) g ok (by omega)) (fun po H7 hpo e7 h7 => ?_)
      · walk_at "ev"
      show (_ : L2.TS) _ [_, _, _, _, _, _, _, _, _, _] _
      have e57 : Ex H5 H7 := e6.trans e7
      have hlh : ((List.range rs.length).map (hm rs)).length ≤ 40000 := by rw [List.length_map, List.length_range]; omega
      have hle : ((List.range rs.length).map fun a => if opAt rs a = true then endUp rs a rs.length else -1).length ≤ 40000 := by rw [List.length_map, List.length_range]; omega
      refine q_when (b := false) ?_ (fun hb _ _ => by cases hb) (fun _ H8 e8 => ?_)
      · refine et_is (et_or (et_not (et_B (ev_numbersA (p := pf) (q := ph) (ns := (List.range rs.length).map (hm rs)) ?_ ?_ ?_ hlh))) (fun _ => et_not (et_B (ev_numbersA (p := po) (q := pl) (ns := (List.range rs.length).map fun a => if opAt rs a = true then endUp rs a rs.length else -1) ?_ ?_ ?_ hle)))) rfl
        · walk_at "ev"
        · rw [← homesV_ints]; exact e7 _ _ h6
        · rw [← homesV_ints]; exact ex_l e57 hM5
        · walk_at "ev"
        · rw [← endsV_ints]; exact h7
        · rw [← endsV_ints]; exact ex_l e57 hL5
      -- found.append(7), other.append(7)
      refine q_app (l := pf) (xs := homesV rs rs.length) (v := .int 7) (e8 _ _ (e7 _ _ h6)) (ev_var rfl) ?_ (by rw [homesV_len]; omega) (fun H9 e9 => ?_)
      · walk_at "ev"
      have e5a : Ex H5 (upd H9 pf (.lst (homesV rs rs.length ++ [.int 7]))) := Ex.mut (e57.trans (e8.trans e9)) hpf
      have hpoH5 : H5 po = none := fresh_back e6 hpo
      have hne : po ≠ pf := (ne_of_none h6 hpo).symm
      have hoa : (upd H9 pf (.lst (homesV rs rs.length ++ [.int 7]))) po = some (.lst (endsV rs rs.length)) := by
        rw [upd_ne hne]
        exact e9 _ _ (e8 _ _ h7)
      generalize upd H9 pf (.lst (homesV rs rs.length ++ [.int 7])) = Ha at *
      clear e6 e7 e57 e8 e9 h6 h7 hpf hpo hne
      refine q_app (l := po) (xs := endsV rs rs.length) (v := .int 7) hoa (ev_var rfl) ?_ (by rw [endsV_len]; omega) (fun Hb eb => ?_)
      · walk_at "ev"
      have e5b : Ex H5 (upd Hb po (.lst (endsV rs rs.length ++ [.int 7]))) := Ex.mut (e5a.trans eb) hpoH5
      generalize upd Hb po (.lst (endsV rs rs.length ++ [.int 7])) = Hc at *
      clear e5a hoa eb hpoH5
      have hAc := ex_l e5b hA5
      have hBc := ex_l e5b hB5
      have hMc := ex_l e5b hM5
      have hLc := ex_l e5b hL5
      have hRc := hR5.up e5b
      have hkc := e5b _ _ hk5
      have hhc := e5b _ _ hh5
      have hlc := e5b _ _ hl5
      clear e5b hA5 hB5 hM5 hL5 hR5 hk5 hh5 hl5
      refine q_when (b := false) ?_ (fun hb _ _ => by cases hb) (fun _ Hd ed => ?_)
      · refine et_is (et_or (et_not (et_B (ev_numbersL (q := ph) (ns := (List.range rs.length).map (hm rs)) ?_ (ev_var rfl) ?_ hlh))) (fun _ => et_not (et_B (ev_numbersL (q := pl) (ns := (List.range rs.length).map fun a => if opAt rs a = true then endUp rs a rs.length else -1) ?_ (ev_var rfl) ?_ hle)))) rfl
        · rw [← homesV_ints]
          refine el_homes ?_ hBc hRc g ok (by omega)
          walk_at "ev"
        · rw [← homesV_ints]; exact hMc
        · rw [← endsV_ints]
          refine el_ends ?_ hBc hRc g ok (by omega)
          walk_at "ev"
        · rw [← endsV_ints]; exact hLc
      -- kept = kept + [either, or, end]
      refine q_asgPL (elr_catX (p := p2) (xs := rv) (rs := rs) (ss := tail3) (ev_var rfl) (ed _ _ hkc) (hRc.up ed) ?_ (by show rs.length + 3 ≤ 100000; omega)) (fun p4 us He hp4 ee h4 hus => ?_)
      · show EvP _ _ _ (LRows [.either, .or, .fin])
        walk_at "row"
      show (_ : L2.TS) _ [_, _, _, _, _, _, _, _, _, _] _
      obtain ⟨ys, rfl, hRe⟩ := hus
      have ece : Ex Hc He := ed.trans ee
      have hP4 : SqL K He p4 (rv ++ ys) := sq_of h4
      refine' q_asg (v := .int (rs.length : Int)) ?_ (fun Hf ef => ?_)
      · rw [← hlr]
        have hAe : SqL K He p1 rv := ex_l ece hAc
        clear ece ed ee
        walk_at "ev"
      show (_ : L2.TS) _ [_, _, _, _, _, _, _, _, _, _] _
      have ecf : Ex Hc Hf := ece.trans ef
      have hP4f : SqL K Hf p4 (rv ++ ys) := ex_l ef hP4
      have hRf : Rows Hf (rv ++ ys) (rs ++ tail3) := hRe.up ef
      have hhf := ecf _ _ hhc
      have hlf := ecf _ _ hlc
      have hAf := ex_l ecf hAc
      have hR1f := hRc.up ecf
      clear ece ed ee hP4 hRe hAc hBc hMc hLc hRc hkc hhc hlc h4
      clear ef ecf
      refine q_when (b := false) ?_ (fun hb _ _ => by cases hb) (fun _ Hg eg => ?_)
      · refine et_is (et_or (a := false) (b := false) (et_test (ev_neLL (ns := [(rs.length : Int) + 1, (rs.length : Int) + 2]) ?_ ?_)) (fun _ => et_test (ev_neLL (ns := (List.range rs.length).map (hm rs) ++ [-1, (rs.length : Int), (rs.length : Int)]) ?_ ?_))) rfl
        · show EvL _ _ _ [.int ((rs.length : Int) + 1), .int ((rs.length : Int) + 2)]
          rw [← ext_br g, ← elx]
          refine el_branches ?_ hP4f hRf gx okx (by omega) ext0
          walk_at "ev"
        · show EvL _ _ _ [.int ((rs.length : Int) + 1), .int ((rs.length : Int) + 2)]
          walk_at "ev"
        · rw [List.map_append, ← homesV_ints]
          show EvL _ _ _ (homesV rs rs.length ++ [.int (-1), .int (rs.length : Int), .int (rs.length : Int)])
          rw [← ext_homes g, ← elx]
          refine el_homes ?_ hP4f hRf gx okx (by omega)
          walk_at "ev"
        · rw [List.map_append, ← homesV_ints]
          show EvL _ _ _ (homesV rs rs.length ++ [.int (-1), .int (rs.length : Int), .int (rs.length : Int)])
          refine el_catV (p := ph) (ev_var rfl) hhf ?_ (by rw [homesV_len]; show rs.length + 3 ≤ 100000; omega)
          walk_at "ev"
      refine q_when (b := false) ?_ (fun hb _ _ => by cases hb) (fun _ Hi ei => ?_)
      · refine et_test (ev_neLL (ns := ((List.range rs.length).map fun a => if opAt rs a = true then endUp rs a rs.length else -1) ++ [(rs.length : Int) + 2, -1, -1]) ?_ ?_)
        · rw [List.map_append, ← endsV_ints]
          show EvL _ _ _ (endsV rs rs.length ++ [.int ((rs.length : Int) + 2), .int (-1), .int (-1)])
          rw [← ext_ends g, ← elx]
          refine el_ends ?_ (ex_l eg hP4f) (hRf.up eg) gx okx (by omega)
          walk_at "ev"
        · rw [List.map_append, ← endsV_ints]
          show EvL _ _ _ (endsV rs rs.length ++ [.int ((rs.length : Int) + 2), .int (-1), .int (-1)])
          refine el_catV (p := pl) (ev_var rfl) (eg _ _ hlf) ?_ (by rw [endsV_len]; show rs.length + 3 ≤ 100000; omega)
          walk_at "ev"
      have egi : Ex Hf Hi := eg.trans ei
      -- kept = kept[:size]
      refine q_asgL (xs := rv) ?_ (fun p5 Hj hp5 ej h5 => ?_)
      · have hc := cut_to rv ys
        rw [hlr] at hc
        rw [← hc]
        refine el_sl (ev_var rfl) eo_none (eo_some (ev_var rfl)) ?_
        exact ex_l egi hP4f
      show (_ : L2.TS) _ [_, _, _, _, _, _, _, _, _, _] _
      refine s_ret (v := .bl true) (ev_alike (p := p5) (q := p1) (xs := rv) (rs := rs) ?_ h5 (ex_l (egi.trans ej) hAf) (hR1f.up (egi.trans ej)) hrs (by omega)) (fun Hk ek => q Hk)
      walk_at "ev"
end
end BD
namespace BD
open PySem PySem.Spec PyProof.Rows L2 Evl
local macro_rules | `(tactic| walk_at "ev") => `(tactic| first
  | ((with_reducible apply ev_var) ; rfl)
  | with_reducible exact ev_c
  | ((with_reducible apply ev_I0) <;> walk_at "ev")
  | ((with_reducible apply ev_e9) <;> walk_at "ev")
  | ((with_reducible apply ev_I) <;> walk_at "ev")
  | ((with_reducible apply ev_eq) <;> walk_at "ev")
  | ((with_reducible apply ev_ne) <;> walk_at "ev")
  | ((with_reducible apply ev_neg) <;> walk_at "ev")
  | ((with_reducible apply ev_ixN) <;> walk_at "ev")
  | ((with_reducible apply ev_ixL) <;> walk_at "ev")
  | ((with_reducible apply ev_inN) <;> walk_at "ev")
  | ((with_reducible apply ev_inT) <;> walk_at "ev")
  | ((with_reducible apply ev_ixT) <;> walk_at "ev")
  | ((with_reducible apply ev_ixS) <;> walk_at "ev")
  | ((with_reducible apply ev_len') <;> walk_at "ev")
  | ((with_reducible apply et_test) <;> walk_at "ev")
  | ((with_reducible apply et_and) <;> walk_at "ev")
  | ((with_reducible apply et_or) <;> walk_at "ev")
  | ((with_reducible apply et_not) <;> walk_at "ev")
  | ((with_reducible apply et_B) <;> walk_at "ev")
  | ((with_reducible apply el_lst) <;> walk_at "ev")
  | ((with_reducible apply eu_tup) <;> walk_at "ev")
  | ((with_reducible apply ea_cons) <;> walk_at "ev")
  | with_reducible exact ea_nil
  | with_reducible assumption
  | ((with_reducible apply ex_l' ; assumption) ; walk_at "ex")
  | ((with_reducible apply ex_t' ; assumption) ; walk_at "ex")
  | (intro _ ; walk_at "ev")
  | (with_reducible first | exact atI_hd | exact at_kind | exact at2s | exact at3s | exact at3i)
  | (first | exact rfl | exact Nat.le_of_ble_eq_true rfl | exact ⟨by decide, by decide⟩ | decide | exact Or.inl ⟨by omega, by omega⟩ | exact Or.inr ⟨by omega, by omega⟩ | omega)
  | skip)
local macro_rules | `(tactic| walk_at "ex") => `(tactic| first
  | assumption
  | exact Ex.refl _
  | (refine' Ex.trans ?_ (by assumption) ; walk_at "ex"))
local macro_rules | `(tactic| walk_at "row") => `(tactic| first
  | (with_reducible exact er_nil)
  | ((with_reducible apply er_cons) <;> walk_at "row")
  | (((with_reducible apply er_var) ; rfl) ; walk_at "isrow")
  | (((with_reducible apply elr_var) ; rfl) ; walk_at "isrow")
  | ((with_reducible apply elr_cat) <;> walk_at "row")
  | ((with_reducible apply elr_lst) <;> walk_at "row")
  | ((with_reducible apply er_fin) <;> walk_at "ev")
  | ((with_reducible apply er_lendT) <;> walk_at "ev")
  | ((with_reducible apply er_lendW) <;> walk_at "ev")
  | ((with_reducible apply er_pick) <;> walk_at "ev")
  | ((with_reducible apply er_either) <;> walk_at "ev")
  | ((with_reducible apply er_or) <;> walk_at "ev")
  | ((with_reducible apply er_again) <;> walk_at "ev")
  | ((with_reducible apply er_back) <;> walk_at "ev")
  | ((with_reducible apply er_look) <;> walk_at "ev")
  | ((with_reducible apply er_change) <;> walk_at "ev")
  | exact Nat.le_of_ble_eq_true rfl
  | skip)
local macro_rules | `(tactic| walk_at "isrow") => `(tactic| first
  | assumption
  | (refine IsRow.up ?_ (by assumption) ; walk_at "ex")
  | (refine LRows.up ?_ (by assumption) ; walk_at "ex"))

theorem all_mk {l : PySem.W.OpenLaw} {w : World} {K : PySem.W.Frag} {h : Heap} {mg : Str → Option Value} {fa f24 f1 f2 f3 f4 f5 f6 f7 f8 f9 f10 f11 f12 f13 f14 f15 f16 f17 f18 f19 f20 f21 f22 f23 fO CB : Addr} (X : K.In h) (G : h.Ns mainGlobals mg) (hfa : mg "law" = some (.ref fa))
    {od1 an1 : Option Addr} {sl1 : Array (Option Value)} {oc1 kV1 dc1 pm1 cd1 ct1 : Value}
    (a1 : PySem.W.nsIn K mainGlobals "opens" = some (some (.ref f1))) (l1 : K.lookup f1 = some ⟨oc1, od1, .func (PySem.W.fnOf "opens" "opens" (defArgs s_opens) (defBody s_opens) (defScope s_opens) .none kV1 dc1 pm1 an1 cd1 ct1), sl1⟩) (c1 : PySem.W.codeIn K cd1 "opens" = true) (k1 : PySem.W.keepIn K (.ref f1) = true)
    {od2 an2 : Option Addr} {sl2 : Array (Option Value)} {oc2 kV2 dc2 pm2 cd2 ct2 : Value}
    (a2 : PySem.W.findIn K (.ref CB) "__init__" = some (some (.ref f2))) (l2 : K.lookup f2 = some ⟨oc2, od2, .func (PySem.W.fnOf "__init__" "Blocks.__init__" (defArgs s_Blocks_init) (defBody s_Blocks_init) (defScope s_Blocks_init) .none kV2 dc2 pm2 an2 cd2 ct2), sl2⟩) (c2 : PySem.W.codeIn K cd2 "Blocks.__init__" = true) (k2 : PySem.W.keepIn K (.ref f2) = true)
    {od3 an3 : Option Addr} {sl3 : Array (Option Value)} {oc3 kV3 dc3 pm3 cd3 ct3 : Value}
    (a3 : PySem.W.nsIn K mainGlobals "homes" = some (some (.ref f3))) (l3 : K.lookup f3 = some ⟨oc3, od3, .func (PySem.W.fnOf "homes" "homes" (defArgs s_homes) (defBody s_homes) (defScope s_homes) .none kV3 dc3 pm3 an3 cd3 ct3), sl3⟩) (c3 : PySem.W.codeIn K cd3 "homes" = true) (k3 : PySem.W.keepIn K (.ref f3) = true)
    {od4 an4 : Option Addr} {sl4 : Array (Option Value)} {oc4 kV4 dc4 pm4 cd4 ct4 : Value}
    (a4 : PySem.W.nsIn K mainGlobals "ends" = some (some (.ref f4))) (l4 : K.lookup f4 = some ⟨oc4, od4, .func (PySem.W.fnOf "ends" "ends" (defArgs s_ends) (defBody s_ends) (defScope s_ends) .none kV4 dc4 pm4 an4 cd4 ct4), sl4⟩) (c4 : PySem.W.codeIn K cd4 "ends" = true) (k4 : PySem.W.keepIn K (.ref f4) = true)
    {od5 an5 : Option Addr} {sl5 : Array (Option Value)} {oc5 kV5 dc5 pm5 cd5 ct5 : Value}
    (a5 : PySem.W.nsIn K mainGlobals "branches" = some (some (.ref f5))) (l5 : K.lookup f5 = some ⟨oc5, od5, .func (PySem.W.fnOf "branches" "branches" (defArgs s_branches) (defBody s_branches) (defScope s_branches) .none kV5 dc5 pm5 an5 cd5 ct5), sl5⟩) (c5 : PySem.W.codeIn K cd5 "branches" = true) (k5 : PySem.W.keepIn K (.ref f5) = true)
    {od6 an6 : Option Addr} {sl6 : Array (Option Value)} {oc6 kV6 dc6 pm6 cd6 ct6 : Value}
    (a6 : PySem.W.nsIn K mainGlobals "_law_cell_at" = some (some (.ref f6))) (l6 : K.lookup f6 = some ⟨oc6, od6, .func (PySem.W.fnOf "_law_cell_at" "_law_cell_at" (defArgs s_l_cell_at) (defBody s_l_cell_at) (defScope s_l_cell_at) .none kV6 dc6 pm6 an6 cd6 ct6), sl6⟩) (c6 : PySem.W.codeIn K cd6 "_law_cell_at" = true) (k6 : PySem.W.keepIn K (.ref f6) = true)
    {od7 an7 : Option Addr} {sl7 : Array (Option Value)} {oc7 kV7 dc7 pm7 cd7 ct7 : Value}
    (a7 : PySem.W.nsIn K mainGlobals "_law_word" = some (some (.ref f7))) (l7 : K.lookup f7 = some ⟨oc7, od7, .func (PySem.W.fnOf "_law_word" "_law_word" (defArgs s_l_word) (defBody s_l_word) (defScope s_l_word) .none kV7 dc7 pm7 an7 cd7 ct7), sl7⟩) (c7 : PySem.W.codeIn K cd7 "_law_word" = true) (k7 : PySem.W.keepIn K (.ref f7) = true)
    {od8 an8 : Option Addr} {sl8 : Array (Option Value)} {oc8 kV8 dc8 pm8 cd8 ct8 : Value}
    (a8 : PySem.W.nsIn K mainGlobals "_law_draw" = some (some (.ref f8))) (l8 : K.lookup f8 = some ⟨oc8, od8, .func (PySem.W.fnOf "_law_draw" "_law_draw" (defArgs s_l_draw) (defBody s_l_draw) (defScope s_l_draw) .none kV8 dc8 pm8 an8 cd8 ct8), sl8⟩) (c8 : PySem.W.codeIn K cd8 "_law_draw" = true) (k8 : PySem.W.keepIn K (.ref f8) = true)
    {od9 an9 : Option Addr} {sl9 : Array (Option Value)} {oc9 kV9 dc9 pm9 cd9 ct9 : Value}
    (a9 : PySem.W.nsIn K mainGlobals "_law_thing" = some (some (.ref f9))) (l9 : K.lookup f9 = some ⟨oc9, od9, .func (PySem.W.fnOf "_law_thing" "_law_thing" (defArgs s_l_thing) (defBody s_l_thing) (defScope s_l_thing) .none kV9 dc9 pm9 an9 cd9 ct9), sl9⟩) (c9 : PySem.W.codeIn K cd9 "_law_thing" = true) (k9 : PySem.W.keepIn K (.ref f9) = true)
    {od10 an10 : Option Addr} {sl10 : Array (Option Value)} {oc10 kV10 dc10 pm10 cd10 ct10 : Value}
    (a10 : PySem.W.nsIn K mainGlobals "_law_lend" = some (some (.ref f10))) (l10 : K.lookup f10 = some ⟨oc10, od10, .func (PySem.W.fnOf "_law_lend" "_law_lend" (defArgs s_l_lend) (defBody s_l_lend) (defScope s_l_lend) .none kV10 dc10 pm10 an10 cd10 ct10), sl10⟩) (c10 : PySem.W.codeIn K cd10 "_law_lend" = true) (k10 : PySem.W.keepIn K (.ref f10) = true)
    {od11 an11 : Option Addr} {sl11 : Array (Option Value)} {oc11 kV11 dc11 pm11 cd11 ct11 : Value}
    (a11 : PySem.W.nsIn K mainGlobals "_law_deed" = some (some (.ref f11))) (l11 : K.lookup f11 = some ⟨oc11, od11, .func (PySem.W.fnOf "_law_deed" "_law_deed" (defArgs s_l_deed) (defBody s_l_deed) (defScope s_l_deed) .none kV11 dc11 pm11 an11 cd11 ct11), sl11⟩) (c11 : PySem.W.codeIn K cd11 "_law_deed" = true) (k11 : PySem.W.keepIn K (.ref f11) = true)
    {od12 an12 : Option Addr} {sl12 : Array (Option Value)} {oc12 kV12 dc12 pm12 cd12 ct12 : Value}
    (a12 : PySem.W.nsIn K mainGlobals "_law_row" = some (some (.ref f12))) (l12 : K.lookup f12 = some ⟨oc12, od12, .func (PySem.W.fnOf "_law_row" "_law_row" (defArgs s_l_row) (defBody s_l_row) (defScope s_l_row) .none kV12 dc12 pm12 an12 cd12 ct12), sl12⟩) (c12 : PySem.W.codeIn K cd12 "_law_row" = true) (k12 : PySem.W.keepIn K (.ref f12) = true)
    {od13 an13 : Option Addr} {sl13 : Array (Option Value)} {oc13 kV13 dc13 pm13 cd13 ct13 : Value}
    (a13 : PySem.W.nsIn K mainGlobals "_law_hands" = some (some (.ref f13))) (l13 : K.lookup f13 = some ⟨oc13, od13, .func (PySem.W.fnOf "_law_hands" "_law_hands" (defArgs s_l_hands) (defBody s_l_hands) (defScope s_l_hands) .none kV13 dc13 pm13 an13 cd13 ct13), sl13⟩) (c13 : PySem.W.codeIn K cd13 "_law_hands" = true) (k13 : PySem.W.keepIn K (.ref f13) = true)
    {od14 an14 : Option Addr} {sl14 : Array (Option Value)} {oc14 kV14 dc14 pm14 cd14 ct14 : Value}
    (a14 : PySem.W.nsIn K mainGlobals "_law_first_four" = some (some (.ref f14))) (l14 : K.lookup f14 = some ⟨oc14, od14, .func (PySem.W.fnOf "_law_first_four" "_law_first_four" (defArgs s_l_first_four) (defBody s_l_first_four) (defScope s_l_first_four) .none kV14 dc14 pm14 an14 cd14 ct14), sl14⟩) (c14 : PySem.W.codeIn K cd14 "_law_first_four" = true) (k14 : PySem.W.keepIn K (.ref f14) = true)
    {od15 an15 : Option Addr} {sl15 : Array (Option Value)} {oc15 kV15 dc15 pm15 cd15 ct15 : Value}
    (a15 : PySem.W.nsIn K mainGlobals "_law_gadget" = some (some (.ref f15))) (l15 : K.lookup f15 = some ⟨oc15, od15, .func (PySem.W.fnOf "_law_gadget" "_law_gadget" (defArgs s_l_gadget) (defBody s_l_gadget) (defScope s_l_gadget) .none kV15 dc15 pm15 an15 cd15 ct15), sl15⟩) (c15 : PySem.W.codeIn K cd15 "_law_gadget" = true) (k15 : PySem.W.keepIn K (.ref f15) = true)
    {od16 an16 : Option Addr} {sl16 : Array (Option Value)} {oc16 kV16 dc16 pm16 cd16 ct16 : Value}
    (a16 : PySem.W.nsIn K mainGlobals "_law_sheet" = some (some (.ref f16))) (l16 : K.lookup f16 = some ⟨oc16, od16, .func (PySem.W.fnOf "_law_sheet" "_law_sheet" (defArgs s_l_sheet) (defBody s_l_sheet) (defScope s_l_sheet) .none kV16 dc16 pm16 an16 cd16 ct16), sl16⟩) (c16 : PySem.W.codeIn K cd16 "_law_sheet" = true) (k16 : PySem.W.keepIn K (.ref f16) = true)
    {od17 an17 : Option Addr} {sl17 : Array (Option Value)} {oc17 kV17 dc17 pm17 cd17 ct17 : Value}
    (a17 : PySem.W.nsIn K mainGlobals "_law_drawn" = some (some (.ref f17))) (l17 : K.lookup f17 = some ⟨oc17, od17, .func (PySem.W.fnOf "_law_drawn" "_law_drawn" (defArgs s_l_drawn) (defBody s_l_drawn) (defScope s_l_drawn) .none kV17 dc17 pm17 an17 cd17 ct17), sl17⟩) (c17 : PySem.W.codeIn K cd17 "_law_drawn" = true) (k17 : PySem.W.keepIn K (.ref f17) = true)
    {od18 an18 : Option Addr} {sl18 : Array (Option Value)} {oc18 kV18 dc18 pm18 cd18 ct18 : Value}
    (a18 : PySem.W.nsIn K mainGlobals "_law_homes" = some (some (.ref f18))) (l18 : K.lookup f18 = some ⟨oc18, od18, .func (PySem.W.fnOf "_law_homes" "_law_homes" (defArgs s_l_homes) (defBody s_l_homes) (defScope s_l_homes) .none kV18 dc18 pm18 an18 cd18 ct18), sl18⟩) (c18 : PySem.W.codeIn K cd18 "_law_homes" = true) (k18 : PySem.W.keepIn K (.ref f18) = true)
    {od19 an19 : Option Addr} {sl19 : Array (Option Value)} {oc19 kV19 dc19 pm19 cd19 ct19 : Value}
    (a19 : PySem.W.nsIn K mainGlobals "_law_last" = some (some (.ref f19))) (l19 : K.lookup f19 = some ⟨oc19, od19, .func (PySem.W.fnOf "_law_last" "_law_last" (defArgs s_l_last) (defBody s_l_last) (defScope s_l_last) .none kV19 dc19 pm19 an19 cd19 ct19), sl19⟩) (c19 : PySem.W.codeIn K cd19 "_law_last" = true) (k19 : PySem.W.keepIn K (.ref f19) = true)
    {od20 an20 : Option Addr} {sl20 : Array (Option Value)} {oc20 kV20 dc20 pm20 cd20 ct20 : Value}
    (a20 : PySem.W.nsIn K mainGlobals "_law_starts" = some (some (.ref f20))) (l20 : K.lookup f20 = some ⟨oc20, od20, .func (PySem.W.fnOf "_law_starts" "_law_starts" (defArgs s_l_starts) (defBody s_l_starts) (defScope s_l_starts) .none kV20 dc20 pm20 an20 cd20 ct20), sl20⟩) (c20 : PySem.W.codeIn K cd20 "_law_starts" = true) (k20 : PySem.W.keepIn K (.ref f20) = true)
    {od21 an21 : Option Addr} {sl21 : Array (Option Value)} {oc21 kV21 dc21 pm21 cd21 ct21 : Value}
    (a21 : PySem.W.nsIn K mainGlobals "_law_whole" = some (some (.ref f21))) (l21 : K.lookup f21 = some ⟨oc21, od21, .func (PySem.W.fnOf "_law_whole" "_law_whole" (defArgs s_l_whole) (defBody s_l_whole) (defScope s_l_whole) .none kV21 dc21 pm21 an21 cd21 ct21), sl21⟩) (c21 : PySem.W.codeIn K cd21 "_law_whole" = true) (k21 : PySem.W.keepIn K (.ref f21) = true)
    {od22 an22 : Option Addr} {sl22 : Array (Option Value)} {oc22 kV22 dc22 pm22 cd22 ct22 : Value}
    (a22 : PySem.W.nsIn K mainGlobals "_law_rows_alike" = some (some (.ref f22))) (l22 : K.lookup f22 = some ⟨oc22, od22, .func (PySem.W.fnOf "_law_rows_alike" "_law_rows_alike" (defArgs s_l_rows_alike) (defBody s_l_rows_alike) (defScope s_l_rows_alike) .none kV22 dc22 pm22 an22 cd22 ct22), sl22⟩) (c22 : PySem.W.codeIn K cd22 "_law_rows_alike" = true) (k22 : PySem.W.keepIn K (.ref f22) = true)
    {od23 an23 : Option Addr} {sl23 : Array (Option Value)} {oc23 kV23 dc23 pm23 cd23 ct23 : Value}
    (a23 : PySem.W.nsIn K mainGlobals "_law_numbers" = some (some (.ref f23))) (l23 : K.lookup f23 = some ⟨oc23, od23, .func (PySem.W.fnOf "_law_numbers" "_law_numbers" (defArgs s_l_numbers) (defBody s_l_numbers) (defScope s_l_numbers) .none kV23 dc23 pm23 an23 cd23 ct23), sl23⟩) (c23 : PySem.W.codeIn K cd23 "_law_numbers" = true) (k23 : PySem.W.keepIn K (.ref f23) = true)
    {od24 an24 : Option Addr} {sl24 : Array (Option Value)} {oc24 kV24 dc24 pm24 cd24 ct24 : Value}
    (a24 : PySem.W.nsIn K mainGlobals "law" = some (some (.ref f24))) (l24 : K.lookup f24 = some ⟨oc24, od24, .func (PySem.W.fnOf "law" "law" (defArgs s_law) (defBody s_law) (defScope s_law) .none kV24 dc24 pm24 an24 cd24 ct24), sl24⟩) (c24 : PySem.W.codeIn K cd24 "law" = true) (k24 : PySem.W.keepIn K (.ref f24) = true)
    {oO : Obj} {iO : Array Value} {nO : Nat} (aO : PySem.W.nsIn K mainGlobals "OPENERS" = some (some (.ref fO))) (lO : K.lookup fO = some oO) (tO : oO.cls = .type "tuple") (dO : oO.data = .seq iO nO) (zO : iO.size ≤ sizeLine) (vO : Vals [.str "lend", .str "pick", .str "either", .str "again"] iO.toList)
    (aCB : PySem.W.nsIn K mainGlobals "Blocks" = some (some (.ref CB))) (fnCB : PySem.W.isFn K (.ref f2) = true) (pgCB : PySem.W.plainGet K CB Str.empty = true) (hdCB : PySem.W.hasDictIn K CB = true) (poCB : PySem.W.plainOver K CB = true) (saCB : PySem.W.findIn K (.ref CB) "__setattr__" = some (some (.builtin "object.__setattr__"))) (mkCB : PySem.W.makesIn K CB = true) (kcCB : PySem.W.keepIn K (.ref CB) = true) (nCB0 : PySem.W.findIn K (.ref CB) "around" = some none) (nCB1 : PySem.W.findIn K (.ref CB) "closing" = some none) (nCB2 : PySem.W.findIn K (.ref CB) "firsts" = some none)
    (z_len : PySem.W.nsIn K mainGlobals "len" = some none)
    (z_range : PySem.W.nsIn K mainGlobals "range" = some none)
    (z_enumerate : PySem.W.nsIn K mainGlobals "enumerate" = some none)
    (z_zip : PySem.W.nsIn K mainGlobals "zip" = some none)
    (z_list : PySem.W.nsIn K mainGlobals "list" = some none)
    (z_tuple : PySem.W.nsIn K mainGlobals "tuple" = some none)
    (z_isinstance : PySem.W.nsIn K mainGlobals "isinstance" = some none)
    (z_all : PySem.W.nsIn K mainGlobals "all" = some none)
    (z_int : PySem.W.nsIn K mainGlobals "int" = some none)
    (z_bool : PySem.W.nsIn K mainGlobals "bool" = some none)
    (z_str : PySem.W.nsIn K mainGlobals "str" = some none)
    (z_sum : PySem.W.nsIn K mainGlobals "sum" = some none)
    (z_reversed : PySem.W.nsIn K mainGlobals "reversed" = some none)
    : ∃ fd : FuncData, (∀ (s : Shared) (v : Value), BindsTo s fd ⟨[v], []⟩ [("_law_script", v)]) ∧ ∀ base : Heap, K.In base → base.Ns mainGlobals mg → FnOk l.prog w K mg base CX0 6 fa fd ["_law_script"] (spLaw K) := by
  have e := hfa.symm.trans (PySem.W.mg_of X G a24)
  cases e
  have D1 : Dn K mg "opens" s_opens ["row"] := dn_mk X G a1 l1 c1 k1 fun _ _ _ _ _ _ us hl => match us, hl with | [_], _ => rfl
  have F2 := fun_mk (st := s_Blocks_init) l2 c2 k2
  have b2 := F2.binds (ps := ["self", "rows"]) fun _ _ _ _ _ _ us hl => match us, hl with | [_, _], _ => rfl
  have D3 : Dn K mg "homes" s_homes ["rows"] := dn_mk X G a3 l3 c3 k3 fun _ _ _ _ _ _ us hl => match us, hl with | [_], _ => rfl
  have D4 : Dn K mg "ends" s_ends ["rows"] := dn_mk X G a4 l4 c4 k4 fun _ _ _ _ _ _ us hl => match us, hl with | [_], _ => rfl
  have D5 : Dn K mg "branches" s_branches ["rows", "at"] := dn_mk X G a5 l5 c5 k5 fun _ _ _ _ _ _ us hl => match us, hl with | [_, _], _ => rfl
  have D6 : Dn K mg "_law_cell_at" s_l_cell_at ["_law_script", "_law_k"] := dn_mk X G a6 l6 c6 k6 fun _ _ _ _ _ _ us hl => match us, hl with | [_, _], _ => rfl
  have D7 : Dn K mg "_law_word" s_l_word ["_law_one", "_law_two", "_law_deep", "_law_draw_here"] := dn_mk X G a7 l7 c7 k7 fun _ _ _ _ _ _ us hl => match us, hl with | [_, _, _, _], _ => rfl
  have D8 : Dn K mg "_law_draw" s_l_draw ["_law_script"] := dn_mk X G a8 l8 c8 k8 fun _ _ _ _ _ _ us hl => match us, hl with | [_], _ => rfl
  have D9 : Dn K mg "_law_thing" s_l_thing ["_law_cell", "_law_base"] := dn_mk X G a9 l9 c9 k9 fun _ _ _ _ _ _ us hl => match us, hl with | [_, _], _ => rfl
  have D10 : Dn K mg "_law_lend" s_l_lend ["_law_one", "_law_two", "_law_named", "_law_draw_here"] := dn_mk X G a10 l10 c10 k10 fun _ _ _ _ _ _ us hl => match us, hl with | [_, _, _, _], _ => rfl
  have D11 : Dn K mg "_law_deed" s_l_deed ["_law_one", "_law_two", "_law_hands_here"] := dn_mk X G a11 l11 c11 k11 fun _ _ _ _ _ _ us hl => match us, hl with | [_, _, _], _ => rfl
  have D12 : Dn K mg "_law_row" s_l_row ["_law_way", "_law_one", "_law_two", "_law_opened", "_law_draw_here"] := dn_mk X G a12 l12 c12 k12 fun _ _ _ _ _ _ us hl => match us, hl with | [_, _, _, _, _], _ => rfl
  have D13 : Dn K mg "_law_hands" s_l_hands ["_law_one", "_law_two", "_law_deep", "_law_draw_here"] := dn_mk X G a13 l13 c13 k13 fun _ _ _ _ _ _ us hl => match us, hl with | [_, _, _, _], _ => rfl
  have D14 : Dn K mg "_law_first_four" s_l_first_four ["_law_way", "_law_one", "_law_two", "_law_names", "_law_thing_here"] := dn_mk X G a14 l14 c14 k14 fun _ _ _ _ _ _ us hl => match us, hl with | [_, _, _, _, _], _ => rfl
  have D15 : Dn K mg "_law_gadget" s_l_gadget ["_law_one", "_law_two", "_law_deep", "_law_draw_here"] := dn_mk X G a15 l15 c15 k15 fun _ _ _ _ _ _ us hl => match us, hl with | [_, _, _, _], _ => rfl
  have D16 : Dn K mg "_law_sheet" s_l_sheet ["_law_cells", "_law_draw_here", "_law_most", "_law_odd"] := dn_mk X G a16 l16 c16 k16 fun _ _ _ _ _ _ us hl => match us, hl with | [_, _, _, _], _ => rfl
  have D17 : Dn K mg "_law_drawn" s_l_drawn ["_law_script", "_law_most"] := dn_mk X G a17 l17 c17 k17 fun _ _ _ _ _ _ us hl => match us, hl with | [_, _], _ => rfl
  have D18 : Dn K mg "_law_homes" s_l_homes ["_law_rows"] := dn_mk X G a18 l18 c18 k18 fun _ _ _ _ _ _ us hl => match us, hl with | [_], _ => rfl
  have D19 : Dn K mg "_law_last" s_l_last ["_law_rows", "_law_home", "_law_at"] := dn_mk X G a19 l19 c19 k19 fun _ _ _ _ _ _ us hl => match us, hl with | [_, _, _], _ => rfl
  have D20 : Dn K mg "_law_starts" s_l_starts ["_law_rows", "_law_home", "_law_at"] := dn_mk X G a20 l20 c20 k20 fun _ _ _ _ _ _ us hl => match us, hl with | [_, _, _], _ => rfl
  have D21 : Dn K mg "_law_whole" s_l_whole ["_law_found"] := dn_mk X G a21 l21 c21 k21 fun _ _ _ _ _ _ us hl => match us, hl with | [_], _ => rfl
  have D22 : Dn K mg "_law_rows_alike" s_l_rows_alike ["_law_rows", "_law_kept"] := dn_mk X G a22 l22 c22 k22 fun _ _ _ _ _ _ us hl => match us, hl with | [_, _], _ => rfl
  have D23 : Dn K mg "_law_numbers" s_l_numbers ["_law_found", "_law_due"] := dn_mk X G a23 l23 c23 k23 fun _ _ _ _ _ _ us hl => match us, hl with | [_, _], _ => rfl
  have T : Blt mg := ⟨PySem.W.mg_none_of X G z_len, PySem.W.mg_none_of X G z_range, PySem.W.mg_none_of X G z_enumerate, PySem.W.mg_none_of X G z_zip, PySem.W.mg_none_of X G z_list, PySem.W.mg_none_of X G z_tuple, PySem.W.mg_none_of X G z_isinstance, PySem.W.mg_none_of X G z_all, PySem.W.mg_none_of X G z_int, PySem.W.mg_none_of X G z_bool, PySem.W.mg_none_of X G z_str, PySem.W.mg_none_of X G z_sum, PySem.W.mg_none_of X G z_reversed⟩
  have gO : mg "OPENERS" = some (.ref fO) := PySem.W.mg_of X G aO
  have hO : ∀ H : Hp, SqT K H fO [.str "lend", .str "pick", .str "either", .str "again"] := fun H => .inr ⟨oO, iO, nO, lO, tO, dO, zO, vO⟩
  have BCB : BlkC K CB := ⟨⟨pgCB, hdCB, poCB, saCB⟩, nCB0, nCB1, nCB2⟩
  refine ⟨PySem.W.fnOf "law" "law" (defArgs s_law) (defBody s_law) (defScope s_law) .none kV24 dc24 pm24 an24 cd24 ct24, fun s v => .of_eq rfl, fun base _ _ => ?_⟩
  have F := fun_mk (st := s_law) l24 c24 k24
  have h_opens : Has l.prog w K mg base _ _ _ _ := ok_opens D1 gO hO
  have h_Blocks : HasC l.prog w K mg base "Blocks" CB 2 ["self", "rows"] _ := ⟨_, _, ok_binit F2 T BCB h_opens, ⟨mkCB, a2, fnCB, kcCB⟩, PySem.W.mg_of X G aCB, b2⟩
  have h_homes : Has l.prog w K mg base _ _ _ _ := ok_homes D3 BCB h_Blocks
  have h_ends : Has l.prog w K mg base _ _ _ _ := ok_ends D4 BCB h_Blocks
  have h_branches : Has l.prog w K mg base _ _ _ _ := ok_branches D5 BCB h_Blocks
  have h_cell : Has l.prog w K mg base _ _ _ _ := ok_cell D6 T
  have h_word : Has l.prog w K mg base _ _ _ _ := ok_word D7 T
  have h_draw : Has l.prog w K mg base _ _ _ _ := ok_draw D8 h_cell
  have h_thing : Has l.prog w K mg base _ _ _ _ := ok_thing D9
  have h_lend : Has l.prog w K mg base _ _ _ _ := ok_lend D10 T h_thing h_word
  have h_deed : Has l.prog w K mg base _ _ _ _ := ok_deed D11 T
  have h_row : Has l.prog w K mg base _ _ _ _ := ok_row D12 T h_lend h_thing h_word h_deed
  have h_hands : Has l.prog w K mg base _ _ _ _ := ok_hands D13 h_word
  have h_four : Has l.prog w K mg base _ _ _ _ := ok_four D14
  have h_gadget : Has l.prog w K mg base _ _ _ _ := ok_gadget D15 h_hands h_thing h_four
  have h_sheet : Has l.prog w K mg base _ _ _ _ := ok_sheet D16 T h_gadget h_row
  have h_drawn : Has l.prog w K mg base _ _ _ _ := ok_drawn D17 T h_cell h_sheet h_draw
  have h_lhomes : Has l.prog w K mg base _ _ _ _ := ok_lhomes D18 T
  have h_last : Has l.prog w K mg base _ _ _ _ := ok_last D19 T
  have h_starts : Has l.prog w K mg base _ _ _ _ := ok_starts D20 T
  have h_whole : Has l.prog w K mg base _ _ _ _ := ok_whole D21 T
  have h_alike : Has l.prog w K mg base _ _ _ _ := ok_alike D22 T
  have h_numbers : Has l.prog w K mg base _ _ _ _ := ok_numbers D23 T h_whole
  exact ok_law F T h_drawn h_lhomes h_numbers h_branches h_starts h_last h_homes h_ends h_alike
end BD
open PySem PySem.W PyProof.Rows
set_option maxHeartbeats 0 in
theorem PySem.Challenge.cw_borrowdesk_k02_blocks_holds : PySem.Challenge.rw_borrowdesk_k02_blocks.Holds := by
  w_on; o_law; k_head; (case hw => w_witness2)
  k_fill
  refine L2.walk_of (l := PySem.Challenge.rw_borrowdesk_k02_blocks) (n := 63) (k := 6) (x := "_law_script") (CX := fun _ => L2.CX0) (sp := fun w => BD.spLaw _) rfl (by decide) rfl ⟨rfl, by decide, by decide⟩ (fun w h Y => PySem.W.kIn_of Y) ?F (fun _ _ a ns hl _ hS => ⟨a, ns, rfl, hS, hl, fun _ => rfl⟩) (fun _ _ _ _ _ h => h)
  case F =>
    intro w mg fa h KX G hmg
    refine' BD.all_mk KX G hmg ?a1 ?l1 ?c1 ?k1 ?a2 ?l2 ?c2 ?k2 ?a3 ?l3 ?c3 ?k3 ?a4 ?l4 ?c4 ?k4 ?a5 ?l5 ?c5 ?k5 ?a6 ?l6 ?c6 ?k6 ?a7 ?l7 ?c7 ?k7 ?a8 ?l8 ?c8 ?k8 ?a9 ?l9 ?c9 ?k9 ?a10 ?l10 ?c10 ?k10 ?a11 ?l11 ?c11 ?k11 ?a12 ?l12 ?c12 ?k12 ?a13 ?l13 ?c13 ?k13 ?a14 ?l14 ?c14 ?k14 ?a15 ?l15 ?c15 ?k15 ?a16 ?l16 ?c16 ?k16 ?a17 ?l17 ?c17 ?k17 ?a18 ?l18 ?c18 ?k18 ?a19 ?l19 ?c19 ?k19 ?a20 ?l20 ?c20 ?k20 ?a21 ?l21 ?c21 ?k21 ?a22 ?l22 ?c22 ?k22 ?a23 ?l23 ?c23 ?k23 ?a24 ?l24 ?c24 ?k24 ?aO ?lO ?tO ?dO ?zO ?vO ?aCB ?fnCB ?pgCB ?hdCB ?poCB ?saCB ?mkCB ?kcCB ?nCB0 ?nCB1 ?nCB2 ?z_len ?z_range ?z_enumerate ?z_zip ?z_list ?z_tuple ?z_isinstance ?z_all ?z_int ?z_bool ?z_str ?z_sum ?z_reversed
    (case aCB => k_is)
    (case a1 => k_is); (case l1 => k_is); (case c1 => k_is); (case k1 => k_is)
    (case a2 => k_is); (case l2 => k_is); (case c2 => k_is); (case k2 => k_is)
    (case a3 => k_is); (case l3 => k_is); (case c3 => k_is); (case k3 => k_is)
    (case a4 => k_is); (case l4 => k_is); (case c4 => k_is); (case k4 => k_is)
    (case a5 => k_is); (case l5 => k_is); (case c5 => k_is); (case k5 => k_is)
    (case a6 => k_is); (case l6 => k_is); (case c6 => k_is); (case k6 => k_is)
    (case a7 => k_is); (case l7 => k_is); (case c7 => k_is); (case k7 => k_is)
    (case a8 => k_is); (case l8 => k_is); (case c8 => k_is); (case k8 => k_is)
    (case a9 => k_is); (case l9 => k_is); (case c9 => k_is); (case k9 => k_is)
    (case a10 => k_is); (case l10 => k_is); (case c10 => k_is); (case k10 => k_is)
    (case a11 => k_is); (case l11 => k_is); (case c11 => k_is); (case k11 => k_is)
    (case a12 => k_is); (case l12 => k_is); (case c12 => k_is); (case k12 => k_is)
    (case a13 => k_is); (case l13 => k_is); (case c13 => k_is); (case k13 => k_is)
    (case a14 => k_is); (case l14 => k_is); (case c14 => k_is); (case k14 => k_is)
    (case a15 => k_is); (case l15 => k_is); (case c15 => k_is); (case k15 => k_is)
    (case a16 => k_is); (case l16 => k_is); (case c16 => k_is); (case k16 => k_is)
    (case a17 => k_is); (case l17 => k_is); (case c17 => k_is); (case k17 => k_is)
    (case a18 => k_is); (case l18 => k_is); (case c18 => k_is); (case k18 => k_is)
    (case a19 => k_is); (case l19 => k_is); (case c19 => k_is); (case k19 => k_is)
    (case a20 => k_is); (case l20 => k_is); (case c20 => k_is); (case k20 => k_is)
    (case a21 => k_is); (case l21 => k_is); (case c21 => k_is); (case k21 => k_is)
    (case a22 => k_is); (case l22 => k_is); (case c22 => k_is); (case k22 => k_is)
    (case a23 => k_is); (case l23 => k_is); (case c23 => k_is); (case k23 => k_is)
    (case a24 => k_is); (case l24 => k_is); (case c24 => k_is); (case k24 => k_is)
    (case aO => k_is); (case lO => k_is); (case tO => rfl); (case dO => rfl); (case zO => decide); (case vO => exact .cons ⟨_, rfl⟩ (.cons ⟨_, rfl⟩ (.cons ⟨_, rfl⟩ (.cons ⟨_, rfl⟩ .nil))))
    (case fnCB => k_is)
    (case pgCB => k_is)
    (case hdCB => k_is)
    (case poCB => k_is)
    (case saCB => k_is)
    (case mkCB => k_is)
    (case kcCB => k_is)
    (case nCB0 => k_is)
    (case nCB1 => k_is)
    (case nCB2 => k_is)
    (case z_len => k_is)
    (case z_range => k_is)
    (case z_enumerate => k_is)
    (case z_zip => k_is)
    (case z_list => k_is)
    (case z_tuple => k_is)
    (case z_isinstance => k_is)
    (case z_all => k_is)
    (case z_int => k_is)
    (case z_bool => k_is)
    (case z_str => k_is)
    (case z_sum => k_is)
    (case z_reversed => k_is)
