import PyProof.Rows.All
import Wide.All
import OpenK.AllK
import Wide.FinOn
import HandS.ForMost
import HandS.Evl
import HandS.IsInst
import HandS.Walk
import PyProof.StrBlock2
import KE.KEqSeq
import PySem.Challenge.RW_borrowdesk_k01_who_is_awake
import HandS.TupAny
set_option Elab.async false
set_option linter.all false
set_option maxRecDepth 100000
set_option maxHeartbeats 8000000
namespace BD
open PySem PySem.Spec PyProof.Rows L2 Evl

/-! ### a def that stands, a def whose promise is known -/
def Dn (K : PySem.W.Frag) (mg : Str → Option Value) (x : Str) (st : Stmt) (ps : List Str) : Prop :=
  ∃ f fd, Fun K x x st f fd ∧ mg x = some (.ref f) ∧ Binds K fd ps []
theorem dn_mk {K : PySem.W.Frag} {h : Heap} {mg : Str → Option Value} (X : K.In h) (G : h.Ns mainGlobals mg) {x : Str} {st : Stmt} {ps : List Str} {f : Addr} {oc kV dc pm cd ct : Value} {od an : Option Addr} {sl : Array (Option Value)}
    (a : PySem.W.nsIn K mainGlobals x = some (some (.ref f))) (l : K.lookup f = some ⟨oc, od, .func (PySem.W.fnOf x x (defArgs st) (defBody st) (defScope st) .none kV dc pm an cd ct), sl⟩) (c : PySem.W.codeIn K cd x = true) (k : PySem.W.keepIn K (.ref f) = true)
    (hb : ∀ (kV doc pm : Value) (an : Option Addr) (cdv ct : Value) (us : List Value), us.length = ps.length → bindArgs (PySem.W.fnOf x x (defArgs st) (defBody st) (defScope st) .none kV doc pm an cdv ct) ⟨us, []⟩ = pure (ps.zip us)) : Dn K mg x st ps :=
  ⟨f, _, fun_mk l c k, PySem.W.mg_of X G a, (fun_mk l c k).binds hb⟩
structure Has (P : Program) (w : World) (K : PySem.W.Frag) (mg : Str → Option Value) (base : Heap) (x : Str) (k : Nat) (ps : List Str) (sp : Sp) : Prop where
  ex : ∃ f fd, FnOk P w K mg base CX0 k f fd ps sp ∧ mg x = some (.ref f) ∧ PySem.W.keepIn K (.ref f) = true ∧ Binds K fd ps []
section
variable {P : Program} {w : World} {K : PySem.W.Frag} {mg : Str → Option Value} {base : Heap}
theorem Dn.ok {x : Str} {st : Stmt} {N ps : List Str} {k : Nat} {sp : Sp} (D : Dn K mg x st ps) (S : FnScope N ps (defScope st)) (len : ∀ vs H Q E, sp vs H Q E → vs.length = ps.length)
    (hbody : ∀ (f : Addr) (cdv : Value) (A : Around) (outer : List Env) (s : Shared) (H : Hp) (vs : List V) (Q : VK) (E : XK), Room k (A.deeper (envOfC x (defScope st) s.heap.objs.size f cdv)) → sp vs H Q E →
      ∃ t, PSs (cxOf CX0 P w K mg base N x (defScope st) f cdv A outer s H E).nox (defBody st) t ∧ t { nx := fun _ H' => Q .non H', rt := Q } (start N vs) H) : Has P w K mg base x (k + 1) ps sp := by
  obtain ⟨f, fd, F, m, b⟩ := D
  exact ⟨f, fd, F.ok S len (hbody f), m, F.kp, b⟩
theorem Has.mono {x : Str} {j k : Nat} {ps : List Str} {sp : Sp} (h : Has P w K mg base x j ps sp) (e : j ≤ k) : Has P w K mg base x k ps sp := by
  obtain ⟨f, fd, F, m, kp, b⟩ := h.ex
  exact ⟨f, fd, F.mono e, m, kp, b⟩
end
theorem pe_own {X : Cx} {x : Str} {k : Nat} {ps : List Str} {sp : Sp} {e : Expr} {es : List Expr} {p pos : Pos} {t : TA} (h : Has X.prog X.w X.K X.mg X.base x k ps sp) (hr : Room k X.A) (hg : Gl X x) (ha : PA X (e :: es) t)
    (hdb : (x == ("__debug__" : Str)) = false := by decide) (he : starEach (e :: es) X.env = (false, eval e X.env) :: starEach es X.env := by rfl) (hpl : (backTo pos (starEach es X.env)).any (·.1) = false := by rfl) :
    PE X (.Call (.Name x p) (e :: es) [] pos) (tCall sp [] E0 t) := by
  obtain ⟨f, fd, F, m, kp, b⟩ := h.ex
  exact pe_call F hr hg m kp b .nil pass0 ha hdb he hpl

structure Blt (mg : Str → Option Value) : Prop where
  len_ : mg "len" = none
  range_ : mg "range" = none
  enumerate_ : mg "enumerate" = none
  zip_ : mg "zip" = none
  list_ : mg "list" = none
  tuple_ : mg "tuple" = none
  isinstance_ : mg "isinstance" = none
  all_ : mg "all" = none
  int_ : mg "int" = none
  bool_ : mg "bool" = none
  str_ : mg "str" = none
  sum_ : mg "sum" = none
  reversed_ : mg "reversed" = none
/-! ### a text times a number -/
def rRepS : R2 := fun x y H Q => ∃ z k, x = .str z ∧ y = .int k ∧ MulOk z k ∧ Q (.str (Txt.mul z k)) H
theorem op_repS {X : Cx} : OpR X (binaryOp .Mult) rRepS := by
  intro pins s σ H x y v u Q I rx ry h
  obtain ⟨z, k, rfl, rfl, hz, q⟩ := h
  obtain ⟨t, rfl⟩ := rx
  obtain ⟨t', rfl⟩ := ry
  exact SB.mul hz (fun t' tk => ⟨.str (Txt.mul z k), H, I.tok _, ⟨_, rfl⟩, q⟩)

def rAddT : R2 := fun x y H Q => ∃ i j, x = .str i ∧ y = .str j ∧ i.length + j.length ≤ sizeLine ∧ Q (.str (i ++ j)) H
theorem op_addT {X : Cx} : OpR X (binaryOp .Add) rAddT := op_add_str
/-! ### evaluation with a post on value and heap -/
def EvP (te : TE) (σ : L2.St) (H : Hp) (R : V → Hp → Prop) : Prop := ∀ H1, Ex H H1 → ∀ Q : VK, (∀ v H2, Ex H1 H2 → R v H2 → Q v H2) → te σ H1 Q
def EvAP (ta : TA) (σ : L2.St) (H : Hp) (R : List V → Hp → Prop) : Prop := ∀ H1, Ex H H1 → ∀ Q : List V → Hp → Prop, (∀ vs H2, Ex H1 H2 → R vs H2 → Q vs H2) → ta σ H1 Q
/-- a new list whose items are told by R -/
def EvPL (te : TE) (σ : L2.St) (H : Hp) (R : List V → Hp → Prop) : Prop := ∀ H1, Ex H H1 → ∀ Q : VK, (∀ p vs H2, H1 p = none → Ex H1 H2 → H2 p = some (.lst vs) → R vs H2 → Q (.ref p) H2) → te σ H1 Q
section
variable {K : PySem.W.Frag} {σ : L2.St} {H H' : Hp} {ta tb te tx : TE} {t u : TT} {x y z v : V} {r : R2} {R R' : V → Hp → Prop} {D : Ends} {tu tw tz : TS}
theorem ep_ev (h : Ev te σ H v) : EvP te σ H (fun x _ => x = v) := fun H1 e Q q => h H1 e Q fun H2 e2 => q v H2 e2 rfl
theorem ep_U {xs : List V} (h : EvU te σ H xs) : EvP te σ H (fun x H2 => ∃ p, x = .ref p ∧ H2 p = some (.tup xs)) := fun H1 e Q q => h H1 e Q fun p H2 _ e2 h2 => q _ H2 e2 ⟨p, rfl, h2⟩
theorem ep_L {xs : List V} (h : EvL te σ H xs) : EvP te σ H (fun x H2 => ∃ p, x = .ref p ∧ H2 p = some (.lst xs)) := fun H1 e Q q => h H1 e Q fun p H2 _ e2 h2 => q _ H2 e2 ⟨p, rfl, h2⟩
theorem EvP.mono (h : EvP te σ H R) (k : ∀ v H2, R v H2 → R' v H2) : EvP te σ H R' := fun H1 e Q q => h H1 e Q fun v H2 e2 hr => q v H2 e2 (k v H2 hr)
theorem EvP.up (e : Ex H H') (h : EvP te σ H R) : EvP te σ H' R := fun H1 a Q q => h H1 (e.trans a) Q q
theorem q_asgP {i : Nat} (h : EvP te σ H R) (k : ∀ v H1, Ex H H1 → R v H1 → tz D (σ.set i (some v)) H1) : tSeq (tAsg te (gName i)) tz D σ H := h H (Ex.refl H) _ fun v H1 e hr => k v H1 e hr
theorem s_asgP {i : Nat} (h : EvP te σ H R) (k : ∀ v H1, Ex H H1 → R v H1 → D.nx (σ.set i (some v)) H1) : tAsg te (gName i) D σ H := h H (Ex.refl H) _ fun v H1 e hr => k v H1 e hr
theorem s_retP (h : EvP te σ H R) (k : ∀ v H1, Ex H H1 → R v H1 → D.rt v H1) : tRet te D σ H := h H (Ex.refl H) _ k
theorem eap_nil : EvAP tNil σ H (fun vs _ => vs = []) := fun H1 _ _ q => q [] H1 (Ex.refl H1) rfl
def SpP (sp : Sp) (vs : List V) (H : Hp) (R : V → Hp → Prop) : Prop := ∀ H1, Ex H H1 → ∀ Q : VK, (∀ v H2, Ex H1 H2 → R v H2 → Q v H2) → ∀ E : XK, sp vs H1 Q E
theorem ep_call {sp : Sp} {dvs vs : List V} {E : XK} {ta : TA} (h : EvA ta σ H vs) (hs : SpP sp (vs ++ dvs) H R) : EvP (tCall sp dvs E ta) σ H R := fun H1 e Q q =>
  h H1 e _ fun H2 e2 => hs H2 (e.trans e2) Q (fun v H3 e3 hr => q v H3 (e2.trans e3) hr) E
/-- the promise's usual end: some value of which R tells, what stood stands -/
def Ret (R : V → Hp → Prop) (H : Hp) (Q : VK) : Prop := ∀ v H2, Ex H H2 → R v H2 → Q v H2
theorem Ret.go {Q : VK} (k : Ret R H Q) {v : V} (e : Ex H H') (hr : R v H') : Q v H' := k v H' e hr
end

section
variable {K : PySem.W.Frag} {σ : L2.St} {H H' : Hp} {ta tb te tx : TE} {t u : TT} {x y z v : V} {r : R2}
theorem ev_I0 {g : Int → Int → V} {i j : Int} (ha : Ev ta σ H (.int i)) (hb : Ev tb σ H (.int j)) : Ev (tOp (rI0 g) ta tb) σ H (g i j) := ev_op ha hb rv_I0
theorem ev_I {C : Int → Int → Prop} {g : Int → Int → V} {i j : Int} (ha : Ev ta σ H (.int i)) (hb : Ev tb σ H (.int j)) (hc : C i j) : Ev (tOp (rI C g) ta tb) σ H (g i j) := ev_op ha hb (rv_I hc)
theorem ex_l' {a : Addr} {xs : List V} (h : SqL K H a xs) (e : Ex H H') : SqL K H' a xs := ex_l e h
theorem ex_t' {a : Addr} {xs : List V} (h : SqT K H a xs) (e : Ex H H') : SqT K H' a xs := ex_t e h
theorem ev_e9 (ha : Ev ta σ H (.int 10)) (hb : Ev tb σ H (.int 9)) : Ev (tOp (rI CPow fun i j => .int (i ^ j.toNat)) ta tb) σ H (.int 1000000000) := by
  have h := ev_op ha hb (rv_I (C := CPow) (g := fun i j => .int (i ^ j.toNat)) (H := H) (i := 10) (j := 9) ⟨by decide, by decide, by decide⟩)
  exact h
theorem ev_eq (ha : Ev ta σ H x) (hb : Ev tb σ H y) (hc : scal x y = true) : Ev (tOp rEq ta tb) σ H (.bl (decide (x = y))) := ev_op ha hb (rv_eq hc)
theorem ev_ne (ha : Ev ta σ H x) (hb : Ev tb σ H y) (hc : scal x y = true) : Ev (tOp rNe ta tb) σ H (.bl (!decide (x = y))) := ev_op ha hb (rv_ne hc)
theorem ev_neg {i : Int} (ha : Ev ta σ H (.int i)) : Ev (tUn (rU fun i => .int (-i)) ta) σ H (.int (-i)) := ev_un ha ru_neg
theorem ev_ixL {p : Addr} {xs : List V} {i : Int} (ha : Ev ta σ H (.ref p)) (h : SqL K H p xs) (hb : Ev tb σ H (.int i)) (hi : atI xs i = some v) : Ev (tOp (rIxL K) ta tb) σ H v := ev_op ha hb (rv_ixL h hi)
theorem ev_ixT {p : Addr} {xs : List V} {i : Int} (ha : Ev ta σ H (.ref p)) (h : SqT K H p xs) (hb : Ev tb σ H (.int i)) (hi : atI xs i = some v) : Ev (tOp (rIxT K) ta tb) σ H v := ev_op ha hb (rv_ixT h hi)
theorem ev_ixN {tA : TA} {xs : List V} {i : Int} (ha : EvA tA σ H xs) (hb : Ev tb σ H (.int i)) (hl : xs.length ≤ 100000) (hi : atI xs i = some v) : Ev (tOp (rIxL K) (tLst tA) tb) σ H v :=
  ev_opL1 (el_lst ha hl) (fun _ e => hb.mono e) fun _ _ hz _ => rv_ixL (sq_of hz) hi
theorem ev_ixS {w : Str} {i : Int} {c : Nat} (ha : Ev ta σ H (.str w)) (hb : Ev tb σ H (.int i)) (h : w.length ≤ 100000) (hi : atI w.cps.toList i = some c) : Ev (tOp rIxS ta tb) σ H (.str ⟨#[c]⟩) := ev_op ha hb (rv_ixS h hi)
theorem ev_inN {tA : TA} {xs : List V} (ha : Ev ta σ H x) (hb : EvA tA σ H xs) (hl : xs.length ≤ 100000) (hx : flatV x = true) (hf : xs.all flatV = true) : Ev (tOp (rIn K false) ta (tLst tA)) σ H (.bl (inV x xs)) :=
  ev_opL ha (el_lst hb hl) fun _ _ hz _ => rv_isL (sq_of hz) hx hf
theorem ev_inT {p : Addr} {xs : List V} (ha : Ev ta σ H x) (hb : Ev tb σ H (.ref p)) (h : SqT K H p xs) (hx : flatV x = true) (hf : xs.all flatV = true) : Ev (tOp (rIn K false) ta tb) σ H (.bl (inV x xs)) := ev_op ha hb (rv_isT h hx hf)
theorem ev_len' {p : Addr} {xs : List V} (ha : Ev ta σ H (.ref p)) (h : SqL K H p xs) : Ev (tCB (rLenS K) (tCons ta tNil)) σ H (.int (xs.length : Int)) := ev_len ha h
theorem ev_add (x y : Str) (ha : Ev ta σ H (.str x)) (hb : Ev tb σ H (.str y)) (h : x.length + y.length ≤ 100000) : Ev (tOp rAddT ta tb) σ H (.str (x ++ y)) :=
  ev_op ha hb (rv_val fun H1 _ Q q => ⟨x, y, rfl, rfl, sz_of h, q⟩)
theorem ev_repS {w : Str} {k : Int} (ha : Ev ta σ H (.str w)) (hb : Ev tb σ H (.int k)) (h : MulOk w k) : Ev (tOp rRepS ta tb) σ H (.str (Txt.mul w k)) :=
  ev_op ha hb (rv_val fun H1 _ Q q => ⟨w, k, rfl, rfl, h, q⟩)
end
/-! ### rows of a sheet -/
inductive Src where
  | thing (n : Int)
  | word (w : Str)
def Src.v : Src → V
  | .thing n => .int n
  | .word w => .str w
inductive Rw where
  | lend (h k : Str) (s : Src)
  | pick (w : Str) (ts : List Int)
  | either | or | again | fin
  | back (h : Str) | look (h : Str) | change (h : Str)
namespace Rw
def tag : Rw → Str
  | .lend _ _ _ => "lend" | .pick _ _ => "pick" | .either => "either" | .or => "or" | .again => "again" | .fin => "end"
  | .back _ => "back" | .look _ => "look" | .change _ => "change"
def opens : Rw → Bool
  | .lend _ _ _ => true | .pick _ _ => true | .either => true | .again => true | _ => false
def named : Rw → Bool
  | .lend _ _ _ => true | .pick _ _ => true | _ => false
def isLend : Rw → Bool
  | .lend _ _ _ => true | _ => false
def isFin : Rw → Bool
  | .fin => true | _ => false
def isOr : Rw → Bool
  | .or => true | _ => false
def isEither : Rw → Bool
  | .either => true | _ => false
def word : Rw → Str
  | .lend h _ _ => h | .pick w _ => w | .back h => h | .look h => h | .change h => h | _ => ""
def kind : Rw → Str
  | .lend _ k _ => k | _ => ""
end Rw
/-- the row stands in the heap -/
def IsRow (H : Hp) (v : V) : Rw → Prop
  | .lend h k s => ∃ p, v = .ref p ∧ H p = some (.tup [.str "lend", .str h, .str k, s.v])
  | .pick w ts => ∃ p q, v = .ref p ∧ H p = some (.tup [.str "pick", .str w, .ref q]) ∧ H q = some (.tup (ts.map V.int))
  | .either => ∃ p, v = .ref p ∧ H p = some (.tup [.str "either"])
  | .or => ∃ p, v = .ref p ∧ H p = some (.tup [.str "or"])
  | .again => ∃ p, v = .ref p ∧ H p = some (.tup [.str "again"])
  | .fin => ∃ p, v = .ref p ∧ H p = some (.tup [.str "end"])
  | .back h => ∃ p, v = .ref p ∧ H p = some (.tup [.str "back", .str h])
  | .look h => ∃ p, v = .ref p ∧ H p = some (.tup [.str "look", .str h])
  | .change h => ∃ p, v = .ref p ∧ H p = some (.tup [.str "change", .str h])
/-- what stays of tuples -/
def ExT (H H' : Hp) : Prop := ∀ a xs, H a = some (.tup xs) → H' a = some (.tup xs)
theorem ExT.of {H H' : Hp} (e : Ex H H') : ExT H H' := fun a xs h => e a _ h
theorem ExT.refl (H : Hp) : ExT H H := fun _ _ h => h
theorem ExT.trans {H H1 H2 : Hp} (a : ExT H H1) (b : ExT H1 H2) : ExT H H2 := fun x o h => b x o (a x o h)
theorem ExT.lst {H : Hp} {p : Addr} {xs ys : List V} (h : H p = some (.lst xs)) : ExT H (upd H p (.lst ys)) := fun a zs e => by
  rw [upd_ne (ne_of e h (fun q => nomatch q))]
  exact e
theorem IsRow.upT {H H' : Hp} {v : V} {r : Rw} (e : ExT H H') (h : IsRow H v r) : IsRow H' v r := by
  cases r with
  | pick w ts => obtain ⟨p, q, h1, h2, h3⟩ := h; exact ⟨p, q, h1, e _ _ h2, e _ _ h3⟩
  | _ => obtain ⟨p, h1, h2⟩ := h; exact ⟨p, h1, e _ _ h2⟩
theorem IsRow.up {H H' : Hp} {v : V} {r : Rw} (e : Ex H H') (h : IsRow H v r) : IsRow H' v r := h.upT (ExT.of e)
def Rows (H : Hp) (vs : List V) (rs : List Rw) : Prop := Paired (IsRow H) vs rs
theorem Rows.upT {H H' : Hp} (e : ExT H H') : ∀ {vs : List V} {rs : List Rw}, Rows H vs rs → Rows H' vs rs
  | _, _, .nil => .nil
  | _, _, .cons r t => .cons (r.upT e) (Rows.upT e t)
theorem Rows.up {H H' : Hp} (e : Ex H H') {vs : List V} {rs : List Rw} (h : Rows H vs rs) : Rows H' vs rs := h.upT (ExT.of e)
theorem Rows.len {H : Hp} {vs : List V} {rs : List Rw} (h : Rows H vs rs) : vs.length = rs.length := Paired.length h
theorem Rows.append {H : Hp} : ∀ {vs ws : List V} {rs ss : List Rw}, Rows H vs rs → Rows H ws ss → Rows H (vs ++ ws) (rs ++ ss)
  | _, _, _, _, .nil, s => s
  | _, _, _, _, .cons r t, s => .cons r (Rows.append t s)
theorem Rows.at {H : Hp} : ∀ {vs : List V} {rs : List Rw} {i : Nat} {x : V}, Rows H vs rs → vs[i]? = some x → ∃ r, rs[i]? = some r ∧ IsRow H x r
  | _, _, _, _, .nil, e => by simp at e
  | _, _, 0, _, .cons r _, e => by simp at e; subst e; exact ⟨_, rfl, r⟩
  | _, _, i + 1, x, .cons _ t, e => by
    obtain ⟨u, h1, h2⟩ := Rows.at (i := i) (x := x) t (by simpa using e)
    exact ⟨u, by simpa using h1, h2⟩
theorem Rows.get {H : Hp} {vs : List V} {rs : List Rw} {i : Nat} {r : Rw} (h : Rows H vs rs) (e : rs[i]? = some r) : ∃ x, vs[i]? = some x ∧ IsRow H x r := by
  have hi : i < vs.length := by
    rw [h.len]
    exact (List.getElem?_eq_some_iff.mp e).1
  obtain ⟨r', e', q⟩ := h.at (List.getElem?_eq_getElem hi)
  rw [e] at e'
  cases e'
  exact ⟨_, List.getElem?_eq_getElem hi, q⟩
theorem Rows.dropLast {H : Hp} : ∀ {vs : List V} {rs : List Rw}, Rows H vs rs → Rows H vs.dropLast rs.dropLast
  | _, _, .nil => .nil
  | _, _, .cons r .nil => .nil
  | _, _, .cons r (.cons r2 t) => .cons r (Rows.dropLast (.cons r2 t))
theorem Rows.take {H : Hp} : ∀ {vs : List V} {rs : List Rw} (n : Nat), Rows H vs rs → Rows H (vs.take n) (rs.take n)
  | _, _, 0, _ => .nil
  | _, _, _ + 1, .nil => .nil
  | _, _, n + 1, .cons r t => .cons r (Rows.take n t)
/-- the tuple of a row, from its tag on -/
theorem IsRow.tup {H : Hp} {v : V} {r : Rw} (h : IsRow H v r) : ∃ p xs, v = .ref p ∧ H p = some (.tup (.str r.tag :: xs)) := by
  cases r with
  | pick w ts => obtain ⟨p, q, h1, h2, _⟩ := h; exact ⟨p, _, h1, h2⟩
  | _ => obtain ⟨p, h1, h2⟩ := h; exact ⟨p, _, h1, h2⟩
/-- a list of rows at an address, a row given back -/
def LRows (rs : List Rw) : V → Hp → Prop := fun v H => ∃ p vs, v = .ref p ∧ H p = some (.lst vs) ∧ Rows H vs rs
def ARow (r : Rw) : V → Hp → Prop := fun v H => IsRow H v r
theorem at_get {xs : List V} {i : Int} (h0 : 0 ≤ i) (h1 : i < xs.length) : atI xs i = some (xs.getD i.toNat .non) := by
  have e : i = ((i.toNat : Nat) : Int) := by omega
  have h2 : i.toNat < xs.length := by omega
  rw [e]
  refine atI_nat ?_
  rw [List.getElem?_eq_getElem h2, Int.toNat_natCast, List.getD_eq_getElem?_getD, List.getElem?_eq_getElem h2]
  rfl
theorem atI_hd {v : V} {xs : List V} : atI (v :: xs) 0 = some v := atI_nat (j := 0) rfl
theorem at_strs (l : List Str) {i : Int} (h0 : 0 ≤ i) (h1 : i < l.length) : atI (l.map V.str) i = some (.str (l.getD i.toNat "")) := by
  have e : i = ((i.toNat : Nat) : Int) := by omega
  have h2 : i.toNat < l.length := by omega
  rw [e]
  refine atI_nat ?_
  rw [List.getElem?_map, List.getElem?_eq_getElem h2, Int.toNat_natCast, List.getD_eq_getElem?_getD, List.getElem?_eq_getElem h2]
  rfl
theorem at_ints (l : List Int) {i : Int} (h0 : 0 ≤ i) (h1 : i < l.length) : atI (l.map V.int) i = some (.int (l.getD i.toNat 0)) := by
  have e : i = ((i.toNat : Nat) : Int) := by omega
  have h2 : i.toNat < l.length := by omega
  rw [e]
  refine atI_nat ?_
  rw [List.getElem?_map, List.getElem?_eq_getElem h2, Int.toNat_natCast, List.getD_eq_getElem?_getD, List.getElem?_eq_getElem h2]
  rfl
/-! ### rows made -/
section
variable {K : PySem.W.Frag} {σ : L2.St} {H H' : Hp} {ta tb te tr tw tt : TE} {r : Rw} {rs ss : List Rw}
theorem er_nil : EvAP tNil σ H (fun vs H2 => Rows H2 vs []) := fun H1 _ _ q => q [] H1 (Ex.refl H1) .nil
theorem er_cons {tr : TA} (h : EvP te σ H (ARow r)) (h2 : EvAP tr σ H (fun vs H2 => Rows H2 vs rs)) : EvAP (tCons te tr) σ H (fun vs H2 => Rows H2 vs (r :: rs)) := fun H1 e _ q =>
  h H1 e _ fun v H2 e2 hv => h2 H2 (e.trans e2) _ fun vs H3 e3 hvs => q _ H3 (e2.trans e3) (.cons (IsRow.up e3 hv) hvs)
theorem elr_lst {ta : TA} (h : EvAP ta σ H (fun vs H2 => Rows H2 vs rs)) (hl : rs.length ≤ 100000) : EvP (tLst ta) σ H (LRows rs) := fun H1 e _ q =>
  h H1 e _ fun vs H2 e2 hv => ⟨sz_of (by rw [hv.len]; exact hl), fun p hp => q _ _ (e2.trans (Ex.new hp)) ⟨p, vs, rfl, upd_same, hv.up (Ex.new hp)⟩⟩
theorem LRows.up {v : V} (e : Ex H H') (h : LRows rs v H) : LRows rs v H' := by
  obtain ⟨p, vs, h1, h2, h3⟩ := h
  exact ⟨p, vs, h1, e _ _ h2, h3.up e⟩
theorem elr_cat (ha : EvP ta σ H (LRows rs)) (hb : EvP tb σ H (LRows ss)) (hl : rs.length + ss.length ≤ 100000) : EvP (tOp rCat ta tb) σ H (LRows (rs ++ ss)) := fun H1 e Q q =>
  ha H1 e _ fun v H2 e2 hv => hb H2 (e.trans e2) _ fun u H3 e3 hu => by
    obtain ⟨p, vs, rfl, h1, h2⟩ := hv
    obtain ⟨p', us, rfl, h3, h4⟩ := hu
    refine ⟨p, p', vs, us, rfl, rfl, e3 _ _ h1, h3, sz_of (by rw [h2.len, h4.len]; exact hl), fun z hz => q _ _ (e2.trans (e3.trans (Ex.new hz))) ⟨z, _, rfl, upd_same, Rows.append ((h2.up e3).up (Ex.new hz)) (h4.up (Ex.new hz))⟩⟩
theorem er_var {i : Nat} {v : V} (h : σ[i]? = some (some v)) (hr : IsRow H v r) : EvP (tVar i) σ H (ARow r) := fun H1 e Q q => ⟨v, h, q v H1 (Ex.refl H1) (hr.up e)⟩
theorem elr_var {i : Nat} {v : V} (h : σ[i]? = some (some v)) (hr : LRows rs v H) : EvP (tVar i) σ H (LRows rs) := fun H1 e Q q => ⟨v, h, q v H1 (Ex.refl H1) (hr.up e)⟩
theorem er_tup {ta : TA} {xs : List V} (h : EvA ta σ H xs) (hl : xs.length ≤ 100000) (k : ∀ p H2, H2 p = some (.tup xs) → IsRow H2 (.ref p) r) : EvP (tTup ta) σ H (ARow r) := fun H1 e _ q =>
  h H1 e _ fun H2 e2 => ⟨sz_of hl, fun p hp => q _ _ (e2.trans (Ex.new hp)) (k p _ upd_same)⟩
theorem er_lendT {ta : TA} {h k : Str} {n : Int} (a : EvA ta σ H [.str "lend", .str h, .str k, .int n]) : EvP (tTup ta) σ H (ARow (.lend h k (.thing n))) := er_tup a (Nat.le_of_ble_eq_true rfl) fun p _ e => ⟨p, rfl, e⟩
theorem er_lendW {ta : TA} {h k : Str} {n : Str} (a : EvA ta σ H [.str "lend", .str h, .str k, .str n]) : EvP (tTup ta) σ H (ARow (.lend h k (.word n))) := er_tup a (Nat.le_of_ble_eq_true rfl) fun p _ e => ⟨p, rfl, e⟩
theorem er_either {ta : TA} (a : EvA ta σ H [.str "either"]) : EvP (tTup ta) σ H (ARow .either) := er_tup a (Nat.le_of_ble_eq_true rfl) fun p _ e => ⟨p, rfl, e⟩
theorem er_or {ta : TA} (a : EvA ta σ H [.str "or"]) : EvP (tTup ta) σ H (ARow .or) := er_tup a (Nat.le_of_ble_eq_true rfl) fun p _ e => ⟨p, rfl, e⟩
theorem er_again {ta : TA} (a : EvA ta σ H [.str "again"]) : EvP (tTup ta) σ H (ARow .again) := er_tup a (Nat.le_of_ble_eq_true rfl) fun p _ e => ⟨p, rfl, e⟩
theorem er_fin {ta : TA} (a : EvA ta σ H [.str "end"]) : EvP (tTup ta) σ H (ARow .fin) := er_tup a (Nat.le_of_ble_eq_true rfl) fun p _ e => ⟨p, rfl, e⟩
theorem er_back {ta : TA} {h : Str} (a : EvA ta σ H [.str "back", .str h]) : EvP (tTup ta) σ H (ARow (.back h)) := er_tup a (Nat.le_of_ble_eq_true rfl) fun p _ e => ⟨p, rfl, e⟩
theorem er_look {ta : TA} {h : Str} (a : EvA ta σ H [.str "look", .str h]) : EvP (tTup ta) σ H (ARow (.look h)) := er_tup a (Nat.le_of_ble_eq_true rfl) fun p _ e => ⟨p, rfl, e⟩
theorem er_change {ta : TA} {h : Str} (a : EvA ta σ H [.str "change", .str h]) : EvP (tTup ta) σ H (ARow (.change h)) := er_tup a (Nat.le_of_ble_eq_true rfl) fun p _ e => ⟨p, rfl, e⟩
theorem er_pick {tt : TA} {w : Str} {vs : List V} {ts : List Int} (a : Ev tw σ H (.str w)) (b : EvA tt σ H vs) (e : vs = ts.map V.int) (hl : vs.length ≤ 100000) : EvP (tTup (tCons (tC (.str "pick")) (tCons tw (tCons (tTup tt) tNil)))) σ H (ARow (.pick w ts)) := fun H1 e1 _ q =>
  a H1 e1 _ fun H2 e2 => b H2 (e1.trans e2) _ fun H3 e3 => ⟨sz_of hl, fun y hy => ⟨by show 3 ≤ sizeLine; decide, fun x hx => q _ _ (((e2.trans e3).trans (Ex.new hy)).trans (Ex.new hx)) ⟨x, y, rfl, upd_same, by
    subst e
    exact Ex.new hx _ _ upd_same⟩⟩⟩
end
def rTupS (K : PySem.W.Frag) : List V → Hp → VK → Prop := fun xs H Q => ∃ p ys, xs = [.ref p] ∧ ((SqL K H p ys ∧ ∀ l, H l = none → Q (.ref l) (upd H l (.tup ys))) ∨ (SqT K H p ys ∧ Q (.ref p) H))
section
variable {K : PySem.W.Frag} {σ : L2.St} {H H' : Hp} {ta tb te tr tw tl : TE} {t : TT} {r : Rw} {rs ss : List Rw}
theorem eu_tuple {xs : List V} (h : EvL ta σ H xs) : EvU (tCB (rTupS K) (tCons ta tNil)) σ H xs := fun H1 e Q q =>
  h H1 e _ fun p H2 hp e2 h2 => ⟨p, xs, rfl, .inl ⟨sq_of h2, fun l hl => q l _ (fresh_back e2 hl) (e2.trans (Ex.new hl)) upd_same⟩⟩
theorem et_yes : EvT tYes σ H true := fun H1 _ Q q => q H1 (Ex.refl H1)
theorem er_pickV {ta : TA} {w : Str} {q : Addr} {ts : List Int} (a : EvA ta σ H [.str "pick", .str w, .ref q]) (hq : H q = some (.tup (ts.map V.int))) : EvP (tTup ta) σ H (ARow (.pick w ts)) := fun H1 e1 _ k =>
  a H1 e1 _ fun H2 e2 => ⟨by show 3 ≤ sizeLine; decide, fun x hx => k _ _ (e2.trans (Ex.new hx)) ⟨x, q, rfl, upd_same, (Ex.new hx) _ _ ((e1.trans e2) _ _ hq)⟩⟩
theorem ev_tag {i : Nat} {x : V} (h : σ[i]? = some (some x)) (hr : IsRow H x r) : Ev (tOp (rIxT K) (tVar i) (tC (.int 0))) σ H (.str r.tag) := by
  obtain ⟨p, xs, rfl, hp⟩ := hr.tup
  exact ev_ixT (ev_var h) (st_of hp) ev_c (atI_nat (j := 0) rfl)
theorem given_rows {f : Nat → Bool} {v : Nat → V} {p : Rw → Bool} {vs : List V} (hR : Rows H vs rs) (hf : ∀ i r, rs[i]? = some r → f i = p r) (hv : ∀ i x, vs[i]? = some x → v i = x) : ∀ n, n ≤ rs.length → Rows H (given n f v) ((rs.take n).filter p)
  | 0, _ => .nil
  | n + 1, h => by
    have hn : n < rs.length := h
    obtain ⟨x, hx, hX⟩ := hR.get (List.getElem?_eq_getElem hn)
    have ih := given_rows hR hf hv n (by omega)
    have e1 : f n = p rs[n] := hf n _ (List.getElem?_eq_getElem hn)
    rw [List.take_add_one, List.getElem?_eq_getElem hn, List.filter_append]
    cases hp : p rs[n] with
    | true =>
      rw [given_yes (by rw [e1, hp]), hv n x hx]
      refine Rows.append ih ?_
      rw [show (some rs[n]).toList = [rs[n]] from rfl, List.filter_cons, if_pos hp]
      exact .cons hX .nil
    | false =>
      rw [given_no (by rw [e1, hp])]
      rw [show (some rs[n]).toList = [rs[n]] from rfl, List.filter_cons, if_neg (by rw [hp]; decide)]
      show Rows H _ (_ ++ [])
      rw [List.append_nil]
      exact ih
/-- [x for x in rows if p x] -/
theorem elr_filter {a : Addr} {vs : List V} {j : Nat} {ws : List Nat} {p : Rw → Bool} (h : Ev tl σ H (.ref a)) (hx : SqL K H a vs) (hR : Rows H vs rs) (hz : vs.length ≤ 40000) (hw : ∀ x, wipe ((wipe σ ws).set j (some x)) ws = wipe σ ws)
    (ht : ∀ x r H1, Ex H H1 → IsRow H1 x r → EvT t ((wipe σ ws).set j (some x)) H1 (p r)) (hj : ∀ x, ((wipe σ ws).set j (some x))[j]? = some (some x)) :
    ∃ us, EvL (tLc (iList K tl) (gName j) t (tVar j) ws) σ H us ∧ Rows H us (rs.filter p) := by
  have hl := hR.len
  refine ⟨given vs.length (fun i => p (rs.getD i .fin)) (fun i => vs.getD i .non), el_lcL _ _ h hx hz hw (fun i x H1 e hi => ?_) (fun i x H1 e hi _ => ?_), ?_⟩
  · obtain ⟨r, hr, hX⟩ := hR.at hi
    rw [List.getD_eq_getElem?_getD, hr]
    exact ht x r H1 e (hX.up e)
  · rw [List.getD_eq_getElem?_getD, hi]
    exact ev_var (hj x)
  · have := given_rows (f := fun i => p (rs.getD i .fin)) (v := fun i => vs.getD i .non) (p := p) hR (fun i r hr => by rw [List.getD_eq_getElem?_getD, hr]; rfl) (fun i x hx => by rw [List.getD_eq_getElem?_getD, hx]; rfl) rs.length (Nat.le_refl _)
    rw [List.take_length] at this
    rw [hl]
    exact this
end
section
variable {K : PySem.W.Frag} {σ : L2.St} {H H' : Hp} {ta tb te tr tw tl : TE} {t : TT} {r : Rw} {rs ss : List Rw} {D : Ends} {tz : TS}
theorem epl_filter (p : Rw → Bool) {a : Addr} {vs : List V} {j : Nat} {ws : List Nat} (h : Ev tl σ H (.ref a)) (hx : SqL K H a vs) (hR : Rows H vs rs) (hz : vs.length ≤ 40000) (hw : ∀ x, wipe ((wipe σ ws).set j (some x)) ws = wipe σ ws)
    (ht : ∀ x r H1, Ex H H1 → IsRow H1 x r → EvT t ((wipe σ ws).set j (some x)) H1 (p r)) (hj : ∀ x, ((wipe σ ws).set j (some x))[j]? = some (some x)) :
    EvPL (tLc (iList K tl) (gName j) t (tVar j) ws) σ H (fun us H2 => Rows H2 us (rs.filter p)) := fun H1 e Q q => by
  obtain ⟨us, h1, h2⟩ := elr_filter h hx hR hz hw ht hj
  exact h1 H1 e Q fun p H2 hp e2 hq => q p us H2 hp e2 hq (h2.up (e.trans e2))
theorem q_asgPL {i : Nat} {R : List V → Hp → Prop} (h : EvPL te σ H R) (k : ∀ p us H1, H p = none → Ex H H1 → H1 p = some (.lst us) → R us H1 → tz D (σ.set i (some (.ref p))) H1) : tSeq (tAsg te (gName i)) tz D σ H :=
  h H (Ex.refl H) _ fun p us H1 hp e h1 hr => k p us H1 hp e h1 hr
end
section
variable {K : PySem.W.Frag} {σ : L2.St} {H H' : Hp} {ta tb te tr tw tl : TE} {t : TT} {r : Rw} {rs ss : List Rw} {D : Ends} {tz : TS}
theorem s_asgPL {i : Nat} {R : List V → Hp → Prop} (h : EvPL te σ H R) (k : ∀ p us H1, H p = none → Ex H H1 → H1 p = some (.lst us) → R us H1 → D.nx (σ.set i (some (.ref p))) H1) : tAsg te (gName i) D σ H :=
  h H (Ex.refl H) _ fun p us H1 hp e h1 hr => k p us H1 hp e h1 hr
theorem elr_catL (ha : EvP ta σ H (LRows rs)) (hb : EvP tb σ H (LRows ss)) (hl : rs.length + ss.length ≤ 100000) : EvPL (tOp rCat ta tb) σ H (fun us H2 => Rows H2 us (rs ++ ss)) := fun H1 e Q q =>
  ha H1 e _ fun v H2 e2 hv => hb H2 (e.trans e2) _ fun u H3 e3 hu => by
    obtain ⟨p, vs, rfl, h1, h2⟩ := hv
    obtain ⟨p', us, rfl, h3, h4⟩ := hu
    refine ⟨p, p', vs, us, rfl, rfl, e3 _ _ h1, h3, sz_of (by rw [h2.len, h4.len]; exact hl), fun z hz => q z _ _ (fresh_back (e2.trans e3) hz) (e2.trans (e3.trans (Ex.new hz))) upd_same (Rows.append ((h2.up e3).up (Ex.new hz)) (h4.up (Ex.new hz)))⟩
theorem ep_PL {rs : List Rw} (h : EvPL te σ H (fun us H2 => Rows H2 us rs)) : EvP te σ H (LRows rs) := fun H1 e Q q => h H1 e Q fun p us H2 _ e2 h2 hr => q _ H2 e2 ⟨p, us, rfl, h2, hr⟩
theorem s_pop {l : Addr} {xs : List V} (hl : H l = some (.lst xs)) (ha : Ev ta σ H (.ref l)) (hz : 0 < xs.length) (k : ∀ H1, Ex H H1 → D.nx σ (upd H1 l (.lst xs.dropLast))) : tDrop (tBM0 K "list" rPop ta) D σ H := ha H (Ex.refl H) _ fun H1 e1 =>
  ⟨Or.inl ⟨rfl, xs, sq_of (e1 l _ hl)⟩, l, xs, xs[xs.length - 1]'(by omega), rfl, rfl, e1 l _ hl, List.getElem?_eq_getElem (by omega), k H1 e1⟩
theorem q_pop {l : Addr} {xs : List V} (hl : H l = some (.lst xs)) (ha : Ev ta σ H (.ref l)) (hz : 0 < xs.length) (k : ∀ H1, Ex H H1 → tz D σ (upd H1 l (.lst xs.dropLast))) : tSeq (tDrop (tBM0 K "list" rPop ta)) tz D σ H := s_pop (D := { D with nx := tz D }) hl ha hz k
/-- [row for x in xs], a new row each -/
theorem epl_map {a : Addr} {xs : List V} {j : Nat} {ws : List Nat} (g : Nat → Rw) (h : Ev tl σ H (.ref a)) (hx : SqL K H a xs) (hz : xs.length ≤ 40000) (hw : ∀ x, wipe ((wipe σ ws).set j (some x)) ws = wipe σ ws)
    (he : ∀ i x H1, Ex H H1 → xs[i]? = some x → EvP te ((wipe σ ws).set j (some x)) H1 (ARow (g i))) : EvPL (tLc (iList K tl) (gName j) tYes te ws) σ H (fun us H2 => Rows H2 us ((List.range xs.length).map g)) := fun H0 e Q q => h H0 e _ fun H1 e1 => ⟨a, rfl, ⟨xs, ex_l (e.trans e1) hx⟩, fun Dl hD =>
  lc_list (K := K) (a := a) (xs := xs) (fun i H' => H1 Dl = none ∧ Ex H1 H' ∧ ∃ acc, H' Dl = some (.lst acc) ∧ Rows H' acc ((List.range i).map g)) ⟨hD, Ex.new hD, [], upd_same, .nil⟩ (fun i H' _ p => ex_l ((e.trans e1).trans p.2.1) hx)
    (fun i x H' hi p => ⟨hw x, by
      obtain ⟨p1, p2, acc, p3, p4⟩ := p
      have hil : i < xs.length := (List.getElem?_eq_some_iff.mp hi).1
      have hal : acc.length = i := by rw [p4.len, List.length_map, List.length_range]
      show te ((wipe σ ws).set j (some x)) H' fun y H4 => ∃ acc, H4 Dl = some (.lst acc) ∧ acc.length < sizeLine ∧ (H1 Dl = none ∧ Ex H1 (upd H4 Dl (.lst (acc ++ [y]))) ∧ ∃ acc2, (upd H4 Dl (.lst (acc ++ [y]))) Dl = some (.lst acc2) ∧ Rows (upd H4 Dl (.lst (acc ++ [y]))) acc2 ((List.range (i + 1)).map g))
      refine he i x H' ((e.trans e1).trans p2) hi H' (Ex.refl H') _ fun y H4 e4 hy => ⟨acc, e4 _ _ p3, sz_lt (by omega), p1, Ex.mut (p2.trans e4) p1, acc ++ [y], upd_same, ?_⟩
      have x4 : ExT H4 (upd H4 Dl (.lst (acc ++ [y]))) := ExT.lst (e4 _ _ p3)
      rw [List.range_succ, List.map_append]
      exact Rows.append ((p4.up e4).upT x4) (.cons (IsRow.upT x4 hy) .nil)⟩) (fun H' p => by
      obtain ⟨p1, p2, acc, p3, p4⟩ := p
      exact q Dl acc H' (fresh_back e1 p1) (e1.trans p2) p3 p4)⟩
end
section
variable {K : PySem.W.Frag} {σ : L2.St} {H H' : Hp} {ta tb te tr tw tl : TE} {t : TT} {r : Rw} {rs ss : List Rw} {D : Ends} {tz tu : TS}
/-- for i, x in enumerate(xs) -/
theorem q_forE {a : Addr} {xs : List V} {j k : Nat} (h : Ev tl σ H (.ref a)) (hx : SqL K H a xs) (Pv : Nat → L2.St → Hp → Prop) (h0 : ∀ H1, Ex H H1 → Pv 0 σ H1) (hl : ∀ i σ' H', i ≤ xs.length → Pv i σ' H' → SqL K H' a xs)
    (hs : ∀ (i : Nat) x σ' H' H2, xs[i]? = some x → Pv i σ' H' → Ex H' H2 → tu { D with nx := Pv (i + 1), ct := Pv (i + 1), bk := tz D } ((σ'.set j (some (.int (i : Int)))).set k (some x)) H2) (hd : ∀ σ' H', Pv xs.length σ' H' → tz D σ' H') :
    tSeq (tFor (iEnum K (tCons tl tNil)) (gTup K 2 (gCons (gName j) (gCons (gName k) gNil))) tu) tz D σ H :=
  h H (Ex.refl H) _ fun H1 e => ⟨a, xs, rfl, ex_l e hx, for_it (D := { D with nx := tz D }) walk_enum Pv (h0 H1 e) hl (fun i v σ' H' H2 hi p y => by
    obtain ⟨T, x1, x2, rfl, hT, rfl, e1, e2⟩ := y
    cases e1
    exact ⟨T, [.int (i : Int), x2], rfl, SqT.of upd_same, rfl, _, _, rfl, _, _, rfl, rfl, hs i x2 σ' H' _ e2 p (Ex.new hT)⟩) hd⟩
theorem q_forEN {xs : List V} {j k : Nat} (h : EvL tl σ H xs) (Pv : Addr → Nat → L2.St → Hp → Prop) (h0 : ∀ p H1, H p = none → Ex H H1 → H1 p = some (.lst xs) → Pv p 0 σ H1) (hl : ∀ p i σ' H', i ≤ xs.length → Pv p i σ' H' → SqL K H' p xs)
    (hs : ∀ p (i : Nat) x σ' H' H2, xs[i]? = some x → Pv p i σ' H' → Ex H' H2 → tu { D with nx := Pv p (i + 1), ct := Pv p (i + 1), bk := tz D } ((σ'.set j (some (.int (i : Int)))).set k (some x)) H2) (hd : ∀ p σ' H', Pv p xs.length σ' H' → tz D σ' H') :
    tSeq (tFor (iEnum K (tCons tl tNil)) (gTup K 2 (gCons (gName j) (gCons (gName k) gNil))) tu) tz D σ H :=
  h H (Ex.refl H) _ fun p H1 hp e h1 => ⟨p, xs, rfl, sq_of h1, for_it (D := { D with nx := tz D }) walk_enum (Pv p) (h0 p H1 hp e h1) (hl p) (fun i v σ' H' H2 hi q y => by
    obtain ⟨T, x1, x2, rfl, hT, rfl, e1, e2⟩ := y
    cases e1
    exact ⟨T, [.int (i : Int), x2], rfl, SqT.of upd_same, rfl, _, _, rfl, _, _, rfl, rfl, hs p i x2 σ' H' _ e2 q (Ex.new hT)⟩) (hd p)⟩
end
theorem given_all (n : Nat) (v : Nat → V) : given n (fun _ => true) v = (List.range n).map v := by
  unfold given
  rw [List.filter_eq_self.mpr (fun _ _ => rfl)]
theorem tag_named (r : Rw) : inV (.str r.tag) [V.str "lend", V.str "pick"] = r.named := by cases r <;> rfl
theorem tag_opens (r : Rw) : inV (.str r.tag) [V.str "lend", V.str "pick", V.str "either", V.str "again"] = r.opens := by cases r <;> rfl
theorem tag_lend (r : Rw) : decide (V.str r.tag = V.str "lend") = r.isLend := by cases r <;> rfl
theorem tag_fin (r : Rw) : decide (V.str r.tag = V.str "end") = r.isFin := by cases r <;> rfl
theorem tag_or (r : Rw) : decide (V.str r.tag = V.str "or") = r.isOr := by cases r <;> rfl
theorem tag_either (r : Rw) : decide (V.str r.tag = V.str "either") = r.isEither := by cases r <;> rfl
theorem rows_last {H : Hp} {vs : List V} {rs : List Rw} (h : Rows H vs rs) (h1 : 0 < vs.length) : ∃ x, atI vs (-1) = some x ∧ IsRow H x (rs.getD (rs.length - 1) .fin) := by
  have hl := h.len
  have h2 : rs.length - 1 < rs.length := by omega
  obtain ⟨x, hx, hr⟩ := h.get (List.getElem?_eq_getElem h2)
  have hne : vs ≠ [] := fun z => by
    subst z
    simp at h1
  refine ⟨x, ?_, ?_⟩
  · have e : vs = vs.dropLast ++ [x] := by
      have h3 := List.dropLast_concat_getLast hne
      have h4 : vs.getLast hne = x := by
        rw [List.getLast_eq_getElem]
        have := (List.getElem?_eq_some_iff.mp hx).2
        rw [← this]
        congr 1
        omega
      rw [h4] at h3
      exact h3.symm
    rw [e]
    exact atI_last _ _
  · rw [List.getD_eq_getElem?_getD, List.getElem?_eq_getElem h2]
    exact hr
/-! ### menus -/
def kindM (x : Int) : Str := if x % 2 = 0 then "read" else "write"
def pick2 {α : Type} (x : Int) (a b : α) : α := if x % 2 = 0 then a else b
def pick3 {α : Type} (x : Int) (a b c : α) : α := if x % 3 = 0 then a else if x % 3 = 1 then b else c
theorem at_nat' {xs : List V} {z : Int} (j : Nat) {v : V} (e : z = (j : Int)) (h : xs[j]? = some v) : atI xs z = some v := by
  rw [e]
  exact atI_nat h
theorem at_kind {x : Int} : atI [V.str "read", V.str "write"] (x % 2) = some (V.str (kindM x)) := by
  unfold kindM
  by_cases h : x % 2 = 0
  · rw [if_pos h]; exact at_nat' 0 (by omega) rfl
  · rw [if_neg h]; exact at_nat' 1 (by omega) rfl
theorem at2s {a b : Str} {x : Int} : atI [V.str a, V.str b] (x % 2) = some (V.str (pick2 x a b)) := by
  unfold pick2
  by_cases h : x % 2 = 0
  · rw [if_pos h]; exact at_nat' 0 (by omega) rfl
  · rw [if_neg h]; exact at_nat' 1 (by omega) rfl
theorem at3s {a b c : Str} {x : Int} : atI [V.str a, V.str b, V.str c] (x % 3) = some (V.str (pick3 x a b c)) := by
  unfold pick3
  by_cases h : x % 3 = 0
  · rw [if_pos h]; exact at_nat' 0 (by omega) rfl
  · rw [if_neg h]
    by_cases h2 : x % 3 = 1
    · rw [if_pos h2]; exact at_nat' 1 (by omega) rfl
    · rw [if_neg h2]; exact at_nat' 2 (by omega) rfl
theorem at3i {a b c : Int} {x : Int} : atI [V.int a, V.int b, V.int c] (x % 3) = some (V.int (pick3 x a b c)) := by
  unfold pick3
  by_cases h : x % 3 = 0
  · rw [if_pos h]; exact at_nat' 0 (by omega) rfl
  · rw [if_neg h]
    by_cases h2 : x % 3 = 1
    · rw [if_pos h2]; exact at_nat' 1 (by omega) rfl
    · rw [if_neg h2]; exact at_nat' 2 (by omega) rfl
theorem dp_ints {K : PySem.W.Frag} {H : Hp} : ∀ ns : List Int, DpAll K H (ns.map V.int) (ns.map PyData.int)
  | [] => .nil
  | n :: r => .cons (.int n) (dp_ints r)
end BD
namespace BD
open PySem PySem.Spec PyProof.Rows L2 Evl
def topS (i : Nat) : Stmt := PySem.Challenge.pw_borrowdesk_k01_who_is_awake.main.body.getD i (.Pass ⟨0, 0, 0, 0⟩)
local macro_rules | `(tactic| walk_at "ev") => `(tactic| first
  | ((with_reducible apply ev_var) ; rfl)
  | with_reducible exact ev_c
  | ((with_reducible apply ev_I0) <;> walk_at "ev")
  | ((with_reducible apply ev_e9) <;> walk_at "ev")
  | ((with_reducible apply ev_I) <;> walk_at "ev")
  | ((with_reducible apply ev_eq) <;> walk_at "ev")
  | ((with_reducible apply ev_ne) <;> walk_at "ev")
  | ((with_reducible apply ev_neg) <;> walk_at "ev")
  | ((with_reducible apply ev_ixN) <;> walk_at "ev")
  | ((with_reducible apply ev_ixL) <;> walk_at "ev")
  | ((with_reducible apply ev_inN) <;> walk_at "ev")
  | ((with_reducible apply ev_inT) <;> walk_at "ev")
  | ((with_reducible apply ev_ixT) <;> walk_at "ev")
  | ((with_reducible apply ev_ixS) <;> walk_at "ev")
  | ((with_reducible apply ev_len') <;> walk_at "ev")
  | ((with_reducible apply et_test) <;> walk_at "ev")
  | ((with_reducible apply et_and) <;> walk_at "ev")
  | ((with_reducible apply et_or) <;> walk_at "ev")
  | ((with_reducible apply et_not) <;> walk_at "ev")
  | ((with_reducible apply et_B) <;> walk_at "ev")
  | ((with_reducible apply el_lst) <;> walk_at "ev")
  | ((with_reducible apply eu_tup) <;> walk_at "ev")
  | ((with_reducible apply ea_cons) <;> walk_at "ev")
  | with_reducible exact ea_nil
  | with_reducible assumption
  | ((with_reducible apply ex_l' ; assumption) ; walk_at "ex")
  | ((with_reducible apply ex_t' ; assumption) ; walk_at "ex")
  | (intro _ ; walk_at "ev")
  | (with_reducible first | exact atI_hd | exact at_kind | exact at2s | exact at3s | exact at3i)
  | (first | exact rfl | exact Nat.le_of_ble_eq_true rfl | exact ⟨by decide, by decide⟩ | decide | exact Or.inl ⟨by omega, by omega⟩ | exact Or.inr ⟨by omega, by omega⟩ | omega)
  | skip)
local macro_rules | `(tactic| walk_at "ex") => `(tactic| first
  | assumption
  | exact Ex.refl _
  | (refine' Ex.trans ?_ (by assumption) ; walk_at "ex"))
local macro_rules | `(tactic| walk_at "row") => `(tactic| first
  | (with_reducible exact er_nil)
  | ((with_reducible apply er_cons) <;> walk_at "row")
  | (((with_reducible apply er_var) ; rfl) ; walk_at "isrow")
  | (((with_reducible apply elr_var) ; rfl) ; walk_at "isrow")
  | ((with_reducible apply elr_cat) <;> walk_at "row")
  | ((with_reducible apply elr_lst) <;> walk_at "row")
  | ((with_reducible apply er_fin) <;> walk_at "ev")
  | ((with_reducible apply er_lendT) <;> walk_at "ev")
  | ((with_reducible apply er_lendW) <;> walk_at "ev")
  | ((with_reducible apply er_pick) <;> walk_at "ev")
  | ((with_reducible apply er_either) <;> walk_at "ev")
  | ((with_reducible apply er_or) <;> walk_at "ev")
  | ((with_reducible apply er_again) <;> walk_at "ev")
  | ((with_reducible apply er_back) <;> walk_at "ev")
  | ((with_reducible apply er_look) <;> walk_at "ev")
  | ((with_reducible apply er_change) <;> walk_at "ev")
  | exact Nat.le_of_ble_eq_true rfl
  | skip)
local macro_rules | `(tactic| walk_at "isrow") => `(tactic| first
  | assumption
  | (refine IsRow.up ?_ (by assumption) ; walk_at "ex")
  | (refine LRows.up ?_ (by assumption) ; walk_at "ex"))

abbrev s_l_cell_at : Stmt := topS 3
theorem sc_l_cell_at : FnScope ["_law_script", "_law_k"] ["_law_script", "_law_k"] (defScope s_l_cell_at) := ⟨rfl, rfl, rfl, by decide +kernel, rfl, by decide +kernel, by decide +kernel⟩
abbrev s_l_thing : Stmt := topS 6
theorem sc_l_thing : FnScope ["_law_cell", "_law_base"] ["_law_cell", "_law_base"] (defScope s_l_thing) := ⟨rfl, rfl, rfl, by decide +kernel, rfl, by decide +kernel, by decide +kernel⟩
abbrev s_l_draw : Stmt := topS 5
theorem sc_l_draw : FnScope ["_law_script", "_law_base", "_law_style", "_law_size"] ["_law_script"] (defScope s_l_draw) := ⟨rfl, rfl, rfl, by decide +kernel, rfl, by decide +kernel, by decide +kernel⟩
section
variable {P : Program} {w : World} {K : PySem.W.Frag} {mg : Str → Option Value} {base : Heap}
def cellM (ns : List Int) (k : Int) : Int := ns.getD k.toNat 0
def spCell (K : PySem.W.Frag) : Sp := fun vs H Q _ => ∃ (a : Addr) (ns : List Int) (k : Int), vs = [.ref a, .int k] ∧ SqL K H a (ns.map V.int) ∧ 0 ≤ k ∧ RetV (.int (cellM ns k)) H Q
theorem ok_cell (D : Dn K mg "_law_cell_at" s_l_cell_at ["_law_script", "_law_k"]) (T : Blt mg) : Has P w K mg base "_law_cell_at" 1 ["_law_script", "_law_k"] (spCell K) := by
  refine D.ok sc_l_cell_at (fun vs H Q E h => ?_) (fun f cdv A outer s H vs Q E hr h => ?_)
  · obtain ⟨a, ns, k, rfl, _⟩ := h
    rfl
  · obtain ⟨a, ns, k, rfl, hS, h0, q⟩ := h
    refine ⟨_, (pss_cons (ps_if (pt_cmpR op_lt (pv 1) (pe_callB (show CallR _ _ (rLenS K) from call_len_seq) (by rfl) T.len_ (by decide +kernel) (pa_cons (pv 0) pa_nil)) (nomark _)) (pss_one (ps_ret (pe_ix (show IxR _ (rIxL K) from ix_list) (pv 0) (pv 1) (fun _ _ => rfl)))) pss_nil) (pss_one (ps_ret pe_int))), ?_⟩
    refine q_when (b := decide (k < ((ns.map V.int).length : Int))) ?_ (fun hb H1 e1 => ?_) (fun hb H1 e1 => ?_)
    · walk_at "ev"
    · have hb := of_decide_eq_true hb
      have hS := ex_l e1 hS
      refine s_ret (v := .int (cellM ns k)) ?_ (fun H2 e2 => q _ (e1.trans e2))
      rw [List.length_map] at hb
      walk_at "ev"
      exact at_ints ns h0 hb
    · have hb := of_decide_eq_false hb
      rw [List.length_map] at hb
      refine s_ret (v := .int 0) ?_ (fun H2 e2 => ?_)
      · walk_at "ev"
      · have := q H2 (e1.trans e2)
        unfold cellM at this
        rw [List.getD_eq_getElem?_getD, List.getElem?_eq_none (by omega)] at this
        exact this
theorem sp_cell {a : Addr} {ns : List Int} {k : Int} {H : Hp} (hS : SqL K H a (ns.map V.int)) (h0 : 0 ≤ k) : SpV (spCell K) [.ref a, .int k] H (.int (cellM ns k)) := fun H1 e Q q E =>
  ⟨a, ns, k, rfl, ex_l e hS, h0, q⟩
theorem ev_cell {a : Addr} {ns : List Int} {k : Int} {ta : TA} {σ : L2.St} {H : Hp} {E : XK} (h : EvA ta σ H [.ref a, .int k]) (hS : SqL K H a (ns.map V.int)) (h0 : 0 ≤ k) : Ev (tCall (spCell K) [] E ta) σ H (.int (cellM ns k)) :=
  ev_call h (sp_cell hS h0)
local macro_rules | `(tactic| walk_at "ev") => `(tactic| ((with_reducible apply ev_cell) <;> walk_at "ev"))
def thingM (c b : Int) : Int := if c % 8 = 7 then c / 8 % 1000000000 else (b + c % 3) % 1000000000
def spThing : Sp := fun vs H Q _ => ∃ (c b : Int), vs = [.int c, .int b] ∧ RetV (.int (thingM c b)) H Q
theorem ok_thing (D : Dn K mg "_law_thing" s_l_thing ["_law_cell", "_law_base"]) : Has P w K mg base "_law_thing" 1 ["_law_cell", "_law_base"] spThing := by
  refine D.ok sc_l_thing (fun vs H Q E h => ?_) (fun f cdv A outer s H vs Q E hr h => ?_)
  · obtain ⟨c, b, rfl, _⟩ := h
    rfl
  · obtain ⟨c, b, rfl, q⟩ := h
    refine ⟨_, (pss_cons (ps_if (pt_cmpR op_eq (pe_op op_mod (pv 0) pe_int) pe_int (nomark _)) (pss_one (ps_ret (pe_op op_mod (pe_op op_fdiv (pv 0) pe_int) (pe_op op_pow pe_int pe_int)))) pss_nil) (pss_one (ps_ret (pe_op op_mod (pe_op op_add (pv 1) (pe_op op_mod (pv 0) pe_int)) (pe_op op_pow pe_int pe_int))))), ?_⟩
    unfold thingM at q
    refine q_when (b := decide ((V.int (c % 8)) = V.int 7)) ?_ (fun hb H1 e1 => ?_) (fun hb H1 e1 => ?_)
    · walk_at "ev"
    · have hb := V.int.inj (of_decide_eq_true hb)
      rw [if_pos hb] at q
      refine s_ret ?_ (fun H2 e2 => q _ (e1.trans e2))
      walk_at "ev"
    · have hb : ¬ c % 8 = 7 := fun z => of_decide_eq_false hb (by rw [z])
      rw [if_neg hb] at q
      refine s_ret ?_ (fun H2 e2 => q _ (e1.trans e2))
      walk_at "ev"
theorem sp_thing {c b : Int} {H : Hp} : SpV spThing [.int c, .int b] H (.int (thingM c b)) := fun H1 e Q q E => ⟨c, b, rfl, q⟩
structure Draw where
  base : Int
  style : Int
  size : Int
  place : Int
  sign : Int
def Draw.vs (d : Draw) : List V := [.int d.base, .int d.style, .int d.size, .int d.place, .int d.sign]
structure Draw.Ok (d : Draw) : Prop where
  st0 : 0 ≤ d.style
  st4 : d.style < 4
  sz1 : 1 ≤ d.size
  sz12 : d.size ≤ 12
  pl0 : 0 ≤ d.place
  pl1 : d.place < d.size
  sg0 : 0 ≤ d.sign
  sg26 : d.sign < 26
def drawM (ns : List Int) : Draw where
  base := cellM ns 1 / 2 % 1000000000 * (cellM ns 1 % 2)
  style := cellM ns 2 / 8 % 4
  size := 1 + cellM ns 2 / 8 / 4 % 12
  place := cellM ns 1 % (1 + cellM ns 2 / 8 / 4 % 12)
  sign := cellM ns 0 % 26
theorem drawM_ok (ns : List Int) : (drawM ns).Ok := by
  have h : 0 < 1 + cellM ns 2 / 8 / 4 % 12 := by omega
  exact ⟨by show 0 ≤ cellM ns 2 / 8 % 4; omega, by show cellM ns 2 / 8 % 4 < 4; omega, by show 1 ≤ 1 + cellM ns 2 / 8 / 4 % 12; omega, by show 1 + cellM ns 2 / 8 / 4 % 12 ≤ 12; omega,
    Int.emod_nonneg _ (by omega), Int.emod_lt_of_pos _ h, by show 0 ≤ cellM ns 0 % 26; omega, by show cellM ns 0 % 26 < 26; omega⟩
def spDraw (K : PySem.W.Frag) : Sp := fun vs H Q _ => ∃ (a : Addr) (ns : List Int), vs = [.ref a] ∧ SqL K H a (ns.map V.int) ∧ RetL (drawM ns).vs H Q
theorem ok_draw (D : Dn K mg "_law_draw" s_l_draw ["_law_script"]) (h_l_cell_at : Has P w K mg base "_law_cell_at" 1 ["_law_script", "_law_k"] (spCell K)) : Has P w K mg base "_law_draw" 2 ["_law_script"] (spDraw K) := by
  refine D.ok sc_l_draw (fun vs H Q E h => ?_) (fun f cdv A outer s H vs Q E hr h => ?_)
  · obtain ⟨a, ns, rfl, _⟩ := h
    rfl
  · obtain ⟨a, ns, rfl, hS, q⟩ := h
    refine ⟨_, (pss_cons (ps_set (i := 1) sc_l_draw.nd rfl (Or.inl rfl) (pe_op op_mul (pe_op op_mod (pe_op op_fdiv (pe_own h_l_cell_at (hr.mono (by decide)) (by rfl) (pa_cons (pv 0) (pa_cons pe_int pa_nil))) pe_int) (pe_op op_pow pe_int pe_int)) (pe_op op_mod (pe_own h_l_cell_at (hr.mono (by decide)) (by rfl) (pa_cons (pv 0) (pa_cons pe_int pa_nil))) pe_int))) (pss_cons (ps_set (i := 2) sc_l_draw.nd rfl (Or.inl rfl) (pe_op op_fdiv (pe_own h_l_cell_at (hr.mono (by decide)) (by rfl) (pa_cons (pv 0) (pa_cons pe_int pa_nil))) pe_int)) (pss_cons (ps_set (i := 3) sc_l_draw.nd rfl (Or.inl rfl) (pe_op op_add pe_int (pe_op op_mod (pe_op op_fdiv (pv 2) pe_int) pe_int))) (pss_one (ps_ret (pe_lst (pa_cons (pv 1) (pa_cons (pe_op op_mod (pv 2) pe_int) (pa_cons (pv 3) (pa_cons (pe_op op_mod (pe_own h_l_cell_at (hr.mono (by decide)) (by rfl) (pa_cons (pv 0) (pa_cons pe_int pa_nil))) (pv 3)) (pa_cons (pe_op op_mod (pe_own h_l_cell_at (hr.mono (by decide)) (by rfl) (pa_cons (pv 0) (pa_cons pe_int pa_nil))) pe_int) pa_nil))))))))))), ?_⟩
    have hp : (0 : Int) < 1 + cellM ns 2 / 8 / 4 % 12 := by omega
    refine' q_asg ?_ (fun H1 e1 => ?_)
    rotate_left 1
    · walk_at "ev"
    refine' q_asg ?_ (fun H2 e2 => ?_)
    rotate_left 1
    · walk_at "ev"
    refine' q_asg ?_ (fun H3 e3 => ?_)
    rotate_left 1
    · walk_at "ev"
    refine s_retL (xs := (drawM ns).vs) ?_ (fun p H4 hp e4 h4 => q p H4 (fresh_back (show Ex H H3 by walk_at "ex") hp) (show Ex H H4 by walk_at "ex") h4)
    show EvL _ _ _ [.int (cellM ns 1 / 2 % 1000000000 * (cellM ns 1 % 2)), .int (cellM ns 2 / 8 % 4), .int (1 + cellM ns 2 / 8 / 4 % 12), .int (cellM ns 1 % (1 + cellM ns 2 / 8 / 4 % 12)), .int (cellM ns 0 % 26)]
    walk_at "ev"
end
end BD
namespace BD
open PySem PySem.Spec PyProof.Rows L2 Evl
local macro_rules | `(tactic| walk_at "ev") => `(tactic| first
  | ((with_reducible apply ev_var) ; rfl)
  | with_reducible exact ev_c
  | ((with_reducible apply ev_I0) <;> walk_at "ev")
  | ((with_reducible apply ev_e9) <;> walk_at "ev")
  | ((with_reducible apply ev_I) <;> walk_at "ev")
  | ((with_reducible apply ev_eq) <;> walk_at "ev")
  | ((with_reducible apply ev_ne) <;> walk_at "ev")
  | ((with_reducible apply ev_neg) <;> walk_at "ev")
  | ((with_reducible apply ev_ixN) <;> walk_at "ev")
  | ((with_reducible apply ev_ixL) <;> walk_at "ev")
  | ((with_reducible apply ev_inN) <;> walk_at "ev")
  | ((with_reducible apply ev_inT) <;> walk_at "ev")
  | ((with_reducible apply ev_ixT) <;> walk_at "ev")
  | ((with_reducible apply ev_ixS) <;> walk_at "ev")
  | ((with_reducible apply ev_len') <;> walk_at "ev")
  | ((with_reducible apply et_test) <;> walk_at "ev")
  | ((with_reducible apply et_and) <;> walk_at "ev")
  | ((with_reducible apply et_or) <;> walk_at "ev")
  | ((with_reducible apply et_not) <;> walk_at "ev")
  | ((with_reducible apply et_B) <;> walk_at "ev")
  | ((with_reducible apply el_lst) <;> walk_at "ev")
  | ((with_reducible apply eu_tup) <;> walk_at "ev")
  | ((with_reducible apply ea_cons) <;> walk_at "ev")
  | with_reducible exact ea_nil
  | with_reducible assumption
  | ((with_reducible apply ex_l' ; assumption) ; walk_at "ex")
  | ((with_reducible apply ex_t' ; assumption) ; walk_at "ex")
  | (intro _ ; walk_at "ev")
  | (with_reducible first | exact atI_hd | exact at_kind | exact at2s | exact at3s | exact at3i)
  | (first | exact rfl | exact Nat.le_of_ble_eq_true rfl | exact ⟨by decide, by decide⟩ | decide | exact Or.inl ⟨by omega, by omega⟩ | exact Or.inr ⟨by omega, by omega⟩ | omega)
  | skip)
local macro_rules | `(tactic| walk_at "ex") => `(tactic| first
  | assumption
  | exact Ex.refl _
  | (refine' Ex.trans ?_ (by assumption) ; walk_at "ex"))
local macro_rules | `(tactic| walk_at "row") => `(tactic| first
  | (with_reducible exact er_nil)
  | ((with_reducible apply er_cons) <;> walk_at "row")
  | (((with_reducible apply er_var) ; rfl) ; walk_at "isrow")
  | (((with_reducible apply elr_var) ; rfl) ; walk_at "isrow")
  | ((with_reducible apply elr_cat) <;> walk_at "row")
  | ((with_reducible apply elr_lst) <;> walk_at "row")
  | ((with_reducible apply er_fin) <;> walk_at "ev")
  | ((with_reducible apply er_lendT) <;> walk_at "ev")
  | ((with_reducible apply er_lendW) <;> walk_at "ev")
  | ((with_reducible apply er_pick) <;> walk_at "ev")
  | ((with_reducible apply er_either) <;> walk_at "ev")
  | ((with_reducible apply er_or) <;> walk_at "ev")
  | ((with_reducible apply er_again) <;> walk_at "ev")
  | ((with_reducible apply er_back) <;> walk_at "ev")
  | ((with_reducible apply er_look) <;> walk_at "ev")
  | ((with_reducible apply er_change) <;> walk_at "ev")
  | exact Nat.le_of_ble_eq_true rfl
  | skip)
local macro_rules | `(tactic| walk_at "isrow") => `(tactic| first
  | assumption
  | (refine IsRow.up ?_ (by assumption) ; walk_at "ex")
  | (refine LRows.up ?_ (by assumption) ; walk_at "ex"))

abbrev s_l_word : Stmt := topS 4
theorem sc_l_word : FnScope ["_law_one", "_law_two", "_law_deep", "_law_draw_here", "_law_letters", "_law_sign", "_law_found", "_law_k"] ["_law_one", "_law_two", "_law_deep", "_law_draw_here"] (defScope s_l_word) := ⟨rfl, rfl, rfl, by decide +kernel, rfl, by decide +kernel, by decide +kernel⟩
section
variable {P : Program} {w : World} {K : PySem.W.Frag} {mg : Str → Option Value} {base : Heap}
def mkS (l : List Nat) : Str := ⟨l.toArray⟩
theorem mkS_app (a b : List Nat) : mkS a ++ mkS b = mkS (a ++ b) := by
  show (⟨a.toArray ++ b.toArray⟩ : Str) = ⟨(a ++ b).toArray⟩
  rw [List.append_toArray]
theorem mkS_len (a : List Nat) : (mkS a).length = a.length := by
  show a.toArray.size = a.length
  exact List.size_toArray
theorem letters_at {i : Int} (h0 : 0 ≤ i) (h1 : i < 26) : atI ("abcdefghijklmnopqrstuvwxyz" : Str).cps.toList i = some (97 + i.toNat) := by
  have e : ("abcdefghijklmnopqrstuvwxyz" : Str).cps.toList = (List.range 26).map (97 + ·) := by decide +kernel
  rw [e]
  have e2 : i = ((i.toNat : Nat) : Int) := by omega
  have h2 : i.toNat < 26 := by omega
  rw [e2]
  refine atI_nat ?_
  rw [List.getElem?_map, List.getElem?_range h2, Int.toNat_natCast]
  rfl
theorem letters_len : ("abcdefghijklmnopqrstuvwxyz" : Str).length ≤ 100000 := by decide +kernel
theorem ev_letter {ta tb : TE} {σ : L2.St} {H : Hp} {i : Int} (ha : Ev ta σ H (.str "abcdefghijklmnopqrstuvwxyz")) (hb : Ev tb σ H (.int i)) (h0 : 0 ≤ i) (h1 : i < 26) : Ev (tOp rIxS ta tb) σ H (.str (mkS [97 + i.toNat])) :=
  ev_ixS ha hb letters_len (letters_at h0 h1)
local macro_rules | `(tactic| walk_at "ev") => `(tactic| ((with_reducible apply ev_letter) <;> walk_at "ev"))
def chM (one two deep : Int) (d : Draw) (k : Nat) : Nat :=
  if (k : Int) = d.place then 97 + ((d.sign + 5 * deep) % 26).toNat else if d.style = 1 then 97 + ((one + (k : Int) * two) % 26).toNat else 97 + d.size.toNat
def wordM (one two deep : Int) (d : Draw) : Str :=
  if d.style = 0 then Txt.mul (mkS [97 + (d.sign % 26).toNat]) (deep + 1) else mkS ((List.range d.size.toNat).map (chM one two deep d))
def spWord (K : PySem.W.Frag) : Sp := fun vs H Q _ => ∃ (one two deep : Int) (a : Addr) (d : Draw), vs = [.int one, .int two, .int deep, .ref a] ∧ SqL K H a d.vs ∧ d.Ok ∧ 0 ≤ deep ∧ deep ≤ 20 ∧ RetV (.str (wordM one two deep d)) H Q
theorem dvs0 {d : Draw} : atI d.vs 0 = some (.int d.base) := rfl
theorem dvs1 {d : Draw} : atI d.vs 1 = some (.int d.style) := rfl
theorem dvs2 {d : Draw} : atI d.vs 2 = some (.int d.size) := rfl
theorem dvs3 {d : Draw} : atI d.vs 3 = some (.int d.place) := rfl
theorem dvs4 {d : Draw} : atI d.vs 4 = some (.int d.sign) := rfl
theorem mulOk1 {c : Nat} {n : Int} (h0 : 1 ≤ n) (h1 : n ≤ 100) : MulOk (mkS [c]) n := by
  refine ⟨?_, fun _ _ => ?_, fun _ _ => ?_⟩
  · rw [decide_eq_false (by omega), decide_eq_false (by omega)]
    rfl
  · rw [mkS_len]
    show ¬ ((1 : Nat) : Int) > (2 ^ 63 - 1) / n
    have h2 : n * 1 ≤ 2 ^ 63 - 1 := by omega
    have h3 : (1 : Int) ≤ (2 ^ 63 - 1) / n := by
      rw [Int.le_ediv_iff_mul_le (by omega)]
      omega
    omega
  · rw [mkS_len]
    show Builtin.Str.tooLong (1 * n.toNat) = false
    unfold Builtin.Str.tooLong
    exact decide_eq_false (by
      have h4 : n.toNat ≤ 100 := by omega
      have h5 : (100 : Nat) < sizeLine := by decide
      omega)
theorem ok_word (D : Dn K mg "_law_word" s_l_word ["_law_one", "_law_two", "_law_deep", "_law_draw_here"]) (T : Blt mg) : Has P w K mg base "_law_word" 1 ["_law_one", "_law_two", "_law_deep", "_law_draw_here"] (spWord K) := by
  refine D.ok sc_l_word (fun vs H Q E h => ?_) (fun f cdv A outer s H vs Q E hr h => ?_)
  · obtain ⟨one, two, deep, a, d, rfl, _⟩ := h
    rfl
  · obtain ⟨one, two, deep, a, d, rfl, hS, ok, hd0, hd1, q⟩ := h
    obtain ⟨st0, st4, sz1, sz12, pl0, pl1, sg0, sg26⟩ := ok
    refine ⟨_, (pss_cons (ps_set (i := 4) sc_l_word.nd rfl (Or.inl rfl) pe_str) (pss_cons (ps_set (i := 5) sc_l_word.nd rfl (Or.inl rfl) (pe_ix ix_str (pv 4) (pe_op op_mod (pe_op op_add (pe_ix (show IxR _ (rIxL K) from ix_list) (pv 3) pe_int (fun _ _ => rfl)) (pe_op op_mul pe_int (pv 2))) pe_int) (fun _ _ => rfl))) (pss_cons (ps_if (pt_cmpR op_eq (pe_ix (show IxR _ (rIxL K) from ix_list) (pv 3) pe_int (fun _ _ => rfl)) pe_int (nomark _)) (pss_one (ps_ret (pe_op op_repS (pe_ix ix_str (pv 4) (pe_op op_mod (pe_ix (show IxR _ (rIxL K) from ix_list) (pv 3) pe_int (fun _ _ => rfl)) pe_int) (fun _ _ => rfl)) (pe_op op_add (pv 2) pe_int)))) pss_nil) (pss_cons (ps_set (i := 6) sc_l_word.nd rfl (Or.inl rfl) pe_str) (pss_cons (ps_for PassesOwn.never rfl (pi_range1 (by rfl) T.range_ (pa_cons (pe_ix (show IxR _ (rIxL K) from ix_list) (pv 3) pe_int (fun _ _ => rfl)) pa_nil)) (pg_name (i := 7) sc_l_word.nd rfl (Or.inl rfl)) (pss_one (ps_if (pt_cmpR op_eq (pv 7) (pe_ix (show IxR _ (rIxL K) from ix_list) (pv 3) pe_int (fun _ _ => rfl)) (nomark _)) (pss_one (ps_set (i := 6) sc_l_word.nd rfl (Or.inl rfl) (pe_op op_addT (pv 6) (pv 5)))) (pss_one (ps_if (pt_cmpR op_eq (pe_ix (show IxR _ (rIxL K) from ix_list) (pv 3) pe_int (fun _ _ => rfl)) pe_int (nomark _)) (pss_one (ps_set (i := 6) sc_l_word.nd rfl (Or.inl rfl) (pe_op op_addT (pv 6) (pe_ix ix_str (pv 4) (pe_op op_mod (pe_op op_add (pv 0) (pe_op op_mul (pv 7) (pv 1))) pe_int) (fun _ _ => rfl))))) (pss_one (ps_set (i := 6) sc_l_word.nd rfl (Or.inl rfl) (pe_op op_addT (pv 6) (pe_ix ix_str (pv 4) (pe_ix (show IxR _ (rIxL K) from ix_list) (pv 3) pe_int (fun _ _ => rfl)) (fun _ _ => rfl)))))))))) (pss_one (ps_ret (pv 6)))))))), ?_⟩
    refine' q_asg ev_c (fun H1 e1 => ?_)
    refine' q_asg (v := .str (mkS [97 + ((d.sign + 5 * deep) % 26).toNat])) ?_ (fun H2 e2 => ?_)
    · walk_at "ev"
    refine q_when (b := decide (V.int d.style = V.int 0)) ?_ (fun hb H3 e3 => ?_) (fun hb H3 e3 => ?_)
    · walk_at "ev"
    · have hb := V.int.inj (of_decide_eq_true hb)
      unfold wordM at q
      rw [if_pos hb] at q
      refine s_ret (v := .str (Txt.mul (mkS [97 + (d.sign % 26).toNat]) (deep + 1))) ?_ (fun H4 e4 => q H4 (by walk_at "ex"))
      refine ev_repS ?_ ?_ (mulOk1 (by omega) (by omega))
      · walk_at "ev"
      · walk_at "ev"
    · have hb : ¬ d.style = 0 := fun z => of_decide_eq_false hb (by rw [z])
      unfold wordM at q
      rw [if_neg hb] at q
      refine' q_asg ev_c (fun H4 e4 => ?_)
      refine q_forR1 (n := d.size) ?_ ⟨by omega, by omega⟩ (fun i σ' H' => Ex H4 H' ∧ ∃ x, σ' = [some (.int one), some (.int two), some (.int deep), some (.ref a), some (.str "abcdefghijklmnopqrstuvwxyz"), some (.str (mkS [97 + ((d.sign + 5 * deep) % 26).toNat])), some (.str (mkS ((List.range i).map (chM one two deep d)))), x]) ?_ ?_ ?_
      · walk_at "ev"
      · intro H5 e5
        exact ⟨e5, none, rfl⟩
      · rintro i σ' H' hi ⟨e5, x, rfl⟩
        have hS' : SqL K H' a d.vs := by walk_at "ev"
        have hl : (mkS ((List.range i).map (chM one two deep d))).length = i := by
          rw [mkS_len, List.length_map, List.length_range]
        have grow : ∀ c : Nat, chM one two deep d i = c → mkS ((List.range i).map (chM one two deep d)) ++ mkS [c] = mkS ((List.range (i + 1)).map (chM one two deep d)) := fun c hc => by
          rw [mkS_app, List.range_succ, List.map_append]
          show mkS (_ ++ [c]) = mkS (_ ++ [chM one two deep d i])
          rw [hc]
        refine s_if (b := decide (V.int (i : Int) = V.int d.place)) ?_ (fun hb2 H6 e6 => ?_) (fun hb2 H6 e6 => ?_)
        · walk_at "ev"
        · have hb2 := V.int.inj (of_decide_eq_true hb2)
          refine s_asg (v := .str (mkS ((List.range (i + 1)).map (chM one two deep d)))) ?_ (fun H7 e7 => ⟨by walk_at "ex", _, rfl⟩)
          rw [← grow _ (if_pos hb2)]
          refine ev_add _ _ ?_ ?_ (by rw [hl, mkS_len]; show i + 1 ≤ 100000; omega)
          · walk_at "ev"
          · walk_at "ev"
        · have hb2 : ¬ (i : Int) = d.place := fun z => of_decide_eq_false hb2 (by rw [z])
          refine s_if (b := decide (V.int d.style = V.int 1)) ?_ (fun hb3 H7 e7 => ?_) (fun hb3 H7 e7 => ?_)
          · walk_at "ev"
          · have hb3 := V.int.inj (of_decide_eq_true hb3)
            refine s_asg (v := .str (mkS ((List.range (i + 1)).map (chM one two deep d)))) ?_ (fun H8 e8 => ⟨by walk_at "ex", _, rfl⟩)
            rw [← grow _ ((if_neg hb2).trans (if_pos hb3))]
            refine ev_add _ _ ?_ ?_ (by rw [hl, mkS_len]; show i + 1 ≤ 100000; omega)
            · walk_at "ev"
            · walk_at "ev"
          · have hb3 : ¬ d.style = 1 := fun z => of_decide_eq_false hb3 (by rw [z])
            refine s_asg (v := .str (mkS ((List.range (i + 1)).map (chM one two deep d)))) ?_ (fun H8 e8 => ⟨by walk_at "ex", _, rfl⟩)
            rw [← grow _ ((if_neg hb2).trans (if_neg hb3))]
            refine ev_add _ _ ?_ ?_ (by rw [hl, mkS_len]; show i + 1 ≤ 100000; omega)
            · walk_at "ev"
            · walk_at "ev"
      · rintro σ' H' ⟨e5, x, rfl⟩
        refine s_ret (v := .str (mkS ((List.range d.size.toNat).map (chM one two deep d)))) ?_ (fun H4 e4 => q H4 (by walk_at "ex"))
        walk_at "ev"
theorem ev_word {one two deep : Int} {a : Addr} {d : Draw} {ta : TA} {σ : L2.St} {H : Hp} {E : XK} (h : EvA ta σ H [.int one, .int two, .int deep, .ref a]) (hS : SqL K H a d.vs) (ok : d.Ok) (h0 : 0 ≤ deep) (h1 : deep ≤ 20) :
    Ev (tCall (spWord K) [] E ta) σ H (.str (wordM one two deep d)) :=
  ev_call h fun H1 e Q q E => ⟨one, two, deep, a, d, rfl, ex_l e hS, ok, h0, h1, q⟩
end
end BD
namespace BD
open PySem PySem.Spec PyProof.Rows L2 Evl
/-! ### words and rows are well formed -/
def WordS (w : Str) : Prop := ∃ l : List Nat, w = mkS l ∧ 1 ≤ l.length ∧ l.length ≤ 12 ∧ ∀ c ∈ l, 97 ≤ c ∧ c ≤ 122
theorem fold_rep (c : Nat) : ∀ (n : Nat) (acc : List Nat), (List.replicate n #[c]).foldl (· ++ ·) acc.toArray = (acc ++ List.replicate n c).toArray
  | 0, acc => by simp
  | n + 1, acc => by
    rw [List.replicate_succ, List.foldl_cons]
    have e : acc.toArray ++ #[c] = (acc ++ [c]).toArray := by simp
    rw [e, fold_rep c n (acc ++ [c]), List.replicate_succ]
    simp
theorem mul_word {c : Nat} {n : Int} (h : 1 ≤ n) : Txt.mul (mkS [c]) n = mkS (List.replicate n.toNat c) := by
  unfold Txt.mul
  rw [if_neg (by omega)]
  by_cases h1 : n = 1
  · subst h1
    rfl
  · have e : (n == 1) = false := by simp [h1]
    have e2 : ((mkS [c]).length == 0) = false := rfl
    rw [e, e2]
    show (⟨(List.replicate n.toNat #[c]).foldl (· ++ ·) #[]⟩ : Str) = mkS (List.replicate n.toNat c)
    have := fold_rep c n.toNat []
    rw [List.nil_append] at this
    unfold mkS
    rw [← this]
theorem wordM_s {one two deep : Int} {d : Draw} (ok : d.Ok) (h0 : 0 ≤ deep) (h1 : deep ≤ 11) : WordS (wordM one two deep d) := by
  obtain ⟨st0, st4, sz1, sz12, pl0, pl1, sg0, sg26⟩ := ok
  unfold wordM
  split
  · rw [mul_word (by omega)]
    refine ⟨_, rfl, ?_, ?_, fun c hc => ?_⟩
    · rw [List.length_replicate]; omega
    · rw [List.length_replicate]; omega
    · have := (List.mem_replicate.mp hc).2
      subst this
      omega
  · refine ⟨_, rfl, ?_, ?_, fun c hc => ?_⟩
    · rw [List.length_map, List.length_range]; omega
    · rw [List.length_map, List.length_range]; omega
    · obtain ⟨k, _, rfl⟩ := List.mem_map.mp hc
      unfold chM
      split
      · omega
      split <;> omega
theorem word_ok {w : Str} (h : WordS w) : PyData.strOk w = true := by
  obtain ⟨l, rfl, _, _, hl⟩ := h
  unfold PyData.strOk mkS
  rw [List.all_toArray, List.all_eq_true]
  intro c hc
  have := hl c hc
  exact decide_eq_true (by omega)
end BD
namespace BD
open PySem PySem.Spec PyProof.Rows L2 Evl
local macro_rules | `(tactic| walk_at "ev") => `(tactic| first
  | ((with_reducible apply ev_var) ; rfl)
  | with_reducible exact ev_c
  | ((with_reducible apply ev_I0) <;> walk_at "ev")
  | ((with_reducible apply ev_e9) <;> walk_at "ev")
  | ((with_reducible apply ev_I) <;> walk_at "ev")
  | ((with_reducible apply ev_eq) <;> walk_at "ev")
  | ((with_reducible apply ev_ne) <;> walk_at "ev")
  | ((with_reducible apply ev_neg) <;> walk_at "ev")
  | ((with_reducible apply ev_ixN) <;> walk_at "ev")
  | ((with_reducible apply ev_ixL) <;> walk_at "ev")
  | ((with_reducible apply ev_inN) <;> walk_at "ev")
  | ((with_reducible apply ev_inT) <;> walk_at "ev")
  | ((with_reducible apply ev_ixT) <;> walk_at "ev")
  | ((with_reducible apply ev_ixS) <;> walk_at "ev")
  | ((with_reducible apply ev_len') <;> walk_at "ev")
  | ((with_reducible apply et_test) <;> walk_at "ev")
  | ((with_reducible apply et_and) <;> walk_at "ev")
  | ((with_reducible apply et_or) <;> walk_at "ev")
  | ((with_reducible apply et_not) <;> walk_at "ev")
  | ((with_reducible apply et_B) <;> walk_at "ev")
  | ((with_reducible apply el_lst) <;> walk_at "ev")
  | ((with_reducible apply eu_tup) <;> walk_at "ev")
  | ((with_reducible apply ea_cons) <;> walk_at "ev")
  | with_reducible exact ea_nil
  | with_reducible assumption
  | ((with_reducible apply ex_l' ; assumption) ; walk_at "ex")
  | ((with_reducible apply ex_t' ; assumption) ; walk_at "ex")
  | (intro _ ; walk_at "ev")
  | (with_reducible first | exact atI_hd | exact at_kind | exact at2s | exact at3s | exact at3i)
  | (first | exact rfl | exact Nat.le_of_ble_eq_true rfl | exact ⟨by decide, by decide⟩ | decide | exact Or.inl ⟨by omega, by omega⟩ | exact Or.inr ⟨by omega, by omega⟩ | omega)
  | skip)
local macro_rules | `(tactic| walk_at "ex") => `(tactic| first
  | assumption
  | exact Ex.refl _
  | (refine' Ex.trans ?_ (by assumption) ; walk_at "ex"))
local macro_rules | `(tactic| walk_at "row") => `(tactic| first
  | (with_reducible exact er_nil)
  | ((with_reducible apply er_cons) <;> walk_at "row")
  | (((with_reducible apply er_var) ; rfl) ; walk_at "isrow")
  | (((with_reducible apply elr_var) ; rfl) ; walk_at "isrow")
  | ((with_reducible apply elr_cat) <;> walk_at "row")
  | ((with_reducible apply elr_lst) <;> walk_at "row")
  | ((with_reducible apply er_fin) <;> walk_at "ev")
  | ((with_reducible apply er_lendT) <;> walk_at "ev")
  | ((with_reducible apply er_lendW) <;> walk_at "ev")
  | ((with_reducible apply er_pick) <;> walk_at "ev")
  | ((with_reducible apply er_either) <;> walk_at "ev")
  | ((with_reducible apply er_or) <;> walk_at "ev")
  | ((with_reducible apply er_again) <;> walk_at "ev")
  | ((with_reducible apply er_back) <;> walk_at "ev")
  | ((with_reducible apply er_look) <;> walk_at "ev")
  | ((with_reducible apply er_change) <;> walk_at "ev")
  | exact Nat.le_of_ble_eq_true rfl
  | skip)
local macro_rules | `(tactic| walk_at "isrow") => `(tactic| first
  | assumption
  | (refine IsRow.up ?_ (by assumption) ; walk_at "ex")
  | (refine LRows.up ?_ (by assumption) ; walk_at "ex"))

/-! ### entries of what is held -/
structure Ent where
  w : Str
  k : Str
  t : Int
  s : Str
  o : Bool
def Ent.vs (e : Ent) : List V := [.str e.w, .str e.k, .int e.t, .str e.s, .bl e.o]
def IsEnt (H : Hp) (v : V) (e : Ent) : Prop := ∃ p, v = .ref p ∧ H p = some (.tup e.vs)
def Ents (H : Hp) (vs : List V) (es : List Ent) : Prop := Paired (IsEnt H) vs es
/-- a tuple of entries; a standing -/
def AHeld (es : List Ent) : V → Hp → Prop := fun v H => ∃ p vs, v = .ref p ∧ H p = some (.tup vs) ∧ Ents H vs es
def AStand (i : Int) (es : List Ent) : V → Hp → Prop := fun v H => ∃ p q vs, v = .ref p ∧ H p = some (.tup [.int i, .ref q]) ∧ H q = some (.tup vs) ∧ Ents H vs es
theorem IsEnt.upT {H H' : Hp} {v : V} {e : Ent} (x : ExT H H') (h : IsEnt H v e) : IsEnt H' v e := by
  obtain ⟨p, h1, h2⟩ := h
  exact ⟨p, h1, x _ _ h2⟩
theorem Ents.upT {H H' : Hp} (e : ExT H H') : ∀ {vs : List V} {es : List Ent}, Ents H vs es → Ents H' vs es
  | _, _, .nil => .nil
  | _, _, .cons r t => .cons (r.upT e) (Ents.upT e t)
theorem Ents.up {H H' : Hp} (e : Ex H H') {vs : List V} {es : List Ent} (h : Ents H vs es) : Ents H' vs es := h.upT (ExT.of e)
theorem IsEnt.up {H H' : Hp} {v : V} {e : Ent} (x : Ex H H') (h : IsEnt H v e) : IsEnt H' v e := h.upT (ExT.of x)
theorem Ents.len {H : Hp} {vs : List V} {es : List Ent} (h : Ents H vs es) : vs.length = es.length := Paired.length h
theorem Ents.append {H : Hp} : ∀ {vs ws : List V} {rs ss : List Ent}, Ents H vs rs → Ents H ws ss → Ents H (vs ++ ws) (rs ++ ss)
  | _, _, _, _, .nil, s => s
  | _, _, _, _, .cons r t, s => .cons r (Ents.append t s)
theorem Ents.at {H : Hp} : ∀ {vs : List V} {rs : List Ent} {i : Nat} {x : V}, Ents H vs rs → vs[i]? = some x → ∃ r, rs[i]? = some r ∧ IsEnt H x r
  | _, _, _, _, .nil, e => by simp at e
  | _, _, 0, _, .cons r _, e => by simp at e; subst e; exact ⟨_, rfl, r⟩
  | _, _, i + 1, x, .cons _ t, e => by
    obtain ⟨u, h1, h2⟩ := Ents.at (i := i) (x := x) t (by simpa using e)
    exact ⟨u, by simpa using h1, h2⟩
theorem Ents.dropLast {H : Hp} : ∀ {vs : List V} {rs : List Ent}, Ents H vs rs → Ents H vs.dropLast rs.dropLast
  | _, _, .nil => .nil
  | _, _, .cons r .nil => .nil
  | _, _, .cons r (.cons r2 t) => .cons r (Ents.dropLast (.cons r2 t))
theorem AHeld.up {es : List Ent} {v : V} {H H' : Hp} (e : Ex H H') (h : AHeld es v H) : AHeld es v H' := by
  obtain ⟨p, vs, h1, h2, h3⟩ := h
  exact ⟨p, vs, h1, e _ _ h2, h3.up e⟩
theorem AStand.up {i : Int} {es : List Ent} {v : V} {H H' : Hp} (e : Ex H H') (h : AStand i es v H) : AStand i es v H' := by
  obtain ⟨p, q, vs, h1, h2, h3, h4⟩ := h
  exact ⟨p, q, vs, h1, e _ _ h2, e _ _ h3, h4.up e⟩
section
variable {K : PySem.W.Frag} {σ : L2.St} {H H' : Hp} {ta tb te tr tw tt : TE} {es fs : List Ent} {e : Ent}
theorem ep_heldvar {i : Nat} {v : V} (h : σ[i]? = some (some v)) (hr : AHeld es v H) : EvP (tVar i) σ H (AHeld es) := fun H1 x Q q => ⟨v, h, q v H1 (Ex.refl H1) (hr.up x)⟩
/-- t + u of entries -/
theorem ep_catT (ha : EvP ta σ H (AHeld es)) (hb : EvP tb σ H (AHeld fs)) (hl : es.length + fs.length ≤ 100000) : EvP (tOp (rCatA K) ta tb) σ H (AHeld (es ++ fs)) := fun H1 x Q q =>
  ha H1 x _ fun v H2 e2 hv => hb H2 (x.trans e2) _ fun u H3 e3 hu => by
    obtain ⟨p, vs, rfl, h1, h2⟩ := hv
    obtain ⟨p', us, rfl, h3, h4⟩ := hu
    have h2' := h2.up e3
    refine ⟨p, p', vs, us, rfl, rfl, st_of (e3 _ _ h1), st_of h3, sz_of (by rw [h2.len, h4.len]; exact hl), fun z => ?_, fun _ z => ?_, fun _ _ r hr => ?_⟩
    · refine q _ _ (e2.trans e3) ⟨p', us, rfl, h3, ?_⟩
      have := Ents.append h2' h4
      rw [z] at this
      exact this
    · refine q _ _ (e2.trans e3) ⟨p, vs, rfl, e3 _ _ h1, ?_⟩
      have := Ents.append h2' h4
      rw [z, List.append_nil] at this
      exact this
    · exact q _ _ (e2.trans (e3.trans (Ex.new hr))) ⟨r, _, rfl, upd_same, (Ents.append h2' h4).up (Ex.new hr)⟩
/-- (e,) -/
theorem ep_one (h : EvP te σ H (fun v H2 => IsEnt H2 v e)) : EvP (tTup (tCons te tNil)) σ H (AHeld [e]) := fun H1 x Q q =>
  h H1 x _ fun v H2 e2 hv => ⟨by show 1 ≤ sizeLine; decide, fun p hp => q _ _ (e2.trans (Ex.new hp)) ⟨p, [v], rfl, upd_same, .cons (hv.up (Ex.new hp)) .nil⟩⟩
end
theorem inV_strs (x : Str) : ∀ l : List Str, inV (.str x) (l.map V.str) = decide (x ∈ l)
  | [] => rfl
  | y :: l => by
    have ih := inV_strs x l
    unfold inV at ih ⊢
    rw [List.map_cons, List.any_cons, ih]
    show (y == x || decide (x ∈ l)) = decide (x ∈ y :: l)
    by_cases h : x = y
    · subst h
      rw [beq_self_eq_true, Bool.true_or, decide_eq_true List.mem_cons_self]
    · rw [beq_eq_false_iff_ne.mpr (fun z => h z.symm), Bool.false_or]
      by_cases h2 : x ∈ l
      · rw [decide_eq_true h2, decide_eq_true (List.mem_cons_of_mem _ h2)]
      · rw [decide_eq_false h2, decide_eq_false (fun z => (List.mem_cons.mp z).elim h h2)]
theorem flat_strs : ∀ l : List Str, (l.map V.str).all flatV = true
  | [] => rfl
  | _ :: l => flat_strs l
section
variable {K : PySem.W.Frag} {σ : L2.St} {H H' : Hp} {ta tb te tr tw tt : TE}
theorem ev_inLs {p : Addr} {x : Str} {l : List Str} (ha : Ev ta σ H (.str x)) (hb : Ev tb σ H (.ref p)) (h : SqL K H p (l.map V.str)) : Ev (tOp (rIn K false) ta tb) σ H (.bl (decide (x ∈ l))) := by
  rw [← inV_strs]
  exact ev_op ha hb (rv_isL h rfl (flat_strs l))
theorem ev_notInLs {p : Addr} {x : Str} {l : List Str} (ha : Ev ta σ H (.str x)) (hb : Ev tb σ H (.ref p)) (h : SqL K H p (l.map V.str)) : Ev (tOp (rIn K true) ta tb) σ H (.bl (!decide (x ∈ l))) := by
  rw [← inV_strs]
  exact ev_op ha hb (rv_niL h rfl (flat_strs l))
end
theorem paired_app {α β : Type} {F : α → β → Prop} : ∀ {a c : List α} {b d : List β}, Paired F a b → Paired F c d → Paired F (a ++ c) (b ++ d)
  | _, _, _, _, .nil, s => s
  | _, _, _, _, .cons r t, s => .cons r (paired_app t s)
theorem paired_drop {α β : Type} {F : α → β → Prop} : ∀ {a : List α} {b : List β}, Paired F a b → Paired F a.dropLast b.dropLast
  | _, _, .nil => .nil
  | _, _, .cons _ .nil => .nil
  | _, _, .cons r (.cons r2 t) => .cons r (paired_drop (.cons r2 t))
theorem given_rel {α : Type} {R : V → α → Prop} {f : Nat → Bool} {v : Nat → V} {p : α → Bool} {vs : List V} {rs : List α} (hR : Paired R vs rs) (hf : ∀ i r, rs[i]? = some r → f i = p r) (hv : ∀ i x, vs[i]? = some x → v i = x) : ∀ n, n ≤ rs.length → Paired R (given n f v) ((rs.take n).filter p)
  | 0, _ => .nil
  | n + 1, h => by
    have hn : n < rs.length := h
    have hl : vs.length = rs.length := Paired.length hR
    have hget : ∀ {vs : List V} {rs : List α} {i : Nat} {x : V} {r : α}, Paired R vs rs → vs[i]? = some x → rs[i]? = some r → R x r := fun {vs rs i x r} h => by
      induction h generalizing i with
      | nil => intro h1; simp at h1
      | cons a t ih =>
        intro h1 h2
        cases i with
        | zero =>
          cases h1
          cases h2
          exact a
        | succ i => exact ih (by simpa using h1) (by simpa using h2)
    have gv := List.getElem?_eq_getElem (show n < vs.length by omega)
    have gr := List.getElem?_eq_getElem hn
    have hX := hget hR gv gr
    have ih := given_rel hR hf hv n (by omega)
    have e1 : f n = p rs[n] := hf n _ gr
    rw [List.take_add_one, gr, List.filter_append]
    cases hp : p rs[n] with
    | true =>
      rw [given_yes (by rw [e1, hp]), hv n _ gv]
      refine paired_app ih ?_
      rw [show (some rs[n]).toList = [rs[n]] from rfl, List.filter_cons, if_pos hp]
      exact .cons hX .nil
    | false =>
      rw [given_no (by rw [e1, hp])]
      rw [show (some rs[n]).toList = [rs[n]] from rfl, List.filter_cons, if_neg (by rw [hp]; decide)]
      show Paired R _ (_ ++ [])
      rw [List.append_nil]
      exact ih
section
variable {K : PySem.W.Frag} {σ : L2.St} {H H' : Hp} {ta tb te tr tw tl : TE} {t : TT}
/-- a comprehension over a tuple -/
theorem el_lcT {a : Addr} {xs : List V} {tl : TE} {j : Nat} {vs : List Nat} (f : Nat → Bool) (v : Nat → V) (h : Ev tl σ H (.ref a)) (hx : SqT K H a xs) (hz : xs.length ≤ 40000) (hw : ∀ x, wipe ((wipe σ vs).set j (some x)) vs = wipe σ vs)
    (ht : ∀ (i : Nat) (x : V) H1, Ex H H1 → xs[i]? = some x → EvT t ((wipe σ vs).set j (some x)) H1 (f i)) (he : ∀ (i : Nat) (x : V) H1, Ex H H1 → xs[i]? = some x → f i = true → Ev te ((wipe σ vs).set j (some x)) H1 (v i)) :
    EvL (tLc (iTup K tl) (gName j) t te vs) σ H (given xs.length f v) := fun H0 e Q q => h H0 e _ fun H1 e1 => ⟨a, rfl, ⟨xs, ex_t (e.trans e1) hx⟩, fun Dl hD =>
  lc_tup (xs := xs) (Cw H1 f v Dl) ⟨hD, Ex.new hD, upd_same⟩ (fun i H' _ p => ex_t ((e.trans e1).trans p.2.1) hx) (fun i x H' hi p => ⟨hw x, cw_turn p (by have := (List.getElem?_eq_some_iff.mp hi).1; omega) (ht i x H1 (e.trans e1) hi) (fun hf => he i x H1 (e.trans e1) hi hf)⟩)
    (fun H' p => q Dl H' (fresh_back e1 p.1) (e1.trans p.2.1) p.2.2)⟩
theorem epl_filterT (p : Ent → Bool) {a : Addr} {vs : List V} {es : List Ent} {j : Nat} {ws : List Nat} (h : Ev tl σ H (.ref a)) (hx : SqT K H a vs) (hR : Ents H vs es) (hz : vs.length ≤ 40000) (hw : ∀ x, wipe ((wipe σ ws).set j (some x)) ws = wipe σ ws)
    (ht : ∀ x e H1, Ex H H1 → IsEnt H1 x e → EvT t ((wipe σ ws).set j (some x)) H1 (p e)) (hj : ∀ x, ((wipe σ ws).set j (some x))[j]? = some (some x)) :
    EvPL (tLc (iTup K tl) (gName j) t (tVar j) ws) σ H (fun us H2 => Ents H2 us (es.filter p)) := fun H1 e Q q => by
  have hl := hR.len
  have hev := el_lcT (K := K) (te := tVar j) (fun i => p (es.getD i ⟨"", "", 0, "", false⟩)) (fun i => vs.getD i .non) h hx hz hw (fun i x H3 e3 hi => by
    obtain ⟨r, hr, hX⟩ := hR.at hi
    rw [List.getD_eq_getElem?_getD, hr]
    exact ht x r H3 e3 (hX.up e3)) (fun i x H3 e3 hi _ => by
    rw [List.getD_eq_getElem?_getD, hi]
    exact ev_var (hj x))
  have hg := given_rel (f := fun i => p (es.getD i ⟨"", "", 0, "", false⟩)) (v := fun i => vs.getD i .non) (p := p) hR (fun i r hr => by rw [List.getD_eq_getElem?_getD, hr]; rfl) (fun i x hx => by rw [List.getD_eq_getElem?_getD, hx]; rfl) es.length (Nat.le_refl _)
  rw [List.take_length, ← hl] at hg
  exact hev H1 e Q fun pp H2 hp e2 hq => q pp _ H2 hp e2 hq (Ents.up (e.trans e2) hg)
theorem epl_filterE (p : Ent → Bool) {a : Addr} {vs : List V} {es : List Ent} {j : Nat} {ws : List Nat} (h : Ev tl σ H (.ref a)) (hx : SqL K H a vs) (hR : Ents H vs es) (hz : vs.length ≤ 40000) (hw : ∀ x, wipe ((wipe σ ws).set j (some x)) ws = wipe σ ws)
    (ht : ∀ x e H1, Ex H H1 → IsEnt H1 x e → EvT t ((wipe σ ws).set j (some x)) H1 (p e)) (hj : ∀ x, ((wipe σ ws).set j (some x))[j]? = some (some x)) :
    EvPL (tLc (iList K tl) (gName j) t (tVar j) ws) σ H (fun us H2 => Ents H2 us (es.filter p)) := fun H1 e Q q => by
  have hl := hR.len
  have hev := el_lcL (K := K) (te := tVar j) (fun i => p (es.getD i ⟨"", "", 0, "", false⟩)) (fun i => vs.getD i .non) h hx hz hw (fun i x H3 e3 hi => by
    obtain ⟨r, hr, hX⟩ := hR.at hi
    rw [List.getD_eq_getElem?_getD, hr]
    exact ht x r H3 e3 (hX.up e3)) (fun i x H3 e3 hi _ => by
    rw [List.getD_eq_getElem?_getD, hi]
    exact ev_var (hj x))
  have hg := given_rel (f := fun i => p (es.getD i ⟨"", "", 0, "", false⟩)) (v := fun i => vs.getD i .non) (p := p) hR (fun i r hr => by rw [List.getD_eq_getElem?_getD, hr]; rfl) (fun i x hx => by rw [List.getD_eq_getElem?_getD, hx]; rfl) es.length (Nat.le_refl _)
  rw [List.take_length, ← hl] at hg
  exact hev H1 e Q fun pp H2 hp e2 hq => q pp _ H2 hp e2 hq (Ents.up (e.trans e2) hg)
/-- [e.s for e if p] -/
theorem el_mapT (p : Ent → Bool) (g : Ent → Str) {a : Addr} {vs : List V} {es : List Ent} {j : Nat} {ws : List Nat} (h : Ev tl σ H (.ref a)) (hx : SqT K H a vs) (hR : Ents H vs es) (hz : vs.length ≤ 40000) (hw : ∀ x, wipe ((wipe σ ws).set j (some x)) ws = wipe σ ws)
    (ht : ∀ x e H1, Ex H H1 → IsEnt H1 x e → EvT t ((wipe σ ws).set j (some x)) H1 (p e)) (hg : ∀ x e H1, Ex H H1 → IsEnt H1 x e → Ev te ((wipe σ ws).set j (some x)) H1 (.str (g e))) :
    EvL (tLc (iTup K tl) (gName j) t te ws) σ H (((es.filter p).map g).map V.str) := by
  have hl := hR.len
  have hev := el_lcT (K := K) (te := te) (fun i => p (es.getD i ⟨"", "", 0, "", false⟩)) (fun i => .str (g (es.getD i ⟨"", "", 0, "", false⟩))) h hx hz hw (fun i x H3 e3 hi => by
    obtain ⟨r, hr, hX⟩ := hR.at hi
    rw [List.getD_eq_getElem?_getD, hr]
    exact ht x r H3 e3 (hX.up e3)) (fun i x H3 e3 hi _ => by
    obtain ⟨r, hr, hX⟩ := hR.at hi
    rw [List.getD_eq_getElem?_getD, hr]
    exact hg x r H3 e3 (hX.up e3))
  have e : given vs.length (fun i => p (es.getD i ⟨"", "", 0, "", false⟩)) (fun i => V.str (g (es.getD i ⟨"", "", 0, "", false⟩))) = ((es.filter p).map g).map V.str := by
    rw [hl]
    have key : ∀ n, n ≤ es.length → given n (fun i => p (es.getD i ⟨"", "", 0, "", false⟩)) (fun i => V.str (g (es.getD i ⟨"", "", 0, "", false⟩))) = (((es.take n).filter p).map g).map V.str := fun n => by
      induction n with
      | zero => intro _; rfl
      | succ n ih =>
        intro hn
        have hlt : n < es.length := hn
        have hgn := List.getElem?_eq_getElem hlt
        have hd : es.getD n ⟨"", "", 0, "", false⟩ = es[n] := by rw [List.getD_eq_getElem?_getD, hgn]; rfl
        rw [List.take_add_one, hgn, List.filter_append, List.map_append, List.map_append, ← ih (by omega)]
        cases hp : p es[n] with
        | true =>
          rw [given_yes (by rw [hd, hp])]
          rw [show (some es[n]).toList = [es[n]] from rfl, List.filter_cons, if_pos hp]
          rw [hd]
          rfl
        | false =>
          rw [given_no (by rw [hd, hp])]
          rw [show (some es[n]).toList = [es[n]] from rfl, List.filter_cons, if_neg (by rw [hp]; decide)]
          show _ = _ ++ []
          rw [List.append_nil]
    have := key es.length (Nat.le_refl _)
    rw [List.take_length] at this
    exact this
  rw [← e]
  exact hev
end
def ent0 : Ent := ⟨"", "", 0, "", false⟩
section
variable {K : PySem.W.Frag} {σ : L2.St} {H H' : Hp} {ta tb te tl tm : TE} {t : TT}
theorem ev_isi {ta : TA} {x : V} {m n : String} {b : Bool} (h : EvA ta σ H [x, .ty n]) (ty : TyX K H x (.type m)) (up : ∀ H1, Ex H H1 → TyX K H1 x (.type m)) (k : kitB m n = some b) : Ev (tCB (rIsi K) ta) σ H (.bl b) :=
  ev_cb h fun H1 e Q q => ⟨x, .ty n, .type m, .type n, b, rfl, ClsV.ty n, up H1 e, kit_ty k, q H1 (Ex.refl H1)⟩
theorem ev_isiI {ta : TA} {i : Int} {n : String} {b : Bool} (h : EvA ta σ H [.int i, .ty n]) (k : kitB "int" n = some b) : Ev (tCB (rIsi K) ta) σ H (.bl b) :=
  ev_isi h (.base (.int i)) (fun _ _ => .base (.int i)) k
theorem ev_isiS {ta : TA} {x : Str} {n : String} {b : Bool} (h : EvA ta σ H [.str x, .ty n]) (k : kitB "str" n = some b) : Ev (tCB (rIsi K) ta) σ H (.bl b) :=
  ev_isi h (.base (.str x)) (fun _ _ => .base (.str x)) k
theorem ev_isiB {ta : TA} {x : Bool} {n : String} {b : Bool} (h : EvA ta σ H [.bl x, .ty n]) (k : kitB "bool" n = some b) : Ev (tCB (rIsi K) ta) σ H (.bl b) :=
  ev_isi h (.base (.bl x)) (fun _ _ => .base (.bl x)) k
theorem ev_isiL {ta : TA} {p : Addr} {xs : List V} {n : String} {b : Bool} (h : EvA ta σ H [.ref p, .ty n]) (hp : H p = some (.lst xs)) (k : kitB "list" n = some b) : Ev (tCB (rIsi K) ta) σ H (.bl b) :=
  ev_isi h (.base (.lst hp)) (fun _ e => .base (.lst (e _ _ hp))) k
theorem ev_isiT {ta : TA} {p : Addr} {xs : List V} {n : String} {b : Bool} (h : EvA ta σ H [.ref p, .ty n]) (hp : H p = some (.tup xs)) (k : kitB "tuple" n = some b) : Ev (tCB (rIsi K) ta) σ H (.bl b) :=
  ev_isi h (.base (.tup hp)) (fun _ e => .base (.tup (e _ _ hp))) k
theorem ev_all {bs : List Bool} (h : EvL ta σ H (bs.map V.bl)) : Ev (tCB (rAll K) (tCons ta tNil)) σ H (.bl (bs.all id)) := fun H1 e Q q =>
  h H1 e _ fun p H2 _ e2 h2 => ⟨p, bs, rfl, sq_of h2, q H2 e2⟩
theorem ev_eqD {x y : V} {d e : PyData} (ha : Ev ta σ H x) (hb : Ev tb σ H y) (dx : ∀ H1, Ex H H1 → Dp K H1 x d) (dy : ∀ H1, Ex H H1 → Dp K H1 y e) (s1 : SeqAt.shaped d = true) (s2 : SeqAt.shaped e = true) : Ev (tOp (rEqD K) ta tb) σ H (.bl (PyData.eqv d e)) :=
  ev_op ha hb (rv_val fun H1 e1 Q q => ⟨d, e, dx H1 e1, dy H1 e1, s1, s2, q⟩)
theorem ev_neD {x y : V} {d e : PyData} (ha : Ev ta σ H x) (hb : Ev tb σ H y) (dx : ∀ H1, Ex H H1 → Dp K H1 x d) (dy : ∀ H1, Ex H H1 → Dp K H1 y e) (s1 : SeqAt.shaped d = true) (s2 : SeqAt.shaped e = true) : Ev (tOp (rNeD K) ta tb) σ H (.bl (!PyData.eqv d e)) :=
  ev_op ha hb (rv_val fun H1 e1 Q q => ⟨d, e, dx H1 e1, dy H1 e1, s1, s2, q⟩)
theorem dp_listI {p : Addr} {ns : List Int} (h : SqL K H p (ns.map V.int)) : Dp K H (.ref p) (.list (ns.map PyData.int)) := .lst h (dp_ints ns)
theorem eqv_ints (ns : List Int) : PyData.eqv (.list (ns.map PyData.int)) (.list (ns.map PyData.int)) = true :=
  SeqAt.eqv_refl _ (SeqAt.canLay_of_shaped (PySem.W.ke_shaped_ints ns))
theorem given_rep (n : Nat) (v : V) : given n (fun _ => true) (fun _ => v) = List.replicate n v := by
  rw [given_all]
  refine List.ext_getElem? fun i => ?_
  rw [List.getElem?_map, List.getElem?_replicate]
  by_cases h : i < n
  · rw [List.getElem?_range h, if_pos h]; rfl
  · rw [if_neg h, List.getElem?_eq_none (by rw [List.length_range]; omega)]; rfl
theorem rep_all : ∀ n, (List.replicate n true).all id = true
  | 0 => rfl
  | n + 1 => by rw [List.replicate_succ, List.all_cons, rep_all n]; rfl
theorem el_lcZ {a b : Addr} {xs ys : List V} {j k : Nat} {ws : List Nat} (v : V) (hxy : xs.length = ys.length) (h : Ev tl σ H (.ref a)) (h2 : Ev tm σ H (.ref b)) (hx : SqL K H a xs) (hy : SqL K H b ys) (hz : xs.length ≤ 40000)
    (hw : ∀ x y, wipe (((wipe σ ws).set j (some x)).set k (some y)) ws = wipe σ ws) (he : ∀ (i : Nat) x y H1, Ex H H1 → xs[i]? = some x → ys[i]? = some y → Ev te (((wipe σ ws).set j (some x)).set k (some y)) H1 v) :
    EvL (tLc (iZip K (tCons tl (tCons tm tNil))) (gTup K 2 (gCons (gName j) (gCons (gName k) gNil))) tYes te ws) σ H (List.replicate xs.length v) := fun H0 e Q q =>
  h H0 e _ fun H1 e1 => h2 H1 (e.trans e1) _ fun H2 e2 => ⟨a, b, xs, ys, rfl, ex_l ((e.trans e1).trans e2) hx, ex_l ((e.trans e1).trans e2) hy, fun Dl hD =>
    lc_it (walk_zip (K := K) (n := xs.length) (by omega)) (fun i H' => H2 Dl = none ∧ Ex H2 H' ∧ H' Dl = some (.lst (List.replicate i v))) ⟨hD, Ex.new hD, upd_same⟩ (fun i H' _ p => ⟨ex_l (((e.trans e1).trans e2).trans p.2.1) hx, ex_l (((e.trans e1).trans e2).trans p.2.1) hy⟩)
      (fun i z H' H3 hi p y => by
        obtain ⟨T, x1, x2, rfl, hT, rfl, g1, g2⟩ := y
        obtain ⟨p1, p2, p3⟩ := p
        have eT : Ex H' (upd H' T (.tup [x1, x2])) := Ex.new hT
        refine ⟨T, [x1, x2], rfl, SqT.of upd_same, rfl, _, _, rfl, _, _, rfl, rfl, hw x1 x2, ?_⟩
        show te _ _ _
        refine he i x1 x2 _ ((((e.trans e1).trans e2).trans p2).trans eT) g1 g2 _ (Ex.refl _) _ fun H4 e4 => ⟨List.replicate i v, e4 _ _ (eT _ _ p3), sz_lt (by rw [List.length_replicate]; omega), p1, Ex.mut ((p2.trans eT).trans e4) p1, ?_⟩
        rw [upd_same, List.replicate_succ']) (fun H' p => q Dl H' (fresh_back (e1.trans e2) p.1) ((e1.trans e2).trans p.2.1) p.2.2)⟩
end
theorem cut_take (xs : List V) (n : Nat) : cutV xs none (some (n : Int)) = xs.take n := by
  unfold cutV
  rw [HT.sIx_none, HT.sIx_nat, List.drop_zero, Nat.sub_zero]
  by_cases h : n ≤ xs.length
  · rw [Nat.min_eq_left h]
  · rw [Nat.min_eq_right (by omega), List.take_of_length_le (Nat.le_refl _), List.take_of_length_le (by omega)]
theorem ents_take {H : Hp} : ∀ {vs : List V} {rs : List Ent} (n : Nat), Ents H vs rs → Ents H (vs.take n) (rs.take n)
  | _, _, 0, _ => .nil
  | _, _, _ + 1, .nil => .nil
  | _, _, n + 1, .cons r t => .cons r (ents_take n t)
theorem any_range_succ (n : Nat) (f : Nat → Bool) : (List.range (n + 1)).any f = ((List.range n).any f || f n) := by
  rw [List.range_succ, List.any_append]
  simp
section
variable {K : PySem.W.Frag}
theorem ev_e0 {i : Nat} {x : V} {e : Ent} {σ : L2.St} {H : Hp} (h : σ[i]? = some (some x)) (hx : IsEnt H x e) : Ev (tOp (rIxT K) (tVar i) (tC (.int 0))) σ H (.str e.w) := by
  obtain ⟨p, rfl, hp⟩ := hx
  exact ev_ixT (ev_var h) (st_of hp) ev_c rfl
theorem ev_e1 {i : Nat} {x : V} {e : Ent} {σ : L2.St} {H : Hp} (h : σ[i]? = some (some x)) (hx : IsEnt H x e) : Ev (tOp (rIxT K) (tVar i) (tC (.int 1))) σ H (.str e.k) := by
  obtain ⟨p, rfl, hp⟩ := hx
  exact ev_ixT (ev_var h) (st_of hp) ev_c rfl
theorem ev_e2 {i : Nat} {x : V} {e : Ent} {σ : L2.St} {H : Hp} (h : σ[i]? = some (some x)) (hx : IsEnt H x e) : Ev (tOp (rIxT K) (tVar i) (tC (.int 2))) σ H (.int e.t) := by
  obtain ⟨p, rfl, hp⟩ := hx
  exact ev_ixT (ev_var h) (st_of hp) ev_c rfl
theorem ev_e3 {i : Nat} {x : V} {e : Ent} {σ : L2.St} {H : Hp} (h : σ[i]? = some (some x)) (hx : IsEnt H x e) : Ev (tOp (rIxT K) (tVar i) (tC (.int 3))) σ H (.str e.s) := by
  obtain ⟨p, rfl, hp⟩ := hx
  exact ev_ixT (ev_var h) (st_of hp) ev_c rfl
theorem ev_e4 {i : Nat} {x : V} {e : Ent} {σ : L2.St} {H : Hp} (h : σ[i]? = some (some x)) (hx : IsEnt H x e) : Ev (tOp (rIxT K) (tVar i) (tC (.int 4))) σ H (.bl e.o) := by
  obtain ⟨p, rfl, hp⟩ := hx
  exact ev_ixT (ev_var h) (st_of hp) ev_c rfl
theorem dec_str (a b : Str) : decide (V.str a = V.str b) = decide (a = b) := by
  by_cases h : a = b
  · rw [h, decide_eq_true rfl, decide_eq_true rfl]
  · rw [decide_eq_false h, decide_eq_false (fun z => h (V.str.inj z))]
theorem el_mapL (g : Ent → Str) {tl te : TE} {σ : L2.St} {H : Hp} {a : Addr} {vs : List V} {es : List Ent} {j : Nat} {ws : List Nat} (h : Ev tl σ H (.ref a)) (hx : SqL K H a vs) (hR : Ents H vs es) (hz : vs.length ≤ 40000) (hw : ∀ x, wipe ((wipe σ ws).set j (some x)) ws = wipe σ ws)
    (hg : ∀ x e H1, Ex H H1 → IsEnt H1 x e → Ev te ((wipe σ ws).set j (some x)) H1 (.str (g e))) : EvL (tLc (iList K tl) (gName j) tYes te ws) σ H ((es.map g).map V.str) := by
  have hl := hR.len
  have hev := el_lcL (K := K) (te := te) (t := tYes) (fun _ => true) (fun i => .str (g (es.getD i ent0))) h hx hz hw (fun i x H3 e3 hi => et_yes) (fun i x H3 e3 hi _ => by
    obtain ⟨r, hr, hX⟩ := hR.at hi
    rw [List.getD_eq_getElem?_getD, hr]
    exact hg x r H3 e3 (hX.up e3))
  have e : given vs.length (fun _ => true) (fun i => V.str (g (es.getD i ent0))) = (es.map g).map V.str := by
    rw [hl, given_all]
    refine List.ext_getElem? fun i => ?_
    by_cases hi : i < es.length
    · rw [List.getElem?_map, List.getElem?_range hi, List.getElem?_map, List.getElem?_map, List.getElem?_eq_getElem hi]
      show some (V.str (g (es.getD i ent0))) = some (V.str (g es[i]))
      rw [List.getD_eq_getElem?_getD, List.getElem?_eq_getElem hi]
      rfl
    · rw [List.getElem?_eq_none (by rw [List.length_map, List.length_range]; omega), List.getElem?_eq_none (by rw [List.length_map, List.length_map]; omega)]
  rw [← e]
  exact hev
theorem s_forNLn {D : Ends} {σ : L2.St} {H : Hp} {tu : TS} {xs : List V} {tl : TE} {j : Nat} (h : EvL tl σ H xs) (Pv : Addr → Nat → L2.St → Hp → Prop) (h0 : ∀ p H1, H p = none → Ex H H1 → H1 p = some (.lst xs) → Pv p 0 σ H1) (hl : ∀ p i σ' H', i ≤ xs.length → Pv p i σ' H' → SqL K H' p xs)
    (hs : ∀ p (i : Nat) x σ' H', xs[i]? = some x → Pv p i σ' H' → tu { D with nx := Pv p (i + 1), ct := Pv p (i + 1), bk := D.nx } (σ'.set j (some x)) H') (hd : ∀ p σ' H', Pv p xs.length σ' H' → D.nx σ' H') : tFor (iList K tl) (gName j) tu D σ H :=
  s_forNL h Pv h0 hl hs hd
end
section
variable {K : PySem.W.Frag} {σ : L2.St} {H H' : Hp} {ta tb te tr tw tt : TE} {es fs : List Ent} {e : Ent}
theorem ev_lenT {p : Addr} {xs : List V} (ha : Ev ta σ H (.ref p)) (h : SqT K H p xs) : Ev (tCB (rLenS K) (tCons ta tNil)) σ H (.int (xs.length : Int)) := fun H1 e Q q =>
  ha H1 e _ fun H2 e2 => ⟨p, xs, rfl, Or.inr (ex_t (e.trans e2) h), q H2 e2⟩
theorem ep_ent5 {ta : TA} {w k s : Str} {t : Int} {o : Bool} (h : EvA ta σ H [.str w, .str k, .int t, .str s, .bl o]) : EvP (tTup ta) σ H (fun v H2 => IsEnt H2 v ⟨w, k, t, s, o⟩) := fun H1 e Q q =>
  (eu_tup h (Nat.le_of_ble_eq_true rfl)) H1 e Q fun p H2 _ e2 h2 => q _ H2 e2 ⟨p, rfl, h2⟩
theorem ep_held_ev {v : V} (h : Ev te σ H v) (hr : AHeld es v H) : EvP te σ H (AHeld es) := fun H1 x Q q => h H1 x Q fun H2 e2 => q v H2 e2 (hr.up (x.trans e2))
theorem ep_dropT {te : TE} {th : TO} (h : EvP te σ H (AHeld es)) (h2 : EvO th σ H (some (-1))) : EvP (tSl (rSlA K) te tNoPart th) σ H (AHeld es.dropLast) := fun H1 e _ q =>
  h H1 e _ fun v H2 e2 hv => h2 H2 (e.trans e2) _ fun H4 e4 => by
    obtain ⟨p, vs, rfl, g1, g2⟩ := hv
    have hd : cutV vs none (some (-1)) = vs.dropLast := by
      unfold cutV
      rw [HT.sIx_none, List.drop_zero, Nat.sub_zero, List.dropLast_eq_take]
      congr 1
      show (if (-1 : Int) < 0 then ((-1 : Int) + (vs.length : Int)).toNat else min (-1 : Int).toNat vs.length) = _
      rw [if_pos (by omega)]
      omega
    refine ⟨p, vs, rfl, st_of (e4 _ _ g1), fun z => ?_, fun z r hr => ?_⟩
    · have hlen : vs.length = 0 := by
        have h3 := z.2
        have h4 : HT.sIx vs.length vs.length (some (-1)) = ((-1 : Int) + (vs.length : Int)).toNat := by
          show (if (-1 : Int) < 0 then ((-1 : Int) + (vs.length : Int)).toNat else min (-1 : Int).toNat vs.length) = _
          rw [if_pos (by omega)]
        rw [h4] at h3
        omega
      have hv0 : vs = [] := List.length_eq_zero_iff.mp hlen
      subst hv0
      cases g2
      exact q _ _ (e2.trans e4) ⟨p, [], rfl, e4 _ _ g1, .nil⟩
    · rw [hd]
      exact q _ _ ((e2.trans e4).trans (Ex.new hr)) ⟨r, _, rfl, upd_same, (g2.dropLast.up e4).up (Ex.new hr)⟩
end
end BD
namespace BD
open PySem PySem.Spec PyProof.Rows L2 Evl
local macro_rules | `(tactic| walk_at "ev") => `(tactic| first
  | ((with_reducible apply ev_var) ; rfl)
  | with_reducible exact ev_c
  | ((with_reducible apply ev_I0) <;> walk_at "ev")
  | ((with_reducible apply ev_e9) <;> walk_at "ev")
  | ((with_reducible apply ev_I) <;> walk_at "ev")
  | ((with_reducible apply ev_eq) <;> walk_at "ev")
  | ((with_reducible apply ev_ne) <;> walk_at "ev")
  | ((with_reducible apply ev_neg) <;> walk_at "ev")
  | ((with_reducible apply ev_ixN) <;> walk_at "ev")
  | ((with_reducible apply ev_ixL) <;> walk_at "ev")
  | ((with_reducible apply ev_inN) <;> walk_at "ev")
  | ((with_reducible apply ev_inT) <;> walk_at "ev")
  | ((with_reducible apply ev_ixT) <;> walk_at "ev")
  | ((with_reducible apply ev_ixS) <;> walk_at "ev")
  | ((with_reducible apply ev_len') <;> walk_at "ev")
  | ((with_reducible apply et_test) <;> walk_at "ev")
  | ((with_reducible apply et_and) <;> walk_at "ev")
  | ((with_reducible apply et_or) <;> walk_at "ev")
  | ((with_reducible apply et_not) <;> walk_at "ev")
  | ((with_reducible apply et_B) <;> walk_at "ev")
  | ((with_reducible apply el_lst) <;> walk_at "ev")
  | ((with_reducible apply eu_tup) <;> walk_at "ev")
  | ((with_reducible apply ea_cons) <;> walk_at "ev")
  | with_reducible exact ea_nil
  | with_reducible assumption
  | ((with_reducible apply ex_l' ; assumption) ; walk_at "ex")
  | ((with_reducible apply ex_t' ; assumption) ; walk_at "ex")
  | (intro _ ; walk_at "ev")
  | (with_reducible first | exact atI_hd | exact at_kind | exact at2s | exact at3s | exact at3i)
  | (first | exact rfl | exact Nat.le_of_ble_eq_true rfl | exact ⟨by decide, by decide⟩ | decide | exact Or.inl ⟨by omega, by omega⟩ | exact Or.inr ⟨by omega, by omega⟩ | omega)
  | skip)
local macro_rules | `(tactic| walk_at "ex") => `(tactic| first
  | assumption
  | exact Ex.refl _
  | (refine' Ex.trans ?_ (by assumption) ; walk_at "ex"))
local macro_rules | `(tactic| walk_at "row") => `(tactic| first
  | (with_reducible exact er_nil)
  | ((with_reducible apply er_cons) <;> walk_at "row")
  | (((with_reducible apply er_var) ; rfl) ; walk_at "isrow")
  | (((with_reducible apply elr_var) ; rfl) ; walk_at "isrow")
  | ((with_reducible apply elr_cat) <;> walk_at "row")
  | ((with_reducible apply elr_lst) <;> walk_at "row")
  | ((with_reducible apply er_fin) <;> walk_at "ev")
  | ((with_reducible apply er_lendT) <;> walk_at "ev")
  | ((with_reducible apply er_lendW) <;> walk_at "ev")
  | ((with_reducible apply er_pick) <;> walk_at "ev")
  | ((with_reducible apply er_either) <;> walk_at "ev")
  | ((with_reducible apply er_or) <;> walk_at "ev")
  | ((with_reducible apply er_again) <;> walk_at "ev")
  | ((with_reducible apply er_back) <;> walk_at "ev")
  | ((with_reducible apply er_look) <;> walk_at "ev")
  | ((with_reducible apply er_change) <;> walk_at "ev")
  | exact Nat.le_of_ble_eq_true rfl
  | skip)
local macro_rules | `(tactic| walk_at "isrow") => `(tactic| first
  | assumption
  | (refine IsRow.up ?_ (by assumption) ; walk_at "ex")
  | (refine LRows.up ?_ (by assumption) ; walk_at "ex"))

abbrev s_l_awake : Stmt := topS 7
theorem sc_l_awake : FnScope ["_law_held_here", "_law_lending", "_law_hands", "_law_one"] ["_law_held_here"] (defScope s_l_awake) := ⟨rfl, rfl, rfl, by decide +kernel, rfl, by decide +kernel, by decide +kernel⟩
def awakeM (es : List Ent) : List Ent :=
  (es.filter fun e => !decide (e.k = ("pick" : Str)) && e.o).filter fun e => !decide (e.w ∈ (es.filter fun e : Ent => e.o).map fun e : Ent => e.s)
theorem ent_at {H : Hp} {x : V} {e : Ent} (h : IsEnt H x e) : ∃ p, x = .ref p ∧ H p = some (.tup e.vs) := h
section
variable {P : Program} {w : World} {K : PySem.W.Frag} {mg : Str → Option Value} {base : Heap}
def spAwake (K : PySem.W.Frag) : Sp := fun vs H Q _ => ∃ (x : V) (es : List Ent), vs = [x] ∧ AHeld es x H ∧ es.length ≤ 1000 ∧ ∀ p us H2, H p = none → Ex H H2 → H2 p = some (.lst us) → Ents H2 us (awakeM es) → Q (.ref p) H2
theorem ok_awake (D : Dn K mg "_law_awake" s_l_awake ["_law_held_here"]) : Has P w K mg base "_law_awake" 1 ["_law_held_here"] (spAwake K) := by
  refine D.ok sc_l_awake (fun vs H Q E h => ?_) (fun f cdv A outer st H vs Q E hr h => ?_)
  · obtain ⟨x, es, rfl, _⟩ := h
    rfl
  · obtain ⟨x, es, rfl, hx, hlen, q⟩ := h
    obtain ⟨p, hv, rfl, hp, hE⟩ := hx
    have hP : SqT K H p hv := st_of hp
    have hle := hE.len
    refine ⟨_, (pss_cons (ps_set (i := 1) sc_l_awake.nd rfl (Or.inr rfl) (pe_lc (own := [("_law_one", 3)]) (g := (gName 3))  rfl sc_l_awake.nd (pi_tup (pv 0)) (blkOk_by (own := [("_law_one", 3)]) (N := ["_law_held_here", "_law_lending", "_law_hands", "_law_one"]) (sc := defScope s_l_awake) (by decide +kernel)) (fun _ _ _ _ _ => (pg_name (i := 3) sc_l_awake.nd rfl (Or.inl rfl))) (fun _ _ _ _ _ => (pts_one (pt_val (pe_ix (show IxR _ (rIxT K) from ix_tup) (pv 3) pe_int (fun _ _ => rfl))))) (fun _ _ _ _ _ => (pe_ix (show IxR _ (rIxT K) from ix_tup) (pv 3) pe_int (fun _ _ => rfl))))) (pss_cons (ps_setLc (i := 2) (own := [("_law_one", 3)]) (g := (gName 3))  rfl sc_l_awake.nd rfl rfl (sw_true rfl rfl rfl (by decide +kernel)) (pi_tup (pv 0)) (blkOk_by (own := [("_law_one", 3)]) (N := ["_law_held_here", "_law_lending", "_law_hands", "_law_one"]) (sc := defScope s_l_awake) (by decide +kernel)) (fun _ _ _ _ _ => (pg_name (i := 3) sc_l_awake.nd rfl (Or.inl rfl))) (fun _ _ _ _ _ => (pts_one (PW.pt (pw_and (pt_cmpR op_ne (pe_ix (show IxR _ (rIxT K) from ix_tup) (pv 3) pe_int (fun _ _ => rfl)) pe_str (nomark _)) (pw_and1 (pt_val (pe_ix (show IxR _ (rIxT K) from ix_tup) (pv 3) pe_int (fun _ _ => rfl)))))))) (fun _ _ _ _ _ => (pv 3))) (pss_one (ps_ret (pe_lc (own := [("_law_one", 3)]) (g := (gName 3))  rfl sc_l_awake.nd (pi_list (pv 2)) (blkOk_by (own := [("_law_one", 3)]) (N := ["_law_held_here", "_law_lending", "_law_hands", "_law_one"]) (sc := defScope s_l_awake) (by decide +kernel)) (fun _ _ _ _ _ => (pg_name (i := 3) sc_l_awake.nd rfl (Or.inl rfl))) (fun _ _ _ _ _ => (pts_one (pt_cmpR (show OpR _ _ (rIn K true) from op_notIn_seq) (pe_ix (show IxR _ (rIxT K) from ix_tup) (pv 3) pe_int (fun _ _ => rfl)) (pv 1) (by rfl)))) (fun _ _ _ _ _ => (pv 3))))))), ?_⟩
    show (_ : L2.TS) _ [_, _, _, _] _
    refine q_asgL (el_mapT (K := K) (fun e : Ent => e.o) (fun e : Ent => e.s) (ev_var rfl) hP hE (by omega) (fun x => rfl) (fun x e H1 _ hx => ?_) (fun x e H1 _ hx => ?_)) (fun pl H1 hpl e1 h1 => ?_)
    · exact et_B (ev_e4 rfl hx)
    · exact ev_e3 rfl hx
    show (_ : L2.TS) _ [_, _, _, _] _
    refine q_asgPL (epl_filterT (fun e => !decide (e.k = ("pick" : Str)) && e.o) (ev_var rfl) (ex_t e1 hP) (hE.up e1) (by omega) (fun x => rfl) (fun x e H2 _ hx => ?_) (fun x => rfl)) (fun ph us H2 hph e2 h2 hU => ?_)
    · rw [← dec_str]
      exact et_and (et_test (ev_ne (ev_e1 rfl hx) ev_c rfl)) (fun _ => et_B (ev_e4 rfl hx))
    show (_ : L2.TS) _ [_, _, _, _] _
    have hL2 : SqL K H2 pl (((es.filter fun e : Ent => e.o).map fun e : Ent => e.s).map V.str) := ex_l e2 (sq_of h1)
    have hul := hU.len
    have hfl := List.length_filter_le (fun e : Ent => !decide (e.k = ("pick" : Str)) && e.o) es
    refine (epl_filterE (fun e => !decide (e.w ∈ (es.filter fun e : Ent => e.o).map fun e : Ent => e.s)) (ev_var rfl) (sq_of h2) hU (by omega) (fun x => rfl) (fun x e H3 e3 hx => ?_) (fun x => rfl)) H2 (Ex.refl H2) _ fun pz zs H3 hpz e3 h3 hZ => q pz zs H3 (fresh_back (e1.trans e2) hpz) ((e1.trans e2).trans e3) h3 hZ
    exact et_test (ev_notInLs (ev_e0 rfl hx) (ev_var rfl) (ex_l e3 hL2))
theorem epl_awake {x : V} {es : List Ent} {ta : TA} {σ : L2.St} {H : Hp} {E : XK} (h : EvA ta σ H [x]) (hx : AHeld es x H) (hl : es.length ≤ 1000) : EvPL (tCall (spAwake K) [] E ta) σ H (fun us H2 => Ents H2 us (awakeM es)) := fun H1 e Q q =>
  h H1 e _ fun H2 e2 => ⟨x, es, rfl, hx.up (e.trans e2), hl, fun p us H3 hp e3 h3 hs => q p us H3 (fresh_back e2 hp) (e2.trans e3) h3 hs⟩
end
end BD
namespace BD
open PySem PySem.Spec PyProof.Rows L2 Evl
local macro_rules | `(tactic| walk_at "ev") => `(tactic| first
  | ((with_reducible apply ev_var) ; rfl)
  | with_reducible exact ev_c
  | ((with_reducible apply ev_I0) <;> walk_at "ev")
  | ((with_reducible apply ev_e9) <;> walk_at "ev")
  | ((with_reducible apply ev_I) <;> walk_at "ev")
  | ((with_reducible apply ev_eq) <;> walk_at "ev")
  | ((with_reducible apply ev_ne) <;> walk_at "ev")
  | ((with_reducible apply ev_neg) <;> walk_at "ev")
  | ((with_reducible apply ev_ixN) <;> walk_at "ev")
  | ((with_reducible apply ev_ixL) <;> walk_at "ev")
  | ((with_reducible apply ev_inN) <;> walk_at "ev")
  | ((with_reducible apply ev_inT) <;> walk_at "ev")
  | ((with_reducible apply ev_ixT) <;> walk_at "ev")
  | ((with_reducible apply ev_ixS) <;> walk_at "ev")
  | ((with_reducible apply ev_len') <;> walk_at "ev")
  | ((with_reducible apply et_test) <;> walk_at "ev")
  | ((with_reducible apply et_and) <;> walk_at "ev")
  | ((with_reducible apply et_or) <;> walk_at "ev")
  | ((with_reducible apply et_not) <;> walk_at "ev")
  | ((with_reducible apply et_B) <;> walk_at "ev")
  | ((with_reducible apply el_lst) <;> walk_at "ev")
  | ((with_reducible apply eu_tup) <;> walk_at "ev")
  | ((with_reducible apply ea_cons) <;> walk_at "ev")
  | with_reducible exact ea_nil
  | with_reducible assumption
  | ((with_reducible apply ex_l' ; assumption) ; walk_at "ex")
  | ((with_reducible apply ex_t' ; assumption) ; walk_at "ex")
  | (intro _ ; walk_at "ev")
  | (with_reducible first | exact atI_hd | exact at_kind | exact at2s | exact at3s | exact at3i)
  | (first | exact rfl | exact Nat.le_of_ble_eq_true rfl | exact ⟨by decide, by decide⟩ | decide | exact Or.inl ⟨by omega, by omega⟩ | exact Or.inr ⟨by omega, by omega⟩ | omega)
  | skip)
local macro_rules | `(tactic| walk_at "ex") => `(tactic| first
  | assumption
  | exact Ex.refl _
  | (refine' Ex.trans ?_ (by assumption) ; walk_at "ex"))
local macro_rules | `(tactic| walk_at "row") => `(tactic| first
  | (with_reducible exact er_nil)
  | ((with_reducible apply er_cons) <;> walk_at "row")
  | (((with_reducible apply er_var) ; rfl) ; walk_at "isrow")
  | (((with_reducible apply elr_var) ; rfl) ; walk_at "isrow")
  | ((with_reducible apply elr_cat) <;> walk_at "row")
  | ((with_reducible apply elr_lst) <;> walk_at "row")
  | ((with_reducible apply er_fin) <;> walk_at "ev")
  | ((with_reducible apply er_lendT) <;> walk_at "ev")
  | ((with_reducible apply er_lendW) <;> walk_at "ev")
  | ((with_reducible apply er_pick) <;> walk_at "ev")
  | ((with_reducible apply er_either) <;> walk_at "ev")
  | ((with_reducible apply er_or) <;> walk_at "ev")
  | ((with_reducible apply er_again) <;> walk_at "ev")
  | ((with_reducible apply er_back) <;> walk_at "ev")
  | ((with_reducible apply er_look) <;> walk_at "ev")
  | ((with_reducible apply er_change) <;> walk_at "ev")
  | exact Nat.le_of_ble_eq_true rfl
  | skip)
local macro_rules | `(tactic| walk_at "isrow") => `(tactic| first
  | assumption
  | (refine IsRow.up ?_ (by assumption) ; walk_at "ex")
  | (refine LRows.up ?_ (by assumption) ; walk_at "ex"))

local macro_rules | `(tactic| walk_at "ev") => `(tactic| ((with_reducible apply ev_letter) <;> walk_at "ev"))
local macro_rules | `(tactic| walk_at "ev") => `(tactic| ((with_reducible apply ev_cell) <;> walk_at "ev"))
abbrev s_l_held : Stmt := topS 10
theorem sc_l_held : FnScope ["_law_script", "_law_draw_here", "_law_held_here", "_law_k", "_law_cell", "_law_other", "_law_hands", "_law_kind", "_law_thing_here", "_law_source", "_law_out", "_law_holder", "_law_word_here", "_law_one"] ["_law_script"] (defScope s_l_held) := ⟨rfl, rfl, rfl, by decide +kernel, rfl, by decide +kernel, by decide +kernel⟩
abbrev s_l_whole : Stmt := topS 8
theorem sc_l_whole : FnScope ["_law_found"] ["_law_found"] (defScope s_l_whole) := ⟨rfl, rfl, rfl, by decide +kernel, rfl, by decide +kernel, by decide +kernel⟩
abbrev s_l_entry : Stmt := topS 9
theorem sc_l_entry : FnScope ["_law_found"] ["_law_found"] (defScope s_l_entry) := ⟨rfl, rfl, rfl, by decide +kernel, rfl, by decide +kernel, by decide +kernel⟩
def KindS (k : Str) : Prop := k = "read" ∨ k = "write" ∨ k = "pick"
structure EntS (e : Ent) : Prop where
  w : WordS e.w
  k : KindS e.k
  s : e.s = "" ∨ WordS e.s
theorem all_cons {α : Type} {p : α → Prop} {a : α} {l : List α} (h : p a) (t : ∀ x ∈ l, p x) : ∀ x ∈ a :: l, p x := fun x hx => by
  rcases List.mem_cons.mp hx with e | e
  · subst e; exact h
  · exact t x e
theorem all_nil {α : Type} {p : α → Prop} : ∀ x ∈ ([] : List α), p x := fun x hx => by cases hx
theorem all_app {α : Type} {p : α → Prop} {a b : List α} (h : ∀ x ∈ a, p x) (t : ∀ x ∈ b, p x) : ∀ x ∈ a ++ b, p x := fun x hx => (List.mem_append.mp hx).elim (h x) (t x)
def kind5 (c : Int) : Str := (["read", "write", "read", "write", "pick"] : List Str).getD (c % 5).toNat ""
theorem kind5_s (c : Int) : KindS (kind5 c) := by
  unfold kind5 KindS
  have h : (c % 5).toNat = 0 ∨ (c % 5).toNat = 1 ∨ (c % 5).toNat = 2 ∨ (c % 5).toNat = 3 ∨ (c % 5).toNat = 4 := by omega
  rcases h with h | h | h | h | h <;> rw [h]
  · exact .inl rfl
  · exact .inr (.inl rfl)
  · exact .inl rfl
  · exact .inr (.inl rfl)
  · exact .inr (.inr rfl)
theorem at_kind5 {c : Int} : atI [V.str "read", V.str "write", V.str "read", V.str "write", V.str "pick"] (c % 5) = some (.str (kind5 c)) :=
  at_strs ["read", "write", "read", "write", "pick"] (i := c % 5) (by omega) (by show c % 5 < 5; omega)
theorem ents_at {H : Hp} {vs : List V} {es : List Ent} {i : Int} (h : Ents H vs es) (h0 : 0 ≤ i) (h1 : i < vs.length) : ∃ x e, atI vs i = some x ∧ e ∈ es ∧ IsEnt H x e := by
  obtain ⟨j, rfl⟩ : ∃ j : Nat, i = (j : Int) := ⟨i.toNat, by omega⟩
  have h2 : j < vs.length := by omega
  obtain ⟨r, hr, hX⟩ := h.at (List.getElem?_eq_getElem h2)
  exact ⟨vs[j], r, atI_nat (List.getElem?_eq_getElem h2), List.mem_of_getElem? hr, hX⟩
section
variable {P : Program} {w : World} {K : PySem.W.Frag} {mg : Str → Option Value} {base : Heap}
theorem ev_thing {c b : Int} {ta : TA} {σ : L2.St} {H : Hp} {E : XK} (h : EvA ta σ H [.int c, .int b]) : Ev (tCall spThing [] E ta) σ H (.int (thingM c b)) := ev_call h sp_thing
local macro_rules | `(tactic| walk_at "ev") => `(tactic| ((with_reducible apply ev_thing) <;> walk_at "ev"))
def AEnts : V → Hp → Prop := fun v H => ∃ es, AHeld es v H ∧ es.length ≤ 9 ∧ ∀ e ∈ es, EntS e
def spHeld (K : PySem.W.Frag) : Sp := fun vs H Q _ => ∃ (a : Addr) (ns : List Int), vs = [.ref a] ∧ SqL K H a (ns.map V.int) ∧ Ret AEnts H Q
theorem ok_held (D : Dn K mg "_law_held" s_l_held ["_law_script"]) (T : Blt mg) (h_l_draw : Has P w K mg base "_law_draw" 2 ["_law_script"] (spDraw K)) (h_l_cell_at : Has P w K mg base "_law_cell_at" 1 ["_law_script", "_law_k"] (spCell K)) (h_l_thing : Has P w K mg base "_law_thing" 1 ["_law_cell", "_law_base"] spThing) (h_l_word : Has P w K mg base "_law_word" 1 ["_law_one", "_law_two", "_law_deep", "_law_draw_here"] (spWord K)) : Has P w K mg base "_law_held" 3 ["_law_script"] (spHeld K) := by
  refine D.ok sc_l_held (fun vs H Q E h => ?_) (fun f cdv A outer st H vs Q E hr h => ?_)
  · obtain ⟨a, ns, rfl, _⟩ := h
    rfl
  · obtain ⟨a, ns, rfl, hS, q⟩ := h
    refine ⟨_, (pss_cons (ps_set (i := 1) sc_l_held.nd rfl (Or.inl rfl) (pe_own h_l_draw (hr.mono (by decide)) (by rfl) (pa_cons (pv 0) pa_nil))) (pss_cons (ps_set (i := 2) sc_l_held.nd rfl (Or.inl rfl) (pe_tup pa_nil)) (pss_cons (ps_for PassesOwn.never rfl (pi_range1 (by rfl) T.range_ (pa_cons (pe_op op_mod (pe_own h_l_cell_at (hr.mono (by decide)) (by rfl) (pa_cons (pv 0) (pa_cons pe_int pa_nil))) pe_int) pa_nil)) (pg_name (i := 3) sc_l_held.nd rfl (Or.inl rfl)) (pss_cons (ps_set (i := 4) sc_l_held.nd rfl (Or.inl rfl) (pe_own h_l_cell_at (hr.mono (by decide)) (by rfl) (pa_cons (pv 0) (pa_cons (pe_op op_add pe_int (pe_op op_mul pe_int (pv 3))) pa_nil)))) (pss_cons (ps_set (i := 5) sc_l_held.nd rfl (Or.inl rfl) (pe_own h_l_cell_at (hr.mono (by decide)) (by rfl) (pa_cons (pv 0) (pa_cons (pe_op op_add pe_int (pe_op op_mul pe_int (pv 3))) pa_nil)))) (pss_cons (ps_setLc (i := 6) (own := [("_law_one", 13)]) (g := (gName 13))  rfl sc_l_held.nd rfl rfl (sw_true rfl rfl rfl (by decide +kernel)) (pi_tup (pv 2)) (blkOk_by (own := [("_law_one", 13)]) (N := ["_law_script", "_law_draw_here", "_law_held_here", "_law_k", "_law_cell", "_law_other", "_law_hands", "_law_kind", "_law_thing_here", "_law_source", "_law_out", "_law_holder", "_law_word_here", "_law_one"]) (sc := defScope s_l_held) (by decide +kernel)) (fun _ _ _ _ _ => (pg_name (i := 13) sc_l_held.nd rfl (Or.inl rfl))) (fun _ _ _ _ _ => (pts_one (pt_cmpR op_ne (pe_ix (show IxR _ (rIxT K) from ix_tup) (pv 13) pe_int (fun _ _ => rfl)) pe_str (nomark _)))) (fun _ _ _ _ _ => (pv 13))) (pss_cons (ps_set (i := 7) sc_l_held.nd rfl (Or.inl rfl) (pe_ix (show IxR _ (rIxL K) from ix_list) (pe_lst (pa_cons pe_str (pa_cons pe_str (pa_cons pe_str (pa_cons pe_str (pa_cons pe_str pa_nil)))))) (pe_op op_mod (pv 4) pe_int) (fun _ _ => rfl))) (pss_cons (ps_if (pt_cmpR op_eq (pe_callB (show CallR _ _ (rLenS K) from call_len_seq) (by rfl) T.len_ (by decide +kernel) (pa_cons (pv 6) pa_nil)) pe_int (nomark _)) (pss_one (ps_set (i := 7) sc_l_held.nd rfl (Or.inl rfl) pe_str)) pss_nil) (pss_cons (ps_if (PW.pt (pw_and (pt_cmpR op_eq (pe_op op_sub (pe_callB (show CallR _ _ (rLenS K) from call_len_seq) (by rfl) T.len_ (by decide +kernel) (pa_cons (pv 2) pa_nil)) (pe_callB (show CallR _ _ (rLenS K) from call_len_seq) (by rfl) T.len_ (by decide +kernel) (pa_cons (pv 6) pa_nil))) pe_int (nomark _)) (pw_and1 (pt_cmpR op_eq (pv 7) pe_str (nomark _))))) (pss_one (ps_set (i := 7) sc_l_held.nd rfl (Or.inl rfl) pe_str)) pss_nil) (pss_cons (ps_set (i := 8) sc_l_held.nd rfl (Or.inl rfl) (pe_own h_l_thing (hr.mono (by decide)) (by rfl) (pa_cons (pe_op op_fdiv (pv 5) pe_int) (pa_cons (pe_ix (show IxR _ (rIxL K) from ix_list) (pv 1) pe_int (fun _ _ => rfl)) pa_nil)))) (pss_cons (ps_set (i := 9) sc_l_held.nd rfl (Or.inl rfl) pe_str) (pss_cons (ps_set (i := 10) sc_l_held.nd rfl (Or.inl rfl) (pe_or (pe_cmpR op_eq (pv 7) pe_str (nomark _)) (pe_one (pe_cmpR op_gt (pe_op op_mod (pe_op op_fdiv (pv 4) pe_int) pe_int) pe_int (nomark _))))) (pss_cons (ps_if (PW.pt (pw_and (pt_cmpR op_ne (pv 7) pe_str (nomark _)) (pw_and (pt_cmpR op_eq (pe_op op_mod (pv 5) pe_int) pe_int (nomark _)) (pw_and1 (pt_cmpR op_gt (pe_callB (show CallR _ _ (rLenS K) from call_len_seq) (by rfl) T.len_ (by decide +kernel) (pa_cons (pv 6) pa_nil)) pe_int (nomark _)))))) (pss_cons (ps_set (i := 11) sc_l_held.nd rfl (Or.inl rfl) (pe_ix (show IxR _ (rIxL K) from ix_list) (pv 6) (pe_op op_mod (pe_op op_fdiv (pv 5) pe_int) (pe_callB (show CallR _ _ (rLenS K) from call_len_seq) (by rfl) T.len_ (by decide +kernel) (pa_cons (pv 6) pa_nil))) (fun _ _ => rfl))) (pss_cons (ps_set (i := 9) sc_l_held.nd rfl (Or.inl rfl) (pe_ix (show IxR _ (rIxT K) from ix_tup) (pv 11) pe_int (fun _ _ => rfl))) (pss_cons (ps_set (i := 8) sc_l_held.nd rfl (Or.inl rfl) (pe_ix (show IxR _ (rIxT K) from ix_tup) (pv 11) pe_int (fun _ _ => rfl))) (pss_cons (ps_set (i := 10) sc_l_held.nd rfl (Or.inl rfl) (pe_and (pv 10) (pe_one (pe_ix (show IxR _ (rIxT K) from ix_tup) (pv 11) pe_int (fun _ _ => rfl))))) (pss_one (ps_if (pt_cmpR op_eq (pe_ix (show IxR _ (rIxT K) from ix_tup) (pv 11) pe_int (fun _ _ => rfl)) pe_str (nomark _)) (pss_one (ps_set (i := 7) sc_l_held.nd rfl (Or.inl rfl) pe_str)) pss_nil)))))) pss_nil) (pss_cons (ps_set (i := 12) sc_l_held.nd rfl (Or.inl rfl) (pe_own h_l_word (hr.mono (by decide)) (by rfl) (pa_cons (pv 4) (pa_cons (pv 5) (pa_cons (pe_callB (show CallR _ _ (rLenS K) from call_len_seq) (by rfl) T.len_ (by decide +kernel) (pa_cons (pv 2) pa_nil)) (pa_cons (pv 1) pa_nil)))))) (pss_one (ps_set (i := 2) sc_l_held.nd rfl (Or.inl rfl) (pe_op op_catA (pv 2) (pe_tup (pa_cons (pe_tup (pa_cons (pv 12) (pa_cons (pv 7) (pa_cons (pv 8) (pa_cons (pv 9) (pa_cons (pv 10) pa_nil)))))) pa_nil))))))))))))))))) (pss_one (ps_ret (pv 2)))))), ?_⟩
    show (_ : L2.TS) _ [_, _, _, _, _, _, _, _, _, _, _, _, _, _] _
    refine q_asgL (xs := (drawM ns).vs) (el_call (sp := spDraw K) (vs := [.ref a]) ?_ (fun H1 e Q q E => ⟨a, ns, rfl, ex_l e hS, fun p H2 hp e2 h2 => q p H2 hp e2 h2⟩)) (fun pd H1 hpd e1 h1 => ?_)
    · walk_at "ev"
    show (_ : L2.TS) _ [_, _, _, _, _, _, _, _, _, _, _, _, _, _] _
    have okd := drawM_ok ns
    generalize drawM ns = d at *
    refine q_asgU (xs := []) ?_ (fun pt H2 hpt e2 h2 => ?_)
    · walk_at "ev"
    show (_ : L2.TS) _ [_, _, _, _, _, _, _, _, _, _, _, _, _, _] _
    have hD2 : SqL K H2 pd d.vs := ex_l e2 (sq_of h1)
    have e02 : Ex H H2 := e1.trans e2
    have hn10 : 0 ≤ cellM ns 0 % 10 ∧ cellM ns 0 % 10 < 10 := by omega
    refine q_forR1 (n := cellM ns 0 % 10) ?_ ⟨by omega, by omega⟩ (fun i σ' H' => Ex H2 H' ∧ ∃ v es x3 x4 x5 x6 x7 x8 x9 x10 x11 x12, AHeld es v H' ∧ es.length = i ∧ (∀ e ∈ es, EntS e) ∧ σ' = [some (.ref a), some (.ref pd), some v, x3, x4, x5, x6, x7, x8, x9, x10, x11, x12, none]) ?_ ?_ ?_
    · have hS2 := ex_l e02 hS
      clear e02
      walk_at "ev"
    · intro H3 e3
      exact ⟨e3, .ref pt, [], none, none, none, none, none, none, none, none, none, none, ⟨pt, [], rfl, e3 _ _ h2, .nil⟩, rfl, all_nil, rfl⟩
    · rintro i σ' H' hi ⟨eH, v, es, x3, x4, x5, x6, x7, x8, x9, x10, x11, x12, hHeld, hlen', hES, rfl⟩
      have hS' : SqL K H' a (ns.map V.int) := ex_l (e02.trans eH) hS
      obtain ⟨pv, hv, rfl, hpv, hEv⟩ := id hHeld
      have hHeldT : SqT K H' pv hv := st_of hpv
      have hlv := hEv.len
      have hi10 : i < 10 := by omega
      refine' q_asg (v := .int (cellM ns (3 + 2 * (i : Int)))) ?_ (fun H3 e3 => ?_)
      · walk_at "ev"
      show (_ : L2.TS) _ [_, _, _, _, _, _, _, _, _, _, _, _, _, _] _
      refine' q_asg (v := .int (cellM ns (4 + 2 * (i : Int)))) ?_ (fun H4 e4 => ?_)
      · walk_at "ev"
      show (_ : L2.TS) _ [_, _, _, _, _, _, _, _, _, _, _, _, _, _] _
      generalize cellM ns (3 + 2 * (i : Int)) = cell at *
      generalize cellM ns (4 + 2 * (i : Int)) = oth at *
      refine q_asgPL (epl_filterT (fun e => !decide (e.k = ("pick" : Str))) (ev_var rfl) (ex_t (by walk_at "ex") hHeldT) (Ents.up (by walk_at "ex") hEv) (by omega) (fun x => rfl) (fun x e H9 _ hx => ?_) (fun x => rfl)) (fun ph us H5 hph e5 h5 hU => ?_)
      · rw [← dec_str]
        exact et_test (ev_ne (ev_e1 rfl hx) ev_c rfl)
      show (_ : L2.TS) _ [_, _, _, _, _, _, _, _, _, _, _, _, _, _] _
      have hHl : SqL K H5 ph us := sq_of h5
      have hUS : ∀ e ∈ es.filter (fun e => !decide (e.k = ("pick" : Str))), EntS e := fun e he => hES e (List.mem_filter.mp he).1
      refine' q_asg (v := .str (kind5 cell)) ?_ (fun H6 e6 => ?_)
      · walk_at "ev"
        exact at_kind5
      show (_ : L2.TS) _ [_, _, _, _, _, _, _, _, _, _, _, _, _, _] _
      have hk0 := kind5_s cell
      generalize kind5 cell = k0 at *
      refine q_ifAsg (i := 7) (v := .str (if us.length = 6 then "pick" else k0)) (b := decide (V.int (us.length : Int) = V.int 6)) ?_ (fun hb => ?_) (fun hb => ?_) (fun H7 e7 => ?_)
      · walk_at "ev"
      · have hb := V.int.inj (of_decide_eq_true hb)
        rw [if_pos (by omega)]
        walk_at "ev"
      · have hb : ¬ us.length = 6 := fun z => of_decide_eq_false hb (by rw [z]; rfl)
        rw [if_neg hb]
        rfl
      show (_ : L2.TS) _ [_, _, _, _, _, _, _, _, _, _, _, _, _, _] _
      have hk1 : KindS (if us.length = 6 then "pick" else k0) := by
        split
        · exact .inr (.inr rfl)
        · exact hk0
      generalize (if us.length = 6 then ("pick" : Str) else k0) = k1 at *
      refine q_ifAsg (i := 7) (v := .str (if (hv.length : Int) - us.length = 3 ∧ k1 = "pick" then "write" else k1)) (b := decide (V.int ((hv.length : Int) - us.length) = V.int 3) && decide (V.str k1 = V.str "pick")) ?_ (fun hb => ?_) (fun hb => ?_) (fun H8 e8 => ?_)
      · refine et_and (et_test (ev_eq (ev_I0 (ev_lenT (ev_var rfl) (ex_t (by walk_at "ex") hHeldT)) (ev_len (ev_var rfl) (ex_l (by walk_at "ex") hHl))) ev_c rfl)) (fun _ => ?_)
        walk_at "ev"
      · simp only [Bool.and_eq_true, decide_eq_true_eq, V.int.injEq, V.str.injEq] at hb
        rw [if_pos hb]
        walk_at "ev"
      · simp only [Bool.and_eq_false_iff, decide_eq_false_iff_not, V.int.injEq, V.str.injEq] at hb
        rw [if_neg (fun z => hb.elim (fun y => y z.1) (fun y => y z.2))]
        rfl
      show (_ : L2.TS) _ [_, _, _, _, _, _, _, _, _, _, _, _, _, _] _
      have hk2 : KindS (if (hv.length : Int) - us.length = 3 ∧ k1 = "pick" then "write" else k1) := by
        split
        · exact .inr (.inl rfl)
        · exact hk1
      generalize (if (hv.length : Int) - us.length = 3 ∧ k1 = "pick" then ("write" : Str) else k1) = k2 at *
      refine' q_asg (v := .int (thingM (oth / 2) d.base)) ?_ (fun H9 e9 => ?_)
      · walk_at "ev"
      show (_ : L2.TS) _ [_, _, _, _, _, _, _, _, _, _, _, _, _, _] _
      refine' q_asg ev_c (fun Ha ea => ?_)
      show (_ : L2.TS) _ [_, _, _, _, _, _, _, _, _, _, _, _, _, _] _
      refine' q_asg (v := .bl (decide (V.str k2 = V.str "pick") || decide (0 < cell / 5 % 3))) (ev_orV (ev_eq (ev_var rfl) ev_c rfl) (fun _ => ?_)) (fun Hb eb => ?_)
      · walk_at "ev"
      show (_ : L2.TS) _ [_, _, _, _, _, _, _, _, _, _, _, _, _, _] _
      generalize (decide (V.str k2 = V.str "pick") || decide (0 < cell / 5 % 3)) = o1 at *
      generalize thingM (oth / 2) d.base = t1 at *
      refine' q_when (b := !decide (V.str k2 = V.str "pick") && (decide (V.int (oth % 2) = V.int 1) && decide ((0 : Int) < us.length))) ?_ (fun hb Hc ec => ?_) (fun hb Hc ec => ?_)
      · refine et_and (et_test (ev_ne (ev_var rfl) ev_c rfl)) (fun _ => ?_)
        walk_at "ev"
      · simp only [Bool.and_eq_true, decide_eq_true_eq] at hb
        have hpos : (0 : Int) < us.length := hb.2.2
        obtain ⟨x, e, hx, he, hX⟩ := ents_at hU (i := oth / 2 % (us.length : Int)) (Int.emod_nonneg _ (by omega)) (Int.emod_lt_of_pos _ hpos)
        have heS := hUS e he
        refine q_asg (v := x) ?_ (fun Hd ed => ?_)
        · walk_at "ev"
        show (_ : L2.TS) _ [_, _, _, _, _, _, _, _, _, _, _, _, _, _] _
        have hXd : IsEnt Hd x e := hX.up (by walk_at "ex")
        refine q_asg (v := .str e.w) (ev_e0 rfl hXd) (fun He ee => ?_)
        show (_ : L2.TS) _ [_, _, _, _, _, _, _, _, _, _, _, _, _, _] _
        refine q_asg (v := .int e.t) (ev_e2 rfl (hXd.up ee)) (fun Hf ef => ?_)
        show (_ : L2.TS) _ [_, _, _, _, _, _, _, _, _, _, _, _, _, _] _
        refine q_asg (v := .bl (o1 && e.o)) (ev_andV (ev_var rfl) (fun _ => ev_e4 rfl ((hXd.up ee).up ef))) (fun Hg eg => ?_)
        show (_ : L2.TS) _ [_, _, _, _, _, _, _, _, _, _, _, _, _, _] _
        refine s_if (b := decide (V.str e.k = V.str "read")) (et_test (ev_eq (ev_e1 rfl (((hXd.up ee).up ef).up eg)) ev_c rfl)) (fun _ Hh eh => ?_) (fun _ Hh eh => ?_)
        · refine s_asg ev_c (fun Hi ei => ?_)
          dsimp only
          show (_ : L2.TS) _ [_, _, _, _, _, _, _, _, _, _, _, _, _, _] _
          refine' q_asg (v := .str (wordM cell oth (i : Int) d)) ?_ (fun Hx ex => ?_)
          · rw [← hlen', ← hlv]
            refine ev_word ?_ (ex_l (by walk_at "ex") hD2) okd (by omega) (by omega)
            refine ea_cons (ev_var rfl) (ea_cons (ev_var rfl) (ea_cons (ev_lenT (ev_var rfl) (ex_t (by walk_at "ex") hHeldT)) (ea_cons (ev_var rfl) ea_nil)))
          show (_ : L2.TS) _ [_, _, _, _, _, _, _, _, _, _, _, _, _, _] _
          refine s_asgP (ep_catT (es := es) (fs := [⟨wordM cell oth (i : Int) d, "read", e.t, e.w, (o1 && e.o)⟩]) (ep_heldvar rfl (AHeld.up (by walk_at "ex") hHeld)) (ep_one (ep_ent5 (ea_cons (ev_var rfl) (ea_cons (ev_var rfl) (ea_cons (ev_var rfl) (ea_cons (ev_var rfl) (ea_cons (ev_var rfl) ea_nil))))))) (by show es.length + 1 ≤ 100000; omega)) (fun vn Hy ey hvn => ?_)
          refine ⟨by walk_at "ex", vn, es ++ [⟨wordM cell oth (i : Int) d, "read", e.t, e.w, (o1 && e.o)⟩], _, _, _, _, _, _, _, _, _, _, hvn, by rw [List.length_append, hlen']; rfl, all_app hES (all_cons ⟨wordM_s okd (by omega) (by omega), (.inl rfl), (.inr heS.w)⟩ all_nil), rfl⟩
        · unfold tNext
          dsimp only
          show (_ : L2.TS) _ [_, _, _, _, _, _, _, _, _, _, _, _, _, _] _
          refine' q_asg (v := .str (wordM cell oth (i : Int) d)) ?_ (fun Hx ex => ?_)
          · rw [← hlen', ← hlv]
            refine ev_word ?_ (ex_l (by walk_at "ex") hD2) okd (by omega) (by omega)
            refine ea_cons (ev_var rfl) (ea_cons (ev_var rfl) (ea_cons (ev_lenT (ev_var rfl) (ex_t (by walk_at "ex") hHeldT)) (ea_cons (ev_var rfl) ea_nil)))
          show (_ : L2.TS) _ [_, _, _, _, _, _, _, _, _, _, _, _, _, _] _
          refine s_asgP (ep_catT (es := es) (fs := [⟨wordM cell oth (i : Int) d, k2, e.t, e.w, (o1 && e.o)⟩]) (ep_heldvar rfl (AHeld.up (by walk_at "ex") hHeld)) (ep_one (ep_ent5 (ea_cons (ev_var rfl) (ea_cons (ev_var rfl) (ea_cons (ev_var rfl) (ea_cons (ev_var rfl) (ea_cons (ev_var rfl) ea_nil))))))) (by show es.length + 1 ≤ 100000; omega)) (fun vn Hy ey hvn => ?_)
          refine ⟨by walk_at "ex", vn, es ++ [⟨wordM cell oth (i : Int) d, k2, e.t, e.w, (o1 && e.o)⟩], _, _, _, _, _, _, _, _, _, _, hvn, by rw [List.length_append, hlen']; rfl, all_app hES (all_cons ⟨wordM_s okd (by omega) (by omega), hk2, (.inr heS.w)⟩ all_nil), rfl⟩
      · skip
        show (_ : L2.TS) _ [_, _, _, _, _, _, _, _, _, _, _, _, _, _] _
        refine' q_asg (v := .str (wordM cell oth (i : Int) d)) ?_ (fun Hx ex => ?_)
        · rw [← hlen', ← hlv]
          refine ev_word ?_ (ex_l (by walk_at "ex") hD2) okd (by omega) (by omega)
          refine ea_cons (ev_var rfl) (ea_cons (ev_var rfl) (ea_cons (ev_lenT (ev_var rfl) (ex_t (by walk_at "ex") hHeldT)) (ea_cons (ev_var rfl) ea_nil)))
        show (_ : L2.TS) _ [_, _, _, _, _, _, _, _, _, _, _, _, _, _] _
        refine s_asgP (ep_catT (es := es) (fs := [⟨wordM cell oth (i : Int) d, k2, t1, "", o1⟩]) (ep_heldvar rfl (AHeld.up (by walk_at "ex") hHeld)) (ep_one (ep_ent5 (ea_cons (ev_var rfl) (ea_cons (ev_var rfl) (ea_cons (ev_var rfl) (ea_cons (ev_var rfl) (ea_cons (ev_var rfl) ea_nil))))))) (by show es.length + 1 ≤ 100000; omega)) (fun vn Hy ey hvn => ?_)
        refine ⟨by walk_at "ex", vn, es ++ [⟨wordM cell oth (i : Int) d, k2, t1, "", o1⟩], _, _, _, _, _, _, _, _, _, _, hvn, by rw [List.length_append, hlen']; rfl, all_app hES (all_cons ⟨wordM_s okd (by omega) (by omega), hk2, (.inl rfl)⟩ all_nil), rfl⟩
    · rintro σ' H' ⟨eH, v, es, x3, x4, x5, x6, x7, x8, x9, x10, x11, x12, hHeld, hlen', hES, rfl⟩
      exact s_ret (v := v) (ev_var rfl) (fun H4 e4 => q v H4 (e02.trans (eH.trans e4)) ⟨es, hHeld.up e4, by omega, hES⟩)
end
end BD
namespace BD
open PySem PySem.Spec PyProof.Rows L2 Evl
local macro_rules | `(tactic| walk_at "ev") => `(tactic| first
  | ((with_reducible apply ev_var) ; rfl)
  | with_reducible exact ev_c
  | ((with_reducible apply ev_I0) <;> walk_at "ev")
  | ((with_reducible apply ev_e9) <;> walk_at "ev")
  | ((with_reducible apply ev_I) <;> walk_at "ev")
  | ((with_reducible apply ev_eq) <;> walk_at "ev")
  | ((with_reducible apply ev_ne) <;> walk_at "ev")
  | ((with_reducible apply ev_neg) <;> walk_at "ev")
  | ((with_reducible apply ev_ixN) <;> walk_at "ev")
  | ((with_reducible apply ev_ixL) <;> walk_at "ev")
  | ((with_reducible apply ev_inN) <;> walk_at "ev")
  | ((with_reducible apply ev_inT) <;> walk_at "ev")
  | ((with_reducible apply ev_ixT) <;> walk_at "ev")
  | ((with_reducible apply ev_ixS) <;> walk_at "ev")
  | ((with_reducible apply ev_len') <;> walk_at "ev")
  | ((with_reducible apply et_test) <;> walk_at "ev")
  | ((with_reducible apply et_and) <;> walk_at "ev")
  | ((with_reducible apply et_or) <;> walk_at "ev")
  | ((with_reducible apply et_not) <;> walk_at "ev")
  | ((with_reducible apply et_B) <;> walk_at "ev")
  | ((with_reducible apply el_lst) <;> walk_at "ev")
  | ((with_reducible apply eu_tup) <;> walk_at "ev")
  | ((with_reducible apply ea_cons) <;> walk_at "ev")
  | with_reducible exact ea_nil
  | with_reducible assumption
  | ((with_reducible apply ex_l' ; assumption) ; walk_at "ex")
  | ((with_reducible apply ex_t' ; assumption) ; walk_at "ex")
  | (intro _ ; walk_at "ev")
  | (with_reducible first | exact atI_hd | exact at_kind | exact at2s | exact at3s | exact at3i)
  | (first | exact rfl | exact Nat.le_of_ble_eq_true rfl | exact ⟨by decide, by decide⟩ | decide | exact Or.inl ⟨by omega, by omega⟩ | exact Or.inr ⟨by omega, by omega⟩ | omega)
  | skip)
local macro_rules | `(tactic| walk_at "ex") => `(tactic| first
  | assumption
  | exact Ex.refl _
  | (refine' Ex.trans ?_ (by assumption) ; walk_at "ex"))
local macro_rules | `(tactic| walk_at "row") => `(tactic| first
  | (with_reducible exact er_nil)
  | ((with_reducible apply er_cons) <;> walk_at "row")
  | (((with_reducible apply er_var) ; rfl) ; walk_at "isrow")
  | (((with_reducible apply elr_var) ; rfl) ; walk_at "isrow")
  | ((with_reducible apply elr_cat) <;> walk_at "row")
  | ((with_reducible apply elr_lst) <;> walk_at "row")
  | ((with_reducible apply er_fin) <;> walk_at "ev")
  | ((with_reducible apply er_lendT) <;> walk_at "ev")
  | ((with_reducible apply er_lendW) <;> walk_at "ev")
  | ((with_reducible apply er_pick) <;> walk_at "ev")
  | ((with_reducible apply er_either) <;> walk_at "ev")
  | ((with_reducible apply er_or) <;> walk_at "ev")
  | ((with_reducible apply er_again) <;> walk_at "ev")
  | ((with_reducible apply er_back) <;> walk_at "ev")
  | ((with_reducible apply er_look) <;> walk_at "ev")
  | ((with_reducible apply er_change) <;> walk_at "ev")
  | exact Nat.le_of_ble_eq_true rfl
  | skip)
local macro_rules | `(tactic| walk_at "isrow") => `(tactic| first
  | assumption
  | (refine IsRow.up ?_ (by assumption) ; walk_at "ex")
  | (refine LRows.up ?_ (by assumption) ; walk_at "ex"))

abbrev s_law : Stmt := topS 11
theorem sc_law : FnScope ["_law_script", "_law_held_here", "_law_found", "_law_one"] ["_law_script"] (defScope s_law) := ⟨rfl, rfl, rfl, by decide +kernel, rfl, by decide +kernel, by decide +kernel⟩
def entD (e : Ent) : PyData := .tuple [.str e.w, .str e.k, .int e.t, .str e.s, .bool e.o]
theorem dp_ents {K : PySem.W.Frag} {H : Hp} : ∀ {us : List V} {ls : List Ent}, Ents H us ls → DpAll K H us (ls.map entD)
  | _, _, .nil => .nil
  | _, _, .cons r t => by
    obtain ⟨p, rfl, hp⟩ := r
    exact .cons (.tup (st_of hp) (.cons (.str _) (.cons (.str _) (.cons (.int _) (.cons (.str _) (.cons (.bl _) .nil)))))) (dp_ents t)
theorem kindS_ok {k : Str} (h : KindS k) : PyData.strOk k = true := by
  rcases h with h | h | h <;> subst h <;> decide +kernel
theorem ents_lay : ∀ {ls : List Ent}, (∀ e ∈ ls, EntS e) → PyData.canLayAll0 (ls.map entD) = true ∧ PyData.depthAll (ls.map entD) ≤ 1
  | [], _ => ⟨rfl, Nat.zero_le _⟩
  | e :: ls, h => by
    have he := h e List.mem_cons_self
    have ih := ents_lay (ls := ls) fun x hx => h x (List.mem_cons_of_mem _ hx)
    have h1 := word_ok he.w
    have h2 := kindS_ok he.k
    have h3 : PyData.strOk e.s = true := by
      rcases he.s with z | z
      · rw [z]; decide +kernel
      · exact word_ok z
    constructor
    · rw [List.map_cons]
      simp [entD, PyData.canLayAll0, PyData.canLay0, h1, h2, h3, ih.1]
    · rw [List.map_cons]
      have := ih.2
      simp [entD, PyData.depthAll, PyData.depth]
      omega
theorem ents_shaped {ls : List Ent} (h : ∀ e ∈ ls, EntS e) : SeqAt.shaped (.list (ls.map entD)) = true := by
  have := ents_lay h
  unfold SeqAt.shaped
  have e : (PyData.list (ls.map entD)).canLay0 = true := by simp [PyData.canLay0, this.1]
  have e2 : (PyData.list (ls.map entD)).depth ≤ 64 := by simp [PyData.depth]; omega
  rw [e, decide_eq_true e2]
  rfl
section
variable {K : PySem.W.Frag} {σ : L2.St} {H H' : Hp} {ta tb te : TE} {ls es : List Ent}
theorem ents_eqv (hs : ∀ e ∈ ls, EntS e) : PyData.eqv (.list (ls.map entD)) (.list (ls.map entD)) = true := SeqAt.eqv_refl _ (SeqAt.canLay_of_shaped (ents_shaped hs))
theorem ev_neVP {p : Addr} {us : List V} (hs : ∀ e ∈ ls, EntS e) (ha : Ev ta σ H (.ref p)) (hp : SqL K H p us) (hU : Ents H us ls) (hb : EvPL tb σ H fun vs H2 => Ents H2 vs ls) : Ev (tOp (rNeD K) ta tb) σ H (.bl false) := fun H1 e Q k =>
  ha H1 e _ fun H2 e2 => hb H2 (e.trans e2) _ fun q vs H3 _ e3 h3 hV => ⟨_, _, .lst (ex_l (e.trans (e2.trans e3)) hp) (dp_ents (hU.up (e.trans (e2.trans e3)))), .lst (sq_of h3) (dp_ents hV), ents_shaped hs, ents_shaped hs, by
    rw [ents_eqv hs]
    exact k H3 (e2.trans e3)⟩
theorem ev_nePP (hs : ∀ e ∈ ls, EntS e) (ha : EvPL ta σ H fun vs H2 => Ents H2 vs ls) (hb : EvPL tb σ H fun vs H2 => Ents H2 vs ls) : Ev (tOp (rNeD K) ta tb) σ H (.bl false) := fun H1 e Q k =>
  ha H1 e _ fun p us H2 _ e2 h2 hU => hb H2 (e.trans e2) _ fun q vs H3 _ e3 h3 hV => ⟨_, _, .lst (sq_of (e3 _ _ h2)) (dp_ents (hU.up e3)), .lst (sq_of h3) (dp_ents hV), ents_shaped hs, ents_shaped hs, by
    rw [ents_eqv hs]
    exact k H3 (e2.trans e3)⟩
theorem ev_eqPP (hs : ∀ e ∈ ls, EntS e) (ha : EvPL ta σ H fun vs H2 => Ents H2 vs ls) (hb : EvPL tb σ H fun vs H2 => Ents H2 vs ls) : Ev (tOp (rEqD K) ta tb) σ H (.bl true) := fun H1 e Q k =>
  ha H1 e _ fun p us H2 _ e2 h2 hU => hb H2 (e.trans e2) _ fun q vs H3 _ e3 h3 hV => ⟨_, _, .lst (sq_of (e3 _ _ h2)) (dp_ents (hU.up e3)), .lst (sq_of h3) (dp_ents hV), ents_shaped hs, ents_shaped hs, by
    rw [ents_eqv hs]
    exact k H3 (e2.trans e3)⟩
theorem epl_awakeX {E : XK} (h : EvP te σ H (AHeld es)) (hl : es.length ≤ 1000) : EvPL (tCall (spAwake K) [] E (tCons te tNil)) σ H (fun us H2 => Ents H2 us (awakeM es)) := fun H1 e Q q =>
  h H1 e _ fun v H2 e2 hv => ⟨v, es, rfl, hv, hl, fun p us H3 hp e3 h3 hs => q p us H3 (fresh_back e2 hp) (e2.trans e3) h3 hs⟩
end
theorem awake_sub (es : List Ent) : ∀ e ∈ awakeM es, e ∈ es := fun e he => by
  unfold awakeM at he
  exact (List.mem_filter.mp (List.mem_filter.mp he).1).1
theorem awake_len (es : List Ent) : (awakeM es).length ≤ es.length := by
  have h1 := List.length_filter_le (fun e : Ent => !decide (e.w ∈ (es.filter fun e : Ent => e.o).map fun e : Ent => e.s)) (es.filter fun e => !decide (e.k = ("pick" : Str)) && e.o)
  have h2 := List.length_filter_le (fun e : Ent => !decide (e.k = ("pick" : Str)) && e.o) es
  unfold awakeM
  omega
section
variable {P : Program} {w : World} {K : PySem.W.Frag} {mg : Str → Option Value} {base : Heap}
def spWhole : Sp := fun vs H Q _ => ∃ (i : Int), vs = [.int i] ∧ RetV (.bl true) H Q
theorem ok_whole (D : Dn K mg "_law_whole" s_l_whole ["_law_found"]) (T : Blt mg) : Has P w K mg base "_law_whole" 1 ["_law_found"] spWhole := by
  refine D.ok sc_l_whole (fun vs H Q E h => ?_) (fun f cdv A outer s H vs Q E hr h => ?_)
  · obtain ⟨i, rfl, _⟩ := h
    rfl
  · obtain ⟨i, rfl, q⟩ := h
    refine ⟨_, (pss_one (ps_ret (pe_and (pe_callB (show CallR _ _ (rIsi K) from call_isi) (by rfl) T.isinstance_ (by decide +kernel) (pa_cons (pv 0) (pa_cons (pe_bltn (v := .ty "int") (by rfl) T.int_ (by decide +kernel) rfl) pa_nil))) (pe_one (pe_not (pe_callB (show CallR _ _ (rIsi K) from call_isi) (by rfl) T.isinstance_ (by decide +kernel) (pa_cons (pv 0) (pa_cons (pe_bltn (v := .ty "bool") (by rfl) T.bool_ (by decide +kernel) rfl) pa_nil)))))))), ?_⟩
    refine s_ret (v := .bl (true && !false)) (ev_andV (ev_isiI (i := i) ?_ (show kitB "int" "int" = some true by decide +kernel)) (fun _ => ev_notV (ev_isiI (i := i) ?_ (show kitB "int" "bool" = some false by decide +kernel)))) (fun H1 e1 => q H1 e1)
    · walk_at "ev"
    · walk_at "ev"
theorem ev_whole {i : Int} {ta : TA} {σ : L2.St} {H : Hp} {E : XK} (h : EvA ta σ H [.int i]) : Ev (tCall spWhole [] E ta) σ H (.bl true) := ev_call h fun H1 e Q q E => ⟨i, rfl, q⟩
def spEntry : Sp := fun vs H Q _ => ∃ (x : V) (e : Ent), vs = [x] ∧ IsEnt H x e ∧ RetV (.bl true) H Q
theorem ok_entry (D : Dn K mg "_law_entry" s_l_entry ["_law_found"]) (T : Blt mg) (h_l_whole : Has P w K mg base "_law_whole" 1 ["_law_found"] spWhole) : Has P w K mg base "_law_entry" 2 ["_law_found"] spEntry := by
  refine D.ok sc_l_entry (fun vs H Q E h => ?_) (fun f cdv A outer s H vs Q E hr h => ?_)
  · obtain ⟨x, e, rfl, _⟩ := h
    rfl
  · obtain ⟨x, e, rfl, hX, q⟩ := h
    obtain ⟨px, rfl, hpx⟩ := id hX
    refine ⟨_, (pss_cons (ps_if (PW.pt (pw_or (pt_not (pt_val (pe_callB (show CallR _ _ (rIsi K) from call_isi) (by rfl) T.isinstance_ (by decide +kernel) (pa_cons (pv 0) (pa_cons (pe_bltn (v := .ty "tuple") (by rfl) T.tuple_ (by decide +kernel) rfl) pa_nil))))) (pw_or (pt_cmpR op_ne (pe_callB (show CallR _ _ (rLenS K) from call_len_seq) (by rfl) T.len_ (by decide +kernel) (pa_cons (pv 0) pa_nil)) pe_int (nomark _)) (pw_or1 (pt_not (pt_val (pe_callB (show CallR _ _ (rIsi K) from call_isi) (by rfl) T.isinstance_ (by decide +kernel) (pa_cons (pe_ix (show IxR _ (rIxT K) from ix_tup) (pv 0) pe_int (fun _ _ => rfl)) (pa_cons (pe_bltn (v := .ty "bool") (by rfl) T.bool_ (by decide +kernel) rfl) pa_nil))))))))) (pss_one (ps_ret pe_bl)) pss_nil) (pss_cons (ps_if (PW.pt (pw_or (pt_not (pt_val (pe_callB (show CallR _ _ (rIsi K) from call_isi) (by rfl) T.isinstance_ (by decide +kernel) (pa_cons (pe_ix (show IxR _ (rIxT K) from ix_tup) (pv 0) pe_int (fun _ _ => rfl)) (pa_cons (pe_bltn (v := .ty "str") (by rfl) T.str_ (by decide +kernel) rfl) pa_nil))))) (pw_or (pt_not (pt_val (pe_callB (show CallR _ _ (rIsi K) from call_isi) (by rfl) T.isinstance_ (by decide +kernel) (pa_cons (pe_ix (show IxR _ (rIxT K) from ix_tup) (pv 0) pe_int (fun _ _ => rfl)) (pa_cons (pe_bltn (v := .ty "str") (by rfl) T.str_ (by decide +kernel) rfl) pa_nil))))) (pw_or1 (pt_not (pt_val (pe_callB (show CallR _ _ (rIsi K) from call_isi) (by rfl) T.isinstance_ (by decide +kernel) (pa_cons (pe_ix (show IxR _ (rIxT K) from ix_tup) (pv 0) pe_int (fun _ _ => rfl)) (pa_cons (pe_bltn (v := .ty "str") (by rfl) T.str_ (by decide +kernel) rfl) pa_nil))))))))) (pss_one (ps_ret pe_bl)) pss_nil) (pss_one (ps_ret (pe_own h_l_whole (hr.mono (by decide)) (by rfl) (pa_cons (pe_ix (show IxR _ (rIxT K) from ix_tup) (pv 0) pe_int (fun _ _ => rfl)) pa_nil)))))), ?_⟩
    show (_ : L2.TS) _ [_] _
    refine q_when (b := false) (et_is (et_or (et_not (et_B (ev_isiT (ea_cons (ev_var rfl) (ea_cons ev_c ea_nil)) hpx (show kitB "tuple" "tuple" = some true by decide +kernel)))) (fun _ => et_or (et_test (ev_ne (ev_lenT (ev_var rfl) (st_of hpx)) ev_c rfl)) (fun _ => et_not (et_B (ev_isiB (ea_cons (ev_e4 rfl hX) (ea_cons ev_c ea_nil)) (show kitB "bool" "bool" = some true by decide +kernel)))))) rfl) (fun hb _ _ => by cases hb) (fun _ H1 e1 => ?_)
    have hX1 := hX.up e1
    refine q_when (b := false) (et_is (et_or (et_not (et_B (ev_isiS (ea_cons (ev_e0 rfl hX1) (ea_cons ev_c ea_nil)) (show kitB "str" "str" = some true by decide +kernel)))) (fun _ => et_or (et_not (et_B (ev_isiS (ea_cons (ev_e1 rfl hX1) (ea_cons ev_c ea_nil)) (show kitB "str" "str" = some true by decide +kernel)))) (fun _ => et_not (et_B (ev_isiS (ea_cons (ev_e3 rfl hX1) (ea_cons ev_c ea_nil)) (show kitB "str" "str" = some true by decide +kernel)))))) rfl) (fun hb _ _ => by cases hb) (fun _ H2 e2 => ?_)
    exact s_ret (v := .bl true) (ev_whole (ea_cons (ev_e2 rfl (hX1.up e2)) ea_nil)) (fun H3 e3 => q H3 (e1.trans (e2.trans e3)))
theorem ev_entry {x : V} {e : Ent} {ta : TA} {σ : L2.St} {H : Hp} {E : XK} (h : EvA ta σ H [x]) (hX : IsEnt H x e) : Ev (tCall spEntry [] E ta) σ H (.bl true) := ev_call h fun H1 e1 Q q E => ⟨x, e, rfl, hX.up e1, q⟩
/-- all([entry(one) for one in found]) -/
theorem ev_allEnt {E : XK} {tl : TE} {σ : L2.St} {H : Hp} {p : Addr} {us : List V} {ls : List Ent} {j : Nat} {ws : List Nat} (hl : Ev tl σ H (.ref p)) (hp : SqL K H p us) (hU : Ents H us ls) (hz : us.length ≤ 40000) (hw : ∀ x, wipe ((wipe σ ws).set j (some x)) ws = wipe σ ws)
    (hj : ∀ x, ((wipe σ ws).set j (some x))[j]? = some (some x)) : Ev (tCB (rAll K) (tCons (tLc (iList K tl) (gName j) tYes (tCall spEntry [] E (tCons (tVar j) tNil)) ws) tNil)) σ H (.bl true) := by
  refine ev_is (ev_all (bs := List.replicate us.length true) ?_) (by rw [rep_all])
  rw [List.map_replicate, ← given_rep]
  refine el_lcL _ _ hl hp hz hw (fun i x H2 e2 hi => et_yes) (fun i x H2 e2 hi _ => ?_)
  obtain ⟨e, he, hX⟩ := hU.at hi
  exact ev_entry (e := e) (ea_cons (ev_var (hj x)) ea_nil) (hX.up e2)
def spLaw (K : PySem.W.Frag) : Sp := fun vs H Q _ => ∃ (a : Addr) (ns : List Int), vs = [.ref a] ∧ SqL K H a (ns.map V.int) ∧ ns.length ≤ 63 ∧ ∀ H', Q (.bl true) H'
theorem ok_law {f : Addr} {fd : FuncData} (F : Fun K "law" "law" s_law f fd) (T : Blt mg) (h_l_held : Has P w K mg base "_law_held" 3 ["_law_script"] (spHeld K)) (h_awake : Has P w K mg base "awake" 3 ["held"] (spAwake K)) (h_l_entry : Has P w K mg base "_law_entry" 2 ["_law_found"] spEntry) (h_l_awake : Has P w K mg base "_law_awake" 1 ["_law_held_here"] (spAwake K)) : FnOk P w K mg base CX0 4 f fd ["_law_script"] (spLaw K) := by
  refine F.ok sc_law (fun vs H Q E h => ?_) (fun cdv A outer s H vs Q E hr h => ?_)
  · obtain ⟨a, ns, rfl, _⟩ := h
    rfl
  · obtain ⟨a, ns, rfl, hS, hlen, q⟩ := h
    refine ⟨_, (pss_cons (ps_set (i := 1) sc_law.nd rfl (Or.inl rfl) (pe_own h_l_held (hr.mono (by decide)) (by rfl) (pa_cons (pv 0) pa_nil))) (pss_cons (ps_set (i := 2) sc_law.nd rfl (Or.inl rfl) (pe_own h_awake (hr.mono (by decide)) (by rfl) (pa_cons (pv 1) pa_nil))) (pss_cons (ps_if (PW.pt (pw_or (pt_not (pt_val (pe_callB (show CallR _ _ (rIsi K) from call_isi) (by rfl) T.isinstance_ (by decide +kernel) (pa_cons (pv 2) (pa_cons (pe_bltn (v := .ty "list") (by rfl) T.list_ (by decide +kernel) rfl) pa_nil))))) (pw_or1 (pt_not (pt_val (pe_callB (cr_all rfl) (by rfl) T.all_ (by decide +kernel) (pa_cons (pe_lc (own := [("_law_one", 3)]) (g := (gName 3)) (tt := tYes) rfl sc_law.nd (pi_list (pv 2)) (blkOk_by (own := [("_law_one", 3)]) (N := ["_law_script", "_law_held_here", "_law_found", "_law_one"]) (sc := defScope s_law) (by decide +kernel)) (fun _ _ _ _ _ => (pg_name (i := 3) sc_law.nd rfl (Or.inl rfl))) (fun _ _ _ _ _ => pts_nil) (fun _ _ _ _ _ => (pe_own h_l_entry (hr.mono (by decide)) (by rfl) (pa_cons (pv 3) pa_nil)))) pa_nil))))))) (pss_one (ps_ret pe_bl)) pss_nil) (pss_cons (ps_if (pt_cmpR (show OpR _ _ (rNeD K) from op_neD hr.units) (pv 2) (pe_own h_l_awake (hr.mono (by decide)) (by rfl) (pa_cons (pv 1) pa_nil)) (nomark _)) (pss_one (ps_ret pe_bl)) pss_nil) (pss_cons (ps_expr (pe_bm PySem.F.plainAttrs_list PySem.F.slot_list_append PySem.F.type_list_append mt_append (pv 2) (pa_cons (pv 1) pa_nil))) (pss_cons (ps_if (pt_cmpR (show OpR _ _ (rNeD K) from op_neD hr.units) (pe_own h_awake (hr.mono (by decide)) (by rfl) (pa_cons (pv 1) pa_nil)) (pe_own h_l_awake (hr.mono (by decide)) (by rfl) (pa_cons (pv 1) pa_nil)) (nomark _)) (pss_one (ps_ret pe_bl)) pss_nil) (pss_one (ps_ret (pe_cmpR (show OpR _ _ (rEqD K) from op_eqD hr.units) (pe_own h_awake (hr.mono (by decide)) (by rfl) (pa_cons (pe_slice sl_tupA (pv 1) po_none (po_some (pe_un un_neg pe_int))) pa_nil)) (pe_own h_l_awake (hr.mono (by decide)) (by rfl) (pa_cons (pe_slice sl_tupA (pv 1) po_none (po_some (pe_un un_neg pe_int))) pa_nil)) (nomark _)))))))))), ?_⟩
    show (_ : L2.TS) _ [_, _, _, _] _
    refine q_asgP (ep_call (sp := spHeld K) (vs := [.ref a]) (R := AEnts) (ea_cons (ev_var rfl) ea_nil) (fun H1 e Q q E => ⟨a, ns, rfl, ex_l e hS, q⟩)) (fun v H1 e1 hv => ?_)
    show (_ : L2.TS) _ [_, _, _, _] _
    obtain ⟨es, hHeld, hel, hES⟩ := hv
    have hAS : ∀ e ∈ awakeM es, EntS e := fun e he => hES e (awake_sub es e he)
    have hDS : ∀ e ∈ awakeM es.dropLast, EntS e := fun e he => hES e ((List.dropLast_sublist es).mem (awake_sub _ e he))
    have hal := awake_len es
    refine q_asgPL (epl_awakeX (es := es) (ep_heldvar rfl hHeld) (by omega)) (fun pf us H2 hpf e2 h2 hU => ?_)
    show (_ : L2.TS) _ [_, _, _, _] _
    have hul := hU.len
    have hF2 : SqL K H2 pf us := sq_of h2
    refine q_when (b := false) (et_is (et_or (et_not (et_B (ev_isiL (ea_cons (ev_var rfl) (ea_cons ev_c ea_nil)) h2 (show kitB "list" "list" = some true by decide +kernel)))) (fun _ => et_not (et_B (ev_allEnt (ev_var rfl) hF2 hU (by omega) (fun x => rfl) (fun x => rfl))))) rfl) (fun hb _ _ => by cases hb) (fun _ H3 e3 => ?_)
    refine q_when (b := false) (et_test (ev_neVP hAS (ev_var rfl) (ex_l e3 hF2) (hU.up e3) (epl_awakeX (es := es) (ep_heldvar rfl (hHeld.up (e2.trans e3))) (by omega)))) (fun hb _ _ => by cases hb) (fun _ H4 e4 => ?_)
    refine q_app (l := pf) (xs := us) (v := v) (e4 _ _ (e3 _ _ h2)) (ev_var rfl) (ev_var rfl) (by omega) (fun H5 e5 => ?_)
    have e6 : Ex H1 (upd H5 pf (.lst (us ++ [v]))) := Ex.mut (e2.trans (e3.trans (e4.trans e5))) hpf
    generalize upd H5 pf (.lst (us ++ [v])) = H6 at *
    have hH6 := hHeld.up e6
    clear e2 e3 e4 e5 h2 hF2 hU
    refine q_when (b := false) (et_test (ev_nePP hAS (epl_awakeX (es := es) (ep_heldvar rfl hH6) (by omega)) (epl_awakeX (es := es) (ep_heldvar rfl hH6) (by omega)))) (fun hb _ _ => by cases hb) (fun _ H7 e7 => ?_)
    have hH7 := hH6.up e7
    have hdl : es.dropLast.length ≤ 1000 := by rw [List.length_dropLast]; omega
    refine s_ret (v := .bl true) (ev_eqPP hDS (epl_awakeX (es := es.dropLast) (ep_dropT (ep_heldvar rfl hH7) (eo_some ?_)) hdl) (epl_awakeX (es := es.dropLast) (ep_dropT (ep_heldvar rfl hH7) (eo_some ?_)) hdl)) (fun H8 e8 => q H8)
    · walk_at "ev"
    · walk_at "ev"
end
end BD
namespace BD
open PySem PySem.Spec PyProof.Rows L2 Evl
local macro_rules | `(tactic| walk_at "ev") => `(tactic| first
  | ((with_reducible apply ev_var) ; rfl)
  | with_reducible exact ev_c
  | ((with_reducible apply ev_I0) <;> walk_at "ev")
  | ((with_reducible apply ev_e9) <;> walk_at "ev")
  | ((with_reducible apply ev_I) <;> walk_at "ev")
  | ((with_reducible apply ev_eq) <;> walk_at "ev")
  | ((with_reducible apply ev_ne) <;> walk_at "ev")
  | ((with_reducible apply ev_neg) <;> walk_at "ev")
  | ((with_reducible apply ev_ixN) <;> walk_at "ev")
  | ((with_reducible apply ev_ixL) <;> walk_at "ev")
  | ((with_reducible apply ev_inN) <;> walk_at "ev")
  | ((with_reducible apply ev_inT) <;> walk_at "ev")
  | ((with_reducible apply ev_ixT) <;> walk_at "ev")
  | ((with_reducible apply ev_ixS) <;> walk_at "ev")
  | ((with_reducible apply ev_len') <;> walk_at "ev")
  | ((with_reducible apply et_test) <;> walk_at "ev")
  | ((with_reducible apply et_and) <;> walk_at "ev")
  | ((with_reducible apply et_or) <;> walk_at "ev")
  | ((with_reducible apply et_not) <;> walk_at "ev")
  | ((with_reducible apply et_B) <;> walk_at "ev")
  | ((with_reducible apply el_lst) <;> walk_at "ev")
  | ((with_reducible apply eu_tup) <;> walk_at "ev")
  | ((with_reducible apply ea_cons) <;> walk_at "ev")
  | with_reducible exact ea_nil
  | with_reducible assumption
  | ((with_reducible apply ex_l' ; assumption) ; walk_at "ex")
  | ((with_reducible apply ex_t' ; assumption) ; walk_at "ex")
  | (intro _ ; walk_at "ev")
  | (with_reducible first | exact atI_hd | exact at_kind | exact at2s | exact at3s | exact at3i)
  | (first | exact rfl | exact Nat.le_of_ble_eq_true rfl | exact ⟨by decide, by decide⟩ | decide | exact Or.inl ⟨by omega, by omega⟩ | exact Or.inr ⟨by omega, by omega⟩ | omega)
  | skip)
local macro_rules | `(tactic| walk_at "ex") => `(tactic| first
  | assumption
  | exact Ex.refl _
  | (refine' Ex.trans ?_ (by assumption) ; walk_at "ex"))
local macro_rules | `(tactic| walk_at "row") => `(tactic| first
  | (with_reducible exact er_nil)
  | ((with_reducible apply er_cons) <;> walk_at "row")
  | (((with_reducible apply er_var) ; rfl) ; walk_at "isrow")
  | (((with_reducible apply elr_var) ; rfl) ; walk_at "isrow")
  | ((with_reducible apply elr_cat) <;> walk_at "row")
  | ((with_reducible apply elr_lst) <;> walk_at "row")
  | ((with_reducible apply er_fin) <;> walk_at "ev")
  | ((with_reducible apply er_lendT) <;> walk_at "ev")
  | ((with_reducible apply er_lendW) <;> walk_at "ev")
  | ((with_reducible apply er_pick) <;> walk_at "ev")
  | ((with_reducible apply er_either) <;> walk_at "ev")
  | ((with_reducible apply er_or) <;> walk_at "ev")
  | ((with_reducible apply er_again) <;> walk_at "ev")
  | ((with_reducible apply er_back) <;> walk_at "ev")
  | ((with_reducible apply er_look) <;> walk_at "ev")
  | ((with_reducible apply er_change) <;> walk_at "ev")
  | exact Nat.le_of_ble_eq_true rfl
  | skip)
local macro_rules | `(tactic| walk_at "isrow") => `(tactic| first
  | assumption
  | (refine IsRow.up ?_ (by assumption) ; walk_at "ex")
  | (refine LRows.up ?_ (by assumption) ; walk_at "ex"))

abbrev s_awake : Stmt := topS 1
theorem sc_awake : FnScope ["held", "lenders", "entry"] ["held"] (defScope s_awake) := ⟨rfl, rfl, rfl, by decide +kernel, rfl, by decide +kernel, by decide +kernel⟩
theorem awakeM_one (es : List Ent) : (es.filter fun e => !decide (e.k = ("pick" : Str)) && (e.o && !decide (e.w ∈ (es.filter fun e : Ent => e.o).map fun e : Ent => e.s))) = awakeM es := by
  unfold awakeM
  rw [List.filter_filter]
  refine List.filter_congr fun e _ => ?_
  cases decide (e.k = ("pick" : Str)) <;> cases e.o <;> cases decide (e.w ∈ (es.filter fun e : Ent => e.o).map fun e : Ent => e.s) <;> rfl
section
variable {P : Program} {w : World} {K : PySem.W.Frag} {mg : Str → Option Value} {base : Heap}
theorem ok_pawake1 (D : Dn K mg "awake" s_awake ["held"]) : Has P w K mg base "awake" 1 ["held"] (spAwake K) := by
  refine D.ok sc_awake (fun vs H Q E h => ?_) (fun f cdv A outer st H vs Q E hr h => ?_)
  · obtain ⟨x, es, rfl, _⟩ := h
    rfl
  · obtain ⟨x, es, rfl, hx, hlen, q⟩ := h
    obtain ⟨p, hv, rfl, hp, hE⟩ := hx
    have hP : SqT K H p hv := st_of hp
    have hle := hE.len
    refine ⟨_, (pss_cons (ps_set (i := 1) sc_awake.nd rfl (Or.inr rfl) (pe_lc (own := [("entry", 2)]) (g := (gName 2))  rfl sc_awake.nd (pi_tup (pv 0)) (blkOk_by (own := [("entry", 2)]) (N := ["held", "lenders", "entry"]) (sc := defScope s_awake) (by decide +kernel)) (fun _ _ _ _ _ => (pg_name (i := 2) sc_awake.nd rfl (Or.inl rfl))) (fun _ _ _ _ _ => (pts_one (pt_val (pe_ix (show IxR _ (rIxT K) from ix_tup) (pv 2) pe_int (fun _ _ => rfl))))) (fun _ _ _ _ _ => (pe_ix (show IxR _ (rIxT K) from ix_tup) (pv 2) pe_int (fun _ _ => rfl))))) (pss_one (ps_ret (pe_lc (own := [("entry", 2)]) (g := (gName 2))  rfl sc_awake.nd (pi_tup (pv 0)) (blkOk_by (own := [("entry", 2)]) (N := ["held", "lenders", "entry"]) (sc := defScope s_awake) (by decide +kernel)) (fun _ _ _ _ _ => (pg_name (i := 2) sc_awake.nd rfl (Or.inl rfl))) (fun _ _ _ _ _ => (pts_one (PW.pt (pw_and (pt_cmpR op_ne (pe_ix (show IxR _ (rIxT K) from ix_tup) (pv 2) pe_int (fun _ _ => rfl)) pe_str (nomark _)) (pw_and (pt_val (pe_ix (show IxR _ (rIxT K) from ix_tup) (pv 2) pe_int (fun _ _ => rfl))) (pw_and1 (pt_cmpR (show OpR _ _ (rIn K true) from op_notIn_seq) (pe_ix (show IxR _ (rIxT K) from ix_tup) (pv 2) pe_int (fun _ _ => rfl)) (pv 1) (by rfl)))))))) (fun _ _ _ _ _ => (pv 2)))))), ?_⟩
    show (_ : L2.TS) _ [_, _, _] _
    refine q_asgL (el_mapT (K := K) (fun e : Ent => e.o) (fun e : Ent => e.s) (ev_var rfl) hP hE (by omega) (fun x => rfl) (fun x e H1 _ hx => ?_) (fun x e H1 _ hx => ?_)) (fun pl H1 hpl e1 h1 => ?_)
    · exact et_B (ev_e4 rfl hx)
    · exact ev_e3 rfl hx
    show (_ : L2.TS) _ [_, _, _] _
    have hL1 : SqL K H1 pl (((es.filter fun e : Ent => e.o).map fun e : Ent => e.s).map V.str) := sq_of h1
    refine (epl_filterT (fun e => !decide (e.k = ("pick" : Str)) && (e.o && !decide (e.w ∈ (es.filter fun e : Ent => e.o).map fun e : Ent => e.s))) (ev_var rfl) (ex_t e1 hP) (hE.up e1) (by omega) (fun x => rfl) (fun x e H2 e2 hx => ?_) (fun x => rfl)) H1 (Ex.refl H1) _ fun pz zs H3 hpz e3 h3 hZ => q pz zs H3 (fresh_back e1 hpz) (e1.trans e3) h3 (by rw [← awakeM_one]; exact hZ)
    rw [← dec_str]
    exact et_and (et_test (ev_ne (ev_e1 rfl hx) ev_c rfl)) (fun _ => et_and (et_B (ev_e4 rfl hx)) (fun _ => et_test (ev_notInLs (ev_e0 rfl hx) (ev_var rfl) (ex_l e2 hL1))))
theorem ok_pawake (D : Dn K mg "awake" s_awake ["held"]) : Has P w K mg base "awake" 3 ["held"] (spAwake K) := (ok_pawake1 D).mono (by decide)
end
end BD
namespace BD
open PySem PySem.Spec PyProof.Rows L2 Evl
local macro_rules | `(tactic| walk_at "ev") => `(tactic| first
  | ((with_reducible apply ev_var) ; rfl)
  | with_reducible exact ev_c
  | ((with_reducible apply ev_I0) <;> walk_at "ev")
  | ((with_reducible apply ev_e9) <;> walk_at "ev")
  | ((with_reducible apply ev_I) <;> walk_at "ev")
  | ((with_reducible apply ev_eq) <;> walk_at "ev")
  | ((with_reducible apply ev_ne) <;> walk_at "ev")
  | ((with_reducible apply ev_neg) <;> walk_at "ev")
  | ((with_reducible apply ev_ixN) <;> walk_at "ev")
  | ((with_reducible apply ev_ixL) <;> walk_at "ev")
  | ((with_reducible apply ev_inN) <;> walk_at "ev")
  | ((with_reducible apply ev_inT) <;> walk_at "ev")
  | ((with_reducible apply ev_ixT) <;> walk_at "ev")
  | ((with_reducible apply ev_ixS) <;> walk_at "ev")
  | ((with_reducible apply ev_len') <;> walk_at "ev")
  | ((with_reducible apply et_test) <;> walk_at "ev")
  | ((with_reducible apply et_and) <;> walk_at "ev")
  | ((with_reducible apply et_or) <;> walk_at "ev")
  | ((with_reducible apply et_not) <;> walk_at "ev")
  | ((with_reducible apply et_B) <;> walk_at "ev")
  | ((with_reducible apply el_lst) <;> walk_at "ev")
  | ((with_reducible apply eu_tup) <;> walk_at "ev")
  | ((with_reducible apply ea_cons) <;> walk_at "ev")
  | with_reducible exact ea_nil
  | with_reducible assumption
  | ((with_reducible apply ex_l' ; assumption) ; walk_at "ex")
  | ((with_reducible apply ex_t' ; assumption) ; walk_at "ex")
  | (intro _ ; walk_at "ev")
  | (with_reducible first | exact atI_hd | exact at_kind | exact at2s | exact at3s | exact at3i)
  | (first | exact rfl | exact Nat.le_of_ble_eq_true rfl | exact ⟨by decide, by decide⟩ | decide | exact Or.inl ⟨by omega, by omega⟩ | exact Or.inr ⟨by omega, by omega⟩ | omega)
  | skip)
local macro_rules | `(tactic| walk_at "ex") => `(tactic| first
  | assumption
  | exact Ex.refl _
  | (refine' Ex.trans ?_ (by assumption) ; walk_at "ex"))
local macro_rules | `(tactic| walk_at "row") => `(tactic| first
  | (with_reducible exact er_nil)
  | ((with_reducible apply er_cons) <;> walk_at "row")
  | (((with_reducible apply er_var) ; rfl) ; walk_at "isrow")
  | (((with_reducible apply elr_var) ; rfl) ; walk_at "isrow")
  | ((with_reducible apply elr_cat) <;> walk_at "row")
  | ((with_reducible apply elr_lst) <;> walk_at "row")
  | ((with_reducible apply er_fin) <;> walk_at "ev")
  | ((with_reducible apply er_lendT) <;> walk_at "ev")
  | ((with_reducible apply er_lendW) <;> walk_at "ev")
  | ((with_reducible apply er_pick) <;> walk_at "ev")
  | ((with_reducible apply er_either) <;> walk_at "ev")
  | ((with_reducible apply er_or) <;> walk_at "ev")
  | ((with_reducible apply er_again) <;> walk_at "ev")
  | ((with_reducible apply er_back) <;> walk_at "ev")
  | ((with_reducible apply er_look) <;> walk_at "ev")
  | ((with_reducible apply er_change) <;> walk_at "ev")
  | exact Nat.le_of_ble_eq_true rfl
  | skip)
local macro_rules | `(tactic| walk_at "isrow") => `(tactic| first
  | assumption
  | (refine IsRow.up ?_ (by assumption) ; walk_at "ex")
  | (refine LRows.up ?_ (by assumption) ; walk_at "ex"))

theorem all_mk {l : PySem.W.OpenLaw} {w : World} {K : PySem.W.Frag} {h : Heap} {mg : Str → Option Value} {fa f10 f1 f2 f3 f4 f5 f6 f7 f8 f9 : Addr} (X : K.In h) (G : h.Ns mainGlobals mg) (hfa : mg "law" = some (.ref fa))
    {od1 an1 : Option Addr} {sl1 : Array (Option Value)} {oc1 kV1 dc1 pm1 cd1 ct1 : Value}
    (a1 : PySem.W.nsIn K mainGlobals "_law_cell_at" = some (some (.ref f1))) (l1 : K.lookup f1 = some ⟨oc1, od1, .func (PySem.W.fnOf "_law_cell_at" "_law_cell_at" (defArgs s_l_cell_at) (defBody s_l_cell_at) (defScope s_l_cell_at) .none kV1 dc1 pm1 an1 cd1 ct1), sl1⟩) (c1 : PySem.W.codeIn K cd1 "_law_cell_at" = true) (k1 : PySem.W.keepIn K (.ref f1) = true)
    {od2 an2 : Option Addr} {sl2 : Array (Option Value)} {oc2 kV2 dc2 pm2 cd2 ct2 : Value}
    (a2 : PySem.W.nsIn K mainGlobals "_law_word" = some (some (.ref f2))) (l2 : K.lookup f2 = some ⟨oc2, od2, .func (PySem.W.fnOf "_law_word" "_law_word" (defArgs s_l_word) (defBody s_l_word) (defScope s_l_word) .none kV2 dc2 pm2 an2 cd2 ct2), sl2⟩) (c2 : PySem.W.codeIn K cd2 "_law_word" = true) (k2 : PySem.W.keepIn K (.ref f2) = true)
    {od3 an3 : Option Addr} {sl3 : Array (Option Value)} {oc3 kV3 dc3 pm3 cd3 ct3 : Value}
    (a3 : PySem.W.nsIn K mainGlobals "_law_draw" = some (some (.ref f3))) (l3 : K.lookup f3 = some ⟨oc3, od3, .func (PySem.W.fnOf "_law_draw" "_law_draw" (defArgs s_l_draw) (defBody s_l_draw) (defScope s_l_draw) .none kV3 dc3 pm3 an3 cd3 ct3), sl3⟩) (c3 : PySem.W.codeIn K cd3 "_law_draw" = true) (k3 : PySem.W.keepIn K (.ref f3) = true)
    {od4 an4 : Option Addr} {sl4 : Array (Option Value)} {oc4 kV4 dc4 pm4 cd4 ct4 : Value}
    (a4 : PySem.W.nsIn K mainGlobals "_law_thing" = some (some (.ref f4))) (l4 : K.lookup f4 = some ⟨oc4, od4, .func (PySem.W.fnOf "_law_thing" "_law_thing" (defArgs s_l_thing) (defBody s_l_thing) (defScope s_l_thing) .none kV4 dc4 pm4 an4 cd4 ct4), sl4⟩) (c4 : PySem.W.codeIn K cd4 "_law_thing" = true) (k4 : PySem.W.keepIn K (.ref f4) = true)
    {od5 an5 : Option Addr} {sl5 : Array (Option Value)} {oc5 kV5 dc5 pm5 cd5 ct5 : Value}
    (a5 : PySem.W.nsIn K mainGlobals "_law_awake" = some (some (.ref f5))) (l5 : K.lookup f5 = some ⟨oc5, od5, .func (PySem.W.fnOf "_law_awake" "_law_awake" (defArgs s_l_awake) (defBody s_l_awake) (defScope s_l_awake) .none kV5 dc5 pm5 an5 cd5 ct5), sl5⟩) (c5 : PySem.W.codeIn K cd5 "_law_awake" = true) (k5 : PySem.W.keepIn K (.ref f5) = true)
    {od6 an6 : Option Addr} {sl6 : Array (Option Value)} {oc6 kV6 dc6 pm6 cd6 ct6 : Value}
    (a6 : PySem.W.nsIn K mainGlobals "_law_whole" = some (some (.ref f6))) (l6 : K.lookup f6 = some ⟨oc6, od6, .func (PySem.W.fnOf "_law_whole" "_law_whole" (defArgs s_l_whole) (defBody s_l_whole) (defScope s_l_whole) .none kV6 dc6 pm6 an6 cd6 ct6), sl6⟩) (c6 : PySem.W.codeIn K cd6 "_law_whole" = true) (k6 : PySem.W.keepIn K (.ref f6) = true)
    {od7 an7 : Option Addr} {sl7 : Array (Option Value)} {oc7 kV7 dc7 pm7 cd7 ct7 : Value}
    (a7 : PySem.W.nsIn K mainGlobals "_law_entry" = some (some (.ref f7))) (l7 : K.lookup f7 = some ⟨oc7, od7, .func (PySem.W.fnOf "_law_entry" "_law_entry" (defArgs s_l_entry) (defBody s_l_entry) (defScope s_l_entry) .none kV7 dc7 pm7 an7 cd7 ct7), sl7⟩) (c7 : PySem.W.codeIn K cd7 "_law_entry" = true) (k7 : PySem.W.keepIn K (.ref f7) = true)
    {od8 an8 : Option Addr} {sl8 : Array (Option Value)} {oc8 kV8 dc8 pm8 cd8 ct8 : Value}
    (a8 : PySem.W.nsIn K mainGlobals "_law_held" = some (some (.ref f8))) (l8 : K.lookup f8 = some ⟨oc8, od8, .func (PySem.W.fnOf "_law_held" "_law_held" (defArgs s_l_held) (defBody s_l_held) (defScope s_l_held) .none kV8 dc8 pm8 an8 cd8 ct8), sl8⟩) (c8 : PySem.W.codeIn K cd8 "_law_held" = true) (k8 : PySem.W.keepIn K (.ref f8) = true)
    {od9 an9 : Option Addr} {sl9 : Array (Option Value)} {oc9 kV9 dc9 pm9 cd9 ct9 : Value}
    (a9 : PySem.W.nsIn K mainGlobals "awake" = some (some (.ref f9))) (l9 : K.lookup f9 = some ⟨oc9, od9, .func (PySem.W.fnOf "awake" "awake" (defArgs s_awake) (defBody s_awake) (defScope s_awake) .none kV9 dc9 pm9 an9 cd9 ct9), sl9⟩) (c9 : PySem.W.codeIn K cd9 "awake" = true) (k9 : PySem.W.keepIn K (.ref f9) = true)
    {od10 an10 : Option Addr} {sl10 : Array (Option Value)} {oc10 kV10 dc10 pm10 cd10 ct10 : Value}
    (a10 : PySem.W.nsIn K mainGlobals "law" = some (some (.ref f10))) (l10 : K.lookup f10 = some ⟨oc10, od10, .func (PySem.W.fnOf "law" "law" (defArgs s_law) (defBody s_law) (defScope s_law) .none kV10 dc10 pm10 an10 cd10 ct10), sl10⟩) (c10 : PySem.W.codeIn K cd10 "law" = true) (k10 : PySem.W.keepIn K (.ref f10) = true)
    (z_len : PySem.W.nsIn K mainGlobals "len" = some none)
    (z_range : PySem.W.nsIn K mainGlobals "range" = some none)
    (z_enumerate : PySem.W.nsIn K mainGlobals "enumerate" = some none)
    (z_zip : PySem.W.nsIn K mainGlobals "zip" = some none)
    (z_list : PySem.W.nsIn K mainGlobals "list" = some none)
    (z_tuple : PySem.W.nsIn K mainGlobals "tuple" = some none)
    (z_isinstance : PySem.W.nsIn K mainGlobals "isinstance" = some none)
    (z_all : PySem.W.nsIn K mainGlobals "all" = some none)
    (z_int : PySem.W.nsIn K mainGlobals "int" = some none)
    (z_bool : PySem.W.nsIn K mainGlobals "bool" = some none)
    (z_str : PySem.W.nsIn K mainGlobals "str" = some none)
    (z_sum : PySem.W.nsIn K mainGlobals "sum" = some none)
    (z_reversed : PySem.W.nsIn K mainGlobals "reversed" = some none)
    : ∃ fd : FuncData, (∀ (s : Shared) (v : Value), BindsTo s fd ⟨[v], []⟩ [("_law_script", v)]) ∧ ∀ base : Heap, K.In base → base.Ns mainGlobals mg → FnOk l.prog w K mg base CX0 4 fa fd ["_law_script"] (spLaw K) := by
  have e := hfa.symm.trans (PySem.W.mg_of X G a10)
  cases e
  have D1 : Dn K mg "_law_cell_at" s_l_cell_at ["_law_script", "_law_k"] := dn_mk X G a1 l1 c1 k1 fun _ _ _ _ _ _ us hl => match us, hl with | [_, _], _ => rfl
  have D2 : Dn K mg "_law_word" s_l_word ["_law_one", "_law_two", "_law_deep", "_law_draw_here"] := dn_mk X G a2 l2 c2 k2 fun _ _ _ _ _ _ us hl => match us, hl with | [_, _, _, _], _ => rfl
  have D3 : Dn K mg "_law_draw" s_l_draw ["_law_script"] := dn_mk X G a3 l3 c3 k3 fun _ _ _ _ _ _ us hl => match us, hl with | [_], _ => rfl
  have D4 : Dn K mg "_law_thing" s_l_thing ["_law_cell", "_law_base"] := dn_mk X G a4 l4 c4 k4 fun _ _ _ _ _ _ us hl => match us, hl with | [_, _], _ => rfl
  have D5 : Dn K mg "_law_awake" s_l_awake ["_law_held_here"] := dn_mk X G a5 l5 c5 k5 fun _ _ _ _ _ _ us hl => match us, hl with | [_], _ => rfl
  have D6 : Dn K mg "_law_whole" s_l_whole ["_law_found"] := dn_mk X G a6 l6 c6 k6 fun _ _ _ _ _ _ us hl => match us, hl with | [_], _ => rfl
  have D7 : Dn K mg "_law_entry" s_l_entry ["_law_found"] := dn_mk X G a7 l7 c7 k7 fun _ _ _ _ _ _ us hl => match us, hl with | [_], _ => rfl
  have D8 : Dn K mg "_law_held" s_l_held ["_law_script"] := dn_mk X G a8 l8 c8 k8 fun _ _ _ _ _ _ us hl => match us, hl with | [_], _ => rfl
  have D9 : Dn K mg "awake" s_awake ["held"] := dn_mk X G a9 l9 c9 k9 fun _ _ _ _ _ _ us hl => match us, hl with | [_], _ => rfl
  have T : Blt mg := ⟨PySem.W.mg_none_of X G z_len, PySem.W.mg_none_of X G z_range, PySem.W.mg_none_of X G z_enumerate, PySem.W.mg_none_of X G z_zip, PySem.W.mg_none_of X G z_list, PySem.W.mg_none_of X G z_tuple, PySem.W.mg_none_of X G z_isinstance, PySem.W.mg_none_of X G z_all, PySem.W.mg_none_of X G z_int, PySem.W.mg_none_of X G z_bool, PySem.W.mg_none_of X G z_str, PySem.W.mg_none_of X G z_sum, PySem.W.mg_none_of X G z_reversed⟩
  refine ⟨PySem.W.fnOf "law" "law" (defArgs s_law) (defBody s_law) (defScope s_law) .none kV10 dc10 pm10 an10 cd10 ct10, fun s v => .of_eq rfl, fun base _ _ => ?_⟩
  have F := fun_mk (st := s_law) l10 c10 k10
  have h_cell : Has l.prog w K mg base _ _ _ _ := ok_cell D1 T
  have h_word : Has l.prog w K mg base _ _ _ _ := ok_word D2 T
  have h_draw : Has l.prog w K mg base _ _ _ _ := ok_draw D3 h_cell
  have h_thing : Has l.prog w K mg base _ _ _ _ := ok_thing D4
  have h_awake : Has l.prog w K mg base _ _ _ _ := ok_awake D5
  have h_whole : Has l.prog w K mg base _ _ _ _ := ok_whole D6 T
  have h_entry : Has l.prog w K mg base _ _ _ _ := ok_entry D7 T h_whole
  have h_held : Has l.prog w K mg base _ _ _ _ := ok_held D8 T h_draw h_cell h_thing h_word
  have h_pawake : Has l.prog w K mg base _ _ _ _ := ok_pawake D9
  exact ok_law F T h_held h_pawake h_entry h_awake
end BD
open PySem PySem.W PyProof.Rows
set_option maxHeartbeats 0 in
theorem PySem.Challenge.cw_borrowdesk_k01_who_is_awake_holds : PySem.Challenge.rw_borrowdesk_k01_who_is_awake.Holds := by
  w_on; o_law; k_head; (case hw => w_witness2)
  k_fill
  refine L2.walk_of (l := PySem.Challenge.rw_borrowdesk_k01_who_is_awake) (n := 63) (k := 4) (x := "_law_script") (CX := fun _ => L2.CX0) (sp := fun w => BD.spLaw _) rfl (by decide) rfl ⟨rfl, by decide, by decide⟩ (fun w h Y => PySem.W.kIn_of Y) ?F (fun _ _ a ns hl _ hS => ⟨a, ns, rfl, hS, hl, fun _ => rfl⟩) (fun _ _ _ _ _ h => h)
  case F =>
    intro w mg fa h KX G hmg
    refine' BD.all_mk KX G hmg ?a1 ?l1 ?c1 ?k1 ?a2 ?l2 ?c2 ?k2 ?a3 ?l3 ?c3 ?k3 ?a4 ?l4 ?c4 ?k4 ?a5 ?l5 ?c5 ?k5 ?a6 ?l6 ?c6 ?k6 ?a7 ?l7 ?c7 ?k7 ?a8 ?l8 ?c8 ?k8 ?a9 ?l9 ?c9 ?k9 ?a10 ?l10 ?c10 ?k10 ?z_len ?z_range ?z_enumerate ?z_zip ?z_list ?z_tuple ?z_isinstance ?z_all ?z_int ?z_bool ?z_str ?z_sum ?z_reversed
    (case a1 => k_is); (case l1 => k_is); (case c1 => k_is); (case k1 => k_is)
    (case a2 => k_is); (case l2 => k_is); (case c2 => k_is); (case k2 => k_is)
    (case a3 => k_is); (case l3 => k_is); (case c3 => k_is); (case k3 => k_is)
    (case a4 => k_is); (case l4 => k_is); (case c4 => k_is); (case k4 => k_is)
    (case a5 => k_is); (case l5 => k_is); (case c5 => k_is); (case k5 => k_is)
    (case a6 => k_is); (case l6 => k_is); (case c6 => k_is); (case k6 => k_is)
    (case a7 => k_is); (case l7 => k_is); (case c7 => k_is); (case k7 => k_is)
    (case a8 => k_is); (case l8 => k_is); (case c8 => k_is); (case k8 => k_is)
    (case a9 => k_is); (case l9 => k_is); (case c9 => k_is); (case k9 => k_is)
    (case a10 => k_is); (case l10 => k_is); (case c10 => k_is); (case k10 => k_is)
    (case z_len => k_is)
    (case z_range => k_is)
    (case z_enumerate => k_is)
    (case z_zip => k_is)
    (case z_list => k_is)
    (case z_tuple => k_is)
    (case z_isinstance => k_is)
    (case z_all => k_is)
    (case z_int => k_is)
    (case z_bool => k_is)
    (case z_str => k_is)
    (case z_sum => k_is)
    (case z_reversed => k_is)
