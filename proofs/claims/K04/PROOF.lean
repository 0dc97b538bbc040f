import PyProof.Rows.All
import Wide.All
import OpenK.AllK
import Wide.FinOn
import HandS.ForMost
import HandS.Evl
import HandS.IsInst
import HandS.Walk
import PyProof.StrBlock2
import KE.KEqSeq
import PySem.Challenge.RW_borrowdesk_k04_what_is_wrong
import HandS.TupAny
import HandS.Rev
import HandS.AnyAll
import HandS.GenOver
import HandS.EndBits
import PyProof.GenCompD
import HandS.GenList
import HandS.EndOwn
import KE.KNestM
set_option Elab.async false
set_option linter.all false
set_option maxRecDepth 100000
set_option maxHeartbeats 8000000
namespace BD
open PySem PySem.Spec PyProof.Rows L2 Evl

/-! ### a def that stands, a def whose promise is known -/
def Dn (K : PySem.W.Frag) (mg : Str → Option Value) (x : Str) (st : Stmt) (ps : List Str) : Prop :=
  ∃ f fd, Fun K x x st f fd ∧ mg x = some (.ref f) ∧ Binds K fd ps []
theorem dn_mk {K : PySem.W.Frag} {h : Heap} {mg : Str → Option Value} (X : K.In h) (G : h.Ns mainGlobals mg) {x : Str} {st : Stmt} {ps : List Str} {f : Addr} {oc kV dc pm cd ct : Value} {od an : Option Addr} {sl : Array (Option Value)}
    (a : PySem.W.nsIn K mainGlobals x = some (some (.ref f))) (l : K.lookup f = some ⟨oc, od, .func (PySem.W.fnOf x x (defArgs st) (defBody st) (defScope st) .none kV dc pm an cd ct), sl⟩) (c : PySem.W.codeIn K cd x = true) (k : PySem.W.keepIn K (.ref f) = true)
    (hb : ∀ (kV doc pm : Value) (an : Option Addr) (cdv ct : Value) (us : List Value), us.length = ps.length → bindArgs (PySem.W.fnOf x x (defArgs st) (defBody st) (defScope st) .none kV doc pm an cdv ct) ⟨us, []⟩ = pure (ps.zip us)) : Dn K mg x st ps :=
  ⟨f, _, fun_mk l c k, PySem.W.mg_of X G a, (fun_mk l c k).binds hb⟩
structure Has (P : Program) (w : World) (K : PySem.W.Frag) (mg : Str → Option Value) (base : Heap) (x : Str) (k : Nat) (ps : List Str) (sp : Sp) : Prop where
  ex : ∃ f fd, FnOk P w K mg base CX0 k f fd ps sp ∧ mg x = some (.ref f) ∧ PySem.W.keepIn K (.ref f) = true ∧ Binds K fd ps []
section
variable {P : Program} {w : World} {K : PySem.W.Frag} {mg : Str → Option Value} {base : Heap}
theorem Dn.ok {x : Str} {st : Stmt} {N ps : List Str} {k : Nat} {sp : Sp} (D : Dn K mg x st ps) (S : FnScope N ps (defScope st)) (len : ∀ vs H Q E, sp vs H Q E → vs.length = ps.length)
    (hbody : ∀ (f : Addr) (cdv : Value) (A : Around) (outer : List Env) (s : Shared) (H : Hp) (vs : List V) (Q : VK) (E : XK), Room k (A.deeper (envOfC x (defScope st) s.heap.objs.size f cdv)) → sp vs H Q E →
      ∃ t, PSs (cxOf CX0 P w K mg base N x (defScope st) f cdv A outer s H E).nox (defBody st) t ∧ t { nx := fun _ H' => Q .non H', rt := Q } (start N vs) H) : Has P w K mg base x (k + 1) ps sp := by
  obtain ⟨f, fd, F, m, b⟩ := D
  exact ⟨f, fd, F.ok S len (hbody f), m, F.kp, b⟩
theorem Has.mono {x : Str} {j k : Nat} {ps : List Str} {sp : Sp} (h : Has P w K mg base x j ps sp) (e : j ≤ k) : Has P w K mg base x k ps sp := by
  obtain ⟨f, fd, F, m, kp, b⟩ := h.ex
  exact ⟨f, fd, F.mono e, m, kp, b⟩
end
theorem pe_own {X : Cx} {x : Str} {k : Nat} {ps : List Str} {sp : Sp} {e : Expr} {es : List Expr} {p pos : Pos} {t : TA} (h : Has X.prog X.w X.K X.mg X.base x k ps sp) (hr : Room k X.A) (hg : Gl X x) (ha : PA X (e :: es) t)
    (hdb : (x == ("__debug__" : Str)) = false := by decide) (he : starEach (e :: es) X.env = (false, eval e X.env) :: starEach es X.env := by rfl) (hpl : (backTo pos (starEach es X.env)).any (·.1) = false := by rfl) :
    PE X (.Call (.Name x p) (e :: es) [] pos) (tCall sp [] E0 t) := by
  obtain ⟨f, fd, F, m, kp, b⟩ := h.ex
  exact pe_call F hr hg m kp b .nil pass0 ha hdb he hpl

structure Blt (mg : Str → Option Value) : Prop where
  len_ : mg "len" = none
  range_ : mg "range" = none
  enumerate_ : mg "enumerate" = none
  zip_ : mg "zip" = none
  list_ : mg "list" = none
  tuple_ : mg "tuple" = none
  isinstance_ : mg "isinstance" = none
  all_ : mg "all" = none
  int_ : mg "int" = none
  bool_ : mg "bool" = none
  str_ : mg "str" = none
  sum_ : mg "sum" = none
  reversed_ : mg "reversed" = none
/-! ### a text times a number -/
def rRepS : R2 := fun x y H Q => ∃ z k, x = .str z ∧ y = .int k ∧ MulOk z k ∧ Q (.str (Txt.mul z k)) H
theorem op_repS {X : Cx} : OpR X (binaryOp .Mult) rRepS := by
  intro pins s σ H x y v u Q I rx ry h
  obtain ⟨z, k, rfl, rfl, hz, q⟩ := h
  obtain ⟨t, rfl⟩ := rx
  obtain ⟨t', rfl⟩ := ry
  exact SB.mul hz (fun t' tk => ⟨.str (Txt.mul z k), H, I.tok _, ⟨_, rfl⟩, q⟩)

def rAddT : R2 := fun x y H Q => ∃ i j, x = .str i ∧ y = .str j ∧ i.length + j.length ≤ sizeLine ∧ Q (.str (i ++ j)) H
theorem op_addT {X : Cx} : OpR X (binaryOp .Add) rAddT := op_add_str
/-! ### evaluation with a post on value and heap -/
def EvP (te : TE) (σ : L2.St) (H : Hp) (R : V → Hp → Prop) : Prop := ∀ H1, Ex H H1 → ∀ Q : VK, (∀ v H2, Ex H1 H2 → R v H2 → Q v H2) → te σ H1 Q
def EvAP (ta : TA) (σ : L2.St) (H : Hp) (R : List V → Hp → Prop) : Prop := ∀ H1, Ex H H1 → ∀ Q : List V → Hp → Prop, (∀ vs H2, Ex H1 H2 → R vs H2 → Q vs H2) → ta σ H1 Q
/-- a new list whose items are told by R -/
def EvPL (te : TE) (σ : L2.St) (H : Hp) (R : List V → Hp → Prop) : Prop := ∀ H1, Ex H H1 → ∀ Q : VK, (∀ p vs H2, H1 p = none → Ex H1 H2 → H2 p = some (.lst vs) → R vs H2 → Q (.ref p) H2) → te σ H1 Q
section
variable {K : PySem.W.Frag} {σ : L2.St} {H H' : Hp} {ta tb te tx : TE} {t u : TT} {x y z v : V} {r : R2} {R R' : V → Hp → Prop} {D : Ends} {tu tw tz : TS}
theorem ep_ev (h : Ev te σ H v) : EvP te σ H (fun x _ => x = v) := fun H1 e Q q => h H1 e Q fun H2 e2 => q v H2 e2 rfl
theorem ep_U {xs : List V} (h : EvU te σ H xs) : EvP te σ H (fun x H2 => ∃ p, x = .ref p ∧ H2 p = some (.tup xs)) := fun H1 e Q q => h H1 e Q fun p H2 _ e2 h2 => q _ H2 e2 ⟨p, rfl, h2⟩
theorem ep_L {xs : List V} (h : EvL te σ H xs) : EvP te σ H (fun x H2 => ∃ p, x = .ref p ∧ H2 p = some (.lst xs)) := fun H1 e Q q => h H1 e Q fun p H2 _ e2 h2 => q _ H2 e2 ⟨p, rfl, h2⟩
theorem EvP.mono (h : EvP te σ H R) (k : ∀ v H2, R v H2 → R' v H2) : EvP te σ H R' := fun H1 e Q q => h H1 e Q fun v H2 e2 hr => q v H2 e2 (k v H2 hr)
theorem EvP.up (e : Ex H H') (h : EvP te σ H R) : EvP te σ H' R := fun H1 a Q q => h H1 (e.trans a) Q q
theorem q_asgP {i : Nat} (h : EvP te σ H R) (k : ∀ v H1, Ex H H1 → R v H1 → tz D (σ.set i (some v)) H1) : tSeq (tAsg te (gName i)) tz D σ H := h H (Ex.refl H) _ fun v H1 e hr => k v H1 e hr
theorem s_asgP {i : Nat} (h : EvP te σ H R) (k : ∀ v H1, Ex H H1 → R v H1 → D.nx (σ.set i (some v)) H1) : tAsg te (gName i) D σ H := h H (Ex.refl H) _ fun v H1 e hr => k v H1 e hr
theorem s_retP (h : EvP te σ H R) (k : ∀ v H1, Ex H H1 → R v H1 → D.rt v H1) : tRet te D σ H := h H (Ex.refl H) _ k
theorem eap_nil : EvAP tNil σ H (fun vs _ => vs = []) := fun H1 _ _ q => q [] H1 (Ex.refl H1) rfl
def SpP (sp : Sp) (vs : List V) (H : Hp) (R : V → Hp → Prop) : Prop := ∀ H1, Ex H H1 → ∀ Q : VK, (∀ v H2, Ex H1 H2 → R v H2 → Q v H2) → ∀ E : XK, sp vs H1 Q E
theorem ep_call {sp : Sp} {dvs vs : List V} {E : XK} {ta : TA} (h : EvA ta σ H vs) (hs : SpP sp (vs ++ dvs) H R) : EvP (tCall sp dvs E ta) σ H R := fun H1 e Q q =>
  h H1 e _ fun H2 e2 => hs H2 (e.trans e2) Q (fun v H3 e3 hr => q v H3 (e2.trans e3) hr) E
/-- the promise's usual end: some value of which R tells, what stood stands -/
def Ret (R : V → Hp → Prop) (H : Hp) (Q : VK) : Prop := ∀ v H2, Ex H H2 → R v H2 → Q v H2
theorem Ret.go {Q : VK} (k : Ret R H Q) {v : V} (e : Ex H H') (hr : R v H') : Q v H' := k v H' e hr
end

section
variable {K : PySem.W.Frag} {σ : L2.St} {H H' : Hp} {ta tb te tx : TE} {t u : TT} {x y z v : V} {r : R2}
theorem ev_I0 {g : Int → Int → V} {i j : Int} (ha : Ev ta σ H (.int i)) (hb : Ev tb σ H (.int j)) : Ev (tOp (rI0 g) ta tb) σ H (g i j) := ev_op ha hb rv_I0
theorem ev_I {C : Int → Int → Prop} {g : Int → Int → V} {i j : Int} (ha : Ev ta σ H (.int i)) (hb : Ev tb σ H (.int j)) (hc : C i j) : Ev (tOp (rI C g) ta tb) σ H (g i j) := ev_op ha hb (rv_I hc)
theorem ex_l' {a : Addr} {xs : List V} (h : SqL K H a xs) (e : Ex H H') : SqL K H' a xs := ex_l e h
theorem ex_t' {a : Addr} {xs : List V} (h : SqT K H a xs) (e : Ex H H') : SqT K H' a xs := ex_t e h
theorem ev_e9 (ha : Ev ta σ H (.int 10)) (hb : Ev tb σ H (.int 9)) : Ev (tOp (rI CPow fun i j => .int (i ^ j.toNat)) ta tb) σ H (.int 1000000000) := by
  have h := ev_op ha hb (rv_I (C := CPow) (g := fun i j => .int (i ^ j.toNat)) (H := H) (i := 10) (j := 9) ⟨by decide, by decide, by decide⟩)
  exact h
theorem ev_eq (ha : Ev ta σ H x) (hb : Ev tb σ H y) (hc : scal x y = true) : Ev (tOp rEq ta tb) σ H (.bl (decide (x = y))) := ev_op ha hb (rv_eq hc)
theorem ev_ne (ha : Ev ta σ H x) (hb : Ev tb σ H y) (hc : scal x y = true) : Ev (tOp rNe ta tb) σ H (.bl (!decide (x = y))) := ev_op ha hb (rv_ne hc)
theorem ev_neg {i : Int} (ha : Ev ta σ H (.int i)) : Ev (tUn (rU fun i => .int (-i)) ta) σ H (.int (-i)) := ev_un ha ru_neg
theorem ev_ixL {p : Addr} {xs : List V} {i : Int} (ha : Ev ta σ H (.ref p)) (h : SqL K H p xs) (hb : Ev tb σ H (.int i)) (hi : atI xs i = some v) : Ev (tOp (rIxL K) ta tb) σ H v := ev_op ha hb (rv_ixL h hi)
theorem ev_ixT {p : Addr} {xs : List V} {i : Int} (ha : Ev ta σ H (.ref p)) (h : SqT K H p xs) (hb : Ev tb σ H (.int i)) (hi : atI xs i = some v) : Ev (tOp (rIxT K) ta tb) σ H v := ev_op ha hb (rv_ixT h hi)
theorem ev_ixN {tA : TA} {xs : List V} {i : Int} (ha : EvA tA σ H xs) (hb : Ev tb σ H (.int i)) (hl : xs.length ≤ 100000) (hi : atI xs i = some v) : Ev (tOp (rIxL K) (tLst tA) tb) σ H v :=
  ev_opL1 (el_lst ha hl) (fun _ e => hb.mono e) fun _ _ hz _ => rv_ixL (sq_of hz) hi
theorem ev_ixS {w : Str} {i : Int} {c : Nat} (ha : Ev ta σ H (.str w)) (hb : Ev tb σ H (.int i)) (h : w.length ≤ 100000) (hi : atI w.cps.toList i = some c) : Ev (tOp rIxS ta tb) σ H (.str ⟨#[c]⟩) := ev_op ha hb (rv_ixS h hi)
theorem ev_inN {tA : TA} {xs : List V} (ha : Ev ta σ H x) (hb : EvA tA σ H xs) (hl : xs.length ≤ 100000) (hx : flatV x = true) (hf : xs.all flatV = true) : Ev (tOp (rIn K false) ta (tLst tA)) σ H (.bl (inV x xs)) :=
  ev_opL ha (el_lst hb hl) fun _ _ hz _ => rv_isL (sq_of hz) hx hf
theorem ev_inT {p : Addr} {xs : List V} (ha : Ev ta σ H x) (hb : Ev tb σ H (.ref p)) (h : SqT K H p xs) (hx : flatV x = true) (hf : xs.all flatV = true) : Ev (tOp (rIn K false) ta tb) σ H (.bl (inV x xs)) := ev_op ha hb (rv_isT h hx hf)
theorem ev_len' {p : Addr} {xs : List V} (ha : Ev ta σ H (.ref p)) (h : SqL K H p xs) : Ev (tCB (rLenS K) (tCons ta tNil)) σ H (.int (xs.length : Int)) := ev_len ha h
theorem ev_add (x y : Str) (ha : Ev ta σ H (.str x)) (hb : Ev tb σ H (.str y)) (h : x.length + y.length ≤ 100000) : Ev (tOp rAddT ta tb) σ H (.str (x ++ y)) :=
  ev_op ha hb (rv_val fun H1 _ Q q => ⟨x, y, rfl, rfl, sz_of h, q⟩)
theorem ev_repS {w : Str} {k : Int} (ha : Ev ta σ H (.str w)) (hb : Ev tb σ H (.int k)) (h : MulOk w k) : Ev (tOp rRepS ta tb) σ H (.str (Txt.mul w k)) :=
  ev_op ha hb (rv_val fun H1 _ Q q => ⟨w, k, rfl, rfl, h, q⟩)
end
/-! ### rows of a sheet -/
inductive Src where
  | thing (n : Int)
  | word (w : Str)
def Src.v : Src → V
  | .thing n => .int n
  | .word w => .str w
inductive Rw where
  | lend (h k : Str) (s : Src)
  | pick (w : Str) (ts : List Int)
  | either | or | again | fin
  | back (h : Str) | look (h : Str) | change (h : Str)
namespace Rw
def tag : Rw → Str
  | .lend _ _ _ => "lend" | .pick _ _ => "pick" | .either => "either" | .or => "or" | .again => "again" | .fin => "end"
  | .back _ => "back" | .look _ => "look" | .change _ => "change"
def opens : Rw → Bool
  | .lend _ _ _ => true | .pick _ _ => true | .either => true | .again => true | _ => false
def named : Rw → Bool
  | .lend _ _ _ => true | .pick _ _ => true | _ => false
def isLend : Rw → Bool
  | .lend _ _ _ => true | _ => false
def isFin : Rw → Bool
  | .fin => true | _ => false
def isOr : Rw → Bool
  | .or => true | _ => false
def isEither : Rw → Bool
  | .either => true | _ => false
def word : Rw → Str
  | .lend h _ _ => h | .pick w _ => w | .back h => h | .look h => h | .change h => h | _ => ""
def kind : Rw → Str
  | .lend _ k _ => k | _ => ""
end Rw
/-- the row stands in the heap -/
def IsRow (H : Hp) (v : V) : Rw → Prop
  | .lend h k s => ∃ p, v = .ref p ∧ H p = some (.tup [.str "lend", .str h, .str k, s.v])
  | .pick w ts => ∃ p q, v = .ref p ∧ H p = some (.tup [.str "pick", .str w, .ref q]) ∧ H q = some (.tup (ts.map V.int))
  | .either => ∃ p, v = .ref p ∧ H p = some (.tup [.str "either"])
  | .or => ∃ p, v = .ref p ∧ H p = some (.tup [.str "or"])
  | .again => ∃ p, v = .ref p ∧ H p = some (.tup [.str "again"])
  | .fin => ∃ p, v = .ref p ∧ H p = some (.tup [.str "end"])
  | .back h => ∃ p, v = .ref p ∧ H p = some (.tup [.str "back", .str h])
  | .look h => ∃ p, v = .ref p ∧ H p = some (.tup [.str "look", .str h])
  | .change h => ∃ p, v = .ref p ∧ H p = some (.tup [.str "change", .str h])
/-- what stays of tuples -/
def ExT (H H' : Hp) : Prop := ∀ a xs, H a = some (.tup xs) → H' a = some (.tup xs)
theorem ExT.of {H H' : Hp} (e : Ex H H') : ExT H H' := fun a xs h => e a _ h
theorem ExT.refl (H : Hp) : ExT H H := fun _ _ h => h
theorem ExT.trans {H H1 H2 : Hp} (a : ExT H H1) (b : ExT H1 H2) : ExT H H2 := fun x o h => b x o (a x o h)
theorem ExT.lst {H : Hp} {p : Addr} {xs ys : List V} (h : H p = some (.lst xs)) : ExT H (upd H p (.lst ys)) := fun a zs e => by
  rw [upd_ne (ne_of e h (fun q => nomatch q))]
  exact e
theorem IsRow.upT {H H' : Hp} {v : V} {r : Rw} (e : ExT H H') (h : IsRow H v r) : IsRow H' v r := by
  cases r with
  | pick w ts => obtain ⟨p, q, h1, h2, h3⟩ := h; exact ⟨p, q, h1, e _ _ h2, e _ _ h3⟩
  | _ => obtain ⟨p, h1, h2⟩ := h; exact ⟨p, h1, e _ _ h2⟩
theorem IsRow.up {H H' : Hp} {v : V} {r : Rw} (e : Ex H H') (h : IsRow H v r) : IsRow H' v r := h.upT (ExT.of e)
def Rows (H : Hp) (vs : List V) (rs : List Rw) : Prop := Paired (IsRow H) vs rs
theorem Rows.upT {H H' : Hp} (e : ExT H H') : ∀ {vs : List V} {rs : List Rw}, Rows H vs rs → Rows H' vs rs
  | _, _, .nil => .nil
  | _, _, .cons r t => .cons (r.upT e) (Rows.upT e t)
theorem Rows.up {H H' : Hp} (e : Ex H H') {vs : List V} {rs : List Rw} (h : Rows H vs rs) : Rows H' vs rs := h.upT (ExT.of e)
theorem Rows.len {H : Hp} {vs : List V} {rs : List Rw} (h : Rows H vs rs) : vs.length = rs.length := Paired.length h
theorem Rows.append {H : Hp} : ∀ {vs ws : List V} {rs ss : List Rw}, Rows H vs rs → Rows H ws ss → Rows H (vs ++ ws) (rs ++ ss)
  | _, _, _, _, .nil, s => s
  | _, _, _, _, .cons r t, s => .cons r (Rows.append t s)
theorem Rows.at {H : Hp} : ∀ {vs : List V} {rs : List Rw} {i : Nat} {x : V}, Rows H vs rs → vs[i]? = some x → ∃ r, rs[i]? = some r ∧ IsRow H x r
  | _, _, _, _, .nil, e => by simp at e
  | _, _, 0, _, .cons r _, e => by simp at e; subst e; exact ⟨_, rfl, r⟩
  | _, _, i + 1, x, .cons _ t, e => by
    obtain ⟨u, h1, h2⟩ := Rows.at (i := i) (x := x) t (by simpa using e)
    exact ⟨u, by simpa using h1, h2⟩
theorem Rows.get {H : Hp} {vs : List V} {rs : List Rw} {i : Nat} {r : Rw} (h : Rows H vs rs) (e : rs[i]? = some r) : ∃ x, vs[i]? = some x ∧ IsRow H x r := by
  have hi : i < vs.length := by
    rw [h.len]
    exact (List.getElem?_eq_some_iff.mp e).1
  obtain ⟨r', e', q⟩ := h.at (List.getElem?_eq_getElem hi)
  rw [e] at e'
  cases e'
  exact ⟨_, List.getElem?_eq_getElem hi, q⟩
theorem Rows.dropLast {H : Hp} : ∀ {vs : List V} {rs : List Rw}, Rows H vs rs → Rows H vs.dropLast rs.dropLast
  | _, _, .nil => .nil
  | _, _, .cons r .nil => .nil
  | _, _, .cons r (.cons r2 t) => .cons r (Rows.dropLast (.cons r2 t))
theorem Rows.take {H : Hp} : ∀ {vs : List V} {rs : List Rw} (n : Nat), Rows H vs rs → Rows H (vs.take n) (rs.take n)
  | _, _, 0, _ => .nil
  | _, _, _ + 1, .nil => .nil
  | _, _, n + 1, .cons r t => .cons r (Rows.take n t)
/-- the tuple of a row, from its tag on -/
theorem IsRow.tup {H : Hp} {v : V} {r : Rw} (h : IsRow H v r) : ∃ p xs, v = .ref p ∧ H p = some (.tup (.str r.tag :: xs)) := by
  cases r with
  | pick w ts => obtain ⟨p, q, h1, h2, _⟩ := h; exact ⟨p, _, h1, h2⟩
  | _ => obtain ⟨p, h1, h2⟩ := h; exact ⟨p, _, h1, h2⟩
/-- a list of rows at an address, a row given back -/
def LRows (rs : List Rw) : V → Hp → Prop := fun v H => ∃ p vs, v = .ref p ∧ H p = some (.lst vs) ∧ Rows H vs rs
def ARow (r : Rw) : V → Hp → Prop := fun v H => IsRow H v r
theorem at_get {xs : List V} {i : Int} (h0 : 0 ≤ i) (h1 : i < xs.length) : atI xs i = some (xs.getD i.toNat .non) := by
  have e : i = ((i.toNat : Nat) : Int) := by omega
  have h2 : i.toNat < xs.length := by omega
  rw [e]
  refine atI_nat ?_
  rw [List.getElem?_eq_getElem h2, Int.toNat_natCast, List.getD_eq_getElem?_getD, List.getElem?_eq_getElem h2]
  rfl
theorem atI_hd {v : V} {xs : List V} : atI (v :: xs) 0 = some v := atI_nat (j := 0) rfl
theorem at_strs (l : List Str) {i : Int} (h0 : 0 ≤ i) (h1 : i < l.length) : atI (l.map V.str) i = some (.str (l.getD i.toNat "")) := by
  have e : i = ((i.toNat : Nat) : Int) := by omega
  have h2 : i.toNat < l.length := by omega
  rw [e]
  refine atI_nat ?_
  rw [List.getElem?_map, List.getElem?_eq_getElem h2, Int.toNat_natCast, List.getD_eq_getElem?_getD, List.getElem?_eq_getElem h2]
  rfl
theorem at_ints (l : List Int) {i : Int} (h0 : 0 ≤ i) (h1 : i < l.length) : atI (l.map V.int) i = some (.int (l.getD i.toNat 0)) := by
  have e : i = ((i.toNat : Nat) : Int) := by omega
  have h2 : i.toNat < l.length := by omega
  rw [e]
  refine atI_nat ?_
  rw [List.getElem?_map, List.getElem?_eq_getElem h2, Int.toNat_natCast, List.getD_eq_getElem?_getD, List.getElem?_eq_getElem h2]
  rfl
/-! ### rows made -/
section
variable {K : PySem.W.Frag} {σ : L2.St} {H H' : Hp} {ta tb te tr tw tt : TE} {r : Rw} {rs ss : List Rw}
theorem er_nil : EvAP tNil σ H (fun vs H2 => Rows H2 vs []) := fun H1 _ _ q => q [] H1 (Ex.refl H1) .nil
theorem er_cons {tr : TA} (h : EvP te σ H (ARow r)) (h2 : EvAP tr σ H (fun vs H2 => Rows H2 vs rs)) : EvAP (tCons te tr) σ H (fun vs H2 => Rows H2 vs (r :: rs)) := fun H1 e _ q =>
  h H1 e _ fun v H2 e2 hv => h2 H2 (e.trans e2) _ fun vs H3 e3 hvs => q _ H3 (e2.trans e3) (.cons (IsRow.up e3 hv) hvs)
theorem elr_lst {ta : TA} (h : EvAP ta σ H (fun vs H2 => Rows H2 vs rs)) (hl : rs.length ≤ 100000) : EvP (tLst ta) σ H (LRows rs) := fun H1 e _ q =>
  h H1 e _ fun vs H2 e2 hv => ⟨sz_of (by rw [hv.len]; exact hl), fun p hp => q _ _ (e2.trans (Ex.new hp)) ⟨p, vs, rfl, upd_same, hv.up (Ex.new hp)⟩⟩
theorem LRows.up {v : V} (e : Ex H H') (h : LRows rs v H) : LRows rs v H' := by
  obtain ⟨p, vs, h1, h2, h3⟩ := h
  exact ⟨p, vs, h1, e _ _ h2, h3.up e⟩
theorem elr_cat (ha : EvP ta σ H (LRows rs)) (hb : EvP tb σ H (LRows ss)) (hl : rs.length + ss.length ≤ 100000) : EvP (tOp rCat ta tb) σ H (LRows (rs ++ ss)) := fun H1 e Q q =>
  ha H1 e _ fun v H2 e2 hv => hb H2 (e.trans e2) _ fun u H3 e3 hu => by
    obtain ⟨p, vs, rfl, h1, h2⟩ := hv
    obtain ⟨p', us, rfl, h3, h4⟩ := hu
    refine ⟨p, p', vs, us, rfl, rfl, e3 _ _ h1, h3, sz_of (by rw [h2.len, h4.len]; exact hl), fun z hz => q _ _ (e2.trans (e3.trans (Ex.new hz))) ⟨z, _, rfl, upd_same, Rows.append ((h2.up e3).up (Ex.new hz)) (h4.up (Ex.new hz))⟩⟩
theorem er_var {i : Nat} {v : V} (h : σ[i]? = some (some v)) (hr : IsRow H v r) : EvP (tVar i) σ H (ARow r) := fun H1 e Q q => ⟨v, h, q v H1 (Ex.refl H1) (hr.up e)⟩
theorem elr_var {i : Nat} {v : V} (h : σ[i]? = some (some v)) (hr : LRows rs v H) : EvP (tVar i) σ H (LRows rs) := fun H1 e Q q => ⟨v, h, q v H1 (Ex.refl H1) (hr.up e)⟩
theorem er_tup {ta : TA} {xs : List V} (h : EvA ta σ H xs) (hl : xs.length ≤ 100000) (k : ∀ p H2, H2 p = some (.tup xs) → IsRow H2 (.ref p) r) : EvP (tTup ta) σ H (ARow r) := fun H1 e _ q =>
  h H1 e _ fun H2 e2 => ⟨sz_of hl, fun p hp => q _ _ (e2.trans (Ex.new hp)) (k p _ upd_same)⟩
theorem er_lendT {ta : TA} {h k : Str} {n : Int} (a : EvA ta σ H [.str "lend", .str h, .str k, .int n]) : EvP (tTup ta) σ H (ARow (.lend h k (.thing n))) := er_tup a (Nat.le_of_ble_eq_true rfl) fun p _ e => ⟨p, rfl, e⟩
theorem er_lendW {ta : TA} {h k : Str} {n : Str} (a : EvA ta σ H [.str "lend", .str h, .str k, .str n]) : EvP (tTup ta) σ H (ARow (.lend h k (.word n))) := er_tup a (Nat.le_of_ble_eq_true rfl) fun p _ e => ⟨p, rfl, e⟩
theorem er_either {ta : TA} (a : EvA ta σ H [.str "either"]) : EvP (tTup ta) σ H (ARow .either) := er_tup a (Nat.le_of_ble_eq_true rfl) fun p _ e => ⟨p, rfl, e⟩
theorem er_or {ta : TA} (a : EvA ta σ H [.str "or"]) : EvP (tTup ta) σ H (ARow .or) := er_tup a (Nat.le_of_ble_eq_true rfl) fun p _ e => ⟨p, rfl, e⟩
theorem er_again {ta : TA} (a : EvA ta σ H [.str "again"]) : EvP (tTup ta) σ H (ARow .again) := er_tup a (Nat.le_of_ble_eq_true rfl) fun p _ e => ⟨p, rfl, e⟩
theorem er_fin {ta : TA} (a : EvA ta σ H [.str "end"]) : EvP (tTup ta) σ H (ARow .fin) := er_tup a (Nat.le_of_ble_eq_true rfl) fun p _ e => ⟨p, rfl, e⟩
theorem er_back {ta : TA} {h : Str} (a : EvA ta σ H [.str "back", .str h]) : EvP (tTup ta) σ H (ARow (.back h)) := er_tup a (Nat.le_of_ble_eq_true rfl) fun p _ e => ⟨p, rfl, e⟩
theorem er_look {ta : TA} {h : Str} (a : EvA ta σ H [.str "look", .str h]) : EvP (tTup ta) σ H (ARow (.look h)) := er_tup a (Nat.le_of_ble_eq_true rfl) fun p _ e => ⟨p, rfl, e⟩
theorem er_change {ta : TA} {h : Str} (a : EvA ta σ H [.str "change", .str h]) : EvP (tTup ta) σ H (ARow (.change h)) := er_tup a (Nat.le_of_ble_eq_true rfl) fun p _ e => ⟨p, rfl, e⟩
theorem er_pick {tt : TA} {w : Str} {vs : List V} {ts : List Int} (a : Ev tw σ H (.str w)) (b : EvA tt σ H vs) (e : vs = ts.map V.int) (hl : vs.length ≤ 100000) : EvP (tTup (tCons (tC (.str "pick")) (tCons tw (tCons (tTup tt) tNil)))) σ H (ARow (.pick w ts)) := fun H1 e1 _ q =>
  a H1 e1 _ fun H2 e2 => b H2 (e1.trans e2) _ fun H3 e3 => ⟨sz_of hl, fun y hy => ⟨by show 3 ≤ sizeLine; decide, fun x hx => q _ _ (((e2.trans e3).trans (Ex.new hy)).trans (Ex.new hx)) ⟨x, y, rfl, upd_same, by
    subst e
    exact Ex.new hx _ _ upd_same⟩⟩⟩
end
def rTupS (K : PySem.W.Frag) : List V → Hp → VK → Prop := fun xs H Q => ∃ p ys, xs = [.ref p] ∧ ((SqL K H p ys ∧ ∀ l, H l = none → Q (.ref l) (upd H l (.tup ys))) ∨ (SqT K H p ys ∧ Q (.ref p) H))
section
variable {K : PySem.W.Frag} {σ : L2.St} {H H' : Hp} {ta tb te tr tw tl : TE} {t : TT} {r : Rw} {rs ss : List Rw}
theorem eu_tuple {xs : List V} (h : EvL ta σ H xs) : EvU (tCB (rTupS K) (tCons ta tNil)) σ H xs := fun H1 e Q q =>
  h H1 e _ fun p H2 hp e2 h2 => ⟨p, xs, rfl, .inl ⟨sq_of h2, fun l hl => q l _ (fresh_back e2 hl) (e2.trans (Ex.new hl)) upd_same⟩⟩
theorem et_yes : EvT tYes σ H true := fun H1 _ Q q => q H1 (Ex.refl H1)
theorem er_pickV {ta : TA} {w : Str} {q : Addr} {ts : List Int} (a : EvA ta σ H [.str "pick", .str w, .ref q]) (hq : H q = some (.tup (ts.map V.int))) : EvP (tTup ta) σ H (ARow (.pick w ts)) := fun H1 e1 _ k =>
  a H1 e1 _ fun H2 e2 => ⟨by show 3 ≤ sizeLine; decide, fun x hx => k _ _ (e2.trans (Ex.new hx)) ⟨x, q, rfl, upd_same, (Ex.new hx) _ _ ((e1.trans e2) _ _ hq)⟩⟩
theorem ev_tag {i : Nat} {x : V} (h : σ[i]? = some (some x)) (hr : IsRow H x r) : Ev (tOp (rIxT K) (tVar i) (tC (.int 0))) σ H (.str r.tag) := by
  obtain ⟨p, xs, rfl, hp⟩ := hr.tup
  exact ev_ixT (ev_var h) (st_of hp) ev_c (atI_nat (j := 0) rfl)
theorem given_rows {f : Nat → Bool} {v : Nat → V} {p : Rw → Bool} {vs : List V} (hR : Rows H vs rs) (hf : ∀ i r, rs[i]? = some r → f i = p r) (hv : ∀ i x, vs[i]? = some x → v i = x) : ∀ n, n ≤ rs.length → Rows H (given n f v) ((rs.take n).filter p)
  | 0, _ => .nil
  | n + 1, h => by
    have hn : n < rs.length := h
    obtain ⟨x, hx, hX⟩ := hR.get (List.getElem?_eq_getElem hn)
    have ih := given_rows hR hf hv n (by omega)
    have e1 : f n = p rs[n] := hf n _ (List.getElem?_eq_getElem hn)
    rw [List.take_add_one, List.getElem?_eq_getElem hn, List.filter_append]
    cases hp : p rs[n] with
    | true =>
      rw [given_yes (by rw [e1, hp]), hv n x hx]
      refine Rows.append ih ?_
      rw [show (some rs[n]).toList = [rs[n]] from rfl, List.filter_cons, if_pos hp]
      exact .cons hX .nil
    | false =>
      rw [given_no (by rw [e1, hp])]
      rw [show (some rs[n]).toList = [rs[n]] from rfl, List.filter_cons, if_neg (by rw [hp]; decide)]
      show Rows H _ (_ ++ [])
      rw [List.append_nil]
      exact ih
/-- [x for x in rows if p x] -/
theorem elr_filter {a : Addr} {vs : List V} {j : Nat} {ws : List Nat} {p : Rw → Bool} (h : Ev tl σ H (.ref a)) (hx : SqL K H a vs) (hR : Rows H vs rs) (hz : vs.length ≤ 40000) (hw : ∀ x, wipe ((wipe σ ws).set j (some x)) ws = wipe σ ws)
    (ht : ∀ x r H1, Ex H H1 → IsRow H1 x r → EvT t ((wipe σ ws).set j (some x)) H1 (p r)) (hj : ∀ x, ((wipe σ ws).set j (some x))[j]? = some (some x)) :
    ∃ us, EvL (tLc (iList K tl) (gName j) t (tVar j) ws) σ H us ∧ Rows H us (rs.filter p) := by
  have hl := hR.len
  refine ⟨given vs.length (fun i => p (rs.getD i .fin)) (fun i => vs.getD i .non), el_lcL _ _ h hx hz hw (fun i x H1 e hi => ?_) (fun i x H1 e hi _ => ?_), ?_⟩
  · obtain ⟨r, hr, hX⟩ := hR.at hi
    rw [List.getD_eq_getElem?_getD, hr]
    exact ht x r H1 e (hX.up e)
  · rw [List.getD_eq_getElem?_getD, hi]
    exact ev_var (hj x)
  · have := given_rows (f := fun i => p (rs.getD i .fin)) (v := fun i => vs.getD i .non) (p := p) hR (fun i r hr => by rw [List.getD_eq_getElem?_getD, hr]; rfl) (fun i x hx => by rw [List.getD_eq_getElem?_getD, hx]; rfl) rs.length (Nat.le_refl _)
    rw [List.take_length] at this
    rw [hl]
    exact this
end
section
variable {K : PySem.W.Frag} {σ : L2.St} {H H' : Hp} {ta tb te tr tw tl : TE} {t : TT} {r : Rw} {rs ss : List Rw} {D : Ends} {tz : TS}
theorem epl_filter (p : Rw → Bool) {a : Addr} {vs : List V} {j : Nat} {ws : List Nat} (h : Ev tl σ H (.ref a)) (hx : SqL K H a vs) (hR : Rows H vs rs) (hz : vs.length ≤ 40000) (hw : ∀ x, wipe ((wipe σ ws).set j (some x)) ws = wipe σ ws)
    (ht : ∀ x r H1, Ex H H1 → IsRow H1 x r → EvT t ((wipe σ ws).set j (some x)) H1 (p r)) (hj : ∀ x, ((wipe σ ws).set j (some x))[j]? = some (some x)) :
    EvPL (tLc (iList K tl) (gName j) t (tVar j) ws) σ H (fun us H2 => Rows H2 us (rs.filter p)) := fun H1 e Q q => by
  obtain ⟨us, h1, h2⟩ := elr_filter h hx hR hz hw ht hj
  exact h1 H1 e Q fun p H2 hp e2 hq => q p us H2 hp e2 hq (h2.up (e.trans e2))
theorem q_asgPL {i : Nat} {R : List V → Hp → Prop} (h : EvPL te σ H R) (k : ∀ p us H1, H p = none → Ex H H1 → H1 p = some (.lst us) → R us H1 → tz D (σ.set i (some (.ref p))) H1) : tSeq (tAsg te (gName i)) tz D σ H :=
  h H (Ex.refl H) _ fun p us H1 hp e h1 hr => k p us H1 hp e h1 hr
end
section
variable {K : PySem.W.Frag} {σ : L2.St} {H H' : Hp} {ta tb te tr tw tl : TE} {t : TT} {r : Rw} {rs ss : List Rw} {D : Ends} {tz : TS}
theorem s_asgPL {i : Nat} {R : List V → Hp → Prop} (h : EvPL te σ H R) (k : ∀ p us H1, H p = none → Ex H H1 → H1 p = some (.lst us) → R us H1 → D.nx (σ.set i (some (.ref p))) H1) : tAsg te (gName i) D σ H :=
  h H (Ex.refl H) _ fun p us H1 hp e h1 hr => k p us H1 hp e h1 hr
theorem elr_catL (ha : EvP ta σ H (LRows rs)) (hb : EvP tb σ H (LRows ss)) (hl : rs.length + ss.length ≤ 100000) : EvPL (tOp rCat ta tb) σ H (fun us H2 => Rows H2 us (rs ++ ss)) := fun H1 e Q q =>
  ha H1 e _ fun v H2 e2 hv => hb H2 (e.trans e2) _ fun u H3 e3 hu => by
    obtain ⟨p, vs, rfl, h1, h2⟩ := hv
    obtain ⟨p', us, rfl, h3, h4⟩ := hu
    refine ⟨p, p', vs, us, rfl, rfl, e3 _ _ h1, h3, sz_of (by rw [h2.len, h4.len]; exact hl), fun z hz => q z _ _ (fresh_back (e2.trans e3) hz) (e2.trans (e3.trans (Ex.new hz))) upd_same (Rows.append ((h2.up e3).up (Ex.new hz)) (h4.up (Ex.new hz)))⟩
theorem ep_PL {rs : List Rw} (h : EvPL te σ H (fun us H2 => Rows H2 us rs)) : EvP te σ H (LRows rs) := fun H1 e Q q => h H1 e Q fun p us H2 _ e2 h2 hr => q _ H2 e2 ⟨p, us, rfl, h2, hr⟩
theorem s_pop {l : Addr} {xs : List V} (hl : H l = some (.lst xs)) (ha : Ev ta σ H (.ref l)) (hz : 0 < xs.length) (k : ∀ H1, Ex H H1 → D.nx σ (upd H1 l (.lst xs.dropLast))) : tDrop (tBM0 K "list" rPop ta) D σ H := ha H (Ex.refl H) _ fun H1 e1 =>
  ⟨Or.inl ⟨rfl, xs, sq_of (e1 l _ hl)⟩, l, xs, xs[xs.length - 1]'(by omega), rfl, rfl, e1 l _ hl, List.getElem?_eq_getElem (by omega), k H1 e1⟩
theorem q_pop {l : Addr} {xs : List V} (hl : H l = some (.lst xs)) (ha : Ev ta σ H (.ref l)) (hz : 0 < xs.length) (k : ∀ H1, Ex H H1 → tz D σ (upd H1 l (.lst xs.dropLast))) : tSeq (tDrop (tBM0 K "list" rPop ta)) tz D σ H := s_pop (D := { D with nx := tz D }) hl ha hz k
/-- [row for x in xs], a new row each -/
theorem epl_map {a : Addr} {xs : List V} {j : Nat} {ws : List Nat} (g : Nat → Rw) (h : Ev tl σ H (.ref a)) (hx : SqL K H a xs) (hz : xs.length ≤ 40000) (hw : ∀ x, wipe ((wipe σ ws).set j (some x)) ws = wipe σ ws)
    (he : ∀ i x H1, Ex H H1 → xs[i]? = some x → EvP te ((wipe σ ws).set j (some x)) H1 (ARow (g i))) : EvPL (tLc (iList K tl) (gName j) tYes te ws) σ H (fun us H2 => Rows H2 us ((List.range xs.length).map g)) := fun H0 e Q q => h H0 e _ fun H1 e1 => ⟨a, rfl, ⟨xs, ex_l (e.trans e1) hx⟩, fun Dl hD =>
  lc_list (K := K) (a := a) (xs := xs) (fun i H' => H1 Dl = none ∧ Ex H1 H' ∧ ∃ acc, H' Dl = some (.lst acc) ∧ Rows H' acc ((List.range i).map g)) ⟨hD, Ex.new hD, [], upd_same, .nil⟩ (fun i H' _ p => ex_l ((e.trans e1).trans p.2.1) hx)
    (fun i x H' hi p => ⟨hw x, by
      obtain ⟨p1, p2, acc, p3, p4⟩ := p
      have hil : i < xs.length := (List.getElem?_eq_some_iff.mp hi).1
      have hal : acc.length = i := by rw [p4.len, List.length_map, List.length_range]
      show te ((wipe σ ws).set j (some x)) H' fun y H4 => ∃ acc, H4 Dl = some (.lst acc) ∧ acc.length < sizeLine ∧ (H1 Dl = none ∧ Ex H1 (upd H4 Dl (.lst (acc ++ [y]))) ∧ ∃ acc2, (upd H4 Dl (.lst (acc ++ [y]))) Dl = some (.lst acc2) ∧ Rows (upd H4 Dl (.lst (acc ++ [y]))) acc2 ((List.range (i + 1)).map g))
      refine he i x H' ((e.trans e1).trans p2) hi H' (Ex.refl H') _ fun y H4 e4 hy => ⟨acc, e4 _ _ p3, sz_lt (by omega), p1, Ex.mut (p2.trans e4) p1, acc ++ [y], upd_same, ?_⟩
      have x4 : ExT H4 (upd H4 Dl (.lst (acc ++ [y]))) := ExT.lst (e4 _ _ p3)
      rw [List.range_succ, List.map_append]
      exact Rows.append ((p4.up e4).upT x4) (.cons (IsRow.upT x4 hy) .nil)⟩) (fun H' p => by
      obtain ⟨p1, p2, acc, p3, p4⟩ := p
      exact q Dl acc H' (fresh_back e1 p1) (e1.trans p2) p3 p4)⟩
end
section
variable {K : PySem.W.Frag} {σ : L2.St} {H H' : Hp} {ta tb te tr tw tl : TE} {t : TT} {r : Rw} {rs ss : List Rw} {D : Ends} {tz tu : TS}
/-- for i, x in enumerate(xs) -/
theorem q_forE {a : Addr} {xs : List V} {j k : Nat} (h : Ev tl σ H (.ref a)) (hx : SqL K H a xs) (Pv : Nat → L2.St → Hp → Prop) (h0 : ∀ H1, Ex H H1 → Pv 0 σ H1) (hl : ∀ i σ' H', i ≤ xs.length → Pv i σ' H' → SqL K H' a xs)
    (hs : ∀ (i : Nat) x σ' H' H2, xs[i]? = some x → Pv i σ' H' → Ex H' H2 → tu { D with nx := Pv (i + 1), ct := Pv (i + 1), bk := tz D } ((σ'.set j (some (.int (i : Int)))).set k (some x)) H2) (hd : ∀ σ' H', Pv xs.length σ' H' → tz D σ' H') :
    tSeq (tFor (iEnum K (tCons tl tNil)) (gTup K 2 (gCons (gName j) (gCons (gName k) gNil))) tu) tz D σ H :=
  h H (Ex.refl H) _ fun H1 e => ⟨a, xs, rfl, ex_l e hx, for_it (D := { D with nx := tz D }) walk_enum Pv (h0 H1 e) hl (fun i v σ' H' H2 hi p y => by
    obtain ⟨T, x1, x2, rfl, hT, rfl, e1, e2⟩ := y
    cases e1
    exact ⟨T, [.int (i : Int), x2], rfl, SqT.of upd_same, rfl, _, _, rfl, _, _, rfl, rfl, hs i x2 σ' H' _ e2 p (Ex.new hT)⟩) hd⟩
theorem q_forEN {xs : List V} {j k : Nat} (h : EvL tl σ H xs) (Pv : Addr → Nat → L2.St → Hp → Prop) (h0 : ∀ p H1, H p = none → Ex H H1 → H1 p = some (.lst xs) → Pv p 0 σ H1) (hl : ∀ p i σ' H', i ≤ xs.length → Pv p i σ' H' → SqL K H' p xs)
    (hs : ∀ p (i : Nat) x σ' H' H2, xs[i]? = some x → Pv p i σ' H' → Ex H' H2 → tu { D with nx := Pv p (i + 1), ct := Pv p (i + 1), bk := tz D } ((σ'.set j (some (.int (i : Int)))).set k (some x)) H2) (hd : ∀ p σ' H', Pv p xs.length σ' H' → tz D σ' H') :
    tSeq (tFor (iEnum K (tCons tl tNil)) (gTup K 2 (gCons (gName j) (gCons (gName k) gNil))) tu) tz D σ H :=
  h H (Ex.refl H) _ fun p H1 hp e h1 => ⟨p, xs, rfl, sq_of h1, for_it (D := { D with nx := tz D }) walk_enum (Pv p) (h0 p H1 hp e h1) (hl p) (fun i v σ' H' H2 hi q y => by
    obtain ⟨T, x1, x2, rfl, hT, rfl, e1, e2⟩ := y
    cases e1
    exact ⟨T, [.int (i : Int), x2], rfl, SqT.of upd_same, rfl, _, _, rfl, _, _, rfl, rfl, hs p i x2 σ' H' _ e2 q (Ex.new hT)⟩) (hd p)⟩
end
theorem given_all (n : Nat) (v : Nat → V) : given n (fun _ => true) v = (List.range n).map v := by
  unfold given
  rw [List.filter_eq_self.mpr (fun _ _ => rfl)]
theorem tag_named (r : Rw) : inV (.str r.tag) [V.str "lend", V.str "pick"] = r.named := by cases r <;> rfl
theorem tag_opens (r : Rw) : inV (.str r.tag) [V.str "lend", V.str "pick", V.str "either", V.str "again"] = r.opens := by cases r <;> rfl
theorem tag_lend (r : Rw) : decide (V.str r.tag = V.str "lend") = r.isLend := by cases r <;> rfl
theorem tag_fin (r : Rw) : decide (V.str r.tag = V.str "end") = r.isFin := by cases r <;> rfl
theorem tag_or (r : Rw) : decide (V.str r.tag = V.str "or") = r.isOr := by cases r <;> rfl
theorem tag_either (r : Rw) : decide (V.str r.tag = V.str "either") = r.isEither := by cases r <;> rfl
theorem rows_last {H : Hp} {vs : List V} {rs : List Rw} (h : Rows H vs rs) (h1 : 0 < vs.length) : ∃ x, atI vs (-1) = some x ∧ IsRow H x (rs.getD (rs.length - 1) .fin) := by
  have hl := h.len
  have h2 : rs.length - 1 < rs.length := by omega
  obtain ⟨x, hx, hr⟩ := h.get (List.getElem?_eq_getElem h2)
  have hne : vs ≠ [] := fun z => by
    subst z
    simp at h1
  refine ⟨x, ?_, ?_⟩
  · have e : vs = vs.dropLast ++ [x] := by
      have h3 := List.dropLast_concat_getLast hne
      have h4 : vs.getLast hne = x := by
        rw [List.getLast_eq_getElem]
        have := (List.getElem?_eq_some_iff.mp hx).2
        rw [← this]
        congr 1
        omega
      rw [h4] at h3
      exact h3.symm
    rw [e]
    exact atI_last _ _
  · rw [List.getD_eq_getElem?_getD, List.getElem?_eq_getElem h2]
    exact hr
/-! ### menus -/
def kindM (x : Int) : Str := if x % 2 = 0 then "read" else "write"
def pick2 {α : Type} (x : Int) (a b : α) : α := if x % 2 = 0 then a else b
def pick3 {α : Type} (x : Int) (a b c : α) : α := if x % 3 = 0 then a else if x % 3 = 1 then b else c
theorem at_nat' {xs : List V} {z : Int} (j : Nat) {v : V} (e : z = (j : Int)) (h : xs[j]? = some v) : atI xs z = some v := by
  rw [e]
  exact atI_nat h
theorem at_kind {x : Int} : atI [V.str "read", V.str "write"] (x % 2) = some (V.str (kindM x)) := by
  unfold kindM
  by_cases h : x % 2 = 0
  · rw [if_pos h]; exact at_nat' 0 (by omega) rfl
  · rw [if_neg h]; exact at_nat' 1 (by omega) rfl
theorem at2s {a b : Str} {x : Int} : atI [V.str a, V.str b] (x % 2) = some (V.str (pick2 x a b)) := by
  unfold pick2
  by_cases h : x % 2 = 0
  · rw [if_pos h]; exact at_nat' 0 (by omega) rfl
  · rw [if_neg h]; exact at_nat' 1 (by omega) rfl
theorem at3s {a b c : Str} {x : Int} : atI [V.str a, V.str b, V.str c] (x % 3) = some (V.str (pick3 x a b c)) := by
  unfold pick3
  by_cases h : x % 3 = 0
  · rw [if_pos h]; exact at_nat' 0 (by omega) rfl
  · rw [if_neg h]
    by_cases h2 : x % 3 = 1
    · rw [if_pos h2]; exact at_nat' 1 (by omega) rfl
    · rw [if_neg h2]; exact at_nat' 2 (by omega) rfl
theorem at3i {a b c : Int} {x : Int} : atI [V.int a, V.int b, V.int c] (x % 3) = some (V.int (pick3 x a b c)) := by
  unfold pick3
  by_cases h : x % 3 = 0
  · rw [if_pos h]; exact at_nat' 0 (by omega) rfl
  · rw [if_neg h]
    by_cases h2 : x % 3 = 1
    · rw [if_pos h2]; exact at_nat' 1 (by omega) rfl
    · rw [if_neg h2]; exact at_nat' 2 (by omega) rfl
theorem dp_ints {K : PySem.W.Frag} {H : Hp} : ∀ ns : List Int, DpAll K H (ns.map V.int) (ns.map PyData.int)
  | [] => .nil
  | n :: r => .cons (.int n) (dp_ints r)
end BD
namespace BD
open PySem PySem.Spec PyProof.Rows L2 Evl
def topS (i : Nat) : Stmt := PySem.Challenge.pw_borrowdesk_k04_what_is_wrong.main.body.getD i (.Pass ⟨0, 0, 0, 0⟩)
local macro_rules | `(tactic| walk_at "ev") => `(tactic| first
  | ((with_reducible apply ev_var) ; rfl)
  | with_reducible exact ev_c
  | ((with_reducible apply ev_I0) <;> walk_at "ev")
  | ((with_reducible apply ev_e9) <;> walk_at "ev")
  | ((with_reducible apply ev_I) <;> walk_at "ev")
  | ((with_reducible apply ev_eq) <;> walk_at "ev")
  | ((with_reducible apply ev_ne) <;> walk_at "ev")
  | ((with_reducible apply ev_neg) <;> walk_at "ev")
  | ((with_reducible apply ev_ixN) <;> walk_at "ev")
  | ((with_reducible apply ev_ixL) <;> walk_at "ev")
  | ((with_reducible apply ev_inN) <;> walk_at "ev")
  | ((with_reducible apply ev_inT) <;> walk_at "ev")
  | ((with_reducible apply ev_ixT) <;> walk_at "ev")
  | ((with_reducible apply ev_ixS) <;> walk_at "ev")
  | ((with_reducible apply ev_len') <;> walk_at "ev")
  | ((with_reducible apply et_test) <;> walk_at "ev")
  | ((with_reducible apply et_and) <;> walk_at "ev")
  | ((with_reducible apply et_or) <;> walk_at "ev")
  | ((with_reducible apply et_not) <;> walk_at "ev")
  | ((with_reducible apply et_B) <;> walk_at "ev")
  | ((with_reducible apply el_lst) <;> walk_at "ev")
  | ((with_reducible apply eu_tup) <;> walk_at "ev")
  | ((with_reducible apply ea_cons) <;> walk_at "ev")
  | with_reducible exact ea_nil
  | with_reducible assumption
  | ((with_reducible apply ex_l' ; assumption) ; walk_at "ex")
  | ((with_reducible apply ex_t' ; assumption) ; walk_at "ex")
  | (intro _ ; walk_at "ev")
  | (with_reducible first | exact atI_hd | exact at_kind | exact at2s | exact at3s | exact at3i)
  | (first | exact rfl | exact Nat.le_of_ble_eq_true rfl | exact ⟨by decide, by decide⟩ | decide | exact Or.inl ⟨by omega, by omega⟩ | exact Or.inr ⟨by omega, by omega⟩ | omega)
  | skip)
local macro_rules | `(tactic| walk_at "ex") => `(tactic| first
  | assumption
  | exact Ex.refl _
  | (refine' Ex.trans ?_ (by assumption) ; walk_at "ex"))
local macro_rules | `(tactic| walk_at "row") => `(tactic| first
  | (with_reducible exact er_nil)
  | ((with_reducible apply er_cons) <;> walk_at "row")
  | (((with_reducible apply er_var) ; rfl) ; walk_at "isrow")
  | (((with_reducible apply elr_var) ; rfl) ; walk_at "isrow")
  | ((with_reducible apply elr_cat) <;> walk_at "row")
  | ((with_reducible apply elr_lst) <;> walk_at "row")
  | ((with_reducible apply er_fin) <;> walk_at "ev")
  | ((with_reducible apply er_lendT) <;> walk_at "ev")
  | ((with_reducible apply er_lendW) <;> walk_at "ev")
  | ((with_reducible apply er_pick) <;> walk_at "ev")
  | ((with_reducible apply er_either) <;> walk_at "ev")
  | ((with_reducible apply er_or) <;> walk_at "ev")
  | ((with_reducible apply er_again) <;> walk_at "ev")
  | ((with_reducible apply er_back) <;> walk_at "ev")
  | ((with_reducible apply er_look) <;> walk_at "ev")
  | ((with_reducible apply er_change) <;> walk_at "ev")
  | exact Nat.le_of_ble_eq_true rfl
  | skip)
local macro_rules | `(tactic| walk_at "isrow") => `(tactic| first
  | assumption
  | (refine IsRow.up ?_ (by assumption) ; walk_at "ex")
  | (refine LRows.up ?_ (by assumption) ; walk_at "ex"))

abbrev s_l_cell_at : Stmt := topS 9
theorem sc_l_cell_at : FnScope ["_law_script", "_law_k"] ["_law_script", "_law_k"] (defScope s_l_cell_at) := ⟨rfl, rfl, rfl, by decide +kernel, rfl, by decide +kernel, by decide +kernel⟩
abbrev s_l_thing : Stmt := topS 12
theorem sc_l_thing : FnScope ["_law_cell", "_law_base"] ["_law_cell", "_law_base"] (defScope s_l_thing) := ⟨rfl, rfl, rfl, by decide +kernel, rfl, by decide +kernel, by decide +kernel⟩
abbrev s_l_draw : Stmt := topS 11
theorem sc_l_draw : FnScope ["_law_script", "_law_base", "_law_style", "_law_size"] ["_law_script"] (defScope s_l_draw) := ⟨rfl, rfl, rfl, by decide +kernel, rfl, by decide +kernel, by decide +kernel⟩
section
variable {P : Program} {w : World} {K : PySem.W.Frag} {mg : Str → Option Value} {base : Heap}
def cellM (ns : List Int) (k : Int) : Int := ns.getD k.toNat 0
def spCell (K : PySem.W.Frag) : Sp := fun vs H Q _ => ∃ (a : Addr) (ns : List Int) (k : Int), vs = [.ref a, .int k] ∧ SqL K H a (ns.map V.int) ∧ 0 ≤ k ∧ RetV (.int (cellM ns k)) H Q
theorem ok_cell (D : Dn K mg "_law_cell_at" s_l_cell_at ["_law_script", "_law_k"]) (T : Blt mg) : Has P w K mg base "_law_cell_at" 1 ["_law_script", "_law_k"] (spCell K) := by
  refine D.ok sc_l_cell_at (fun vs H Q E h => ?_) (fun f cdv A outer s H vs Q E hr h => ?_)
  · obtain ⟨a, ns, k, rfl, _⟩ := h
    rfl
  · obtain ⟨a, ns, k, rfl, hS, h0, q⟩ := h
    refine ⟨_, (pss_cons (ps_if (pt_cmpR op_lt (pv 1) (pe_callB (show CallR _ _ (rLenS K) from call_len_seq) (by rfl) T.len_ (by decide +kernel) (pa_cons (pv 0) pa_nil)) (nomark _)) (pss_one (ps_ret (pe_ix (show IxR _ (rIxL K) from ix_list) (pv 0) (pv 1) (fun _ _ => rfl)))) pss_nil) (pss_one (ps_ret pe_int))), ?_⟩
    refine q_when (b := decide (k < ((ns.map V.int).length : Int))) ?_ (fun hb H1 e1 => ?_) (fun hb H1 e1 => ?_)
    · walk_at "ev"
    · have hb := of_decide_eq_true hb
      have hS := ex_l e1 hS
      refine s_ret (v := .int (cellM ns k)) ?_ (fun H2 e2 => q _ (e1.trans e2))
      rw [List.length_map] at hb
      walk_at "ev"
      exact at_ints ns h0 hb
    · have hb := of_decide_eq_false hb
      rw [List.length_map] at hb
      refine s_ret (v := .int 0) ?_ (fun H2 e2 => ?_)
      · walk_at "ev"
      · have := q H2 (e1.trans e2)
        unfold cellM at this
        rw [List.getD_eq_getElem?_getD, List.getElem?_eq_none (by omega)] at this
        exact this
theorem sp_cell {a : Addr} {ns : List Int} {k : Int} {H : Hp} (hS : SqL K H a (ns.map V.int)) (h0 : 0 ≤ k) : SpV (spCell K) [.ref a, .int k] H (.int (cellM ns k)) := fun H1 e Q q E =>
  ⟨a, ns, k, rfl, ex_l e hS, h0, q⟩
theorem ev_cell {a : Addr} {ns : List Int} {k : Int} {ta : TA} {σ : L2.St} {H : Hp} {E : XK} (h : EvA ta σ H [.ref a, .int k]) (hS : SqL K H a (ns.map V.int)) (h0 : 0 ≤ k) : Ev (tCall (spCell K) [] E ta) σ H (.int (cellM ns k)) :=
  ev_call h (sp_cell hS h0)
local macro_rules | `(tactic| walk_at "ev") => `(tactic| ((with_reducible apply ev_cell) <;> walk_at "ev"))
def thingM (c b : Int) : Int := if c % 8 = 7 then c / 8 % 1000000000 else (b + c % 3) % 1000000000
def spThing : Sp := fun vs H Q _ => ∃ (c b : Int), vs = [.int c, .int b] ∧ RetV (.int (thingM c b)) H Q
theorem ok_thing (D : Dn K mg "_law_thing" s_l_thing ["_law_cell", "_law_base"]) : Has P w K mg base "_law_thing" 1 ["_law_cell", "_law_base"] spThing := by
  refine D.ok sc_l_thing (fun vs H Q E h => ?_) (fun f cdv A outer s H vs Q E hr h => ?_)
  · obtain ⟨c, b, rfl, _⟩ := h
    rfl
  · obtain ⟨c, b, rfl, q⟩ := h
    refine ⟨_, (pss_cons (ps_if (pt_cmpR op_eq (pe_op op_mod (pv 0) pe_int) pe_int (nomark _)) (pss_one (ps_ret (pe_op op_mod (pe_op op_fdiv (pv 0) pe_int) (pe_op op_pow pe_int pe_int)))) pss_nil) (pss_one (ps_ret (pe_op op_mod (pe_op op_add (pv 1) (pe_op op_mod (pv 0) pe_int)) (pe_op op_pow pe_int pe_int))))), ?_⟩
    unfold thingM at q
    refine q_when (b := decide ((V.int (c % 8)) = V.int 7)) ?_ (fun hb H1 e1 => ?_) (fun hb H1 e1 => ?_)
    · walk_at "ev"
    · have hb := V.int.inj (of_decide_eq_true hb)
      rw [if_pos hb] at q
      refine s_ret ?_ (fun H2 e2 => q _ (e1.trans e2))
      walk_at "ev"
    · have hb : ¬ c % 8 = 7 := fun z => of_decide_eq_false hb (by rw [z])
      rw [if_neg hb] at q
      refine s_ret ?_ (fun H2 e2 => q _ (e1.trans e2))
      walk_at "ev"
theorem sp_thing {c b : Int} {H : Hp} : SpV spThing [.int c, .int b] H (.int (thingM c b)) := fun H1 e Q q E => ⟨c, b, rfl, q⟩
structure Draw where
  base : Int
  style : Int
  size : Int
  place : Int
  sign : Int
def Draw.vs (d : Draw) : List V := [.int d.base, .int d.style, .int d.size, .int d.place, .int d.sign]
structure Draw.Ok (d : Draw) : Prop where
  st0 : 0 ≤ d.style
  st4 : d.style < 4
  sz1 : 1 ≤ d.size
  sz12 : d.size ≤ 12
  pl0 : 0 ≤ d.place
  pl1 : d.place < d.size
  sg0 : 0 ≤ d.sign
  sg26 : d.sign < 26
def drawM (ns : List Int) : Draw where
  base := cellM ns 1 / 2 % 1000000000 * (cellM ns 1 % 2)
  style := cellM ns 2 / 8 % 4
  size := 1 + cellM ns 2 / 8 / 4 % 12
  place := cellM ns 1 % (1 + cellM ns 2 / 8 / 4 % 12)
  sign := cellM ns 0 % 26
theorem drawM_ok (ns : List Int) : (drawM ns).Ok := by
  have h : 0 < 1 + cellM ns 2 / 8 / 4 % 12 := by omega
  exact ⟨by show 0 ≤ cellM ns 2 / 8 % 4; omega, by show cellM ns 2 / 8 % 4 < 4; omega, by show 1 ≤ 1 + cellM ns 2 / 8 / 4 % 12; omega, by show 1 + cellM ns 2 / 8 / 4 % 12 ≤ 12; omega,
    Int.emod_nonneg _ (by omega), Int.emod_lt_of_pos _ h, by show 0 ≤ cellM ns 0 % 26; omega, by show cellM ns 0 % 26 < 26; omega⟩
def spDraw (K : PySem.W.Frag) : Sp := fun vs H Q _ => ∃ (a : Addr) (ns : List Int), vs = [.ref a] ∧ SqL K H a (ns.map V.int) ∧ RetL (drawM ns).vs H Q
theorem ok_draw (D : Dn K mg "_law_draw" s_l_draw ["_law_script"]) (h_l_cell_at : Has P w K mg base "_law_cell_at" 1 ["_law_script", "_law_k"] (spCell K)) : Has P w K mg base "_law_draw" 2 ["_law_script"] (spDraw K) := by
  refine D.ok sc_l_draw (fun vs H Q E h => ?_) (fun f cdv A outer s H vs Q E hr h => ?_)
  · obtain ⟨a, ns, rfl, _⟩ := h
    rfl
  · obtain ⟨a, ns, rfl, hS, q⟩ := h
    refine ⟨_, (pss_cons (ps_set (i := 1) sc_l_draw.nd rfl (Or.inl rfl) (pe_op op_mul (pe_op op_mod (pe_op op_fdiv (pe_own h_l_cell_at (hr.mono (by decide)) (by rfl) (pa_cons (pv 0) (pa_cons pe_int pa_nil))) pe_int) (pe_op op_pow pe_int pe_int)) (pe_op op_mod (pe_own h_l_cell_at (hr.mono (by decide)) (by rfl) (pa_cons (pv 0) (pa_cons pe_int pa_nil))) pe_int))) (pss_cons (ps_set (i := 2) sc_l_draw.nd rfl (Or.inl rfl) (pe_op op_fdiv (pe_own h_l_cell_at (hr.mono (by decide)) (by rfl) (pa_cons (pv 0) (pa_cons pe_int pa_nil))) pe_int)) (pss_cons (ps_set (i := 3) sc_l_draw.nd rfl (Or.inl rfl) (pe_op op_add pe_int (pe_op op_mod (pe_op op_fdiv (pv 2) pe_int) pe_int))) (pss_one (ps_ret (pe_lst (pa_cons (pv 1) (pa_cons (pe_op op_mod (pv 2) pe_int) (pa_cons (pv 3) (pa_cons (pe_op op_mod (pe_own h_l_cell_at (hr.mono (by decide)) (by rfl) (pa_cons (pv 0) (pa_cons pe_int pa_nil))) (pv 3)) (pa_cons (pe_op op_mod (pe_own h_l_cell_at (hr.mono (by decide)) (by rfl) (pa_cons (pv 0) (pa_cons pe_int pa_nil))) pe_int) pa_nil))))))))))), ?_⟩
    have hp : (0 : Int) < 1 + cellM ns 2 / 8 / 4 % 12 := by omega
    refine' q_asg ?_ (fun H1 e1 => ?_)
    rotate_left 1
    · walk_at "ev"
    refine' q_asg ?_ (fun H2 e2 => ?_)
    rotate_left 1
    · walk_at "ev"
    refine' q_asg ?_ (fun H3 e3 => ?_)
    rotate_left 1
    · walk_at "ev"
    refine s_retL (xs := (drawM ns).vs) ?_ (fun p H4 hp e4 h4 => q p H4 (fresh_back (show Ex H H3 by walk_at "ex") hp) (show Ex H H4 by walk_at "ex") h4)
    show EvL _ _ _ [.int (cellM ns 1 / 2 % 1000000000 * (cellM ns 1 % 2)), .int (cellM ns 2 / 8 % 4), .int (1 + cellM ns 2 / 8 / 4 % 12), .int (cellM ns 1 % (1 + cellM ns 2 / 8 / 4 % 12)), .int (cellM ns 0 % 26)]
    walk_at "ev"
end
end BD
namespace BD
open PySem PySem.Spec PyProof.Rows L2 Evl
local macro_rules | `(tactic| walk_at "ev") => `(tactic| first
  | ((with_reducible apply ev_var) ; rfl)
  | with_reducible exact ev_c
  | ((with_reducible apply ev_I0) <;> walk_at "ev")
  | ((with_reducible apply ev_e9) <;> walk_at "ev")
  | ((with_reducible apply ev_I) <;> walk_at "ev")
  | ((with_reducible apply ev_eq) <;> walk_at "ev")
  | ((with_reducible apply ev_ne) <;> walk_at "ev")
  | ((with_reducible apply ev_neg) <;> walk_at "ev")
  | ((with_reducible apply ev_ixN) <;> walk_at "ev")
  | ((with_reducible apply ev_ixL) <;> walk_at "ev")
  | ((with_reducible apply ev_inN) <;> walk_at "ev")
  | ((with_reducible apply ev_inT) <;> walk_at "ev")
  | ((with_reducible apply ev_ixT) <;> walk_at "ev")
  | ((with_reducible apply ev_ixS) <;> walk_at "ev")
  | ((with_reducible apply ev_len') <;> walk_at "ev")
  | ((with_reducible apply et_test) <;> walk_at "ev")
  | ((with_reducible apply et_and) <;> walk_at "ev")
  | ((with_reducible apply et_or) <;> walk_at "ev")
  | ((with_reducible apply et_not) <;> walk_at "ev")
  | ((with_reducible apply et_B) <;> walk_at "ev")
  | ((with_reducible apply el_lst) <;> walk_at "ev")
  | ((with_reducible apply eu_tup) <;> walk_at "ev")
  | ((with_reducible apply ea_cons) <;> walk_at "ev")
  | with_reducible exact ea_nil
  | with_reducible assumption
  | ((with_reducible apply ex_l' ; assumption) ; walk_at "ex")
  | ((with_reducible apply ex_t' ; assumption) ; walk_at "ex")
  | (intro _ ; walk_at "ev")
  | (with_reducible first | exact atI_hd | exact at_kind | exact at2s | exact at3s | exact at3i)
  | (first | exact rfl | exact Nat.le_of_ble_eq_true rfl | exact ⟨by decide, by decide⟩ | decide | exact Or.inl ⟨by omega, by omega⟩ | exact Or.inr ⟨by omega, by omega⟩ | omega)
  | skip)
local macro_rules | `(tactic| walk_at "ex") => `(tactic| first
  | assumption
  | exact Ex.refl _
  | (refine' Ex.trans ?_ (by assumption) ; walk_at "ex"))
local macro_rules | `(tactic| walk_at "row") => `(tactic| first
  | (with_reducible exact er_nil)
  | ((with_reducible apply er_cons) <;> walk_at "row")
  | (((with_reducible apply er_var) ; rfl) ; walk_at "isrow")
  | (((with_reducible apply elr_var) ; rfl) ; walk_at "isrow")
  | ((with_reducible apply elr_cat) <;> walk_at "row")
  | ((with_reducible apply elr_lst) <;> walk_at "row")
  | ((with_reducible apply er_fin) <;> walk_at "ev")
  | ((with_reducible apply er_lendT) <;> walk_at "ev")
  | ((with_reducible apply er_lendW) <;> walk_at "ev")
  | ((with_reducible apply er_pick) <;> walk_at "ev")
  | ((with_reducible apply er_either) <;> walk_at "ev")
  | ((with_reducible apply er_or) <;> walk_at "ev")
  | ((with_reducible apply er_again) <;> walk_at "ev")
  | ((with_reducible apply er_back) <;> walk_at "ev")
  | ((with_reducible apply er_look) <;> walk_at "ev")
  | ((with_reducible apply er_change) <;> walk_at "ev")
  | exact Nat.le_of_ble_eq_true rfl
  | skip)
local macro_rules | `(tactic| walk_at "isrow") => `(tactic| first
  | assumption
  | (refine IsRow.up ?_ (by assumption) ; walk_at "ex")
  | (refine LRows.up ?_ (by assumption) ; walk_at "ex"))

abbrev s_l_word : Stmt := topS 10
theorem sc_l_word : FnScope ["_law_one", "_law_two", "_law_deep", "_law_draw_here", "_law_letters", "_law_sign", "_law_found", "_law_k"] ["_law_one", "_law_two", "_law_deep", "_law_draw_here"] (defScope s_l_word) := ⟨rfl, rfl, rfl, by decide +kernel, rfl, by decide +kernel, by decide +kernel⟩
section
variable {P : Program} {w : World} {K : PySem.W.Frag} {mg : Str → Option Value} {base : Heap}
def mkS (l : List Nat) : Str := ⟨l.toArray⟩
theorem mkS_app (a b : List Nat) : mkS a ++ mkS b = mkS (a ++ b) := by
  show (⟨a.toArray ++ b.toArray⟩ : Str) = ⟨(a ++ b).toArray⟩
  rw [List.append_toArray]
theorem mkS_len (a : List Nat) : (mkS a).length = a.length := by
  show a.toArray.size = a.length
  exact List.size_toArray
theorem letters_at {i : Int} (h0 : 0 ≤ i) (h1 : i < 26) : atI ("abcdefghijklmnopqrstuvwxyz" : Str).cps.toList i = some (97 + i.toNat) := by
  have e : ("abcdefghijklmnopqrstuvwxyz" : Str).cps.toList = (List.range 26).map (97 + ·) := by decide +kernel
  rw [e]
  have e2 : i = ((i.toNat : Nat) : Int) := by omega
  have h2 : i.toNat < 26 := by omega
  rw [e2]
  refine atI_nat ?_
  rw [List.getElem?_map, List.getElem?_range h2, Int.toNat_natCast]
  rfl
theorem letters_len : ("abcdefghijklmnopqrstuvwxyz" : Str).length ≤ 100000 := by decide +kernel
theorem ev_letter {ta tb : TE} {σ : L2.St} {H : Hp} {i : Int} (ha : Ev ta σ H (.str "abcdefghijklmnopqrstuvwxyz")) (hb : Ev tb σ H (.int i)) (h0 : 0 ≤ i) (h1 : i < 26) : Ev (tOp rIxS ta tb) σ H (.str (mkS [97 + i.toNat])) :=
  ev_ixS ha hb letters_len (letters_at h0 h1)
local macro_rules | `(tactic| walk_at "ev") => `(tactic| ((with_reducible apply ev_letter) <;> walk_at "ev"))
def chM (one two deep : Int) (d : Draw) (k : Nat) : Nat :=
  if (k : Int) = d.place then 97 + ((d.sign + 5 * deep) % 26).toNat else if d.style = 1 then 97 + ((one + (k : Int) * two) % 26).toNat else 97 + d.size.toNat
def wordM (one two deep : Int) (d : Draw) : Str :=
  if d.style = 0 then Txt.mul (mkS [97 + (d.sign % 26).toNat]) (deep + 1) else mkS ((List.range d.size.toNat).map (chM one two deep d))
def spWord (K : PySem.W.Frag) : Sp := fun vs H Q _ => ∃ (one two deep : Int) (a : Addr) (d : Draw), vs = [.int one, .int two, .int deep, .ref a] ∧ SqL K H a d.vs ∧ d.Ok ∧ 0 ≤ deep ∧ deep ≤ 20 ∧ RetV (.str (wordM one two deep d)) H Q
theorem dvs0 {d : Draw} : atI d.vs 0 = some (.int d.base) := rfl
theorem dvs1 {d : Draw} : atI d.vs 1 = some (.int d.style) := rfl
theorem dvs2 {d : Draw} : atI d.vs 2 = some (.int d.size) := rfl
theorem dvs3 {d : Draw} : atI d.vs 3 = some (.int d.place) := rfl
theorem dvs4 {d : Draw} : atI d.vs 4 = some (.int d.sign) := rfl
theorem mulOk1 {c : Nat} {n : Int} (h0 : 1 ≤ n) (h1 : n ≤ 100) : MulOk (mkS [c]) n := by
  refine ⟨?_, fun _ _ => ?_, fun _ _ => ?_⟩
  · rw [decide_eq_false (by omega), decide_eq_false (by omega)]
    rfl
  · rw [mkS_len]
    show ¬ ((1 : Nat) : Int) > (2 ^ 63 - 1) / n
    have h2 : n * 1 ≤ 2 ^ 63 - 1 := by omega
    have h3 : (1 : Int) ≤ (2 ^ 63 - 1) / n := by
      rw [Int.le_ediv_iff_mul_le (by omega)]
      omega
    omega
  · rw [mkS_len]
    show Builtin.Str.tooLong (1 * n.toNat) = false
    unfold Builtin.Str.tooLong
    exact decide_eq_false (by
      have h4 : n.toNat ≤ 100 := by omega
      have h5 : (100 : Nat) < sizeLine := by decide
      omega)
theorem ok_word (D : Dn K mg "_law_word" s_l_word ["_law_one", "_law_two", "_law_deep", "_law_draw_here"]) (T : Blt mg) : Has P w K mg base "_law_word" 1 ["_law_one", "_law_two", "_law_deep", "_law_draw_here"] (spWord K) := by
  refine D.ok sc_l_word (fun vs H Q E h => ?_) (fun f cdv A outer s H vs Q E hr h => ?_)
  · obtain ⟨one, two, deep, a, d, rfl, _⟩ := h
    rfl
  · obtain ⟨one, two, deep, a, d, rfl, hS, ok, hd0, hd1, q⟩ := h
    obtain ⟨st0, st4, sz1, sz12, pl0, pl1, sg0, sg26⟩ := ok
    refine ⟨_, (pss_cons (ps_set (i := 4) sc_l_word.nd rfl (Or.inl rfl) pe_str) (pss_cons (ps_set (i := 5) sc_l_word.nd rfl (Or.inl rfl) (pe_ix ix_str (pv 4) (pe_op op_mod (pe_op op_add (pe_ix (show IxR _ (rIxL K) from ix_list) (pv 3) pe_int (fun _ _ => rfl)) (pe_op op_mul pe_int (pv 2))) pe_int) (fun _ _ => rfl))) (pss_cons (ps_if (pt_cmpR op_eq (pe_ix (show IxR _ (rIxL K) from ix_list) (pv 3) pe_int (fun _ _ => rfl)) pe_int (nomark _)) (pss_one (ps_ret (pe_op op_repS (pe_ix ix_str (pv 4) (pe_op op_mod (pe_ix (show IxR _ (rIxL K) from ix_list) (pv 3) pe_int (fun _ _ => rfl)) pe_int) (fun _ _ => rfl)) (pe_op op_add (pv 2) pe_int)))) pss_nil) (pss_cons (ps_set (i := 6) sc_l_word.nd rfl (Or.inl rfl) pe_str) (pss_cons (ps_for PassesOwn.never rfl (pi_range1 (by rfl) T.range_ (pa_cons (pe_ix (show IxR _ (rIxL K) from ix_list) (pv 3) pe_int (fun _ _ => rfl)) pa_nil)) (pg_name (i := 7) sc_l_word.nd rfl (Or.inl rfl)) (pss_one (ps_if (pt_cmpR op_eq (pv 7) (pe_ix (show IxR _ (rIxL K) from ix_list) (pv 3) pe_int (fun _ _ => rfl)) (nomark _)) (pss_one (ps_set (i := 6) sc_l_word.nd rfl (Or.inl rfl) (pe_op op_addT (pv 6) (pv 5)))) (pss_one (ps_if (pt_cmpR op_eq (pe_ix (show IxR _ (rIxL K) from ix_list) (pv 3) pe_int (fun _ _ => rfl)) pe_int (nomark _)) (pss_one (ps_set (i := 6) sc_l_word.nd rfl (Or.inl rfl) (pe_op op_addT (pv 6) (pe_ix ix_str (pv 4) (pe_op op_mod (pe_op op_add (pv 0) (pe_op op_mul (pv 7) (pv 1))) pe_int) (fun _ _ => rfl))))) (pss_one (ps_set (i := 6) sc_l_word.nd rfl (Or.inl rfl) (pe_op op_addT (pv 6) (pe_ix ix_str (pv 4) (pe_ix (show IxR _ (rIxL K) from ix_list) (pv 3) pe_int (fun _ _ => rfl)) (fun _ _ => rfl)))))))))) (pss_one (ps_ret (pv 6)))))))), ?_⟩
    refine' q_asg ev_c (fun H1 e1 => ?_)
    refine' q_asg (v := .str (mkS [97 + ((d.sign + 5 * deep) % 26).toNat])) ?_ (fun H2 e2 => ?_)
    · walk_at "ev"
    refine q_when (b := decide (V.int d.style = V.int 0)) ?_ (fun hb H3 e3 => ?_) (fun hb H3 e3 => ?_)
    · walk_at "ev"
    · have hb := V.int.inj (of_decide_eq_true hb)
      unfold wordM at q
      rw [if_pos hb] at q
      refine s_ret (v := .str (Txt.mul (mkS [97 + (d.sign % 26).toNat]) (deep + 1))) ?_ (fun H4 e4 => q H4 (by walk_at "ex"))
      refine ev_repS ?_ ?_ (mulOk1 (by omega) (by omega))
      · walk_at "ev"
      · walk_at "ev"
    · have hb : ¬ d.style = 0 := fun z => of_decide_eq_false hb (by rw [z])
      unfold wordM at q
      rw [if_neg hb] at q
      refine' q_asg ev_c (fun H4 e4 => ?_)
      refine q_forR1 (n := d.size) ?_ ⟨by omega, by omega⟩ (fun i σ' H' => Ex H4 H' ∧ ∃ x, σ' = [some (.int one), some (.int two), some (.int deep), some (.ref a), some (.str "abcdefghijklmnopqrstuvwxyz"), some (.str (mkS [97 + ((d.sign + 5 * deep) % 26).toNat])), some (.str (mkS ((List.range i).map (chM one two deep d)))), x]) ?_ ?_ ?_
      · walk_at "ev"
      · intro H5 e5
        exact ⟨e5, none, rfl⟩
      · rintro i σ' H' hi ⟨e5, x, rfl⟩
        have hS' : SqL K H' a d.vs := by walk_at "ev"
        have hl : (mkS ((List.range i).map (chM one two deep d))).length = i := by
          rw [mkS_len, List.length_map, List.length_range]
        have grow : ∀ c : Nat, chM one two deep d i = c → mkS ((List.range i).map (chM one two deep d)) ++ mkS [c] = mkS ((List.range (i + 1)).map (chM one two deep d)) := fun c hc => by
          rw [mkS_app, List.range_succ, List.map_append]
          show mkS (_ ++ [c]) = mkS (_ ++ [chM one two deep d i])
          rw [hc]
        refine s_if (b := decide (V.int (i : Int) = V.int d.place)) ?_ (fun hb2 H6 e6 => ?_) (fun hb2 H6 e6 => ?_)
        · walk_at "ev"
        · have hb2 := V.int.inj (of_decide_eq_true hb2)
          refine s_asg (v := .str (mkS ((List.range (i + 1)).map (chM one two deep d)))) ?_ (fun H7 e7 => ⟨by walk_at "ex", _, rfl⟩)
          rw [← grow _ (if_pos hb2)]
          refine ev_add _ _ ?_ ?_ (by rw [hl, mkS_len]; show i + 1 ≤ 100000; omega)
          · walk_at "ev"
          · walk_at "ev"
        · have hb2 : ¬ (i : Int) = d.place := fun z => of_decide_eq_false hb2 (by rw [z])
          refine s_if (b := decide (V.int d.style = V.int 1)) ?_ (fun hb3 H7 e7 => ?_) (fun hb3 H7 e7 => ?_)
          · walk_at "ev"
          · have hb3 := V.int.inj (of_decide_eq_true hb3)
            refine s_asg (v := .str (mkS ((List.range (i + 1)).map (chM one two deep d)))) ?_ (fun H8 e8 => ⟨by walk_at "ex", _, rfl⟩)
            rw [← grow _ ((if_neg hb2).trans (if_pos hb3))]
            refine ev_add _ _ ?_ ?_ (by rw [hl, mkS_len]; show i + 1 ≤ 100000; omega)
            · walk_at "ev"
            · walk_at "ev"
          · have hb3 : ¬ d.style = 1 := fun z => of_decide_eq_false hb3 (by rw [z])
            refine s_asg (v := .str (mkS ((List.range (i + 1)).map (chM one two deep d)))) ?_ (fun H8 e8 => ⟨by walk_at "ex", _, rfl⟩)
            rw [← grow _ ((if_neg hb2).trans (if_neg hb3))]
            refine ev_add _ _ ?_ ?_ (by rw [hl, mkS_len]; show i + 1 ≤ 100000; omega)
            · walk_at "ev"
            · walk_at "ev"
      · rintro σ' H' ⟨e5, x, rfl⟩
        refine s_ret (v := .str (mkS ((List.range d.size.toNat).map (chM one two deep d)))) ?_ (fun H4 e4 => q H4 (by walk_at "ex"))
        walk_at "ev"
theorem ev_word {one two deep : Int} {a : Addr} {d : Draw} {ta : TA} {σ : L2.St} {H : Hp} {E : XK} (h : EvA ta σ H [.int one, .int two, .int deep, .ref a]) (hS : SqL K H a d.vs) (ok : d.Ok) (h0 : 0 ≤ deep) (h1 : deep ≤ 20) :
    Ev (tCall (spWord K) [] E ta) σ H (.str (wordM one two deep d)) :=
  ev_call h fun H1 e Q q E => ⟨one, two, deep, a, d, rfl, ex_l e hS, ok, h0, h1, q⟩
end
end BD
namespace BD
open PySem PySem.Spec PyProof.Rows L2 Evl
/-! ### words and rows are well formed -/
def WordS (w : Str) : Prop := ∃ l : List Nat, w = mkS l ∧ 1 ≤ l.length ∧ l.length ≤ 12 ∧ ∀ c ∈ l, 97 ≤ c ∧ c ≤ 122
theorem fold_rep (c : Nat) : ∀ (n : Nat) (acc : List Nat), (List.replicate n #[c]).foldl (· ++ ·) acc.toArray = (acc ++ List.replicate n c).toArray
  | 0, acc => by simp
  | n + 1, acc => by
    rw [List.replicate_succ, List.foldl_cons]
    have e : acc.toArray ++ #[c] = (acc ++ [c]).toArray := by simp
    rw [e, fold_rep c n (acc ++ [c]), List.replicate_succ]
    simp
theorem mul_word {c : Nat} {n : Int} (h : 1 ≤ n) : Txt.mul (mkS [c]) n = mkS (List.replicate n.toNat c) := by
  unfold Txt.mul
  rw [if_neg (by omega)]
  by_cases h1 : n = 1
  · subst h1
    rfl
  · have e : (n == 1) = false := by simp [h1]
    have e2 : ((mkS [c]).length == 0) = false := rfl
    rw [e, e2]
    show (⟨(List.replicate n.toNat #[c]).foldl (· ++ ·) #[]⟩ : Str) = mkS (List.replicate n.toNat c)
    have := fold_rep c n.toNat []
    rw [List.nil_append] at this
    unfold mkS
    rw [← this]
theorem wordM_s {one two deep : Int} {d : Draw} (ok : d.Ok) (h0 : 0 ≤ deep) (h1 : deep ≤ 11) : WordS (wordM one two deep d) := by
  obtain ⟨st0, st4, sz1, sz12, pl0, pl1, sg0, sg26⟩ := ok
  unfold wordM
  split
  · rw [mul_word (by omega)]
    refine ⟨_, rfl, ?_, ?_, fun c hc => ?_⟩
    · rw [List.length_replicate]; omega
    · rw [List.length_replicate]; omega
    · have := (List.mem_replicate.mp hc).2
      subst this
      omega
  · refine ⟨_, rfl, ?_, ?_, fun c hc => ?_⟩
    · rw [List.length_map, List.length_range]; omega
    · rw [List.length_map, List.length_range]; omega
    · obtain ⟨k, _, rfl⟩ := List.mem_map.mp hc
      unfold chM
      split
      · omega
      split <;> omega
theorem word_ok {w : Str} (h : WordS w) : PyData.strOk w = true := by
  obtain ⟨l, rfl, _, _, hl⟩ := h
  unfold PyData.strOk mkS
  rw [List.all_toArray, List.all_eq_true]
  intro c hc
  have := hl c hc
  exact decide_eq_true (by omega)
end BD
namespace BD
open PySem PySem.Spec PyProof.Rows L2 Evl
local macro_rules | `(tactic| walk_at "ev") => `(tactic| first
  | ((with_reducible apply ev_var) ; rfl)
  | with_reducible exact ev_c
  | ((with_reducible apply ev_I0) <;> walk_at "ev")
  | ((with_reducible apply ev_e9) <;> walk_at "ev")
  | ((with_reducible apply ev_I) <;> walk_at "ev")
  | ((with_reducible apply ev_eq) <;> walk_at "ev")
  | ((with_reducible apply ev_ne) <;> walk_at "ev")
  | ((with_reducible apply ev_neg) <;> walk_at "ev")
  | ((with_reducible apply ev_ixN) <;> walk_at "ev")
  | ((with_reducible apply ev_ixL) <;> walk_at "ev")
  | ((with_reducible apply ev_inN) <;> walk_at "ev")
  | ((with_reducible apply ev_inT) <;> walk_at "ev")
  | ((with_reducible apply ev_ixT) <;> walk_at "ev")
  | ((with_reducible apply ev_ixS) <;> walk_at "ev")
  | ((with_reducible apply ev_len') <;> walk_at "ev")
  | ((with_reducible apply et_test) <;> walk_at "ev")
  | ((with_reducible apply et_and) <;> walk_at "ev")
  | ((with_reducible apply et_or) <;> walk_at "ev")
  | ((with_reducible apply et_not) <;> walk_at "ev")
  | ((with_reducible apply et_B) <;> walk_at "ev")
  | ((with_reducible apply el_lst) <;> walk_at "ev")
  | ((with_reducible apply eu_tup) <;> walk_at "ev")
  | ((with_reducible apply ea_cons) <;> walk_at "ev")
  | with_reducible exact ea_nil
  | with_reducible assumption
  | ((with_reducible apply ex_l' ; assumption) ; walk_at "ex")
  | ((with_reducible apply ex_t' ; assumption) ; walk_at "ex")
  | (intro _ ; walk_at "ev")
  | (with_reducible first | exact atI_hd | exact at_kind | exact at2s | exact at3s | exact at3i)
  | (first | exact rfl | exact Nat.le_of_ble_eq_true rfl | exact ⟨by decide, by decide⟩ | decide | exact Or.inl ⟨by omega, by omega⟩ | exact Or.inr ⟨by omega, by omega⟩ | omega)
  | skip)
local macro_rules | `(tactic| walk_at "ex") => `(tactic| first
  | assumption
  | exact Ex.refl _
  | (refine' Ex.trans ?_ (by assumption) ; walk_at "ex"))
local macro_rules | `(tactic| walk_at "row") => `(tactic| first
  | (with_reducible exact er_nil)
  | ((with_reducible apply er_cons) <;> walk_at "row")
  | (((with_reducible apply er_var) ; rfl) ; walk_at "isrow")
  | (((with_reducible apply elr_var) ; rfl) ; walk_at "isrow")
  | ((with_reducible apply elr_cat) <;> walk_at "row")
  | ((with_reducible apply elr_lst) <;> walk_at "row")
  | ((with_reducible apply er_fin) <;> walk_at "ev")
  | ((with_reducible apply er_lendT) <;> walk_at "ev")
  | ((with_reducible apply er_lendW) <;> walk_at "ev")
  | ((with_reducible apply er_pick) <;> walk_at "ev")
  | ((with_reducible apply er_either) <;> walk_at "ev")
  | ((with_reducible apply er_or) <;> walk_at "ev")
  | ((with_reducible apply er_again) <;> walk_at "ev")
  | ((with_reducible apply er_back) <;> walk_at "ev")
  | ((with_reducible apply er_look) <;> walk_at "ev")
  | ((with_reducible apply er_change) <;> walk_at "ev")
  | exact Nat.le_of_ble_eq_true rfl
  | skip)
local macro_rules | `(tactic| walk_at "isrow") => `(tactic| first
  | assumption
  | (refine IsRow.up ?_ (by assumption) ; walk_at "ex")
  | (refine LRows.up ?_ (by assumption) ; walk_at "ex"))

local macro_rules | `(tactic| walk_at "ev") => `(tactic| ((with_reducible apply ev_letter) <;> walk_at "ev"))
local macro_rules | `(tactic| walk_at "ev") => `(tactic| ((with_reducible apply ev_cell) <;> walk_at "ev"))
local macro_rules | `(tactic| walk_at "ev") => `(tactic| ((with_reducible apply ev_word) <;> walk_at "ev"))
abbrev s_l_lend : Stmt := topS 13
theorem sc_l_lend : FnScope ["_law_one", "_law_two", "_law_named", "_law_draw_here", "_law_kind", "_law_source", "_law_holder"] ["_law_one", "_law_two", "_law_named", "_law_draw_here"] (defScope s_l_lend) := ⟨rfl, rfl, rfl, by decide +kernel, rfl, by decide +kernel, by decide +kernel⟩
abbrev s_l_deed : Stmt := topS 14
theorem sc_l_deed : FnScope ["_law_one", "_law_two", "_law_hands_here", "_law_hand", "_law_word_here"] ["_law_one", "_law_two", "_law_hands_here"] (defScope s_l_deed) := ⟨rfl, rfl, rfl, by decide +kernel, rfl, by decide +kernel, by decide +kernel⟩
abbrev s_l_hands : Stmt := topS 16
theorem sc_l_hands : FnScope ["_law_one", "_law_two", "_law_deep", "_law_draw_here", "_law_found"] ["_law_one", "_law_two", "_law_deep", "_law_draw_here"] (defScope s_l_hands) := ⟨rfl, rfl, rfl, by decide +kernel, rfl, by decide +kernel, by decide +kernel⟩
section
variable {P : Program} {w : World} {K : PySem.W.Frag} {mg : Str → Option Value} {base : Heap}
theorem ev_thing {c b : Int} {ta : TA} {σ : L2.St} {H : Hp} {E : XK} (h : EvA ta σ H [.int c, .int b]) : Ev (tCall spThing [] E ta) σ H (.int (thingM c b)) := ev_call h sp_thing
local macro_rules | `(tactic| walk_at "ev") => `(tactic| ((with_reducible apply ev_thing) <;> walk_at "ev"))
theorem rows_at {H : Hp} {vs : List V} {rs : List Rw} {i : Int} (h : Rows H vs rs) (h0 : 0 ≤ i) (h1 : i < vs.length) : ∃ x, atI vs i = some x ∧ IsRow H x (rs.getD i.toNat .fin) := by
  have e : i = ((i.toNat : Nat) : Int) := by omega
  have h2 : i.toNat < rs.length := by
    rw [← h.len]
    omega
  obtain ⟨x, hx, hr⟩ := h.get (List.getElem?_eq_getElem h2)
  refine ⟨x, ?_, ?_⟩
  · rw [e]
    exact atI_nat hx
  · rw [List.getD_eq_getElem?_getD, List.getElem?_eq_getElem h2]
    exact hr
def lendM (one two : Int) (named : List Rw) (d : Draw) : Rw :=
  if one / 2 % 2 = 1 ∧ 0 < (named.length : Int) then
    .lend (wordM one two named.length d) (if (named.getD (two % named.length).toNat .fin).isLend = true ∧ (named.getD (two % named.length).toNat .fin).kind = "read" then "read" else kindM one) (.word (named.getD (two % named.length).toNat .fin).word)
  else .lend (wordM one two named.length d) (kindM one) (.thing (thingM two d.base))
def spLend (K : PySem.W.Frag) : Sp := fun vs H Q _ => ∃ (one two : Int) (n a : Addr) (ns : List V) (named : List Rw) (d : Draw), vs = [.int one, .int two, .ref n, .ref a] ∧ SqL K H n ns ∧ Rows H ns named ∧ (∀ r ∈ named, r.named = true) ∧ named.length ≤ 20 ∧
  SqL K H a d.vs ∧ d.Ok ∧ Ret (ARow (lendM one two named d)) H Q
theorem getD_mem {rs : List Rw} {i : Nat} (h : i < rs.length) : rs.getD i .fin ∈ rs := by
  rw [List.getD_eq_getElem?_getD, List.getElem?_eq_getElem h]
  exact List.getElem_mem h
theorem ok_lend (D : Dn K mg "_law_lend" s_l_lend ["_law_one", "_law_two", "_law_named", "_law_draw_here"]) (T : Blt mg) (h_l_thing : Has P w K mg base "_law_thing" 1 ["_law_cell", "_law_base"] spThing) (h_l_word : Has P w K mg base "_law_word" 1 ["_law_one", "_law_two", "_law_deep", "_law_draw_here"] (spWord K)) : Has P w K mg base "_law_lend" 2 ["_law_one", "_law_two", "_law_named", "_law_draw_here"] (spLend K) := by
  refine D.ok sc_l_lend (fun vs H Q E h => ?_) (fun f cdv A outer s H vs Q E hr h => ?_)
  · obtain ⟨one, two, n, a, ns, named, d, rfl, _⟩ := h
    rfl
  · obtain ⟨one, two, n, a, ns, named, d, rfl, hN, hR, hnm, hlen, hS, ok, q⟩ := h
    refine ⟨_, (pss_cons (ps_set (i := 4) sc_l_lend.nd rfl (Or.inl rfl) (pe_ix (show IxR _ (rIxL K) from ix_list) (pe_lst (pa_cons pe_str (pa_cons pe_str pa_nil))) (pe_op op_mod (pv 0) pe_int) (fun _ _ => rfl))) (pss_cons (ps_set (i := 5) sc_l_lend.nd rfl (Or.inl rfl) (pe_own h_l_thing (hr.mono (by decide)) (by rfl) (pa_cons (pv 1) (pa_cons (pe_ix (show IxR _ (rIxL K) from ix_list) (pv 3) pe_int (fun _ _ => rfl)) pa_nil)))) (pss_cons (ps_if (PW.pt (pw_and (pt_cmpR op_eq (pe_op op_mod (pe_op op_fdiv (pv 0) pe_int) pe_int) pe_int (nomark _)) (pw_and1 (pt_cmpR op_gt (pe_callB (show CallR _ _ (rLenS K) from call_len_seq) (by rfl) T.len_ (by decide +kernel) (pa_cons (pv 2) pa_nil)) pe_int (nomark _))))) (pss_cons (ps_set (i := 6) sc_l_lend.nd rfl (Or.inl rfl) (pe_ix (show IxR _ (rIxL K) from ix_list) (pv 2) (pe_op op_mod (pv 1) (pe_callB (show CallR _ _ (rLenS K) from call_len_seq) (by rfl) T.len_ (by decide +kernel) (pa_cons (pv 2) pa_nil))) (fun _ _ => rfl))) (pss_cons (ps_set (i := 5) sc_l_lend.nd rfl (Or.inl rfl) (pe_ix (show IxR _ (rIxT K) from ix_tup) (pv 6) pe_int (fun _ _ => rfl))) (pss_one (ps_if (PW.pt (pw_and (pt_cmpR op_eq (pe_ix (show IxR _ (rIxT K) from ix_tup) (pv 6) pe_int (fun _ _ => rfl)) pe_str (nomark _)) (pw_and1 (pt_cmpR op_eq (pe_ix (show IxR _ (rIxT K) from ix_tup) (pv 6) pe_int (fun _ _ => rfl)) pe_str (nomark _))))) (pss_one (ps_set (i := 4) sc_l_lend.nd rfl (Or.inl rfl) pe_str)) pss_nil)))) pss_nil) (pss_one (ps_ret (pe_tup (pa_cons pe_str (pa_cons (pe_own h_l_word (hr.mono (by decide)) (by rfl) (pa_cons (pv 0) (pa_cons (pv 1) (pa_cons (pe_callB (show CallR _ _ (rLenS K) from call_len_seq) (by rfl) T.len_ (by decide +kernel) (pa_cons (pv 2) pa_nil)) (pa_cons (pv 3) pa_nil))))) (pa_cons (pv 4) (pa_cons (pv 5) pa_nil)))))))))), ?_⟩
    have hl : ns.length = named.length := hR.len
    unfold lendM at q
    rw [← hl] at q hlen
    refine' q_asg (v := .str (kindM one)) ?_ (fun H1 e1 => ?_)
    · walk_at "ev"
    refine' q_asg (v := .int (thingM two d.base)) ?_ (fun H2 e2 => ?_)
    · walk_at "ev"
    refine' q_when ?_ (fun hb H3 e3 => ?_) (fun hb H3 e3 => ?_)
    rotate_left 1
    · walk_at "ev"
    · simp only [Bool.and_eq_true, decide_eq_true_eq, V.int.injEq] at hb
      rw [if_pos hb] at q
      have hpos : (0 : Int) < ns.length := hb.2
      obtain ⟨x, hx, hX⟩ := rows_at hR (i := two % ns.length) (Int.emod_nonneg _ (by omega)) (Int.emod_lt_of_pos _ hpos)
      have hm : named.getD (two % ns.length).toNat .fin ∈ named := getD_mem (by
        have := Int.emod_lt_of_pos two hpos
        have := Int.emod_nonneg two (show (ns.length : Int) ≠ 0 by omega)
        omega)
      have hnamed := hnm _ hm
      generalize named.getD (two % ns.length).toNat .fin = h at *
      cases h with
      | lend hh hk hs =>
        obtain ⟨p, rfl, hp⟩ := hX
        have hP : SqT K H p [.str "lend", .str hh, .str hk, hs.v] := st_of hp
        refine' q_asg (v := .ref p) ?_ (fun H4 e4 => ?_)
        · walk_at "ev"
        refine' q_asg (v := .str hh) ?_ (fun H5 e5 => ?_)
        · walk_at "ev"
        refine' q_when ?_ (fun hb2 H6 e6 => ?_) (fun hb2 H6 e6 => ?_)
        rotate_left 1
        · walk_at "ev"
        · simp only [Bool.and_eq_true, decide_eq_true_eq, V.str.injEq] at hb2
          rw [if_pos ⟨rfl, hb2.2⟩] at q
          refine' q_asg ev_c (fun H7 e7 => ?_)
          refine s_retP ?_ (fun v H8 e8 hv => q v H8 (by walk_at "ex") hv)
          walk_at "row"
        · simp only [Bool.and_eq_false_iff, decide_eq_false_iff_not, V.str.injEq] at hb2
          have hk2 : ¬ (True ∧ hk = "read") := fun z => by
            rcases hb2 with hb2 | hb2
            · exact hb2 (by first | trivial | rfl)
            · exact hb2 z.2
          rw [if_neg (fun z => hk2 ⟨trivial, z.2⟩)] at q
          refine s_retP ?_ (fun v H8 e8 hv => q v H8 (by walk_at "ex") hv)
          walk_at "row"
      | pick hh ts =>
        obtain ⟨p, pq, rfl, hp, _⟩ := hX
        have hP : SqT K H p [.str "pick", .str hh, .ref pq] := st_of hp
        refine' q_asg (v := .ref p) ?_ (fun H4 e4 => ?_)
        · walk_at "ev"
        refine' q_asg (v := .str hh) ?_ (fun H5 e5 => ?_)
        · walk_at "ev"
        refine' q_when (b := false) ?_ (fun hb2 H6 e6 => ?_) (fun hb2 H6 e6 => ?_)
        · refine et_is (et_and (a := false) (b := false) ?_ (fun z => by cases z)) rfl
          refine et_is ?_ (show decide (V.str "pick" = V.str "lend") = false by decide +kernel)
          walk_at "ev"
        · cases hb2
        · rw [if_neg (fun z => by cases z.1)] at q
          refine s_retP ?_ (fun v H8 e8 hv => q v H8 (by walk_at "ex") hv)
          walk_at "row"
      | _ => cases hnamed
    · simp only [Bool.and_eq_false_iff, decide_eq_false_iff_not, V.int.injEq] at hb
      rw [if_neg (fun z => hb.elim (fun y => y z.1) (fun y => y z.2))] at q
      refine s_retP ?_ (fun v H8 e8 hv => q v H8 (by walk_at "ex") hv)
      walk_at "row"
theorem ev_lend {one two : Int} {n a : Addr} {ns : List V} {named : List Rw} {d : Draw} {ta : TA} {σ : L2.St} {H : Hp} {E : XK} (h : EvA ta σ H [.int one, .int two, .ref n, .ref a]) (hN : SqL K H n ns) (hR : Rows H ns named)
    (hn : ∀ r ∈ named, r.named = true) (hl : named.length ≤ 20) (hS : SqL K H a d.vs) (ok : d.Ok) : EvP (tCall (spLend K) [] E ta) σ H (ARow (lendM one two named d)) :=
  ep_call h fun H1 e Q q E => ⟨one, two, n, a, ns, named, d, rfl, ex_l e hN, hR.up e, hn, hl, ex_l e hS, ok, q⟩
def deedM (one two : Int) (hands : List Rw) : Rw :=
  if one % 3 = 0 then .look (hands.getD (two % hands.length).toNat .fin).word
  else if one % 3 = 1 then .back (hands.getD (two % hands.length).toNat .fin).word
  else if (hands.getD (two % hands.length).toNat .fin).kind = "read" then .look (hands.getD (two % hands.length).toNat .fin).word else .change (hands.getD (two % hands.length).toNat .fin).word
def spDeed (K : PySem.W.Frag) : Sp := fun vs H Q _ => ∃ (one two : Int) (n : Addr) (ns : List V) (hands : List Rw), vs = [.int one, .int two, .ref n] ∧ SqL K H n ns ∧ Rows H ns hands ∧ (∀ r ∈ hands, r.isLend = true) ∧ 0 < hands.length ∧ Ret (ARow (deedM one two hands)) H Q
theorem ok_deed (D : Dn K mg "_law_deed" s_l_deed ["_law_one", "_law_two", "_law_hands_here"]) (T : Blt mg) : Has P w K mg base "_law_deed" 1 ["_law_one", "_law_two", "_law_hands_here"] (spDeed K) := by
  refine D.ok sc_l_deed (fun vs H Q E h => ?_) (fun f cdv A outer s H vs Q E hr h => ?_)
  · obtain ⟨one, two, n, ns, hands, rfl, _⟩ := h
    rfl
  · obtain ⟨one, two, n, ns, hands, rfl, hN, hR, hlend, hlen, q⟩ := h
    refine ⟨_, (pss_cons (ps_set (i := 3) sc_l_deed.nd rfl (Or.inl rfl) (pe_ix (show IxR _ (rIxL K) from ix_list) (pv 2) (pe_op op_mod (pv 1) (pe_callB (show CallR _ _ (rLenS K) from call_len_seq) (by rfl) T.len_ (by decide +kernel) (pa_cons (pv 2) pa_nil))) (fun _ _ => rfl))) (pss_cons (ps_set (i := 4) sc_l_deed.nd rfl (Or.inl rfl) (pe_ix (show IxR _ (rIxL K) from ix_list) (pe_lst (pa_cons pe_str (pa_cons pe_str (pa_cons pe_str pa_nil)))) (pe_op op_mod (pv 0) pe_int) (fun _ _ => rfl))) (pss_cons (ps_if (PW.pt (pw_and (pt_cmpR op_eq (pv 4) pe_str (nomark _)) (pw_and1 (pt_cmpR op_eq (pe_ix (show IxR _ (rIxT K) from ix_tup) (pv 3) pe_int (fun _ _ => rfl)) pe_str (nomark _))))) (pss_one (ps_set (i := 4) sc_l_deed.nd rfl (Or.inl rfl) pe_str)) pss_nil) (pss_one (ps_ret (pe_tup (pa_cons (pv 4) (pa_cons (pe_ix (show IxR _ (rIxT K) from ix_tup) (pv 3) pe_int (fun _ _ => rfl)) pa_nil)))))))), ?_⟩
    have hl : ns.length = hands.length := hR.len
    unfold deedM at q
    rw [← hl] at q hlen
    have hpos : (0 : Int) < ns.length := by omega
    obtain ⟨x, hx, hX⟩ := rows_at hR (i := two % ns.length) (Int.emod_nonneg _ (by omega)) (Int.emod_lt_of_pos _ hpos)
    have hm : hands.getD (two % ns.length).toNat .fin ∈ hands := getD_mem (by
      have := Int.emod_lt_of_pos two hpos
      have := Int.emod_nonneg two (show (ns.length : Int) ≠ 0 by omega)
      omega)
    have hnamed := hlend _ hm
    generalize hands.getD (two % ns.length).toNat .fin = h at *
    cases h with
    | lend hh hk hs =>
      obtain ⟨p, rfl, hp⟩ := hX
      have hP : SqT K H p [.str "lend", .str hh, .str hk, hs.v] := st_of hp
      refine' q_asg (v := .ref p) ?_ (fun H1 e1 => ?_)
      · walk_at "ev"
      refine' q_asg (v := .str (pick3 one "look" "back" "change")) ?_ (fun H2 e2 => ?_)
      · walk_at "ev"
      by_cases h0 : one % 3 = 0
      · rw [if_pos h0] at q
        have e0 : pick3 one ("look" : Str) "back" "change" = "look" := if_pos h0
        rw [e0]
        refine' q_when (b := false) ?_ (fun hb2 H6 e6 => ?_) (fun hb2 H6 e6 => ?_)
        · refine et_is (et_and (a := false) (b := false) ?_ (fun z => by cases z)) rfl
          refine et_is ?_ (show decide (V.str "look" = V.str "change") = false by decide +kernel)
          walk_at "ev"
        · cases hb2
        · refine s_retP ?_ (fun v H8 e8 hv => q v H8 (by walk_at "ex") hv)
          walk_at "row"
      · rw [if_neg h0] at q
        by_cases h1 : one % 3 = 1
        · rw [if_pos h1] at q
          have e0 : pick3 one ("look" : Str) "back" "change" = "back" := (if_neg h0).trans (if_pos h1)
          rw [e0]
          refine' q_when (b := false) ?_ (fun hb2 H6 e6 => ?_) (fun hb2 H6 e6 => ?_)
          · refine et_is (et_and (a := false) (b := false) ?_ (fun z => by cases z)) rfl
            refine et_is ?_ (show decide (V.str "back" = V.str "change") = false by decide +kernel)
            walk_at "ev"
          · cases hb2
          · refine s_retP ?_ (fun v H8 e8 hv => q v H8 (by walk_at "ex") hv)
            walk_at "row"
        · rw [if_neg h1] at q
          have e0 : pick3 one ("look" : Str) "back" "change" = "change" := (if_neg h0).trans (if_neg h1)
          rw [e0]
          refine' q_when ?_ (fun hb2 H6 e6 => ?_) (fun hb2 H6 e6 => ?_)
          rotate_left 1
          · walk_at "ev"
          · simp only [Bool.and_eq_true, decide_eq_true_eq, V.str.injEq] at hb2
            rw [if_pos (show (Rw.lend hh hk hs).kind = _ from hb2.2)] at q
            refine s_asg ev_c (fun H7 e7 => ?_)
            dsimp only
            refine s_retP ?_ (fun v H8 e8 hv => q v H8 (by walk_at "ex") hv)
            walk_at "row"
          · simp only [Bool.and_eq_false_iff, decide_eq_false_iff_not, V.str.injEq] at hb2
            have hk2 : ¬ (hk = "read") := fun z => by
              rcases hb2 with hb2 | hb2
              · exact hb2 (by first | trivial | rfl)
              · exact hb2 z
            rw [if_neg (show ¬ (Rw.lend hh hk hs).kind = _ from hk2)] at q
            refine s_retP ?_ (fun v H8 e8 hv => q v H8 (by walk_at "ex") hv)
            walk_at "row"
    | _ => cases hnamed
theorem ev_deed {one two : Int} {n : Addr} {ns : List V} {hands : List Rw} {ta : TA} {σ : L2.St} {H : Hp} {E : XK} (h : EvA ta σ H [.int one, .int two, .ref n]) (hN : SqL K H n ns) (hR : Rows H ns hands)
    (hn : ∀ r ∈ hands, r.isLend = true) (hl : 0 < hands.length) : EvP (tCall (spDeed K) [] E ta) σ H (ARow (deedM one two hands)) :=
  ep_call h fun H1 e Q q E => ⟨one, two, n, ns, hands, rfl, ex_l e hN, hR.up e, hn, hl, q⟩
theorem el_catV {ta tb : TE} {σ : L2.St} {H : Hp} {p : Addr} {xs ys : List V} (ha : Ev ta σ H (.ref p)) (hp : H p = some (.lst xs)) (hb : EvL tb σ H ys) (hl : xs.length + ys.length ≤ 100000) : EvL (tOp rCat ta tb) σ H (xs ++ ys) := fun H1 e Q q =>
  ha H1 e _ fun H2 e2 => hb H2 (e.trans e2) _ fun u H3 _ e3 hu => ⟨p, u, xs, ys, rfl, rfl, (e.trans (e2.trans e3)) _ _ hp, hu, sz_of hl, fun z hz => q z _ (fresh_back (e2.trans e3) hz) (e2.trans (e3.trans (Ex.new hz))) upd_same⟩
def namesM (one two deep : Int) (d : Draw) : List V := [.str (wordM one two deep d), .str (wordM two one (deep + 1) d), .str (wordM one one (deep + 2) d)]
def spHands (K : PySem.W.Frag) : Sp := fun vs H Q _ => ∃ (one two deep : Int) (a : Addr) (d : Draw), vs = [.int one, .int two, .int deep, .ref a] ∧ SqL K H a d.vs ∧ d.Ok ∧ 0 ≤ deep ∧ deep ≤ 18 ∧ RetL (namesM one two deep d) H Q
theorem ok_hands (D : Dn K mg "_law_hands" s_l_hands ["_law_one", "_law_two", "_law_deep", "_law_draw_here"]) (h_l_word : Has P w K mg base "_law_word" 1 ["_law_one", "_law_two", "_law_deep", "_law_draw_here"] (spWord K)) : Has P w K mg base "_law_hands" 2 ["_law_one", "_law_two", "_law_deep", "_law_draw_here"] (spHands K) := by
  refine D.ok sc_l_hands (fun vs H Q E h => ?_) (fun f cdv A outer s H vs Q E hr h => ?_)
  · obtain ⟨one, two, deep, a, d, rfl, _⟩ := h
    rfl
  · obtain ⟨one, two, deep, a, d, rfl, hS, ok, h0, h1, q⟩ := h
    refine ⟨_, (pss_cons (ps_set (i := 4) sc_l_hands.nd rfl (Or.inl rfl) (pe_lst (pa_cons (pe_own h_l_word (hr.mono (by decide)) (by rfl) (pa_cons (pv 0) (pa_cons (pv 1) (pa_cons (pv 2) (pa_cons (pv 3) pa_nil))))) (pa_cons (pe_own h_l_word (hr.mono (by decide)) (by rfl) (pa_cons (pv 1) (pa_cons (pv 0) (pa_cons (pe_op op_add (pv 2) pe_int) (pa_cons (pv 3) pa_nil))))) pa_nil)))) (pss_one (ps_ret (pe_op op_cat (pv 4) (pe_lst (pa_cons (pe_own h_l_word (hr.mono (by decide)) (by rfl) (pa_cons (pv 0) (pa_cons (pv 0) (pa_cons (pe_op op_add (pv 2) pe_int) (pa_cons (pv 3) pa_nil))))) pa_nil)))))), ?_⟩
    refine q_asgL (xs := [.str (wordM one two deep d), .str (wordM two one (deep + 1) d)]) ?_ (fun p H1 hp0 e1 hp => ?_)
    · walk_at "ev"
    refine s_retL (xs := namesM one two deep d) ?_ (fun p2 H2 hp2 e2 h2 => q p2 H2 (fresh_back e1 hp2) (by walk_at "ex") h2)
    refine el_catV (p := p) (xs := [.str (wordM one two deep d), .str (wordM two one (deep + 1) d)]) (ys := [.str (wordM one one (deep + 2) d)]) ?_ hp ?_ (by show 3 ≤ 100000; decide)
    · walk_at "ev"
    · walk_at "ev"
end
end BD
namespace BD
open PySem PySem.Spec PyProof.Rows L2 Evl
local macro_rules | `(tactic| walk_at "ev") => `(tactic| first
  | ((with_reducible apply ev_var) ; rfl)
  | with_reducible exact ev_c
  | ((with_reducible apply ev_I0) <;> walk_at "ev")
  | ((with_reducible apply ev_e9) <;> walk_at "ev")
  | ((with_reducible apply ev_I) <;> walk_at "ev")
  | ((with_reducible apply ev_eq) <;> walk_at "ev")
  | ((with_reducible apply ev_ne) <;> walk_at "ev")
  | ((with_reducible apply ev_neg) <;> walk_at "ev")
  | ((with_reducible apply ev_ixN) <;> walk_at "ev")
  | ((with_reducible apply ev_ixL) <;> walk_at "ev")
  | ((with_reducible apply ev_inN) <;> walk_at "ev")
  | ((with_reducible apply ev_inT) <;> walk_at "ev")
  | ((with_reducible apply ev_ixT) <;> walk_at "ev")
  | ((with_reducible apply ev_ixS) <;> walk_at "ev")
  | ((with_reducible apply ev_len') <;> walk_at "ev")
  | ((with_reducible apply et_test) <;> walk_at "ev")
  | ((with_reducible apply et_and) <;> walk_at "ev")
  | ((with_reducible apply et_or) <;> walk_at "ev")
  | ((with_reducible apply et_not) <;> walk_at "ev")
  | ((with_reducible apply et_B) <;> walk_at "ev")
  | ((with_reducible apply el_lst) <;> walk_at "ev")
  | ((with_reducible apply eu_tup) <;> walk_at "ev")
  | ((with_reducible apply ea_cons) <;> walk_at "ev")
  | with_reducible exact ea_nil
  | with_reducible assumption
  | ((with_reducible apply ex_l' ; assumption) ; walk_at "ex")
  | ((with_reducible apply ex_t' ; assumption) ; walk_at "ex")
  | (intro _ ; walk_at "ev")
  | (with_reducible first | exact atI_hd | exact at_kind | exact at2s | exact at3s | exact at3i)
  | (first | exact rfl | exact Nat.le_of_ble_eq_true rfl | exact ⟨by decide, by decide⟩ | decide | exact Or.inl ⟨by omega, by omega⟩ | exact Or.inr ⟨by omega, by omega⟩ | omega)
  | skip)
local macro_rules | `(tactic| walk_at "ex") => `(tactic| first
  | assumption
  | exact Ex.refl _
  | (refine' Ex.trans ?_ (by assumption) ; walk_at "ex"))
local macro_rules | `(tactic| walk_at "row") => `(tactic| first
  | (with_reducible exact er_nil)
  | ((with_reducible apply er_cons) <;> walk_at "row")
  | (((with_reducible apply er_var) ; rfl) ; walk_at "isrow")
  | (((with_reducible apply elr_var) ; rfl) ; walk_at "isrow")
  | ((with_reducible apply elr_cat) <;> walk_at "row")
  | ((with_reducible apply elr_lst) <;> walk_at "row")
  | ((with_reducible apply er_fin) <;> walk_at "ev")
  | ((with_reducible apply er_lendT) <;> walk_at "ev")
  | ((with_reducible apply er_lendW) <;> walk_at "ev")
  | ((with_reducible apply er_pick) <;> walk_at "ev")
  | ((with_reducible apply er_either) <;> walk_at "ev")
  | ((with_reducible apply er_or) <;> walk_at "ev")
  | ((with_reducible apply er_again) <;> walk_at "ev")
  | ((with_reducible apply er_back) <;> walk_at "ev")
  | ((with_reducible apply er_look) <;> walk_at "ev")
  | ((with_reducible apply er_change) <;> walk_at "ev")
  | exact Nat.le_of_ble_eq_true rfl
  | skip)
local macro_rules | `(tactic| walk_at "isrow") => `(tactic| first
  | assumption
  | (refine IsRow.up ?_ (by assumption) ; walk_at "ex")
  | (refine LRows.up ?_ (by assumption) ; walk_at "ex"))

local macro_rules | `(tactic| walk_at "ev") => `(tactic| ((with_reducible apply ev_letter) <;> walk_at "ev"))
local macro_rules | `(tactic| walk_at "ev") => `(tactic| ((with_reducible apply ev_cell) <;> walk_at "ev"))
local macro_rules | `(tactic| walk_at "ev") => `(tactic| ((with_reducible apply ev_word) <;> walk_at "ev"))
local macro_rules | `(tactic| walk_at "ev") => `(tactic| ((with_reducible apply ev_thing) <;> walk_at "ev"))

abbrev s_l_first_four : Stmt := topS 17
theorem sc_l_first_four : FnScope ["_law_way", "_law_one", "_law_two", "_law_names", "_law_thing_here", "_law_a", "_law_b", "_law_c", "_law_kind", "_law_end", "_law_rows", "_law_first"] ["_law_way", "_law_one", "_law_two", "_law_names", "_law_thing_here"] (defScope s_l_first_four) := ⟨rfl, rfl, rfl, by decide +kernel, rfl, by decide +kernel, by decide +kernel⟩
abbrev s_l_gadget : Stmt := topS 18
theorem sc_l_gadget : FnScope ["_law_one", "_law_two", "_law_deep", "_law_draw_here", "_law_names", "_law_a", "_law_b", "_law_thing_here", "_law_far", "_law_last_here", "_law_kind", "_law_end", "_law_way", "_law_rows"] ["_law_one", "_law_two", "_law_deep", "_law_draw_here"] (defScope s_l_gadget) := ⟨rfl, rfl, rfl, by decide +kernel, rfl, by decide +kernel, by decide +kernel⟩
section
variable {P : Program} {w : World} {K : PySem.W.Frag} {mg : Str → Option Value} {base : Heap}
def fourM (way one two : Int) (a b c : Str) (t : Int) : List Rw :=
  if way = 0 then [.lend a (kindM (one / 8)) (.thing t), .again, .look a, .back a, .fin, .fin]
  else if way = 1 then [.lend a (kindM (one / 8)) (.thing t), .either, .back a, .or, .look a, .fin] ++ [.look a, .fin]
  else if way = 2 then [.lend a "write" (.thing t), .lend b "write" (.word a), .lend c (kindM (one / 8)) (.word b)] ++ [.back (pick3 two a b a), .look (pick3 one c c b), .fin, .fin, .fin]
  else [.lend a "write" (.thing t), .lend b "read" (.word a), .lend c (kindM two) (.thing t), .again] ++ [.back b, .fin, .fin, .fin, .fin]
def spFour (K : PySem.W.Frag) : Sp := fun vs H Q _ => ∃ (way one two t : Int) (p : Addr) (a b c : Str), vs = [.int way, .int one, .int two, .ref p, .int t] ∧ SqL K H p [.str a, .str b, .str c] ∧ Ret (LRows (fourM way one two a b c t)) H Q
theorem ok_four (D : Dn K mg "_law_first_four" s_l_first_four ["_law_way", "_law_one", "_law_two", "_law_names", "_law_thing_here"]) : Has P w K mg base "_law_first_four" 1 ["_law_way", "_law_one", "_law_two", "_law_names", "_law_thing_here"] (spFour K) := by
  refine D.ok sc_l_first_four (fun vs H Q E h => ?_) (fun f cdv A outer s H vs Q E hr h => ?_)
  · obtain ⟨way, one, two, t, p, a, b, c, rfl, _⟩ := h
    rfl
  · obtain ⟨way, one, two, t, p, a, b, c, rfl, hS, q⟩ := h
    refine ⟨_, (pss_cons (ps_set (i := 5) sc_l_first_four.nd rfl (Or.inl rfl) (pe_ix (show IxR _ (rIxL K) from ix_list) (pv 3) pe_int (fun _ _ => rfl))) (pss_cons (ps_set (i := 6) sc_l_first_four.nd rfl (Or.inl rfl) (pe_ix (show IxR _ (rIxL K) from ix_list) (pv 3) pe_int (fun _ _ => rfl))) (pss_cons (ps_set (i := 7) sc_l_first_four.nd rfl (Or.inl rfl) (pe_ix (show IxR _ (rIxL K) from ix_list) (pv 3) pe_int (fun _ _ => rfl))) (pss_cons (ps_set (i := 8) sc_l_first_four.nd rfl (Or.inl rfl) (pe_ix (show IxR _ (rIxL K) from ix_list) (pe_lst (pa_cons pe_str (pa_cons pe_str pa_nil))) (pe_op op_mod (pe_op op_fdiv (pv 1) pe_int) pe_int) (fun _ _ => rfl))) (pss_cons (ps_set (i := 9) sc_l_first_four.nd rfl (Or.inl rfl) (pe_tup (pa_cons pe_str pa_nil))) (pss_cons (ps_if (pt_cmpR op_eq (pv 0) pe_int (nomark _)) (pss_one (ps_ret (pe_lst (pa_cons (pe_tup (pa_cons pe_str (pa_cons (pv 5) (pa_cons (pv 8) (pa_cons (pv 4) pa_nil))))) (pa_cons (pe_tup (pa_cons pe_str pa_nil)) (pa_cons (pe_tup (pa_cons pe_str (pa_cons (pv 5) pa_nil))) (pa_cons (pe_tup (pa_cons pe_str (pa_cons (pv 5) pa_nil))) (pa_cons (pv 9) (pa_cons (pv 9) pa_nil))))))))) pss_nil) (pss_cons (ps_if (pt_cmpR op_eq (pv 0) pe_int (nomark _)) (pss_cons (ps_set (i := 10) sc_l_first_four.nd rfl (Or.inl rfl) (pe_lst (pa_cons (pe_tup (pa_cons pe_str (pa_cons (pv 5) (pa_cons (pv 8) (pa_cons (pv 4) pa_nil))))) (pa_cons (pe_tup (pa_cons pe_str pa_nil)) (pa_cons (pe_tup (pa_cons pe_str (pa_cons (pv 5) pa_nil))) (pa_cons (pe_tup (pa_cons pe_str pa_nil)) (pa_cons (pe_tup (pa_cons pe_str (pa_cons (pv 5) pa_nil))) (pa_cons (pv 9) pa_nil)))))))) (pss_one (ps_ret (pe_op op_cat (pv 10) (pe_lst (pa_cons (pe_tup (pa_cons pe_str (pa_cons (pv 5) pa_nil))) (pa_cons (pv 9) pa_nil))))))) pss_nil) (pss_cons (ps_set (i := 11) sc_l_first_four.nd rfl (Or.inl rfl) (pe_tup (pa_cons pe_str (pa_cons (pv 5) (pa_cons pe_str (pa_cons (pv 4) pa_nil)))))) (pss_cons (ps_if (pt_cmpR op_eq (pv 0) pe_int (nomark _)) (pss_cons (ps_set (i := 10) sc_l_first_four.nd rfl (Or.inl rfl) (pe_lst (pa_cons (pv 11) (pa_cons (pe_tup (pa_cons pe_str (pa_cons (pv 6) (pa_cons pe_str (pa_cons (pv 5) pa_nil))))) (pa_cons (pe_tup (pa_cons pe_str (pa_cons (pv 7) (pa_cons (pv 8) (pa_cons (pv 6) pa_nil))))) pa_nil))))) (pss_one (ps_ret (pe_op op_cat (pv 10) (pe_lst (pa_cons (pe_tup (pa_cons pe_str (pa_cons (pe_ix (show IxR _ (rIxL K) from ix_list) (pe_lst (pa_cons (pv 5) (pa_cons (pv 6) (pa_cons (pv 5) pa_nil)))) (pe_op op_mod (pv 2) pe_int) (fun _ _ => rfl)) pa_nil))) (pa_cons (pe_tup (pa_cons pe_str (pa_cons (pe_ix (show IxR _ (rIxL K) from ix_list) (pe_lst (pa_cons (pv 7) (pa_cons (pv 7) (pa_cons (pv 6) pa_nil)))) (pe_op op_mod (pv 1) pe_int) (fun _ _ => rfl)) pa_nil))) (pa_cons (pv 9) (pa_cons (pv 9) (pa_cons (pv 9) pa_nil)))))))))) pss_nil) (pss_cons (ps_set (i := 10) sc_l_first_four.nd rfl (Or.inl rfl) (pe_lst (pa_cons (pv 11) (pa_cons (pe_tup (pa_cons pe_str (pa_cons (pv 6) (pa_cons pe_str (pa_cons (pv 5) pa_nil))))) (pa_cons (pe_tup (pa_cons pe_str (pa_cons (pv 7) (pa_cons (pe_ix (show IxR _ (rIxL K) from ix_list) (pe_lst (pa_cons pe_str (pa_cons pe_str pa_nil))) (pe_op op_mod (pv 2) pe_int) (fun _ _ => rfl)) (pa_cons (pv 4) pa_nil))))) (pa_cons (pe_tup (pa_cons pe_str pa_nil)) pa_nil)))))) (pss_one (ps_ret (pe_op op_cat (pv 10) (pe_lst (pa_cons (pe_tup (pa_cons pe_str (pa_cons (pv 6) pa_nil))) (pa_cons (pv 9) (pa_cons (pv 9) (pa_cons (pv 9) (pa_cons (pv 9) pa_nil))))))))))))))))))), ?_⟩
    show (_ : L2.TS) _ [_, _, _, _, _, _, _, _, _, _, _, _] _
    unfold fourM at q
    refine' q_asg (v := .str a) ?_ (fun H1 e1 => ?_)
    · walk_at "ev"
    show (_ : L2.TS) _ [_, _, _, _, _, _, _, _, _, _, _, _] _
    refine' q_asg (v := .str b) ?_ (fun H2 e2 => ?_)
    · walk_at "ev"
    show (_ : L2.TS) _ [_, _, _, _, _, _, _, _, _, _, _, _] _
    refine' q_asg (v := .str c) ?_ (fun H3 e3 => ?_)
    · walk_at "ev"
    show (_ : L2.TS) _ [_, _, _, _, _, _, _, _, _, _, _, _] _
    refine' q_asg (v := .str (kindM (one / 8))) ?_ (fun H4 e4 => ?_)
    · walk_at "ev"
    show (_ : L2.TS) _ [_, _, _, _, _, _, _, _, _, _, _, _] _
    refine' q_asgP (R := ARow .fin) ?_ (fun v H5 e5 hv => ?_)
    · walk_at "row"
    show (_ : L2.TS) _ [_, _, _, _, _, _, _, _, _, _, _, _] _
    have hv : IsRow H5 v .fin := hv
    refine' q_when (b := decide (V.int way = V.int 0)) ?_ (fun hb H6 e6 => ?_) (fun hb H6 e6 => ?_)
    · walk_at "ev"
    · simp only [decide_eq_true_eq, V.int.injEq] at hb
      rw [if_pos hb] at q
      refine s_retP ?_ (fun v H8 e8 hv => q v H8 (by walk_at "ex") hv)
      walk_at "row"
    · simp only [decide_eq_false_iff_not, V.int.injEq] at hb
      rw [if_neg hb] at q
      refine' q_when (b := decide (V.int way = V.int 1)) ?_ (fun hb H7 e7 => ?_) (fun hb H7 e7 => ?_)
      · walk_at "ev"
      · simp only [decide_eq_true_eq, V.int.injEq] at hb
        rw [if_pos hb] at q
        refine' q_asgP (R := LRows [.lend a (kindM (one / 8)) (.thing t), .either, .back a, .or, .look a, .fin]) ?_ (fun u H8 e8 hu => ?_)
        · walk_at "row"
        show (_ : L2.TS) _ [_, _, _, _, _, _, _, _, _, _, _, _] _
        refine s_retP ?_ (fun v H9 e9 hv => q v H9 (by walk_at "ex") hv)
        walk_at "row"
      · simp only [decide_eq_false_iff_not, V.int.injEq] at hb
        rw [if_neg hb] at q
        refine' q_asgP (R := ARow (.lend a "write" (.thing t))) ?_ (fun x H8 e8 hx => ?_)
        · walk_at "row"
        show (_ : L2.TS) _ [_, _, _, _, _, _, _, _, _, _, _, _] _
        have hx : IsRow H8 x (.lend a "write" (.thing t)) := hx
        refine' q_when (b := decide (V.int way = V.int 2)) ?_ (fun hb H9 e9 => ?_) (fun hb H9 e9 => ?_)
        · walk_at "ev"
        · simp only [decide_eq_true_eq, V.int.injEq] at hb
          rw [if_pos hb] at q
          refine' q_asgP (R := LRows [.lend a "write" (.thing t), .lend b "write" (.word a), .lend c (kindM (one / 8)) (.word b)]) ?_ (fun u H10 e10 hu => ?_)
          · walk_at "row"
          show (_ : L2.TS) _ [_, _, _, _, _, _, _, _, _, _, _, _] _
          refine s_retP ?_ (fun v H11 e11 hv => q v H11 (by walk_at "ex") hv)
          walk_at "row"
        · simp only [decide_eq_false_iff_not, V.int.injEq] at hb
          rw [if_neg hb] at q
          refine' q_asgP (R := LRows [.lend a "write" (.thing t), .lend b "read" (.word a), .lend c (kindM two) (.thing t), .again]) ?_ (fun u H10 e10 hu => ?_)
          · walk_at "row"
          show (_ : L2.TS) _ [_, _, _, _, _, _, _, _, _, _, _, _] _
          refine s_retP ?_ (fun v H11 e11 hv => q v H11 (by walk_at "ex") hv)
          walk_at "row"
theorem ep_four {way one two t : Int} {p : Addr} {a b c : Str} {ta : TA} {σ : L2.St} {H : Hp} {E : XK} (h : EvA ta σ H [.int way, .int one, .int two, .ref p, .int t]) (hS : SqL K H p [.str a, .str b, .str c]) :
    EvP (tCall (spFour K) [] E ta) σ H (LRows (fourM way one two a b c t)) :=
  ep_call h fun H1 e Q q E => ⟨way, one, two, t, p, a, b, c, rfl, ex_l e hS, q⟩
def gadA (one two : Int) (a b c : Str) (t : Int) : List Rw :=
  if one % 8 < 4 then fourM (one % 8) one two a b c t
  else if one % 8 = 4 then [.pick c [t, t, (t + 1) % 1000000000, (t + 1) % 1000000000, (t + 2) % 1000000000]] ++ [.lend a "write" (.thing (pick3 two t ((t + 1) % 1000000000) ((t + 2) % 1000000000))), .lend b (kindM (one / 8)) (.word c)] ++ [.fin, .fin, .fin]
  else if one % 8 = 5 then [.lend a "write" (.thing t), .lend b "read" (.word a), .either, .back (pick2 two a b)] ++ [.or, .look b, .fin, .look a, .fin, .fin]
  else if one % 8 = 6 then [.lend a (kindM (one / 8)) (.thing ((t + 1) % 1000000000)), .lend b (kindM two) (.thing t)] ++ [.lend c "write" (.thing t), .look b, .fin, .fin, .fin]
  else if two % 3 = 0 then [.lend a "write" (.thing t), .back a, .lend b (kindM (one / 8)) (.word a), .look b, .fin, .fin]
  else [.pick c [(t + 1) % 1000000000, t], .lend a "write" (.thing t), .either, .back a] ++ [.or, .fin, .lend b (kindM (one / 8)) (.word c), .look a, .fin, .fin, .fin]
def gadgetM (one two deep : Int) (d : Draw) : List Rw := gadA one two (wordM one two deep d) (wordM two one (deep + 1) d) (wordM one one (deep + 2) d) (thingM two d.base)
def spGadget (K : PySem.W.Frag) : Sp := fun vs H Q _ => ∃ (one two deep : Int) (a : Addr) (d : Draw), vs = [.int one, .int two, .int deep, .ref a] ∧ SqL K H a d.vs ∧ d.Ok ∧ 0 ≤ deep ∧ deep ≤ 18 ∧ Ret (LRows (gadgetM one two deep d)) H Q
theorem el_hands {one two deep : Int} {a : Addr} {d : Draw} {ta : TA} {σ : L2.St} {H : Hp} {E : XK} (h : EvA ta σ H [.int one, .int two, .int deep, .ref a]) (hS : SqL K H a d.vs) (ok : d.Ok) (h0 : 0 ≤ deep) (h1 : deep ≤ 18) :
    EvL (tCall (spHands K) [] E ta) σ H (namesM one two deep d) :=
  el_call h fun H1 e Q q E => ⟨one, two, deep, a, d, rfl, ex_l e hS, ok, h0, h1, fun p H2 hp e2 h2 => q p H2 hp e2 h2⟩
theorem ok_gadget (D : Dn K mg "_law_gadget" s_l_gadget ["_law_one", "_law_two", "_law_deep", "_law_draw_here"]) (h_l_hands : Has P w K mg base "_law_hands" 2 ["_law_one", "_law_two", "_law_deep", "_law_draw_here"] (spHands K)) (h_l_thing : Has P w K mg base "_law_thing" 1 ["_law_cell", "_law_base"] spThing) (h_l_first_four : Has P w K mg base "_law_first_four" 1 ["_law_way", "_law_one", "_law_two", "_law_names", "_law_thing_here"] (spFour K)) : Has P w K mg base "_law_gadget" 3 ["_law_one", "_law_two", "_law_deep", "_law_draw_here"] (spGadget K) := by
  refine D.ok sc_l_gadget (fun vs H Q E h => ?_) (fun f cdv A outer s H vs Q E hr h => ?_)
  · obtain ⟨one, two, deep, a, d, rfl, _⟩ := h
    rfl
  · obtain ⟨one, two, deep, ad, d, rfl, hS, ok, h0, h1, q⟩ := h
    refine ⟨_, (pss_cons (ps_set (i := 4) sc_l_gadget.nd rfl (Or.inl rfl) (pe_own h_l_hands (hr.mono (by decide)) (by rfl) (pa_cons (pv 0) (pa_cons (pv 1) (pa_cons (pv 2) (pa_cons (pv 3) pa_nil)))))) (pss_cons (ps_set (i := 5) sc_l_gadget.nd rfl (Or.inl rfl) (pe_ix (show IxR _ (rIxL K) from ix_list) (pv 4) pe_int (fun _ _ => rfl))) (pss_cons (ps_set (i := 6) sc_l_gadget.nd rfl (Or.inl rfl) (pe_ix (show IxR _ (rIxL K) from ix_list) (pv 4) pe_int (fun _ _ => rfl))) (pss_cons (ps_set (i := 7) sc_l_gadget.nd rfl (Or.inl rfl) (pe_own h_l_thing (hr.mono (by decide)) (by rfl) (pa_cons (pv 1) (pa_cons (pe_ix (show IxR _ (rIxL K) from ix_list) (pv 3) pe_int (fun _ _ => rfl)) pa_nil)))) (pss_cons (ps_set (i := 8) sc_l_gadget.nd rfl (Or.inl rfl) (pe_op op_mod (pe_op op_add (pv 7) pe_int) (pe_op op_pow pe_int pe_int))) (pss_cons (ps_set (i := 9) sc_l_gadget.nd rfl (Or.inl rfl) (pe_op op_mod (pe_op op_add (pv 7) pe_int) (pe_op op_pow pe_int pe_int))) (pss_cons (ps_set (i := 10) sc_l_gadget.nd rfl (Or.inl rfl) (pe_ix (show IxR _ (rIxL K) from ix_list) (pe_lst (pa_cons pe_str (pa_cons pe_str pa_nil))) (pe_op op_mod (pe_op op_fdiv (pv 0) pe_int) pe_int) (fun _ _ => rfl))) (pss_cons (ps_set (i := 11) sc_l_gadget.nd rfl (Or.inl rfl) (pe_tup (pa_cons pe_str pa_nil))) (pss_cons (ps_set (i := 12) sc_l_gadget.nd rfl (Or.inl rfl) (pe_op op_mod (pv 0) pe_int)) (pss_cons (ps_if (pt_cmpR op_lt (pv 12) pe_int (nomark _)) (pss_one (ps_ret (pe_own h_l_first_four (hr.mono (by decide)) (by rfl) (pa_cons (pv 12) (pa_cons (pv 0) (pa_cons (pv 1) (pa_cons (pv 4) (pa_cons (pv 7) pa_nil)))))))) pss_nil) (pss_cons (ps_if (pt_cmpR op_eq (pv 12) pe_int (nomark _)) (pss_cons (ps_set (i := 13) sc_l_gadget.nd rfl (Or.inl rfl) (pe_lst (pa_cons (pe_tup (pa_cons pe_str (pa_cons (pe_ix (show IxR _ (rIxL K) from ix_list) (pv 4) pe_int (fun _ _ => rfl)) (pa_cons (pe_tup (pa_cons (pv 7) (pa_cons (pv 7) (pa_cons (pv 8) (pa_cons (pv 8) (pa_cons (pv 9) pa_nil)))))) pa_nil)))) pa_nil))) (pss_cons (ps_set (i := 13) sc_l_gadget.nd rfl (Or.inl rfl) (pe_op op_cat (pv 13) (pe_lst (pa_cons (pe_tup (pa_cons pe_str (pa_cons (pv 5) (pa_cons pe_str (pa_cons (pe_ix (show IxR _ (rIxL K) from ix_list) (pe_lst (pa_cons (pv 7) (pa_cons (pv 8) (pa_cons (pv 9) pa_nil)))) (pe_op op_mod (pv 1) pe_int) (fun _ _ => rfl)) pa_nil))))) (pa_cons (pe_tup (pa_cons pe_str (pa_cons (pv 6) (pa_cons (pv 10) (pa_cons (pe_ix (show IxR _ (rIxL K) from ix_list) (pv 4) pe_int (fun _ _ => rfl)) pa_nil))))) pa_nil))))) (pss_one (ps_ret (pe_op op_cat (pv 13) (pe_lst (pa_cons (pv 11) (pa_cons (pv 11) (pa_cons (pv 11) pa_nil))))))))) pss_nil) (pss_cons (ps_if (pt_cmpR op_eq (pv 12) pe_int (nomark _)) (pss_cons (ps_set (i := 13) sc_l_gadget.nd rfl (Or.inl rfl) (pe_lst (pa_cons (pe_tup (pa_cons pe_str (pa_cons (pv 5) (pa_cons pe_str (pa_cons (pv 7) pa_nil))))) (pa_cons (pe_tup (pa_cons pe_str (pa_cons (pv 6) (pa_cons pe_str (pa_cons (pv 5) pa_nil))))) (pa_cons (pe_tup (pa_cons pe_str pa_nil)) (pa_cons (pe_tup (pa_cons pe_str (pa_cons (pe_ix (show IxR _ (rIxL K) from ix_list) (pe_lst (pa_cons (pv 5) (pa_cons (pv 6) pa_nil))) (pe_op op_mod (pv 1) pe_int) (fun _ _ => rfl)) pa_nil))) pa_nil)))))) (pss_one (ps_ret (pe_op op_cat (pv 13) (pe_lst (pa_cons (pe_tup (pa_cons pe_str pa_nil)) (pa_cons (pe_tup (pa_cons pe_str (pa_cons (pv 6) pa_nil))) (pa_cons (pv 11) (pa_cons (pe_tup (pa_cons pe_str (pa_cons (pv 5) pa_nil))) (pa_cons (pv 11) (pa_cons (pv 11) pa_nil))))))))))) pss_nil) (pss_cons (ps_if (pt_cmpR op_eq (pv 12) pe_int (nomark _)) (pss_cons (ps_set (i := 13) sc_l_gadget.nd rfl (Or.inl rfl) (pe_lst (pa_cons (pe_tup (pa_cons pe_str (pa_cons (pv 5) (pa_cons (pv 10) (pa_cons (pv 8) pa_nil))))) (pa_cons (pe_tup (pa_cons pe_str (pa_cons (pv 6) (pa_cons (pe_ix (show IxR _ (rIxL K) from ix_list) (pe_lst (pa_cons pe_str (pa_cons pe_str pa_nil))) (pe_op op_mod (pv 1) pe_int) (fun _ _ => rfl)) (pa_cons (pv 7) pa_nil))))) pa_nil)))) (pss_one (ps_ret (pe_op op_cat (pv 13) (pe_lst (pa_cons (pe_tup (pa_cons pe_str (pa_cons (pe_ix (show IxR _ (rIxL K) from ix_list) (pv 4) pe_int (fun _ _ => rfl)) (pa_cons pe_str (pa_cons (pv 7) pa_nil))))) (pa_cons (pe_tup (pa_cons pe_str (pa_cons (pv 6) pa_nil))) (pa_cons (pv 11) (pa_cons (pv 11) (pa_cons (pv 11) pa_nil)))))))))) pss_nil) (pss_cons (ps_if (pt_cmpR op_eq (pe_op op_mod (pv 1) pe_int) pe_int (nomark _)) (pss_one (ps_ret (pe_lst (pa_cons (pe_tup (pa_cons pe_str (pa_cons (pv 5) (pa_cons pe_str (pa_cons (pv 7) pa_nil))))) (pa_cons (pe_tup (pa_cons pe_str (pa_cons (pv 5) pa_nil))) (pa_cons (pe_tup (pa_cons pe_str (pa_cons (pv 6) (pa_cons (pv 10) (pa_cons (pv 5) pa_nil))))) (pa_cons (pe_tup (pa_cons pe_str (pa_cons (pv 6) pa_nil))) (pa_cons (pv 11) (pa_cons (pv 11) pa_nil))))))))) pss_nil) (pss_cons (ps_set (i := 13) sc_l_gadget.nd rfl (Or.inl rfl) (pe_lst (pa_cons (pe_tup (pa_cons pe_str (pa_cons (pe_ix (show IxR _ (rIxL K) from ix_list) (pv 4) pe_int (fun _ _ => rfl)) (pa_cons (pe_tup (pa_cons (pv 8) (pa_cons (pv 7) pa_nil))) pa_nil)))) (pa_cons (pe_tup (pa_cons pe_str (pa_cons (pv 5) (pa_cons pe_str (pa_cons (pv 7) pa_nil))))) (pa_cons (pe_tup (pa_cons pe_str pa_nil)) (pa_cons (pe_tup (pa_cons pe_str (pa_cons (pv 5) pa_nil))) pa_nil)))))) (pss_one (ps_ret (pe_op op_cat (pv 13) (pe_lst (pa_cons (pe_tup (pa_cons pe_str pa_nil)) (pa_cons (pv 11) (pa_cons (pe_tup (pa_cons pe_str (pa_cons (pv 6) (pa_cons (pv 10) (pa_cons (pe_ix (show IxR _ (rIxL K) from ix_list) (pv 4) pe_int (fun _ _ => rfl)) pa_nil))))) (pa_cons (pe_tup (pa_cons pe_str (pa_cons (pv 5) pa_nil))) (pa_cons (pv 11) (pa_cons (pv 11) (pa_cons (pv 11) pa_nil)))))))))))))))))))))))))), ?_⟩
    show (_ : L2.TS) _ [_, _, _, _, _, _, _, _, _, _, _, _, _, _] _
    unfold gadgetM at q
    refine q_asgL (xs := namesM one two deep d) ?_ (fun pn H1 hpn e1 h1n => ?_)
    · refine el_hands ?_ hS ok h0 h1
      walk_at "ev"
    unfold namesM at h1n
    generalize wordM one two deep d = a at *
    generalize wordM two one (deep + 1) d = b at *
    generalize wordM one one (deep + 2) d = c at *
    have hNm : SqL K H1 pn [.str a, .str b, .str c] := sq_of h1n
    refine' q_asg (v := .str a) ?_ (fun H2 e2 => ?_)
    · walk_at "ev"
    show (_ : L2.TS) _ [_, _, _, _, _, _, _, _, _, _, _, _, _, _] _
    refine' q_asg (v := .str b) ?_ (fun H3 e3 => ?_)
    · walk_at "ev"
    show (_ : L2.TS) _ [_, _, _, _, _, _, _, _, _, _, _, _, _, _] _
    refine' q_asg (v := .int (thingM two d.base)) ?_ (fun H4 e4 => ?_)
    · walk_at "ev"
    show (_ : L2.TS) _ [_, _, _, _, _, _, _, _, _, _, _, _, _, _] _
    generalize thingM two d.base = t at *
    unfold gadA at q
    refine' q_asg (v := .int ((t + 1) % 1000000000)) ?_ (fun H5 e5 => ?_)
    · walk_at "ev"
    show (_ : L2.TS) _ [_, _, _, _, _, _, _, _, _, _, _, _, _, _] _
    refine' q_asg (v := .int ((t + 2) % 1000000000)) ?_ (fun H6 e6 => ?_)
    · walk_at "ev"
    show (_ : L2.TS) _ [_, _, _, _, _, _, _, _, _, _, _, _, _, _] _
    generalize (t + 1) % 1000000000 = far at *
    generalize (t + 2) % 1000000000 = last at *
    refine' q_asg (v := .str (kindM (one / 8))) ?_ (fun H7 e7 => ?_)
    · walk_at "ev"
    show (_ : L2.TS) _ [_, _, _, _, _, _, _, _, _, _, _, _, _, _] _
    refine' q_asgP (R := ARow .fin) ?_ (fun v H8 e8 hv => ?_)
    · walk_at "row"
    show (_ : L2.TS) _ [_, _, _, _, _, _, _, _, _, _, _, _, _, _] _
    have hv : IsRow H8 v .fin := hv
    refine' q_asg (v := .int (one % 8)) ?_ (fun H9 e9 => ?_)
    · walk_at "ev"
    show (_ : L2.TS) _ [_, _, _, _, _, _, _, _, _, _, _, _, _, _] _
    refine' q_when (b := decide (one % 8 < 4)) ?_ (fun hb H10 e10 => ?_) (fun hb H10 e10 => ?_)
    · walk_at "ev"
    · simp only [decide_eq_true_eq] at hb
      rw [if_pos hb] at q
      refine s_retP (ep_four (p := pn) ?_ ?_) (fun v H11 e11 hv => q v H11 (by walk_at "ex") hv)
      · walk_at "ev"
      · walk_at "ev"
    · simp only [decide_eq_false_iff_not] at hb
      rw [if_neg hb] at q
      refine' q_when (b := decide (V.int (one % 8) = V.int 4)) ?_ (fun hb H11 e11 => ?_) (fun hb H11 e11 => ?_)
      · walk_at "ev"
      · simp only [decide_eq_true_eq, V.int.injEq] at hb
        rw [if_pos hb] at q
        refine' q_asgP (R := LRows [.pick c [t, t, far, far, last]]) ?_ (fun u H12 e12 hu => ?_)
        · walk_at "row"
        show (_ : L2.TS) _ [_, _, _, _, _, _, _, _, _, _, _, _, _, _] _
        refine' q_asgP (R := LRows ([.pick c [t, t, far, far, last]] ++ [.lend a "write" (.thing (pick3 two t far last)), .lend b (kindM (one / 8)) (.word c)])) ?_ (fun u H13 e13 hu => ?_)
        · walk_at "row"
        show (_ : L2.TS) _ [_, _, _, _, _, _, _, _, _, _, _, _, _, _] _
        refine s_retP ?_ (fun v H14 e14 hv => q v H14 (by walk_at "ex") hv)
        walk_at "row"
      · simp only [decide_eq_false_iff_not, V.int.injEq] at hb
        rw [if_neg hb] at q
        refine' q_when (b := decide (V.int (one % 8) = V.int 5)) ?_ (fun hb H12 e12 => ?_) (fun hb H12 e12 => ?_)
        · walk_at "ev"
        · simp only [decide_eq_true_eq, V.int.injEq] at hb
          rw [if_pos hb] at q
          refine' q_asgP (R := LRows [.lend a "write" (.thing t), .lend b "read" (.word a), .either, .back (pick2 two a b)]) ?_ (fun u H13 e13 hu => ?_)
          · walk_at "row"
          show (_ : L2.TS) _ [_, _, _, _, _, _, _, _, _, _, _, _, _, _] _
          refine s_retP ?_ (fun v H14 e14 hv => q v H14 (by walk_at "ex") hv)
          walk_at "row"
        · simp only [decide_eq_false_iff_not, V.int.injEq] at hb
          rw [if_neg hb] at q
          refine' q_when (b := decide (V.int (one % 8) = V.int 6)) ?_ (fun hb H13 e13 => ?_) (fun hb H13 e13 => ?_)
          · walk_at "ev"
          · simp only [decide_eq_true_eq, V.int.injEq] at hb
            rw [if_pos hb] at q
            refine' q_asgP (R := LRows [.lend a (kindM (one / 8)) (.thing far), .lend b (kindM two) (.thing t)]) ?_ (fun u H14 e14 hu => ?_)
            · walk_at "row"
            show (_ : L2.TS) _ [_, _, _, _, _, _, _, _, _, _, _, _, _, _] _
            refine s_retP ?_ (fun v H15 e15 hv => q v H15 (by walk_at "ex") hv)
            walk_at "row"
          · simp only [decide_eq_false_iff_not, V.int.injEq] at hb
            rw [if_neg hb] at q
            refine' q_when (b := decide (V.int (two % 3) = V.int 0)) ?_ (fun hb H14 e14 => ?_) (fun hb H14 e14 => ?_)
            · walk_at "ev"
            · simp only [decide_eq_true_eq, V.int.injEq] at hb
              rw [if_pos hb] at q
              refine s_retP ?_ (fun v H15 e15 hv => q v H15 (by walk_at "ex") hv)
              walk_at "row"
            · simp only [decide_eq_false_iff_not, V.int.injEq] at hb
              rw [if_neg hb] at q
              refine' q_asgP (R := LRows [.pick c [far, t], .lend a "write" (.thing t), .either, .back a]) ?_ (fun u H15 e15 hu => ?_)
              · walk_at "row"
              show (_ : L2.TS) _ [_, _, _, _, _, _, _, _, _, _, _, _, _, _] _
              refine s_retP ?_ (fun v H16 e16 hv => q v H16 (by walk_at "ex") hv)
              walk_at "row"
theorem ep_gadget {one two deep : Int} {a : Addr} {d : Draw} {ta : TA} {σ : L2.St} {H : Hp} {E : XK} (h : EvA ta σ H [.int one, .int two, .int deep, .ref a]) (hS : SqL K H a d.vs) (ok : d.Ok) (h0 : 0 ≤ deep) (h1 : deep ≤ 18) :
    EvP (tCall (spGadget K) [] E ta) σ H (LRows (gadgetM one two deep d)) :=
  ep_call h fun H1 e Q q E => ⟨one, two, deep, a, d, rfl, ex_l e hS, ok, h0, h1, q⟩
end
end BD
namespace BD
open PySem PySem.Spec PyProof.Rows L2 Evl
local macro_rules | `(tactic| walk_at "ev") => `(tactic| first
  | ((with_reducible apply ev_var) ; rfl)
  | with_reducible exact ev_c
  | ((with_reducible apply ev_I0) <;> walk_at "ev")
  | ((with_reducible apply ev_e9) <;> walk_at "ev")
  | ((with_reducible apply ev_I) <;> walk_at "ev")
  | ((with_reducible apply ev_eq) <;> walk_at "ev")
  | ((with_reducible apply ev_ne) <;> walk_at "ev")
  | ((with_reducible apply ev_neg) <;> walk_at "ev")
  | ((with_reducible apply ev_ixN) <;> walk_at "ev")
  | ((with_reducible apply ev_ixL) <;> walk_at "ev")
  | ((with_reducible apply ev_inN) <;> walk_at "ev")
  | ((with_reducible apply ev_inT) <;> walk_at "ev")
  | ((with_reducible apply ev_ixT) <;> walk_at "ev")
  | ((with_reducible apply ev_ixS) <;> walk_at "ev")
  | ((with_reducible apply ev_len') <;> walk_at "ev")
  | ((with_reducible apply et_test) <;> walk_at "ev")
  | ((with_reducible apply et_and) <;> walk_at "ev")
  | ((with_reducible apply et_or) <;> walk_at "ev")
  | ((with_reducible apply et_not) <;> walk_at "ev")
  | ((with_reducible apply et_B) <;> walk_at "ev")
  | ((with_reducible apply el_lst) <;> walk_at "ev")
  | ((with_reducible apply eu_tup) <;> walk_at "ev")
  | ((with_reducible apply ea_cons) <;> walk_at "ev")
  | with_reducible exact ea_nil
  | with_reducible assumption
  | ((with_reducible apply ex_l' ; assumption) ; walk_at "ex")
  | ((with_reducible apply ex_t' ; assumption) ; walk_at "ex")
  | (intro _ ; walk_at "ev")
  | (with_reducible first | exact atI_hd | exact at_kind | exact at2s | exact at3s | exact at3i)
  | (first | exact rfl | exact Nat.le_of_ble_eq_true rfl | exact ⟨by decide, by decide⟩ | decide | exact Or.inl ⟨by omega, by omega⟩ | exact Or.inr ⟨by omega, by omega⟩ | omega)
  | skip)
local macro_rules | `(tactic| walk_at "ex") => `(tactic| first
  | assumption
  | exact Ex.refl _
  | (refine' Ex.trans ?_ (by assumption) ; walk_at "ex"))
local macro_rules | `(tactic| walk_at "row") => `(tactic| first
  | (with_reducible exact er_nil)
  | ((with_reducible apply er_cons) <;> walk_at "row")
  | (((with_reducible apply er_var) ; rfl) ; walk_at "isrow")
  | (((with_reducible apply elr_var) ; rfl) ; walk_at "isrow")
  | ((with_reducible apply elr_cat) <;> walk_at "row")
  | ((with_reducible apply elr_lst) <;> walk_at "row")
  | ((with_reducible apply er_fin) <;> walk_at "ev")
  | ((with_reducible apply er_lendT) <;> walk_at "ev")
  | ((with_reducible apply er_lendW) <;> walk_at "ev")
  | ((with_reducible apply er_pick) <;> walk_at "ev")
  | ((with_reducible apply er_either) <;> walk_at "ev")
  | ((with_reducible apply er_or) <;> walk_at "ev")
  | ((with_reducible apply er_again) <;> walk_at "ev")
  | ((with_reducible apply er_back) <;> walk_at "ev")
  | ((with_reducible apply er_look) <;> walk_at "ev")
  | ((with_reducible apply er_change) <;> walk_at "ev")
  | exact Nat.le_of_ble_eq_true rfl
  | skip)
local macro_rules | `(tactic| walk_at "isrow") => `(tactic| first
  | assumption
  | (refine IsRow.up ?_ (by assumption) ; walk_at "ex")
  | (refine LRows.up ?_ (by assumption) ; walk_at "ex"))

local macro_rules | `(tactic| walk_at "ev") => `(tactic| ((with_reducible apply ev_letter) <;> walk_at "ev"))
local macro_rules | `(tactic| walk_at "ev") => `(tactic| ((with_reducible apply ev_cell) <;> walk_at "ev"))
local macro_rules | `(tactic| walk_at "ev") => `(tactic| ((with_reducible apply ev_word) <;> walk_at "ev"))
local macro_rules | `(tactic| walk_at "ev") => `(tactic| ((with_reducible apply ev_thing) <;> walk_at "ev"))

local macro_rules | `(tactic| walk_at "ev") => `(tactic| (((with_reducible apply ev_tag) ; rfl) ; walk_at "isrow"))
abbrev s_l_row : Stmt := topS 15
theorem sc_l_row : FnScope ["_law_way", "_law_one", "_law_two", "_law_opened", "_law_draw_here", "_law_named", "_law_hands_here", "_law_things", "_law_row_here", "_law_k"] ["_law_way", "_law_one", "_law_two", "_law_opened", "_law_draw_here"] (defScope s_l_row) := ⟨rfl, rfl, rfl, by decide +kernel, rfl, by decide +kernel, by decide +kernel⟩
section
variable {P : Program} {w : World} {K : PySem.W.Frag} {mg : Str → Option Value} {base : Heap}
def rowN (way one two : Int) (opened named hands : List Rw) (d : Draw) : Rw :=
  if way < 4 ∧ (hands.length : Int) < 6 then lendM one two named d
  else if way = 4 ∧ (named.length : Int) - hands.length < 3 then .pick (wordM one two named.length d) ((List.range (1 + one % 5).toNat).map fun (k : Nat) => thingM (two + (k : Int) * (1 + one % 2)) d.base)
  else if way = 5 ∧ (opened.length : Int) < 12 then .either
  else if way = 6 ∧ (opened.length : Int) < 12 then .again
  else if way = 7 ∧ 0 < (opened.length : Int) ∧ (opened.getD (opened.length - 1) .fin).isEither = true then .or
  else if way < 10 ∧ 0 < (hands.length : Int) then deedM one two hands
  else if 0 < (opened.length : Int) then .fin
  else lendM one two named d
def rowM (way one two : Int) (opened : List Rw) (d : Draw) : Rw := rowN way one two opened (opened.filter Rw.named) ((opened.filter Rw.named).filter Rw.isLend) d
def spRow (K : PySem.W.Frag) : Sp := fun vs H Q _ => ∃ (way one two : Int) (o a : Addr) (ov : List V) (opened : List Rw) (d : Draw), vs = [.int way, .int one, .int two, .ref o, .ref a] ∧ SqL K H o ov ∧ Rows H ov opened ∧ opened.length ≤ 1000 ∧ (opened.filter Rw.named).length ≤ 18 ∧
  SqL K H a d.vs ∧ d.Ok ∧ Ret (ARow (rowM way one two opened d)) H Q
theorem in56 (way : Int) : inV (.int way) [V.int 5, V.int 6] = decide (way = 5 ∨ way = 6) := by
  unfold inV
  show (List.any [V.int 5, V.int 6] fun y => eqV y (.int way)) = _
  show ((5 : Int) == way || ((6 : Int) == way || false)) = _
  by_cases h5 : way = 5
  · subst h5; rfl
  · by_cases h6 : way = 6
    · subst h6; rfl
    · rw [decide_eq_false (fun z => z.elim h5 h6), beq_eq_false_iff_ne.mpr (Ne.symm h5), beq_eq_false_iff_ne.mpr (Ne.symm h6)]
      rfl
theorem ok_row (D : Dn K mg "_law_row" s_l_row ["_law_way", "_law_one", "_law_two", "_law_opened", "_law_draw_here"]) (T : Blt mg) (h_l_lend : Has P w K mg base "_law_lend" 2 ["_law_one", "_law_two", "_law_named", "_law_draw_here"] (spLend K)) (h_l_thing : Has P w K mg base "_law_thing" 1 ["_law_cell", "_law_base"] spThing) (h_l_word : Has P w K mg base "_law_word" 1 ["_law_one", "_law_two", "_law_deep", "_law_draw_here"] (spWord K)) (h_l_deed : Has P w K mg base "_law_deed" 1 ["_law_one", "_law_two", "_law_hands_here"] (spDeed K)) : Has P w K mg base "_law_row" 3 ["_law_way", "_law_one", "_law_two", "_law_opened", "_law_draw_here"] (spRow K) := by
  refine D.ok sc_l_row (fun vs H Q E h => ?_) (fun f cdv A outer s H vs Q E hr h => ?_)
  · obtain ⟨way, one, two, o, a, ov, opened, d, rfl, _⟩ := h
    rfl
  · obtain ⟨way, one, two, o, a, ov, opened, d, rfl, hO, hR, hlen, hlen2, hS, ok, q⟩ := h
    have hlo := hR.len
    refine ⟨_, (pss_cons (ps_setLc (i := 5) (own := [("_law_row_here", 8)]) (g := (gName 8))  rfl sc_l_row.nd rfl rfl (sw_true rfl rfl rfl (by decide +kernel)) (pi_list (pv 3)) (blkOk_by (own := [("_law_row_here", 8)]) (N := ["_law_way", "_law_one", "_law_two", "_law_opened", "_law_draw_here", "_law_named", "_law_hands_here", "_law_things", "_law_row_here", "_law_k"]) (sc := defScope s_l_row) (by decide +kernel)) (fun _ _ _ _ _ => (pg_name (i := 8) sc_l_row.nd rfl (Or.inl rfl))) (fun _ _ _ _ _ => (pts_one (pt_cmpR (show OpR _ _ (rIn K false) from op_in_seq) (pe_ix (show IxR _ (rIxT K) from ix_tup) (pv 8) pe_int (fun _ _ => rfl)) (pe_lst (pa_cons pe_str (pa_cons pe_str pa_nil))) (by rfl)))) (fun _ _ _ _ _ => (pv 8))) (pss_cons (ps_setLc (i := 6) (own := [("_law_row_here", 8)]) (g := (gName 8))  rfl sc_l_row.nd rfl rfl (sw_true rfl rfl rfl (by decide +kernel)) (pi_list (pv 5)) (blkOk_by (own := [("_law_row_here", 8)]) (N := ["_law_way", "_law_one", "_law_two", "_law_opened", "_law_draw_here", "_law_named", "_law_hands_here", "_law_things", "_law_row_here", "_law_k"]) (sc := defScope s_l_row) (by decide +kernel)) (fun _ _ _ _ _ => (pg_name (i := 8) sc_l_row.nd rfl (Or.inl rfl))) (fun _ _ _ _ _ => (pts_one (pt_cmpR op_eq (pe_ix (show IxR _ (rIxT K) from ix_tup) (pv 8) pe_int (fun _ _ => rfl)) pe_str (nomark _)))) (fun _ _ _ _ _ => (pv 8))) (pss_cons (ps_if (PW.pt (pw_and (pt_cmpR op_lt (pv 0) pe_int (nomark _)) (pw_and1 (pt_cmpR op_lt (pe_callB (show CallR _ _ (rLenS K) from call_len_seq) (by rfl) T.len_ (by decide +kernel) (pa_cons (pv 6) pa_nil)) pe_int (nomark _))))) (pss_one (ps_ret (pe_own h_l_lend (hr.mono (by decide)) (by rfl) (pa_cons (pv 1) (pa_cons (pv 2) (pa_cons (pv 5) (pa_cons (pv 4) pa_nil))))))) pss_nil) (pss_cons (ps_if (PW.pt (pw_and (pt_cmpR op_eq (pv 0) pe_int (nomark _)) (pw_and1 (pt_cmpR op_lt (pe_op op_sub (pe_callB (show CallR _ _ (rLenS K) from call_len_seq) (by rfl) T.len_ (by decide +kernel) (pa_cons (pv 5) pa_nil)) (pe_callB (show CallR _ _ (rLenS K) from call_len_seq) (by rfl) T.len_ (by decide +kernel) (pa_cons (pv 6) pa_nil))) pe_int (nomark _))))) (pss_cons (ps_set (i := 7) sc_l_row.nd rfl (Or.inl rfl) (pe_callTy (show CallR _ _ (rTupS K) from call_tuple_of) (by rfl) T.tuple_ (by decide +kernel) (pa_cons (pe_lc (own := [("_law_k", 9)]) (g := (gName 9)) (tt := tYes) rfl sc_l_row.nd (pi_range1 (by rfl) T.range_ (pa_cons (pe_op op_add pe_int (pe_op op_mod (pv 1) pe_int)) pa_nil)) (blkOk_by (own := [("_law_k", 9)]) (N := ["_law_way", "_law_one", "_law_two", "_law_opened", "_law_draw_here", "_law_named", "_law_hands_here", "_law_things", "_law_row_here", "_law_k"]) (sc := defScope s_l_row) (by decide +kernel)) (fun _ _ _ _ _ => (pg_name (i := 9) sc_l_row.nd rfl (Or.inl rfl))) (fun _ _ _ _ _ => pts_nil) (fun _ _ _ _ _ => (pe_own h_l_thing (hr.mono (by decide)) (by rfl) (pa_cons (pe_op op_add (pv 2) (pe_op op_mul (pv 9) (pe_op op_add pe_int (pe_op op_mod (pv 1) pe_int)))) (pa_cons (pe_ix (show IxR _ (rIxL K) from ix_list) (pv 4) pe_int (fun _ _ => rfl)) pa_nil))))) pa_nil))) (pss_one (ps_ret (pe_tup (pa_cons pe_str (pa_cons (pe_own h_l_word (hr.mono (by decide)) (by rfl) (pa_cons (pv 1) (pa_cons (pv 2) (pa_cons (pe_callB (show CallR _ _ (rLenS K) from call_len_seq) (by rfl) T.len_ (by decide +kernel) (pa_cons (pv 5) pa_nil)) (pa_cons (pv 4) pa_nil))))) (pa_cons (pv 7) pa_nil))))))) pss_nil) (pss_cons (ps_if (PW.pt (pw_and (pt_cmpR (show OpR _ _ (rIn K false) from op_in_seq) (pv 0) (pe_lst (pa_cons pe_int (pa_cons pe_int pa_nil))) (by rfl)) (pw_and1 (pt_cmpR op_lt (pe_callB (show CallR _ _ (rLenS K) from call_len_seq) (by rfl) T.len_ (by decide +kernel) (pa_cons (pv 3) pa_nil)) pe_int (nomark _))))) (pss_one (ps_ret (pe_tup (pa_cons (pe_ix (show IxR _ (rIxL K) from ix_list) (pe_lst (pa_cons pe_str (pa_cons pe_str pa_nil))) (pe_op op_sub (pv 0) pe_int) (fun _ _ => rfl)) pa_nil)))) pss_nil) (pss_cons (ps_if (PW.pt (pw_and (pt_cmpR op_eq (pv 0) pe_int (nomark _)) (pw_and (pt_cmpR op_gt (pe_callB (show CallR _ _ (rLenS K) from call_len_seq) (by rfl) T.len_ (by decide +kernel) (pa_cons (pv 3) pa_nil)) pe_int (nomark _)) (pw_and1 (pt_cmpR op_eq (pe_ix (show IxR _ (rIxT K) from ix_tup) (pe_ix (show IxR _ (rIxL K) from ix_list) (pv 3) (pe_un un_neg pe_int) (fun _ _ => rfl)) pe_int (fun _ _ => rfl)) pe_str (nomark _)))))) (pss_one (ps_ret (pe_tup (pa_cons pe_str pa_nil)))) pss_nil) (pss_cons (ps_if (PW.pt (pw_and (pt_cmpR op_lt (pv 0) pe_int (nomark _)) (pw_and1 (pt_cmpR op_gt (pe_callB (show CallR _ _ (rLenS K) from call_len_seq) (by rfl) T.len_ (by decide +kernel) (pa_cons (pv 6) pa_nil)) pe_int (nomark _))))) (pss_one (ps_ret (pe_own h_l_deed (hr.mono (by decide)) (by rfl) (pa_cons (pv 1) (pa_cons (pv 2) (pa_cons (pv 6) pa_nil)))))) pss_nil) (pss_cons (ps_if (pt_cmpR op_gt (pe_callB (show CallR _ _ (rLenS K) from call_len_seq) (by rfl) T.len_ (by decide +kernel) (pa_cons (pv 3) pa_nil)) pe_int (nomark _)) (pss_one (ps_ret (pe_tup (pa_cons pe_str pa_nil)))) pss_nil) (pss_one (ps_ret (pe_own h_l_lend (hr.mono (by decide)) (by rfl) (pa_cons (pv 1) (pa_cons (pv 2) (pa_cons (pv 5) (pa_cons (pv 4) pa_nil))))))))))))))), ?_⟩
    show (_ : L2.TS) _ [_, _, _, _, _, _, _, _, _, _] _
    refine q_asgPL (epl_filter Rw.named (ev_var rfl) hO hR (by omega) (fun x => rfl) (fun x r H1 e hx => ?_) (fun x => rfl)) (fun pn nv H1 hpn e1 h1 hNv => ?_)
    · rw [← tag_named r]
      walk_at "ev"
    show (_ : L2.TS) _ [_, _, _, _, _, _, _, _, _, _] _
    have hN : SqL K H1 pn nv := sq_of h1
    have hln : nv.length = (opened.filter Rw.named).length := hNv.len
    have hln2 : (opened.filter Rw.named).length ≤ opened.length := List.length_filter_le _ _
    refine q_asgPL (epl_filter Rw.isLend (ev_var rfl) hN hNv (by omega) (fun x => rfl) (fun x r H1 e hx => ?_) (fun x => rfl)) (fun ph hv H2 hph e2 h2 hHv => ?_)
    · rw [← tag_lend r]
      walk_at "ev"
    show (_ : L2.TS) _ [_, _, _, _, _, _, _, _, _, _] _
    have hH : SqL K H2 ph hv := sq_of h2
    have hlh : hv.length = ((opened.filter Rw.named).filter Rw.isLend).length := hHv.len
    have hall : ∀ r ∈ opened.filter Rw.named, r.named = true := fun r hr => (List.mem_filter.mp hr).2
    have hallH : ∀ r ∈ (opened.filter Rw.named).filter Rw.isLend, r.isLend = true := fun r hr => (List.mem_filter.mp hr).2
    unfold rowM rowN at q
    generalize hnm : opened.filter Rw.named = named at *
    generalize hhm : named.filter Rw.isLend = hands at *
    have hlnm : named.length ≤ 20 := by omega
    have hNv2 := hNv.up e2
    rw [← hlo, ← hln, ← hlh] at q
    refine' q_when (b := decide (way < 4) && decide ((hv.length : Int) < 6)) ?_ (fun hb H3 e3 => ?_) (fun hb H3 e3 => ?_)
    · walk_at "ev"
    · simp only [Bool.and_eq_true, decide_eq_true_eq] at hb
      rw [if_pos hb] at q
      refine s_retP (ev_lend (n := pn) (a := a) (ns := nv) (d := d) ?_ ?_ (hNv2.up e3) hall hlnm ?_ ok) (fun v H4 e4 hv => q v H4 (by walk_at "ex") hv)
      · walk_at "ev"
      · walk_at "ev"
      · walk_at "ev"
    · simp only [Bool.and_eq_false_iff, decide_eq_false_iff_not] at hb
      rw [if_neg (fun z => hb.elim (fun y => y z.1) (fun y => y z.2))] at q
      refine' q_when (b := decide (V.int way = V.int 4) && decide ((nv.length : Int) - hv.length < 3)) ?_ (fun hb H4 e4 => ?_) (fun hb H4 e4 => ?_)
      · walk_at "ev"
      · simp only [Bool.and_eq_true, decide_eq_true_eq, V.int.injEq] at hb
        rw [if_pos hb] at q
        refine q_asgU (xs := ((List.range (1 + one % 5).toNat).map fun (k : Nat) => thingM (two + (k : Int) * (1 + one % 2)) d.base).map V.int) ?_ (fun pt H5 hpt e5 h5 => ?_)
        · refine eu_tuple ?_
          have hg := given_all (1 + one % 5).toNat (fun k => V.int (thingM (two + (k : Int) * (1 + one % 2)) d.base))
          rw [List.map_map]
          show EvL _ _ _ ((List.range (1 + one % 5).toNat).map fun (k : Nat) => V.int (thingM (two + (k : Int) * (1 + one % 2)) d.base))
          rw [← hg]
          refine el_lcR1 _ _ (n := 1 + one % 5) ?_ ⟨by omega, by omega⟩ (fun x => rfl) (fun i H6 e6 hi => et_yes) (fun i H6 e6 hi _ => ?_)
          · walk_at "ev"
          · walk_at "ev"
        · show (_ : L2.TS) _ [_, _, _, _, _, _, _, _, _, _] _
          refine s_retP (er_pickV (q := pt) ?_ h5) (fun v H6 e6 hv => q v H6 (by walk_at "ex") hv)
          walk_at "ev"
      · simp only [Bool.and_eq_false_iff, decide_eq_false_iff_not, V.int.injEq] at hb
        rw [if_neg (fun z => hb.elim (fun y => y z.1) (fun y => y z.2))] at q
        refine' q_when (b := decide (way = 5 ∨ way = 6) && decide ((ov.length : Int) < 12)) ?_ (fun hb H5 e5 => ?_) (fun hb H5 e5 => ?_)
        · rw [← in56]
          walk_at "ev"
        · simp only [Bool.and_eq_true, decide_eq_true_eq] at hb
          obtain ⟨hw | hw, hlt⟩ := hb
          · subst hw
            rw [if_pos ⟨rfl, hlt⟩] at q
            refine s_retP (er_either ?_) (fun v H6 e6 hv => q v H6 (by walk_at "ex") hv)
            walk_at "ev"
          · subst hw
            rw [if_neg (fun z => absurd z.1 (by decide)), if_pos ⟨rfl, hlt⟩] at q
            refine s_retP (er_again ?_) (fun v H6 e6 hv => q v H6 (by walk_at "ex") hv)
            walk_at "ev"
        · simp only [Bool.and_eq_false_iff, decide_eq_false_iff_not] at hb
          rw [if_neg (fun z => hb.elim (fun y => y (.inl z.1)) (fun y => y z.2)), if_neg (fun z => hb.elim (fun y => y (.inr z.1)) (fun y => y z.2))] at q
          by_cases h0 : 0 < ov.length
          · obtain ⟨x, hx, hX⟩ := rows_last hR h0
            rw [← hlo] at hX
            have hX5 : IsRow H5 x (opened.getD (ov.length - 1) .fin) := hX.up (by walk_at "ex")
            obtain ⟨px, xs, rfl, hpx⟩ := hX5.tup
            have hPx : SqT K H5 px (.str (opened.getD (ov.length - 1) .fin).tag :: xs) := st_of hpx
            refine' q_when (b := decide (V.int way = V.int 7) && (decide ((0 : Int) < ov.length) && (opened.getD (ov.length - 1) .fin).isEither)) ?_ (fun hb H6 e6 => ?_) (fun hb H6 e6 => ?_)
            · rw [← tag_either]
              walk_at "ev"
            · simp only [Bool.and_eq_true, decide_eq_true_eq, V.int.injEq] at hb
              rw [if_pos hb] at q
              refine s_retP (er_or ?_) (fun v H7 e7 hv => q v H7 (by walk_at "ex") hv)
              walk_at "ev"
            · simp only [Bool.and_eq_false_iff, decide_eq_false_iff_not, V.int.injEq] at hb
              rw [if_neg (fun z => hb.elim (fun y => y z.1) (fun y => y.elim (fun u => u z.2.1) (fun u => by rw [z.2.2] at u; cases u)))] at q
              refine' q_when (b := decide (way < 10) && decide ((0 : Int) < hv.length)) ?_ (fun hb H7 e7 => ?_) (fun hb H7 e7 => ?_)
              · walk_at "ev"
              · simp only [Bool.and_eq_true, decide_eq_true_eq] at hb
                rw [if_pos hb] at q
                refine s_retP (ev_deed (n := ph) (ns := hv) ?_ ?_ (hHv.up (by walk_at "ex")) hallH (by omega)) (fun v H8 e8 hv => q v H8 (by walk_at "ex") hv)
                · walk_at "ev"
                · walk_at "ev"
              · simp only [Bool.and_eq_false_iff, decide_eq_false_iff_not] at hb
                rw [if_neg (fun z => hb.elim (fun y => y z.1) (fun y => y z.2))] at q
                rw [if_pos (by omega)] at q
                refine' q_when (b := decide ((0 : Int) < ov.length)) ?_ (fun hb H8 e8 => ?_) (fun hb H8 e8 => ?_)
                · walk_at "ev"
                · refine s_retP (er_fin ?_) (fun v H9 e9 hv => q v H9 (by walk_at "ex") hv)
                  walk_at "ev"
                · exact absurd (by omega) (of_decide_eq_false hb)
          · have h00 : ¬ (0 : Int) < ov.length := by omega
            have hh0 : ¬ (0 : Int) < hv.length := by
              have := List.length_filter_le Rw.isLend named
              rw [hhm] at this
              omega
            rw [if_neg (fun z => h00 z.2.1), if_neg (fun z => hh0 z.2), if_neg h00] at q
            refine' q_when (b := false) ?_ (fun hb H6 e6 => ?_) (fun hb H6 e6 => ?_)
            · refine et_is (et_and (a := decide (V.int way = V.int 7)) (b := false) ?_ (fun _ => et_is (et_and (a := decide ((0 : Int) < ov.length)) (b := false) ?_ (fun z => absurd (of_decide_eq_true z) h00)) (Bool.and_false _))) (Bool.and_false _)
              · walk_at "ev"
              · walk_at "ev"
            · cases hb
            · refine' q_when (b := decide (way < 10) && decide ((0 : Int) < hv.length)) ?_ (fun hb H7 e7 => ?_) (fun hb H7 e7 => ?_)
              · walk_at "ev"
              · simp only [Bool.and_eq_true, decide_eq_true_eq] at hb
                exact absurd hb.2 hh0
              · refine' q_when (b := decide ((0 : Int) < ov.length)) ?_ (fun hb H8 e8 => ?_) (fun hb H8 e8 => ?_)
                · walk_at "ev"
                · exact absurd (of_decide_eq_true hb) h00
                · refine s_retP (ev_lend (n := pn) (a := a) (ns := nv) (d := d) ?_ ?_ (hNv2.up (by walk_at "ex")) hall hlnm ?_ ok) (fun v H4 e4 hv => q v H4 (by walk_at "ex") hv)
                  · walk_at "ev"
                  · walk_at "ev"
                  · walk_at "ev"
theorem ep_row {way one two : Int} {o a : Addr} {ov : List V} {opened : List Rw} {d : Draw} {ta : TA} {σ : L2.St} {H : Hp} {E : XK} (h : EvA ta σ H [.int way, .int one, .int two, .ref o, .ref a]) (hO : SqL K H o ov) (hR : Rows H ov opened) (hl : opened.length ≤ 1000) (hl2 : (opened.filter Rw.named).length ≤ 18)
    (hS : SqL K H a d.vs) (ok : d.Ok) : EvP (tCall (spRow K) [] E ta) σ H (ARow (rowM way one two opened d)) :=
  ep_call h fun H1 e Q q E => ⟨way, one, two, o, a, ov, opened, d, rfl, ex_l e hO, hR.up e, hl, hl2, ex_l e hS, ok, q⟩
end
end BD
namespace BD
open PySem PySem.Spec PyProof.Rows L2 Evl
local macro_rules | `(tactic| walk_at "ev") => `(tactic| first
  | ((with_reducible apply ev_var) ; rfl)
  | with_reducible exact ev_c
  | ((with_reducible apply ev_I0) <;> walk_at "ev")
  | ((with_reducible apply ev_e9) <;> walk_at "ev")
  | ((with_reducible apply ev_I) <;> walk_at "ev")
  | ((with_reducible apply ev_eq) <;> walk_at "ev")
  | ((with_reducible apply ev_ne) <;> walk_at "ev")
  | ((with_reducible apply ev_neg) <;> walk_at "ev")
  | ((with_reducible apply ev_ixN) <;> walk_at "ev")
  | ((with_reducible apply ev_ixL) <;> walk_at "ev")
  | ((with_reducible apply ev_inN) <;> walk_at "ev")
  | ((with_reducible apply ev_inT) <;> walk_at "ev")
  | ((with_reducible apply ev_ixT) <;> walk_at "ev")
  | ((with_reducible apply ev_ixS) <;> walk_at "ev")
  | ((with_reducible apply ev_len') <;> walk_at "ev")
  | ((with_reducible apply et_test) <;> walk_at "ev")
  | ((with_reducible apply et_and) <;> walk_at "ev")
  | ((with_reducible apply et_or) <;> walk_at "ev")
  | ((with_reducible apply et_not) <;> walk_at "ev")
  | ((with_reducible apply et_B) <;> walk_at "ev")
  | ((with_reducible apply el_lst) <;> walk_at "ev")
  | ((with_reducible apply eu_tup) <;> walk_at "ev")
  | ((with_reducible apply ea_cons) <;> walk_at "ev")
  | with_reducible exact ea_nil
  | with_reducible assumption
  | ((with_reducible apply ex_l' ; assumption) ; walk_at "ex")
  | ((with_reducible apply ex_t' ; assumption) ; walk_at "ex")
  | (intro _ ; walk_at "ev")
  | (with_reducible first | exact atI_hd | exact at_kind | exact at2s | exact at3s | exact at3i)
  | (first | exact rfl | exact Nat.le_of_ble_eq_true rfl | exact ⟨by decide, by decide⟩ | decide | exact Or.inl ⟨by omega, by omega⟩ | exact Or.inr ⟨by omega, by omega⟩ | omega)
  | skip)
local macro_rules | `(tactic| walk_at "ex") => `(tactic| first
  | assumption
  | exact Ex.refl _
  | (refine' Ex.trans ?_ (by assumption) ; walk_at "ex"))
local macro_rules | `(tactic| walk_at "row") => `(tactic| first
  | (with_reducible exact er_nil)
  | ((with_reducible apply er_cons) <;> walk_at "row")
  | (((with_reducible apply er_var) ; rfl) ; walk_at "isrow")
  | (((with_reducible apply elr_var) ; rfl) ; walk_at "isrow")
  | ((with_reducible apply elr_cat) <;> walk_at "row")
  | ((with_reducible apply elr_lst) <;> walk_at "row")
  | ((with_reducible apply er_fin) <;> walk_at "ev")
  | ((with_reducible apply er_lendT) <;> walk_at "ev")
  | ((with_reducible apply er_lendW) <;> walk_at "ev")
  | ((with_reducible apply er_pick) <;> walk_at "ev")
  | ((with_reducible apply er_either) <;> walk_at "ev")
  | ((with_reducible apply er_or) <;> walk_at "ev")
  | ((with_reducible apply er_again) <;> walk_at "ev")
  | ((with_reducible apply er_back) <;> walk_at "ev")
  | ((with_reducible apply er_look) <;> walk_at "ev")
  | ((with_reducible apply er_change) <;> walk_at "ev")
  | exact Nat.le_of_ble_eq_true rfl
  | skip)
local macro_rules | `(tactic| walk_at "isrow") => `(tactic| first
  | assumption
  | (refine IsRow.up ?_ (by assumption) ; walk_at "ex")
  | (refine LRows.up ?_ (by assumption) ; walk_at "ex"))

local macro_rules | `(tactic| walk_at "ev") => `(tactic| ((with_reducible apply ev_letter) <;> walk_at "ev"))
local macro_rules | `(tactic| walk_at "ev") => `(tactic| ((with_reducible apply ev_cell) <;> walk_at "ev"))
local macro_rules | `(tactic| walk_at "ev") => `(tactic| ((with_reducible apply ev_word) <;> walk_at "ev"))
local macro_rules | `(tactic| walk_at "ev") => `(tactic| ((with_reducible apply ev_thing) <;> walk_at "ev"))

local macro_rules | `(tactic| walk_at "ev") => `(tactic| (((with_reducible apply ev_tag) ; rfl) ; walk_at "isrow"))
abbrev s_l_sheet : Stmt := topS 19
theorem sc_l_sheet : FnScope ["_law_cells", "_law_draw_here", "_law_most", "_law_odd", "_law_rows", "_law_opened", "_law_k", "_law_row_here", "_law_named", "_law_way"] ["_law_cells", "_law_draw_here", "_law_most", "_law_odd"] (defScope s_l_sheet) := ⟨rfl, rfl, rfl, by decide +kernel, rfl, by decide +kernel, by decide +kernel⟩
abbrev s_l_drawn : Stmt := topS 20
theorem sc_l_drawn : FnScope ["_law_script", "_law_most", "_law_many", "_law_way", "_law_cells", "_law_rows", "_law_k"] ["_law_script", "_law_most"] (defScope s_l_drawn) := ⟨rfl, rfl, rfl, by decide +kernel, rfl, by decide +kernel, by decide +kernel⟩
/-! ### the sheet's mirror -/
def opUpd (op : List Rw) (r : Rw) : List Rw := if r.opens = true then op ++ [r] else if r.isFin = true then op.dropLast else op
def stepM (c0 c1 c2 most : Int) (odd : Bool) (d : Draw) (st : List Rw × List Rw) : List Rw × List Rw :=
  if odd = true ∧ c0 % 2 = 0 ∧ ((st.2.filter Rw.named).length : Int) < 3 then (st.1 ++ gadgetM c1 c2 (st.2.filter Rw.named).length d, st.2)
  else (st.1 ++ [rowM (c0 % most) c1 c2 st.2 d], opUpd st.2 (rowM (c0 % most) c1 c2 st.2 d))
def sheetSt (cells : List Int) (d : Draw) (most : Int) (odd : Bool) : Nat → List Rw × List Rw
  | 0 => ([], [])
  | i + 1 => stepM (cells.getD (3 * i) 0) (cells.getD (3 * i + 1) 0) (cells.getD (3 * i + 2) 0) most odd d (sheetSt cells d most odd i)
def sheetM (cells : List Int) (d : Draw) (most : Int) (odd : Bool) : List Rw :=
  (sheetSt cells d most odd (cells.length / 3)).1 ++ (List.range (sheetSt cells d most odd (cells.length / 3)).2.length).map fun _ => Rw.fin
/-- what is open is small: six lends, three picks -/
def Rw.isPick : Rw → Bool
  | .pick _ _ => true | _ => false
structure Few (op : List Rw) : Prop where
  lends : (op.filter Rw.isLend).length ≤ 6
  picks : (op.filter Rw.isPick).length ≤ 3
theorem named_len : ∀ op : List Rw, (op.filter Rw.named).length = (op.filter Rw.isLend).length + (op.filter Rw.isPick).length
  | [] => rfl
  | r :: op => by
    have ih := named_len op
    cases r <;> simp only [List.filter_cons, Rw.named, Rw.isLend, Rw.isPick, if_true, if_false, List.length_cons, Bool.false_eq_true] <;> omega
theorem lend_of_named (op : List Rw) : (op.filter Rw.named).filter Rw.isLend = op.filter Rw.isLend := by
  rw [List.filter_filter]
  congr 1
  funext r
  cases r <;> rfl
theorem Few.named {op : List Rw} (f : Few op) : (op.filter Rw.named).length ≤ 9 := by
  have := named_len op
  have := f.lends
  have := f.picks
  omega
theorem few_drop {op : List Rw} (f : Few op) : Few op.dropLast := by
  have h : List.Sublist op.dropLast op := List.dropLast_sublist op
  exact ⟨Nat.le_trans (h.filter _).length_le f.lends, Nat.le_trans (h.filter _).length_le f.picks⟩
theorem lendM_isLend (one two : Int) (named : List Rw) (d : Draw) : (lendM one two named d).isLend = true := by
  unfold lendM
  split <;> rfl
theorem deedM_not (one two : Int) (hands : List Rw) : (deedM one two hands).opens = false ∧ (deedM one two hands).isFin = false := by
  unfold deedM
  split
  · exact ⟨rfl, rfl⟩
  · split
    · exact ⟨rfl, rfl⟩
    · split <;> exact ⟨rfl, rfl⟩
theorem lend_few {op : List Rw} {r : Rw} (f : Few op) (hr : r.isLend = true) (h : (op.filter Rw.isLend).length < 6 ∨ op = []) : Few (opUpd op r) := by
  cases r with
  | lend a b c =>
    have e : opUpd op (.lend a b c) = op ++ [.lend a b c] := rfl
    rw [e]
    refine ⟨?_, ?_⟩
    · rw [List.filter_append, List.length_append]
      show _ + 1 ≤ 6
      rcases h with h | h
      · omega
      · subst h; decide
    · rw [List.filter_append, List.length_append]
      exact f.picks
  | _ => cases hr
theorem few_row {op : List Rw} (f : Few op) (way one two : Int) (d : Draw) : Few (opUpd op (rowM way one two op d)) := by
  unfold rowM
  rw [lend_of_named]
  have hn := named_len op
  unfold rowN
  split
  · rename_i h
    exact lend_few f (lendM_isLend _ _ _ _) (.inl (by omega))
  split
  · rename_i h
    show Few (op ++ [_])
    refine ⟨?_, ?_⟩
    · rw [List.filter_append, List.length_append]
      exact f.lends
    · rw [List.filter_append, List.length_append]
      show _ + 1 ≤ 3
      omega
  split
  · show Few (op ++ [_])
    refine ⟨?_, ?_⟩
    · rw [List.filter_append, List.length_append]
      exact f.lends
    · rw [List.filter_append, List.length_append]
      exact f.picks
  split
  · show Few (op ++ [_])
    refine ⟨?_, ?_⟩
    · rw [List.filter_append, List.length_append]
      exact f.lends
    · rw [List.filter_append, List.length_append]
      exact f.picks
  split
  · exact f
  split
  · have h := deedM_not one two (op.filter Rw.isLend)
    unfold opUpd
    rw [h.1, h.2]
    exact f
  split
  · exact few_drop f
  · rename_i h
    refine lend_few f (lendM_isLend _ _ _ _) (.inr ?_)
    cases op with
    | nil => rfl
    | cons a b => exact absurd (by show (0 : Int) < ((b.length + 1 : Nat) : Int); omega) h
theorem rowM_fin {op : List Rw} {way one two : Int} {d : Draw} (h : (rowM way one two op d).isFin = true) : 0 < op.length := by
  have hl : ∀ named : List Rw, (lendM one two named d).isFin = true → False := fun named z => by
    have := lendM_isLend one two named d
    generalize lendM one two named d = r at *
    cases r <;> simp_all [Rw.isFin, Rw.isLend]
  unfold rowM rowN at h
  split at h
  · exact (hl _ h).elim
  split at h
  · cases h
  split at h
  · cases h
  split at h
  · cases h
  split at h
  · cases h
  split at h
  · rw [(deedM_not _ _ _).2] at h; cases h
  split at h
  · omega
  · exact (hl _ h).elim
theorem few_st (cells : List Int) (d : Draw) (most : Int) (odd : Bool) : ∀ i, Few (sheetSt cells d most odd i).2
  | 0 => ⟨Nat.zero_le _, Nat.zero_le _⟩
  | i + 1 => by
    have ih := few_st cells d most odd i
    unfold sheetSt stepM
    split
    · exact ih
    · exact few_row ih _ _ _ _
theorem gad_len (one two : Int) (a b c : Str) (t : Int) : (gadA one two a b c t).length ≤ 12 := by
  unfold gadA
  split
  · unfold fourM
    split
    · exact Nat.le_of_ble_eq_true rfl
    split
    · exact Nat.le_of_ble_eq_true rfl
    split <;> exact Nat.le_of_ble_eq_true rfl
  split
  · show 6 ≤ 12
    exact Nat.le_of_ble_eq_true rfl
  split
  · exact Nat.le_of_ble_eq_true rfl
  split
  · exact Nat.le_of_ble_eq_true rfl
  split <;> exact Nat.le_of_ble_eq_true rfl
theorem opUpd_len (op : List Rw) (r : Rw) : (opUpd op r).length ≤ op.length + 1 := by
  unfold opUpd
  split
  · rw [List.length_append]; exact Nat.le_refl _
  split
  · rw [List.length_dropLast]; omega
  · omega
theorem st_len (cells : List Int) (d : Draw) (most : Int) (odd : Bool) : ∀ i, (sheetSt cells d most odd i).1.length ≤ 12 * i ∧ (sheetSt cells d most odd i).2.length ≤ i
  | 0 => ⟨Nat.le_refl _, Nat.le_refl _⟩
  | i + 1 => by
    have ih := st_len cells d most odd i
    unfold sheetSt stepM
    split
    · have h := gad_len (cells.getD (3 * i + 1) 0) (cells.getD (3 * i + 2) 0) (wordM (cells.getD (3 * i + 1) 0) (cells.getD (3 * i + 2) 0) ((sheetSt cells d most odd i).2.filter Rw.named).length d)
        (wordM (cells.getD (3 * i + 2) 0) (cells.getD (3 * i + 1) 0) (((sheetSt cells d most odd i).2.filter Rw.named).length + 1) d) (wordM (cells.getD (3 * i + 1) 0) (cells.getD (3 * i + 1) 0) (((sheetSt cells d most odd i).2.filter Rw.named).length + 2) d) (thingM (cells.getD (3 * i + 2) 0) d.base)
      show (_ ++ gadgetM _ _ _ _).length ≤ _ ∧ _
      rw [List.length_append]
      unfold gadgetM
      exact ⟨by omega, by show (sheetSt cells d most odd i).2.length ≤ i + 1; omega⟩
    · show (_ ++ [_]).length ≤ _ ∧ (opUpd _ _).length ≤ _
      rw [List.length_append]
      have h2 := opUpd_len (sheetSt cells d most odd i).2 (rowM (cells.getD (3 * i) 0 % most) (cells.getD (3 * i + 1) 0) (cells.getD (3 * i + 2) 0) (sheetSt cells d most odd i).2 d)
      exact ⟨by show _ + 1 ≤ _; omega, by omega⟩
theorem sheet_len (cells : List Int) (d : Draw) (most : Int) (odd : Bool) : (sheetM cells d most odd).length ≤ 13 * (cells.length / 3) := by
  have h := st_len cells d most odd (cells.length / 3)
  unfold sheetM
  rw [List.length_append, List.length_map, List.length_range]
  omega
section
variable {P : Program} {w : World} {K : PySem.W.Frag} {mg : Str → Option Value} {base : Heap}
def spSheet (K : PySem.W.Frag) : Sp := fun vs H Q _ => ∃ (ac a : Addr) (cells : List Int) (d : Draw) (most : Int) (odd : Bool), vs = [.ref ac, .ref a, .int most, .bl odd] ∧ SqL K H ac (cells.map V.int) ∧ cells.length ≤ 600 ∧ SqL K H a d.vs ∧ d.Ok ∧ 0 < most ∧
  Ret (LRows (sheetM cells d most odd)) H Q
theorem cell_at {cells : List Int} {n : Nat} (h : n < cells.length) {z : Int} (e : z = (n : Int)) : atI (cells.map V.int) z = some (.int (cells.getD n 0)) := by
  have := at_ints cells (i := (n : Int)) (by omega) (by omega)
  rw [e, this, Int.toNat_natCast]
theorem ok_sheet (D : Dn K mg "_law_sheet" s_l_sheet ["_law_cells", "_law_draw_here", "_law_most", "_law_odd"]) (T : Blt mg) (h_l_gadget : Has P w K mg base "_law_gadget" 3 ["_law_one", "_law_two", "_law_deep", "_law_draw_here"] (spGadget K)) (h_l_row : Has P w K mg base "_law_row" 3 ["_law_way", "_law_one", "_law_two", "_law_opened", "_law_draw_here"] (spRow K)) : Has P w K mg base "_law_sheet" 4 ["_law_cells", "_law_draw_here", "_law_most", "_law_odd"] (spSheet K) := by
  refine D.ok sc_l_sheet (fun vs H Q E h => ?_) (fun f cdv A outer s H vs Q E hr h => ?_)
  · obtain ⟨ac, a, cells, d, most, odd, rfl, _⟩ := h
    rfl
  · obtain ⟨ac, a, cells, d, most, odd, rfl, hC, hlen, hS, ok, hm, q⟩ := h
    refine ⟨_, (pss_cons (ps_set (i := 4) sc_l_sheet.nd rfl (Or.inl rfl) (pe_lst pa_nil)) (pss_cons (ps_set (i := 5) sc_l_sheet.nd rfl (Or.inl rfl) (pe_lst pa_nil)) (pss_cons (ps_for PassesOwn.never rfl (pi_range1 (by rfl) T.range_ (pa_cons (pe_op op_fdiv (pe_callB (show CallR _ _ (rLenS K) from call_len_seq) (by rfl) T.len_ (by decide +kernel) (pa_cons (pv 0) pa_nil)) pe_int) pa_nil)) (pg_name (i := 6) sc_l_sheet.nd rfl (Or.inl rfl)) (pss_cons (ps_setLc (i := 8) (own := [("_law_row_here", 7)]) (g := (gName 7))  rfl sc_l_sheet.nd rfl rfl (sw_true rfl rfl rfl (by decide +kernel)) (pi_list (pv 5)) (blkOk_by (own := [("_law_row_here", 7)]) (N := ["_law_cells", "_law_draw_here", "_law_most", "_law_odd", "_law_rows", "_law_opened", "_law_k", "_law_row_here", "_law_named", "_law_way"]) (sc := defScope s_l_sheet) (by decide +kernel)) (fun _ _ _ _ _ => (pg_name (i := 7) sc_l_sheet.nd rfl (Or.inl rfl))) (fun _ _ _ _ _ => (pts_one (pt_cmpR (show OpR _ _ (rIn K false) from op_in_seq) (pe_ix (show IxR _ (rIxT K) from ix_tup) (pv 7) pe_int (fun _ _ => rfl)) (pe_lst (pa_cons pe_str (pa_cons pe_str pa_nil))) (by rfl)))) (fun _ _ _ _ _ => (pv 7))) (pss_cons (ps_set (i := 9) sc_l_sheet.nd rfl (Or.inl rfl) (pe_ix (show IxR _ (rIxL K) from ix_list) (pv 0) (pe_op op_mul pe_int (pv 6)) (fun _ _ => rfl))) (pss_one (ps_if (PW.pt (pw_and (pt_val (pv 3)) (pw_and (pt_cmpR op_eq (pe_op op_mod (pv 9) pe_int) pe_int (nomark _)) (pw_and1 (pt_cmpR op_lt (pe_callB (show CallR _ _ (rLenS K) from call_len_seq) (by rfl) T.len_ (by decide +kernel) (pa_cons (pv 8) pa_nil)) pe_int (nomark _)))))) (pss_one (ps_set (i := 4) sc_l_sheet.nd rfl (Or.inl rfl) (pe_op op_cat (pv 4) (pe_own h_l_gadget (hr.mono (by decide)) (by rfl) (pa_cons (pe_ix (show IxR _ (rIxL K) from ix_list) (pv 0) (pe_op op_add (pe_op op_mul pe_int (pv 6)) pe_int) (fun _ _ => rfl)) (pa_cons (pe_ix (show IxR _ (rIxL K) from ix_list) (pv 0) (pe_op op_add (pe_op op_mul pe_int (pv 6)) pe_int) (fun _ _ => rfl)) (pa_cons (pe_callB (show CallR _ _ (rLenS K) from call_len_seq) (by rfl) T.len_ (by decide +kernel) (pa_cons (pv 8) pa_nil)) (pa_cons (pv 1) pa_nil)))))))) (pss_cons (ps_set (i := 7) sc_l_sheet.nd rfl (Or.inl rfl) (pe_own h_l_row (hr.mono (by decide)) (by rfl) (pa_cons (pe_op op_mod (pv 9) (pv 2)) (pa_cons (pe_ix (show IxR _ (rIxL K) from ix_list) (pv 0) (pe_op op_add (pe_op op_mul pe_int (pv 6)) pe_int) (fun _ _ => rfl)) (pa_cons (pe_ix (show IxR _ (rIxL K) from ix_list) (pv 0) (pe_op op_add (pe_op op_mul pe_int (pv 6)) pe_int) (fun _ _ => rfl)) (pa_cons (pv 5) (pa_cons (pv 1) pa_nil))))))) (pss_cons (ps_set (i := 4) sc_l_sheet.nd rfl (Or.inl rfl) (pe_op op_cat (pv 4) (pe_lst (pa_cons (pv 7) pa_nil)))) (pss_cons (ps_if (pt_cmpR (show OpR _ _ (rIn K false) from op_in_seq) (pe_ix (show IxR _ (rIxT K) from ix_tup) (pv 7) pe_int (fun _ _ => rfl)) (pe_lst (pa_cons pe_str (pa_cons pe_str (pa_cons pe_str (pa_cons pe_str pa_nil))))) (by rfl)) (pss_one (ps_expr (pe_bm PySem.F.plainAttrs_list PySem.F.slot_list_append PySem.F.type_list_append mt_append (pv 5) (pa_cons (pv 7) pa_nil)))) pss_nil) (pss_one (ps_if (pt_cmpR op_eq (pe_ix (show IxR _ (rIxT K) from ix_tup) (pv 7) pe_int (fun _ _ => rfl)) pe_str (nomark _)) (pss_one (ps_expr (pe_bm0 PySem.F.plainAttrs_list PySem.F.slot_list_pop PySem.F.type_list_pop mt_pop (pv 5)))) pss_nil)))))))))) (pss_one (ps_ret (pe_op op_cat (pv 4) (pe_lc (own := [("_law_row_here", 7)]) (g := (gName 7)) (tt := tYes) rfl sc_l_sheet.nd (pi_list (pv 5)) (blkOk_by (own := [("_law_row_here", 7)]) (N := ["_law_cells", "_law_draw_here", "_law_most", "_law_odd", "_law_rows", "_law_opened", "_law_k", "_law_row_here", "_law_named", "_law_way"]) (sc := defScope s_l_sheet) (by decide +kernel)) (fun _ _ _ _ _ => (pg_name (i := 7) sc_l_sheet.nd rfl (Or.inl rfl))) (fun _ _ _ _ _ => pts_nil) (fun _ _ _ _ _ => (pe_tup (pa_cons pe_str pa_nil)))))))))), ?_⟩
    show (_ : L2.TS) _ [_, _, _, _, _, _, _, _, _, _] _
    refine q_asgL (xs := []) ?_ (fun pr0 H1 hpr0 e1 h1 => ?_)
    · walk_at "ev"
    show (_ : L2.TS) _ [_, _, _, _, _, _, _, _, _, _] _
    refine q_asgL (xs := []) ?_ (fun po H2 hpo e2 h2 => ?_)
    · walk_at "ev"
    show (_ : L2.TS) _ [_, _, _, _, _, _, _, _, _, _] _
    have hpoH : H po = none := fresh_back e1 hpo
    refine q_forR1 (n := (((cells.map V.int).length : Nat) : Int) / 3) ?_ ?_ (fun i σ' H' => Ex H H' ∧ ∃ pr rv ov x6 x7 x8 x9, σ' = [some (.ref ac), some (.ref a), some (.int most), some (.bl odd), some (.ref pr), some (.ref po), x6, x7, x8, x9] ∧ pr ≠ po ∧
      H' pr = some (.lst rv) ∧ Rows H' rv (sheetSt cells d most odd i).1 ∧ H' po = some (.lst ov) ∧ Rows H' ov (sheetSt cells d most odd i).2) ?_ ?_ ?_
    · walk_at "ev"
    · rw [List.length_map]
      omega
    · intro H3 e3
      exact ⟨by walk_at "ex", pr0, [], [], none, none, none, none, rfl, (ne_of_none h1 hpo), e3 _ _ (e2 _ _ h1), .nil, e3 _ _ h2, .nil⟩
    · rintro i σ' H' hi ⟨e3, pr, rv, ov, x6, x7, x8, x9, rfl, hne, hpr, hRv, hpo', hOv⟩
      rw [List.length_map] at hi
      have hst := st_len cells d most odd i
      have hfew := (few_st cells d most odd i).named
      have hi3 : 3 * i + 2 < cells.length := by omega
      generalize hste : sheetSt cells d most odd i = st at *
      have hO : SqL K H' po ov := sq_of hpo'
      have hlo := hOv.len
      refine q_asgPL (epl_filter Rw.named (ev_var rfl) hO hOv (by omega) (fun x => rfl) (fun x r H1 e hx => ?_) (fun x => rfl)) (fun pn nv H4 hpn e4 h4 hNv => ?_)
      · rw [← tag_named r]
        walk_at "ev"
      show (_ : L2.TS) _ [_, _, _, _, _, _, _, _, _, _] _
      have hN : SqL K H4 pn nv := sq_of h4
      have hln := hNv.len
      refine' q_asg (v := .int (cells.getD (3 * i) 0)) ?_ (fun H5 e5 => ?_)
      · walk_at "ev"
        exact cell_at (by omega) (by omega)
      show (_ : L2.TS) _ [_, _, _, _, _, _, _, _, _, _] _
      refine' s_if (b := odd && (decide (V.int (cells.getD (3 * i) 0 % 2) = V.int 0) && decide ((nv.length : Int) < 3))) ?_ (fun hb H6 e6 => ?_) (fun hb H6 e6 => ?_)
      · walk_at "ev"
      · simp only [Bool.and_eq_true, decide_eq_true_eq, V.int.injEq] at hb
        rw [hln] at hb
        have hL6 : LRows st.1 (.ref pr) H6 := ⟨pr, rv, rfl, e6 _ _ (e5 _ _ (e4 _ _ hpr)), ((hRv.up e4).up e5).up e6⟩
        have hg := gad_len (cells.getD (3 * i + 1) 0) (cells.getD (3 * i + 2) 0) (wordM (cells.getD (3 * i + 1) 0) (cells.getD (3 * i + 2) 0) (st.2.filter Rw.named).length d)
          (wordM (cells.getD (3 * i + 2) 0) (cells.getD (3 * i + 1) 0) ((st.2.filter Rw.named).length + 1) d) (wordM (cells.getD (3 * i + 1) 0) (cells.getD (3 * i + 1) 0) ((st.2.filter Rw.named).length + 2) d) (thingM (cells.getD (3 * i + 2) 0) d.base)
        refine s_asgPL (elr_catL (elr_var rfl hL6) (ep_gadget (one := cells.getD (3 * i + 1) 0) (two := cells.getD (3 * i + 2) 0) (deep := ((st.2.filter Rw.named).length : Nat)) (a := a) (d := d) ?_ ?_ ok (by omega) (by omega)) ?_) (fun p us H7 hp e7 h7 hR => ?_)
        · rw [← hln]
          walk_at "ev"
          · exact cell_at (n := 3 * i + 1) (by omega) (by omega)
          · exact cell_at (n := 3 * i + 2) (by omega) (by omega)
        · walk_at "ev"
        · unfold gadgetM
          omega
        · have e37 : Ex H' H7 := by walk_at "ex"
          refine ⟨e3.trans e37, p, us, ov, _, _, _, _, rfl, (ne_of_none (e6 _ _ (e5 _ _ (e4 _ _ hpo'))) hp).symm, h7, ?_, e37 _ _ hpo', ?_⟩
          · unfold sheetSt stepM
            rw [hste, if_pos ⟨hb.1, hb.2.1, hb.2.2⟩]
            exact hR
          · unfold sheetSt stepM
            rw [hste, if_pos ⟨hb.1, hb.2.1, hb.2.2⟩]
            exact hOv.up e37
      · simp only [Bool.and_eq_false_iff, decide_eq_false_iff_not, V.int.injEq] at hb
        rw [hln] at hb
        have hneg : ¬ (odd = true ∧ cells.getD (3 * i) 0 % 2 = 0 ∧ ((st.2.filter Rw.named).length : Int) < 3) := fun z => by
          rcases hb with hb | hb | hb
          · rw [z.1] at hb; cases hb
          · exact hb z.2.1
          · exact hb z.2.2
        have est : sheetSt cells d most odd (i + 1) = (st.1 ++ [rowM (cells.getD (3 * i) 0 % most) (cells.getD (3 * i + 1) 0) (cells.getD (3 * i + 2) 0) st.2 d], opUpd st.2 (rowM (cells.getD (3 * i) 0 % most) (cells.getD (3 * i + 1) 0) (cells.getD (3 * i + 2) 0) st.2 d)) := by
          show stepM _ _ _ _ _ _ _ = _
          rw [hste]
          unfold stepM
          rw [if_neg hneg]
        have e46 : Ex H' H6 := by walk_at "ex"
        refine q_asgP (ep_row (way := cells.getD (3 * i) 0 % most) (one := cells.getD (3 * i + 1) 0) (two := cells.getD (3 * i + 2) 0) (o := po) (a := a) (ov := ov) (opened := st.2) (d := d) ?_ (sq_of (e46 _ _ hpo')) (hOv.up e46) (by omega) (by omega) ?_ ok) (fun v H7 e7 hv => ?_)
        · clear e46
          walk_at "ev"
          · exact cell_at (n := 3 * i + 1) (by omega) (by omega)
          · exact cell_at (n := 3 * i + 2) (by omega) (by omega)
        · clear e46
          walk_at "ev"
        show (_ : L2.TS) _ [_, _, _, _, _, _, _, _, _, _] _
        have hfin : (rowM (cells.getD (3 * i) 0 % most) (cells.getD (3 * i + 1) 0) (cells.getD (3 * i + 2) 0) st.2 d).isFin = true → 0 < st.2.length := rowM_fin
        generalize rowM (cells.getD (3 * i) 0 % most) (cells.getD (3 * i + 1) 0) (cells.getD (3 * i + 2) 0) st.2 d = r at *
        have hv : IsRow H7 v r := hv
        have e67 : Ex H' H7 := e46.trans e7
        have hL7 : LRows st.1 (.ref pr) H7 := ⟨pr, rv, rfl, e67 _ _ hpr, hRv.up e67⟩
        refine q_asgPL (elr_catL (elr_var rfl hL7) (elr_lst (er_cons (er_var rfl hv) er_nil) (Nat.le_of_ble_eq_true rfl)) (by show st.1.length + 1 ≤ 100000; omega)) (fun p us H8 hp e8 h8 hR => ?_)
        show (_ : L2.TS) _ [_, _, _, _, _, _, _, _, _, _] _
        have e68 : Ex H' H8 := e67.trans e8
        have hv8 : IsRow H8 v r := hv.up e8
        have hpo8 : H8 po = some (.lst ov) := e68 _ _ hpo'
        have hnp : p ≠ po := (ne_of_none (e67 _ _ hpo') hp).symm
        have eH8 : Ex H H8 := e3.trans e68
        clear e4 e5 e6 e7 e8 e46 e67
        have hR1 : Rows H8 us (sheetSt cells d most odd (i + 1)).1 := by
          rw [est]
          exact hR
        have e2nd : (sheetSt cells d most odd (i + 1)).2 = opUpd st.2 r := by rw [est]
        cases hro : r.opens with
        | true =>
          have hrf : r.isFin = false := by cases r <;> first | rfl | cases hro
          refine q_when (b := true) ?_ (fun _ H9 e9 => ?_) (fun hb _ _ => by cases hb)
          · refine et_is ?_ hro
            rw [← tag_opens r]
            walk_at "ev"
          · refine s_app (e9 _ _ hpo8) (ev_var rfl) (ev_var rfl) (by omega) (fun H10 e10 => ?_)
            have x10 : ExT H10 (upd H10 po (.lst (ov ++ [v]))) := ExT.lst (e10 _ _ (e9 _ _ hpo8))
            have eT : ExT H8 (upd H10 po (.lst (ov ++ [v]))) := (ExT.of (e9.trans e10)).trans x10
            have e11 : Ex H (upd H10 po (.lst (ov ++ [v]))) := Ex.mut (eH8.trans (e9.trans e10)) hpoH
            have hX : IsRow (upd H10 po (.lst (ov ++ [v]))) v r := hv8.upT eT
            dsimp only
            refine s_when (b := false) ?_ (fun hb _ _ => by cases hb) (fun _ H11 e12 => ?_)
            · refine et_is ?_ hrf
              rw [← tag_fin r]
              walk_at "ev"
            · refine ⟨e11.trans e12, p, us, ov ++ [v], _, _, _, _, rfl, hnp, e12 _ _ (by rw [upd_ne hnp]; exact e10 _ _ (e9 _ _ h8)), (hR1.upT eT).up e12, e12 _ _ upd_same, ?_⟩
              rw [e2nd]
              unfold opUpd
              rw [if_pos hro]
              exact (Rows.append ((hOv.up e68).upT eT) (.cons hX .nil)).up e12
        | false =>
          refine q_when (b := false) ?_ (fun hb _ _ => by cases hb) (fun _ H9 e9 => ?_)
          · refine et_is ?_ hro
            rw [← tag_opens r]
            walk_at "ev"
          · have hv9 : IsRow H9 v r := hv8.up e9
            cases hrf : r.isFin with
            | true =>
              have hpos : 0 < ov.length := by
                have := hfin hrf
                omega
              refine s_when (b := true) ?_ (fun _ H10 e10 => ?_) (fun hb _ _ => by cases hb)
              · refine et_is ?_ hrf
                rw [← tag_fin r]
                walk_at "ev"
              · refine s_pop (e10 _ _ (e9 _ _ hpo8)) (ev_var rfl) hpos (fun H11 e11 => ?_)
                have x10 : ExT H11 (upd H11 po (.lst ov.dropLast)) := ExT.lst (e11 _ _ (e10 _ _ (e9 _ _ hpo8)))
                have eT : ExT H8 (upd H11 po (.lst ov.dropLast)) := (ExT.of (e9.trans (e10.trans e11))).trans x10
                have e12 : Ex H (upd H11 po (.lst ov.dropLast)) := Ex.mut (eH8.trans (e9.trans (e10.trans e11))) hpoH
                refine ⟨e12, p, us, ov.dropLast, _, _, _, _, rfl, hnp, (by rw [upd_ne hnp]; exact e11 _ _ (e10 _ _ (e9 _ _ h8))), hR1.upT eT, upd_same, ?_⟩
                rw [e2nd]
                unfold opUpd
                rw [if_neg (by rw [hro]; decide), if_pos hrf]
                exact ((hOv.up e68).upT eT).dropLast
            | false =>
              refine s_when (b := false) ?_ (fun hb _ _ => by cases hb) (fun _ H10 e10 => ?_)
              · refine et_is ?_ hrf
                rw [← tag_fin r]
                walk_at "ev"
              · have e11 : Ex H8 H10 := e9.trans e10
                refine ⟨eH8.trans e11, p, us, ov, _, _, _, _, rfl, hnp, e11 _ _ h8, hR1.up e11, e11 _ _ hpo8, ?_⟩
                rw [e2nd]
                unfold opUpd
                rw [if_neg (by rw [hro]; decide), if_neg (by rw [hrf]; decide)]
                exact (hOv.up e68).up e11
    · rintro σ' H' ⟨e3, pr, rv, ov, x6, x7, x8, x9, rfl, hne, hpr, hRv, hpo', hOv⟩
      rw [show ((((cells.map V.int).length : Nat) : Int) / 3).toNat = cells.length / 3 by rw [List.length_map]; omega] at hRv hOv
      have hst := st_len cells d most odd (cells.length / 3)
      have hlo := hOv.len
      refine s_retP (ep_PL (elr_catL (elr_var rfl ⟨pr, rv, rfl, hpr, hRv⟩) (ep_PL (epl_map (fun _ => Rw.fin) (ev_var rfl) (sq_of hpo') (by omega) (fun x => rfl) (fun j x H4 e4 hx => ?_))) ?_)) (fun v H5 e5 hv => q v H5 (e3.trans e5) ?_)
      · walk_at "row"
      · rw [List.length_map, List.length_range]
        omega
      · unfold sheetM
        rw [← hlo]
        exact hv
theorem ep_sheet {ac a : Addr} {cells : List Int} {d : Draw} {most : Int} {odd : Bool} {ta : TA} {σ : L2.St} {H : Hp} {E : XK} (h : EvA ta σ H [.ref ac, .ref a, .int most, .bl odd]) (hC : SqL K H ac (cells.map V.int)) (hl : cells.length ≤ 600)
    (hS : SqL K H a d.vs) (ok : d.Ok) (hm : 0 < most) : EvP (tCall (spSheet K) [] E ta) σ H (LRows (sheetM cells d most odd)) :=
  ep_call h fun H1 e Q q E => ⟨ac, a, cells, d, most, odd, rfl, ex_l e hC, hl, ex_l e hS, ok, hm, q⟩
end
end BD
namespace BD
open PySem PySem.Spec PyProof.Rows L2 Evl
local macro_rules | `(tactic| walk_at "ev") => `(tactic| first
  | ((with_reducible apply ev_var) ; rfl)
  | with_reducible exact ev_c
  | ((with_reducible apply ev_I0) <;> walk_at "ev")
  | ((with_reducible apply ev_e9) <;> walk_at "ev")
  | ((with_reducible apply ev_I) <;> walk_at "ev")
  | ((with_reducible apply ev_eq) <;> walk_at "ev")
  | ((with_reducible apply ev_ne) <;> walk_at "ev")
  | ((with_reducible apply ev_neg) <;> walk_at "ev")
  | ((with_reducible apply ev_ixN) <;> walk_at "ev")
  | ((with_reducible apply ev_ixL) <;> walk_at "ev")
  | ((with_reducible apply ev_inN) <;> walk_at "ev")
  | ((with_reducible apply ev_inT) <;> walk_at "ev")
  | ((with_reducible apply ev_ixT) <;> walk_at "ev")
  | ((with_reducible apply ev_ixS) <;> walk_at "ev")
  | ((with_reducible apply ev_len') <;> walk_at "ev")
  | ((with_reducible apply et_test) <;> walk_at "ev")
  | ((with_reducible apply et_and) <;> walk_at "ev")
  | ((with_reducible apply et_or) <;> walk_at "ev")
  | ((with_reducible apply et_not) <;> walk_at "ev")
  | ((with_reducible apply et_B) <;> walk_at "ev")
  | ((with_reducible apply el_lst) <;> walk_at "ev")
  | ((with_reducible apply eu_tup) <;> walk_at "ev")
  | ((with_reducible apply ea_cons) <;> walk_at "ev")
  | with_reducible exact ea_nil
  | with_reducible assumption
  | ((with_reducible apply ex_l' ; assumption) ; walk_at "ex")
  | ((with_reducible apply ex_t' ; assumption) ; walk_at "ex")
  | (intro _ ; walk_at "ev")
  | (with_reducible first | exact atI_hd | exact at_kind | exact at2s | exact at3s | exact at3i)
  | (first | exact rfl | exact Nat.le_of_ble_eq_true rfl | exact ⟨by decide, by decide⟩ | decide | exact Or.inl ⟨by omega, by omega⟩ | exact Or.inr ⟨by omega, by omega⟩ | omega)
  | skip)
local macro_rules | `(tactic| walk_at "ex") => `(tactic| first
  | assumption
  | exact Ex.refl _
  | (refine' Ex.trans ?_ (by assumption) ; walk_at "ex"))
local macro_rules | `(tactic| walk_at "row") => `(tactic| first
  | (with_reducible exact er_nil)
  | ((with_reducible apply er_cons) <;> walk_at "row")
  | (((with_reducible apply er_var) ; rfl) ; walk_at "isrow")
  | (((with_reducible apply elr_var) ; rfl) ; walk_at "isrow")
  | ((with_reducible apply elr_cat) <;> walk_at "row")
  | ((with_reducible apply elr_lst) <;> walk_at "row")
  | ((with_reducible apply er_fin) <;> walk_at "ev")
  | ((with_reducible apply er_lendT) <;> walk_at "ev")
  | ((with_reducible apply er_lendW) <;> walk_at "ev")
  | ((with_reducible apply er_pick) <;> walk_at "ev")
  | ((with_reducible apply er_either) <;> walk_at "ev")
  | ((with_reducible apply er_or) <;> walk_at "ev")
  | ((with_reducible apply er_again) <;> walk_at "ev")
  | ((with_reducible apply er_back) <;> walk_at "ev")
  | ((with_reducible apply er_look) <;> walk_at "ev")
  | ((with_reducible apply er_change) <;> walk_at "ev")
  | exact Nat.le_of_ble_eq_true rfl
  | skip)
local macro_rules | `(tactic| walk_at "isrow") => `(tactic| first
  | assumption
  | (refine IsRow.up ?_ (by assumption) ; walk_at "ex")
  | (refine LRows.up ?_ (by assumption) ; walk_at "ex"))

local macro_rules | `(tactic| walk_at "ev") => `(tactic| ((with_reducible apply ev_letter) <;> walk_at "ev"))
local macro_rules | `(tactic| walk_at "ev") => `(tactic| ((with_reducible apply ev_cell) <;> walk_at "ev"))
local macro_rules | `(tactic| walk_at "ev") => `(tactic| ((with_reducible apply ev_word) <;> walk_at "ev"))
local macro_rules | `(tactic| walk_at "ev") => `(tactic| ((with_reducible apply ev_thing) <;> walk_at "ev"))

section
variable {P : Program} {w : World} {K : PySem.W.Frag} {mg : Str → Option Value} {base : Heap}
def mostM (way : Int) : Int := if way = 2 then 5 else if way = 3 ∨ way = 6 then 10 else 12
def wayM (ns : List Int) : Int := cellM ns 2 % 8
def manyM (ns : List Int) (most : Int) : Int :=
  if 3 < wayM ns then cellM ns 0 % (if cellM ns 2 / 384 % 4 = 3 then most + 10 else most) % 6 else cellM ns 0 % (if cellM ns 2 / 384 % 4 = 3 then most + 10 else most)
def cellsM (ns : List Int) (most : Int) : List Int := (List.range (3 * manyM ns most).toNat).map fun (k : Nat) => cellM ns (3 + (k : Int))
def baseM (ns : List Int) (most : Int) : List Rw := sheetM (cellsM ns most) (drawM ns) (mostM (wayM ns)) (decide (3 < wayM ns))
def drawnM (ns : List Int) (most : Int) : List Rw :=
  if (wayM ns = 1 ∨ wayM ns = 6) ∧ ((baseM ns most).length : Int) < 21 then baseM ns most ++ baseM ns most ++ baseM ns most ++ baseM ns most else baseM ns most
theorem in16 (way : Int) : inV (.int way) [V.int 1, V.int 6] = decide (way = 1 ∨ way = 6) := by
  unfold inV
  show ((1 : Int) == way || ((6 : Int) == way || false)) = _
  by_cases h5 : way = 1
  · subst h5; rfl
  · by_cases h6 : way = 6
    · subst h6; rfl
    · rw [decide_eq_false (fun z => z.elim h5 h6), beq_eq_false_iff_ne.mpr (Ne.symm h5), beq_eq_false_iff_ne.mpr (Ne.symm h6)]
      rfl
theorem at_most {way : Int} (h0 : 0 ≤ way) (h8 : way < 8) : atI [V.int 12, V.int 12, V.int 5, V.int 10, V.int 12, V.int 12, V.int 10, V.int 12] way = some (.int (mostM way)) := by
  have h : way = 0 ∨ way = 1 ∨ way = 2 ∨ way = 3 ∨ way = 4 ∨ way = 5 ∨ way = 6 ∨ way = 7 := by omega
  rcases h with h | h | h | h | h | h | h | h <;> subst h <;> rfl
theorem many_le (ns : List Int) {most : Int} (h : 0 < most) (h2 : most ≤ 100) : 0 ≤ manyM ns most ∧ manyM ns most < 110 := by
  unfold manyM
  have e : 0 < (if cellM ns 2 / 384 % 4 = 3 then most + 10 else most) ∧ (if cellM ns 2 / 384 % 4 = 3 then most + 10 else most) ≤ 110 := by
    split <;> omega
  have h3 := Int.emod_nonneg (cellM ns 0) (show (if cellM ns 2 / 384 % 4 = 3 then most + 10 else most) ≠ 0 by omega)
  have h4 := Int.emod_lt_of_pos (cellM ns 0) e.1
  split <;> omega
theorem cells_len (ns : List Int) (most : Int) : (cellsM ns most).length = (3 * manyM ns most).toNat := by
  unfold cellsM
  rw [List.length_map, List.length_range]
theorem base_len (ns : List Int) {most : Int} (h : 0 < most) (h2 : most ≤ 100) : (baseM ns most).length ≤ 1500 := by
  have h3 := sheet_len (cellsM ns most) (drawM ns) (mostM (wayM ns)) (decide (3 < wayM ns))
  have h4 := many_le ns h h2
  rw [cells_len] at h3
  unfold baseM
  omega
theorem drawn_len (ns : List Int) {most : Int} (h : 0 < most) (h2 : most ≤ 100) : (drawnM ns most).length ≤ 1500 := by
  have := base_len ns h h2
  unfold drawnM
  split
  · rw [List.length_append, List.length_append, List.length_append]
    omega
  · exact this
def spDrawn (K : PySem.W.Frag) : Sp := fun vs H Q _ => ∃ (a : Addr) (ns : List Int) (most : Int), vs = [.ref a, .int most] ∧ SqL K H a (ns.map V.int) ∧ 0 < most ∧ most ≤ 90 ∧ Ret (LRows (drawnM ns most)) H Q
theorem ok_drawn (D : Dn K mg "_law_drawn" s_l_drawn ["_law_script", "_law_most"]) (T : Blt mg) (h_l_cell_at : Has P w K mg base "_law_cell_at" 1 ["_law_script", "_law_k"] (spCell K)) (h_l_sheet : Has P w K mg base "_law_sheet" 4 ["_law_cells", "_law_draw_here", "_law_most", "_law_odd"] (spSheet K)) (h_l_draw : Has P w K mg base "_law_draw" 2 ["_law_script"] (spDraw K)) : Has P w K mg base "_law_drawn" 5 ["_law_script", "_law_most"] (spDrawn K) := by
  refine D.ok sc_l_drawn (fun vs H Q E h => ?_) (fun f cdv A outer s H vs Q E hr h => ?_)
  · obtain ⟨a, ns, most, rfl, _⟩ := h
    rfl
  · obtain ⟨a, ns, most, rfl, hS, hm0, hm1, q⟩ := h
    refine ⟨_, (pss_cons (ps_if (pt_cmpR op_eq (pe_op op_mod (pe_op op_fdiv (pe_own h_l_cell_at (hr.mono (by decide)) (by rfl) (pa_cons (pv 0) (pa_cons pe_int pa_nil))) pe_int) pe_int) pe_int (nomark _)) (pss_one (ps_set (i := 1) sc_l_drawn.nd rfl (Or.inl rfl) (pe_op op_add (pv 1) pe_int))) pss_nil) (pss_cons (ps_set (i := 2) sc_l_drawn.nd rfl (Or.inl rfl) (pe_op op_mod (pe_own h_l_cell_at (hr.mono (by decide)) (by rfl) (pa_cons (pv 0) (pa_cons pe_int pa_nil))) (pv 1))) (pss_cons (ps_set (i := 3) sc_l_drawn.nd rfl (Or.inl rfl) (pe_op op_mod (pe_own h_l_cell_at (hr.mono (by decide)) (by rfl) (pa_cons (pv 0) (pa_cons pe_int pa_nil))) pe_int)) (pss_cons (ps_if (pt_cmpR op_gt (pv 3) pe_int (nomark _)) (pss_one (ps_set (i := 2) sc_l_drawn.nd rfl (Or.inl rfl) (pe_op op_mod (pv 2) pe_int))) pss_nil) (pss_cons (ps_setLc (i := 4) (own := [("_law_k", 6)]) (g := (gName 6)) (tt := tYes) rfl sc_l_drawn.nd rfl rfl (sw_true rfl rfl rfl (by decide +kernel)) (pi_range1 (by rfl) T.range_ (pa_cons (pe_op op_mul pe_int (pv 2)) pa_nil)) (blkOk_by (own := [("_law_k", 6)]) (N := ["_law_script", "_law_most", "_law_many", "_law_way", "_law_cells", "_law_rows", "_law_k"]) (sc := defScope s_l_drawn) (by decide +kernel)) (fun _ _ _ _ _ => (pg_name (i := 6) sc_l_drawn.nd rfl (Or.inl rfl))) (fun _ _ _ _ _ => pts_nil) (fun _ _ _ _ _ => (pe_own h_l_cell_at (hr.mono (by decide)) (by rfl) (pa_cons (pv 0) (pa_cons (pe_op op_add pe_int (pv 6)) pa_nil))))) (pss_cons (ps_set (i := 5) sc_l_drawn.nd rfl (Or.inl rfl) (pe_own h_l_sheet (hr.mono (by decide)) (by rfl) (pa_cons (pv 4) (pa_cons (pe_own h_l_draw (hr.mono (by decide)) (by rfl) (pa_cons (pv 0) pa_nil)) (pa_cons (pe_ix (show IxR _ (rIxL K) from ix_list) (pe_lst (pa_cons pe_int (pa_cons pe_int (pa_cons pe_int (pa_cons pe_int (pa_cons pe_int (pa_cons pe_int (pa_cons pe_int (pa_cons pe_int pa_nil))))))))) (pv 3) (fun _ _ => rfl)) (pa_cons (pe_cmpR op_gt (pv 3) pe_int (nomark _)) pa_nil)))))) (pss_cons (ps_if (PW.pt (pw_and (pt_cmpR (show OpR _ _ (rIn K false) from op_in_seq) (pv 3) (pe_lst (pa_cons pe_int (pa_cons pe_int pa_nil))) (by rfl)) (pw_and1 (pt_cmpR op_lt (pe_callB (show CallR _ _ (rLenS K) from call_len_seq) (by rfl) T.len_ (by decide +kernel) (pa_cons (pv 5) pa_nil)) pe_int (nomark _))))) (pss_one (ps_set (i := 5) sc_l_drawn.nd rfl (Or.inl rfl) (pe_op op_cat (pe_op op_cat (pe_op op_cat (pv 5) (pv 5)) (pv 5)) (pv 5)))) pss_nil) (pss_one (ps_ret (pv 5)))))))))), ?_⟩
    show (_ : L2.TS) _ [_, _, _, _, _, _, _] _
    have hmany := many_le ns hm0 (by omega)
    have hbl := base_len ns hm0 (by omega)
    refine q_ifAsg (i := 1) (v := .int (if cellM ns 2 / 384 % 4 = 3 then most + 10 else most)) (b := decide (V.int (cellM ns 2 / 384 % 4) = V.int 3)) ?_ (fun hb => ?_) (fun hb => ?_) (fun H1 e1 => ?_)
    · walk_at "ev"
    · have hb := V.int.inj (of_decide_eq_true hb)
      rw [if_pos hb]
      walk_at "ev"
    · have hb : ¬ cellM ns 2 / 384 % 4 = 3 := fun z => of_decide_eq_false hb (by rw [z])
      rw [if_neg hb]
      rfl
    show (_ : L2.TS) _ [_, _, _, _, _, _, _] _
    have hmp : 0 < (if cellM ns 2 / 384 % 4 = 3 then most + 10 else most) := by split <;> omega
    generalize hmm : (if cellM ns 2 / 384 % 4 = 3 then most + 10 else most) = most2 at *
    refine' q_asg (v := .int (cellM ns 0 % most2)) ?_ (fun H2 e2 => ?_)
    · walk_at "ev"
    show (_ : L2.TS) _ [_, _, _, _, _, _, _] _
    refine' q_asg (v := .int (wayM ns)) ?_ (fun H3 e3 => ?_)
    · unfold wayM
      walk_at "ev"
    show (_ : L2.TS) _ [_, _, _, _, _, _, _] _
    have hw0 : 0 ≤ wayM ns := by unfold wayM; omega
    have hw8 : wayM ns < 8 := by unfold wayM; omega
    refine q_ifAsg (i := 2) (v := .int (manyM ns most)) (b := decide (3 < wayM ns)) ?_ (fun hb => ?_) (fun hb => ?_) (fun H4 e4 => ?_)
    · walk_at "ev"
    · have hb := of_decide_eq_true hb
      unfold manyM
      rw [if_pos hb, hmm]
      walk_at "ev"
    · have hb := of_decide_eq_false hb
      unfold manyM
      rw [if_neg hb, hmm]
      rfl
    show (_ : L2.TS) _ [_, _, _, _, _, _, _] _
    refine q_asgL (xs := (cellsM ns most).map V.int) ?_ (fun pc H5 hpc e5 h5 => ?_)
    · unfold cellsM
      have hg := given_all (3 * manyM ns most).toNat (fun k => V.int (cellM ns (3 + (k : Int))))
      rw [List.map_map]
      show EvL _ _ _ ((List.range (3 * manyM ns most).toNat).map fun (k : Nat) => V.int (cellM ns (3 + (k : Int))))
      rw [← hg]
      refine el_lcR1 _ _ (n := 3 * manyM ns most) ?_ ⟨by omega, by omega⟩ (fun x => rfl) (fun i H6 e6 hi => et_yes) (fun i H6 e6 hi _ => ?_)
      · walk_at "ev"
      · walk_at "ev"
    show (_ : L2.TS) _ [_, _, _, _, _, _, _] _
    have hcl := cells_len ns most
    have hPC : SqL K H5 pc ((cellsM ns most).map V.int) := sq_of h5
    have hS5 : SqL K H5 a (ns.map V.int) := ex_l (by walk_at "ex") hS
    refine q_asgP (R := LRows (baseM ns most)) ?_ (fun v H6 e6 hv => ?_)
    · refine fun H6 e6 Q' q' => ?_
      -- the arguments, one of them a new list
      refine ⟨.ref pc, rfl, ?_⟩
      refine (el_call (sp := spDraw K) (xs := (drawM ns).vs) (vs := [.ref a]) ?_ (fun H1 e Q q E => ⟨a, ns, rfl, ex_l e (ex_l e6 hS5), fun p H2 hp e2 h2 => q p H2 hp e2 h2⟩)) H6 (Ex.refl H6) _ fun pd H8 hpd e8 h8 => ?_
      · walk_at "ev"
      refine (show EvA _ _ H8 [.int (mostM (wayM ns)), .bl (decide (3 < wayM ns))] from ?_) H8 (Ex.refl H8) _ fun H9 e9 => ?_
      · walk_at "ev"
        exact at_most hw0 hw8
      have e69 : Ex H5 H9 := e6.trans (e8.trans e9)
      refine ⟨pc, pd, cellsM ns most, drawM ns, mostM (wayM ns), decide (3 < wayM ns), rfl, ex_l e69 hPC, by omega, sq_of (e9 _ _ h8), drawM_ok ns, ?_, fun v H10 e10 hv => q' v H10 (e8.trans (e9.trans e10)) hv⟩
      unfold mostM
      split
      · decide
      · split <;> decide
    show (_ : L2.TS) _ [_, _, _, _, _, _, _] _
    obtain ⟨pr, rv, rfl, hpr, hR⟩ := id hv
    have hPR : SqL K H6 pr rv := sq_of hpr
    have hlr := hR.len
    refine q_when (b := decide (wayM ns = 1 ∨ wayM ns = 6) && decide ((rv.length : Int) < 21)) ?_ (fun hb H7 e7 => ?_) (fun hb H7 e7 => ?_)
    · rw [← in16]
      walk_at "ev"
    · simp only [Bool.and_eq_true, decide_eq_true_eq] at hb
      rw [hlr] at hb
      have hv7 := hv.up e7
      have hsm : (baseM ns most).length < 21 := by omega
      unfold drawnM at q
      rw [if_pos hb] at q
      refine s_asgP (elr_cat (elr_cat (elr_cat (elr_var rfl hv7) (elr_var rfl hv7) ?_) (elr_var rfl hv7) ?_) (elr_var rfl hv7) ?_) (fun u H8 e8 hu => ?_)
      · omega
      · rw [List.length_append]; omega
      · rw [List.length_append, List.length_append]; omega
      · refine s_ret (v := u) (ev_var rfl) (fun H9 e9 => q u H9 (by walk_at "ex") (hu.up e9))
    · simp only [Bool.and_eq_false_iff, decide_eq_false_iff_not] at hb
      rw [hlr] at hb
      unfold drawnM at q
      rw [if_neg (fun z => hb.elim (fun y => y z.1) (fun y => y z.2))] at q
      refine s_ret (v := .ref pr) (ev_var rfl) (fun H9 e9 => q _ H9 (by walk_at "ex") ((hv.up e7).up e9))
theorem ep_drawn {a : Addr} {ns : List Int} {most : Int} {ta : TA} {σ : L2.St} {H : Hp} {E : XK} (h : EvA ta σ H [.ref a, .int most]) (hS : SqL K H a (ns.map V.int)) (h0 : 0 < most) (h1 : most ≤ 90) : EvP (tCall (spDrawn K) [] E ta) σ H (LRows (drawnM ns most)) :=
  ep_call h fun H1 e Q q E => ⟨a, ns, most, rfl, ex_l e hS, h0, h1, q⟩
end
end BD
namespace BD
open PySem PySem.Spec PyProof.Rows L2 Evl
/-! ### blocks: depth -/
def run : Nat → List Rw → Option Nat
  | d, [] => some d
  | d, r :: rs => if r.opens = true then run (d + 1) rs else if r.isFin = true then (if d = 0 then none else run (d - 1) rs) else run d rs
theorem run_app : ∀ (xs ys : List Rw) (d : Nat), run d (xs ++ ys) = (run d xs).bind fun e => run e ys
  | [], ys, d => rfl
  | r :: xs, ys, d => by
    show (if r.opens = true then run (d + 1) (xs ++ ys) else if r.isFin = true then (if d = 0 then none else run (d - 1) (xs ++ ys)) else run d (xs ++ ys)) =
      (if r.opens = true then run (d + 1) xs else if r.isFin = true then (if d = 0 then none else run (d - 1) xs) else run d xs).bind fun e => run e ys
    split
    · exact run_app xs ys _
    split
    · split
      · rfl
      · exact run_app xs ys _
    · exact run_app xs ys _
theorem run_gad (n : Nat) (one two : Int) (a b c : Str) (t : Int) : run n (gadA one two a b c t) = some n := by
  unfold gadA
  split
  · unfold fourM
    split
    · rfl
    split
    · rfl
    split <;> rfl
  split
  · rfl
  split
  · rfl
  split
  · rfl
  split <;> rfl
theorem run_row {op : List Rw} {r : Rw} (h : r.isFin = true → 0 < op.length) : run op.length [r] = some (opUpd op r).length := by
  unfold opUpd
  show (if r.opens = true then run (op.length + 1) [] else if r.isFin = true then (if op.length = 0 then none else run (op.length - 1) []) else run op.length []) = _
  split
  · rw [List.length_append]; rfl
  split
  · rename_i h2
    rw [if_neg (by have := h h2; omega), List.length_dropLast]
    rfl
  · rfl
theorem run_st (cells : List Int) (d : Draw) (most : Int) (odd : Bool) : ∀ i, run 0 (sheetSt cells d most odd i).1 = some (sheetSt cells d most odd i).2.length
  | 0 => rfl
  | i + 1 => by
    have ih := run_st cells d most odd i
    unfold sheetSt stepM
    split
    · show run 0 (_ ++ gadgetM _ _ _ _) = _
      rw [run_app, ih]
      exact run_gad _ _ _ _ _ _ _
    · show run 0 (_ ++ [_]) = _
      rw [run_app, ih]
      exact run_row rowM_fin
theorem run_fins : ∀ n, run n ((List.range n).map fun _ => Rw.fin) = some 0
  | 0 => rfl
  | n + 1 => by
    rw [List.range_succ_eq_map, List.map_cons, List.map_map]
    show (if n + 1 = 0 then none else run (n + 1 - 1) _) = _
    rw [if_neg (by omega)]
    exact run_fins n
theorem run_sheet (cells : List Int) (d : Draw) (most : Int) (odd : Bool) : run 0 (sheetM cells d most odd) = some 0 := by
  unfold sheetM
  rw [run_app, run_st]
  exact run_fins _
theorem run_drawn (ns : List Int) (most : Int) : run 0 (drawnM ns most) = some 0 := by
  have h : run 0 (baseM ns most) = some 0 := run_sheet _ _ _ _
  unfold drawnM
  split
  · rw [run_app, run_app, run_app, h]
    show ((((run 0 (baseM ns most)).bind fun e => run e (baseM ns most)).bind fun e => run e (baseM ns most))) = _
    rw [h]
    show (((run 0 (baseM ns most)).bind fun e => run e (baseM ns most))) = _
    rw [h]
    exact h
  · exact h
/-! ### the stack of openers -/
def pr (rs : List Rw) : Nat → List Nat
  | 0 => []
  | i + 1 => match rs[i]? with
    | some r => if r.opens = true then i :: pr rs i else if r.isFin = true then (pr rs i).tail else pr rs i
    | none => pr rs i
def hm (rs : List Rw) (i : Nat) : Int := match pr rs i with
  | [] => -1
  | h :: _ => (h : Int)
structure Good (rs : List Rw) : Prop where
  fin : ∀ i r, rs[i]? = some r → r.isFin = true → pr rs i ≠ []
  last : pr rs rs.length = []
theorem pr_next {rs : List Rw} {i : Nat} {r : Rw} (h : rs[i]? = some r) : pr rs (i + 1) = if r.opens = true then i :: pr rs i else if r.isFin = true then (pr rs i).tail else pr rs i := by
  show (match rs[i]? with
    | some r => if r.opens = true then i :: pr rs i else if r.isFin = true then (pr rs i).tail else pr rs i
    | none => pr rs i) = _
  rw [h]
theorem run_pr {rs : List Rw} (h : (run 0 rs).isSome = true) : ∀ i, i ≤ rs.length → run 0 (rs.take i) = some (pr rs i).length
  | 0, _ => by rw [List.take_zero]; rfl
  | i + 1, hi => by
    have hlt : i < rs.length := hi
    have ih := run_pr h i (by omega)
    have hg := List.getElem?_eq_getElem hlt
    have hs : (run 0 (rs.take (i + 1))).isSome = true := by
      have e := List.take_append_drop (i + 1) rs
      rw [← e, run_app] at h
      cases hh : run 0 (rs.take (i + 1)) with
      | none => rw [hh] at h; cases h
      | some _ => rfl
    rw [List.take_add_one, hg, run_app, ih] at hs
    rw [List.take_add_one, hg, run_app, ih, pr_next hg]
    show run (pr rs i).length [rs[i]] = _
    have hs : (run (pr rs i).length [rs[i]]).isSome = true := hs
    show (if rs[i].opens = true then some ((pr rs i).length + 1) else if rs[i].isFin = true then (if (pr rs i).length = 0 then none else some ((pr rs i).length - 1)) else some (pr rs i).length) = _
    split
    · rfl
    split
    · rename_i h1 h2
      have hs2 : (if rs[i].opens = true then some ((pr rs i).length + 1) else if rs[i].isFin = true then (if (pr rs i).length = 0 then none else some ((pr rs i).length - 1)) else some (pr rs i).length).isSome = true := hs
      rw [if_neg h1, if_pos h2] at hs2
      split at hs2
      · cases hs2
      · rename_i h3
        rw [if_neg h3, List.length_tail]
    · rfl
theorem good_of {rs : List Rw} (h : run 0 rs = some 0) : Good rs := by
  have hs : (run 0 rs).isSome = true := by rw [h]; rfl
  refine ⟨fun i r hr hf => ?_, ?_⟩
  · have hlt : i < rs.length := (List.getElem?_eq_some_iff.mp hr).1
    have h1 := run_pr hs i (by omega)
    have h2 := run_pr hs (i + 1) hlt
    rw [List.take_add_one, hr, run_app, h1] at h2
    have h3 : (if r.opens = true then some ((pr rs i).length + 1) else if r.isFin = true then (if (pr rs i).length = 0 then none else some ((pr rs i).length - 1)) else some (pr rs i).length) = some (pr rs (i + 1)).length := h2
    have ho : r.opens = false := by cases r <;> first | rfl | cases hf
    rw [if_neg (by rw [ho]; decide), if_pos hf] at h3
    intro z
    rw [z] at h3
    rw [if_pos (by rfl)] at h3
    cases h3
  · have h1 := run_pr hs rs.length (Nat.le_refl _)
    rw [List.take_length, h] at h1
    have h2 : (pr rs rs.length).length = 0 := (Option.some.inj h1).symm
    exact List.length_eq_zero_iff.mp h2
theorem good_drawn (ns : List Int) (most : Int) : Good (drawnM ns most) := good_of (run_drawn ns most)
/-- what is in the stack -/
theorem pr_mem {rs : List Rw} : ∀ i x, x ∈ pr rs i → x < i ∧ ∃ r, rs[x]? = some r ∧ r.opens = true
  | 0, x, h => by cases h
  | i + 1, x, h => by
    cases hg : rs[i]? with
    | none =>
      have e : pr rs (i + 1) = pr rs i := by
        show (match rs[i]? with
          | some r => if r.opens = true then i :: pr rs i else if r.isFin = true then (pr rs i).tail else pr rs i
          | none => pr rs i) = _
        rw [hg]
      rw [e] at h
      have := pr_mem i x h
      exact ⟨by omega, this.2⟩
    | some r =>
      rw [pr_next hg] at h
      split at h
      · rcases List.mem_cons.mp h with h | h
        · subst h
          exact ⟨Nat.lt_succ_self _, r, hg, by assumption⟩
        · have := pr_mem i x h
          exact ⟨by omega, this.2⟩
      split at h
      · have := pr_mem i x (List.mem_of_mem_tail h)
        exact ⟨by omega, this.2⟩
      · have := pr_mem i x h
        exact ⟨by omega, this.2⟩
theorem pr_nodup {rs : List Rw} : ∀ i, (pr rs i).Nodup
  | 0 => List.nodup_nil
  | i + 1 => by
    have ih := pr_nodup (rs := rs) i
    show (match rs[i]? with
      | some r => if r.opens = true then i :: pr rs i else if r.isFin = true then (pr rs i).tail else pr rs i
      | none => pr rs i).Nodup
    split
    · split
      · refine List.nodup_cons.mpr ⟨fun h => ?_, ih⟩
        have := (pr_mem i i h).1
        omega
      split
      · exact ih.sublist (List.tail_sublist _)
      · exact ih
    · exact ih
theorem hm_lt {rs : List Rw} (i : Nat) : hm rs i < i := by
  unfold hm
  cases h : pr rs i with
  | nil => show (-1 : Int) < i; omega
  | cons a t =>
    have := (pr_mem i a (by rw [h]; exact List.mem_cons_self)).1
    show (a : Int) < i
    omega
/-- at an end: the opener -/
theorem hm_fin {rs : List Rw} (g : Good rs) {i : Nat} {r : Rw} (h : rs[i]? = some r) (hf : r.isFin = true) : ∃ (a : Nat) (t : List Nat), pr rs i = a :: t ∧ hm rs i = (a : Int) ∧ a < i ∧ ∃ q, rs[a]? = some q ∧ q.opens = true := by
  cases hp : pr rs i with
  | nil => exact absurd hp (g.fin i r h hf)
  | cons a t =>
    have := pr_mem i a (by rw [hp]; exact List.mem_cons_self)
    refine ⟨a, t, rfl, ?_, this.1, this.2⟩
    unfold hm
    rw [hp]
/-- an end's opener leaves the stack for good -/
theorem gone {rs : List Rw} {p a : Nat} {t : List Nat} {r : Rw} (h : rs[p]? = some r) (hf : r.isFin = true) (hp : pr rs p = a :: t) (ha : a < p) : ∀ i, p < i → a ∉ pr rs i
  | 0, hi => by omega
  | i + 1, hi => by
    by_cases e : p = i
    · subst e
      have ho : r.opens = false := by cases r <;> first | rfl | cases hf
      rw [pr_next h, if_neg (by rw [ho]; decide), if_pos hf, hp]
      have := pr_nodup (rs := rs) p
      rw [hp] at this
      exact (List.nodup_cons.mp this).1
    · have ih := gone h hf hp ha i (by omega)
      show a ∉ (match rs[i]? with
        | some r => if r.opens = true then i :: pr rs i else if r.isFin = true then (pr rs i).tail else pr rs i
        | none => pr rs i)
      split
      · split
        · intro z
          rcases List.mem_cons.mp z with z | z
          · omega
          · exact ih z
        split
        · exact fun z => ih (List.mem_of_mem_tail z)
        · exact ih
      · exact ih
/-- rows behind the sheet do not reach back -/
theorem pr_app (rs ss : List Rw) : ∀ i, i ≤ rs.length → pr (rs ++ ss) i = pr rs i
  | 0, _ => rfl
  | i + 1, h => by
    have hlt : i < rs.length := h
    have e : (rs ++ ss)[i]? = rs[i]? := List.getElem?_append_left hlt
    have ih := pr_app rs ss i (by omega)
    rw [pr_next (e.trans (List.getElem?_eq_getElem hlt)), pr_next (List.getElem?_eq_getElem hlt), ih]
theorem hm_app (rs ss : List Rw) (i : Nat) (h : i ≤ rs.length) : hm (rs ++ ss) i = hm rs i := by
  unfold hm
  rw [pr_app rs ss i h]
end BD
namespace BD
open PySem PySem.Spec PyProof.Rows L2 Evl
local macro_rules | `(tactic| walk_at "ev") => `(tactic| first
  | ((with_reducible apply ev_var) ; rfl)
  | with_reducible exact ev_c
  | ((with_reducible apply ev_I0) <;> walk_at "ev")
  | ((with_reducible apply ev_e9) <;> walk_at "ev")
  | ((with_reducible apply ev_I) <;> walk_at "ev")
  | ((with_reducible apply ev_eq) <;> walk_at "ev")
  | ((with_reducible apply ev_ne) <;> walk_at "ev")
  | ((with_reducible apply ev_neg) <;> walk_at "ev")
  | ((with_reducible apply ev_ixN) <;> walk_at "ev")
  | ((with_reducible apply ev_ixL) <;> walk_at "ev")
  | ((with_reducible apply ev_inN) <;> walk_at "ev")
  | ((with_reducible apply ev_inT) <;> walk_at "ev")
  | ((with_reducible apply ev_ixT) <;> walk_at "ev")
  | ((with_reducible apply ev_ixS) <;> walk_at "ev")
  | ((with_reducible apply ev_len') <;> walk_at "ev")
  | ((with_reducible apply et_test) <;> walk_at "ev")
  | ((with_reducible apply et_and) <;> walk_at "ev")
  | ((with_reducible apply et_or) <;> walk_at "ev")
  | ((with_reducible apply et_not) <;> walk_at "ev")
  | ((with_reducible apply et_B) <;> walk_at "ev")
  | ((with_reducible apply el_lst) <;> walk_at "ev")
  | ((with_reducible apply eu_tup) <;> walk_at "ev")
  | ((with_reducible apply ea_cons) <;> walk_at "ev")
  | with_reducible exact ea_nil
  | with_reducible assumption
  | ((with_reducible apply ex_l' ; assumption) ; walk_at "ex")
  | ((with_reducible apply ex_t' ; assumption) ; walk_at "ex")
  | (intro _ ; walk_at "ev")
  | (with_reducible first | exact atI_hd | exact at_kind | exact at2s | exact at3s | exact at3i)
  | (first | exact rfl | exact Nat.le_of_ble_eq_true rfl | exact ⟨by decide, by decide⟩ | decide | exact Or.inl ⟨by omega, by omega⟩ | exact Or.inr ⟨by omega, by omega⟩ | omega)
  | skip)
local macro_rules | `(tactic| walk_at "ex") => `(tactic| first
  | assumption
  | exact Ex.refl _
  | (refine' Ex.trans ?_ (by assumption) ; walk_at "ex"))
local macro_rules | `(tactic| walk_at "row") => `(tactic| first
  | (with_reducible exact er_nil)
  | ((with_reducible apply er_cons) <;> walk_at "row")
  | (((with_reducible apply er_var) ; rfl) ; walk_at "isrow")
  | (((with_reducible apply elr_var) ; rfl) ; walk_at "isrow")
  | ((with_reducible apply elr_cat) <;> walk_at "row")
  | ((with_reducible apply elr_lst) <;> walk_at "row")
  | ((with_reducible apply er_fin) <;> walk_at "ev")
  | ((with_reducible apply er_lendT) <;> walk_at "ev")
  | ((with_reducible apply er_lendW) <;> walk_at "ev")
  | ((with_reducible apply er_pick) <;> walk_at "ev")
  | ((with_reducible apply er_either) <;> walk_at "ev")
  | ((with_reducible apply er_or) <;> walk_at "ev")
  | ((with_reducible apply er_again) <;> walk_at "ev")
  | ((with_reducible apply er_back) <;> walk_at "ev")
  | ((with_reducible apply er_look) <;> walk_at "ev")
  | ((with_reducible apply er_change) <;> walk_at "ev")
  | exact Nat.le_of_ble_eq_true rfl
  | skip)
local macro_rules | `(tactic| walk_at "isrow") => `(tactic| first
  | assumption
  | (refine IsRow.up ?_ (by assumption) ; walk_at "ex")
  | (refine LRows.up ?_ (by assumption) ; walk_at "ex"))

local macro_rules | `(tactic| walk_at "ev") => `(tactic| ((with_reducible apply ev_letter) <;> walk_at "ev"))
local macro_rules | `(tactic| walk_at "ev") => `(tactic| ((with_reducible apply ev_cell) <;> walk_at "ev"))
local macro_rules | `(tactic| walk_at "ev") => `(tactic| ((with_reducible apply ev_word) <;> walk_at "ev"))
local macro_rules | `(tactic| walk_at "ev") => `(tactic| ((with_reducible apply ev_thing) <;> walk_at "ev"))

local macro_rules | `(tactic| walk_at "ev") => `(tactic| (((with_reducible apply ev_tag) ; rfl) ; walk_at "isrow"))
section
variable {P : Program} {w : World} {K : PySem.W.Frag} {mg : Str → Option Value} {base : Heap}
/-! ### homes -/
def stV (rs : List Rw) (i : Nat) : List V := .int (-1) :: (pr rs i).reverse.map fun (n : Nat) => V.int (n : Int)
theorem stV_last (rs : List Rw) (i : Nat) : atI (stV rs i) (-1) = some (.int (hm rs i)) := by
  unfold stV hm
  cases pr rs i with
  | nil => exact atI_last [] _
  | cons a t =>
    rw [List.reverse_cons, List.map_append]
    exact atI_last (V.int (-1) :: t.reverse.map fun (n : Nat) => V.int (n : Int)) _
theorem stV_push {rs : List Rw} {i : Nat} {r : Rw} (h : rs[i]? = some r) (ho : r.opens = true) : stV rs (i + 1) = stV rs i ++ [.int (i : Int)] := by
  unfold stV
  rw [pr_next h, if_pos ho, List.reverse_cons, List.map_append]
  rfl
theorem stV_pop {rs : List Rw} {i : Nat} {r : Rw} (g : Good rs) (h : rs[i]? = some r) (hf : r.isFin = true) : stV rs (i + 1) = (stV rs i).dropLast ∧ 0 < (stV rs i).length := by
  obtain ⟨a, t, hp, _⟩ := hm_fin g h hf
  have ho : r.opens = false := by cases r <;> first | rfl | cases hf
  unfold stV
  rw [pr_next h, if_neg (by rw [ho]; decide), if_pos hf, hp, List.reverse_cons, List.map_append]
  refine ⟨?_, Nat.succ_pos _⟩
  show _ = ((V.int (-1) :: t.reverse.map fun (n : Nat) => V.int (n : Int)) ++ [V.int (a : Int)]).dropLast
  rw [List.dropLast_concat]
  rfl
theorem stV_keep {rs : List Rw} {i : Nat} {r : Rw} (h : rs[i]? = some r) (ho : r.opens = false) (hf : r.isFin = false) : stV rs (i + 1) = stV rs i := by
  unfold stV
  rw [pr_next h, if_neg (by rw [ho]; decide), if_neg (by rw [hf]; decide)]
theorem pr_len (rs : List Rw) : ∀ i, (pr rs i).length ≤ i
  | 0 => Nat.le_refl _
  | i + 1 => by
    have ih := pr_len rs i
    show (match rs[i]? with
      | some r => if r.opens = true then i :: pr rs i else if r.isFin = true then (pr rs i).tail else pr rs i
      | none => pr rs i).length ≤ _
    split
    · split
      · rw [List.length_cons]; omega
      split
      · rw [List.length_tail]; omega
      · omega
    · omega
theorem stV_len (rs : List Rw) (i : Nat) : (stV rs i).length ≤ i + 1 := by
  unfold stV
  rw [List.length_cons, List.length_map, List.length_reverse]
  have := pr_len rs i
  omega
def homesV (rs : List Rw) (n : Nat) : List V := (List.range n).map fun i => V.int (hm rs i)
theorem homesV_next (rs : List Rw) (n : Nat) : homesV rs (n + 1) = homesV rs n ++ [.int (hm rs n)] := by
  unfold homesV
  rw [List.range_succ, List.map_append]
  rfl
theorem homesV_len (rs : List Rw) (n : Nat) : (homesV rs n).length = n := by
  unfold homesV
  rw [List.length_map, List.length_range]
theorem homesV_at {rs : List Rw} {n i : Nat} (h : i < n) : (homesV rs n)[i]? = some (.int (hm rs i)) := by
  unfold homesV
  rw [List.getElem?_map, List.getElem?_range h]
  rfl
def spHomes (K : PySem.W.Frag) : Sp := fun vs H Q _ => ∃ (a : Addr) (rv : List V) (rs : List Rw), vs = [.ref a] ∧ SqL K H a rv ∧ Rows H rv rs ∧ Good rs ∧ rs.length ≤ 90000 ∧ RetL (homesV rs rs.length) H Q
end
end BD
namespace BD
open PySem PySem.Spec PyProof.Rows L2 Evl
local macro_rules | `(tactic| walk_at "ev") => `(tactic| first
  | ((with_reducible apply ev_var) ; rfl)
  | with_reducible exact ev_c
  | ((with_reducible apply ev_I0) <;> walk_at "ev")
  | ((with_reducible apply ev_e9) <;> walk_at "ev")
  | ((with_reducible apply ev_I) <;> walk_at "ev")
  | ((with_reducible apply ev_eq) <;> walk_at "ev")
  | ((with_reducible apply ev_ne) <;> walk_at "ev")
  | ((with_reducible apply ev_neg) <;> walk_at "ev")
  | ((with_reducible apply ev_ixN) <;> walk_at "ev")
  | ((with_reducible apply ev_ixL) <;> walk_at "ev")
  | ((with_reducible apply ev_inN) <;> walk_at "ev")
  | ((with_reducible apply ev_inT) <;> walk_at "ev")
  | ((with_reducible apply ev_ixT) <;> walk_at "ev")
  | ((with_reducible apply ev_ixS) <;> walk_at "ev")
  | ((with_reducible apply ev_len') <;> walk_at "ev")
  | ((with_reducible apply et_test) <;> walk_at "ev")
  | ((with_reducible apply et_and) <;> walk_at "ev")
  | ((with_reducible apply et_or) <;> walk_at "ev")
  | ((with_reducible apply et_not) <;> walk_at "ev")
  | ((with_reducible apply et_B) <;> walk_at "ev")
  | ((with_reducible apply el_lst) <;> walk_at "ev")
  | ((with_reducible apply eu_tup) <;> walk_at "ev")
  | ((with_reducible apply ea_cons) <;> walk_at "ev")
  | with_reducible exact ea_nil
  | with_reducible assumption
  | ((with_reducible apply ex_l' ; assumption) ; walk_at "ex")
  | ((with_reducible apply ex_t' ; assumption) ; walk_at "ex")
  | (intro _ ; walk_at "ev")
  | (with_reducible first | exact atI_hd | exact at_kind | exact at2s | exact at3s | exact at3i)
  | (first | exact rfl | exact Nat.le_of_ble_eq_true rfl | exact ⟨by decide, by decide⟩ | decide | exact Or.inl ⟨by omega, by omega⟩ | exact Or.inr ⟨by omega, by omega⟩ | omega)
  | skip)
local macro_rules | `(tactic| walk_at "ex") => `(tactic| first
  | assumption
  | exact Ex.refl _
  | (refine' Ex.trans ?_ (by assumption) ; walk_at "ex"))
local macro_rules | `(tactic| walk_at "row") => `(tactic| first
  | (with_reducible exact er_nil)
  | ((with_reducible apply er_cons) <;> walk_at "row")
  | (((with_reducible apply er_var) ; rfl) ; walk_at "isrow")
  | (((with_reducible apply elr_var) ; rfl) ; walk_at "isrow")
  | ((with_reducible apply elr_cat) <;> walk_at "row")
  | ((with_reducible apply elr_lst) <;> walk_at "row")
  | ((with_reducible apply er_fin) <;> walk_at "ev")
  | ((with_reducible apply er_lendT) <;> walk_at "ev")
  | ((with_reducible apply er_lendW) <;> walk_at "ev")
  | ((with_reducible apply er_pick) <;> walk_at "ev")
  | ((with_reducible apply er_either) <;> walk_at "ev")
  | ((with_reducible apply er_or) <;> walk_at "ev")
  | ((with_reducible apply er_again) <;> walk_at "ev")
  | ((with_reducible apply er_back) <;> walk_at "ev")
  | ((with_reducible apply er_look) <;> walk_at "ev")
  | ((with_reducible apply er_change) <;> walk_at "ev")
  | exact Nat.le_of_ble_eq_true rfl
  | skip)
local macro_rules | `(tactic| walk_at "isrow") => `(tactic| first
  | assumption
  | (refine IsRow.up ?_ (by assumption) ; walk_at "ex")
  | (refine LRows.up ?_ (by assumption) ; walk_at "ex"))

local macro_rules | `(tactic| walk_at "ev") => `(tactic| ((with_reducible apply ev_letter) <;> walk_at "ev"))
local macro_rules | `(tactic| walk_at "ev") => `(tactic| ((with_reducible apply ev_cell) <;> walk_at "ev"))
local macro_rules | `(tactic| walk_at "ev") => `(tactic| ((with_reducible apply ev_word) <;> walk_at "ev"))
local macro_rules | `(tactic| walk_at "ev") => `(tactic| ((with_reducible apply ev_thing) <;> walk_at "ev"))

local macro_rules | `(tactic| walk_at "ev") => `(tactic| (((with_reducible apply ev_tag) ; rfl) ; walk_at "isrow"))
def opAt (rs : List Rw) (i : Nat) : Bool := match rs[i]? with
  | some r => r.opens
  | none => false
def finF (rs : List Rw) (a p : Nat) : Bool := decide (hm rs p = (a : Int)) && (match rs[p]? with
  | some r => r.isFin
  | none => false)
def orF (rs : List Rw) (a p : Nat) : Bool := decide (hm rs p = (a : Int)) && (match rs[p]? with
  | some r => r.isOr
  | none => false)
theorem finF_low {rs : List Rw} {a p : Nat} (h : p ≤ a) : finF rs a p = false := by
  unfold finF
  have := hm_lt (rs := rs) p
  rw [decide_eq_false (by omega)]
  rfl
theorem orF_low {rs : List Rw} {a p : Nat} (h : p ≤ a) : orF rs a p = false := by
  unfold orF
  have := hm_lt (rs := rs) p
  rw [decide_eq_false (by omega)]
  rfl
theorem finF_at {rs : List Rw} {a p : Nat} {r : Rw} (h : rs[p]? = some r) : finF rs a p = (decide (hm rs p = (a : Int)) && r.isFin) := by
  unfold finF
  rw [h]
theorem orF_at {rs : List Rw} {a p : Nat} {r : Rw} (h : rs[p]? = some r) : orF rs a p = (decide (hm rs p = (a : Int)) && r.isOr) := by
  unfold orF
  rw [h]
/-- the first end of the block at a, of the rows below i -/
def endUp (rs : List Rw) (a i : Nat) : Int := match (List.range i).find? (finF rs a) with
  | some p => (p : Int)
  | none => -1
def endsV (rs : List Rw) (i : Nat) : List V := (List.range rs.length).map fun a => V.int (if opAt rs a = true then endUp rs a i else -1)
theorem endsV_len (rs : List Rw) (i : Nat) : (endsV rs i).length = rs.length := by
  unfold endsV
  rw [List.length_map, List.length_range]
theorem endUp_next {rs : List Rw} {a i : Nat} (h : finF rs a i = false) : endUp rs a (i + 1) = endUp rs a i := by
  unfold endUp
  rw [List.range_succ, List.find?_append, List.find?_cons, h]
  cases (List.range i).find? (finF rs a) <;> rfl
theorem endUp_hit {rs : List Rw} {a i : Nat} (h : finF rs a i = true) (hn : ∀ p, p < i → finF rs a p = false) : endUp rs a (i + 1) = (i : Int) := by
  unfold endUp
  have e : (List.range i).find? (finF rs a) = none := List.find?_eq_none.mpr fun x hx => by
    rw [hn x (List.mem_range.mp hx)]
    decide
  rw [List.range_succ, List.find?_append, List.find?_cons, h, e]
  rfl
theorem endUp_none {rs : List Rw} {a i : Nat} (hn : ∀ p, p < i → finF rs a p = false) : endUp rs a i = -1 := by
  unfold endUp
  have e : (List.range i).find? (finF rs a) = none := List.find?_eq_none.mpr fun x hx => by
    rw [hn x (List.mem_range.mp hx)]
    decide
  rw [e]
/-- behind a first hit nothing changes -/
theorem endUp_stay {rs : List Rw} {a p : Nat} (h : finF rs a p = true) (hn : ∀ q, q < p → finF rs a q = false) : ∀ i, p < i → endUp rs a i = (p : Int)
  | 0, hi => by omega
  | i + 1, hi => by
    by_cases e : p = i
    · subst e
      exact endUp_hit h hn
    · have ih := endUp_stay h hn i (by omega)
      unfold endUp at ih ⊢
      rw [List.range_succ, List.find?_append]
      cases hf : (List.range i).find? (finF rs a) with
      | none =>
        rw [hf] at ih
        exact absurd ih (by show ¬ (-1 : Int) = (p : Int); omega)
      | some q =>
        rw [hf] at ih
        exact ih
theorem first_end {rs : List Rw} (g : Good rs) {i a : Nat} {t : List Nat} {r : Rw} (hi : rs[i]? = some r) (hp : pr rs i = a :: t) : ∀ p, p < i → finF rs a p = false := fun p hpi => by
  cases hq : rs[p]? with
  | none => unfold finF; rw [hq, Bool.and_false]
  | some q =>
    rw [finF_at hq]
    cases hf : q.isFin with
    | false => exact Bool.and_false _
    | true =>
      rw [Bool.and_true]
      refine decide_eq_false fun z => ?_
      obtain ⟨b, u, e1, e2, e3, _⟩ := hm_fin g hq hf
      have eb : b = a := by rw [e2] at z; omega
      subst eb
      refine gone hq hf e1 e3 i hpi ?_
      rw [hp]
      exact List.mem_cons_self
theorem endsV_keep {rs : List Rw} {i : Nat} {r : Rw} (hi : rs[i]? = some r) (hf : r.isFin = false) : endsV rs (i + 1) = endsV rs i := by
  unfold endsV
  refine List.map_congr_left fun a _ => ?_
  rw [endUp_next (by rw [finF_at hi, hf, Bool.and_false])]
theorem endsV_set {rs : List Rw} (g : Good rs) {i a : Nat} {t : List Nat} {r : Rw} (hi : rs[i]? = some r) (hf : r.isFin = true) (hp : pr rs i = a :: t) (hm' : hm rs i = (a : Int)) (ho : opAt rs a = true) : endsV rs (i + 1) = (endsV rs i).set a (.int (i : Int)) := by
  have hil : i < rs.length := (List.getElem?_eq_some_iff.mp hi).1
  refine List.ext_getElem? fun b => ?_
  by_cases hb : b < rs.length
  · unfold endsV
    rw [List.getElem?_map, List.getElem?_range hb, List.getElem?_set]
    by_cases hab : a = b
    · subst hab
      rw [if_pos rfl, if_pos (by rw [List.length_map, List.length_range]; exact hb)]
      show some (V.int (if opAt rs a = true then endUp rs a (i + 1) else -1)) = _
      rw [if_pos ho, endUp_hit (by rw [finF_at hi, hf, hm', decide_eq_true rfl]; rfl) (first_end g hi hp)]
    · rw [if_neg hab, List.getElem?_map, List.getElem?_range hb]
      show some (V.int (if opAt rs b = true then endUp rs b (i + 1) else -1)) = some (V.int (if opAt rs b = true then endUp rs b i else -1))
      rw [endUp_next (by rw [finF_at hi, hm', decide_eq_false (by omega)]; rfl)]
  · rw [List.getElem?_eq_none (by rw [endsV_len]; omega), List.getElem?_eq_none (by rw [List.length_set, endsV_len]; omega)]
theorem endsV_zero (rs : List Rw) : endsV rs 0 = List.replicate rs.length (.int (-1)) := by
  refine List.ext_getElem? fun b => ?_
  by_cases hb : b < rs.length
  · unfold endsV
    rw [List.getElem?_map, List.getElem?_range hb, List.getElem?_replicate, if_pos hb]
    show some (V.int (if opAt rs b = true then -1 else -1)) = _
    split <;> rfl
  · rw [List.getElem?_eq_none (by rw [endsV_len]; omega), List.getElem?_eq_none (by rw [List.length_replicate]; omega)]
/-- the firsts of the branches, of the rows below i -/
def brV (rs : List Rw) (a i : Nat) : List V := .int ((a : Int) + 1) :: ((List.range i).filter (orF rs a)).map fun (p : Nat) => V.int ((p : Int) + 1)
theorem brV_yes {rs : List Rw} {a i : Nat} (h : orF rs a i = true) : brV rs a (i + 1) = brV rs a i ++ [.int ((i : Int) + 1)] := by
  unfold brV
  rw [List.range_succ, List.filter_append, List.map_append, List.filter_cons, if_pos h]
  rfl
theorem brV_no {rs : List Rw} {a i : Nat} (h : orF rs a i = false) : brV rs a (i + 1) = brV rs a i := by
  unfold brV
  rw [List.range_succ, List.filter_append, List.map_append, List.filter_cons, if_neg (by rw [h]; decide)]
  show _ :: (_ ++ []) = _
  rw [List.append_nil]
theorem brV_len (rs : List Rw) (a i : Nat) : (brV rs a i).length ≤ i + 1 := by
  unfold brV
  rw [List.length_cons, List.length_map]
  have := List.length_filter_le (orF rs a) (List.range i)
  rw [List.length_range] at this
  omega
theorem brV_low (rs : List Rw) (a : Nat) : ∀ i, i ≤ a + 1 → brV rs a i = [.int ((a : Int) + 1)]
  | 0, _ => rfl
  | i + 1, h => by rw [brV_no (orF_low (by omega)), brV_low rs a i (by omega)]
section
variable {P : Program} {w : World} {K : PySem.W.Frag} {mg : Str → Option Value} {base : Heap}
theorem el_rep {ta tb : TE} {σ : L2.St} {H : Hp} {xs : List V} {k : Int} (ha : EvL ta σ H xs) (hb : Ev tb σ H (.int k)) (h0 : 0 ≤ k) (h1 : k ≤ 90000) (hl : xs.length * k.toNat ≤ 100000) : EvL (tOp rRep ta tb) σ H (List.replicate k.toNat xs).flatten := fun H1 e Q q =>
  ha H1 e _ fun p H2 hp e2 h2 => hb H2 (e.trans e2) _ fun H3 e3 => ⟨p, k, xs, rfl, rfl, e3 _ _ h2, by omega, by omega, sz_of hl, fun z hz => q z _ (fresh_back (e2.trans e3) hz) ((e2.trans e3).trans (Ex.new hz)) upd_same⟩
theorem flat_rep (v : V) : ∀ n, (List.replicate n [v]).flatten = List.replicate n v
  | 0 => rfl
  | n + 1 => by
    rw [List.replicate_succ, List.flatten_cons, flat_rep v n]
    rfl
end
end BD
namespace BD
open PySem PySem.Spec PyProof.Rows L2 Evl
def Src.S : Src → Prop
  | .thing n => 0 ≤ n ∧ n ≤ 999999999
  | .word w => WordS w
def RowS : Rw → Prop
  | .lend h k s => WordS h ∧ (k = "read" ∨ k = "write") ∧ s.S
  | .pick w ts => WordS w ∧ 1 ≤ ts.length ∧ ts.length ≤ 5 ∧ ∀ t ∈ ts, 0 ≤ t ∧ t ≤ 999999999
  | .back h => WordS h
  | .look h => WordS h
  | .change h => WordS h
  | _ => True
theorem kindM_s (x : Int) : kindM x = "read" ∨ kindM x = "write" := by
  unfold kindM
  split
  · exact .inl rfl
  · exact .inr rfl
theorem thingM_s (c b : Int) : 0 ≤ thingM c b ∧ thingM c b ≤ 999999999 := by
  unfold thingM
  split <;> omega
theorem rowS_word {r : Rw} (h : RowS r) (hn : r.named = true) : WordS r.word := by
  cases r with
  | lend a b c => exact h.1
  | pick a b => exact h.1
  | _ => cases hn
theorem lendM_s {one two : Int} {named : List Rw} {d : Draw} (ok : d.Ok) (hl : named.length ≤ 11) (hn : ∀ r ∈ named, RowS r ∧ r.named = true) : RowS (lendM one two named d) := by
  have hw : WordS (wordM one two named.length d) := wordM_s ok (by omega) (by omega)
  unfold lendM
  split
  · rename_i h
    have hm : named.getD (two % named.length).toNat .fin ∈ named := getD_mem (by
      have := Int.emod_lt_of_pos two h.2
      have := Int.emod_nonneg two (show (named.length : Int) ≠ 0 by omega)
      omega)
    have := hn _ hm
    refine ⟨hw, ?_, rowS_word this.1 this.2⟩
    split
    · exact .inl rfl
    · exact kindM_s _
  · exact ⟨hw, kindM_s _, thingM_s _ _⟩
theorem deedM_s {one two : Int} {hands : List Rw} (hl : 0 < hands.length) (hn : ∀ r ∈ hands, RowS r ∧ r.isLend = true) : RowS (deedM one two hands) := by
  have hm : hands.getD (two % hands.length).toNat .fin ∈ hands := getD_mem (by
    have := Int.emod_lt_of_pos two (show (0 : Int) < hands.length by omega)
    have := Int.emod_nonneg two (show (hands.length : Int) ≠ 0 by omega)
    omega)
  have := hn _ hm
  have hw : WordS (hands.getD (two % hands.length).toNat .fin).word := rowS_word this.1 (by
    have h2 := this.2
    generalize hands.getD (two % hands.length).toNat .fin = r at *
    cases r <;> first | rfl | cases h2)
  unfold deedM
  split
  · exact hw
  split
  · exact hw
  split <;> exact hw
theorem rowM_s {way one two : Int} {op : List Rw} {d : Draw} (ok : d.Ok) (hf : Few op) (ho : ∀ r ∈ op, RowS r) : RowS (rowM way one two op d) := by
  have hnl := hf.named
  have hn : ∀ r ∈ op.filter Rw.named, RowS r ∧ r.named = true := fun r hr => ⟨ho r (List.mem_filter.mp hr).1, (List.mem_filter.mp hr).2⟩
  have hh : ∀ r ∈ (op.filter Rw.named).filter Rw.isLend, RowS r ∧ r.isLend = true := fun r hr => ⟨(hn r (List.mem_filter.mp hr).1).1, (List.mem_filter.mp hr).2⟩
  unfold rowM rowN
  split
  · exact lendM_s ok (by omega) hn
  split
  · refine ⟨wordM_s ok (by omega) (by omega), ?_, ?_, fun t ht => ?_⟩
    · rw [List.length_map, List.length_range]; omega
    · rw [List.length_map, List.length_range]; omega
    · obtain ⟨k, _, rfl⟩ := List.mem_map.mp ht
      exact thingM_s _ _
  split
  · trivial
  split
  · trivial
  split
  · trivial
  split
  · rename_i h
    exact deedM_s (by omega) hh
  split
  · trivial
  · exact lendM_s ok (by omega) hn
theorem pick3_s {α : Type} {p : α → Prop} (x : Int) {a b c : α} (ha : p a) (hb : p b) (hc : p c) : p (pick3 x a b c) := by
  unfold pick3
  split
  · exact ha
  split
  · exact hb
  · exact hc
theorem pick2_s {α : Type} {p : α → Prop} (x : Int) {a b : α} (ha : p a) (hb : p b) : p (pick2 x a b) := by
  unfold pick2
  split
  · exact ha
  · exact hb
theorem all_cons {α : Type} {p : α → Prop} {a : α} {l : List α} (h : p a) (t : ∀ x ∈ l, p x) : ∀ x ∈ a :: l, p x := fun x hx => by
  rcases List.mem_cons.mp hx with e | e
  · subst e; exact h
  · exact t x e
theorem all_nil {α : Type} {p : α → Prop} : ∀ x ∈ ([] : List α), p x := fun x hx => by cases hx
theorem all_app {α : Type} {p : α → Prop} {a b : List α} (h : ∀ x ∈ a, p x) (t : ∀ x ∈ b, p x) : ∀ x ∈ a ++ b, p x := fun x hx => (List.mem_append.mp hx).elim (h x) (t x)
theorem gadA_s {one two t : Int} {a b c : Str} (ha : WordS a) (hb : WordS b) (hc : WordS c) (ht : 0 ≤ t ∧ t ≤ 999999999) : ∀ r ∈ gadA one two a b c t, RowS r := by
  have k8 := kindM_s (one / 8)
  have k2 := kindM_s two
  have kr : ("read" : Str) = "read" ∨ ("read" : Str) = "write" := .inl rfl
  have kw : ("write" : Str) = "read" ∨ ("write" : Str) = "write" := .inr rfl
  have hf : 0 ≤ (t + 1) % 1000000000 ∧ (t + 1) % 1000000000 ≤ 999999999 := by omega
  have hl : 0 ≤ (t + 2) % 1000000000 ∧ (t + 2) % 1000000000 ≤ 999999999 := by omega
  have ba : RowS (.back a) := ha
  have bb : RowS (.back b) := hb
  have la : RowS (.look a) := ha
  have lb : RowS (.look b) := hb
  have tf : RowS .fin := trivial
  have te : RowS .either := trivial
  have to : RowS .or := trivial
  have tg : RowS .again := trivial
  have wwt : ∀ {x : Str} {k : Str} {n : Int}, WordS x → (k = "read" ∨ k = "write") → (0 ≤ n ∧ n ≤ 999999999) → RowS (.lend x k (.thing n)) := fun a b c => ⟨a, b, c⟩
  have www : ∀ {x k y : Str}, WordS x → (k = "read" ∨ k = "write") → WordS y → RowS (.lend x k (.word y)) := fun a b c => ⟨a, b, c⟩
  have p3 : RowS (.back (pick3 two a b a)) := pick3_s (p := WordS) two ha hb ha
  have q3 : RowS (.look (pick3 one c c b)) := pick3_s (p := WordS) one hc hc hb
  have p2 : RowS (.back (pick2 two a b)) := pick2_s (p := WordS) two ha hb
  have t3 : 0 ≤ pick3 two t ((t + 1) % 1000000000) ((t + 2) % 1000000000) ∧ pick3 two t ((t + 1) % 1000000000) ((t + 2) % 1000000000) ≤ 999999999 := pick3_s (p := fun n : Int => 0 ≤ n ∧ n ≤ 999999999) two ht hf hl
  have pk5 : RowS (.pick c [t, t, (t + 1) % 1000000000, (t + 1) % 1000000000, (t + 2) % 1000000000]) := ⟨hc, by show 1 ≤ 5; omega, by show 5 ≤ 5; omega, all_cons ht (all_cons ht (all_cons hf (all_cons hf (all_cons hl all_nil))))⟩
  have pk2 : RowS (.pick c [(t + 1) % 1000000000, t]) := ⟨hc, by show 1 ≤ 2; omega, by show 2 ≤ 5; omega, all_cons hf (all_cons ht all_nil)⟩
  unfold gadA
  split
  · unfold fourM
    split
    · exact all_cons (wwt ha k8 ht) (all_cons tg (all_cons la (all_cons ba (all_cons tf (all_cons tf all_nil)))))
    split
    · exact all_app (all_cons (wwt ha k8 ht) (all_cons te (all_cons ba (all_cons to (all_cons la (all_cons tf all_nil)))))) (all_cons la (all_cons tf all_nil))
    split
    · exact all_app (all_cons (wwt ha kw ht) (all_cons (www hb kw ha) (all_cons (www hc k8 hb) all_nil))) (all_cons p3 (all_cons q3 (all_cons tf (all_cons tf (all_cons tf all_nil)))))
    · exact all_app (all_cons (wwt ha kw ht) (all_cons (www hb kr ha) (all_cons (wwt hc k2 ht) (all_cons tg all_nil)))) (all_cons bb (all_cons tf (all_cons tf (all_cons tf (all_cons tf all_nil)))))
  split
  · exact all_app (all_app (all_cons pk5 all_nil) (all_cons (wwt ha kw t3) (all_cons (www hb k8 hc) all_nil))) (all_cons tf (all_cons tf (all_cons tf all_nil)))
  split
  · exact all_app (all_cons (wwt ha kw ht) (all_cons (www hb kr ha) (all_cons te (all_cons p2 all_nil)))) (all_cons to (all_cons lb (all_cons tf (all_cons la (all_cons tf (all_cons tf all_nil))))))
  split
  · exact all_app (all_cons (wwt ha k8 hf) (all_cons (wwt hb k2 ht) all_nil)) (all_cons (wwt hc kw ht) (all_cons lb (all_cons tf (all_cons tf (all_cons tf all_nil)))))
  split
  · exact all_cons (wwt ha kw ht) (all_cons ba (all_cons (www hb k8 ha) (all_cons lb (all_cons tf (all_cons tf all_nil)))))
  · exact all_app (all_cons pk2 (all_cons (wwt ha kw ht) (all_cons te (all_cons ba all_nil)))) (all_cons to (all_cons tf (all_cons (www hb k8 hc) (all_cons la (all_cons tf (all_cons tf (all_cons tf all_nil)))))))
theorem opUpd_s {op : List Rw} {r : Rw} (ho : ∀ x ∈ op, RowS x) (hr : RowS r) : ∀ x ∈ opUpd op r, RowS x := by
  unfold opUpd
  split
  · exact all_app ho (all_cons hr all_nil)
  split
  · exact fun x hx => ho x ((List.dropLast_sublist op).mem hx)
  · exact ho
theorem st_s {cells : List Int} {d : Draw} {most : Int} {odd : Bool} (ok : d.Ok) : ∀ i, (∀ r ∈ (sheetSt cells d most odd i).1, RowS r) ∧ (∀ r ∈ (sheetSt cells d most odd i).2, RowS r)
  | 0 => ⟨all_nil, all_nil⟩
  | i + 1 => by
    have ih := st_s (cells := cells) (most := most) (odd := odd) ok i
    have hf := few_st cells d most odd i
    have hn := hf.named
    unfold sheetSt stepM
    split
    · exact ⟨all_app ih.1 (gadA_s (wordM_s ok (by omega) (by omega)) (wordM_s ok (by omega) (by omega)) (wordM_s ok (by omega) (by omega)) (thingM_s _ _)), ih.2⟩
    · have hr := rowM_s (way := cells.getD (3 * i) 0 % most) (one := cells.getD (3 * i + 1) 0) (two := cells.getD (3 * i + 2) 0) ok hf ih.2
      exact ⟨all_app ih.1 (all_cons hr all_nil), opUpd_s ih.2 hr⟩
theorem drawn_s (ns : List Int) (most : Int) : ∀ r ∈ drawnM ns most, RowS r := by
  have h : ∀ r ∈ baseM ns most, RowS r := by
    have := st_s (cells := cellsM ns most) (most := mostM (wayM ns)) (odd := decide (3 < wayM ns)) (drawM_ok ns) ((cellsM ns most).length / 3)
    refine all_app this.1 fun r hr => ?_
    obtain ⟨_, _, rfl⟩ := List.mem_map.mp hr
    trivial
  unfold drawnM
  split
  · exact all_app (all_app (all_app h h) h) h
  · exact h
/-! ### rows as data -/
def Src.d : Src → PyData
  | .thing n => .int n
  | .word w => .str w
def rowD : Rw → PyData
  | .lend h k s => .tuple [.str "lend", .str h, .str k, s.d]
  | .pick w ts => .tuple [.str "pick", .str w, .tuple (ts.map PyData.int)]
  | .either => .tuple [.str "either"]
  | .or => .tuple [.str "or"]
  | .again => .tuple [.str "again"]
  | .fin => .tuple [.str "end"]
  | .back h => .tuple [.str "back", .str h]
  | .look h => .tuple [.str "look", .str h]
  | .change h => .tuple [.str "change", .str h]
theorem row_dp {K : PySem.W.Frag} {H : Hp} {v : V} {r : Rw} (h : IsRow H v r) : Dp K H v (rowD r) := by
  cases r with
  | lend a b s =>
    obtain ⟨p, rfl, hp⟩ := h
    cases s with
    | thing n => exact .tup (st_of hp) (.cons (.str _) (.cons (.str _) (.cons (.str _) (.cons (.int _) .nil))))
    | word w => exact .tup (st_of hp) (.cons (.str _) (.cons (.str _) (.cons (.str _) (.cons (.str _) .nil))))
  | pick w ts =>
    obtain ⟨p, q, rfl, hp, hq⟩ := h
    exact .tup (st_of hp) (.cons (.str _) (.cons (.str _) (.cons (.tup (st_of hq) (dp_ints ts)) .nil)))
  | either => obtain ⟨p, rfl, hp⟩ := h; exact .tup (st_of hp) (.cons (.str _) .nil)
  | or => obtain ⟨p, rfl, hp⟩ := h; exact .tup (st_of hp) (.cons (.str _) .nil)
  | again => obtain ⟨p, rfl, hp⟩ := h; exact .tup (st_of hp) (.cons (.str _) .nil)
  | fin => obtain ⟨p, rfl, hp⟩ := h; exact .tup (st_of hp) (.cons (.str _) .nil)
  | back a => obtain ⟨p, rfl, hp⟩ := h; exact .tup (st_of hp) (.cons (.str _) (.cons (.str _) .nil))
  | look a => obtain ⟨p, rfl, hp⟩ := h; exact .tup (st_of hp) (.cons (.str _) (.cons (.str _) .nil))
  | change a => obtain ⟨p, rfl, hp⟩ := h; exact .tup (st_of hp) (.cons (.str _) (.cons (.str _) .nil))
theorem kind_ok {k : Str} (h : k = "read" ∨ k = "write") : PyData.strOk k = true := by
  rcases h with h | h <;> subst h <;> decide +kernel
theorem ok_lend' : PyData.strOk "lend" = true := by decide +kernel
theorem ok_pick' : PyData.strOk "pick" = true := by decide +kernel
theorem ok_back' : PyData.strOk "back" = true := by decide +kernel
theorem ok_look' : PyData.strOk "look" = true := by decide +kernel
theorem ok_change' : PyData.strOk "change" = true := by decide +kernel
theorem row_lay {r : Rw} (h : RowS r) : (rowD r).canLay0 = true ∧ (rowD r).depth ≤ 64 := by
  cases r with
  | lend a b s =>
    have h1 := word_ok h.1
    have h2 := kind_ok h.2.1
    cases s with
    | thing n =>
      simp [rowD, Src.d, PyData.canLay0, PyData.canLayAll0, PyData.depth, PyData.depthAll, h1, h2, ok_lend']
    | word w =>
      have h3 := word_ok h.2.2
      simp [rowD, Src.d, PyData.canLay0, PyData.canLayAll0, PyData.depth, PyData.depthAll, h1, h2, h3, ok_lend']
  | pick w ts =>
    have h1 := word_ok h.1
    simp [rowD, PyData.canLay0, PyData.canLayAll0, PyData.depth, PyData.depthAll, h1, ok_pick', PySem.W.ke_canLayAll0, PySem.W.ke_depthAll]
  | either => exact ⟨by decide +kernel, by decide +kernel⟩
  | or => exact ⟨by decide +kernel, by decide +kernel⟩
  | again => exact ⟨by decide +kernel, by decide +kernel⟩
  | fin => exact ⟨by decide +kernel, by decide +kernel⟩
  | back a =>
    have h1 := word_ok h
    simp [rowD, PyData.canLay0, PyData.canLayAll0, PyData.depth, PyData.depthAll, h1, ok_back']
  | look a =>
    have h1 := word_ok h
    simp [rowD, PyData.canLay0, PyData.canLayAll0, PyData.depth, PyData.depthAll, h1, ok_look']
  | change a =>
    have h1 := word_ok h
    simp [rowD, PyData.canLay0, PyData.canLayAll0, PyData.depth, PyData.depthAll, h1, ok_change']
theorem row_shaped {r : Rw} (h : RowS r) : SeqAt.shaped (rowD r) = true := by
  have := row_lay h
  unfold SeqAt.shaped
  rw [this.1, decide_eq_true this.2]
  rfl
end BD
namespace BD
open PySem PySem.Spec PyProof.Rows L2 Evl
local macro_rules | `(tactic| walk_at "ev") => `(tactic| first
  | ((with_reducible apply ev_var) ; rfl)
  | with_reducible exact ev_c
  | ((with_reducible apply ev_I0) <;> walk_at "ev")
  | ((with_reducible apply ev_e9) <;> walk_at "ev")
  | ((with_reducible apply ev_I) <;> walk_at "ev")
  | ((with_reducible apply ev_eq) <;> walk_at "ev")
  | ((with_reducible apply ev_ne) <;> walk_at "ev")
  | ((with_reducible apply ev_neg) <;> walk_at "ev")
  | ((with_reducible apply ev_ixN) <;> walk_at "ev")
  | ((with_reducible apply ev_ixL) <;> walk_at "ev")
  | ((with_reducible apply ev_inN) <;> walk_at "ev")
  | ((with_reducible apply ev_inT) <;> walk_at "ev")
  | ((with_reducible apply ev_ixT) <;> walk_at "ev")
  | ((with_reducible apply ev_ixS) <;> walk_at "ev")
  | ((with_reducible apply ev_len') <;> walk_at "ev")
  | ((with_reducible apply et_test) <;> walk_at "ev")
  | ((with_reducible apply et_and) <;> walk_at "ev")
  | ((with_reducible apply et_or) <;> walk_at "ev")
  | ((with_reducible apply et_not) <;> walk_at "ev")
  | ((with_reducible apply et_B) <;> walk_at "ev")
  | ((with_reducible apply el_lst) <;> walk_at "ev")
  | ((with_reducible apply eu_tup) <;> walk_at "ev")
  | ((with_reducible apply ea_cons) <;> walk_at "ev")
  | with_reducible exact ea_nil
  | with_reducible assumption
  | ((with_reducible apply ex_l' ; assumption) ; walk_at "ex")
  | ((with_reducible apply ex_t' ; assumption) ; walk_at "ex")
  | (intro _ ; walk_at "ev")
  | (with_reducible first | exact atI_hd | exact at_kind | exact at2s | exact at3s | exact at3i)
  | (first | exact rfl | exact Nat.le_of_ble_eq_true rfl | exact ⟨by decide, by decide⟩ | decide | exact Or.inl ⟨by omega, by omega⟩ | exact Or.inr ⟨by omega, by omega⟩ | omega)
  | skip)
local macro_rules | `(tactic| walk_at "ex") => `(tactic| first
  | assumption
  | exact Ex.refl _
  | (refine' Ex.trans ?_ (by assumption) ; walk_at "ex"))
local macro_rules | `(tactic| walk_at "row") => `(tactic| first
  | (with_reducible exact er_nil)
  | ((with_reducible apply er_cons) <;> walk_at "row")
  | (((with_reducible apply er_var) ; rfl) ; walk_at "isrow")
  | (((with_reducible apply elr_var) ; rfl) ; walk_at "isrow")
  | ((with_reducible apply elr_cat) <;> walk_at "row")
  | ((with_reducible apply elr_lst) <;> walk_at "row")
  | ((with_reducible apply er_fin) <;> walk_at "ev")
  | ((with_reducible apply er_lendT) <;> walk_at "ev")
  | ((with_reducible apply er_lendW) <;> walk_at "ev")
  | ((with_reducible apply er_pick) <;> walk_at "ev")
  | ((with_reducible apply er_either) <;> walk_at "ev")
  | ((with_reducible apply er_or) <;> walk_at "ev")
  | ((with_reducible apply er_again) <;> walk_at "ev")
  | ((with_reducible apply er_back) <;> walk_at "ev")
  | ((with_reducible apply er_look) <;> walk_at "ev")
  | ((with_reducible apply er_change) <;> walk_at "ev")
  | exact Nat.le_of_ble_eq_true rfl
  | skip)
local macro_rules | `(tactic| walk_at "isrow") => `(tactic| first
  | assumption
  | (refine IsRow.up ?_ (by assumption) ; walk_at "ex")
  | (refine LRows.up ?_ (by assumption) ; walk_at "ex"))

local macro_rules | `(tactic| walk_at "ev") => `(tactic| ((with_reducible apply ev_letter) <;> walk_at "ev"))
local macro_rules | `(tactic| walk_at "ev") => `(tactic| ((with_reducible apply ev_cell) <;> walk_at "ev"))
local macro_rules | `(tactic| walk_at "ev") => `(tactic| ((with_reducible apply ev_word) <;> walk_at "ev"))
local macro_rules | `(tactic| walk_at "ev") => `(tactic| ((with_reducible apply ev_thing) <;> walk_at "ev"))

local macro_rules | `(tactic| walk_at "ev") => `(tactic| (((with_reducible apply ev_tag) ; rfl) ; walk_at "isrow"))
abbrev s_l_homes : Stmt := topS 21
theorem sc_l_homes : FnScope ["_law_rows", "_law_found", "_law_opened", "_law_at", "_law_row_here"] ["_law_rows"] (defScope s_l_homes) := ⟨rfl, rfl, rfl, by decide +kernel, rfl, by decide +kernel, by decide +kernel⟩
abbrev s_l_last : Stmt := topS 22
theorem sc_l_last : FnScope ["_law_rows", "_law_home", "_law_at", "_law_place"] ["_law_rows", "_law_home", "_law_at"] (defScope s_l_last) := ⟨rfl, rfl, rfl, by decide +kernel, rfl, by decide +kernel, by decide +kernel⟩
abbrev s_l_starts : Stmt := topS 23
theorem sc_l_starts : FnScope ["_law_rows", "_law_home", "_law_at", "_law_found", "_law_place"] ["_law_rows", "_law_home", "_law_at"] (defScope s_l_starts) := ⟨rfl, rfl, rfl, by decide +kernel, rfl, by decide +kernel, by decide +kernel⟩
section
variable {P : Program} {w : World} {K : PySem.W.Frag} {mg : Str → Option Value} {base : Heap}
theorem ok_lhomes (D : Dn K mg "_law_homes" s_l_homes ["_law_rows"]) (T : Blt mg) : Has P w K mg base "_law_homes" 1 ["_law_rows"] (spHomes K) := by
  refine D.ok sc_l_homes (fun vs H Q E h => ?_) (fun f cdv A outer s H vs Q E hr h => ?_)
  · obtain ⟨a, rv, rs, rfl, _⟩ := h
    rfl
  · obtain ⟨a, rv, rs, rfl, hS, hR, g, hlen, q⟩ := h
    have hlr := hR.len
    refine ⟨_, (pss_cons (ps_set (i := 1) sc_l_homes.nd rfl (Or.inl rfl) (pe_lst pa_nil)) (pss_cons (ps_set (i := 2) sc_l_homes.nd rfl (Or.inl rfl) (pe_lst (pa_cons (pe_un un_neg pe_int) pa_nil))) (pss_cons (ps_for PassesOwn.never rfl (pi_enum (by rfl) T.enumerate_ (pa_cons (pv 0) pa_nil)) (pg_tup rfl (pgs_cons (pg_name (i := 3) sc_l_homes.nd rfl (Or.inl rfl)) (pgs_cons (pg_name (i := 4) sc_l_homes.nd rfl (Or.inl rfl)) pgs_nil))) (pss_cons (ps_expr (pe_bm PySem.F.plainAttrs_list PySem.F.slot_list_append PySem.F.type_list_append mt_append (pv 1) (pa_cons (pe_ix (show IxR _ (rIxL K) from ix_list) (pv 2) (pe_un un_neg pe_int) (fun _ _ => rfl)) pa_nil))) (pss_cons (ps_if (pt_cmpR (show OpR _ _ (rIn K false) from op_in_seq) (pe_ix (show IxR _ (rIxT K) from ix_tup) (pv 4) pe_int (fun _ _ => rfl)) (pe_lst (pa_cons pe_str (pa_cons pe_str (pa_cons pe_str (pa_cons pe_str pa_nil))))) (by rfl)) (pss_one (ps_expr (pe_bm PySem.F.plainAttrs_list PySem.F.slot_list_append PySem.F.type_list_append mt_append (pv 2) (pa_cons (pv 3) pa_nil)))) pss_nil) (pss_one (ps_if (pt_cmpR op_eq (pe_ix (show IxR _ (rIxT K) from ix_tup) (pv 4) pe_int (fun _ _ => rfl)) pe_str (nomark _)) (pss_one (ps_expr (pe_bm0 PySem.F.plainAttrs_list PySem.F.slot_list_pop PySem.F.type_list_pop mt_pop (pv 2)))) pss_nil))))) (pss_one (ps_ret (pv 1)))))), ?_⟩
    show (_ : L2.TS) _ [_, _, _, _, _] _
    refine q_asgL (xs := []) ?_ (fun pf H1 hpf e1 h1 => ?_)
    · walk_at "ev"
    show (_ : L2.TS) _ [_, _, _, _, _] _
    refine q_asgL (xs := [.int (-1)]) ?_ (fun po H2 hpo e2 h2 => ?_)
    · walk_at "ev"
    show (_ : L2.TS) _ [_, _, _, _, _] _
    have hne : pf ≠ po := ne_of_none h1 hpo
    have hpoH : H po = none := fresh_back e1 hpo
    refine q_forE (K := K) (a := a) (xs := rv) (ev_var rfl) (ex_l (by walk_at "ex") hS) (fun i σ' H' => Ex H H' ∧ H' pf = some (.lst (homesV rs i)) ∧ H' po = some (.lst (stV rs i)) ∧ ∃ x3 x4, σ' = [some (.ref a), some (.ref pf), some (.ref po), x3, x4]) ?_ (fun i σ' H' _ h => ex_l h.1 hS) ?_ ?_
    · intro H3 e3
      exact ⟨by walk_at "ex", e3 _ _ (e2 _ _ h1), e3 _ _ h2, none, none, rfl⟩
    · rintro i x σ' H' H3 hi ⟨eH, hf, ho, x3, x4, rfl⟩ e3
      obtain ⟨r, hr, hX⟩ := hR.at hi
      have hi' : i < rv.length := (List.getElem?_eq_some_iff.mp hi).1
      have hO : SqL K H3 po (stV rs i) := sq_of (e3 _ _ ho)
      have hsl := stV_len rs i
      refine q_app (l := pf) (xs := homesV rs i) (v := .int (hm rs i)) (e3 _ _ hf) (ev_var rfl) ?_ (by rw [homesV_len]; omega) (fun H4 e4 => ?_)
      · refine ev_ixL (ev_var rfl) hO ?_ (stV_last rs i)
        walk_at "ev"
      rw [← homesV_next]
      have e5 : Ex H (upd H4 pf (.lst (homesV rs (i + 1)))) := Ex.mut (eH.trans (e3.trans e4)) hpf
      have hX5 : IsRow (upd H4 pf (.lst (homesV rs (i + 1)))) x r := hX.up e5
      have ho5 : (upd H4 pf (.lst (homesV rs (i + 1)))) po = some (.lst (stV rs i)) := by
        rw [upd_ne hne.symm]
        exact e4 _ _ (e3 _ _ ho)
      have hf5 : (upd H4 pf (.lst (homesV rs (i + 1)))) pf = some (.lst (homesV rs (i + 1))) := upd_same
      generalize upd H4 pf (.lst (homesV rs (i + 1))) = H5 at *
      cases hro : r.opens with
      | true =>
        have hrf : r.isFin = false := by cases r <;> first | rfl | cases hro
        refine q_when (b := true) ?_ (fun _ H6 e6 => ?_) (fun hb _ _ => by cases hb)
        · refine et_is ?_ hro
          rw [← tag_opens r]
          walk_at "ev"
        · refine s_app (e6 _ _ ho5) (ev_var rfl) (ev_var rfl) (by omega) (fun H7 e7 => ?_)
          dsimp only
          rw [← stV_push hr hro]
          have e8 : Ex H (upd H7 po (.lst (stV rs (i + 1)))) := Ex.mut (e5.trans (e6.trans e7)) hpoH
          have hX8 : IsRow (upd H7 po (.lst (stV rs (i + 1)))) x r := hX.up e8
          refine s_when (b := false) ?_ (fun hb _ _ => by cases hb) (fun _ H9 e9 => ?_)
          · refine et_is ?_ hrf
            rw [← tag_fin r]
            walk_at "ev"
          · refine ⟨e8.trans e9, e9 _ _ ?_, e9 _ _ upd_same, _, _, rfl⟩
            rw [upd_ne hne]
            exact e7 _ _ (e6 _ _ hf5)
      | false =>
        refine q_when (b := false) ?_ (fun hb _ _ => by cases hb) (fun _ H6 e6 => ?_)
        · refine et_is ?_ hro
          rw [← tag_opens r]
          walk_at "ev"
        · have hX6 := hX5.up e6
          refine s_when (b := r.isFin) ?_ (fun hrf H7 e7 => ?_) (fun hrf H7 e7 => ?_)
          · rw [← tag_fin]
            walk_at "ev"
          · have hp := stV_pop g hr hrf
            refine s_pop (e7 _ _ (e6 _ _ ho5)) (ev_var rfl) hp.2 (fun H8 e8 => ?_)
            dsimp only
            rw [← hp.1]
            refine ⟨Ex.mut (e5.trans (e6.trans (e7.trans e8))) hpoH, ?_, upd_same, _, _, rfl⟩
            rw [upd_ne hne]
            exact e8 _ _ (e7 _ _ (e6 _ _ hf5))
          · refine ⟨e5.trans (e6.trans e7), e7 _ _ (e6 _ _ hf5), ?_, _, _, rfl⟩
            rw [stV_keep hr hro hrf]
            exact e7 _ _ (e6 _ _ ho5)
    · rintro σ' H' ⟨eH, hf, ho, x3, x4, rfl⟩
      rw [hlr] at hf
      exact s_ret (v := .ref pf) (ev_var rfl) (fun H4 e4 => q pf H4 hpf (eH.trans e4) (e4 _ _ hf))
/-! ### the law's own ends and branches -/
def spLast (K : PySem.W.Frag) : Sp := fun vs H Q _ => ∃ (a hh : Addr) (n : Nat) (rv : List V) (rs : List Rw), vs = [.ref a, .ref hh, .int (n : Int)] ∧ SqL K H a rv ∧ Rows H rv rs ∧ SqL K H hh (homesV rs rs.length) ∧ n < rs.length ∧ rs.length ≤ 90000 ∧
  RetV (.int (endUp rs n rs.length)) H Q
theorem ok_last (D : Dn K mg "_law_last" s_l_last ["_law_rows", "_law_home", "_law_at"]) (T : Blt mg) : Has P w K mg base "_law_last" 1 ["_law_rows", "_law_home", "_law_at"] (spLast K) := by
  refine D.ok sc_l_last (fun vs H Q E h => ?_) (fun f cdv A outer s H vs Q E hr h => ?_)
  · obtain ⟨a, hh, n, rv, rs, rfl, _⟩ := h
    rfl
  · obtain ⟨a, hh, n, rv, rs, rfl, hS, hR, hHm, hn, hlen, q⟩ := h
    have hlr := hR.len
    refine ⟨_, (pss_cons (ps_for PassesOwn.never rfl (pi_range2 (by rfl) T.range_ (pa_cons (pe_op op_add (pv 2) pe_int) (pa_cons (pe_callB (show CallR _ _ (rLenS K) from call_len_seq) (by rfl) T.len_ (by decide +kernel) (pa_cons (pv 0) pa_nil)) pa_nil))) (pg_name (i := 3) sc_l_last.nd rfl (Or.inl rfl)) (pss_one (ps_if (PW.pt (pw_and (pt_cmpR op_eq (pe_ix (show IxR _ (rIxL K) from ix_list) (pv 1) (pv 3) (fun _ _ => rfl)) (pv 2) (nomark _)) (pw_and1 (pt_cmpR op_eq (pe_ix (show IxR _ (rIxT K) from ix_tup) (pe_ix (show IxR _ (rIxL K) from ix_list) (pv 0) (pv 3) (fun _ _ => rfl)) pe_int (fun _ _ => rfl)) pe_str (nomark _))))) (pss_one (ps_ret (pv 3))) pss_nil))) (pss_one (ps_ret (pe_un un_neg pe_int)))), ?_⟩
    show (_ : L2.TS) _ [_, _, _, _] _
    refine q_forR2 (lo := (n : Int) + 1) (n := ((rv.length : Nat) : Int)) ?_ ⟨by omega, by omega, by omega, by omega⟩ (fun i σ' H' => Ex H H' ∧ (∀ p, p < n + 1 + i → finF rs n p = false) ∧ ∃ x3, σ' = [some (.ref a), some (.ref hh), some (.int (n : Int)), x3]) ?_ ?_ ?_
    · walk_at "ev"
    · intro H1 e1
      exact ⟨e1, fun p hp => finF_low (by omega), none, rfl⟩
    · rintro i σ' H' hi ⟨eH, hno, x3, rfl⟩
      have ep : (n : Int) + 1 + (i : Int) = ((n + 1 + i : Nat) : Int) := by omega
      rw [ep]
      have hpl : n + 1 + i < rs.length := by omega
      generalize n + 1 + i = p at *
      have hgr := List.getElem?_eq_getElem hpl
      obtain ⟨y, hy, hY⟩ := hR.get hgr
      generalize rs[p] = r at hgr hY
      have hY2 : IsRow H' y r := hY.up eH
      obtain ⟨py, ys, rfl, hpy⟩ := hY2.tup
      have hPy : SqT K H' py (.str r.tag :: ys) := st_of hpy
      have hix : atI rv (p : Int) = some (.ref py) := atI_nat hy
      have hhx : atI (homesV rs rs.length) (p : Int) = some (.int (hm rs p)) := atI_nat (homesV_at hpl)
      refine s_when (b := decide (V.int (hm rs p) = V.int (n : Int)) && r.isFin) ?_ (fun hb H3 e3 => ?_) (fun hb H3 e3 => ?_)
      · rw [← tag_fin]
        walk_at "ev"
      · simp only [Bool.and_eq_true, decide_eq_true_eq, V.int.injEq] at hb
        have hfin : finF rs n p = true := by rw [finF_at hgr, decide_eq_true hb.1, hb.2]; rfl
        have hst := endUp_stay hfin (fun q hq => hno q (by omega)) rs.length hpl
        rw [hst] at q
        exact s_ret (v := .int (p : Int)) (ev_var rfl) (fun H4 e4 => q H4 (eH.trans (e3.trans e4)))
      · simp only [Bool.and_eq_false_iff, decide_eq_false_iff_not, V.int.injEq] at hb
        refine ⟨eH.trans e3, fun q hq => ?_, _, rfl⟩
        by_cases e : q = p
        · subst e
          rw [finF_at hgr]
          rcases hb with hb | hb
          · rw [decide_eq_false hb]; rfl
          · rw [hb, Bool.and_false]
        · exact hno q (by omega)
    · rintro σ' H' ⟨eH, hno, x3, rfl⟩
      rw [endUp_none (fun p hp => hno p (by omega))] at q
      refine s_ret (v := .int (-1)) ?_ (fun H4 e4 => q H4 (eH.trans e4))
      walk_at "ev"
theorem ev_last {a hh : Addr} {n : Nat} {rv : List V} {rs : List Rw} {ta : TA} {σ : L2.St} {H : Hp} {E : XK} (h : EvA ta σ H [.ref a, .ref hh, .int (n : Int)]) (hS : SqL K H a rv) (hR : Rows H rv rs) (hH : SqL K H hh (homesV rs rs.length)) (hn : n < rs.length) (hl : rs.length ≤ 90000) :
    Ev (tCall (spLast K) [] E ta) σ H (.int (endUp rs n rs.length)) := ev_call h fun H1 e Q q E => ⟨a, hh, n, rv, rs, rfl, ex_l e hS, hR.up e, ex_l e hH, hn, hl, q⟩
def spStarts (K : PySem.W.Frag) : Sp := fun vs H Q _ => ∃ (a hh : Addr) (n : Nat) (rv : List V) (rs : List Rw), vs = [.ref a, .ref hh, .int (n : Int)] ∧ SqL K H a rv ∧ Rows H rv rs ∧ SqL K H hh (homesV rs rs.length) ∧ n < rs.length ∧ rs.length ≤ 90000 ∧
  RetL (brV rs n rs.length) H Q
theorem ok_starts (D : Dn K mg "_law_starts" s_l_starts ["_law_rows", "_law_home", "_law_at"]) (T : Blt mg) : Has P w K mg base "_law_starts" 1 ["_law_rows", "_law_home", "_law_at"] (spStarts K) := by
  refine D.ok sc_l_starts (fun vs H Q E h => ?_) (fun f cdv A outer s H vs Q E hr h => ?_)
  · obtain ⟨a, hh, n, rv, rs, rfl, _⟩ := h
    rfl
  · obtain ⟨a, hh, n, rv, rs, rfl, hS, hR, hHm, hn, hlen, q⟩ := h
    have hlr := hR.len
    refine ⟨_, (pss_cons (ps_set (i := 3) sc_l_starts.nd rfl (Or.inl rfl) (pe_lst (pa_cons (pe_op op_add (pv 2) pe_int) pa_nil))) (pss_cons (ps_for PassesOwn.never rfl (pi_range2 (by rfl) T.range_ (pa_cons (pe_op op_add (pv 2) pe_int) (pa_cons (pe_callB (show CallR _ _ (rLenS K) from call_len_seq) (by rfl) T.len_ (by decide +kernel) (pa_cons (pv 0) pa_nil)) pa_nil))) (pg_name (i := 4) sc_l_starts.nd rfl (Or.inl rfl)) (pss_one (ps_if (PW.pt (pw_and (pt_cmpR op_eq (pe_ix (show IxR _ (rIxL K) from ix_list) (pv 1) (pv 4) (fun _ _ => rfl)) (pv 2) (nomark _)) (pw_and1 (pt_cmpR op_eq (pe_ix (show IxR _ (rIxT K) from ix_tup) (pe_ix (show IxR _ (rIxL K) from ix_list) (pv 0) (pv 4) (fun _ _ => rfl)) pe_int (fun _ _ => rfl)) pe_str (nomark _))))) (pss_one (ps_expr (pe_bm PySem.F.plainAttrs_list PySem.F.slot_list_append PySem.F.type_list_append mt_append (pv 3) (pa_cons (pe_op op_add (pv 4) pe_int) pa_nil)))) pss_nil))) (pss_one (ps_ret (pv 3))))), ?_⟩
    show (_ : L2.TS) _ [_, _, _, _, _] _
    refine q_asgL (xs := brV rs n (n + 1)) ?_ (fun pf H1 hpf e1 h1 => ?_)
    · rw [brV_low rs n (n + 1) (Nat.le_refl _)]
      walk_at "ev"
    show (_ : L2.TS) _ [_, _, _, _, _] _
    refine q_forR2 (lo := (n : Int) + 1) (n := ((rv.length : Nat) : Int)) ?_ ⟨by omega, by omega, by omega, by omega⟩ (fun i σ' H' => Ex H H' ∧ H' pf = some (.lst (brV rs n (n + 1 + i))) ∧ ∃ x3, σ' = [some (.ref a), some (.ref hh), some (.int (n : Int)), some (.ref pf), x3]) ?_ ?_ ?_
    · walk_at "ev"
    · intro H2 e2
      exact ⟨e1.trans e2, e2 _ _ h1, none, rfl⟩
    · rintro i σ' H' hi ⟨eH, hf, x3, rfl⟩
      have ep : (n : Int) + 1 + (i : Int) = ((n + 1 + i : Nat) : Int) := by omega
      rw [ep]
      have hpl : n + 1 + i < rs.length := by omega
      rw [show n + 1 + (i + 1) = (n + 1 + i) + 1 from rfl]
      generalize n + 1 + i = p at *
      have hgr := List.getElem?_eq_getElem hpl
      obtain ⟨y, hy, hY⟩ := hR.get hgr
      generalize rs[p] = r at hgr hY
      have hY2 : IsRow H' y r := hY.up eH
      obtain ⟨py, ys, rfl, hpy⟩ := hY2.tup
      have hPy : SqT K H' py (.str r.tag :: ys) := st_of hpy
      have hix : atI rv (p : Int) = some (.ref py) := atI_nat hy
      have hhx : atI (homesV rs rs.length) (p : Int) = some (.int (hm rs p)) := atI_nat (homesV_at hpl)
      have hbl := brV_len rs n p
      refine s_when (b := decide (V.int (hm rs p) = V.int (n : Int)) && r.isOr) ?_ (fun hb H3 e3 => ?_) (fun hb H3 e3 => ?_)
      · rw [← tag_or]
        walk_at "ev"
      · simp only [Bool.and_eq_true, decide_eq_true_eq, V.int.injEq] at hb
        refine s_app (l := pf) (xs := brV rs n p) (v := .int ((p : Int) + 1)) (e3 _ _ hf) (ev_var rfl) ?_ (by omega) (fun H4 e4 => ?_)
        · walk_at "ev"
        dsimp only
        rw [← brV_yes (by rw [orF_at hgr, decide_eq_true hb.1, hb.2]; rfl)]
        exact ⟨Ex.mut (eH.trans (e3.trans e4)) hpf, upd_same, _, rfl⟩
      · simp only [Bool.and_eq_false_iff, decide_eq_false_iff_not, V.int.injEq] at hb
        refine ⟨eH.trans e3, ?_, _, rfl⟩
        rw [brV_no (by
          rw [orF_at hgr]
          rcases hb with hb | hb
          · rw [decide_eq_false hb]; rfl
          · rw [hb, Bool.and_false])]
        exact e3 _ _ hf
    · rintro σ' H' ⟨eH, hf, x3, rfl⟩
      rw [show n + 1 + (((rv.length : Nat) : Int) - ((n : Int) + 1)).toNat = rs.length by omega] at hf
      exact s_ret (v := .ref pf) (ev_var rfl) (fun H4 e4 => q pf H4 hpf (eH.trans e4) (e4 _ _ hf))
theorem el_starts {a hh : Addr} {n : Nat} {rv : List V} {rs : List Rw} {ta : TA} {σ : L2.St} {H : Hp} {E : XK} (h : EvA ta σ H [.ref a, .ref hh, .int (n : Int)]) (hS : SqL K H a rv) (hR : Rows H rv rs) (hH : SqL K H hh (homesV rs rs.length)) (hn : n < rs.length) (hl : rs.length ≤ 90000) :
    EvL (tCall (spStarts K) [] E ta) σ H (brV rs n rs.length) := el_call h fun H1 e Q q E => ⟨a, hh, n, rv, rs, rfl, ex_l e hS, hR.up e, ex_l e hH, hn, hl, fun p H2 hp e2 h2 => q p H2 hp e2 h2⟩
end
end BD
namespace BD
open PySem PySem.Spec PyProof.Rows L2 Evl
local macro_rules | `(tactic| walk_at "ev") => `(tactic| first
  | ((with_reducible apply ev_var) ; rfl)
  | with_reducible exact ev_c
  | ((with_reducible apply ev_I0) <;> walk_at "ev")
  | ((with_reducible apply ev_e9) <;> walk_at "ev")
  | ((with_reducible apply ev_I) <;> walk_at "ev")
  | ((with_reducible apply ev_eq) <;> walk_at "ev")
  | ((with_reducible apply ev_ne) <;> walk_at "ev")
  | ((with_reducible apply ev_neg) <;> walk_at "ev")
  | ((with_reducible apply ev_ixN) <;> walk_at "ev")
  | ((with_reducible apply ev_ixL) <;> walk_at "ev")
  | ((with_reducible apply ev_inN) <;> walk_at "ev")
  | ((with_reducible apply ev_inT) <;> walk_at "ev")
  | ((with_reducible apply ev_ixT) <;> walk_at "ev")
  | ((with_reducible apply ev_ixS) <;> walk_at "ev")
  | ((with_reducible apply ev_len') <;> walk_at "ev")
  | ((with_reducible apply et_test) <;> walk_at "ev")
  | ((with_reducible apply et_and) <;> walk_at "ev")
  | ((with_reducible apply et_or) <;> walk_at "ev")
  | ((with_reducible apply et_not) <;> walk_at "ev")
  | ((with_reducible apply et_B) <;> walk_at "ev")
  | ((with_reducible apply el_lst) <;> walk_at "ev")
  | ((with_reducible apply eu_tup) <;> walk_at "ev")
  | ((with_reducible apply ea_cons) <;> walk_at "ev")
  | with_reducible exact ea_nil
  | with_reducible assumption
  | ((with_reducible apply ex_l' ; assumption) ; walk_at "ex")
  | ((with_reducible apply ex_t' ; assumption) ; walk_at "ex")
  | (intro _ ; walk_at "ev")
  | (with_reducible first | exact atI_hd | exact at_kind | exact at2s | exact at3s | exact at3i)
  | (first | exact rfl | exact Nat.le_of_ble_eq_true rfl | exact ⟨by decide, by decide⟩ | decide | exact Or.inl ⟨by omega, by omega⟩ | exact Or.inr ⟨by omega, by omega⟩ | omega)
  | skip)
local macro_rules | `(tactic| walk_at "ex") => `(tactic| first
  | assumption
  | exact Ex.refl _
  | (refine' Ex.trans ?_ (by assumption) ; walk_at "ex"))
local macro_rules | `(tactic| walk_at "row") => `(tactic| first
  | (with_reducible exact er_nil)
  | ((with_reducible apply er_cons) <;> walk_at "row")
  | (((with_reducible apply er_var) ; rfl) ; walk_at "isrow")
  | (((with_reducible apply elr_var) ; rfl) ; walk_at "isrow")
  | ((with_reducible apply elr_cat) <;> walk_at "row")
  | ((with_reducible apply elr_lst) <;> walk_at "row")
  | ((with_reducible apply er_fin) <;> walk_at "ev")
  | ((with_reducible apply er_lendT) <;> walk_at "ev")
  | ((with_reducible apply er_lendW) <;> walk_at "ev")
  | ((with_reducible apply er_pick) <;> walk_at "ev")
  | ((with_reducible apply er_either) <;> walk_at "ev")
  | ((with_reducible apply er_or) <;> walk_at "ev")
  | ((with_reducible apply er_again) <;> walk_at "ev")
  | ((with_reducible apply er_back) <;> walk_at "ev")
  | ((with_reducible apply er_look) <;> walk_at "ev")
  | ((with_reducible apply er_change) <;> walk_at "ev")
  | exact Nat.le_of_ble_eq_true rfl
  | skip)
local macro_rules | `(tactic| walk_at "isrow") => `(tactic| first
  | assumption
  | (refine IsRow.up ?_ (by assumption) ; walk_at "ex")
  | (refine LRows.up ?_ (by assumption) ; walk_at "ex"))

/-! ### entries of what is held -/
structure Ent where
  w : Str
  k : Str
  t : Int
  s : Str
  o : Bool
def Ent.vs (e : Ent) : List V := [.str e.w, .str e.k, .int e.t, .str e.s, .bl e.o]
def IsEnt (H : Hp) (v : V) (e : Ent) : Prop := ∃ p, v = .ref p ∧ H p = some (.tup e.vs)
def Ents (H : Hp) (vs : List V) (es : List Ent) : Prop := Paired (IsEnt H) vs es
/-- a tuple of entries; a standing -/
def AHeld (es : List Ent) : V → Hp → Prop := fun v H => ∃ p vs, v = .ref p ∧ H p = some (.tup vs) ∧ Ents H vs es
def AStand (i : Int) (es : List Ent) : V → Hp → Prop := fun v H => ∃ p q vs, v = .ref p ∧ H p = some (.tup [.int i, .ref q]) ∧ H q = some (.tup vs) ∧ Ents H vs es
theorem IsEnt.upT {H H' : Hp} {v : V} {e : Ent} (x : ExT H H') (h : IsEnt H v e) : IsEnt H' v e := by
  obtain ⟨p, h1, h2⟩ := h
  exact ⟨p, h1, x _ _ h2⟩
theorem Ents.upT {H H' : Hp} (e : ExT H H') : ∀ {vs : List V} {es : List Ent}, Ents H vs es → Ents H' vs es
  | _, _, .nil => .nil
  | _, _, .cons r t => .cons (r.upT e) (Ents.upT e t)
theorem Ents.up {H H' : Hp} (e : Ex H H') {vs : List V} {es : List Ent} (h : Ents H vs es) : Ents H' vs es := h.upT (ExT.of e)
theorem IsEnt.up {H H' : Hp} {v : V} {e : Ent} (x : Ex H H') (h : IsEnt H v e) : IsEnt H' v e := h.upT (ExT.of x)
theorem Ents.len {H : Hp} {vs : List V} {es : List Ent} (h : Ents H vs es) : vs.length = es.length := Paired.length h
theorem Ents.append {H : Hp} : ∀ {vs ws : List V} {rs ss : List Ent}, Ents H vs rs → Ents H ws ss → Ents H (vs ++ ws) (rs ++ ss)
  | _, _, _, _, .nil, s => s
  | _, _, _, _, .cons r t, s => .cons r (Ents.append t s)
theorem Ents.at {H : Hp} : ∀ {vs : List V} {rs : List Ent} {i : Nat} {x : V}, Ents H vs rs → vs[i]? = some x → ∃ r, rs[i]? = some r ∧ IsEnt H x r
  | _, _, _, _, .nil, e => by simp at e
  | _, _, 0, _, .cons r _, e => by simp at e; subst e; exact ⟨_, rfl, r⟩
  | _, _, i + 1, x, .cons _ t, e => by
    obtain ⟨u, h1, h2⟩ := Ents.at (i := i) (x := x) t (by simpa using e)
    exact ⟨u, by simpa using h1, h2⟩
theorem Ents.dropLast {H : Hp} : ∀ {vs : List V} {rs : List Ent}, Ents H vs rs → Ents H vs.dropLast rs.dropLast
  | _, _, .nil => .nil
  | _, _, .cons r .nil => .nil
  | _, _, .cons r (.cons r2 t) => .cons r (Ents.dropLast (.cons r2 t))
theorem AHeld.up {es : List Ent} {v : V} {H H' : Hp} (e : Ex H H') (h : AHeld es v H) : AHeld es v H' := by
  obtain ⟨p, vs, h1, h2, h3⟩ := h
  exact ⟨p, vs, h1, e _ _ h2, h3.up e⟩
theorem AStand.up {i : Int} {es : List Ent} {v : V} {H H' : Hp} (e : Ex H H') (h : AStand i es v H) : AStand i es v H' := by
  obtain ⟨p, q, vs, h1, h2, h3, h4⟩ := h
  exact ⟨p, q, vs, h1, e _ _ h2, e _ _ h3, h4.up e⟩
section
variable {K : PySem.W.Frag} {σ : L2.St} {H H' : Hp} {ta tb te tr tw tt : TE} {es fs : List Ent} {e : Ent}
theorem ep_heldvar {i : Nat} {v : V} (h : σ[i]? = some (some v)) (hr : AHeld es v H) : EvP (tVar i) σ H (AHeld es) := fun H1 x Q q => ⟨v, h, q v H1 (Ex.refl H1) (hr.up x)⟩
/-- t + u of entries -/
theorem ep_catT (ha : EvP ta σ H (AHeld es)) (hb : EvP tb σ H (AHeld fs)) (hl : es.length + fs.length ≤ 100000) : EvP (tOp (rCatA K) ta tb) σ H (AHeld (es ++ fs)) := fun H1 x Q q =>
  ha H1 x _ fun v H2 e2 hv => hb H2 (x.trans e2) _ fun u H3 e3 hu => by
    obtain ⟨p, vs, rfl, h1, h2⟩ := hv
    obtain ⟨p', us, rfl, h3, h4⟩ := hu
    have h2' := h2.up e3
    refine ⟨p, p', vs, us, rfl, rfl, st_of (e3 _ _ h1), st_of h3, sz_of (by rw [h2.len, h4.len]; exact hl), fun z => ?_, fun _ z => ?_, fun _ _ r hr => ?_⟩
    · refine q _ _ (e2.trans e3) ⟨p', us, rfl, h3, ?_⟩
      have := Ents.append h2' h4
      rw [z] at this
      exact this
    · refine q _ _ (e2.trans e3) ⟨p, vs, rfl, e3 _ _ h1, ?_⟩
      have := Ents.append h2' h4
      rw [z, List.append_nil] at this
      exact this
    · exact q _ _ (e2.trans (e3.trans (Ex.new hr))) ⟨r, _, rfl, upd_same, (Ents.append h2' h4).up (Ex.new hr)⟩
/-- (e,) -/
theorem ep_one (h : EvP te σ H (fun v H2 => IsEnt H2 v e)) : EvP (tTup (tCons te tNil)) σ H (AHeld [e]) := fun H1 x Q q =>
  h H1 x _ fun v H2 e2 hv => ⟨by show 1 ≤ sizeLine; decide, fun p hp => q _ _ (e2.trans (Ex.new hp)) ⟨p, [v], rfl, upd_same, .cons (hv.up (Ex.new hp)) .nil⟩⟩
end
theorem inV_strs (x : Str) : ∀ l : List Str, inV (.str x) (l.map V.str) = decide (x ∈ l)
  | [] => rfl
  | y :: l => by
    have ih := inV_strs x l
    unfold inV at ih ⊢
    rw [List.map_cons, List.any_cons, ih]
    show (y == x || decide (x ∈ l)) = decide (x ∈ y :: l)
    by_cases h : x = y
    · subst h
      rw [beq_self_eq_true, Bool.true_or, decide_eq_true List.mem_cons_self]
    · rw [beq_eq_false_iff_ne.mpr (fun z => h z.symm), Bool.false_or]
      by_cases h2 : x ∈ l
      · rw [decide_eq_true h2, decide_eq_true (List.mem_cons_of_mem _ h2)]
      · rw [decide_eq_false h2, decide_eq_false (fun z => (List.mem_cons.mp z).elim h h2)]
theorem flat_strs : ∀ l : List Str, (l.map V.str).all flatV = true
  | [] => rfl
  | _ :: l => flat_strs l
section
variable {K : PySem.W.Frag} {σ : L2.St} {H H' : Hp} {ta tb te tr tw tt : TE}
theorem ev_inLs {p : Addr} {x : Str} {l : List Str} (ha : Ev ta σ H (.str x)) (hb : Ev tb σ H (.ref p)) (h : SqL K H p (l.map V.str)) : Ev (tOp (rIn K false) ta tb) σ H (.bl (decide (x ∈ l))) := by
  rw [← inV_strs]
  exact ev_op ha hb (rv_isL h rfl (flat_strs l))
theorem ev_notInLs {p : Addr} {x : Str} {l : List Str} (ha : Ev ta σ H (.str x)) (hb : Ev tb σ H (.ref p)) (h : SqL K H p (l.map V.str)) : Ev (tOp (rIn K true) ta tb) σ H (.bl (!decide (x ∈ l))) := by
  rw [← inV_strs]
  exact ev_op ha hb (rv_niL h rfl (flat_strs l))
end
theorem paired_app {α β : Type} {F : α → β → Prop} : ∀ {a c : List α} {b d : List β}, Paired F a b → Paired F c d → Paired F (a ++ c) (b ++ d)
  | _, _, _, _, .nil, s => s
  | _, _, _, _, .cons r t, s => .cons r (paired_app t s)
theorem paired_drop {α β : Type} {F : α → β → Prop} : ∀ {a : List α} {b : List β}, Paired F a b → Paired F a.dropLast b.dropLast
  | _, _, .nil => .nil
  | _, _, .cons _ .nil => .nil
  | _, _, .cons r (.cons r2 t) => .cons r (paired_drop (.cons r2 t))
theorem given_rel {α : Type} {R : V → α → Prop} {f : Nat → Bool} {v : Nat → V} {p : α → Bool} {vs : List V} {rs : List α} (hR : Paired R vs rs) (hf : ∀ i r, rs[i]? = some r → f i = p r) (hv : ∀ i x, vs[i]? = some x → v i = x) : ∀ n, n ≤ rs.length → Paired R (given n f v) ((rs.take n).filter p)
  | 0, _ => .nil
  | n + 1, h => by
    have hn : n < rs.length := h
    have hl : vs.length = rs.length := Paired.length hR
    have hget : ∀ {vs : List V} {rs : List α} {i : Nat} {x : V} {r : α}, Paired R vs rs → vs[i]? = some x → rs[i]? = some r → R x r := fun {vs rs i x r} h => by
      induction h generalizing i with
      | nil => intro h1; simp at h1
      | cons a t ih =>
        intro h1 h2
        cases i with
        | zero =>
          cases h1
          cases h2
          exact a
        | succ i => exact ih (by simpa using h1) (by simpa using h2)
    have gv := List.getElem?_eq_getElem (show n < vs.length by omega)
    have gr := List.getElem?_eq_getElem hn
    have hX := hget hR gv gr
    have ih := given_rel hR hf hv n (by omega)
    have e1 : f n = p rs[n] := hf n _ gr
    rw [List.take_add_one, gr, List.filter_append]
    cases hp : p rs[n] with
    | true =>
      rw [given_yes (by rw [e1, hp]), hv n _ gv]
      refine paired_app ih ?_
      rw [show (some rs[n]).toList = [rs[n]] from rfl, List.filter_cons, if_pos hp]
      exact .cons hX .nil
    | false =>
      rw [given_no (by rw [e1, hp])]
      rw [show (some rs[n]).toList = [rs[n]] from rfl, List.filter_cons, if_neg (by rw [hp]; decide)]
      show Paired R _ (_ ++ [])
      rw [List.append_nil]
      exact ih
section
variable {K : PySem.W.Frag} {σ : L2.St} {H H' : Hp} {ta tb te tr tw tl : TE} {t : TT}
/-- a comprehension over a tuple -/
theorem el_lcT {a : Addr} {xs : List V} {tl : TE} {j : Nat} {vs : List Nat} (f : Nat → Bool) (v : Nat → V) (h : Ev tl σ H (.ref a)) (hx : SqT K H a xs) (hz : xs.length ≤ 40000) (hw : ∀ x, wipe ((wipe σ vs).set j (some x)) vs = wipe σ vs)
    (ht : ∀ (i : Nat) (x : V) H1, Ex H H1 → xs[i]? = some x → EvT t ((wipe σ vs).set j (some x)) H1 (f i)) (he : ∀ (i : Nat) (x : V) H1, Ex H H1 → xs[i]? = some x → f i = true → Ev te ((wipe σ vs).set j (some x)) H1 (v i)) :
    EvL (tLc (iTup K tl) (gName j) t te vs) σ H (given xs.length f v) := fun H0 e Q q => h H0 e _ fun H1 e1 => ⟨a, rfl, ⟨xs, ex_t (e.trans e1) hx⟩, fun Dl hD =>
  lc_tup (xs := xs) (Cw H1 f v Dl) ⟨hD, Ex.new hD, upd_same⟩ (fun i H' _ p => ex_t ((e.trans e1).trans p.2.1) hx) (fun i x H' hi p => ⟨hw x, cw_turn p (by have := (List.getElem?_eq_some_iff.mp hi).1; omega) (ht i x H1 (e.trans e1) hi) (fun hf => he i x H1 (e.trans e1) hi hf)⟩)
    (fun H' p => q Dl H' (fresh_back e1 p.1) (e1.trans p.2.1) p.2.2)⟩
theorem epl_filterT (p : Ent → Bool) {a : Addr} {vs : List V} {es : List Ent} {j : Nat} {ws : List Nat} (h : Ev tl σ H (.ref a)) (hx : SqT K H a vs) (hR : Ents H vs es) (hz : vs.length ≤ 40000) (hw : ∀ x, wipe ((wipe σ ws).set j (some x)) ws = wipe σ ws)
    (ht : ∀ x e H1, Ex H H1 → IsEnt H1 x e → EvT t ((wipe σ ws).set j (some x)) H1 (p e)) (hj : ∀ x, ((wipe σ ws).set j (some x))[j]? = some (some x)) :
    EvPL (tLc (iTup K tl) (gName j) t (tVar j) ws) σ H (fun us H2 => Ents H2 us (es.filter p)) := fun H1 e Q q => by
  have hl := hR.len
  have hev := el_lcT (K := K) (te := tVar j) (fun i => p (es.getD i ⟨"", "", 0, "", false⟩)) (fun i => vs.getD i .non) h hx hz hw (fun i x H3 e3 hi => by
    obtain ⟨r, hr, hX⟩ := hR.at hi
    rw [List.getD_eq_getElem?_getD, hr]
    exact ht x r H3 e3 (hX.up e3)) (fun i x H3 e3 hi _ => by
    rw [List.getD_eq_getElem?_getD, hi]
    exact ev_var (hj x))
  have hg := given_rel (f := fun i => p (es.getD i ⟨"", "", 0, "", false⟩)) (v := fun i => vs.getD i .non) (p := p) hR (fun i r hr => by rw [List.getD_eq_getElem?_getD, hr]; rfl) (fun i x hx => by rw [List.getD_eq_getElem?_getD, hx]; rfl) es.length (Nat.le_refl _)
  rw [List.take_length, ← hl] at hg
  exact hev H1 e Q fun pp H2 hp e2 hq => q pp _ H2 hp e2 hq (Ents.up (e.trans e2) hg)
theorem epl_filterE (p : Ent → Bool) {a : Addr} {vs : List V} {es : List Ent} {j : Nat} {ws : List Nat} (h : Ev tl σ H (.ref a)) (hx : SqL K H a vs) (hR : Ents H vs es) (hz : vs.length ≤ 40000) (hw : ∀ x, wipe ((wipe σ ws).set j (some x)) ws = wipe σ ws)
    (ht : ∀ x e H1, Ex H H1 → IsEnt H1 x e → EvT t ((wipe σ ws).set j (some x)) H1 (p e)) (hj : ∀ x, ((wipe σ ws).set j (some x))[j]? = some (some x)) :
    EvPL (tLc (iList K tl) (gName j) t (tVar j) ws) σ H (fun us H2 => Ents H2 us (es.filter p)) := fun H1 e Q q => by
  have hl := hR.len
  have hev := el_lcL (K := K) (te := tVar j) (fun i => p (es.getD i ⟨"", "", 0, "", false⟩)) (fun i => vs.getD i .non) h hx hz hw (fun i x H3 e3 hi => by
    obtain ⟨r, hr, hX⟩ := hR.at hi
    rw [List.getD_eq_getElem?_getD, hr]
    exact ht x r H3 e3 (hX.up e3)) (fun i x H3 e3 hi _ => by
    rw [List.getD_eq_getElem?_getD, hi]
    exact ev_var (hj x))
  have hg := given_rel (f := fun i => p (es.getD i ⟨"", "", 0, "", false⟩)) (v := fun i => vs.getD i .non) (p := p) hR (fun i r hr => by rw [List.getD_eq_getElem?_getD, hr]; rfl) (fun i x hx => by rw [List.getD_eq_getElem?_getD, hx]; rfl) es.length (Nat.le_refl _)
  rw [List.take_length, ← hl] at hg
  exact hev H1 e Q fun pp H2 hp e2 hq => q pp _ H2 hp e2 hq (Ents.up (e.trans e2) hg)
/-- [e.s for e if p] -/
theorem el_mapT (p : Ent → Bool) (g : Ent → Str) {a : Addr} {vs : List V} {es : List Ent} {j : Nat} {ws : List Nat} (h : Ev tl σ H (.ref a)) (hx : SqT K H a vs) (hR : Ents H vs es) (hz : vs.length ≤ 40000) (hw : ∀ x, wipe ((wipe σ ws).set j (some x)) ws = wipe σ ws)
    (ht : ∀ x e H1, Ex H H1 → IsEnt H1 x e → EvT t ((wipe σ ws).set j (some x)) H1 (p e)) (hg : ∀ x e H1, Ex H H1 → IsEnt H1 x e → Ev te ((wipe σ ws).set j (some x)) H1 (.str (g e))) :
    EvL (tLc (iTup K tl) (gName j) t te ws) σ H (((es.filter p).map g).map V.str) := by
  have hl := hR.len
  have hev := el_lcT (K := K) (te := te) (fun i => p (es.getD i ⟨"", "", 0, "", false⟩)) (fun i => .str (g (es.getD i ⟨"", "", 0, "", false⟩))) h hx hz hw (fun i x H3 e3 hi => by
    obtain ⟨r, hr, hX⟩ := hR.at hi
    rw [List.getD_eq_getElem?_getD, hr]
    exact ht x r H3 e3 (hX.up e3)) (fun i x H3 e3 hi _ => by
    obtain ⟨r, hr, hX⟩ := hR.at hi
    rw [List.getD_eq_getElem?_getD, hr]
    exact hg x r H3 e3 (hX.up e3))
  have e : given vs.length (fun i => p (es.getD i ⟨"", "", 0, "", false⟩)) (fun i => V.str (g (es.getD i ⟨"", "", 0, "", false⟩))) = ((es.filter p).map g).map V.str := by
    rw [hl]
    have key : ∀ n, n ≤ es.length → given n (fun i => p (es.getD i ⟨"", "", 0, "", false⟩)) (fun i => V.str (g (es.getD i ⟨"", "", 0, "", false⟩))) = (((es.take n).filter p).map g).map V.str := fun n => by
      induction n with
      | zero => intro _; rfl
      | succ n ih =>
        intro hn
        have hlt : n < es.length := hn
        have hgn := List.getElem?_eq_getElem hlt
        have hd : es.getD n ⟨"", "", 0, "", false⟩ = es[n] := by rw [List.getD_eq_getElem?_getD, hgn]; rfl
        rw [List.take_add_one, hgn, List.filter_append, List.map_append, List.map_append, ← ih (by omega)]
        cases hp : p es[n] with
        | true =>
          rw [given_yes (by rw [hd, hp])]
          rw [show (some es[n]).toList = [es[n]] from rfl, List.filter_cons, if_pos hp]
          rw [hd]
          rfl
        | false =>
          rw [given_no (by rw [hd, hp])]
          rw [show (some es[n]).toList = [es[n]] from rfl, List.filter_cons, if_neg (by rw [hp]; decide)]
          show _ = _ ++ []
          rw [List.append_nil]
    have := key es.length (Nat.le_refl _)
    rw [List.take_length] at this
    exact this
  rw [← e]
  exact hev
end
def ent0 : Ent := ⟨"", "", 0, "", false⟩
section
variable {K : PySem.W.Frag} {σ : L2.St} {H H' : Hp} {ta tb te tl tm : TE} {t : TT}
theorem ev_isi {ta : TA} {x : V} {m n : String} {b : Bool} (h : EvA ta σ H [x, .ty n]) (ty : TyX K H x (.type m)) (up : ∀ H1, Ex H H1 → TyX K H1 x (.type m)) (k : kitB m n = some b) : Ev (tCB (rIsi K) ta) σ H (.bl b) :=
  ev_cb h fun H1 e Q q => ⟨x, .ty n, .type m, .type n, b, rfl, ClsV.ty n, up H1 e, kit_ty k, q H1 (Ex.refl H1)⟩
theorem ev_isiI {ta : TA} {i : Int} {n : String} {b : Bool} (h : EvA ta σ H [.int i, .ty n]) (k : kitB "int" n = some b) : Ev (tCB (rIsi K) ta) σ H (.bl b) :=
  ev_isi h (.base (.int i)) (fun _ _ => .base (.int i)) k
theorem ev_isiS {ta : TA} {x : Str} {n : String} {b : Bool} (h : EvA ta σ H [.str x, .ty n]) (k : kitB "str" n = some b) : Ev (tCB (rIsi K) ta) σ H (.bl b) :=
  ev_isi h (.base (.str x)) (fun _ _ => .base (.str x)) k
theorem ev_isiB {ta : TA} {x : Bool} {n : String} {b : Bool} (h : EvA ta σ H [.bl x, .ty n]) (k : kitB "bool" n = some b) : Ev (tCB (rIsi K) ta) σ H (.bl b) :=
  ev_isi h (.base (.bl x)) (fun _ _ => .base (.bl x)) k
theorem ev_isiL {ta : TA} {p : Addr} {xs : List V} {n : String} {b : Bool} (h : EvA ta σ H [.ref p, .ty n]) (hp : H p = some (.lst xs)) (k : kitB "list" n = some b) : Ev (tCB (rIsi K) ta) σ H (.bl b) :=
  ev_isi h (.base (.lst hp)) (fun _ e => .base (.lst (e _ _ hp))) k
theorem ev_isiT {ta : TA} {p : Addr} {xs : List V} {n : String} {b : Bool} (h : EvA ta σ H [.ref p, .ty n]) (hp : H p = some (.tup xs)) (k : kitB "tuple" n = some b) : Ev (tCB (rIsi K) ta) σ H (.bl b) :=
  ev_isi h (.base (.tup hp)) (fun _ e => .base (.tup (e _ _ hp))) k
theorem ev_all {bs : List Bool} (h : EvL ta σ H (bs.map V.bl)) : Ev (tCB (rAll K) (tCons ta tNil)) σ H (.bl (bs.all id)) := fun H1 e Q q =>
  h H1 e _ fun p H2 _ e2 h2 => ⟨p, bs, rfl, sq_of h2, q H2 e2⟩
theorem ev_eqD {x y : V} {d e : PyData} (ha : Ev ta σ H x) (hb : Ev tb σ H y) (dx : ∀ H1, Ex H H1 → Dp K H1 x d) (dy : ∀ H1, Ex H H1 → Dp K H1 y e) (s1 : SeqAt.shaped d = true) (s2 : SeqAt.shaped e = true) : Ev (tOp (rEqD K) ta tb) σ H (.bl (PyData.eqv d e)) :=
  ev_op ha hb (rv_val fun H1 e1 Q q => ⟨d, e, dx H1 e1, dy H1 e1, s1, s2, q⟩)
theorem ev_neD {x y : V} {d e : PyData} (ha : Ev ta σ H x) (hb : Ev tb σ H y) (dx : ∀ H1, Ex H H1 → Dp K H1 x d) (dy : ∀ H1, Ex H H1 → Dp K H1 y e) (s1 : SeqAt.shaped d = true) (s2 : SeqAt.shaped e = true) : Ev (tOp (rNeD K) ta tb) σ H (.bl (!PyData.eqv d e)) :=
  ev_op ha hb (rv_val fun H1 e1 Q q => ⟨d, e, dx H1 e1, dy H1 e1, s1, s2, q⟩)
theorem dp_listI {p : Addr} {ns : List Int} (h : SqL K H p (ns.map V.int)) : Dp K H (.ref p) (.list (ns.map PyData.int)) := .lst h (dp_ints ns)
theorem eqv_ints (ns : List Int) : PyData.eqv (.list (ns.map PyData.int)) (.list (ns.map PyData.int)) = true :=
  SeqAt.eqv_refl _ (SeqAt.canLay_of_shaped (PySem.W.ke_shaped_ints ns))
theorem given_rep (n : Nat) (v : V) : given n (fun _ => true) (fun _ => v) = List.replicate n v := by
  rw [given_all]
  refine List.ext_getElem? fun i => ?_
  rw [List.getElem?_map, List.getElem?_replicate]
  by_cases h : i < n
  · rw [List.getElem?_range h, if_pos h]; rfl
  · rw [if_neg h, List.getElem?_eq_none (by rw [List.length_range]; omega)]; rfl
theorem rep_all : ∀ n, (List.replicate n true).all id = true
  | 0 => rfl
  | n + 1 => by rw [List.replicate_succ, List.all_cons, rep_all n]; rfl
theorem el_lcZ {a b : Addr} {xs ys : List V} {j k : Nat} {ws : List Nat} (v : V) (hxy : xs.length = ys.length) (h : Ev tl σ H (.ref a)) (h2 : Ev tm σ H (.ref b)) (hx : SqL K H a xs) (hy : SqL K H b ys) (hz : xs.length ≤ 40000)
    (hw : ∀ x y, wipe (((wipe σ ws).set j (some x)).set k (some y)) ws = wipe σ ws) (he : ∀ (i : Nat) x y H1, Ex H H1 → xs[i]? = some x → ys[i]? = some y → Ev te (((wipe σ ws).set j (some x)).set k (some y)) H1 v) :
    EvL (tLc (iZip K (tCons tl (tCons tm tNil))) (gTup K 2 (gCons (gName j) (gCons (gName k) gNil))) tYes te ws) σ H (List.replicate xs.length v) := fun H0 e Q q =>
  h H0 e _ fun H1 e1 => h2 H1 (e.trans e1) _ fun H2 e2 => ⟨a, b, xs, ys, rfl, ex_l ((e.trans e1).trans e2) hx, ex_l ((e.trans e1).trans e2) hy, fun Dl hD =>
    lc_it (walk_zip (K := K) (n := xs.length) (by omega)) (fun i H' => H2 Dl = none ∧ Ex H2 H' ∧ H' Dl = some (.lst (List.replicate i v))) ⟨hD, Ex.new hD, upd_same⟩ (fun i H' _ p => ⟨ex_l (((e.trans e1).trans e2).trans p.2.1) hx, ex_l (((e.trans e1).trans e2).trans p.2.1) hy⟩)
      (fun i z H' H3 hi p y => by
        obtain ⟨T, x1, x2, rfl, hT, rfl, g1, g2⟩ := y
        obtain ⟨p1, p2, p3⟩ := p
        have eT : Ex H' (upd H' T (.tup [x1, x2])) := Ex.new hT
        refine ⟨T, [x1, x2], rfl, SqT.of upd_same, rfl, _, _, rfl, _, _, rfl, rfl, hw x1 x2, ?_⟩
        show te _ _ _
        refine he i x1 x2 _ ((((e.trans e1).trans e2).trans p2).trans eT) g1 g2 _ (Ex.refl _) _ fun H4 e4 => ⟨List.replicate i v, e4 _ _ (eT _ _ p3), sz_lt (by rw [List.length_replicate]; omega), p1, Ex.mut ((p2.trans eT).trans e4) p1, ?_⟩
        rw [upd_same, List.replicate_succ']) (fun H' p => q Dl H' (fresh_back (e1.trans e2) p.1) ((e1.trans e2).trans p.2.1) p.2.2)⟩
end
theorem cut_take (xs : List V) (n : Nat) : cutV xs none (some (n : Int)) = xs.take n := by
  unfold cutV
  rw [HT.sIx_none, HT.sIx_nat, List.drop_zero, Nat.sub_zero]
  by_cases h : n ≤ xs.length
  · rw [Nat.min_eq_left h]
  · rw [Nat.min_eq_right (by omega), List.take_of_length_le (Nat.le_refl _), List.take_of_length_le (by omega)]
theorem ents_take {H : Hp} : ∀ {vs : List V} {rs : List Ent} (n : Nat), Ents H vs rs → Ents H (vs.take n) (rs.take n)
  | _, _, 0, _ => .nil
  | _, _, _ + 1, .nil => .nil
  | _, _, n + 1, .cons r t => .cons r (ents_take n t)
theorem any_range_succ (n : Nat) (f : Nat → Bool) : (List.range (n + 1)).any f = ((List.range n).any f || f n) := by
  rw [List.range_succ, List.any_append]
  simp
section
variable {K : PySem.W.Frag}
theorem ev_e0 {i : Nat} {x : V} {e : Ent} {σ : L2.St} {H : Hp} (h : σ[i]? = some (some x)) (hx : IsEnt H x e) : Ev (tOp (rIxT K) (tVar i) (tC (.int 0))) σ H (.str e.w) := by
  obtain ⟨p, rfl, hp⟩ := hx
  exact ev_ixT (ev_var h) (st_of hp) ev_c rfl
theorem ev_e1 {i : Nat} {x : V} {e : Ent} {σ : L2.St} {H : Hp} (h : σ[i]? = some (some x)) (hx : IsEnt H x e) : Ev (tOp (rIxT K) (tVar i) (tC (.int 1))) σ H (.str e.k) := by
  obtain ⟨p, rfl, hp⟩ := hx
  exact ev_ixT (ev_var h) (st_of hp) ev_c rfl
theorem ev_e2 {i : Nat} {x : V} {e : Ent} {σ : L2.St} {H : Hp} (h : σ[i]? = some (some x)) (hx : IsEnt H x e) : Ev (tOp (rIxT K) (tVar i) (tC (.int 2))) σ H (.int e.t) := by
  obtain ⟨p, rfl, hp⟩ := hx
  exact ev_ixT (ev_var h) (st_of hp) ev_c rfl
theorem ev_e3 {i : Nat} {x : V} {e : Ent} {σ : L2.St} {H : Hp} (h : σ[i]? = some (some x)) (hx : IsEnt H x e) : Ev (tOp (rIxT K) (tVar i) (tC (.int 3))) σ H (.str e.s) := by
  obtain ⟨p, rfl, hp⟩ := hx
  exact ev_ixT (ev_var h) (st_of hp) ev_c rfl
theorem ev_e4 {i : Nat} {x : V} {e : Ent} {σ : L2.St} {H : Hp} (h : σ[i]? = some (some x)) (hx : IsEnt H x e) : Ev (tOp (rIxT K) (tVar i) (tC (.int 4))) σ H (.bl e.o) := by
  obtain ⟨p, rfl, hp⟩ := hx
  exact ev_ixT (ev_var h) (st_of hp) ev_c rfl
theorem dec_str (a b : Str) : decide (V.str a = V.str b) = decide (a = b) := by
  by_cases h : a = b
  · rw [h, decide_eq_true rfl, decide_eq_true rfl]
  · rw [decide_eq_false h, decide_eq_false (fun z => h (V.str.inj z))]
theorem el_mapL (g : Ent → Str) {tl te : TE} {σ : L2.St} {H : Hp} {a : Addr} {vs : List V} {es : List Ent} {j : Nat} {ws : List Nat} (h : Ev tl σ H (.ref a)) (hx : SqL K H a vs) (hR : Ents H vs es) (hz : vs.length ≤ 40000) (hw : ∀ x, wipe ((wipe σ ws).set j (some x)) ws = wipe σ ws)
    (hg : ∀ x e H1, Ex H H1 → IsEnt H1 x e → Ev te ((wipe σ ws).set j (some x)) H1 (.str (g e))) : EvL (tLc (iList K tl) (gName j) tYes te ws) σ H ((es.map g).map V.str) := by
  have hl := hR.len
  have hev := el_lcL (K := K) (te := te) (t := tYes) (fun _ => true) (fun i => .str (g (es.getD i ent0))) h hx hz hw (fun i x H3 e3 hi => et_yes) (fun i x H3 e3 hi _ => by
    obtain ⟨r, hr, hX⟩ := hR.at hi
    rw [List.getD_eq_getElem?_getD, hr]
    exact hg x r H3 e3 (hX.up e3))
  have e : given vs.length (fun _ => true) (fun i => V.str (g (es.getD i ent0))) = (es.map g).map V.str := by
    rw [hl, given_all]
    refine List.ext_getElem? fun i => ?_
    by_cases hi : i < es.length
    · rw [List.getElem?_map, List.getElem?_range hi, List.getElem?_map, List.getElem?_map, List.getElem?_eq_getElem hi]
      show some (V.str (g (es.getD i ent0))) = some (V.str (g es[i]))
      rw [List.getD_eq_getElem?_getD, List.getElem?_eq_getElem hi]
      rfl
    · rw [List.getElem?_eq_none (by rw [List.length_map, List.length_range]; omega), List.getElem?_eq_none (by rw [List.length_map, List.length_map]; omega)]
  rw [← e]
  exact hev
theorem s_forNLn {D : Ends} {σ : L2.St} {H : Hp} {tu : TS} {xs : List V} {tl : TE} {j : Nat} (h : EvL tl σ H xs) (Pv : Addr → Nat → L2.St → Hp → Prop) (h0 : ∀ p H1, H p = none → Ex H H1 → H1 p = some (.lst xs) → Pv p 0 σ H1) (hl : ∀ p i σ' H', i ≤ xs.length → Pv p i σ' H' → SqL K H' p xs)
    (hs : ∀ p (i : Nat) x σ' H', xs[i]? = some x → Pv p i σ' H' → tu { D with nx := Pv p (i + 1), ct := Pv p (i + 1), bk := D.nx } (σ'.set j (some x)) H') (hd : ∀ p σ' H', Pv p xs.length σ' H' → D.nx σ' H') : tFor (iList K tl) (gName j) tu D σ H :=
  s_forNL h Pv h0 hl hs hd
end
section
variable {K : PySem.W.Frag} {σ : L2.St} {H H' : Hp} {ta tb te tr tw tt : TE} {es fs : List Ent} {e : Ent}
theorem ev_lenT {p : Addr} {xs : List V} (ha : Ev ta σ H (.ref p)) (h : SqT K H p xs) : Ev (tCB (rLenS K) (tCons ta tNil)) σ H (.int (xs.length : Int)) := fun H1 e Q q =>
  ha H1 e _ fun H2 e2 => ⟨p, xs, rfl, Or.inr (ex_t (e.trans e2) h), q H2 e2⟩
theorem ep_ent5 {ta : TA} {w k s : Str} {t : Int} {o : Bool} (h : EvA ta σ H [.str w, .str k, .int t, .str s, .bl o]) : EvP (tTup ta) σ H (fun v H2 => IsEnt H2 v ⟨w, k, t, s, o⟩) := fun H1 e Q q =>
  (eu_tup h (Nat.le_of_ble_eq_true rfl)) H1 e Q fun p H2 _ e2 h2 => q _ H2 e2 ⟨p, rfl, h2⟩
theorem ep_held_ev {v : V} (h : Ev te σ H v) (hr : AHeld es v H) : EvP te σ H (AHeld es) := fun H1 x Q q => h H1 x Q fun H2 e2 => q v H2 e2 (hr.up (x.trans e2))
theorem ep_dropT {te : TE} {th : TO} (h : EvP te σ H (AHeld es)) (h2 : EvO th σ H (some (-1))) : EvP (tSl (rSlA K) te tNoPart th) σ H (AHeld es.dropLast) := fun H1 e _ q =>
  h H1 e _ fun v H2 e2 hv => h2 H2 (e.trans e2) _ fun H4 e4 => by
    obtain ⟨p, vs, rfl, g1, g2⟩ := hv
    have hd : cutV vs none (some (-1)) = vs.dropLast := by
      unfold cutV
      rw [HT.sIx_none, List.drop_zero, Nat.sub_zero, List.dropLast_eq_take]
      congr 1
      show (if (-1 : Int) < 0 then ((-1 : Int) + (vs.length : Int)).toNat else min (-1 : Int).toNat vs.length) = _
      rw [if_pos (by omega)]
      omega
    refine ⟨p, vs, rfl, st_of (e4 _ _ g1), fun z => ?_, fun z r hr => ?_⟩
    · have hlen : vs.length = 0 := by
        have h3 := z.2
        have h4 : HT.sIx vs.length vs.length (some (-1)) = ((-1 : Int) + (vs.length : Int)).toNat := by
          show (if (-1 : Int) < 0 then ((-1 : Int) + (vs.length : Int)).toNat else min (-1 : Int).toNat vs.length) = _
          rw [if_pos (by omega)]
        rw [h4] at h3
        omega
      have hv0 : vs = [] := List.length_eq_zero_iff.mp hlen
      subst hv0
      cases g2
      exact q _ _ (e2.trans e4) ⟨p, [], rfl, e4 _ _ g1, .nil⟩
    · rw [hd]
      exact q _ _ ((e2.trans e4).trans (Ex.new hr)) ⟨r, _, rfl, upd_same, (g2.dropLast.up e4).up (Ex.new hr)⟩
end
end BD
namespace BD
open PySem PySem.Spec PyProof.Rows L2 Evl
local macro_rules | `(tactic| walk_at "ev") => `(tactic| first
  | ((with_reducible apply ev_var) ; rfl)
  | with_reducible exact ev_c
  | ((with_reducible apply ev_I0) <;> walk_at "ev")
  | ((with_reducible apply ev_e9) <;> walk_at "ev")
  | ((with_reducible apply ev_I) <;> walk_at "ev")
  | ((with_reducible apply ev_eq) <;> walk_at "ev")
  | ((with_reducible apply ev_ne) <;> walk_at "ev")
  | ((with_reducible apply ev_neg) <;> walk_at "ev")
  | ((with_reducible apply ev_ixN) <;> walk_at "ev")
  | ((with_reducible apply ev_ixL) <;> walk_at "ev")
  | ((with_reducible apply ev_inN) <;> walk_at "ev")
  | ((with_reducible apply ev_inT) <;> walk_at "ev")
  | ((with_reducible apply ev_ixT) <;> walk_at "ev")
  | ((with_reducible apply ev_ixS) <;> walk_at "ev")
  | ((with_reducible apply ev_len') <;> walk_at "ev")
  | ((with_reducible apply et_test) <;> walk_at "ev")
  | ((with_reducible apply et_and) <;> walk_at "ev")
  | ((with_reducible apply et_or) <;> walk_at "ev")
  | ((with_reducible apply et_not) <;> walk_at "ev")
  | ((with_reducible apply et_B) <;> walk_at "ev")
  | ((with_reducible apply el_lst) <;> walk_at "ev")
  | ((with_reducible apply eu_tup) <;> walk_at "ev")
  | ((with_reducible apply ea_cons) <;> walk_at "ev")
  | with_reducible exact ea_nil
  | with_reducible assumption
  | ((with_reducible apply ex_l' ; assumption) ; walk_at "ex")
  | ((with_reducible apply ex_t' ; assumption) ; walk_at "ex")
  | (intro _ ; walk_at "ev")
  | (with_reducible first | exact atI_hd | exact at_kind | exact at2s | exact at3s | exact at3i)
  | (first | exact rfl | exact Nat.le_of_ble_eq_true rfl | exact ⟨by decide, by decide⟩ | decide | exact Or.inl ⟨by omega, by omega⟩ | exact Or.inr ⟨by omega, by omega⟩ | omega)
  | skip)
local macro_rules | `(tactic| walk_at "ex") => `(tactic| first
  | assumption
  | exact Ex.refl _
  | (refine' Ex.trans ?_ (by assumption) ; walk_at "ex"))
local macro_rules | `(tactic| walk_at "row") => `(tactic| first
  | (with_reducible exact er_nil)
  | ((with_reducible apply er_cons) <;> walk_at "row")
  | (((with_reducible apply er_var) ; rfl) ; walk_at "isrow")
  | (((with_reducible apply elr_var) ; rfl) ; walk_at "isrow")
  | ((with_reducible apply elr_cat) <;> walk_at "row")
  | ((with_reducible apply elr_lst) <;> walk_at "row")
  | ((with_reducible apply er_fin) <;> walk_at "ev")
  | ((with_reducible apply er_lendT) <;> walk_at "ev")
  | ((with_reducible apply er_lendW) <;> walk_at "ev")
  | ((with_reducible apply er_pick) <;> walk_at "ev")
  | ((with_reducible apply er_either) <;> walk_at "ev")
  | ((with_reducible apply er_or) <;> walk_at "ev")
  | ((with_reducible apply er_again) <;> walk_at "ev")
  | ((with_reducible apply er_back) <;> walk_at "ev")
  | ((with_reducible apply er_look) <;> walk_at "ev")
  | ((with_reducible apply er_change) <;> walk_at "ev")
  | exact Nat.le_of_ble_eq_true rfl
  | skip)
local macro_rules | `(tactic| walk_at "isrow") => `(tactic| first
  | assumption
  | (refine IsRow.up ?_ (by assumption) ; walk_at "ex")
  | (refine LRows.up ?_ (by assumption) ; walk_at "ex"))

abbrev s_l_lent : Stmt := topS 24
theorem sc_l_lent : FnScope ["_law_held", "_law_row_here", "_law_thing_here", "_law_source", "_law_out", "_law_one"] ["_law_held", "_law_row_here"] (defScope s_l_lent) := ⟨rfl, rfl, rfl, by decide +kernel, rfl, by decide +kernel, by decide +kernel⟩
def lookE (es : List Ent) (w : Str) : Option Ent := es.find? fun e => decide (e.w = w)
def lentS (s : Src) (es : List Ent) : V × Str × Bool := match s with
  | .thing n => (.int n, "", true)
  | .word w => match lookE es w with
    | some e => (.int e.t, if e.k = "pick" then "" else e.w, e.o)
    | none => (.str w, "", true)
def lentE (es : List Ent) (h k : Str) (s : Src) : Ent := match s with
  | .thing n => ⟨h, k, n, "", true⟩
  | .word w => match lookE es w with
    | some e => ⟨h, k, e.t, if e.k = "pick" then "" else e.w, e.o⟩
    | none => ⟨h, k, 0, "", true⟩
theorem look_app (es fs : List Ent) (w : Str) : lookE (es ++ fs) w = match lookE es w with
    | some e => some e
    | none => lookE fs w := by
  unfold lookE
  rw [List.find?_append]
  cases es.find? fun e => decide (e.w = w) <;> rfl
theorem look_none {es : List Ent} {w : Str} (h : ∀ e ∈ es, e.w ≠ w) : lookE es w = none :=
  List.find?_eq_none.mpr fun e he => by
    rw [decide_eq_false (h e he)]
    decide
theorem look_some {es : List Ent} {w : Str} (h : ∃ e ∈ es, e.w = w) : ∃ e, lookE es w = some e ∧ e ∈ es ∧ e.w = w := by
  cases hl : lookE es w with
  | none =>
    obtain ⟨e, he, hw⟩ := h
    have := List.find?_eq_none.mp hl e he
    rw [decide_eq_true hw] at this
    exact absurd rfl this
  | some e => exact ⟨e, rfl, List.mem_of_find?_eq_some hl, of_decide_eq_true (List.find?_some (p := fun e : Ent => decide (e.w = w)) hl)⟩
section
variable {P : Program} {w : World} {K : PySem.W.Frag} {mg : Str → Option Value} {base : Heap}
def spLent (K : PySem.W.Frag) : Sp := fun vs H Q _ => ∃ (x y : V) (es : List Ent) (h k : Str) (s : Src), vs = [x, y] ∧ AHeld es x H ∧ IsRow H y (.lend h k s) ∧ (es.map Ent.w).Nodup ∧ (∀ u, s = .word u → ∃ e ∈ es, e.w = u) ∧ es.length ≤ 1000 ∧ Ret (AHeld (es ++ [lentE es h k s])) H Q
theorem ok_lent (D : Dn K mg "_law_lent" s_l_lent ["_law_held", "_law_row_here"]) : Has P w K mg base "_law_lent" 1 ["_law_held", "_law_row_here"] (spLent K) := by
  refine D.ok sc_l_lent (fun vs H Q E h => ?_) (fun f cdv A outer st H vs Q E hr h => ?_)
  · obtain ⟨x, y, es, h, k, s, rfl, _⟩ := h
    rfl
  · obtain ⟨x, y, es, h, k, s, rfl, hx, hy, hnd, hmt, hlen, q⟩ := h
    obtain ⟨p, hv, rfl, hp, hE⟩ := hx
    obtain ⟨py, rfl, hpy⟩ := hy
    have hPy : SqT K H py [.str "lend", .str h, .str k, s.v] := st_of hpy
    have hle := hE.len
    refine ⟨_, (pss_cons (ps_set (i := 2) sc_l_lent.nd rfl (Or.inl rfl) (pe_ix (show IxR _ (rIxT K) from ix_tup) (pv 1) pe_int (fun _ _ => rfl))) (pss_cons (ps_set (i := 3) sc_l_lent.nd rfl (Or.inl rfl) pe_str) (pss_cons (ps_set (i := 4) sc_l_lent.nd rfl (Or.inl rfl) pe_bl) (pss_cons (ps_for PassesOwn.never rfl (pi_tup (pv 0)) (pg_name (i := 5) sc_l_lent.nd rfl (Or.inl rfl)) (pss_one (ps_if (pt_cmpR op_eq (pe_ix (show IxR _ (rIxT K) from ix_tup) (pv 5) pe_int (fun _ _ => rfl)) (pe_ix (show IxR _ (rIxT K) from ix_tup) (pv 1) pe_int (fun _ _ => rfl)) (nomark _)) (pss_cons (ps_set (i := 2) sc_l_lent.nd rfl (Or.inl rfl) (pe_ix (show IxR _ (rIxT K) from ix_tup) (pv 5) pe_int (fun _ _ => rfl))) (pss_cons (ps_set (i := 4) sc_l_lent.nd rfl (Or.inl rfl) (pe_ix (show IxR _ (rIxT K) from ix_tup) (pv 5) pe_int (fun _ _ => rfl))) (pss_one (ps_if (pt_cmpR op_ne (pe_ix (show IxR _ (rIxT K) from ix_tup) (pv 5) pe_int (fun _ _ => rfl)) pe_str (nomark _)) (pss_one (ps_set (i := 3) sc_l_lent.nd rfl (Or.inl rfl) (pe_ix (show IxR _ (rIxT K) from ix_tup) (pv 5) pe_int (fun _ _ => rfl)))) pss_nil)))) pss_nil))) (pss_one (ps_ret (pe_op (show OpR _ _ (rCatA K) from op_catA) (pv 0) (pe_tup (pa_cons (pe_tup (pa_cons (pe_ix (show IxR _ (rIxT K) from ix_tup) (pv 1) pe_int (fun _ _ => rfl)) (pa_cons (pe_ix (show IxR _ (rIxT K) from ix_tup) (pv 1) pe_int (fun _ _ => rfl)) (pa_cons (pv 2) (pa_cons (pv 3) (pa_cons (pv 4) pa_nil)))))) pa_nil))))))))), ?_⟩
    show (_ : L2.TS) _ [_, _, _, _, _, _] _
    refine' q_asg (v := s.v) ?_ (fun H1 e1 => ?_)
    · walk_at "ev"
    show (_ : L2.TS) _ [_, _, _, _, _, _] _
    refine' q_asg ev_c (fun H2 e2 => ?_)
    show (_ : L2.TS) _ [_, _, _, _, _, _] _
    refine' q_asg ev_c (fun H3 e3 => ?_)
    show (_ : L2.TS) _ [_, _, _, _, _, _] _
    refine q_forT (K := K) (a := p) (xs := hv) (ev_var rfl) (ex_t (by walk_at "ex") (st_of hp)) (fun i σ' H' => Ex H H' ∧ ∃ o, σ' = [some (.ref p), some (.ref py), some (lentS s (es.take i)).1, some (.str (lentS s (es.take i)).2.1), some (.bl (lentS s (es.take i)).2.2), o]) ?_ (fun i σ' H' _ h => ex_t h.1 (st_of hp)) ?_ ?_
    · intro H4 e4
      refine ⟨by walk_at "ex", none, ?_⟩
      cases s <;> rfl
    · rintro i x σ' H' hi ⟨eH, o, rfl⟩
      obtain ⟨e, he, hX⟩ := hE.at hi
      have hil : i < es.length := (List.getElem?_eq_some_iff.mp he).1
      obtain ⟨pe, rfl, hpe⟩ := hX
      have hPe : SqT K H' pe e.vs := ex_t eH (st_of hpe)
      have htk : es.take (i + 1) = es.take i ++ [e] := by
        rw [List.take_add_one, he]
        rfl
      refine s_if (b := decide (V.str e.w = s.v)) ?_ (fun hb H4 e4 => ?_) (fun hb H4 e4 => ?_)
      · refine et_test (ev_eq ?_ ?_ (by cases s <;> rfl))
        · refine ev_ixT (ev_var rfl) hPe ev_c rfl
        · walk_at "ev"
      · have hb := of_decide_eq_true hb
        cases s with
        | thing n => cases hb
        | word u =>
          have hu : e.w = u := V.str.inj hb
          have hno : lookE (es.take i) u = none := look_none fun e' he' z => by
            have hs : es = es.take i ++ (e :: es.drop (i + 1)) := by
              have := List.take_append_drop i es
              rw [← this]
              congr 1
              · rw [List.take_append_drop]
              · rw [List.take_append_drop]
                exact List.drop_eq_getElem_cons hil ▸ by
                  rw [(List.getElem?_eq_some_iff.mp he).2]
            rw [hs, List.map_append, List.map_cons] at hnd
            have := (List.nodup_append.mp hnd).2.2 e'.w (List.mem_map.mpr ⟨e', he', rfl⟩) e.w List.mem_cons_self
            exact this (z.trans hu.symm)
          have hyes : lookE (es.take (i + 1)) u = some e := by
            rw [htk, look_app, hno]
            unfold lookE
            rw [List.find?_cons, decide_eq_true hu]
          have es1 : lentS (.word u) (es.take (i + 1)) = ((V.int e.t, if e.k = "pick" then ("" : Str) else e.w, e.o) : V × Str × Bool) := by
            unfold lentS
            dsimp only
            rw [hyes]
          have es0 : lentS (.word u) (es.take i) = ((V.str u, "", true) : V × Str × Bool) := by
            unfold lentS
            dsimp only
            rw [hno]
          rw [es0, es1]
          refine q_asg (v := .int e.t) (ev_ixT (ev_var rfl) (ex_t e4 hPe) ev_c rfl) (fun H5 e5 => ?_)
          refine q_asg (v := .bl e.o) (ev_ixT (ev_var rfl) (ex_t e5 (ex_t e4 hPe)) ev_c rfl) (fun H6 e6 => ?_)
          refine s_when (b := !decide (V.str e.k = V.str "pick")) ?_ (fun hk H7 e7 => ?_) (fun hk H7 e7 => ?_)
          · refine et_test (ev_ne ?_ ev_c rfl)
            exact ev_ixT (ev_var rfl) (ex_t e6 (ex_t e5 (ex_t e4 hPe))) ev_c rfl
          · have hk' : ¬ e.k = "pick" := fun z => by
              rw [decide_eq_true (by rw [z])] at hk
              cases hk
            refine s_asg (v := .str e.w) (ev_ixT (ev_var rfl) (ex_t e7 (ex_t e6 (ex_t e5 (ex_t e4 hPe)))) ev_c rfl) (fun H8 e8 => ⟨eH.trans (e4.trans (e5.trans (e6.trans (e7.trans e8)))), some (.ref pe), ?_⟩)
            rw [if_neg hk']
            rfl
          · have hk' : e.k = "pick" := by
              cases hd : decide (V.str e.k = V.str "pick") with
              | true => exact V.str.inj (of_decide_eq_true hd)
              | false => rw [hd] at hk; cases hk
            refine ⟨eH.trans (e4.trans (e5.trans (e6.trans e7))), some (.ref pe), ?_⟩
            rw [if_pos hk']
            rfl
      · have hb := of_decide_eq_false hb
        have hkeep : lentS s (es.take (i + 1)) = lentS s (es.take i) := by
          cases s with
          | thing n => rfl
          | word u =>
            have hu : ¬ e.w = u := fun z => hb (by rw [z]; rfl)
            unfold lentS
            dsimp only
            rw [htk, look_app]
            cases lookE (es.take i) u with
            | some e' => rfl
            | none =>
              dsimp only
              rw [look_none fun e' he' => by
                rcases List.mem_cons.mp he' with z | z
                · rw [z]; exact hu
                · cases z]
        rw [hkeep]
        exact ⟨eH.trans e4, _, rfl⟩
    · rintro σ' H' ⟨eH, o, rfl⟩
      rw [hle, List.take_length]
      have hPy' : SqT K H' py [.str "lend", .str h, .str k, s.v] := ex_t eH hPy
      have hHeld : AHeld es (.ref p) H' := ⟨p, hv, rfl, eH _ _ hp, hE.up eH⟩
      have key : ∃ n : Int, (lentS s es).1 = .int n ∧ lentE es h k s = ⟨h, k, n, (lentS s es).2.1, (lentS s es).2.2⟩ := by
        cases s with
        | thing n => exact ⟨n, rfl, rfl⟩
        | word u =>
          obtain ⟨e, h1, _, _⟩ := look_some (hmt u rfl)
          unfold lentS lentE
          dsimp only
          rw [h1]
          exact ⟨e.t, rfl, rfl⟩
      obtain ⟨n, hn1, hn2⟩ := key
      rw [hn2] at q
      refine s_retP (ep_catT (es := es) (fs := [⟨h, k, n, (lentS s es).2.1, (lentS s es).2.2⟩]) (ep_heldvar rfl hHeld) (ep_one ?_) (by show es.length + 1 ≤ 100000; omega)) (fun v H9 e9 hv => q v H9 (eH.trans e9) hv)
      rw [hn1]
      refine EvP.mono (ep_U (xs := [.str h, .str k, .int n, .str (lentS s es).2.1, .bl (lentS s es).2.2]) ?_) (fun v H2 h => ?_)
      · walk_at "ev"
      · obtain ⟨p', rfl, hp'⟩ := h
        exact ⟨p', rfl, hp'⟩
theorem ep_lent {x y : V} {es : List Ent} {h k : Str} {s : Src} {ta : TA} {σ : L2.St} {H : Hp} {E : XK} (a : EvA ta σ H [x, y]) (hx : AHeld es x H) (hy : IsRow H y (.lend h k s)) (hn : (es.map Ent.w).Nodup) (hm : ∀ u, s = .word u → ∃ e ∈ es, e.w = u) (hl : es.length ≤ 1000) :
    EvP (tCall (spLent K) [] E ta) σ H (AHeld (es ++ [lentE es h k s])) := ep_call a fun H1 e Q q E => ⟨x, y, es, h, k, s, rfl, hx.up e, hy.up e, hn, hm, hl, q⟩
end
end BD
namespace BD
open PySem PySem.Spec PyProof.Rows L2 Evl
local macro_rules | `(tactic| walk_at "ev") => `(tactic| first
  | ((with_reducible apply ev_var) ; rfl)
  | with_reducible exact ev_c
  | ((with_reducible apply ev_I0) <;> walk_at "ev")
  | ((with_reducible apply ev_e9) <;> walk_at "ev")
  | ((with_reducible apply ev_I) <;> walk_at "ev")
  | ((with_reducible apply ev_eq) <;> walk_at "ev")
  | ((with_reducible apply ev_ne) <;> walk_at "ev")
  | ((with_reducible apply ev_neg) <;> walk_at "ev")
  | ((with_reducible apply ev_ixN) <;> walk_at "ev")
  | ((with_reducible apply ev_ixL) <;> walk_at "ev")
  | ((with_reducible apply ev_inN) <;> walk_at "ev")
  | ((with_reducible apply ev_inT) <;> walk_at "ev")
  | ((with_reducible apply ev_ixT) <;> walk_at "ev")
  | ((with_reducible apply ev_ixS) <;> walk_at "ev")
  | ((with_reducible apply ev_len') <;> walk_at "ev")
  | ((with_reducible apply et_test) <;> walk_at "ev")
  | ((with_reducible apply et_and) <;> walk_at "ev")
  | ((with_reducible apply et_or) <;> walk_at "ev")
  | ((with_reducible apply et_not) <;> walk_at "ev")
  | ((with_reducible apply et_B) <;> walk_at "ev")
  | ((with_reducible apply el_lst) <;> walk_at "ev")
  | ((with_reducible apply eu_tup) <;> walk_at "ev")
  | ((with_reducible apply ea_cons) <;> walk_at "ev")
  | with_reducible exact ea_nil
  | with_reducible assumption
  | ((with_reducible apply ex_l' ; assumption) ; walk_at "ex")
  | ((with_reducible apply ex_t' ; assumption) ; walk_at "ex")
  | (intro _ ; walk_at "ev")
  | (with_reducible first | exact atI_hd | exact at_kind | exact at2s | exact at3s | exact at3i)
  | (first | exact rfl | exact Nat.le_of_ble_eq_true rfl | exact ⟨by decide, by decide⟩ | decide | exact Or.inl ⟨by omega, by omega⟩ | exact Or.inr ⟨by omega, by omega⟩ | omega)
  | skip)
local macro_rules | `(tactic| walk_at "ex") => `(tactic| first
  | assumption
  | exact Ex.refl _
  | (refine' Ex.trans ?_ (by assumption) ; walk_at "ex"))
local macro_rules | `(tactic| walk_at "row") => `(tactic| first
  | (with_reducible exact er_nil)
  | ((with_reducible apply er_cons) <;> walk_at "row")
  | (((with_reducible apply er_var) ; rfl) ; walk_at "isrow")
  | (((with_reducible apply elr_var) ; rfl) ; walk_at "isrow")
  | ((with_reducible apply elr_cat) <;> walk_at "row")
  | ((with_reducible apply elr_lst) <;> walk_at "row")
  | ((with_reducible apply er_fin) <;> walk_at "ev")
  | ((with_reducible apply er_lendT) <;> walk_at "ev")
  | ((with_reducible apply er_lendW) <;> walk_at "ev")
  | ((with_reducible apply er_pick) <;> walk_at "ev")
  | ((with_reducible apply er_either) <;> walk_at "ev")
  | ((with_reducible apply er_or) <;> walk_at "ev")
  | ((with_reducible apply er_again) <;> walk_at "ev")
  | ((with_reducible apply er_back) <;> walk_at "ev")
  | ((with_reducible apply er_look) <;> walk_at "ev")
  | ((with_reducible apply er_change) <;> walk_at "ev")
  | exact Nat.le_of_ble_eq_true rfl
  | skip)
local macro_rules | `(tactic| walk_at "isrow") => `(tactic| first
  | assumption
  | (refine IsRow.up ?_ (by assumption) ; walk_at "ex")
  | (refine LRows.up ?_ (by assumption) ; walk_at "ex"))

abbrev s_l_back : Stmt := topS 25
theorem sc_l_back : FnScope ["_law_held", "_law_word_here", "_law_gone", "_law_found", "_law_one"] ["_law_held", "_law_word_here"] (defScope s_l_back) := ⟨rfl, rfl, rfl, by decide +kernel, rfl, by decide +kernel, by decide +kernel⟩
def bkS (w : Str) (es : List Ent) : Nat → List Str × List Ent
  | 0 => ([w], [])
  | i + 1 => match es[i]? with
    | some e => if e.w ∈ (bkS w es i).1 ∨ e.s ∈ (bkS w es i).1 then ((bkS w es i).1 ++ [e.w], (bkS w es i).2 ++ [(⟨e.w, e.k, e.t, e.s, false⟩ : Ent)]) else ((bkS w es i).1, (bkS w es i).2 ++ [e])
    | none => bkS w es i
def backM (w : Str) (es : List Ent) : List Ent := (bkS w es es.length).2
theorem bkS_next {w : Str} {es : List Ent} {i : Nat} {e : Ent} (h : es[i]? = some e) : bkS w es (i + 1) =
    if e.w ∈ (bkS w es i).1 ∨ e.s ∈ (bkS w es i).1 then ((bkS w es i).1 ++ [e.w], (bkS w es i).2 ++ [(⟨e.w, e.k, e.t, e.s, false⟩ : Ent)]) else ((bkS w es i).1, (bkS w es i).2 ++ [e]) := by
  show (match es[i]? with
    | some e => if e.w ∈ (bkS w es i).1 ∨ e.s ∈ (bkS w es i).1 then ((bkS w es i).1 ++ [e.w], (bkS w es i).2 ++ [(⟨e.w, e.k, e.t, e.s, false⟩ : Ent)]) else ((bkS w es i).1, (bkS w es i).2 ++ [e])
    | none => bkS w es i) = _
  rw [h]
theorem bkS_len (w : Str) (es : List Ent) : ∀ i, (bkS w es i).1.length ≤ i + 1 ∧ (bkS w es i).2.length ≤ i
  | 0 => ⟨Nat.le_refl _, Nat.le_refl _⟩
  | i + 1 => by
    have ih := bkS_len w es i
    show (match es[i]? with
      | some e => if e.w ∈ (bkS w es i).1 ∨ e.s ∈ (bkS w es i).1 then ((bkS w es i).1 ++ [e.w], (bkS w es i).2 ++ [(⟨e.w, e.k, e.t, e.s, false⟩ : Ent)]) else ((bkS w es i).1, (bkS w es i).2 ++ [e])
      | none => bkS w es i).1.length ≤ _ ∧ (match es[i]? with
      | some e => if e.w ∈ (bkS w es i).1 ∨ e.s ∈ (bkS w es i).1 then ((bkS w es i).1 ++ [e.w], (bkS w es i).2 ++ [(⟨e.w, e.k, e.t, e.s, false⟩ : Ent)]) else ((bkS w es i).1, (bkS w es i).2 ++ [e])
      | none => bkS w es i).2.length ≤ _
    cases es[i]? with
    | none => exact ⟨by show (bkS w es i).1.length ≤ _; omega, by show (bkS w es i).2.length ≤ _; omega⟩
    | some e =>
      dsimp only
      split
      · exact ⟨by show (_ ++ [_]).length ≤ _; rw [List.length_append]; show _ + 1 ≤ _; omega, by show (_ ++ [_]).length ≤ _; rw [List.length_append]; show _ + 1 ≤ _; omega⟩
      · exact ⟨by show (bkS w es i).1.length ≤ _; omega, by show (_ ++ [_]).length ≤ _; rw [List.length_append]; show _ + 1 ≤ _; omega⟩
section
variable {P : Program} {w : World} {K : PySem.W.Frag} {mg : Str → Option Value} {base : Heap}
theorem cut4 (a b c d e : V) : cutV [a, b, c, d, e] none (some 4) = [a, b, c, d] := rfl
theorem ep_entvar {i : Nat} {v : V} {e : Ent} {σ : L2.St} {H : Hp} (h : σ[i]? = some (some v)) (hr : IsEnt H v e) : EvP (tVar i) σ H (fun v H2 => IsEnt H2 v e) := fun H1 x Q q => ⟨v, h, q v H1 (Ex.refl H1) (hr.up x)⟩
/-- t[lo:hi] of a tuple that is not whole behind it -/
theorem ep_slT {te : TE} {tl th : TO} {σ : L2.St} {H : Hp} {a : Addr} {xs ys : List V} {lo hi : Option Int} (h : Ev te σ H (.ref a)) (h1 : EvO tl σ H lo) (h2 : EvO th σ H hi) (hs : SqT K H a xs) (hc : cutV xs lo hi = ys) (hw : ¬ (HT.sIx xs.length 0 lo = 0 ∧ HT.sIx xs.length xs.length hi = xs.length)) :
    EvU (tSl (rSlA K) te tl th) σ H ys := fun H1 e _ q =>
  h H1 e _ fun H2 e2 => h1 H2 (e.trans e2) _ fun H3 e3 => h2 H3 ((e.trans e2).trans e3) _ fun H4 e4 =>
    ⟨a, xs, rfl, ex_t (((e.trans e2).trans e3).trans e4) hs, fun z => absurd z hw, fun _ p hp => q p _ (fresh_back ((e2.trans e3).trans e4) hp) (((e2.trans e3).trans e4).trans (Ex.new hp)) (by rw [hc]; exact upd_same)⟩
/-- t + u, both new, neither empty -/
theorem eu_catUU {ta tb : TE} {σ : L2.St} {H : Hp} {xs ys : List V} (ha : EvU ta σ H xs) (hb : EvU tb σ H ys) (h1 : xs ≠ []) (h2 : ys ≠ []) (hl : xs.length + ys.length ≤ 100000) : EvU (tOp (rCatA K) ta tb) σ H (xs ++ ys) := fun H1 e Q q =>
  ha H1 e _ fun p H2 hp e2 g1 => hb H2 (e.trans e2) _ fun u H3 hu e3 g2 => ⟨p, u, xs, ys, rfl, rfl, st_of (e3 _ _ g1), st_of g2, sz_of hl, fun z => absurd z h1, fun _ z => absurd z h2, fun _ _ r hr => q r _ (fresh_back (e2.trans e3) hr) (e2.trans (e3.trans (Ex.new hr))) upd_same⟩
def spBack (K : PySem.W.Frag) : Sp := fun vs H Q _ => ∃ (x : V) (es : List Ent) (u : Str), vs = [x, .str u] ∧ AHeld es x H ∧ es.length ≤ 1000 ∧ Ret (AHeld (backM u es)) H Q
theorem ok_back (D : Dn K mg "_law_back" s_l_back ["_law_held", "_law_word_here"]) : Has P w K mg base "_law_back" 1 ["_law_held", "_law_word_here"] (spBack K) := by
  refine D.ok sc_l_back (fun vs H Q E h => ?_) (fun f cdv A outer st H vs Q E hr h => ?_)
  · obtain ⟨x, es, u, rfl, _⟩ := h
    rfl
  · obtain ⟨x, es, u, rfl, hx, hlen, q⟩ := h
    obtain ⟨p, hv, rfl, hp, hE⟩ := hx
    have hle := hE.len
    refine ⟨_, (pss_cons (ps_set (i := 2) sc_l_back.nd rfl (Or.inl rfl) (pe_lst (pa_cons (pv 1) pa_nil))) (pss_cons (ps_set (i := 3) sc_l_back.nd rfl (Or.inl rfl) (pe_tup pa_nil)) (pss_cons (ps_for PassesOwn.never rfl (pi_tup (pv 0)) (pg_name (i := 4) sc_l_back.nd rfl (Or.inl rfl)) (pss_cons (ps_if (PW.pt (pw_or (pt_cmpR (show OpR _ _ (rIn K false) from op_in_seq) (pe_ix (show IxR _ (rIxT K) from ix_tup) (pv 4) pe_int (fun _ _ => rfl)) (pv 2) (by rfl)) (pw_or1 (pt_cmpR (show OpR _ _ (rIn K false) from op_in_seq) (pe_ix (show IxR _ (rIxT K) from ix_tup) (pv 4) pe_int (fun _ _ => rfl)) (pv 2) (by rfl))))) (pss_cons (ps_expr (pe_bm PySem.F.plainAttrs_list PySem.F.slot_list_append PySem.F.type_list_append mt_append (pv 2) (pa_cons (pe_ix (show IxR _ (rIxT K) from ix_tup) (pv 4) pe_int (fun _ _ => rfl)) pa_nil))) (pss_one (ps_set (i := 4) sc_l_back.nd rfl (Or.inl rfl) (pe_op (show OpR _ _ (rCatA K) from op_catA) (pe_slice sl_tupA (pv 4) po_none (po_some pe_int)) (pe_tup (pa_cons pe_bl pa_nil)))))) pss_nil) (pss_one (ps_set (i := 3) sc_l_back.nd rfl (Or.inl rfl) (pe_op (show OpR _ _ (rCatA K) from op_catA) (pv 3) (pe_tup (pa_cons (pv 4) pa_nil))))))) (pss_one (ps_ret (pv 3)))))), ?_⟩
    show (_ : L2.TS) _ [_, _, _, _, _] _
    refine q_asgL (xs := [.str u]) ?_ (fun pg H1 hpg e1 h1 => ?_)
    · walk_at "ev"
    show (_ : L2.TS) _ [_, _, _, _, _] _
    refine q_asgU (xs := []) ?_ (fun pf H2 hpf e2 h2 => ?_)
    · walk_at "ev"
    show (_ : L2.TS) _ [_, _, _, _, _] _
    refine q_forT (K := K) (a := p) (xs := hv) (ev_var rfl) (ex_t (by walk_at "ex") (st_of hp)) (fun i σ' H' => Ex H H' ∧ H' pg = some (.lst ((bkS u es i).1.map V.str)) ∧ ∃ v o, AHeld (bkS u es i).2 v H' ∧ σ' = [some (.ref p), some (.str u), some (.ref pg), some v, o]) ?_ (fun i σ' H' _ h => ex_t h.1 (st_of hp)) ?_ ?_
    · intro H4 e4
      exact ⟨by walk_at "ex", e4 _ _ (e2 _ _ h1), .ref pf, none, ⟨pf, [], rfl, e4 _ _ h2, .nil⟩, rfl⟩
    · rintro i x σ' H' hi ⟨eH, hgn, v, o, hfd, rfl⟩
      obtain ⟨e, he, hX⟩ := hE.at hi
      have hil : i < es.length := (List.getElem?_eq_some_iff.mp he).1
      have hX' : IsEnt H' x e := hX.up eH
      obtain ⟨pe, rfl, hpe⟩ := id hX'
      have hPe : SqT K H' pe e.vs := st_of hpe
      have hG : SqL K H' pg ((bkS u es i).1.map V.str) := sq_of hgn
      have hbl := bkS_len u es i
      have hnx := bkS_next (w := u) he
      refine q_when (b := decide (e.w ∈ (bkS u es i).1) || decide (e.s ∈ (bkS u es i).1)) ?_ (fun hb H4 e4 => ?_) (fun hb H4 e4 => ?_)
      · refine et_or (et_test (ev_inLs ?_ (ev_var rfl) hG)) (fun _ => et_test (ev_inLs ?_ (ev_var rfl) hG))
        · exact ev_ixT (ev_var rfl) hPe ev_c rfl
        · exact ev_ixT (ev_var rfl) hPe ev_c rfl
      · have hb' : e.w ∈ (bkS u es i).1 ∨ e.s ∈ (bkS u es i).1 := by simpa only [Bool.or_eq_true, decide_eq_true_eq] using hb
        rw [if_pos hb'] at hnx
        refine q_app (l := pg) (xs := (bkS u es i).1.map V.str) (v := .str e.w) (e4 _ _ hgn) (ev_var rfl) (ev_ixT (ev_var rfl) (ex_t e4 hPe) ev_c rfl) (by rw [List.length_map]; omega) (fun H5 e5 => ?_)
        have eg : (bkS u es i).1.map V.str ++ [V.str e.w] = (bkS u es (i + 1)).1.map V.str := by
          rw [hnx, List.map_append]
          rfl
        rw [eg]
        have x5 : ExT H5 (upd H5 pg (.lst ((bkS u es (i + 1)).1.map V.str))) := ExT.lst (e5 _ _ (e4 _ _ hgn))
        have xT : ExT H' (upd H5 pg (.lst ((bkS u es (i + 1)).1.map V.str))) := (ExT.of (e4.trans e5)).trans x5
        have eM : Ex H (upd H5 pg (.lst ((bkS u es (i + 1)).1.map V.str))) := Ex.mut (eH.trans (e4.trans e5)) hpg
        have hg5 : (upd H5 pg (.lst ((bkS u es (i + 1)).1.map V.str))) pg = some (.lst ((bkS u es (i + 1)).1.map V.str)) := upd_same
        have hfd5 : AHeld (bkS u es i).2 v (upd H5 pg (.lst ((bkS u es (i + 1)).1.map V.str))) := by
          obtain ⟨pv, vs, g1, g2, g3⟩ := hfd
          exact ⟨pv, vs, g1, xT _ _ g2, g3.upT xT⟩
        have hPe5 : SqT K (upd H5 pg (.lst ((bkS u es (i + 1)).1.map V.str))) pe e.vs := st_of (xT _ _ hpe)
        generalize upd H5 pg (.lst ((bkS u es (i + 1)).1.map V.str)) = H6 at *
        -- one = one[:4] + (False,)
        refine s_asgU (xs := [.str e.w, .str e.k, .int e.t, .str e.s] ++ [.bl false]) (eu_catUU (ep_slT (ev_var rfl) eo_none (eo_some ev_c) hPe5 (show cutV e.vs none (some 4) = [.str e.w, .str e.k, .int e.t, .str e.s] from rfl) (fun z => absurd z.2 (by show ¬ HT.sIx 5 5 (some 4) = 5; decide))) (eu_tup ?_ (Nat.le_of_ble_eq_true rfl)) (by simp) (by simp) (Nat.le_of_ble_eq_true rfl)) (fun po H7 hpo e7 h7 => ?_)
        · walk_at "ev"
        dsimp only
        refine s_asgP (ep_catT (es := (bkS u es i).2) (fs := [⟨e.w, e.k, e.t, e.s, false⟩]) (ep_heldvar rfl (hfd5.up e7)) (ep_one ?_) (by show (bkS u es i).2.length + 1 ≤ 100000; omega)) (fun z H8 e8 hz => ?_)
        · exact ep_entvar (v := .ref po) rfl ⟨po, rfl, h7⟩
        · refine ⟨eM.trans (e7.trans e8), e8 _ _ (e7 _ _ hg5), z, some (.ref po), ?_, rfl⟩
          rw [hnx]
          exact hz
      · have hb' : ¬ (e.w ∈ (bkS u es i).1 ∨ e.s ∈ (bkS u es i).1) := by simpa only [Bool.or_eq_false_iff, decide_eq_false_iff_not, not_or] using hb
        rw [if_neg hb'] at hnx
        refine s_asgP (ep_catT (es := (bkS u es i).2) (fs := [e]) (ep_heldvar rfl (hfd.up e4)) (ep_one (ep_entvar (v := .ref pe) rfl (hX'.up e4))) (by show (bkS u es i).2.length + 1 ≤ 100000; omega)) (fun z H8 e8 hz => ?_)
        refine ⟨eH.trans (e4.trans e8), ?_, z, some (.ref pe), ?_, rfl⟩
        · rw [hnx]
          exact e8 _ _ (e4 _ _ hgn)
        · rw [hnx]
          exact hz
    · rintro σ' H' ⟨eH, hgn, v, o, hfd, rfl⟩
      rw [hle] at hfd
      exact s_ret (v := v) (ev_var rfl) (fun H4 e4 => q v H4 (eH.trans e4) (hfd.up e4))
theorem ep_back {x : V} {es : List Ent} {u : Str} {ta : TA} {σ : L2.St} {H : Hp} {E : XK} (a : EvA ta σ H [x, .str u]) (hx : AHeld es x H) (hl : es.length ≤ 1000) : EvP (tCall (spBack K) [] E ta) σ H (AHeld (backM u es)) :=
  ep_call a fun H1 e Q q E => ⟨x, es, u, rfl, hx.up e, hl, q⟩
end
end BD
namespace BD
open PySem PySem.Spec PyProof.Rows L2 Evl
local macro_rules | `(tactic| walk_at "ev") => `(tactic| first
  | ((with_reducible apply ev_var) ; rfl)
  | with_reducible exact ev_c
  | ((with_reducible apply ev_I0) <;> walk_at "ev")
  | ((with_reducible apply ev_e9) <;> walk_at "ev")
  | ((with_reducible apply ev_I) <;> walk_at "ev")
  | ((with_reducible apply ev_eq) <;> walk_at "ev")
  | ((with_reducible apply ev_ne) <;> walk_at "ev")
  | ((with_reducible apply ev_neg) <;> walk_at "ev")
  | ((with_reducible apply ev_ixN) <;> walk_at "ev")
  | ((with_reducible apply ev_ixL) <;> walk_at "ev")
  | ((with_reducible apply ev_inN) <;> walk_at "ev")
  | ((with_reducible apply ev_inT) <;> walk_at "ev")
  | ((with_reducible apply ev_ixT) <;> walk_at "ev")
  | ((with_reducible apply ev_ixS) <;> walk_at "ev")
  | ((with_reducible apply ev_len') <;> walk_at "ev")
  | ((with_reducible apply et_test) <;> walk_at "ev")
  | ((with_reducible apply et_and) <;> walk_at "ev")
  | ((with_reducible apply et_or) <;> walk_at "ev")
  | ((with_reducible apply et_not) <;> walk_at "ev")
  | ((with_reducible apply et_B) <;> walk_at "ev")
  | ((with_reducible apply el_lst) <;> walk_at "ev")
  | ((with_reducible apply eu_tup) <;> walk_at "ev")
  | ((with_reducible apply ea_cons) <;> walk_at "ev")
  | with_reducible exact ea_nil
  | with_reducible assumption
  | ((with_reducible apply ex_l' ; assumption) ; walk_at "ex")
  | ((with_reducible apply ex_t' ; assumption) ; walk_at "ex")
  | (intro _ ; walk_at "ev")
  | (with_reducible first | exact atI_hd | exact at_kind | exact at2s | exact at3s | exact at3i)
  | (first | exact rfl | exact Nat.le_of_ble_eq_true rfl | exact ⟨by decide, by decide⟩ | decide | exact Or.inl ⟨by omega, by omega⟩ | exact Or.inr ⟨by omega, by omega⟩ | omega)
  | skip)
local macro_rules | `(tactic| walk_at "ex") => `(tactic| first
  | assumption
  | exact Ex.refl _
  | (refine' Ex.trans ?_ (by assumption) ; walk_at "ex"))
local macro_rules | `(tactic| walk_at "row") => `(tactic| first
  | (with_reducible exact er_nil)
  | ((with_reducible apply er_cons) <;> walk_at "row")
  | (((with_reducible apply er_var) ; rfl) ; walk_at "isrow")
  | (((with_reducible apply elr_var) ; rfl) ; walk_at "isrow")
  | ((with_reducible apply elr_cat) <;> walk_at "row")
  | ((with_reducible apply elr_lst) <;> walk_at "row")
  | ((with_reducible apply er_fin) <;> walk_at "ev")
  | ((with_reducible apply er_lendT) <;> walk_at "ev")
  | ((with_reducible apply er_lendW) <;> walk_at "ev")
  | ((with_reducible apply er_pick) <;> walk_at "ev")
  | ((with_reducible apply er_either) <;> walk_at "ev")
  | ((with_reducible apply er_or) <;> walk_at "ev")
  | ((with_reducible apply er_again) <;> walk_at "ev")
  | ((with_reducible apply er_back) <;> walk_at "ev")
  | ((with_reducible apply er_look) <;> walk_at "ev")
  | ((with_reducible apply er_change) <;> walk_at "ev")
  | exact Nat.le_of_ble_eq_true rfl
  | skip)
local macro_rules | `(tactic| walk_at "isrow") => `(tactic| first
  | assumption
  | (refine IsRow.up ?_ (by assumption) ; walk_at "ex")
  | (refine LRows.up ?_ (by assumption) ; walk_at "ex"))

local macro_rules | `(tactic| walk_at "ev") => `(tactic| (((with_reducible apply ev_tag) ; rfl) ; walk_at "isrow"))
local macro_rules | `(tactic| walk_at "skip") => `(tactic| (refine q_when (b := false) (et_is (et_test (ev_eq (ev_var rfl) ev_c rfl)) rfl) (fun hb _ _ => by cases hb) (fun _ _ _ => ?_)))
local macro_rules | `(tactic| walk_at "skip2") => `(tactic| (refine q_when (b := false) (et_is (et_and (a := false) (b := false) (et_is (et_test (ev_eq (ev_var rfl) ev_c rfl)) rfl) (fun hb => by cases hb)) rfl) (fun hb _ _ => by cases hb) (fun _ _ _ => ?_)))
local macro_rules | `(tactic| walk_at "hit") => `(tactic| (refine q_when (b := true) (et_is (et_test (ev_eq (ev_var rfl) ev_c rfl)) rfl) (fun _ _ _ => ?_) (fun hb _ _ => by cases hb)))
abbrev s_l_step : Stmt := topS 26
theorem sc_l_step : FnScope ["_law_rows", "_law_home", "_law_standing", "_law_choice", "_law_at", "_law_held", "_law_word_here", "_law_things", "_law_starts_here"] ["_law_rows", "_law_home", "_law_standing", "_law_choice"] (defScope s_l_step) := ⟨rfl, rfl, rfl, by decide +kernel, rfl, by decide +kernel, by decide +kernel⟩
def brI (rs : List Rw) (a n : Nat) : List Int := ((a : Int) + 1) :: ((List.range n).filter (orF rs a)).map fun (p : Nat) => (p : Int) + 1
theorem brV_I (rs : List Rw) (a n : Nat) : brV rs a n = (brI rs a n).map V.int := by
  unfold brV brI
  rw [List.map_cons, List.map_map]
  rfl
def Rw.isAgain : Rw → Bool
  | .again => true | _ => false
def goM (rs : List Rw) (i : Nat) (es : List Ent) (c : Int) : Int × List Ent := match rs[i]? with
  | some (.lend h k s) => ((i : Int) + 1, es ++ [lentE es h k s])
  | some (.pick w ts) => ((i : Int) + 1, es ++ [⟨w, "pick", ts.getD (c % ts.length).toNat 0, "", true⟩])
  | some (.back h) => ((i : Int) + 1, backM h es)
  | some .either => ((brI rs i rs.length).getD (c % (brI rs i rs.length).length).toNat 0, es)
  | some .or => (endUp rs (hm rs i).toNat rs.length, es)
  | some .again => if c % 2 = 0 then (endUp rs i rs.length + 1, es) else ((i : Int) + 1, es)
  | some .fin => if (rs.getD (hm rs i).toNat .fin).isAgain = true then (hm rs i, es) else if (rs.getD (hm rs i).toNat .fin).isEither = true then ((i : Int) + 1, es) else ((i : Int) + 1, es.dropLast)
  | _ => ((i : Int) + 1, es)
/-- what a step asks of the standing at row i -/
structure StepOk (rs : List Rw) (i : Nat) (es : List Ent) : Prop where
  lend : ∀ h k s, rs[i]? = some (.lend h k s) → (es.map Ent.w).Nodup ∧ ∀ u, s = .word u → ∃ e ∈ es, e.w = u
  pick : ∀ w ts, rs[i]? = some (.pick w ts) → 0 < ts.length
  or : rs[i]? = some .or → ∃ b : Nat, hm rs i = (b : Int)
section
variable {K : PySem.W.Frag} {σ : L2.St} {H H' : Hp} {ta tb te tr tw tt : TE} {es fs : List Ent} {e : Ent}
theorem ep_stand {i : Int} (ha : Ev ta σ H (.int i)) (hb : EvP tb σ H (AHeld es)) : EvP (tTup (tCons ta (tCons tb tNil))) σ H (AStand i es) := fun H1 x Q q =>
  ha H1 x _ fun H2 e2 => hb H2 (x.trans e2) _ fun v H3 e3 hv => ⟨by show 2 ≤ sizeLine; decide, fun p hp => by
    obtain ⟨r, vs, rfl, h1, h2⟩ := hv
    exact q _ _ ((e2.trans e3).trans (Ex.new hp)) ⟨p, r, vs, rfl, upd_same, (Ex.new hp) _ _ h1, h2.up (Ex.new hp)⟩⟩
end
section
variable {P : Program} {w : World} {K : PySem.W.Frag} {mg : Str → Option Value} {base : Heap}
def spStep (K : PySem.W.Frag) : Sp := fun vs H Q _ => ∃ (a hh : Addr) (x : V) (c : Int) (i : Nat) (es : List Ent) (rv : List V) (rs : List Rw), vs = [.ref a, .ref hh, x, .int c] ∧ SqL K H a rv ∧ Rows H rv rs ∧ SqL K H hh (homesV rs rs.length) ∧ AStand i es x H ∧
  i < rs.length ∧ rs.length ≤ 90000 ∧ Good rs ∧ StepOk rs i es ∧ es.length ≤ 900 ∧ Ret (AStand (goM rs i es c).1 (goM rs i es c).2) H Q
theorem ok_step (D : Dn K mg "_law_step" s_l_step ["_law_rows", "_law_home", "_law_standing", "_law_choice"]) (T : Blt mg) (h_l_lent : Has P w K mg base "_law_lent" 1 ["_law_held", "_law_row_here"] (spLent K)) (h_l_back : Has P w K mg base "_law_back" 1 ["_law_held", "_law_word_here"] (spBack K)) (h_l_starts : Has P w K mg base "_law_starts" 1 ["_law_rows", "_law_home", "_law_at"] (spStarts K)) (h_l_last : Has P w K mg base "_law_last" 1 ["_law_rows", "_law_home", "_law_at"] (spLast K)) : Has P w K mg base "_law_step" 2 ["_law_rows", "_law_home", "_law_standing", "_law_choice"] (spStep K) := by
  refine D.ok sc_l_step (fun vs H Q E h => ?_) (fun f cdv A outer st H vs Q E hr h => ?_)
  · obtain ⟨a, hh, x, c, i, es, rv, rs, rfl, _⟩ := h
    rfl
  · obtain ⟨a, hh, x, c, i, es, rv, rs, rfl, hS, hR, hM, hx, hi, hlen, g, ok, hes, q⟩ := h
    obtain ⟨px, pq, hv, rfl, hpx, hpq, hE⟩ := hx
    have hPx : SqT K H px [.int (i : Int), .ref pq] := st_of hpx
    have hHeld : AHeld es (.ref pq) H := ⟨pq, hv, rfl, hpq, hE⟩
    have hlr := hR.len
    have hgr := List.getElem?_eq_getElem hi
    obtain ⟨y, hy, hY⟩ := hR.get hgr
    generalize rs[i] = r at hgr hY
    obtain ⟨py, ys, rfl, hpy⟩ := hY.tup
    have hPy : SqT K H py (.str r.tag :: ys) := st_of hpy
    have hix : atI rv (i : Int) = some (.ref py) := atI_nat hy
    have hhx : atI (homesV rs rs.length) (i : Int) = some (.int (hm rs i)) := atI_nat (homesV_at hi)
    refine ⟨_, (pss_cons (ps_set (i := 4) sc_l_step.nd rfl (Or.inl rfl) (pe_ix (show IxR _ (rIxT K) from ix_tup) (pv 2) pe_int (fun _ _ => rfl))) (pss_cons (ps_set (i := 5) sc_l_step.nd rfl (Or.inl rfl) (pe_ix (show IxR _ (rIxT K) from ix_tup) (pv 2) pe_int (fun _ _ => rfl))) (pss_cons (ps_set (i := 6) sc_l_step.nd rfl (Or.inl rfl) (pe_ix (show IxR _ (rIxT K) from ix_tup) (pe_ix (show IxR _ (rIxL K) from ix_list) (pv 0) (pv 4) (fun _ _ => rfl)) pe_int (fun _ _ => rfl))) (pss_cons (ps_if (pt_cmpR op_eq (pv 6) pe_str (nomark _)) (pss_one (ps_set (i := 5) sc_l_step.nd rfl (Or.inl rfl) (pe_own h_l_lent (hr.mono (by decide)) (by rfl) (pa_cons (pv 5) (pa_cons (pe_ix (show IxR _ (rIxL K) from ix_list) (pv 0) (pv 4) (fun _ _ => rfl)) pa_nil))))) pss_nil) (pss_cons (ps_if (pt_cmpR op_eq (pv 6) pe_str (nomark _)) (pss_cons (ps_set (i := 7) sc_l_step.nd rfl (Or.inl rfl) (pe_ix (show IxR _ (rIxT K) from ix_tup) (pe_ix (show IxR _ (rIxL K) from ix_list) (pv 0) (pv 4) (fun _ _ => rfl)) pe_int (fun _ _ => rfl))) (pss_one (ps_set (i := 5) sc_l_step.nd rfl (Or.inl rfl) (pe_op (show OpR _ _ (rCatA K) from op_catA) (pv 5) (pe_tup (pa_cons (pe_tup (pa_cons (pe_ix (show IxR _ (rIxT K) from ix_tup) (pe_ix (show IxR _ (rIxL K) from ix_list) (pv 0) (pv 4) (fun _ _ => rfl)) pe_int (fun _ _ => rfl)) (pa_cons pe_str (pa_cons (pe_ix (show IxR _ (rIxT K) from ix_tup) (pv 7) (pe_op op_mod (pv 3) (pe_callB (show CallR _ _ (rLenS K) from call_len_seq) (by rfl) T.len_ (by decide +kernel) (pa_cons (pv 7) pa_nil))) (fun _ _ => rfl)) (pa_cons pe_str (pa_cons pe_bl pa_nil)))))) pa_nil)))))) pss_nil) (pss_cons (ps_if (pt_cmpR op_eq (pv 6) pe_str (nomark _)) (pss_one (ps_set (i := 5) sc_l_step.nd rfl (Or.inl rfl) (pe_own h_l_back (hr.mono (by decide)) (by rfl) (pa_cons (pv 5) (pa_cons (pe_ix (show IxR _ (rIxT K) from ix_tup) (pe_ix (show IxR _ (rIxL K) from ix_list) (pv 0) (pv 4) (fun _ _ => rfl)) pe_int (fun _ _ => rfl)) pa_nil))))) pss_nil) (pss_cons (ps_if (pt_cmpR op_eq (pv 6) pe_str (nomark _)) (pss_cons (ps_set (i := 8) sc_l_step.nd rfl (Or.inl rfl) (pe_own h_l_starts (hr.mono (by decide)) (by rfl) (pa_cons (pv 0) (pa_cons (pv 1) (pa_cons (pv 4) pa_nil))))) (pss_one (ps_ret (pe_tup (pa_cons (pe_ix (show IxR _ (rIxL K) from ix_list) (pv 8) (pe_op op_mod (pv 3) (pe_callB (show CallR _ _ (rLenS K) from call_len_seq) (by rfl) T.len_ (by decide +kernel) (pa_cons (pv 8) pa_nil))) (fun _ _ => rfl)) (pa_cons (pv 5) pa_nil)))))) pss_nil) (pss_cons (ps_if (pt_cmpR op_eq (pv 6) pe_str (nomark _)) (pss_one (ps_ret (pe_tup (pa_cons (pe_own h_l_last (hr.mono (by decide)) (by rfl) (pa_cons (pv 0) (pa_cons (pv 1) (pa_cons (pe_ix (show IxR _ (rIxL K) from ix_list) (pv 1) (pv 4) (fun _ _ => rfl)) pa_nil)))) (pa_cons (pv 5) pa_nil))))) pss_nil) (pss_cons (ps_if (PW.pt (pw_and (pt_cmpR op_eq (pv 6) pe_str (nomark _)) (pw_and1 (pt_cmpR op_eq (pe_op op_mod (pv 3) pe_int) pe_int (nomark _))))) (pss_one (ps_ret (pe_tup (pa_cons (pe_op op_add (pe_own h_l_last (hr.mono (by decide)) (by rfl) (pa_cons (pv 0) (pa_cons (pv 1) (pa_cons (pv 4) pa_nil)))) pe_int) (pa_cons (pv 5) pa_nil))))) pss_nil) (pss_cons (ps_if (PW.pt (pw_and (pt_cmpR op_eq (pv 6) pe_str (nomark _)) (pw_and1 (pt_cmpR op_eq (pe_ix (show IxR _ (rIxT K) from ix_tup) (pe_ix (show IxR _ (rIxL K) from ix_list) (pv 0) (pe_ix (show IxR _ (rIxL K) from ix_list) (pv 1) (pv 4) (fun _ _ => rfl)) (fun _ _ => rfl)) pe_int (fun _ _ => rfl)) pe_str (nomark _))))) (pss_one (ps_ret (pe_tup (pa_cons (pe_ix (show IxR _ (rIxL K) from ix_list) (pv 1) (pv 4) (fun _ _ => rfl)) (pa_cons (pv 5) pa_nil))))) pss_nil) (pss_cons (ps_if (PW.pt (pw_and (pt_cmpR op_eq (pv 6) pe_str (nomark _)) (pw_and1 (pt_cmpR op_ne (pe_ix (show IxR _ (rIxT K) from ix_tup) (pe_ix (show IxR _ (rIxL K) from ix_list) (pv 0) (pe_ix (show IxR _ (rIxL K) from ix_list) (pv 1) (pv 4) (fun _ _ => rfl)) (fun _ _ => rfl)) pe_int (fun _ _ => rfl)) pe_str (nomark _))))) (pss_one (ps_set (i := 5) sc_l_step.nd rfl (Or.inl rfl) (pe_slice sl_tupA (pv 5) po_none (po_some (pe_un un_neg pe_int))))) pss_nil) (pss_one (ps_ret (pe_tup (pa_cons (pe_op op_add (pv 4) pe_int) (pa_cons (pv 5) pa_nil)))))))))))))))), ?_⟩
    show (_ : L2.TS) _ [_, _, _, _, _, _, _, _, _] _
    refine' q_asg (v := .int (i : Int)) ?_ (fun H1 e1 => ?_)
    · walk_at "ev"
    show (_ : L2.TS) _ [_, _, _, _, _, _, _, _, _] _
    refine' q_asg (v := .ref pq) ?_ (fun H2 e2 => ?_)
    · walk_at "ev"
    show (_ : L2.TS) _ [_, _, _, _, _, _, _, _, _] _
    refine' q_asg (v := .str r.tag) ?_ (fun H3 e3 => ?_)
    · walk_at "ev"
    show (_ : L2.TS) _ [_, _, _, _, _, _, _, _, _] _
    have e03 : Ex H H3 := by walk_at "ex"
    have hS3 := ex_l e03 hS
    have hM3 := ex_l e03 hM
    have hR3 := hR.up e03
    have hY3 := hY.up e03
    have hPy3 := ex_t e03 hPy
    have hHeld3 := hHeld.up e03
    have q3 : Ret (AStand (goM rs i es c).1 (goM rs i es c).2) H3 Q := fun v H4 e4 h4 => q v H4 (e03.trans e4) h4
    clear e1 e2 e3 e03 hS hM hR hY hPy hHeld hPx hpx hpq hE q hpy
    unfold goM at q3
    rw [hgr] at q3
    cases r with
    | lend h k s =>
      have okl := ok.lend h k s hgr
      walk_at "hit"
      refine s_asgP (ep_lent (x := .ref pq) (y := .ref py) (h := h) (k := k) (s := s) ?_ (AHeld.up (by walk_at "ex") hHeld3) (IsRow.up (by walk_at "ex") hY3) okl.1 okl.2 (by omega)) (fun v4 H4 e4 hv4 => ?_)
      · walk_at "ev"
      dsimp only
      show (_ : L2.TS) _ [_, _, _, _, _, _, _, _, _] _
      walk_at "skip"
      walk_at "skip"
      walk_at "skip"
      walk_at "skip"
      walk_at "skip2"
      walk_at "skip2"
      walk_at "skip2"
      refine s_retP (ep_stand (i := (i : Int) + 1) ?_ (ep_heldvar rfl (AHeld.up (by walk_at "ex") hv4))) (fun v H9 e9 hv => q3 v H9 (by walk_at "ex") hv)
      walk_at "ev"
    | pick w ts =>
      have hts := ok.pick w ts hgr
      obtain ⟨p', q', hp1, hp2, hq2⟩ := id hY3
      cases hp1
      have hPp : SqT K H3 py [.str "pick", .str w, .ref q'] := st_of hp2
      have hPq : SqT K H3 q' (ts.map V.int) := st_of hq2
      have hidx : atI (ts.map V.int) (c % ((ts.map V.int).length : Int)) = some (.int (ts.getD (c % ts.length).toNat 0)) := by
        rw [List.length_map]
        exact at_ints ts (Int.emod_nonneg _ (by omega)) (Int.emod_lt_of_pos _ (by omega))
      have hposl : (0 : Int) < ((ts.map V.int).length : Int) := by rw [List.length_map]; omega
      walk_at "skip"
      walk_at "hit"
      refine q_asg (v := .ref q') (ev_ixT (ev_ixL (ev_var rfl) (ex_l (by walk_at "ex") hS3) (ev_var rfl) hix) (ex_t (by walk_at "ex") hPp) ev_c rfl) (fun H5 e5 => ?_)
      show (_ : L2.TS) _ [_, _, _, _, _, _, _, _, _] _
      refine s_asgP (ep_catT (es := es) (fs := [⟨w, "pick", ts.getD (c % ts.length).toNat 0, "", true⟩]) (ep_heldvar rfl (AHeld.up (by walk_at "ex") hHeld3)) (ep_one (ep_ent5 (ea_cons (ev_ixT (ev_ixL (ev_var rfl) (ex_l (by walk_at "ex") hS3) (ev_var rfl) hix) (ex_t (by walk_at "ex") hPp) ev_c rfl) (ea_cons ev_c (ea_cons (ev_ixT (ev_var rfl) (ex_t (by walk_at "ex") hPq) (ev_I (ev_var rfl) (ev_lenT (ev_var rfl) (ex_t (by walk_at "ex") hPq)) hposl) hidx) (ea_cons ev_c (ea_cons ev_c ea_nil))))))) (by show es.length + 1 ≤ 100000; omega)) (fun v4 H4 e4 hv4 => ?_)
      dsimp only
      show (_ : L2.TS) _ [_, _, _, _, _, _, _, _, _] _
      walk_at "skip"
      walk_at "skip"
      walk_at "skip"
      walk_at "skip2"
      walk_at "skip2"
      walk_at "skip2"
      refine s_retP (ep_stand (i := (i : Int) + 1) ?_ (ep_heldvar rfl (AHeld.up (by walk_at "ex") hv4))) (fun v H9 e9 hv => q3 v H9 (by walk_at "ex") hv)
      walk_at "ev"
    | back h =>
      obtain ⟨p', hp1, hp2⟩ := id hY3
      cases hp1
      have hPp : SqT K H3 py [.str "back", .str h] := st_of hp2
      walk_at "skip"
      walk_at "skip"
      walk_at "hit"
      refine s_asgP (ep_back (x := .ref pq) (u := h) ?_ (AHeld.up (by walk_at "ex") hHeld3) (by omega)) (fun v4 H4 e4 hv4 => ?_)
      · walk_at "ev"
      dsimp only
      show (_ : L2.TS) _ [_, _, _, _, _, _, _, _, _] _
      walk_at "skip"
      walk_at "skip"
      walk_at "skip2"
      walk_at "skip2"
      walk_at "skip2"
      refine s_retP (ep_stand (i := (i : Int) + 1) ?_ (ep_heldvar rfl (AHeld.up (by walk_at "ex") hv4))) (fun v H9 e9 hv => q3 v H9 (by walk_at "ex") hv)
      walk_at "ev"
    | either =>
      have hbi : atI (brV rs i rs.length) (c % ((brV rs i rs.length).length : Int)) = some (.int ((brI rs i rs.length).getD (c % (brI rs i rs.length).length).toNat 0)) := by
        rw [brV_I, List.length_map]
        exact at_ints _ (Int.emod_nonneg _ (by show ((((_ : List Int).length + 1 : Nat)) : Int) ≠ 0; omega)) (Int.emod_lt_of_pos _ (by show (0 : Int) < (((_ : List Int).length + 1 : Nat) : Int); omega))
      have hposl : (0 : Int) < ((brV rs i rs.length).length : Int) := by unfold brV; rw [List.length_cons]; omega
      walk_at "skip"
      walk_at "skip"
      walk_at "skip"
      walk_at "hit"
      refine q_asgL (xs := brV rs i rs.length) (el_starts (a := a) (hh := hh) (n := i) (rv := rv) (rs := rs) ?_ (ex_l (by walk_at "ex") hS3) (Rows.up (by walk_at "ex") hR3) (ex_l (by walk_at "ex") hM3) hi hlen) (fun ps H5 hps e5 h5 => ?_)
      · walk_at "ev"
      show (_ : L2.TS) _ [_, _, _, _, _, _, _, _, _] _
      refine s_retP (ep_stand (ev_ixL (ev_var rfl) (sq_of h5) (ev_I (ev_var rfl) (ev_len (ev_var rfl) (sq_of h5)) hposl) hbi) (ep_heldvar rfl (AHeld.up (by walk_at "ex") hHeld3))) (fun v H9 e9 hv => q3 v H9 (by walk_at "ex") hv)
    | or =>
      obtain ⟨b, hb⟩ := ok.or hgr
      have hlt := hm_lt (rs := rs) i
      walk_at "skip"
      walk_at "skip"
      walk_at "skip"
      walk_at "skip"
      walk_at "hit"
      rw [hb, Int.toNat_natCast] at q3
      rw [hb] at hhx
      refine s_retP (ep_stand (ev_last (a := a) (hh := hh) (n := b) (rv := rv) (rs := rs) ?_ (ex_l (by walk_at "ex") hS3) (Rows.up (by walk_at "ex") hR3) (ex_l (by walk_at "ex") hM3) (by omega) hlen) (ep_heldvar rfl (AHeld.up (by walk_at "ex") hHeld3))) (fun v H9 e9 hv => q3 v H9 (by walk_at "ex") hv)
      walk_at "ev"
    | again =>
      walk_at "skip"
      walk_at "skip"
      walk_at "skip"
      walk_at "skip"
      walk_at "skip"
      refine' q_when (b := true && decide (V.int (c % 2) = V.int 0)) ?_ (fun hb H9 e9 => ?_) (fun hb H9 e9 => ?_)
      · refine et_and (et_is (et_test (ev_eq (ev_var rfl) ev_c rfl)) rfl) (fun _ => ?_)
        walk_at "ev"
      · have hb := V.int.inj (of_decide_eq_true (by simpa using hb))
        rw [if_pos hb] at q3
        refine s_retP (ep_stand (i := endUp rs i rs.length + 1) (ev_I0 (i := endUp rs i rs.length) (j := 1) (ev_last (a := a) (hh := hh) (n := i) (rv := rv) (rs := rs) ?_ (ex_l (by walk_at "ex") hS3) (Rows.up (by walk_at "ex") hR3) (ex_l (by walk_at "ex") hM3) hi hlen) ev_c) (ep_heldvar rfl (AHeld.up (by walk_at "ex") hHeld3))) (fun v H9 e9 hv => q3 v H9 (by walk_at "ex") hv)
        walk_at "ev"
      · have hb : ¬ c % 2 = 0 := fun z => by
          rw [z] at hb
          cases hb
        rw [if_neg hb] at q3
        walk_at "skip2"
        walk_at "skip2"
        refine s_retP (ep_stand (i := (i : Int) + 1) ?_ (ep_heldvar rfl (AHeld.up (by walk_at "ex") hHeld3))) (fun v H9 e9 hv => q3 v H9 (by walk_at "ex") hv)
        walk_at "ev"
    | fin =>
      obtain ⟨b, t, hp1, hp2, hbi, z, hz, hzo⟩ := hm_fin g hgr rfl
      dsimp only at q3
      rw [hp2, Int.toNat_natCast, show rs.getD b .fin = z by rw [List.getD_eq_getElem?_getD, hz]; rfl] at q3
      rw [hp2] at hhx
      obtain ⟨y2, hy2, hY2⟩ := hR3.get hz
      obtain ⟨pz, zs, rfl, hpz⟩ := hY2.tup
      have hPz : SqT K H3 pz (.str z.tag :: zs) := st_of hpz
      have hizx : atI rv (b : Int) = some (.ref pz) := atI_nat hy2
      have ev_z : ∀ H9, Ex H3 H9 → ∀ σ9 : L2.St, σ9[0]? = some (some (.ref a)) → σ9[1]? = some (some (.ref hh)) → σ9[4]? = some (some (.int (i : Int))) → Ev (tOp (rIxT K) (tOp (rIxL K) (tVar 0) (tOp (rIxL K) (tVar 1) (tVar 4))) (tC (.int 0))) σ9 H9 (.str z.tag) := fun H9 e9 σ9 h0 h1 h4 =>
        ev_ixT (ev_ixL (ev_var h0) (ex_l e9 hS3) (ev_ixL (ev_var h1) (ex_l e9 hM3) (ev_var h4) hhx) hizx) (ex_t e9 hPz) ev_c atI_hd
      walk_at "skip"
      walk_at "skip"
      walk_at "skip"
      walk_at "skip"
      walk_at "skip"
      walk_at "skip2"
      cases hza : z.isAgain with
      | true =>
        have ez : z = .again := by cases z <;> first | rfl | cases hza
        subst ez
        rw [if_pos (show Rw.again.isAgain = true from rfl)] at q3
        refine q_when (b := true) (et_is (et_and (a := true) (b := true) (et_is (et_test (ev_eq (ev_var rfl) ev_c rfl)) rfl) (fun _ => et_is (et_test (ev_eq (ev_z _ (by walk_at "ex") _ rfl rfl rfl) ev_c rfl)) rfl)) rfl) (fun _ H9 e9 => ?_) (fun hb _ _ => by cases hb)
        refine s_retP (ep_stand (ev_ixL (ev_var rfl) (ex_l (by walk_at "ex") hM3) (ev_var rfl) hhx) (ep_heldvar rfl (AHeld.up (by walk_at "ex") hHeld3))) (fun v H9 e9 hv => q3 v H9 (by walk_at "ex") hv)
      | false =>
        have dz : decide (V.str z.tag = V.str "again") = false := by cases z <;> first | rfl | cases hza
        rw [hza, if_neg (by decide)] at q3
        refine q_when (b := false) (et_is (et_and (a := true) (b := false) (et_is (et_test (ev_eq (ev_var rfl) ev_c rfl)) rfl) (fun _ => et_is (et_test (ev_eq (ev_z _ (by walk_at "ex") _ rfl rfl rfl) ev_c rfl)) dz)) rfl) (fun hb _ _ => by cases hb) (fun _ H9 e9 => ?_)
        cases hze : z.isEither with
        | true =>
          have ez : z = .either := by cases z <;> first | rfl | cases hze
          subst ez
          rw [if_pos (show Rw.either.isEither = true from rfl)] at q3
          refine q_when (b := false) (et_is (et_and (a := true) (b := false) (et_is (et_test (ev_eq (ev_var rfl) ev_c rfl)) rfl) (fun _ => et_is (et_test (ev_ne (ev_z _ (by walk_at "ex") _ rfl rfl rfl) ev_c rfl)) rfl)) rfl) (fun hb _ _ => by cases hb) (fun _ Ha ea => ?_)
          refine s_retP (ep_stand (i := (i : Int) + 1) ?_ (ep_heldvar rfl (AHeld.up (by walk_at "ex") hHeld3))) (fun v H9 e9 hv => q3 v H9 (by walk_at "ex") hv)
          walk_at "ev"
        | false =>
          have dz2 : (!decide (V.str z.tag = V.str "either")) = true := by rw [tag_either, hze]; rfl
          rw [hze, if_neg (by decide)] at q3
          refine q_when (b := true) (et_is (et_and (a := true) (b := true) (et_is (et_test (ev_eq (ev_var rfl) ev_c rfl)) rfl) (fun _ => et_is (et_test (ev_ne (ev_z _ (by walk_at "ex") _ rfl rfl rfl) ev_c rfl)) dz2)) rfl) (fun _ Ha ea => ?_) (fun hb _ _ => by cases hb)
          refine s_asgP (ep_dropT (es := es) (ep_heldvar rfl (AHeld.up (by walk_at "ex") hHeld3)) (eo_some ?_)) (fun v4 H4 e4 hv4 => ?_)
          · walk_at "ev"
          dsimp only
          show (_ : L2.TS) _ [_, _, _, _, _, _, _, _, _] _
          refine s_retP (ep_stand (i := (i : Int) + 1) ?_ (ep_heldvar rfl hv4)) (fun v H9 e9 hv => q3 v H9 (by walk_at "ex") hv)
          walk_at "ev"
    | look h =>
      walk_at "skip"
      walk_at "skip"
      walk_at "skip"
      walk_at "skip"
      walk_at "skip"
      walk_at "skip2"
      walk_at "skip2"
      walk_at "skip2"
      refine s_retP (ep_stand (i := (i : Int) + 1) ?_ (ep_heldvar rfl (AHeld.up (by walk_at "ex") hHeld3))) (fun v H9 e9 hv => q3 v H9 (by walk_at "ex") hv)
      walk_at "ev"
    | change h =>
      walk_at "skip"
      walk_at "skip"
      walk_at "skip"
      walk_at "skip"
      walk_at "skip"
      walk_at "skip2"
      walk_at "skip2"
      walk_at "skip2"
      refine s_retP (ep_stand (i := (i : Int) + 1) ?_ (ep_heldvar rfl (AHeld.up (by walk_at "ex") hHeld3))) (fun v H9 e9 hv => q3 v H9 (by walk_at "ex") hv)
      walk_at "ev"
end
end BD
namespace BD
open PySem PySem.Spec PyProof.Rows L2 Evl
/-! ### a sheet is one: words, hands, branches -/
def Fresh (op : List Rw) (w : Str) : Prop := ∀ q ∈ op, q.named = true → q.word ≠ w
def Hand (op : List Rw) (w : Str) (k : Str → Prop) : Prop := ∃ q ∈ op, q.isLend = true ∧ q.word = w ∧ k q.kind
def Meant (op : List Rw) (w : Str) (k : Str) : Prop := ∃ q ∈ op, q.named = true ∧ q.word = w ∧ (k = "write" → q.isLend = true → q.kind = "write")
def OkRow (op : List Rw) : Rw → Prop
  | .lend h k s => Fresh op h ∧ (∀ u, s = .word u → Meant op u k) ∧ (op.filter Rw.isLend).length < 6
  | .pick w ts => Fresh op w ∧ 0 < ts.length ∧ (op.filter Rw.isPick).length < 3
  | .back h => Hand op h fun _ => True
  | .look h => Hand op h fun _ => True
  | .change h => Hand op h fun k => k = "write"
  | .or => op.getLast? = some .either
  | .fin => op ≠ []
  | _ => True
def VR : List Rw → List Rw → List Rw → Prop
  | op, [], op' => op = op'
  | op, r :: rs, op' => OkRow op r ∧ VR (opUpd op r) rs op'
theorem VR.app : ∀ {xs ys : List Rw} {op op1 op2 : List Rw}, VR op xs op1 → VR op1 ys op2 → VR op (xs ++ ys) op2
  | [], _, _, _, _, h, h2 => by
    cases h
    exact h2
  | _ :: _, _, _, _, _, h, h2 => ⟨h.1, VR.app h.2 h2⟩
/-! words at different depths differ -/
theorem mkS_inj {a b : List Nat} (h : mkS a = mkS b) : a = b := by
  have := congrArg (fun s : Str => s.cps.toList) h
  exact this
theorem word_ne {one two one' two' j j' : Int} {d : Draw} (ok : d.Ok) (h0 : 0 ≤ j) (h1 : j < 26) (h2 : 0 ≤ j') (h3 : j' < 26) (hne : j ≠ j') : wordM one two j d ≠ wordM one' two' j' d := by
  obtain ⟨st0, st4, sz1, sz12, pl0, pl1, sg0, sg26⟩ := ok
  intro h
  unfold wordM at h
  split at h
  · rw [mul_word (by omega), mul_word (by omega)] at h
    have := congrArg List.length (mkS_inj h)
    rw [List.length_replicate, List.length_replicate] at this
    omega
  · have hl := mkS_inj h
    have hp : d.place.toNat < d.size.toNat := by omega
    have e1 := congrArg (fun l : List Nat => l[d.place.toNat]?) hl
    simp only [List.getElem?_map, List.getElem?_range hp, Option.map_some, Option.some.injEq] at e1
    unfold chM at e1
    rw [if_pos (by omega), if_pos (by omega)] at e1
    omega
theorem wordM_ne_empty {one two j : Int} {d : Draw} (ok : d.Ok) (h0 : 0 ≤ j) (h1 : j ≤ 11) : wordM one two j d ≠ "" := by
  obtain ⟨l, hl, h2, _⟩ := wordM_s (one := one) (two := two) ok h0 h1
  rw [hl]
  intro h
  have e : (mkS l).length = ("" : Str).length := by rw [h]
  rw [mkS_len] at e
  have : ("" : Str).length = 0 := by decide +kernel
  omega
/-- the words of what is open: the j-th named one has a word of depth j -/
def WordsAt (d : Draw) (op : List Rw) : Prop := ∀ (j : Nat) (r : Rw), (op.filter Rw.named)[j]? = some r → ∃ one two, r.word = wordM one two (j : Int) d
theorem fresh_of {d : Draw} (ok : d.Ok) {op : List Rw} (h : WordsAt d op) (hl : (op.filter Rw.named).length ≤ 20) {one two deep : Int} (h0 : ((op.filter Rw.named).length : Int) ≤ deep) (h1 : deep < 26) : Fresh op (wordM one two deep d) := fun q hq hn => by
  have hm : q ∈ op.filter Rw.named := List.mem_filter.mpr ⟨hq, hn⟩
  obtain ⟨j, hj⟩ := List.getElem?_of_mem hm
  obtain ⟨o, t, e⟩ := h j q hj
  have hlt := (List.getElem?_eq_some_iff.mp hj).1
  rw [e]
  exact word_ne ok (by omega) (by omega) (by omega) h1 (by omega)
theorem wordsAt_push {d : Draw} {op : List Rw} {r : Rw} (h : WordsAt d op) (hr : r.named = true → ∃ one two, r.word = wordM one two ((op.filter Rw.named).length : Int) d) : WordsAt d (op ++ [r]) := fun j q hq => by
  rw [List.filter_append] at hq
  by_cases hj : j < (op.filter Rw.named).length
  · rw [List.getElem?_append_left hj] at hq
    exact h j q hq
  · rw [List.getElem?_append_right (by omega)] at hq
    cases hn : r.named with
    | true =>
      rw [List.filter_cons, if_pos hn] at hq
      have hlt := (List.getElem?_eq_some_iff.mp hq).1
      have ej : j - (op.filter Rw.named).length = 0 := by
        have : ([r] : List Rw).length = 1 := rfl
        have h5 : j - (op.filter Rw.named).length < 1 := hlt
        omega
      rw [ej] at hq
      have eq : r = q := Option.some.inj hq
      subst eq
      obtain ⟨o, t, e⟩ := hr hn
      exact ⟨o, t, by rw [e, show (j : Int) = ((op.filter Rw.named).length : Int) by omega]⟩
    | false =>
      rw [List.filter_cons, if_neg (by rw [hn]; decide)] at hq
      cases hq
theorem wordsAt_drop {d : Draw} {op : List Rw} (h : WordsAt d op) : WordsAt d op.dropLast := by
  cases hop : op.reverse with
  | nil =>
    have e : op = [] := List.reverse_eq_nil_iff.mp hop
    subst e
    exact h
  | cons a t =>
    have e : op = t.reverse ++ [a] := by
      have := congrArg List.reverse hop
      rw [List.reverse_reverse, List.reverse_cons] at this
      exact this
    subst e
    rw [List.dropLast_concat]
    intro j r hj
    refine h j r ?_
    rw [List.filter_append, List.getElem?_append_left (List.getElem?_eq_some_iff.mp hj).1]
    exact hj
theorem wordsAt_upd {d : Draw} {op : List Rw} {r : Rw} (h : WordsAt d op) (hr : r.named = true → ∃ one two, r.word = wordM one two ((op.filter Rw.named).length : Int) d) : WordsAt d (opUpd op r) := by
  unfold opUpd
  split
  · exact wordsAt_push h hr
  split
  · exact wordsAt_drop h
  · exact h
theorem lendM_word (one two : Int) (named : List Rw) (d : Draw) : (lendM one two named d).word = wordM one two named.length d := by
  unfold lendM
  split <;> rfl
theorem rowM_word {op : List Rw} {way one two : Int} {d : Draw} (hn : (rowM way one two op d).named = true) : ∃ o t, (rowM way one two op d).word = wordM o t ((op.filter Rw.named).length : Int) d := by
  have hd : (deedM one two ((op.filter Rw.named).filter Rw.isLend)).named = false := by
    have := deedM_not one two ((op.filter Rw.named).filter Rw.isLend)
    generalize deedM one two ((op.filter Rw.named).filter Rw.isLend) = r at *
    cases r <;> simp_all [Rw.opens, Rw.named, Rw.isFin]
  unfold rowM rowN at hn ⊢
  split at hn
  · rename_i h; rw [if_pos h]; exact ⟨one, two, lendM_word _ _ _ _⟩
  rename_i h; rw [if_neg h]
  split at hn
  · rename_i h; rw [if_pos h]; exact ⟨one, two, rfl⟩
  rename_i h; rw [if_neg h]
  split at hn
  · cases hn
  split at hn
  · cases hn
  split at hn
  · cases hn
  split at hn
  · rw [hd] at hn; cases hn
  split at hn
  · cases hn
  rename_i h1 h2 h3 h4 h5
  rw [if_neg h1, if_neg h2, if_neg h3, if_neg h4, if_neg h5]
  exact ⟨one, two, lendM_word _ _ _ _⟩
end BD
namespace BD
open PySem PySem.Spec PyProof.Rows L2 Evl
/-! ### each drawn sheet is one -/
theorem kind_write {x : Int} : kindM x = "write" → True := fun _ => trivial
theorem read_ne_write : ¬ (("read" : Str) = "write") := by decide +kernel
/-- a lend of the law's -/
theorem lendM_ok {one two : Int} {op : List Rw} {d : Draw} (ok : d.Ok) (hw : WordsAt d op) (hf : Few op) (hk : ∀ r ∈ op, RowS r) (h6 : (op.filter Rw.isLend).length < 6) : OkRow op (lendM one two (op.filter Rw.named) d) := by
  have hn := hf.named
  have hfr : Fresh op (wordM one two ((op.filter Rw.named).length : Int) d) := fresh_of ok hw (by omega) (Int.le_refl _) (by omega)
  unfold lendM
  split
  · rename_i h
    have hm : (op.filter Rw.named).getD (two % (op.filter Rw.named).length).toNat .fin ∈ op.filter Rw.named := getD_mem (by
      have := Int.emod_lt_of_pos two h.2
      have := Int.emod_nonneg two (show ((op.filter Rw.named).length : Int) ≠ 0 by omega)
      omega)
    generalize (op.filter Rw.named).getD (two % (op.filter Rw.named).length).toNat .fin = q at *
    have hq := List.mem_filter.mp hm
    refine ⟨hfr, fun u hu => ?_, h6⟩
    cases hu
    refine ⟨q, hq.1, hq.2, rfl, fun hkw hl => ?_⟩
    split at hkw
    · exact absurd hkw read_ne_write
    · rename_i h2
      have hs := hk q hq.1
      cases q with
      | lend a b c =>
        rcases hs.2.1 with hb | hb
        · exact absurd ⟨rfl, hb⟩ h2
        · exact hb
      | _ => cases hl
  · exact ⟨hfr, fun u hu => (by cases hu), h6⟩
theorem deedM_ok {one two : Int} {op hands : List Rw} (hh : hands = (op.filter Rw.named).filter Rw.isLend) (hk : ∀ r ∈ op, RowS r) (hl : 0 < hands.length) : OkRow op (deedM one two hands) := by
  have hm : hands.getD (two % hands.length).toNat .fin ∈ hands := getD_mem (by
    have := Int.emod_lt_of_pos two (show (0 : Int) < hands.length by omega)
    have := Int.emod_nonneg two (show (hands.length : Int) ≠ 0 by omega)
    omega)
  unfold deedM
  generalize hands.getD (two % hands.length).toNat .fin = q at *
  rw [hh] at hm
  have hq2 := List.mem_filter.mp hm
  have hq := List.mem_filter.mp hq2.1
  split
  · exact ⟨q, hq.1, hq2.2, rfl, trivial⟩
  split
  · exact ⟨q, hq.1, hq2.2, rfl, trivial⟩
  split
  · exact ⟨q, hq.1, hq2.2, rfl, trivial⟩
  · rename_i h
    refine ⟨q, hq.1, hq2.2, rfl, ?_⟩
    have hs := hk q hq.1
    have hl2 := hq2.2
    cases q with
    | lend a b c =>
      rcases hs.2.1 with hb | hb
      · exact absurd hb h
      · exact hb
    | _ => cases hl2
theorem getLast_getD {op : List Rw} (h : 0 < op.length) : op.getLast? = some (op.getD (op.length - 1) .fin) := by
  rw [List.getLast?_eq_getElem?, List.getD_eq_getElem?_getD, List.getElem?_eq_getElem (by omega)]
  rfl
theorem rowM_ok {way one two : Int} {op : List Rw} {d : Draw} (ok : d.Ok) (hw : WordsAt d op) (hf : Few op) (hk : ∀ r ∈ op, RowS r) : OkRow op (rowM way one two op d) := by
  have hn := hf.named
  have hnl := named_len op
  unfold rowM
  have hll : ((op.filter Rw.named).filter Rw.isLend).length = (op.filter Rw.isLend).length := by rw [lend_of_named]
  unfold rowN
  split
  · rename_i h
    exact lendM_ok ok hw hf hk (by omega)
  split
  · rename_i h
    refine ⟨fresh_of ok hw (by omega) (Int.le_refl _) (by omega), ?_, by omega⟩
    rw [List.length_map, List.length_range]
    omega
  split
  · trivial
  split
  · trivial
  split
  · rename_i h
    show op.getLast? = some .either
    rw [getLast_getD (by omega)]
    have h2 := h.2.2
    generalize op.getD (op.length - 1) .fin = q at *
    cases q <;> first | rfl | cases h2
  split
  · rename_i h
    exact deedM_ok rfl hk (by omega)
  split
  · rename_i h
    intro z
    rw [z] at h
    exact absurd h (by decide)
  · rename_i h
    refine lendM_ok ok hw hf hk ?_
    cases op with
    | nil => decide
    | cons a b => exact absurd (by show (0 : Int) < ((b.length + 1 : Nat) : Int); omega) h
/-! a gadget -/
theorem fresh_app {op : List Rw} {r : Rw} {w : Str} (h : Fresh op w) (hr : r.named = true → r.word ≠ w) : Fresh (op ++ [r]) w := fun q hq hn => by
  rcases List.mem_append.mp hq with hq | hq
  · exact h q hq hn
  · rcases List.mem_singleton.mp hq with rfl
    exact hr hn
theorem hand_last {op : List Rw} {h k : Str} {s : Src} {p : Str → Prop} (hp : p k) : Hand (op ++ [.lend h k s]) h p := ⟨_, List.mem_append.mpr (.inr List.mem_cons_self), rfl, rfl, hp⟩
theorem hand_app {op : List Rw} {r : Rw} {w : Str} {p : Str → Prop} (h : Hand op w p) : Hand (op ++ [r]) w p := by
  obtain ⟨q, h1, h2⟩ := h
  exact ⟨q, List.mem_append.mpr (.inl h1), h2⟩
theorem meant_last {op : List Rw} {r : Rw} {k : Str} (hn : r.named = true) (hk : k = "write" → r.isLend = true → r.kind = "write") : Meant (op ++ [r]) r.word k := ⟨r, List.mem_append.mpr (.inr List.mem_cons_self), hn, rfl, hk⟩
theorem meant_app {op : List Rw} {r : Rw} {w k : Str} (h : Meant op w k) : Meant (op ++ [r]) w k := by
  obtain ⟨q, h1, h2⟩ := h
  exact ⟨q, List.mem_append.mpr (.inl h1), h2⟩
theorem lends_app (op : List Rw) (r : Rw) : ((op ++ [r]).filter Rw.isLend).length = (op.filter Rw.isLend).length + (if r.isLend = true then 1 else 0) := by
  rw [List.filter_append, List.length_append, List.filter_cons]
  split <;> rfl
theorem picks_app (op : List Rw) (r : Rw) : ((op ++ [r]).filter Rw.isPick).length = (op.filter Rw.isPick).length + (if r.isPick = true then 1 else 0) := by
  rw [List.filter_append, List.length_append, List.filter_cons]
  split <;> rfl
theorem VR.lendT {op op' rs : List Rw} {h k : Str} {n : Int} (f : Fresh op h) (l : (op.filter Rw.isLend).length < 6) (t : VR (op ++ [.lend h k (.thing n)]) rs op') : VR op (.lend h k (.thing n) :: rs) op' := ⟨⟨f, fun u hu => (by cases hu), l⟩, t⟩
theorem VR.lendW {op op' rs : List Rw} {h k u : Str} (f : Fresh op h) (m : Meant op u k) (l : (op.filter Rw.isLend).length < 6) (t : VR (op ++ [.lend h k (.word u)]) rs op') : VR op (.lend h k (.word u) :: rs) op' := ⟨⟨f, fun v hv => (by cases hv; exact m), l⟩, t⟩
theorem VR.pickR {op op' rs : List Rw} {w : Str} {ts : List Int} (f : Fresh op w) (p : 0 < ts.length) (l : (op.filter Rw.isPick).length < 3) (t : VR (op ++ [.pick w ts]) rs op') : VR op (.pick w ts :: rs) op' := ⟨⟨f, p, l⟩, t⟩
theorem VR.againR {op op' rs : List Rw} (t : VR (op ++ [.again]) rs op') : VR op (.again :: rs) op' := ⟨trivial, t⟩
theorem VR.eitherR {op op' rs : List Rw} (t : VR (op ++ [.either]) rs op') : VR op (.either :: rs) op' := ⟨trivial, t⟩
theorem VR.lookR {op op' rs : List Rw} {h : Str} (a : Hand op h fun _ => True) (t : VR op rs op') : VR op (.look h :: rs) op' := ⟨a, t⟩
theorem VR.backR {op op' rs : List Rw} {h : Str} (a : Hand op h fun _ => True) (t : VR op rs op') : VR op (.back h :: rs) op' := ⟨a, t⟩
theorem VR.orR {op op' rs : List Rw} (t : VR (op ++ [.either]) rs op') : VR (op ++ [.either]) (.or :: rs) op' := ⟨by show (op ++ [Rw.either]).getLast? = _; rw [List.getLast?_concat], t⟩
theorem VR.finR {op op' rs : List Rw} {r : Rw} (t : VR op rs op') : VR (op ++ [r]) (.fin :: rs) op' := ⟨(by show op ++ [r] ≠ []; simp), by
  show VR (opUpd (op ++ [r]) .fin) rs op'
  have e : opUpd (op ++ [r]) .fin = op := by
    unfold opUpd
    rw [if_neg (by decide), if_pos (show Rw.fin.isFin = true from rfl), List.dropLast_concat]
  rw [e]
  exact t⟩
theorem VR.nilR {op : List Rw} : VR op [] op := rfl
theorem gad_vr {op : List Rw} {one two t : Int} {a b c : Str} (fa : Fresh op a) (fb : Fresh op b) (fc : Fresh op c) (ab : a ≠ b) (ac : a ≠ c) (bc : b ≠ c) (hl : (op.filter Rw.isLend).length ≤ 2) (hp : (op.filter Rw.isPick).length ≤ 2) : VR op (gadA one two a b c t) op := by
  have ww : ∀ {k : Str}, k = "write" → ("write" : Str) = "write" := fun _ => rfl
  unfold gadA
  split
  · unfold fourM
    split
    · exact VR.lendT fa (by first | omega | (simp only [lends_app, Rw.isLend, if_true, if_false, Bool.false_eq_true]; omega)) (VR.againR (VR.lookR (hand_app (hand_last trivial)) (VR.backR (hand_app (hand_last trivial)) (VR.finR (VR.finR VR.nilR)))))
    split
    · exact VR.lendT fa (by first | omega | (simp only [lends_app, Rw.isLend, if_true, if_false, Bool.false_eq_true]; omega)) (VR.eitherR (VR.backR (hand_app (hand_last trivial)) (VR.orR (VR.lookR (hand_app (hand_last trivial)) (VR.finR (VR.lookR (hand_last trivial) (VR.finR VR.nilR)))))))
    split
    · refine VR.lendT fa (by first | omega | (simp only [lends_app, Rw.isLend, if_true, if_false, Bool.false_eq_true]; omega)) (VR.lendW (fresh_app fb fun _ => ab) (meant_last (r := .lend a "write" (.thing t)) rfl fun _ _ => rfl) (by first | omega | (simp only [lends_app, Rw.isLend, if_true, if_false, Bool.false_eq_true]; omega)) (VR.lendW (fresh_app (fresh_app fc fun _ => ac) fun _ => bc) (meant_last (r := .lend b "write" (.word a)) rfl fun _ _ => rfl) (by first | omega | (simp only [lends_app, Rw.isLend, if_true, if_false, Bool.false_eq_true]; omega)) (VR.backR ?_ (VR.lookR ?_ (VR.finR (VR.finR (VR.finR VR.nilR)))))))
      · exact pick3_s (p := fun w => Hand _ w _) two (hand_app (hand_app (hand_last trivial))) (hand_app (hand_last trivial)) (hand_app (hand_app (hand_last trivial)))
      · exact pick3_s (p := fun w => Hand _ w _) one (hand_last trivial) (hand_last trivial) (hand_app (hand_last trivial))
    · exact VR.lendT fa (by first | omega | (simp only [lends_app, Rw.isLend, if_true, if_false, Bool.false_eq_true]; omega)) (VR.lendW (fresh_app fb fun _ => ab) (meant_last (r := .lend a "write" (.thing t)) rfl fun _ _ => rfl) (by first | omega | (simp only [lends_app, Rw.isLend, if_true, if_false, Bool.false_eq_true]; omega)) (VR.lendT (fresh_app (fresh_app fc fun _ => ac) fun _ => bc) (by first | omega | (simp only [lends_app, Rw.isLend, if_true, if_false, Bool.false_eq_true]; omega)) (VR.againR (VR.backR (hand_app (hand_app (hand_last trivial))) (VR.finR (VR.finR (VR.finR (VR.finR VR.nilR))))))))
  split
  · exact VR.pickR fc (by show 0 < 5; decide) (by first | omega | (simp only [picks_app, Rw.isPick, if_true, if_false, Bool.false_eq_true]; omega)) (VR.lendT (fresh_app fa fun _ => ac.symm) (by first | omega | (simp only [lends_app, Rw.isLend, if_true, if_false, Bool.false_eq_true]; omega)) (VR.lendW (fresh_app (fresh_app fb fun _ => bc.symm) fun _ => ab) (meant_app (meant_last (r := .pick c _) rfl fun _ z => (by cases z))) (by first | omega | (simp only [lends_app, Rw.isLend, if_true, if_false, Bool.false_eq_true]; omega)) (VR.finR (VR.finR (VR.finR VR.nilR)))))
  split
  · refine VR.lendT fa (by first | omega | (simp only [lends_app, Rw.isLend, if_true, if_false, Bool.false_eq_true]; omega)) (VR.lendW (fresh_app fb fun _ => ab) (meant_last (r := .lend a "write" (.thing t)) rfl fun _ _ => rfl) (by first | omega | (simp only [lends_app, Rw.isLend, if_true, if_false, Bool.false_eq_true]; omega)) (VR.eitherR (VR.backR ?_ (VR.orR (VR.lookR (hand_app (hand_last trivial)) (VR.finR (VR.lookR (hand_app (hand_last trivial)) (VR.finR (VR.finR VR.nilR)))))))))
    exact pick2_s (p := fun w => Hand _ w _) two (hand_app (hand_app (hand_last trivial))) (hand_app (hand_last trivial))
  split
  · exact VR.lendT fa (by first | omega | (simp only [lends_app, Rw.isLend, if_true, if_false, Bool.false_eq_true]; omega)) (VR.lendT (fresh_app fb fun _ => ab) (by first | omega | (simp only [lends_app, Rw.isLend, if_true, if_false, Bool.false_eq_true]; omega)) (VR.lendT (fresh_app (fresh_app fc fun _ => ac) fun _ => bc) (by first | omega | (simp only [lends_app, Rw.isLend, if_true, if_false, Bool.false_eq_true]; omega)) (VR.lookR (hand_app (hand_last trivial)) (VR.finR (VR.finR (VR.finR VR.nilR))))))
  split
  · exact VR.lendT fa (by first | omega | (simp only [lends_app, Rw.isLend, if_true, if_false, Bool.false_eq_true]; omega)) (VR.backR (hand_last trivial) (VR.lendW (fresh_app fb fun _ => ab) (meant_last (r := .lend a "write" (.thing t)) rfl fun _ _ => rfl) (by first | omega | (simp only [lends_app, Rw.isLend, if_true, if_false, Bool.false_eq_true]; omega)) (VR.lookR (hand_last trivial) (VR.finR (VR.finR VR.nilR)))))
  · exact VR.pickR fc (by show 0 < 2; decide) (by first | omega | (simp only [picks_app, Rw.isPick, if_true, if_false, Bool.false_eq_true]; omega)) (VR.lendT (fresh_app fa fun _ => ac.symm) (by first | omega | (simp only [lends_app, Rw.isLend, if_true, if_false, Bool.false_eq_true]; omega)) (VR.eitherR (VR.backR (hand_app (hand_last trivial)) (VR.orR (VR.finR (VR.lendW (fresh_app (fresh_app fb fun _ => bc.symm) fun _ => ab) (meant_app (meant_last (r := .pick c _) rfl fun _ z => (by cases z))) (by first | omega | (simp only [lends_app, Rw.isLend, if_true, if_false, Bool.false_eq_true]; omega)) (VR.lookR (hand_app (hand_last trivial)) (VR.finR (VR.finR (VR.finR VR.nilR))))))))))
theorem wordsAt_st {cells : List Int} {d : Draw} {most : Int} {odd : Bool} : ∀ i, WordsAt d (sheetSt cells d most odd i).2
  | 0 => fun j r h => by cases h
  | i + 1 => by
    have ih := wordsAt_st (cells := cells) (d := d) (most := most) (odd := odd) i
    unfold sheetSt stepM
    split
    · exact ih
    · exact wordsAt_upd ih rowM_word
theorem vr_st {cells : List Int} {d : Draw} {most : Int} {odd : Bool} (ok : d.Ok) : ∀ i, VR [] (sheetSt cells d most odd i).1 (sheetSt cells d most odd i).2
  | 0 => rfl
  | i + 1 => by
    have ih := vr_st (cells := cells) (most := most) (odd := odd) ok i
    have hw := wordsAt_st (cells := cells) (d := d) (most := most) (odd := odd) i
    have hf := few_st cells d most odd i
    have hs := (st_s (cells := cells) (most := most) (odd := odd) ok i).2
    have hn := hf.named
    have hnl := named_len (sheetSt cells d most odd i).2
    unfold sheetSt stepM
    split
    · rename_i h
      refine VR.app ih ?_
      exact gad_vr (fresh_of ok hw (by omega) (Int.le_refl _) (by omega)) (fresh_of ok hw (by omega) (by omega) (by omega)) (fresh_of ok hw (by omega) (by omega) (by omega))
        (word_ne ok (by omega) (by omega) (by omega) (by omega) (by omega)) (word_ne ok (by omega) (by omega) (by omega) (by omega) (by omega)) (word_ne ok (by omega) (by omega) (by omega) (by omega) (by omega)) (by omega) (by omega)
    · exact VR.app ih ⟨rowM_ok ok hw hf hs, rfl⟩
theorem vr_fins : ∀ (n : Nat) (op : List Rw), op.length = n → VR op ((List.range n).map fun _ => Rw.fin) []
  | 0, op, h => List.length_eq_zero_iff.mp h
  | n + 1, op, h => by
    have hne : op ≠ [] := fun z => by rw [z] at h; cases h
    rw [List.range_succ_eq_map, List.map_cons, List.map_map]
    rw [← List.dropLast_concat_getLast hne]
    exact VR.finR (vr_fins n op.dropLast (by rw [List.length_dropLast]; omega))
theorem vr_drawn (ns : List Int) (most : Int) : VR [] (drawnM ns most) [] := by
  have h : VR [] (baseM ns most) [] := by
    have := vr_st (cells := cellsM ns most) (most := mostM (wayM ns)) (odd := decide (3 < wayM ns)) (drawM_ok ns) ((cellsM ns most).length / 3)
    exact VR.app this (vr_fins _ _ rfl)
  unfold drawnM
  split
  · exact VR.app (VR.app (VR.app h h) h) h
  · exact h
end BD
namespace BD
open PySem PySem.Spec PyProof.Rows L2 Evl
/-! ### the stack by rows -/
def opL (rs : List Rw) : Nat → List Rw
  | 0 => []
  | i + 1 => match rs[i]? with
    | some r => opUpd (opL rs i) r
    | none => opL rs i
theorem opL_next {rs : List Rw} {i : Nat} {r : Rw} (h : rs[i]? = some r) : opL rs (i + 1) = opUpd (opL rs i) r := by
  show (match rs[i]? with
    | some r => opUpd (opL rs i) r
    | none => opL rs i) = _
  rw [h]
theorem vr_at {op' : List Rw} : ∀ {rs : List Rw} {op : List Rw}, VR op rs op' → ∀ (i : Nat) (r : Rw), rs[i]? = some r → ∃ opi, OkRow opi r ∧ VR (opUpd opi r) (rs.drop (i + 1)) op' ∧ (i = 0 → opi = op)
  | [], _, _, i, r, h => by simp at h
  | a :: rs, op, hv, 0, r, h => by
    have e : a = r := Option.some.inj h
    subst e
    exact ⟨op, hv.1, hv.2, fun _ => rfl⟩
  | a :: rs, op, hv, i + 1, r, h => by
    obtain ⟨opi, h1, h2, _⟩ := vr_at hv.2 i r h
    exact ⟨opi, h1, h2, fun z => by cases z⟩
theorem vr_opL {rs op' : List Rw} (hv : VR [] rs op') : ∀ i, i ≤ rs.length → VR (opL rs i) (rs.drop i) op'
  | 0, _ => hv
  | i + 1, h => by
    have hlt : i < rs.length := h
    have ih := vr_opL hv i (by omega)
    rw [List.drop_eq_getElem_cons hlt] at ih
    rw [opL_next (List.getElem?_eq_getElem hlt)]
    exact ih.2
theorem vr_ok {rs op' : List Rw} (hv : VR [] rs op') {i : Nat} {r : Rw} (h : rs[i]? = some r) : OkRow (opL rs i) r := by
  have hlt := (List.getElem?_eq_some_iff.mp h).1
  have ih := vr_opL hv i (by omega)
  rw [List.drop_eq_getElem_cons hlt, (List.getElem?_eq_some_iff.mp h).2] at ih
  exact ih.1
theorem vr_last {rs op' : List Rw} (hv : VR [] rs op') : opL rs rs.length = op' := by
  have := vr_opL hv rs.length (Nat.le_refl _)
  rw [List.drop_length] at this
  exact this
theorem opL_pr {rs : List Rw} (g : Good rs) : ∀ i, i ≤ rs.length → opL rs i = (pr rs i).reverse.map fun j => rs.getD j .fin
  | 0, _ => rfl
  | i + 1, h => by
    have hlt : i < rs.length := h
    have hg := List.getElem?_eq_getElem hlt
    have ih := opL_pr g i (by omega)
    rw [opL_next hg, pr_next hg, ih]
    unfold opUpd
    split
    · rw [List.reverse_cons, List.map_append]
      congr 1
      show [rs[i]] = [rs.getD i .fin]
      rw [List.getD_eq_getElem?_getD, hg]
      rfl
    split
    · rename_i h1 h2
      cases hp : pr rs i with
      | nil => exact absurd hp (g.fin i _ hg h2)
      | cons a t =>
        rw [List.reverse_cons, List.map_append]
        show (_ ++ [_]).dropLast = _
        rw [List.dropLast_concat]
        rfl
    · rfl
/-! ### where a block ends -/
theorem pr_suffix {rs : List Rw} {i : Nat} : ∀ p, i ∈ pr rs p → ∃ l, pr rs p = l ++ i :: pr rs i
  | 0, h => by cases h
  | p + 1, h => by
    cases hg : rs[p]? with
    | none =>
      have e : pr rs (p + 1) = pr rs p := by
        show (match rs[p]? with
          | some r => if r.opens = true then p :: pr rs p else if r.isFin = true then (pr rs p).tail else pr rs p
          | none => pr rs p) = _
        rw [hg]
      rw [e] at h ⊢
      exact pr_suffix p h
    | some r =>
      rw [pr_next hg] at h ⊢
      split
      · rename_i ho
        rw [if_pos ho] at h
        rcases List.mem_cons.mp h with h | h
        · subst h
          exact ⟨[], rfl⟩
        · obtain ⟨l, hl⟩ := pr_suffix p h
          exact ⟨p :: l, by rw [hl]; rfl⟩
      · rename_i ho
        rw [if_neg ho] at h
        split
        · rename_i hf
          rw [if_pos hf] at h
          obtain ⟨l, hl⟩ := pr_suffix p (List.mem_of_mem_tail h)
          cases l with
          | nil =>
            rw [hl] at h
            have h2 : i ∈ pr rs i := h
            have := (pr_mem i i h2).1
            omega
          | cons a l => exact ⟨l, by rw [hl]; rfl⟩
        · rename_i hf
          rw [if_neg hf] at h
          exact pr_suffix p h
theorem leaves {rs : List Rw} {i : Nat} : ∀ (k p : Nat), p + k = rs.length → i ∈ pr rs p → i ∉ pr rs rs.length → ∃ e, p ≤ e ∧ e < rs.length ∧ i ∈ pr rs e ∧ i ∉ pr rs (e + 1)
  | 0, p, hk, h, hn => by
    rw [← hk] at hn
    exact absurd h hn
  | k + 1, p, hk, h, hn => by
    by_cases h2 : i ∈ pr rs (p + 1)
    · obtain ⟨e, h3, h4, h5, h6⟩ := leaves k (p + 1) (by omega) h2 hn
      exact ⟨e, by omega, h4, h5, h6⟩
    · exact ⟨p, Nat.le_refl _, by omega, h, h2⟩
structure EndOf (rs : List Rw) (i e : Nat) : Prop where
  gt : i < e
  lt : e < rs.length
  fin : ∃ r, rs[e]? = some r ∧ r.isFin = true
  st : pr rs e = i :: pr rs i
  up : endUp rs i rs.length = (e : Int)
theorem end_of {rs : List Rw} (g : Good rs) {i : Nat} {r : Rw} (h : rs[i]? = some r) (ho : r.opens = true) : ∃ e, EndOf rs i e := by
  have hil := (List.getElem?_eq_some_iff.mp h).1
  have h1 : i ∈ pr rs (i + 1) := by
    rw [pr_next h, if_pos ho]
    exact List.mem_cons_self
  have hn : i ∉ pr rs rs.length := by
    rw [g.last]
    exact fun z => by cases z
  obtain ⟨e, h2, h3, h4, h5⟩ := leaves (rs.length - (i + 1)) (i + 1) (by omega) h1 hn
  have hg := List.getElem?_eq_getElem h3
  rw [pr_next hg] at h5
  have hno : ¬ rs[e].opens = true := fun z => by
    rw [if_pos z] at h5
    exact h5 (List.mem_cons_of_mem _ h4)
  rw [if_neg hno] at h5
  have hf : rs[e].isFin = true := by
    cases hf : rs[e].isFin with
    | true => rfl
    | false =>
      rw [hf, if_neg (by decide)] at h5
      exact absurd h4 h5
  rw [if_pos hf] at h5
  obtain ⟨l, hl⟩ := pr_suffix e h4
  cases l with
  | cons a l =>
    rw [hl] at h5
    exact absurd (List.mem_append.mpr (.inr List.mem_cons_self)) h5
  | nil =>
    have hst : pr rs e = i :: pr rs i := hl
    have hhm : hm rs e = (i : Int) := by unfold hm; rw [hst]
    exact ⟨e, by omega, h3, ⟨_, hg, hf⟩, hst, endUp_stay (by rw [finF_at hg, hf, hhm, decide_eq_true rfl]; rfl) (first_end g hg hst) rs.length h3⟩
/-- an end's own opener -/
theorem end_at {rs : List Rw} (g : Good rs) {e : Nat} {r : Rw} (h : rs[e]? = some r) (hf : r.isFin = true) : ∃ (i : Nat) (q : Rw), rs[i]? = some q ∧ q.opens = true ∧ hm rs e = (i : Int) ∧ EndOf rs i e := by
  obtain ⟨i, t, h1, h2, h3, q, hq, ho⟩ := hm_fin g h hf
  have hel := (List.getElem?_eq_some_iff.mp h).1
  have hm' : i ∈ pr rs e := by rw [h1]; exact List.mem_cons_self
  obtain ⟨l, hl⟩ := pr_suffix e hm'
  have hst : pr rs e = i :: pr rs i := by
    cases l with
    | nil => exact hl
    | cons a l =>
      rw [h1] at hl
      have hnd := pr_nodup (rs := rs) e
      rw [h1] at hnd
      injection hl with ha hb
      rw [hb] at hnd
      exact absurd (List.mem_append.mpr (.inr List.mem_cons_self)) (List.nodup_cons.mp hnd).1
  exact ⟨i, q, hq, ho, h2, h3, hel, ⟨r, h, hf⟩, hst, endUp_stay (by rw [finF_at h, hf, h2, decide_eq_true rfl]; rfl) (first_end g h hst) rs.length hel⟩
theorem EndOf.next {rs : List Rw} {i e : Nat} (h : EndOf rs i e) : pr rs (e + 1) = pr rs i := by
  obtain ⟨r, h1, h2⟩ := h.fin
  have ho : r.opens = false := by cases r <;> first | rfl | cases h2
  rw [pr_next h1, if_neg (by rw [ho]; decide), if_pos h2, h.st]
  rfl
theorem head_st {rs : List Rw} {p i : Nat} {t : List Nat} (h : pr rs p = i :: t) : pr rs p = i :: pr rs i := by
  have hm' : i ∈ pr rs p := by rw [h]; exact List.mem_cons_self
  obtain ⟨l, hl⟩ := pr_suffix p hm'
  cases l with
  | nil => exact hl
  | cons a l =>
    rw [h] at hl
    have hnd := pr_nodup (rs := rs) p
    rw [h] at hnd
    injection hl with ha hb
    rw [hb] at hnd
    exact absurd (List.mem_append.mpr (.inr List.mem_cons_self)) (List.nodup_cons.mp hnd).1
theorem hm_head {rs : List Rw} {p : Nat} {i : Nat} (h : hm rs p = (i : Int)) : pr rs p = i :: pr rs i := by
  unfold hm at h
  cases hp : pr rs p with
  | nil => rw [hp] at h; exact absurd h (by show ¬ (-1 : Int) = (i : Int); omega)
  | cons a t =>
    rw [hp] at h
    have e : a = i := by
      have h2 : (a : Int) = (i : Int) := h
      omega
    subst e
    rw [← hp]
    exact head_st hp
theorem opL_eq {rs : List Rw} (g : Good rs) {i j : Nat} (hi : i ≤ rs.length) (hj : j ≤ rs.length) (h : pr rs i = pr rs j) : opL rs i = opL rs j := by
  rw [opL_pr g i hi, opL_pr g j hj, h]
theorem opL_in {rs : List Rw} (g : Good rs) {i p : Nat} {q : Rw} (hp : p ≤ rs.length) (hq : rs[i]? = some q) (h : pr rs p = i :: pr rs i) : opL rs p = opL rs i ++ [q] := by
  have hil := (List.getElem?_eq_some_iff.mp hq).1
  rw [opL_pr g p hp, opL_pr g i (by omega), h, List.reverse_cons, List.map_append]
  congr 1
  show [rs.getD i .fin] = [q]
  rw [List.getD_eq_getElem?_getD, hq]
  rfl
/-! ### a sheet -/
structure Sheet (rs : List Rw) : Prop where
  vr : VR [] rs []
  g : Good rs
  s : ∀ r ∈ rs, RowS r
theorem sheet_drawn (ns : List Int) (most : Int) : Sheet (drawnM ns most) := ⟨vr_drawn ns most, good_drawn ns most, drawn_s ns most⟩
theorem or_home {rs : List Rw} (sh : Sheet rs) {i : Nat} (h : rs[i]? = some .or) : ∃ b : Nat, hm rs i = (b : Int) ∧ pr rs i = b :: pr rs b ∧ rs[b]? = some .either := by
  have ok : (opL rs i).getLast? = some .either := vr_ok sh.vr h
  have hil := (List.getElem?_eq_some_iff.mp h).1
  rw [opL_pr sh.g i (by omega)] at ok
  cases hp : pr rs i with
  | nil => rw [hp] at ok; cases ok
  | cons b t =>
    rw [hp, List.reverse_cons, List.map_append] at ok
    have ok2 : (t.reverse.map (fun j => rs.getD j .fin) ++ [rs.getD b .fin]).getLast? = some .either := ok
    rw [List.getLast?_concat] at ok2
    have hb := (pr_mem i b (by rw [hp]; exact List.mem_cons_self)).1
    have hbl := List.getElem?_eq_getElem (show b < rs.length by omega)
    refine ⟨b, by unfold hm; rw [hp], ?_, ?_⟩
    · rw [← hp]
      exact head_st hp
    · rw [List.getD_eq_getElem?_getD, hbl] at ok2
      rw [hbl]
      exact ok2
end BD
namespace BD
open PySem PySem.Spec PyProof.Rows L2 Evl
/-! ### what is held answers to the blocks -/
def Rw.kindE : Rw → Str
  | .lend _ k _ => k
  | _ => "pick"
structure EntOf (q : Rw) (e : Ent) : Prop where
  w : e.w = q.word
  k : e.k = q.kindE
def HeldOk (op : List Rw) (es : List Ent) : Prop := Paired EntOf (op.filter Rw.named) es
theorem held_words : ∀ {qs : List Rw} {es : List Ent}, Paired EntOf qs es → es.map Ent.w = qs.map Rw.word
  | _, _, .nil => rfl
  | _, _, .cons r t => by rw [List.map_cons, List.map_cons, r.w, held_words t]
theorem held_mem {qs : List Rw} {es : List Ent} (h : Paired EntOf qs es) {q : Rw} (hq : q ∈ qs) : ∃ e ∈ es, EntOf q e := by
  induction h with
  | nil => cases hq
  | cons r t ih =>
    rcases List.mem_cons.mp hq with z | z
    · subst z
      exact ⟨_, List.mem_cons_self, r⟩
    · obtain ⟨e, h1, h2⟩ := ih z
      exact ⟨e, List.mem_cons_of_mem _ h1, h2⟩
/-- the words of what is open differ -/
def WN (op : List Rw) : Prop := ((op.filter Rw.named).map Rw.word).Nodup
theorem wn_upd {op : List Rw} {r : Rw} (h : WN op) (ok : OkRow op r) : WN (opUpd op r) := by
  unfold opUpd
  split
  · unfold WN
    rw [List.filter_append, List.map_append]
    cases hn : r.named with
    | false =>
      rw [List.filter_cons, if_neg (by rw [hn]; decide)]
      show (_ ++ []).Nodup
      rw [List.append_nil]
      exact h
    | true =>
      have hf : Fresh op r.word := by
        cases r with
        | lend a b c => exact ok.1
        | pick a b => exact ok.1
        | _ => cases hn
      rw [List.filter_cons, if_pos hn]
      refine List.nodup_append.mpr ⟨h, by simp, fun a ha b hb => ?_⟩
      obtain ⟨q, hq, rfl⟩ := List.mem_map.mp ha
      rcases List.mem_singleton.mp hb with rfl
      have := List.mem_filter.mp hq
      exact hf q this.1 this.2
  split
  · unfold WN at h ⊢
    exact h.sublist (((List.dropLast_sublist op).filter _).map _)
  · exact h
theorem wn_at {rs : List Rw} (sh : Sheet rs) : ∀ i, i ≤ rs.length → WN (opL rs i)
  | 0, _ => List.nodup_nil
  | i + 1, h => by
    have hlt : i < rs.length := h
    have hg := List.getElem?_eq_getElem hlt
    rw [opL_next hg]
    exact wn_upd (wn_at sh i (by omega)) (vr_ok sh.vr hg)
theorem few_upd {op : List Rw} {r : Rw} (f : Few op) (ok : OkRow op r) : Few (opUpd op r) := by
  unfold opUpd
  split
  · cases r with
    | lend a b c => exact ⟨by rw [lends_app]; show _ + 1 ≤ 6; have := ok.2.2; omega, by rw [picks_app]; exact f.picks⟩
    | pick a b => exact ⟨by rw [lends_app]; exact f.lends, by rw [picks_app]; show _ + 1 ≤ 3; have := ok.2.2; omega⟩
    | either => exact ⟨by rw [lends_app]; exact f.lends, by rw [picks_app]; exact f.picks⟩
    | again => exact ⟨by rw [lends_app]; exact f.lends, by rw [picks_app]; exact f.picks⟩
    | _ => rename_i h; cases h
  split
  · exact few_drop f
  · exact f
theorem few_at {rs : List Rw} (sh : Sheet rs) : ∀ i, i ≤ rs.length → Few (opL rs i)
  | 0, _ => ⟨Nat.zero_le _, Nat.zero_le _⟩
  | i + 1, h => by
    have hlt : i < rs.length := h
    have hg := List.getElem?_eq_getElem hlt
    rw [opL_next hg]
    exact few_upd (few_at sh i (by omega)) (vr_ok sh.vr hg)
/-- a standing of the sheet -/
structure Std (rs : List Rw) (i : Nat) (es : List Ent) : Prop where
  le : i ≤ rs.length
  held : HeldOk (opL rs i) es
theorem Std.len {rs : List Rw} {i : Nat} {es : List Ent} (sh : Sheet rs) (h : Std rs i es) : es.length ≤ 9 := by
  have := (few_at sh i h.le).named
  have e := Paired.length h.held
  omega
theorem std0 (rs : List Rw) : Std rs 0 [] := ⟨Nat.zero_le _, .nil⟩
theorem Std.ok {rs : List Rw} {i : Nat} {es : List Ent} (sh : Sheet rs) (h : Std rs i es) : StepOk rs i es := by
  refine ⟨fun hh k s hr => ⟨?_, fun u hu => ?_⟩, fun w ts hr => ?_, fun hr => ?_⟩
  · rw [held_words h.held]
    exact wn_at sh i h.le
  · have ok : OkRow (opL rs i) (.lend hh k s) := vr_ok sh.vr hr
    obtain ⟨q, h1, h2, h3, _⟩ := ok.2.1 u hu
    obtain ⟨e, he, hE⟩ := held_mem h.held (List.mem_filter.mpr ⟨h1, h2⟩)
    exact ⟨e, he, hE.w.trans h3⟩
  · have ok : OkRow (opL rs i) (.pick w ts) := vr_ok sh.vr hr
    exact ok.2.1
  · obtain ⟨b, hb, _⟩ := or_home sh hr
    exact ⟨b, hb⟩
theorem heldOk_app {op : List Rw} {es : List Ent} {r : Rw} {e : Ent} (h : HeldOk op es) (hn : r.named = true) (he : EntOf r e) : HeldOk (op ++ [r]) (es ++ [e]) := by
  unfold HeldOk
  rw [List.filter_append, List.filter_cons, if_pos hn]
  exact paired_app h (.cons he .nil)
theorem heldOk_skip {op : List Rw} {es : List Ent} {r : Rw} (h : HeldOk op es) (hn : r.named = false) : HeldOk (op ++ [r]) es := by
  unfold HeldOk
  rw [List.filter_append, List.filter_cons, if_neg (by rw [hn]; decide)]
  show Paired EntOf (_ ++ []) es
  rw [List.append_nil]
  exact h
theorem heldOk_unskip {op : List Rw} {es : List Ent} {r : Rw} (h : HeldOk (op ++ [r]) es) (hn : r.named = false) : HeldOk op es := by
  unfold HeldOk at h
  rw [List.filter_append, List.filter_cons, if_neg (by rw [hn]; decide)] at h
  have h : Paired EntOf (op.filter Rw.named ++ []) es := h
  rw [List.append_nil] at h
  exact h
theorem heldOk_pop {op : List Rw} {es : List Ent} {r : Rw} (h : HeldOk (op ++ [r]) es) (hn : r.named = true) : HeldOk op es.dropLast := by
  unfold HeldOk at h
  rw [List.filter_append, List.filter_cons, if_pos hn] at h
  have := paired_drop h
  have e : (op.filter Rw.named ++ [r]).dropLast = op.filter Rw.named := List.dropLast_concat
  rw [show (op.filter Rw.named ++ r :: List.filter Rw.named []) = op.filter Rw.named ++ [r] from rfl, e] at this
  exact this
/-- giving back leaves words, kinds, things and sources -/
structure SameE (a b : Ent) : Prop where
  w : b.w = a.w
  k : b.k = a.k
  t : b.t = a.t
  s : b.s = a.s
theorem bk_same (u : Str) (es : List Ent) : ∀ i, i ≤ es.length → Paired SameE (es.take i) (bkS u es i).2
  | 0, _ => by rw [List.take_zero]; exact .nil
  | i + 1, h => by
    have hlt : i < es.length := h
    have hg := List.getElem?_eq_getElem hlt
    have ih := bk_same u es i (by omega)
    rw [List.take_add_one, hg, bkS_next hg]
    split
    · exact paired_app ih (.cons ⟨rfl, rfl, rfl, rfl⟩ .nil)
    · exact paired_app ih (.cons ⟨rfl, rfl, rfl, rfl⟩ .nil)
theorem back_same (u : Str) (es : List Ent) : Paired SameE es (backM u es) := by
  have := bk_same u es es.length (Nat.le_refl _)
  rw [List.take_length] at this
  exact this
theorem held_same : ∀ {qs : List Rw} {es fs : List Ent}, Paired EntOf qs es → Paired SameE es fs → Paired EntOf qs fs
  | _, _, _, .nil, .nil => .nil
  | _, _, _, .cons r t, .cons r2 t2 => .cons ⟨r2.w.trans r.w, r2.k.trans r.k⟩ (held_same t t2)
theorem lentE_of {es : List Ent} {h k : Str} {s : Src} : EntOf (.lend h k s) (lentE es h k s) := by
  unfold lentE
  cases s with
  | thing n => exact ⟨rfl, rfl⟩
  | word u =>
    dsimp only
    cases lookE es u <;> exact ⟨rfl, rfl⟩
/-! ### steps: where they go, what falls -/
def Rw.takes : Rw → Bool
  | .pick _ _ => true | .either => true | .again => true | _ => false
def posM (rs : List Rw) (i : Nat) : Nat := match rs[i]? with
  | some .again => 2 * (endUp rs i rs.length).toNat + 1
  | _ => 2 * i
theorem posM_ge {rs : List Rw} (g : Good rs) (i : Nat) : 2 * i ≤ posM rs i := by
  unfold posM
  split
  · rename_i h
    obtain ⟨e, he⟩ := end_of g h rfl
    rw [he.up]
    have := he.gt
    omega
  · omega
theorem posM_le {rs : List Rw} (g : Good rs) {i : Nat} (h : i ≤ rs.length) : posM rs i ≤ 2 * rs.length := by
  unfold posM
  split
  · rename_i h
    obtain ⟨e, he⟩ := end_of g h rfl
    rw [he.up]
    have := he.lt
    omega
  · omega
theorem posM_no {rs : List Rw} {i : Nat} {r : Rw} (h : rs[i]? = some r) (hn : r ≠ .again) : posM rs i = 2 * i := by
  unfold posM
  rw [h]
  split
  · rename_i h2
    exact absurd (Option.some.inj h2) hn
  · rfl
structure Goes (rs : List Rw) (i : Nat) (es : List Ent) (c : Int) (r : Rw) (j : Nat) : Prop where
  at_ : (goM rs i es c).1 = (j : Int)
  std : Std rs j (goM rs i es c).2
  pos : (r.takes = true → c = 0) → posM rs i < posM rs j
theorem goes {rs : List Rw} (sh : Sheet rs) {i : Nat} {es : List Ent} {c : Int} {r : Rw} (hs : Std rs i es) (hr : rs[i]? = some r) : ∃ j, Goes rs i es c r j := by
  have g := sh.g
  have hil := (List.getElem?_eq_some_iff.mp hr).1
  have ok := vr_ok sh.vr hr
  have hnext := opL_next hr
  have step1 : r ≠ .again → (posM rs i < posM rs (i + 1)) := fun hn => by
    rw [posM_no hr hn]
    have := posM_ge g (i + 1)
    omega
  have hgo : goM rs i es c = (match some r with
    | some (.lend h k s) => ((i : Int) + 1, es ++ [lentE es h k s])
    | some (.pick w ts) => ((i : Int) + 1, es ++ [⟨w, "pick", ts.getD (c % ts.length).toNat 0, "", true⟩])
    | some (.back h) => ((i : Int) + 1, backM h es)
    | some .either => ((brI rs i rs.length).getD (c % (brI rs i rs.length).length).toNat 0, es)
    | some .or => (endUp rs (hm rs i).toNat rs.length, es)
    | some .again => if c % 2 = 0 then (endUp rs i rs.length + 1, es) else ((i : Int) + 1, es)
    | some .fin => if (rs.getD (hm rs i).toNat .fin).isAgain = true then (hm rs i, es) else if (rs.getD (hm rs i).toNat .fin).isEither = true then ((i : Int) + 1, es) else ((i : Int) + 1, es.dropLast)
    | _ => ((i : Int) + 1, es)) := by
    unfold goM
    rw [hr]
    try (cases r <;> rfl)
  cases r with
  | lend h k s =>
    refine ⟨i + 1, by rw [hgo]; rfl, ⟨hil, ?_⟩, fun _ => step1 (fun z => nomatch z)⟩
    rw [hgo, hnext]
    exact heldOk_app hs.held rfl lentE_of
  | pick w ts =>
    refine ⟨i + 1, by rw [hgo]; rfl, ⟨hil, ?_⟩, fun _ => step1 (fun z => nomatch z)⟩
    rw [hgo, hnext]
    exact heldOk_app hs.held rfl ⟨rfl, rfl⟩
  | back h =>
    refine ⟨i + 1, by rw [hgo]; rfl, ⟨hil, ?_⟩, fun _ => step1 (fun z => nomatch z)⟩
    rw [hgo, hnext]
    exact held_same hs.held (back_same h es)
  | look h =>
    refine ⟨i + 1, by rw [hgo]; rfl, ⟨hil, ?_⟩, fun _ => step1 (fun z => nomatch z)⟩
    rw [hgo, hnext]
    exact hs.held
  | change h =>
    refine ⟨i + 1, by rw [hgo]; rfl, ⟨hil, ?_⟩, fun _ => step1 (fun z => nomatch z)⟩
    rw [hgo, hnext]
    exact hs.held
  | either =>
    have hlen : 0 < (brI rs i rs.length).length := Nat.succ_pos _
    have hk : (c % ((brI rs i rs.length).length : Int)).toNat < (brI rs i rs.length).length := by
      have := Int.emod_lt_of_pos c (show (0 : Int) < ((brI rs i rs.length).length : Int) by omega)
      have := Int.emod_nonneg c (show ((brI rs i rs.length).length : Int) ≠ 0 by omega)
      omega
    have hmem : (brI rs i rs.length).getD (c % ((brI rs i rs.length).length : Int)).toNat 0 ∈ brI rs i rs.length := by
      rw [List.getD_eq_getElem?_getD, List.getElem?_eq_getElem hk]
      exact List.getElem_mem hk
    have hto : ∃ j : Nat, (brI rs i rs.length).getD (c % ((brI rs i rs.length).length : Int)).toNat 0 = (j : Int) ∧ i < j ∧ j ≤ rs.length ∧ opL rs j = opL rs i ++ [.either] := by
      rcases List.mem_cons.mp hmem with hm' | hm'
      · exact ⟨i + 1, by rw [hm']; rfl, by omega, hil, by rw [hnext]; rfl⟩
      · obtain ⟨p, hp, he⟩ := List.mem_map.mp hm'
        have hp2 := List.mem_filter.mp hp
        have hpl := List.mem_range.mp hp2.1
        have hgp := List.getElem?_eq_getElem hpl
        have hor := hp2.2
        rw [orF_at hgp] at hor
        simp only [Bool.and_eq_true, decide_eq_true_eq] at hor
        have hst := hm_head hor.1
        have hip := (pr_mem p i (by rw [hst]; exact List.mem_cons_self)).1
        have hno : rs[p].opens = false ∧ rs[p].isFin = false := by
          have h2 := hor.2
          generalize rs[p] = q at *
          cases q <;> first | exact ⟨rfl, rfl⟩ | cases h2
        have hpn : pr rs (p + 1) = pr rs p := by
          rw [pr_next hgp, if_neg (by rw [hno.1]; decide), if_neg (by rw [hno.2]; decide)]
        exact ⟨p + 1, by rw [← he]; rfl, by omega, hpl, opL_in g hpl hr (by rw [hpn, hst])⟩
    obtain ⟨j, h1, h2, h3, h4⟩ := hto
    refine ⟨j, by rw [hgo]; exact h1, ⟨h3, ?_⟩, fun _ => ?_⟩
    · rw [hgo, h4]
      exact heldOk_skip hs.held rfl
    · rw [posM_no hr (fun z => nomatch z)]
      have := posM_ge g j
      omega
  | or =>
    obtain ⟨b, hb, hst, hbe⟩ := or_home sh hr
    obtain ⟨e, he⟩ := end_of g hbe rfl
    have hie : i < e := by
      obtain ⟨q, hq, hf⟩ := he.fin
      by_cases hlt : i < e
      · exact hlt
      · by_cases heq : e = i
        · subst heq
          rw [hr] at hq
          cases hq
          cases hf
        · have := gone hq hf he.st he.gt i (by omega)
          rw [hst] at this
          exact absurd List.mem_cons_self this
    refine ⟨e, by rw [hgo]; show endUp rs (hm rs i).toNat rs.length = _; rw [hb, Int.toNat_natCast]; exact he.up, ⟨by have := he.lt; omega, ?_⟩, fun _ => ?_⟩
    · rw [hgo, opL_eq g (by have := he.lt; omega) (by omega) (he.st.trans hst.symm)]
      exact hs.held
    · rw [posM_no hr (fun z => nomatch z)]
      have := posM_ge g e
      omega
  | again =>
    obtain ⟨e, he⟩ := end_of g hr rfl
    have hel := he.lt
    by_cases hc : c % 2 = 0
    · refine ⟨e + 1, by rw [hgo]; show (if c % 2 = 0 then _ else _ : Int × List Ent).1 = _; rw [if_pos hc, he.up]; rfl, ⟨by omega, ?_⟩, fun _ => ?_⟩
      · rw [hgo, opL_eq g (by omega) (by omega) he.next]
        show HeldOk _ (if c % 2 = 0 then _ else _ : Int × List Ent).2
        rw [if_pos hc]
        exact hs.held
      · unfold posM
        rw [hr]
        show 2 * (endUp rs i rs.length).toNat + 1 < posM rs (e + 1)
        have := posM_ge g (e + 1)
        rw [he.up, Int.toNat_natCast]
        omega
    · refine ⟨i + 1, by rw [hgo]; show (if c % 2 = 0 then _ else _ : Int × List Ent).1 = _; rw [if_neg hc]; rfl, ⟨hil, ?_⟩, fun h0 => ?_⟩
      · rw [hgo, hnext]
        show HeldOk _ (if c % 2 = 0 then _ else _ : Int × List Ent).2
        rw [if_neg hc]
        exact heldOk_skip hs.held rfl
      · exact absurd (by rw [h0 rfl]; rfl) hc
  | fin =>
    obtain ⟨b, z, hz, hzo, hh, he⟩ := end_at g hr rfl
    have hin : opL rs i = opL rs b ++ [z] := opL_in g (by omega) hz he.st
    have hout : opL rs (i + 1) = opL rs b := opL_eq g hil (by have := he.gt; omega) he.next
    have hgz : rs.getD (hm rs i).toNat .fin = z := by
      rw [hh, Int.toNat_natCast, List.getD_eq_getElem?_getD, hz]
      rfl
    have hheld := hs.held
    rw [hin] at hheld
    cases hza : z.isAgain with
    | true =>
      have ez : z = .again := by cases z <;> first | rfl | cases hza
      refine ⟨b, ?_, ⟨by have := he.gt; omega, ?_⟩, fun _ => ?_⟩
      · rw [hgo]
        show (if (rs.getD (hm rs i).toNat .fin).isAgain = true then _ else _ : Int × List Ent).1 = _
        rw [hgz, if_pos hza, hh]
      · rw [hgo]
        show HeldOk _ (if (rs.getD (hm rs i).toNat .fin).isAgain = true then _ else _ : Int × List Ent).2
        rw [hgz, if_pos hza]
        exact heldOk_unskip hheld (by rw [ez]; rfl)
      · rw [posM_no hr (fun y => nomatch y)]
        unfold posM
        rw [hz, ez]
        show 2 * i < 2 * (endUp rs b rs.length).toNat + 1
        rw [he.up, Int.toNat_natCast]
        omega
    | false =>
      refine ⟨i + 1, ?_, ⟨hil, ?_⟩, fun _ => step1 (fun y => nomatch y)⟩
      · rw [hgo]
        show (if (rs.getD (hm rs i).toNat .fin).isAgain = true then _ else if (rs.getD (hm rs i).toNat .fin).isEither = true then _ else _ : Int × List Ent).1 = _
        rw [hgz, hza, if_neg (by decide)]
        split <;> rfl
      · rw [hgo, hout]
        show HeldOk _ (if (rs.getD (hm rs i).toNat .fin).isAgain = true then _ else if (rs.getD (hm rs i).toNat .fin).isEither = true then _ else _ : Int × List Ent).2
        rw [hgz, hza, if_neg (by decide)]
        cases hze : z.isEither with
        | true =>
          have ez : z = .either := by cases z <;> first | rfl | cases hze
          rw [if_pos rfl]
          exact heldOk_unskip hheld (by rw [ez]; rfl)
        | false =>
          rw [if_neg (by decide)]
          have hzn : z.named = true := by cases z <;> first | rfl | (cases hzo ; done) | (cases hza ; done) | (cases hze ; done)
          exact heldOk_pop hheld hzn
end BD
namespace BD
open PySem PySem.Spec PyProof.Rows L2 Evl
local macro_rules | `(tactic| walk_at "ev") => `(tactic| first
  | ((with_reducible apply ev_var) ; rfl)
  | with_reducible exact ev_c
  | ((with_reducible apply ev_I0) <;> walk_at "ev")
  | ((with_reducible apply ev_e9) <;> walk_at "ev")
  | ((with_reducible apply ev_I) <;> walk_at "ev")
  | ((with_reducible apply ev_eq) <;> walk_at "ev")
  | ((with_reducible apply ev_ne) <;> walk_at "ev")
  | ((with_reducible apply ev_neg) <;> walk_at "ev")
  | ((with_reducible apply ev_ixN) <;> walk_at "ev")
  | ((with_reducible apply ev_ixL) <;> walk_at "ev")
  | ((with_reducible apply ev_inN) <;> walk_at "ev")
  | ((with_reducible apply ev_inT) <;> walk_at "ev")
  | ((with_reducible apply ev_ixT) <;> walk_at "ev")
  | ((with_reducible apply ev_ixS) <;> walk_at "ev")
  | ((with_reducible apply ev_len') <;> walk_at "ev")
  | ((with_reducible apply et_test) <;> walk_at "ev")
  | ((with_reducible apply et_and) <;> walk_at "ev")
  | ((with_reducible apply et_or) <;> walk_at "ev")
  | ((with_reducible apply et_not) <;> walk_at "ev")
  | ((with_reducible apply et_B) <;> walk_at "ev")
  | ((with_reducible apply el_lst) <;> walk_at "ev")
  | ((with_reducible apply eu_tup) <;> walk_at "ev")
  | ((with_reducible apply ea_cons) <;> walk_at "ev")
  | with_reducible exact ea_nil
  | with_reducible assumption
  | ((with_reducible apply ex_l' ; assumption) ; walk_at "ex")
  | ((with_reducible apply ex_t' ; assumption) ; walk_at "ex")
  | (intro _ ; walk_at "ev")
  | (with_reducible first | exact atI_hd | exact at_kind | exact at2s | exact at3s | exact at3i)
  | (first | exact rfl | exact Nat.le_of_ble_eq_true rfl | exact ⟨by decide, by decide⟩ | decide | exact Or.inl ⟨by omega, by omega⟩ | exact Or.inr ⟨by omega, by omega⟩ | omega)
  | skip)
local macro_rules | `(tactic| walk_at "ex") => `(tactic| first
  | assumption
  | exact Ex.refl _
  | (refine' Ex.trans ?_ (by assumption) ; walk_at "ex"))
local macro_rules | `(tactic| walk_at "row") => `(tactic| first
  | (with_reducible exact er_nil)
  | ((with_reducible apply er_cons) <;> walk_at "row")
  | (((with_reducible apply er_var) ; rfl) ; walk_at "isrow")
  | (((with_reducible apply elr_var) ; rfl) ; walk_at "isrow")
  | ((with_reducible apply elr_cat) <;> walk_at "row")
  | ((with_reducible apply elr_lst) <;> walk_at "row")
  | ((with_reducible apply er_fin) <;> walk_at "ev")
  | ((with_reducible apply er_lendT) <;> walk_at "ev")
  | ((with_reducible apply er_lendW) <;> walk_at "ev")
  | ((with_reducible apply er_pick) <;> walk_at "ev")
  | ((with_reducible apply er_either) <;> walk_at "ev")
  | ((with_reducible apply er_or) <;> walk_at "ev")
  | ((with_reducible apply er_again) <;> walk_at "ev")
  | ((with_reducible apply er_back) <;> walk_at "ev")
  | ((with_reducible apply er_look) <;> walk_at "ev")
  | ((with_reducible apply er_change) <;> walk_at "ev")
  | exact Nat.le_of_ble_eq_true rfl
  | skip)
local macro_rules | `(tactic| walk_at "isrow") => `(tactic| first
  | assumption
  | (refine IsRow.up ?_ (by assumption) ; walk_at "ex")
  | (refine LRows.up ?_ (by assumption) ; walk_at "ex"))

local macro_rules | `(tactic| walk_at "ev") => `(tactic| (((with_reducible apply ev_tag) ; rfl) ; walk_at "isrow"))
abbrev s_l_run : Stmt := topS 27
theorem sc_l_run : FnScope ["_law_rows", "_law_choices_here", "_law_home", "_law_found", "_law_standing", "_law_taken", "_law_choice"] ["_law_rows", "_law_choices_here"] (defScope s_l_run) := ⟨rfl, rfl, rfl, by decide +kernel, rfl, by decide +kernel, by decide +kernel⟩
theorem tag_takes (r : Rw) : inV (.str r.tag) [V.str "pick", V.str "either", V.str "again"] = r.takes := by cases r <;> rfl
/-- a run: the choice that is taken, what is left -/
def takeC (r : Rw) (cs : List Int) : Int := if r.takes = true then cs.headD 0 else 0
def leftC (r : Rw) (cs : List Int) : List Int := if r.takes = true then cs.tail else cs
def runF (rs : List Rw) : Nat → Nat → List Ent → List Int → List (Nat × List Ent)
  | 0, _, _, _ => []
  | f + 1, i, es, cs => match rs[i]? with
    | none => []
    | some r => (i, es) :: runF rs f (goM rs i es (takeC r cs)).1.toNat (goM rs i es (takeC r cs)).2 (leftC r cs)
def mu (rs : List Rw) (i k : Nat) : Nat := k * (2 * rs.length + 3) + (2 * rs.length + 2 - posM rs i)
def runM (rs : List Rw) (cs : List Int) : List (Nat × List Ent) := runF rs (mu rs 0 cs.length) 0 [] cs
theorem runF_go {rs : List Rw} {f i : Nat} {es : List Ent} {cs : List Int} {r : Rw} (h : rs[i]? = some r) : runF rs (f + 1) i es cs = (i, es) :: runF rs f (goM rs i es (takeC r cs)).1.toNat (goM rs i es (takeC r cs)).2 (leftC r cs) := by
  show (match rs[i]? with
    | none => []
    | some r => (i, es) :: runF rs f (goM rs i es (takeC r cs)).1.toNat (goM rs i es (takeC r cs)).2 (leftC r cs)) = _
  rw [h]
theorem runF_stop {rs : List Rw} {i : Nat} {es : List Ent} {cs : List Int} (h : rs[i]? = none) : ∀ f, runF rs f i es cs = []
  | 0 => rfl
  | f + 1 => by
    show (match rs[i]? with
      | none => []
      | some r => (i, es) :: runF rs f (goM rs i es (takeC r cs)).1.toNat (goM rs i es (takeC r cs)).2 (leftC r cs)) = _
    rw [h]
/-- a turn makes the measure fall -/
theorem mu_falls {rs : List Rw} (sh : Sheet rs) {i j : Nat} {es : List Ent} {cs : List Int} {r : Rw} (hr : rs[i]? = some r) (hg : Goes rs i es (takeC r cs) r j) : mu rs j (leftC r cs).length < mu rs i cs.length := by
  have hil := (List.getElem?_eq_some_iff.mp hr).1
  have h1 := posM_le sh.g (show i ≤ rs.length by omega)
  have h2 := posM_le sh.g hg.std.le
  unfold mu
  by_cases ht : r.takes = true
  · have hl : leftC r cs = cs.tail := if_pos ht
    have hc : takeC r cs = cs.headD 0 := if_pos ht
    rw [hl]
    cases cs with
    | nil =>
      have := hg.pos (fun _ => hc)
      show 0 * _ + _ < 0 * _ + _
      omega
    | cons a t =>
      show t.length * _ + _ < (t.length + 1) * _ + _
      rw [Nat.add_mul]
      omega
  · have hl : leftC r cs = cs := if_neg ht
    have := hg.pos (fun z => absurd z ht)
    rw [hl]
    omega
theorem mu_pos {rs : List Rw} (sh : Sheet rs) {i k : Nat} (h : i ≤ rs.length) : 0 < mu rs i k := by
  have h1 := posM_le sh.g h
  unfold mu
  omega
theorem mu_le (rs : List Rw) (i k : Nat) : mu rs i k ≤ (k + 1) * (2 * rs.length + 3) := by
  unfold mu
  rw [Nat.add_mul]
  omega
def Stds (H : Hp) (vs : List V) (sts : List (Nat × List Ent)) : Prop := Paired (fun x (st : Nat × List Ent) => AStand (st.1 : Int) st.2 x H) vs sts
theorem AStand.upT {i : Int} {es : List Ent} {v : V} {H H' : Hp} (e : ExT H H') (h : AStand i es v H) : AStand i es v H' := by
  obtain ⟨p, q, vs, h1, h2, h3, h4⟩ := h
  exact ⟨p, q, vs, h1, e _ _ h2, e _ _ h3, h4.upT e⟩
theorem Stds.upT {H H' : Hp} (e : ExT H H') : ∀ {vs : List V} {sts : List (Nat × List Ent)}, Stds H vs sts → Stds H' vs sts
  | _, _, .nil => .nil
  | _, _, .cons r t => .cons (AStand.upT e r) (Stds.upT e t)
theorem Stds.up {H H' : Hp} (e : Ex H H') {vs : List V} {sts : List (Nat × List Ent)} (h : Stds H vs sts) : Stds H' vs sts := h.upT (ExT.of e)
section
variable {P : Program} {w : World} {K : PySem.W.Frag} {mg : Str → Option Value} {base : Heap}
theorem el_homes {a : Addr} {rv : List V} {rs : List Rw} {ta : TA} {σ : L2.St} {H : Hp} {E : XK} (h : EvA ta σ H [.ref a]) (hS : SqL K H a rv) (hR : Rows H rv rs) (g : Good rs) (hl : rs.length ≤ 90000) : EvL (tCall (spHomes K) [] E ta) σ H (homesV rs rs.length) :=
  el_call h fun H1 e Q q E => ⟨a, rv, rs, rfl, ex_l e hS, hR.up e, g, hl, fun p H2 hp e2 h2 => q p H2 hp e2 h2⟩
theorem ep_step {a hh : Addr} {x : V} {c : Int} {i : Nat} {es : List Ent} {rv : List V} {rs : List Rw} {ta : TA} {σ : L2.St} {H : Hp} {E : XK} (h : EvA ta σ H [.ref a, .ref hh, x, .int c]) (hS : SqL K H a rv) (hR : Rows H rv rs) (hM : SqL K H hh (homesV rs rs.length)) (hx : AStand i es x H)
    (hi : i < rs.length) (hl : rs.length ≤ 90000) (g : Good rs) (ok : StepOk rs i es) (he : es.length ≤ 900) : EvP (tCall (spStep K) [] E ta) σ H (AStand (goM rs i es c).1 (goM rs i es c).2) :=
  ep_call h fun H1 e Q q E => ⟨a, hh, x, c, i, es, rv, rs, rfl, ex_l e hS, hR.up e, ex_l e hM, hx.up e, hi, hl, g, ok, he, q⟩
def spRun (K : PySem.W.Frag) : Sp := fun vs H Q _ => ∃ (a pc : Addr) (cs : List Int) (rv : List V) (rs : List Rw), vs = [.ref a, .ref pc] ∧ SqL K H a rv ∧ Rows H rv rs ∧ SqL K H pc (cs.map V.int) ∧ Sheet rs ∧ rs.length ≤ 40000 ∧ (cs.length + 1) * (2 * rs.length + 3) ≤ 99000 ∧
  ∀ p vs H2, H p = none → Ex H H2 → H2 p = some (.lst vs) → Stds H2 vs (runM rs cs) → Q (.ref p) H2
theorem ok_run (D : Dn K mg "_law_run" s_l_run ["_law_rows", "_law_choices_here"]) (T : Blt mg) (h_l_homes : Has P w K mg base "_law_homes" 1 ["_law_rows"] (spHomes K)) (h_l_step : Has P w K mg base "_law_step" 2 ["_law_rows", "_law_home", "_law_standing", "_law_choice"] (spStep K)) : Has P w K mg base "_law_run" 3 ["_law_rows", "_law_choices_here"] (spRun K) := by
  refine D.ok sc_l_run (fun vs H Q E h => ?_) (fun f cdv A outer st H vs Q E hr h => ?_)
  · obtain ⟨a, pc, cs, rv, rs, rfl, _⟩ := h
    rfl
  · obtain ⟨a, pc, cs, rv, rs, rfl, hS, hR, hC, sh, hlen, hbound, q⟩ := h
    have hlr := hR.len
    refine ⟨_, (pss_cons (ps_set (i := 2) sc_l_run.nd rfl (Or.inl rfl) (pe_own h_l_homes (hr.mono (by decide)) (by rfl) (pa_cons (pv 0) pa_nil))) (pss_cons (ps_set (i := 3) sc_l_run.nd rfl (Or.inl rfl) (pe_lst pa_nil)) (pss_cons (ps_set (i := 4) sc_l_run.nd rfl (Or.inl rfl) (pe_tup (pa_cons pe_int (pa_cons (pe_tup pa_nil) pa_nil)))) (pss_cons (ps_set (i := 5) sc_l_run.nd rfl (Or.inl rfl) pe_int) (pss_cons (ps_while PassesOwn.never (pt_cmpR op_lt (pe_ix (show IxR _ (rIxT K) from ix_tup) (pv 4) pe_int (fun _ _ => rfl)) (pe_callB (show CallR _ _ (rLenS K) from call_len_seq) (by rfl) T.len_ (by decide +kernel) (pa_cons (pv 0) pa_nil)) (nomark _)) (pss_cons (ps_expr (pe_bm PySem.F.plainAttrs_list PySem.F.slot_list_append PySem.F.type_list_append mt_append (pv 3) (pa_cons (pv 4) pa_nil))) (pss_cons (ps_set (i := 6) sc_l_run.nd rfl (Or.inl rfl) pe_int) (pss_cons (ps_if (pt_cmpR (show OpR _ _ (rIn K false) from op_in_seq) (pe_ix (show IxR _ (rIxT K) from ix_tup) (pe_ix (show IxR _ (rIxL K) from ix_list) (pv 0) (pe_ix (show IxR _ (rIxT K) from ix_tup) (pv 4) pe_int (fun _ _ => rfl)) (fun _ _ => rfl)) pe_int (fun _ _ => rfl)) (pe_lst (pa_cons pe_str (pa_cons pe_str (pa_cons pe_str pa_nil)))) (by rfl)) (pss_cons (ps_if (pt_cmpR op_lt (pv 5) (pe_callB (show CallR _ _ (rLenS K) from call_len_seq) (by rfl) T.len_ (by decide +kernel) (pa_cons (pv 1) pa_nil)) (nomark _)) (pss_one (ps_set (i := 6) sc_l_run.nd rfl (Or.inl rfl) (pe_ix (show IxR _ (rIxL K) from ix_list) (pv 1) (pv 5) (fun _ _ => rfl)))) pss_nil) (pss_one (ps_set (i := 5) sc_l_run.nd rfl (Or.inl rfl) (pe_op op_add (pv 5) pe_int)))) pss_nil) (pss_one (ps_set (i := 4) sc_l_run.nd rfl (Or.inl rfl) (pe_own h_l_step (hr.mono (by decide)) (by rfl) (pa_cons (pv 0) (pa_cons (pv 2) (pa_cons (pv 4) (pa_cons (pv 6) pa_nil))))))))))) (pss_one (ps_ret (pv 3)))))))), ?_⟩
    show (_ : L2.TS) _ [_, _, _, _, _, _, _] _
    refine q_asgL (xs := homesV rs rs.length) (el_homes ?_ hS hR sh.g (by omega)) (fun ph H1 hph e1 h1 => ?_)
    · walk_at "ev"
    show (_ : L2.TS) _ [_, _, _, _, _, _, _] _
    have hM1 : SqL K H1 ph (homesV rs rs.length) := sq_of h1
    refine q_asgL (xs := []) ?_ (fun pf H2 hpf e2 h2 => ?_)
    · walk_at "ev"
    show (_ : L2.TS) _ [_, _, _, _, _, _, _] _
    refine q_asgP (R := AStand 0 []) (ep_stand (es := []) ev_c (EvP.mono (ep_U (xs := []) ?_) (fun v H h => ?_))) (fun x0 H3 e3 hx0 => ?_)
    · walk_at "ev"
    · obtain ⟨p, h4, h5⟩ := h
      exact ⟨p, [], h4, h5, .nil⟩
    show (_ : L2.TS) _ [_, _, _, _, _, _, _] _
    refine q_asg ev_c (fun H4 e4 => ?_)
    show (_ : L2.TS) _ [_, _, _, _, _, _, _] _
    have e04 : Ex H H4 := by walk_at "ex"
    have hpfH : H pf = none := fresh_back e1 hpf
    have hM4 : SqL K H4 ph (homesV rs rs.length) := ex_l (e2.trans (e3.trans e4)) hM1
    have hMx : ∃ Hm : Hp, Hm pf = none ∧ SqL K Hm ph (homesV rs rs.length) ∧ Ex H Hm ∧ Ex Hm H4 := ⟨H1, hpf, hM1, e1, e2.trans (e3.trans e4)⟩
    obtain ⟨Hm, hmf, hMm, e0m, em4⟩ := hMx
    refine q_while (fun m σ' H' => ∃ (i k : Nat) (es : List Ent) (x : V) (fv : List V) (dn : List (Nat × List Ent)) (o : Option V), Ex Hm H' ∧ H' pf = some (.lst fv) ∧ Stds H' fv dn ∧ Std rs i es ∧ AStand (i : Int) es x H' ∧ mu rs i (cs.drop k).length ≤ m ∧
      dn ++ runF rs m i es (cs.drop k) = runM rs cs ∧ dn.length + m ≤ 99000 ∧ σ' = [some (.ref a), some (.ref pc), some (.ref ph), some (.ref pf), some x, some (.int (k : Int)), o]) (mu rs 0 cs.length)
      ⟨0, 0, [], x0, [], [], none, em4, e4 _ _ (e3 _ _ h2), .nil, std0 rs, AStand.up e4 hx0, Nat.le_refl _, rfl, by have := mu_le rs 0 cs.length; show 0 + _ ≤ _; omega, rfl⟩ ?_
    rintro m σ' H' ⟨i, k, es, x, fv, dn, o, eH, hf, hD, hst, hx, hmu, hrun, hbd, rfl⟩
    have eH0 : Ex H H' := e0m.trans eH
    have hS' := ex_l eH0 hS
    have hC' := ex_l eH0 hC
    have hM' := ex_l eH hMm
    have hR' := hR.up eH0
    obtain ⟨px, pq, hv, rfl, hpx, hpq, hE⟩ := id hx
    have hPx : SqT K H' px [.int (i : Int), .ref pq] := st_of hpx
    refine ⟨decide ((i : Int) < (rv.length : Int)), ?_, fun hb H5 e5 => ?_, fun hb H5 e5 => ?_⟩
    · walk_at "ev"
    · have hb := of_decide_eq_true hb
      have hil : i < rs.length := by omega
      have hg := List.getElem?_eq_getElem hil
      obtain ⟨y, hy, hY⟩ := hR'.get hg
      generalize rs[i] = r at hg hY
      obtain ⟨py, ys, rfl, hpy⟩ := hY.tup
      have hPy : SqT K H' py (.str r.tag :: ys) := st_of hpy
      have hix : atI rv (i : Int) = some (.ref py) := atI_nat hy
      obtain ⟨j, hgo⟩ := goes (c := takeC r (cs.drop k)) sh hst hg
      have hfall := mu_falls sh hg hgo
      have hmp := mu_pos sh (k := (cs.drop k).length) hst.le
      obtain ⟨m', rfl⟩ : ∃ m', m = m' + 1 := ⟨m - 1, by omega⟩
      rw [runF_go hg, hgo.at_, Int.toNat_natCast] at hrun
      have hfl : fv.length = dn.length := Paired.length hD
      have hes := hst.len sh
      refine ⟨fun σ2 H2 => ∃ (i k : Nat) (es : List Ent) (x : V) (fv : List V) (dn : List (Nat × List Ent)) (o : Option V), Ex Hm H2 ∧ H2 pf = some (.lst fv) ∧ Stds H2 fv dn ∧ Std rs i es ∧ AStand (i : Int) es x H2 ∧ mu rs i (cs.drop k).length ≤ m' ∧
        dn ++ runF rs m' i es (cs.drop k) = runM rs cs ∧ dn.length + m' ≤ 99000 ∧ σ2 = [some (.ref a), some (.ref pc), some (.ref ph), some (.ref pf), some x, some (.int (k : Int)), o], fun σ2 H2 h => ⟨m', Nat.lt_succ_self _, h⟩, ?_⟩
      refine q_app (l := pf) (xs := fv) (v := .ref px) (e5 _ _ hf) (ev_var rfl) (ev_var rfl) (by omega) (fun H6 e6 => ?_)
      have x7 : ExT H' (upd H6 pf (.lst (fv ++ [.ref px]))) := (ExT.of (e5.trans e6)).trans (ExT.lst (e6 _ _ (e5 _ _ hf)))
      have e7 : Ex Hm (upd H6 pf (.lst (fv ++ [.ref px]))) := Ex.mut (eH.trans (e5.trans e6)) hmf
      have hf7 : (upd H6 pf (.lst (fv ++ [.ref px]))) pf = some (.lst (fv ++ [.ref px])) := upd_same
      generalize upd H6 pf (.lst (fv ++ [.ref px])) = H7 at *
      have hx7 : AStand (i : Int) es (.ref px) H7 := hx.upT x7
      have hD7 : Stds H7 (fv ++ [.ref px]) (dn ++ [(i, es)]) := paired_app (hD.upT x7) (.cons hx7 .nil)
      have hS7 := ex_l (e0m.trans e7) hS
      have hC7 := ex_l (e0m.trans e7) hC
      have hM7 := ex_l e7 hMm
      have hR7 := hR.up (e0m.trans e7)
      have hPx7 : SqT K H7 px [.int (i : Int), .ref pq] := st_of (x7 _ _ hpx)
      have hPy7 : SqT K H7 py (.str r.tag :: ys) := st_of (x7 _ _ hpy)
      have hrun2 : (dn ++ [(i, es)]) ++ runF rs m' j (goM rs i es (takeC r (cs.drop k))).2 (leftC r (cs.drop k)) = runM rs cs := by
        rw [← hrun, List.append_assoc]
        rfl
      clear hS' hC' hM' hR' hPx hPy x7 e5 e6 eH0 hx hpx hpy hpq hE hD hf hY
      refine q_asg ev_c (fun H8 e8 => ?_)
      show (_ : L2.TS) _ [_, _, _, _, _, _, _] _
      cases ht : r.takes with
      | false =>
        have etk : takeC r (cs.drop k) = 0 := if_neg (by rw [ht]; decide)
        have elf : leftC r (cs.drop k) = cs.drop k := if_neg (by rw [ht]; decide)
        rw [etk, elf] at hrun2
        rw [etk] at hgo
        rw [elf] at hfall
        refine q_when (b := false) (et_is ?_ ht) (fun hb _ _ => by cases hb) (fun _ H9 e9 => ?_)
        · rw [← tag_takes r]
          walk_at "ev"
        · refine s_asgP (ep_step (a := a) (hh := ph) (x := .ref px) (c := 0) (i := i) (es := es) (rv := rv) (rs := rs) ?_ (ex_l (e8.trans e9) hS7) (hR7.up (e8.trans e9)) (ex_l (e8.trans e9) hM7) (hx7.up (e8.trans e9)) hil (by omega) sh.g (hst.ok sh) (by omega)) (fun z H10 e10 hz => ?_)
          · walk_at "ev"
          · dsimp only
            rw [hgo.at_] at hz
            have e710 : Ex H7 H10 := e8.trans (e9.trans e10)
            exact ⟨j, k, _, z, _, _, some (.int 0), e7.trans e710, e710 _ _ hf7, hD7.up e710, hgo.std, hz, by omega, hrun2, by rw [List.length_append]; show dn.length + 1 + m' ≤ _; omega, rfl⟩
      | true =>
        have elf : leftC r (cs.drop k) = cs.drop (k + 1) := by
          unfold leftC
          rw [if_pos ht, List.tail_drop]
        rw [elf] at hrun2 hfall
        refine q_when (b := true) (et_is ?_ ht) (fun _ H9 e9 => ?_) (fun hb _ _ => by cases hb)
        · rw [← tag_takes r]
          walk_at "ev"
        · by_cases hk : k < cs.length
          · have etk : takeC r (cs.drop k) = cs[k] := by
              unfold takeC
              rw [if_pos ht, List.drop_eq_getElem_cons hk]
              rfl
            rw [etk] at hrun2 hgo
            have hck : atI (cs.map V.int) (k : Int) = some (.int cs[k]) := atI_nat (by rw [List.getElem?_map, List.getElem?_eq_getElem hk]; rfl)
            refine q_when (b := true) (et_is (b := true) (a := decide ((k : Int) < (((cs.map V.int).length : Nat) : Int))) ?_ (decide_eq_true (by rw [List.length_map]; omega))) (fun _ H10 e10 => ?_) (fun hb _ _ => by cases hb)
            · walk_at "ev"
            · refine s_asg (v := .int cs[k]) (ev_ixL (ev_var rfl) (ex_l (by walk_at "ex") hC7) (ev_var rfl) hck) (fun H11 e11 => ?_)
              dsimp only
              show (_ : L2.TS) _ [_, _, _, _, _, _, _] _
              refine s_asg (v := .int ((k : Int) + 1)) ?_ (fun H12 e12 => ?_)
              · walk_at "ev"
              dsimp only
              show (_ : L2.TS) _ [_, _, _, _, _, _, _] _
              have e712 : Ex H7 H12 := by walk_at "ex"
              refine s_asgP (ep_step (a := a) (hh := ph) (x := .ref px) (c := cs[k]) (i := i) (es := es) (rv := rv) (rs := rs) ?_ (ex_l e712 hS7) (hR7.up e712) (ex_l e712 hM7) (hx7.up e712) hil (by omega) sh.g (hst.ok sh) (by omega)) (fun z H13 e13 hz => ?_)
              · walk_at "ev"
              · dsimp only
                rw [hgo.at_] at hz
                have e713 : Ex H7 H13 := e712.trans e13
                exact ⟨j, k + 1, _, z, _, _, some (.int cs[k]), e7.trans e713, e713 _ _ hf7, hD7.up e713, hgo.std, hz, by omega, hrun2, by rw [List.length_append]; show dn.length + 1 + m' ≤ _; omega, rfl⟩
          · have etk : takeC r (cs.drop k) = 0 := by
              unfold takeC
              rw [if_pos ht, List.drop_eq_nil_of_le (by omega)]
              rfl
            rw [etk] at hrun2 hgo
            refine q_when (b := false) (et_is (b := false) (a := decide ((k : Int) < (((cs.map V.int).length : Nat) : Int))) ?_ (decide_eq_false (by rw [List.length_map]; omega))) (fun hb _ _ => by cases hb) (fun _ H10 e10 => ?_)
            · walk_at "ev"
            · refine s_asg (v := .int ((k : Int) + 1)) ?_ (fun H12 e12 => ?_)
              · walk_at "ev"
              dsimp only
              show (_ : L2.TS) _ [_, _, _, _, _, _, _] _
              have e712 : Ex H7 H12 := by walk_at "ex"
              refine s_asgP (ep_step (a := a) (hh := ph) (x := .ref px) (c := 0) (i := i) (es := es) (rv := rv) (rs := rs) ?_ (ex_l e712 hS7) (hR7.up e712) (ex_l e712 hM7) (hx7.up e712) hil (by omega) sh.g (hst.ok sh) (by omega)) (fun z H13 e13 hz => ?_)
              · walk_at "ev"
              · dsimp only
                rw [hgo.at_] at hz
                have e713 : Ex H7 H13 := e712.trans e13
                exact ⟨j, k + 1, _, z, _, _, some (.int 0), e7.trans e713, e713 _ _ hf7, hD7.up e713, hgo.std, hz, by omega, hrun2, by rw [List.length_append]; show dn.length + 1 + m' ≤ _; omega, rfl⟩
    · have hb := of_decide_eq_false hb
      have hn : rs[i]? = none := List.getElem?_eq_none (by have := hst.le; omega)
      rw [runF_stop hn, List.append_nil] at hrun
      subst hrun
      refine s_ret (v := .ref pf) (ev_var rfl) (fun H6 e6 => q pf fv H6 hpfH (eH0.trans (e5.trans e6)) (e6 _ _ (e5 _ _ hf)) (hD.up (e5.trans e6)))
theorem epl_run {a pc : Addr} {cs : List Int} {rv : List V} {rs : List Rw} {ta : TA} {σ : L2.St} {H : Hp} {E : XK} (h : EvA ta σ H [.ref a, .ref pc]) (hS : SqL K H a rv) (hR : Rows H rv rs) (hC : SqL K H pc (cs.map V.int)) (sh : Sheet rs) (hl : rs.length ≤ 40000) (hb : (cs.length + 1) * (2 * rs.length + 3) ≤ 99000) :
    EvPL (tCall (spRun K) [] E ta) σ H (fun us H2 => Stds H2 us (runM rs cs)) := fun H1 e Q q =>
  h H1 e _ fun H2 e2 => ⟨a, pc, cs, rv, rs, rfl, ex_l (e.trans e2) hS, hR.up (e.trans e2), ex_l (e.trans e2) hC, sh, hl, hb, fun p vs H3 hp e3 h3 hs => q p vs H3 (fresh_back e2 hp) (e2.trans e3) h3 hs⟩
end
end BD
namespace BD
open PySem PySem.Spec PyProof.Rows L2 Evl
local macro_rules | `(tactic| walk_at "ev") => `(tactic| first
  | ((with_reducible apply ev_var) ; rfl)
  | with_reducible exact ev_c
  | ((with_reducible apply ev_I0) <;> walk_at "ev")
  | ((with_reducible apply ev_e9) <;> walk_at "ev")
  | ((with_reducible apply ev_I) <;> walk_at "ev")
  | ((with_reducible apply ev_eq) <;> walk_at "ev")
  | ((with_reducible apply ev_ne) <;> walk_at "ev")
  | ((with_reducible apply ev_neg) <;> walk_at "ev")
  | ((with_reducible apply ev_ixN) <;> walk_at "ev")
  | ((with_reducible apply ev_ixL) <;> walk_at "ev")
  | ((with_reducible apply ev_inN) <;> walk_at "ev")
  | ((with_reducible apply ev_inT) <;> walk_at "ev")
  | ((with_reducible apply ev_ixT) <;> walk_at "ev")
  | ((with_reducible apply ev_ixS) <;> walk_at "ev")
  | ((with_reducible apply ev_len') <;> walk_at "ev")
  | ((with_reducible apply et_test) <;> walk_at "ev")
  | ((with_reducible apply et_and) <;> walk_at "ev")
  | ((with_reducible apply et_or) <;> walk_at "ev")
  | ((with_reducible apply et_not) <;> walk_at "ev")
  | ((with_reducible apply et_B) <;> walk_at "ev")
  | ((with_reducible apply el_lst) <;> walk_at "ev")
  | ((with_reducible apply eu_tup) <;> walk_at "ev")
  | ((with_reducible apply ea_cons) <;> walk_at "ev")
  | with_reducible exact ea_nil
  | with_reducible assumption
  | ((with_reducible apply ex_l' ; assumption) ; walk_at "ex")
  | ((with_reducible apply ex_t' ; assumption) ; walk_at "ex")
  | (intro _ ; walk_at "ev")
  | (with_reducible first | exact atI_hd | exact at_kind | exact at2s | exact at3s | exact at3i)
  | (first | exact rfl | exact Nat.le_of_ble_eq_true rfl | exact ⟨by decide, by decide⟩ | decide | exact Or.inl ⟨by omega, by omega⟩ | exact Or.inr ⟨by omega, by omega⟩ | omega)
  | skip)
local macro_rules | `(tactic| walk_at "ex") => `(tactic| first
  | assumption
  | exact Ex.refl _
  | (refine' Ex.trans ?_ (by assumption) ; walk_at "ex"))
local macro_rules | `(tactic| walk_at "row") => `(tactic| first
  | (with_reducible exact er_nil)
  | ((with_reducible apply er_cons) <;> walk_at "row")
  | (((with_reducible apply er_var) ; rfl) ; walk_at "isrow")
  | (((with_reducible apply elr_var) ; rfl) ; walk_at "isrow")
  | ((with_reducible apply elr_cat) <;> walk_at "row")
  | ((with_reducible apply elr_lst) <;> walk_at "row")
  | ((with_reducible apply er_fin) <;> walk_at "ev")
  | ((with_reducible apply er_lendT) <;> walk_at "ev")
  | ((with_reducible apply er_lendW) <;> walk_at "ev")
  | ((with_reducible apply er_pick) <;> walk_at "ev")
  | ((with_reducible apply er_either) <;> walk_at "ev")
  | ((with_reducible apply er_or) <;> walk_at "ev")
  | ((with_reducible apply er_again) <;> walk_at "ev")
  | ((with_reducible apply er_back) <;> walk_at "ev")
  | ((with_reducible apply er_look) <;> walk_at "ev")
  | ((with_reducible apply er_change) <;> walk_at "ev")
  | exact Nat.le_of_ble_eq_true rfl
  | skip)
local macro_rules | `(tactic| walk_at "isrow") => `(tactic| first
  | assumption
  | (refine IsRow.up ?_ (by assumption) ; walk_at "ex")
  | (refine LRows.up ?_ (by assumption) ; walk_at "ex"))

abbrev s_l_awake : Stmt := topS 28
theorem sc_l_awake : FnScope ["_law_held", "_law_lending", "_law_hands_here", "_law_one"] ["_law_held"] (defScope s_l_awake) := ⟨rfl, rfl, rfl, by decide +kernel, rfl, by decide +kernel, by decide +kernel⟩
def awakeM (es : List Ent) : List Ent :=
  (es.filter fun e => !decide (e.k = ("pick" : Str)) && e.o).filter fun e => !decide (e.w ∈ (es.filter fun e : Ent => e.o).map fun e : Ent => e.s)
theorem ent_at {H : Hp} {x : V} {e : Ent} (h : IsEnt H x e) : ∃ p, x = .ref p ∧ H p = some (.tup e.vs) := h
section
variable {P : Program} {w : World} {K : PySem.W.Frag} {mg : Str → Option Value} {base : Heap}
def spAwake (K : PySem.W.Frag) : Sp := fun vs H Q _ => ∃ (x : V) (es : List Ent), vs = [x] ∧ AHeld es x H ∧ es.length ≤ 1000 ∧ ∀ p us H2, H p = none → Ex H H2 → H2 p = some (.lst us) → Ents H2 us (awakeM es) → Q (.ref p) H2
theorem ok_awake (D : Dn K mg "_law_awake" s_l_awake ["_law_held"]) : Has P w K mg base "_law_awake" 1 ["_law_held"] (spAwake K) := by
  refine D.ok sc_l_awake (fun vs H Q E h => ?_) (fun f cdv A outer st H vs Q E hr h => ?_)
  · obtain ⟨x, es, rfl, _⟩ := h
    rfl
  · obtain ⟨x, es, rfl, hx, hlen, q⟩ := h
    obtain ⟨p, hv, rfl, hp, hE⟩ := hx
    have hP : SqT K H p hv := st_of hp
    have hle := hE.len
    refine ⟨_, (pss_cons (ps_set (i := 1) sc_l_awake.nd rfl (Or.inr rfl) (pe_lc (own := [("_law_one", 3)]) (g := (gName 3))  rfl sc_l_awake.nd (pi_tup (pv 0)) (blkOk_by (own := [("_law_one", 3)]) (N := ["_law_held", "_law_lending", "_law_hands_here", "_law_one"]) (sc := defScope s_l_awake) (by decide +kernel)) (fun _ _ _ _ _ => (pg_name (i := 3) sc_l_awake.nd rfl (Or.inl rfl))) (fun _ _ _ _ _ => (pts_one (pt_val (pe_ix (show IxR _ (rIxT K) from ix_tup) (pv 3) pe_int (fun _ _ => rfl))))) (fun _ _ _ _ _ => (pe_ix (show IxR _ (rIxT K) from ix_tup) (pv 3) pe_int (fun _ _ => rfl))))) (pss_cons (ps_setLc (i := 2) (own := [("_law_one", 3)]) (g := (gName 3))  rfl sc_l_awake.nd rfl rfl (sw_true rfl rfl rfl (by decide +kernel)) (pi_tup (pv 0)) (blkOk_by (own := [("_law_one", 3)]) (N := ["_law_held", "_law_lending", "_law_hands_here", "_law_one"]) (sc := defScope s_l_awake) (by decide +kernel)) (fun _ _ _ _ _ => (pg_name (i := 3) sc_l_awake.nd rfl (Or.inl rfl))) (fun _ _ _ _ _ => (pts_one (PW.pt (pw_and (pt_cmpR op_ne (pe_ix (show IxR _ (rIxT K) from ix_tup) (pv 3) pe_int (fun _ _ => rfl)) pe_str (nomark _)) (pw_and1 (pt_val (pe_ix (show IxR _ (rIxT K) from ix_tup) (pv 3) pe_int (fun _ _ => rfl)))))))) (fun _ _ _ _ _ => (pv 3))) (pss_one (ps_ret (pe_lc (own := [("_law_one", 3)]) (g := (gName 3))  rfl sc_l_awake.nd (pi_list (pv 2)) (blkOk_by (own := [("_law_one", 3)]) (N := ["_law_held", "_law_lending", "_law_hands_here", "_law_one"]) (sc := defScope s_l_awake) (by decide +kernel)) (fun _ _ _ _ _ => (pg_name (i := 3) sc_l_awake.nd rfl (Or.inl rfl))) (fun _ _ _ _ _ => (pts_one (pt_cmpR (show OpR _ _ (rIn K true) from op_notIn_seq) (pe_ix (show IxR _ (rIxT K) from ix_tup) (pv 3) pe_int (fun _ _ => rfl)) (pv 1) (by rfl)))) (fun _ _ _ _ _ => (pv 3))))))), ?_⟩
    show (_ : L2.TS) _ [_, _, _, _] _
    refine q_asgL (el_mapT (K := K) (fun e : Ent => e.o) (fun e : Ent => e.s) (ev_var rfl) hP hE (by omega) (fun x => rfl) (fun x e H1 _ hx => ?_) (fun x e H1 _ hx => ?_)) (fun pl H1 hpl e1 h1 => ?_)
    · exact et_B (ev_e4 rfl hx)
    · exact ev_e3 rfl hx
    show (_ : L2.TS) _ [_, _, _, _] _
    refine q_asgPL (epl_filterT (fun e => !decide (e.k = ("pick" : Str)) && e.o) (ev_var rfl) (ex_t e1 hP) (hE.up e1) (by omega) (fun x => rfl) (fun x e H2 _ hx => ?_) (fun x => rfl)) (fun ph us H2 hph e2 h2 hU => ?_)
    · rw [← dec_str]
      exact et_and (et_test (ev_ne (ev_e1 rfl hx) ev_c rfl)) (fun _ => et_B (ev_e4 rfl hx))
    show (_ : L2.TS) _ [_, _, _, _] _
    have hL2 : SqL K H2 pl (((es.filter fun e : Ent => e.o).map fun e : Ent => e.s).map V.str) := ex_l e2 (sq_of h1)
    have hul := hU.len
    have hfl := List.length_filter_le (fun e : Ent => !decide (e.k = ("pick" : Str)) && e.o) es
    refine (epl_filterE (fun e => !decide (e.w ∈ (es.filter fun e : Ent => e.o).map fun e : Ent => e.s)) (ev_var rfl) (sq_of h2) hU (by omega) (fun x => rfl) (fun x e H3 e3 hx => ?_) (fun x => rfl)) H2 (Ex.refl H2) _ fun pz zs H3 hpz e3 h3 hZ => q pz zs H3 (fresh_back (e1.trans e2) hpz) ((e1.trans e2).trans e3) h3 hZ
    exact et_test (ev_notInLs (ev_e0 rfl hx) (ev_var rfl) (ex_l e3 hL2))
theorem epl_awake {x : V} {es : List Ent} {ta : TA} {σ : L2.St} {H : Hp} {E : XK} (h : EvA ta σ H [x]) (hx : AHeld es x H) (hl : es.length ≤ 1000) : EvPL (tCall (spAwake K) [] E ta) σ H (fun us H2 => Ents H2 us (awakeM es)) := fun H1 e Q q =>
  h H1 e _ fun H2 e2 => ⟨x, es, rfl, hx.up (e.trans e2), hl, fun p us H3 hp e3 h3 hs => q p us H3 (fresh_back e2 hp) (e2.trans e3) h3 hs⟩
end
end BD
namespace BD
open PySem PySem.Spec PyProof.Rows L2 Evl
local macro_rules | `(tactic| walk_at "ev") => `(tactic| first
  | ((with_reducible apply ev_var) ; rfl)
  | with_reducible exact ev_c
  | ((with_reducible apply ev_I0) <;> walk_at "ev")
  | ((with_reducible apply ev_e9) <;> walk_at "ev")
  | ((with_reducible apply ev_I) <;> walk_at "ev")
  | ((with_reducible apply ev_eq) <;> walk_at "ev")
  | ((with_reducible apply ev_ne) <;> walk_at "ev")
  | ((with_reducible apply ev_neg) <;> walk_at "ev")
  | ((with_reducible apply ev_ixN) <;> walk_at "ev")
  | ((with_reducible apply ev_ixL) <;> walk_at "ev")
  | ((with_reducible apply ev_inN) <;> walk_at "ev")
  | ((with_reducible apply ev_inT) <;> walk_at "ev")
  | ((with_reducible apply ev_ixT) <;> walk_at "ev")
  | ((with_reducible apply ev_ixS) <;> walk_at "ev")
  | ((with_reducible apply ev_len') <;> walk_at "ev")
  | ((with_reducible apply et_test) <;> walk_at "ev")
  | ((with_reducible apply et_and) <;> walk_at "ev")
  | ((with_reducible apply et_or) <;> walk_at "ev")
  | ((with_reducible apply et_not) <;> walk_at "ev")
  | ((with_reducible apply et_B) <;> walk_at "ev")
  | ((with_reducible apply el_lst) <;> walk_at "ev")
  | ((with_reducible apply eu_tup) <;> walk_at "ev")
  | ((with_reducible apply ea_cons) <;> walk_at "ev")
  | with_reducible exact ea_nil
  | with_reducible assumption
  | ((with_reducible apply ex_l' ; assumption) ; walk_at "ex")
  | ((with_reducible apply ex_t' ; assumption) ; walk_at "ex")
  | (intro _ ; walk_at "ev")
  | (with_reducible first | exact atI_hd | exact at_kind | exact at2s | exact at3s | exact at3i)
  | (first | exact rfl | exact Nat.le_of_ble_eq_true rfl | exact ⟨by decide, by decide⟩ | decide | exact Or.inl ⟨by omega, by omega⟩ | exact Or.inr ⟨by omega, by omega⟩ | omega)
  | skip)
local macro_rules | `(tactic| walk_at "ex") => `(tactic| first
  | assumption
  | exact Ex.refl _
  | (refine' Ex.trans ?_ (by assumption) ; walk_at "ex"))
local macro_rules | `(tactic| walk_at "row") => `(tactic| first
  | (with_reducible exact er_nil)
  | ((with_reducible apply er_cons) <;> walk_at "row")
  | (((with_reducible apply er_var) ; rfl) ; walk_at "isrow")
  | (((with_reducible apply elr_var) ; rfl) ; walk_at "isrow")
  | ((with_reducible apply elr_cat) <;> walk_at "row")
  | ((with_reducible apply elr_lst) <;> walk_at "row")
  | ((with_reducible apply er_fin) <;> walk_at "ev")
  | ((with_reducible apply er_lendT) <;> walk_at "ev")
  | ((with_reducible apply er_lendW) <;> walk_at "ev")
  | ((with_reducible apply er_pick) <;> walk_at "ev")
  | ((with_reducible apply er_either) <;> walk_at "ev")
  | ((with_reducible apply er_or) <;> walk_at "ev")
  | ((with_reducible apply er_again) <;> walk_at "ev")
  | ((with_reducible apply er_back) <;> walk_at "ev")
  | ((with_reducible apply er_look) <;> walk_at "ev")
  | ((with_reducible apply er_change) <;> walk_at "ev")
  | exact Nat.le_of_ble_eq_true rfl
  | skip)
local macro_rules | `(tactic| walk_at "isrow") => `(tactic| first
  | assumption
  | (refine IsRow.up ?_ (by assumption) ; walk_at "ex")
  | (refine LRows.up ?_ (by assumption) ; walk_at "ex"))

local macro_rules | `(tactic| walk_at "ev") => `(tactic| (((with_reducible apply ev_tag) ; rfl) ; walk_at "isrow"))
abbrev s_l_fault : Stmt := topS 29
theorem sc_l_fault : FnScope ["_law_row_here", "_law_held", "_law_loans", "_law_place", "_law_one", "_law_other", "_law_hand"] ["_law_row_here", "_law_held"] (defScope s_l_fault) := ⟨rfl, rfl, rfl, by decide +kernel, rfl, by decide +kernel, by decide +kernel⟩
def clash (a b : Ent) : Bool := decide (a.t = b.t) && decide (("write" : Str) ∈ [a.k, b.k])
def besideM (ls : List Ent) : Bool := (List.range ls.length).any fun i => (ls.take i).any fun o => clash (ls.getD i ent0) o
def handM : Rw → Str
  | .look h => h
  | .change h => h
  | .lend _ _ (.word u) => u
  | _ => ""
def Rw.sees : Rw → Bool
  | .look _ => true | .change _ => true | _ => false
def faultM (r : Rw) (es : List Ent) : Str :=
  if besideM (awakeM es) = true then "beside"
  else if (es.any fun e => decide (e.w = handM r) && !e.o) = true then "empty"
  else if (r.sees && !decide (handM r ∈ (awakeM es).map Ent.w)) = true then "asleep" else ""
theorem tag_sees (r : Rw) : inV (.str r.tag) [V.str "look", V.str "change"] = r.sees := by cases r <;> rfl
section
variable {P : Program} {w : World} {K : PySem.W.Frag} {mg : Str → Option Value} {base : Heap}
def spFault (K : PySem.W.Frag) : Sp := fun vs H Q _ => ∃ (y x : V) (r : Rw) (es : List Ent), vs = [y, x] ∧ IsRow H y r ∧ AHeld es x H ∧ es.length ≤ 1000 ∧ RetV (.str (faultM r es)) H Q
theorem ok_fault (D : Dn K mg "_law_fault" s_l_fault ["_law_row_here", "_law_held"]) (T : Blt mg) (h_l_awake : Has P w K mg base "_law_awake" 1 ["_law_held"] (spAwake K)) : Has P w K mg base "_law_fault" 2 ["_law_row_here", "_law_held"] (spFault K) := by
  refine D.ok sc_l_fault (fun vs H Q E h => ?_) (fun f cdv A outer st H vs Q E hr h => ?_)
  · obtain ⟨y, x, r, es, rfl, _⟩ := h
    rfl
  · obtain ⟨y, x, r, es, rfl, hY, hx, hlen, q⟩ := h
    obtain ⟨p, hv, rfl, hp, hE⟩ := id hx
    have hP : SqT K H p hv := st_of hp
    have hle := hE.len
    obtain ⟨py, ys, rfl, hpy⟩ := hY.tup
    refine ⟨_, (pss_cons (ps_set (i := 2) sc_l_fault.nd rfl (Or.inl rfl) (pe_own h_l_awake (hr.mono (by decide)) (by rfl) (pa_cons (pv 1) pa_nil))) (pss_cons (ps_for PassesOwn.never rfl (pi_enum (by rfl) T.enumerate_ (pa_cons (pv 2) pa_nil)) (pg_tup rfl (pgs_cons (pg_name (i := 3) sc_l_fault.nd rfl (Or.inl rfl)) (pgs_cons (pg_name (i := 4) sc_l_fault.nd rfl (Or.inl rfl)) pgs_nil))) (pss_one (ps_for PassesOwn.never rfl (pi_list (pe_slice sl_list (pv 2) po_none (po_some (pv 3)))) (pg_name (i := 5) sc_l_fault.nd rfl (Or.inl rfl)) (pss_one (ps_if (PW.pt (pw_and (pt_cmpR op_eq (pe_ix (show IxR _ (rIxT K) from ix_tup) (pv 4) pe_int (fun _ _ => rfl)) (pe_ix (show IxR _ (rIxT K) from ix_tup) (pv 5) pe_int (fun _ _ => rfl)) (nomark _)) (pw_and1 (pt_cmpR (show OpR _ _ (rIn K false) from op_in_seq) pe_str (pe_lst (pa_cons (pe_ix (show IxR _ (rIxT K) from ix_tup) (pv 4) pe_int (fun _ _ => rfl)) (pa_cons (pe_ix (show IxR _ (rIxT K) from ix_tup) (pv 5) pe_int (fun _ _ => rfl)) pa_nil))) (by rfl))))) (pss_one (ps_ret pe_str)) pss_nil))))) (pss_cons (ps_set (i := 6) sc_l_fault.nd rfl (Or.inl rfl) pe_str) (pss_cons (ps_if (pt_cmpR (show OpR _ _ (rIn K false) from op_in_seq) (pe_ix (show IxR _ (rIxT K) from ix_tup) (pv 0) pe_int (fun _ _ => rfl)) (pe_lst (pa_cons pe_str (pa_cons pe_str pa_nil))) (by rfl)) (pss_one (ps_set (i := 6) sc_l_fault.nd rfl (Or.inl rfl) (pe_ix (show IxR _ (rIxT K) from ix_tup) (pv 0) pe_int (fun _ _ => rfl)))) pss_nil) (pss_cons (ps_if (PW.pt (pw_and (pt_cmpR op_eq (pe_ix (show IxR _ (rIxT K) from ix_tup) (pv 0) pe_int (fun _ _ => rfl)) pe_str (nomark _)) (pw_and1 (pt_val (pe_callB (show CallR _ _ (rIsi K) from call_isi) (by rfl) T.isinstance_ (by decide +kernel) (pa_cons (pe_ix (show IxR _ (rIxT K) from ix_tup) (pv 0) pe_int (fun _ _ => rfl)) (pa_cons (pe_bltn (v := .ty "str") (by rfl) T.str_ (by decide +kernel) rfl) pa_nil))))))) (pss_one (ps_set (i := 6) sc_l_fault.nd rfl (Or.inl rfl) (pe_ix (show IxR _ (rIxT K) from ix_tup) (pv 0) pe_int (fun _ _ => rfl)))) pss_nil) (pss_cons (ps_for PassesOwn.never rfl (pi_tup (pv 1)) (pg_name (i := 4) sc_l_fault.nd rfl (Or.inl rfl)) (pss_one (ps_if (PW.pt (pw_and (pt_cmpR op_eq (pe_ix (show IxR _ (rIxT K) from ix_tup) (pv 4) pe_int (fun _ _ => rfl)) (pv 6) (nomark _)) (pw_and1 (pt_not (pt_val (pe_ix (show IxR _ (rIxT K) from ix_tup) (pv 4) pe_int (fun _ _ => rfl))))))) (pss_one (ps_ret pe_str)) pss_nil))) (pss_cons (ps_if (PW.pt (pw_and (pt_cmpR (show OpR _ _ (rIn K false) from op_in_seq) (pe_ix (show IxR _ (rIxT K) from ix_tup) (pv 0) pe_int (fun _ _ => rfl)) (pe_lst (pa_cons pe_str (pa_cons pe_str pa_nil))) (by rfl)) (pw_and1 (pt_cmpR (show OpR _ _ (rIn K true) from op_notIn_seq) (pv 6) (pe_lc (own := [("_law_one", 4)]) (g := (gName 4)) (tt := tYes) rfl sc_l_fault.nd (pi_list (pv 2)) (blkOk_by (own := [("_law_one", 4)]) (N := ["_law_row_here", "_law_held", "_law_loans", "_law_place", "_law_one", "_law_other", "_law_hand"]) (sc := defScope s_l_fault) (by decide +kernel)) (fun _ _ _ _ _ => (pg_name (i := 4) sc_l_fault.nd rfl (Or.inl rfl))) (fun _ _ _ _ _ => pts_nil) (fun _ _ _ _ _ => (pe_ix (show IxR _ (rIxT K) from ix_tup) (pv 4) pe_int (fun _ _ => rfl)))) (by rfl))))) (pss_one (ps_ret pe_str)) pss_nil) (pss_one (ps_ret pe_str))))))))), ?_⟩
    show (_ : L2.TS) _ [_, _, _, _, _, _, _] _
    unfold faultM at q
    refine q_asgPL (epl_awake (x := .ref p) (es := es) ?_ hx hlen) (fun pl us H1 hpl e1 h1 hU => ?_)
    · walk_at "ev"
    show (_ : L2.TS) _ [_, _, _, _, _, _, _] _
    have hul := hU.len
    have hal : (awakeM es).length ≤ 1000 := by
      have h1 := List.length_filter_le (fun e : Ent => !decide (e.w ∈ (es.filter fun e : Ent => e.o).map fun e : Ent => e.s)) (es.filter fun e => !decide (e.k = ("pick" : Str)) && e.o)
      have h2 := List.length_filter_le (fun e : Ent => !decide (e.k = ("pick" : Str)) && e.o) es
      unfold awakeM
      omega
    generalize awakeM es = ls at *
    have hL1 : SqL K H1 pl us := sq_of h1
    refine q_forE (K := K) (a := pl) (xs := us) (ev_var rfl) hL1 (fun i σ' H' => Ex H1 H' ∧ ((List.range i).any fun i => (ls.take i).any fun o => clash (ls.getD i ent0) o) = false ∧ ∃ a b c, σ' = [some (.ref py), some (.ref p), some (.ref pl), a, b, c, none]) ?_ (fun i σ' H' _ h => ex_l h.1 hL1) ?_ ?_
    · intro H2 e2
      exact ⟨e2, rfl, none, none, none, rfl⟩
    · rintro i x σ' H' H2 hi ⟨eH, hno, a, b, c, rfl⟩ e2
      obtain ⟨e, he, hX⟩ := hU.at hi
      have hil := (List.getElem?_eq_some_iff.mp he).1
      have e12 : Ex H1 H2 := eH.trans e2
      have hX2 : IsEnt H2 x e := hX.up e12
      have hU2 : Ents H2 (us.take i) (ls.take i) := ents_take i (hU.up e12)
      have hed : ls.getD i ent0 = e := by rw [List.getD_eq_getElem?_getD, he]; rfl
      refine s_forNLn (xs := us.take i) ?_ (fun p2 j σ2 H3 => Ex H2 H3 ∧ SqL K H3 p2 (us.take i) ∧ (((ls.take i).take j).any fun o => clash e o) = false ∧ ∃ c, σ2 = [some (.ref py), some (.ref p), some (.ref pl), some (.int (i : Int)), some x, c, none]) ?_ (fun p2 j σ2 H3 _ h => h.2.1) ?_ ?_
      · rw [← cut_take]
        exact el_sl (ev_var rfl) eo_none (eo_some (ev_var rfl)) (ex_l e12 hL1)
      · intro p2 H3 hp2 e3 h3
        exact ⟨e3, sq_of h3, rfl, c, rfl⟩
      · rintro p2 j z σ2 H3 hj ⟨e3, h3, hno2, c2, rfl⟩
        obtain ⟨o, ho, hO⟩ := hU2.at hj
        have hX3 := hX2.up e3
        have hO3 := hO.up e3
        refine s_when (b := decide (V.int e.t = V.int o.t) && decide (("write" : Str) ∈ [e.k, o.k])) ?_ (fun hb H4 e4 => ?_) (fun hb H4 e4 => ?_)
        · refine et_and (et_test (ev_eq (ev_e2 rfl hX3) (ev_e2 rfl hO3) rfl)) (fun _ => et_test ?_)
          rw [← inV_strs]
          exact ev_inN ev_c (ea_cons (ev_e1 rfl hX3) (ea_cons (ev_e1 rfl hO3) ea_nil)) (Nat.le_of_ble_eq_true rfl) rfl rfl
        · have hcl : clash e o = true := by
            unfold clash
            simp only [Bool.and_eq_true, decide_eq_true_eq, V.int.injEq] at hb ⊢
            exact hb
          have hbes : besideM ls = true := by
            unfold besideM
            refine List.any_eq_true.mpr ⟨i, List.mem_range.mpr hil, List.any_eq_true.mpr ⟨o, List.mem_of_getElem? ho, ?_⟩⟩
            rw [hed]
            exact hcl
          rw [if_pos hbes] at q
          exact s_ret ev_c (fun H5 e5 => q H5 (e1.trans (e12.trans (e3.trans (e4.trans e5)))))
        · have hcl : clash e o = false := by
            unfold clash
            simp only [Bool.and_eq_false_iff, decide_eq_false_iff_not, V.int.injEq] at hb ⊢
            exact hb
          refine ⟨e3.trans e4, ex_l e4 h3, ?_, some z, rfl⟩
          rw [List.take_add_one, ho, List.any_append, hno2]
          show (false || ([o].any fun o => clash e o)) = false
          rw [List.any_cons, hcl]
          rfl
      · rintro p2 σ2 H3 ⟨e3, h3, hno2, c2, rfl⟩
        refine ⟨e12.trans e3, ?_, some (.int (i : Int)), some x, c2, rfl⟩
        rw [any_range_succ, hno, hed]
        have hll : (us.take i).length = (ls.take i).length := hU2.len
        rw [hll, List.take_length] at hno2
        rw [hno2]
        rfl
    · rintro σ' H' ⟨eH, hno, a, b, c, rfl⟩
      have hbes : ¬ besideM ls = true := by
        unfold besideM
        rw [hul] at hno
        rw [hno]
        decide
      rw [if_neg hbes] at q
      have e0 : Ex H H' := e1.trans eH
      have hY' := hY.up e0
      have hL' := ex_l eH hL1
      have hU' := hU.up eH
      have hP' := ex_t e0 hP
      have hE' := hE.up e0
      clear e1 eH hL1 h1 hpl
      refine q_asg ev_c (fun H2 e2 => ?_)
      show (_ : L2.TS) _ [_, _, _, _, _, _, _] _
      have hY2 := hY'.up e2
      -- the hand of a look, of a change
      refine q_ifAsg (i := 6) (v := .str (if r.sees = true then handM r else "")) (b := r.sees) ?_ (fun hb => ?_) (fun hb => ?_) (fun H3 e3 => ?_)
      · rw [← tag_sees]
        walk_at "ev"
      · rw [if_pos hb]
        cases r with
        | look h => obtain ⟨p', hp1, hp2⟩ := hY2; cases hp1; exact ev_ixT (ev_var rfl) (st_of hp2) ev_c rfl
        | change h => obtain ⟨p', hp1, hp2⟩ := hY2; cases hp1; exact ev_ixT (ev_var rfl) (st_of hp2) ev_c rfl
        | _ => cases hb
      · rw [hb]
        rfl
      show (_ : L2.TS) _ [_, _, _, _, _, _, _] _
      have hY3 := hY2.up e3
      -- the hand of a lend's source
      refine q_ifAsg (i := 6) (v := .str (handM r)) (b := r.isLend && (match r with
        | .lend _ _ (.word _) => true
        | _ => false)) ?_ (fun hb => ?_) (fun hb => ?_) (fun H4 e4 => ?_)
      · rw [← tag_lend]
        cases r with
        | lend h k s =>
          obtain ⟨p', hp1, hp2⟩ := id hY3
          cases hp1
          refine et_and (et_test (ev_eq (ev_tag rfl hY3) ev_c rfl)) (fun _ => et_B ?_)
          cases s with
          | thing n => exact ev_isiI (ea_cons (ev_ixT (ev_var rfl) (st_of hp2) ev_c rfl) (ea_cons ev_c ea_nil)) (show kitB "int" "str" = some false by decide +kernel)
          | word u => exact ev_isiS (ea_cons (ev_ixT (ev_var rfl) (st_of hp2) ev_c rfl) (ea_cons ev_c ea_nil)) (show kitB "str" "str" = some true by decide +kernel)
        | _ => exact et_is (et_and (b := false) (et_test (ev_eq (ev_tag rfl hY3) ev_c rfl)) (fun hz => absurd hz (by simp [Rw.tag, tag_lend] <;> decide))) (Bool.and_false _)
      · cases r with
        | lend h k s =>
          cases s with
          | thing n => cases hb
          | word u => obtain ⟨p', hp1, hp2⟩ := hY3; cases hp1; exact ev_ixT (ev_var rfl) (st_of hp2) ev_c rfl
        | _ => cases hb
      · cases r with
        | lend h k s =>
          cases s with
          | thing n => rfl
          | word u => cases hb
        | _ => rfl
      show (_ : L2.TS) _ [_, _, _, _, _, _, _] _
      have e24 : Ex H' H4 := e2.trans (e3.trans e4)
      refine q_forT (K := K) (a := p) (xs := hv) (ev_var rfl) (ex_t e24 hP') (fun i σ2 H5 => Ex H4 H5 ∧ ((es.take i).any fun e => decide (e.w = handM r) && !e.o) = false ∧ ∃ b, σ2 = [some (.ref py), some (.ref p), some (.ref pl), a, b, c, some (.str (handM r))]) ?_ (fun i σ2 H5 _ h => ex_t (e24.trans h.1) hP') ?_ ?_
      · intro H5 e5
        exact ⟨e5, rfl, b, rfl⟩
      · rintro i x σ2 H5 hi ⟨e5, hno5, b5, rfl⟩
        obtain ⟨e, he, hX⟩ := hE'.at hi
        have hX5 : IsEnt H5 x e := hX.up (e24.trans e5)
        refine s_when (b := decide (V.str e.w = V.str (handM r)) && !e.o) ?_ (fun hb H6 e6 => ?_) (fun hb H6 e6 => ?_)
        · exact et_and (et_test (ev_eq (ev_e0 rfl hX5) (ev_var rfl) rfl)) (fun _ => et_not (et_B (ev_e4 rfl hX5)))
        · rw [dec_str] at hb
          have hany : (es.any fun e => decide (e.w = handM r) && !e.o) = true := List.any_eq_true.mpr ⟨e, List.mem_of_getElem? he, hb⟩
          rw [if_pos hany] at q
          exact s_ret ev_c (fun H7 e7 => q H7 (e0.trans (e24.trans (e5.trans (e6.trans e7)))))
        · rw [dec_str] at hb
          refine ⟨e5.trans e6, ?_, some x, rfl⟩
          rw [List.take_add_one, he, List.any_append, hno5]
          show (false || ([e].any fun e => decide (e.w = handM r) && !e.o)) = false
          rw [List.any_cons, hb]
          rfl
      · rintro σ2 H5 ⟨e5, hno5, b5, rfl⟩
        rw [hle, List.take_length] at hno5
        rw [if_neg (by rw [hno5]; decide)] at q
        have e25 : Ex H' H5 := e24.trans e5
        have hY5 := hY'.up e25
        refine q_when (b := r.sees && !decide (handM r ∈ ls.map Ent.w)) ?_ (fun hb H6 e6 => ?_) (fun hb H6 e6 => ?_)
        · rw [← tag_sees]
          refine et_and (et_test (ev_inN (ev_tag rfl hY5) (ea_cons ev_c (ea_cons ev_c ea_nil)) (Nat.le_of_ble_eq_true rfl) rfl rfl)) (fun _ => et_test ?_)
          have hml := el_mapL (K := K) (tl := tVar 2) (te := tOp (rIxT K) (tVar 4) (tC (.int 0))) (σ := [some (.ref py), some (.ref p), some (.ref pl), a, b5, c, some (.str (handM r))]) (j := 4) (ws := [4]) Ent.w (ev_var rfl) (ex_l e25 hL') (hU'.up e25) (by omega) (fun x => rfl) (fun x e H6 _ hx => ev_e0 rfl hx)
          rw [← inV_strs]
          exact ev_opL (ev_var rfl) hml fun _ _ hz _ => rv_niL (sq_of hz) rfl (flat_strs _)
        · rw [if_pos hb] at q
          exact s_ret ev_c (fun H7 e7 => q H7 (e0.trans (e25.trans (e6.trans e7))))
        · rw [if_neg (by rw [hb]; decide)] at q
          exact s_ret ev_c (fun H7 e7 => q H7 (e0.trans (e25.trans (e6.trans e7))))
theorem ev_fault {y x : V} {r : Rw} {es : List Ent} {ta : TA} {σ : L2.St} {H : Hp} {E : XK} (h : EvA ta σ H [y, x]) (hY : IsRow H y r) (hx : AHeld es x H) (hl : es.length ≤ 1000) : Ev (tCall (spFault K) [] E ta) σ H (.str (faultM r es)) :=
  ev_call h fun H1 e Q q E => ⟨y, x, r, es, rfl, hY.up e, hx.up e, hl, q⟩
end
end BD
namespace BD
open PySem PySem.Spec PyProof.Rows L2 Evl
/-! ### list(reversed(xs)) -/
section
variable {prog : Program} {w : World} {A : Around} {E : Value → Shared → Prop} {s : Shared}
theorem grow_rev {R : Result → Shared → Prop} {it l : Addr} {its : Array Value} (hnh : A.handled = none) (h1 : s.heap.IsRevIter it l ((its.size : Int) - 1)) (h2 : s.heap.IsList l its) (h3 : l ≠ it) (h4 : its.size ≤ sizeLine) (S : Addr) (n1 : S ≠ it) (n2 : S ≠ l) (res : Value) (cap : Nat)
    (h5 : s.heap.get? S = some { cls := .type "list", data := .seq #[] cap }) (k : ∀ hp tk ac cp, (∀ b o, b ≠ S → b ≠ it → s.heap.get? b = some o → hp.get? b = some o) → hp.get? S = some { cls := .type "list", dict := none, data := .seq ac cp, slots := #[] } →
      ItemsOf (fun i v => its[its.size - 1 - i]? = some v) ac its.size → R (.ok (.ret res)) { s with heap := hp, toks := tk }) :
    wpAny (model prog w) A.in1 (Builtin.List.listExtendWith (.ref S) (.ref it) res)
      (fun fin s2 => match fin with | .done g => R (.ok g) s2 | .again c2 => c2.quiet = true ∧ codeAny (model prog w) A c2 R s2) (fun e s2 => R (.error e) s2) s := by
  have WW := (Walks.listRev (prog := prog) (w := w) (A := A.in1) hnh it l h3 its).toS
  have tyR : s.TypeIs (.ref it) "list_reverseiterator" := h1.typeIs
  have nin : S ∉ [it, l] := by
    simp only [List.mem_cons, List.not_mem_nil, or_false, not_or]
    exact ⟨n1, n2⟩
  have sr : Builtin.List.listSameRef (.ref S) (.ref it) = false := by
    unfold Builtin.List.listSameRef
    simp [n1]
  unfold Builtin.List.listExtendWith
  refine wpAny_bind (wpAny_typeOf tyR ?_)
  rw [if_neg (by rw [sr] ; decide)]
  refine wpAny_bind (wpAny_pyIter_revIter h1 (wpAny_bind (wpAny_holding ?_)))
  unfold Builtin.List.listLengthHint
  refine wpAny_bind (wpAny_specialOf tyR RT.nolen_lri (wpAny_bind (wpAny_specialOf tyR RT.hint_lri ?_)))
  generalize hnm : ("list_reverseiterator.__length_hint__" : String) = nm
  wp_delta
  rw [show splitId nm = some ("list_reverseiterator", "__length_hint__") by subst hnm ; decide +kernel]
  subst hnm
  refine wpAny_bind (wpAny_isInstance (b := true) tyR (by rw [isSubtype_type] ; kernel_rfl) (wpAny_pure ?_))
  rw [if_neg (by decide)]
  have ez : ((its.size : Nat) : Int) - 1 - ((0 : Nat) : Int) = (its.size : Int) - 1 := by omega
  refine wpAny_pure ⟨plainId_quiet F.plain_extend_loop _, codeAny_extend_loopS WW h4 _ nin _ its.size 0 _ _ _ rfl (Nat.zero_le _) ⟨Nat.zero_le _, by rw [ez] ; exact h1, h2⟩ h5 (ItemsOf.nil _) fun s2 ac cp mv g2 ia => ?_⟩
  rw [Moved.eq_with mv]
  refine k s2.heap s2.toks ac cp (fun b o b1 b2 e => mv.heap b o (fun z => ?_) e) g2 ia
  rcases List.mem_cons.mp z with z | z
  · exact b1 z
  · exact b2 (List.mem_singleton.mp z)
theorem init_rev {R : Result → Shared → Prop} {it l : Addr} {its : Array Value} (hnh : A.handled = none) (h1 : s.heap.IsRevIter it l ((its.size : Int) - 1)) (h2 : s.heap.IsList l its) (h3 : l ≠ it) (h4 : its.size ≤ sizeLine) (S : Addr) (n1 : S ≠ it) (n2 : S ≠ l)
    (h5 : s.heap.get? S = some { cls := .type "list", data := .seq #[] }) (k : ∀ hp tk ac cp, (∀ b o, b ≠ S → b ≠ it → s.heap.get? b = some o → hp.get? b = some o) → hp.get? S = some { cls := .type "list", dict := none, data := .seq ac cp, slots := #[] } →
      ItemsOf (fun i v => its[its.size - 1 - i]? = some v) ac its.size → R (.ok (.ret .none)) { s with heap := hp, toks := tk }) :
    wpAny (model prog w) A.in1 (Builtin.«list.__init__» ⟨[.ref S, .ref it], []⟩)
      (fun fin s2 => match fin with | .done g => R (.ok g) s2 | .again c2 => c2.quiet = true ∧ codeAny (model prog w) A c2 R s2) (fun e s2 => R (.error e) s2) s := by
  show wpAny _ A.in1 (Builtin.List.listItems (.ref S) >>= fun old => Builtin.List.listUpdate (.ref S) (fun _ => #[]) >>= fun _ => letGo old.toList.reverse >>= fun _ => Builtin.List.listExtendWith (.ref S) (.ref it) .none) _ _ s
  unfold Builtin.List.listItems
  refine wpAny_bind (wpAny_bind (wpAny_seqItems h5 rfl (wpAny_pure ?_)))
  refine wpAny_bind (show wpAny _ A.in1 (updateSeq S (fun _ => #[])) _ _ s from wpAny_updateSeq h5 rfl ?_)
  have ot : ∀ b o, b ≠ S → s.heap.get? b = some o → (s.heap.update S (Obj.mapSeq (fun _ => (#[] : Array Value)))).get? b = some o := fun b o n e => (Heap.get?_update_other _ _ (Ne.symm n)).trans e
  have g0 := Heap.get?_update_self (Obj.mapSeq (fun _ => (#[] : Array Value))) h5 rfl
  refine wpAny_bind (show wpAny _ A.in1 (letGo (#[] : Array Value).toList.reverse) _ _ _ from wpAny_letGo ?_)
  obtain ⟨oi, gi, xi⟩ := h1
  obtain ⟨ol, gl, xl⟩ := h2
  refine grow_rev hnh ⟨oi, ot _ _ n1.symm gi, xi⟩ ⟨ol, ot _ _ n2.symm gl, xl⟩ h3 h4 S n1 n2 .none _ g0 fun hp tk ac cp kp g2 ia => ?_
  exact k hp tk ac cp (fun b o b1 b2 e => kp b o b1 b2 (ot b o b1 e)) g2 ia
theorem call_lstRev {Q : Value → Shared → Prop} {it l : Addr} {its : Array Value} (hnh : A.handled = none) (h1 : s.heap.IsRevIter it l ((its.size : Int) - 1)) (h2 : s.heap.IsList l its) (h3 : l ≠ it) (h4 : its.size ≤ sizeLine)
    (k : ∀ hp tk ac cp, (∀ b o, b ≠ it → s.heap.get? b = some o → hp.get? b = some o) → hp.get? s.heap.objs.size = some { cls := .type "list", dict := none, data := .seq ac cp, slots := #[] } →
      ItemsOf (fun i v => its[its.size - 1 - i]? = some v) ac its.size → Q (.ref s.heap.objs.size) { s with heap := hp, toks := tk }) : wpAny (model prog w) A (call (.type "list") [.ref it]) Q E s := by
  refine callType_codes (Q₁ := fun ob sn => ob = .ref s.heap.objs.size ∧ sn = { s with heap := s.heap.push { cls := .type "list", data := .seq #[] } }) F.called_list (F.typeCall_list_1 _) F.entry_list_init (code_list_new _ ⟨rfl, rfl⟩) ?_
  rintro _ _ ⟨rfl, rfl⟩
  have g0 : (s.heap.push { cls := .type "list", data := .seq #[] }).get? s.heap.objs.size = some { cls := .type "list", data := .seq #[] } := Heap.get?_push_size _ rfl
  obtain ⟨oi, gi, xi⟩ := h1
  obtain ⟨ol, gl, xl⟩ := h2
  refine ⟨⟨_, g0, rfl⟩, F.args_list_init_2 _ _, init_rev (A := A.in1) hnh ⟨oi, Heap.get?_push_of_some _ gi, xi⟩ ⟨ol, Heap.get?_push_of_some _ gl, xl⟩ h3 h4 s.heap.objs.size (Nat.ne_of_gt (Heap.lt_size gi)) (Nat.ne_of_gt (Heap.lt_size gl)) g0 fun hp tk ac cp kp g2 ia => ⟨rfl, ?_⟩⟩
  exact k hp tk ac cp (fun b o n e => kp b o (Nat.ne_of_lt (Heap.lt_size e)) n (Heap.get?_push_of_some _ e)) g2 ia
end
section
variable {X : Cx}
/-- list(reversed(x)), x a list: a new list -/
def tLstRev (K : PySem.W.Frag) (te : TE) : TE := fun σ H Q => te σ H fun v H1 => ∃ (a : Addr) (xs : List V), v = .ref a ∧ SqL K H1 a xs ∧ ∀ q, H1 q = none → Q (.ref q) (upd H1 q (.lst xs.reverse))
theorem pe_lstRev {e : Expr} {te : TE} {p p2 pos pos2 : Pos} (hc : X.calm = true) (g1 : Gl X "list") (m1 : X.mg "list" = none) (g2 : Gl X "reversed") (m2 : X.mg "reversed" = none) (he : PE X e te)
    (n1 : starEach [e] X.env = (false, eval e X.env) :: starEach [] X.env := by rfl)
    (n2 : starEach [.Call (.Name "reversed" p2) [e] [] pos2] X.env = (false, eval (.Call (.Name "reversed" p2) [e] [] pos2) X.env) :: starEach [] X.env := by rfl) :
    PE X (.Call (.Name "list" p) [.Call (.Name "reversed" p2) [e] [] pos2] [] pos) (tLstRev X.K te) := by
  refine ⟨fun pins s σ H Q I0 h => ?_⟩
  refine Call_ (ld_blt I0 g1 m1 boot_list (PyProof.Rows.callWith_type1 (args_cons (Call_ (ld_blt I0 g2 m2 PyProof.Rows.boot_reversed (PyProof.Rows.callWith_type1 (args_cons (thn (he.run pins s σ H _ I0 h) ?_) n1) n1 rfl))) n2) n2 rfl))
  rintro u s1 ⟨v, H1, I1, rl, a, xs, rfl, hq, q⟩
  refine args_nil ?_
  obtain rfl : u = Value.ref a := rl
  obtain ⟨its, rv, pp, hz⟩ := I1.list hq
  refine call_reversed_list pp.isList (args_nil ?_)
  have I2 : Inv X pins σ H1 { s1 with heap := s1.heap.push (revObj a ((its.toArray.size : Int) - 1)) } := I1.kept (t' := s1.toks) fun b o e => Heap.get?_push_of_some _ e
  have fp := I1.fpOk (H' := H1) (b := s1.heap.objs.size) (Nat.le_refl _) (I1.hok.fresh (Nat.le_refl _))
  obtain ⟨ol, gl, xl⟩ := pp.isList
  have ne : a ≠ s1.heap.objs.size := Nat.ne_of_lt (Heap.lt_size gl)
  have sz : its.toArray.size ≤ sizeLine := by rw [List.size_toArray, ← rv.length] ; exact hz
  refine call_lstRev (s := { s1 with heap := s1.heap.push (revObj a ((its.toArray.size : Int) - 1)) }) (I1.ok.hd hc) ⟨_, Heap.get?_push_size _ rfl, rfl, rfl⟩ ⟨ol, Heap.get?_push_of_some _ gl, xl⟩ ne sz fun hp tk ac cp kp gS ia => ?_
  refine ⟨.ref _, upd H1 _ (.lst xs.reverse), I2.turnedNew (t' := tk) (ch := [s1.heap.objs.size]) (fun b o nb e => kp b o (fun z => nb (List.mem_singleton.mpr z)) e) (fun b z => by rw [List.mem_singleton.mp z] ; exact fp) (Nat.le_refl _)
    (show ObjOk X.prog X.w _ _ _ (.lst xs.reverse) from ⟨by rw [List.length_reverse] ; exact hz, ac.toList, cp, RT.vals_rev rv ia, by rw [Array.toArray_toList] ; exact gS⟩), rfl, q _ (I2.hok.fresh (Nat.le_refl _))⟩
end
end BD
namespace BD
open PySem PySem.Spec PyProof.Rows L2 Evl
local macro_rules | `(tactic| walk_at "ev") => `(tactic| first
  | ((with_reducible apply ev_var) ; rfl)
  | with_reducible exact ev_c
  | ((with_reducible apply ev_I0) <;> walk_at "ev")
  | ((with_reducible apply ev_e9) <;> walk_at "ev")
  | ((with_reducible apply ev_I) <;> walk_at "ev")
  | ((with_reducible apply ev_eq) <;> walk_at "ev")
  | ((with_reducible apply ev_ne) <;> walk_at "ev")
  | ((with_reducible apply ev_neg) <;> walk_at "ev")
  | ((with_reducible apply ev_ixN) <;> walk_at "ev")
  | ((with_reducible apply ev_ixL) <;> walk_at "ev")
  | ((with_reducible apply ev_inN) <;> walk_at "ev")
  | ((with_reducible apply ev_inT) <;> walk_at "ev")
  | ((with_reducible apply ev_ixT) <;> walk_at "ev")
  | ((with_reducible apply ev_ixS) <;> walk_at "ev")
  | ((with_reducible apply ev_len') <;> walk_at "ev")
  | ((with_reducible apply et_test) <;> walk_at "ev")
  | ((with_reducible apply et_and) <;> walk_at "ev")
  | ((with_reducible apply et_or) <;> walk_at "ev")
  | ((with_reducible apply et_not) <;> walk_at "ev")
  | ((with_reducible apply et_B) <;> walk_at "ev")
  | ((with_reducible apply el_lst) <;> walk_at "ev")
  | ((with_reducible apply eu_tup) <;> walk_at "ev")
  | ((with_reducible apply ea_cons) <;> walk_at "ev")
  | with_reducible exact ea_nil
  | with_reducible assumption
  | ((with_reducible apply ex_l' ; assumption) ; walk_at "ex")
  | ((with_reducible apply ex_t' ; assumption) ; walk_at "ex")
  | (intro _ ; walk_at "ev")
  | (with_reducible first | exact atI_hd | exact at_kind | exact at2s | exact at3s | exact at3i)
  | (first | exact rfl | exact Nat.le_of_ble_eq_true rfl | exact ⟨by decide, by decide⟩ | decide | exact Or.inl ⟨by omega, by omega⟩ | exact Or.inr ⟨by omega, by omega⟩ | omega)
  | skip)
local macro_rules | `(tactic| walk_at "ex") => `(tactic| first
  | assumption
  | exact Ex.refl _
  | (refine' Ex.trans ?_ (by assumption) ; walk_at "ex"))
local macro_rules | `(tactic| walk_at "row") => `(tactic| first
  | (with_reducible exact er_nil)
  | ((with_reducible apply er_cons) <;> walk_at "row")
  | (((with_reducible apply er_var) ; rfl) ; walk_at "isrow")
  | (((with_reducible apply elr_var) ; rfl) ; walk_at "isrow")
  | ((with_reducible apply elr_cat) <;> walk_at "row")
  | ((with_reducible apply elr_lst) <;> walk_at "row")
  | ((with_reducible apply er_fin) <;> walk_at "ev")
  | ((with_reducible apply er_lendT) <;> walk_at "ev")
  | ((with_reducible apply er_lendW) <;> walk_at "ev")
  | ((with_reducible apply er_pick) <;> walk_at "ev")
  | ((with_reducible apply er_either) <;> walk_at "ev")
  | ((with_reducible apply er_or) <;> walk_at "ev")
  | ((with_reducible apply er_again) <;> walk_at "ev")
  | ((with_reducible apply er_back) <;> walk_at "ev")
  | ((with_reducible apply er_look) <;> walk_at "ev")
  | ((with_reducible apply er_change) <;> walk_at "ev")
  | exact Nat.le_of_ble_eq_true rfl
  | skip)
local macro_rules | `(tactic| walk_at "isrow") => `(tactic| first
  | assumption
  | (refine IsRow.up ?_ (by assumption) ; walk_at "ex")
  | (refine LRows.up ?_ (by assumption) ; walk_at "ex"))

abbrev s_l_choices : Stmt := topS 30
theorem sc_l_choices : FnScope ["_law_script", "_law_cell"] ["_law_script"] (defScope s_l_choices) := ⟨rfl, rfl, rfl, by decide +kernel, rfl, by decide +kernel, by decide +kernel⟩
/-- the choices: the last twenty from behind -/
def choM (ns : List Int) : List Int := (ns.reverse.take 20).map fun x => x % 60
theorem choM_len (ns : List Int) : (choM ns).length ≤ 20 := by
  unfold choM
  rw [List.length_map]
  exact List.length_take_le _ _
section
variable {K : PySem.W.Frag} {σ : L2.St} {H H' : Hp} {ta tb te tl : TE} {tx ty : TO} {xs : List V}
theorem el_lstRev {p : Addr} (h : Ev te σ H (.ref p)) (hp : SqL K H p xs) : EvL (tLstRev K te) σ H xs.reverse := fun H1 e Q q =>
  h H1 e _ fun H2 e2 => ⟨p, xs, rfl, ex_l (e.trans e2) hp, fun l hl => q l _ (fresh_back e2 hl) (e2.trans (Ex.new hl)) upd_same⟩
theorem el_slN {lo hi : Option Int} (h : EvL te σ H xs) (h1 : EvO tx σ H lo) (h2 : EvO ty σ H hi) : EvL (tSl (rSlL K) te tx ty) σ H (cutV xs lo hi) := fun H1 e _ q =>
  h H1 e _ fun p H2 hp e2 hx => h1 H2 (e.trans e2) _ fun H3 e3 => h2 H3 ((e.trans e2).trans e3) _ fun H4 e4 =>
    ⟨p, xs, rfl, sq_of (e4 _ _ (e3 _ _ hx)), fun l hl => q l _ (fresh_back ((e2.trans e3).trans e4) hl) (((e2.trans e3).trans e4).trans (Ex.new hl)) upd_same⟩
theorem ev_sum {a : Addr} {ns : List Int} (h : Ev te σ H (.ref a)) (hS : SqL K H a (ns.map V.int)) : Ev (tCB (rSum K) (tCons te tNil)) σ H (.int ns.sum) := fun H1 e Q q =>
  h H1 e _ fun H2 e2 => ⟨a, ns, rfl, ex_l (e.trans e2) hS, q H2 e2⟩
end
section
variable {P : Program} {w : World} {K : PySem.W.Frag} {mg : Str → Option Value} {base : Heap}
def spCho (K : PySem.W.Frag) : Sp := fun vs H Q _ => ∃ (a : Addr) (ns : List Int), vs = [.ref a] ∧ SqL K H a (ns.map V.int) ∧ RetL ((choM ns).map V.int) H Q
theorem cho_given (ns : List Int) : (choM ns).map V.int = given (cutV (ns.map V.int).reverse none (some (20 : Nat))).length (fun _ => true) (fun i => .int ((ns.reverse.getD i 0) % 60)) := by
  rw [cut_take, given_all]
  unfold choM
  refine List.ext_getElem? fun i => ?_
  rw [List.map_map, List.getElem?_map, List.getElem?_map, List.length_take, List.length_reverse, List.length_map]
  by_cases hi : i < 20 ∧ i < ns.length
  · rw [List.getElem?_range (by omega), List.getElem?_take_of_lt hi.1]
    show _ = some (V.int (ns.reverse.getD i 0 % 60))
    rw [List.getD_eq_getElem?_getD, List.getElem?_eq_getElem (by rw [List.length_reverse] ; exact hi.2)]
    rfl
  · rw [List.getElem?_eq_none (l := List.range _) (by rw [List.length_range] ; omega), List.getElem?_eq_none (by rw [List.length_take, List.length_reverse] ; omega)]
    rfl
theorem ok_cho (D : Dn K mg "_law_choices" s_l_choices ["_law_script"]) (T : Blt mg) : Has P w K mg base "_law_choices" 1 ["_law_script"] (spCho K) := by
  refine D.ok sc_l_choices (fun vs H Q E h => ?_) (fun f cdv A outer s H vs Q E hr h => ?_)
  · obtain ⟨a, ns, rfl, _⟩ := h
    rfl
  · obtain ⟨a, ns, rfl, hS, q⟩ := h
    refine ⟨_, (pss_one (ps_ret (pe_lc (own := [("_law_cell", 1)]) (g := (gName 1)) (tt := tYes) rfl sc_l_choices.nd (pi_list (pe_slice sl_list (pe_lstRev rfl (by rfl) T.list_ (by rfl) T.reversed_ (pv 0)) po_none (po_some pe_int))) (blkOk_by (own := [("_law_cell", 1)]) (N := ["_law_script", "_law_cell"]) (sc := defScope s_l_choices) (by decide +kernel)) (fun _ _ _ _ _ => (pg_name (i := 1) sc_l_choices.nd rfl (Or.inl rfl))) (fun _ _ _ _ _ => pts_nil) (fun _ _ _ _ _ => (pe_op op_mod (pv 1) pe_int))))), ?_⟩
    show (_ : L2.TS) _ [_, _] _
    refine s_retL (xs := (choM ns).map V.int) ?_ (fun p H1 hp e1 h1 => q p H1 hp e1 h1)
    rw [cho_given]
    refine el_lcNL _ _ (el_slN (el_lstRev (ev_var rfl) hS) eo_none (eo_some ev_c)) ?_ (fun x => rfl) (fun i x H2 e2 hi => et_yes) (fun i x H2 e2 hi _ => ?_)
    · rw [cut_take]
      have := List.length_take_le 20 (ns.map V.int).reverse
      omega
    · rw [cut_take] at hi
      have h2 : (ns.map V.int).reverse[i]? = some x := by
        rw [List.getElem?_take] at hi
        split at hi
        · exact hi
        · cases hi
      rw [← List.map_reverse, List.getElem?_map] at h2
      cases h3 : ns.reverse[i]? with
      | none => rw [h3] at h2; cases h2
      | some n =>
        rw [h3] at h2
        cases h2
        rw [List.getD_eq_getElem?_getD, h3]
        exact ev_I (ev_var rfl) ev_c (by decide)
theorem el_cho {a : Addr} {ns : List Int} {ta : TA} {σ : L2.St} {H : Hp} {E : XK} (h : EvA ta σ H [.ref a]) (hS : SqL K H a (ns.map V.int)) : EvL (tCall (spCho K) [] E ta) σ H ((choM ns).map V.int) :=
  el_call h fun H1 e Q q E => ⟨a, ns, rfl, ex_l e hS, fun p H2 hp e2 h2 => q p H2 hp e2 h2⟩
end
end BD
namespace BD
open PySem PySem.Spec PyProof.Rows L2 Evl
local macro_rules | `(tactic| walk_at "ev") => `(tactic| first
  | ((with_reducible apply ev_var) ; rfl)
  | with_reducible exact ev_c
  | ((with_reducible apply ev_I0) <;> walk_at "ev")
  | ((with_reducible apply ev_e9) <;> walk_at "ev")
  | ((with_reducible apply ev_I) <;> walk_at "ev")
  | ((with_reducible apply ev_eq) <;> walk_at "ev")
  | ((with_reducible apply ev_ne) <;> walk_at "ev")
  | ((with_reducible apply ev_neg) <;> walk_at "ev")
  | ((with_reducible apply ev_ixN) <;> walk_at "ev")
  | ((with_reducible apply ev_ixL) <;> walk_at "ev")
  | ((with_reducible apply ev_inN) <;> walk_at "ev")
  | ((with_reducible apply ev_inT) <;> walk_at "ev")
  | ((with_reducible apply ev_ixT) <;> walk_at "ev")
  | ((with_reducible apply ev_ixS) <;> walk_at "ev")
  | ((with_reducible apply ev_len') <;> walk_at "ev")
  | ((with_reducible apply et_test) <;> walk_at "ev")
  | ((with_reducible apply et_and) <;> walk_at "ev")
  | ((with_reducible apply et_or) <;> walk_at "ev")
  | ((with_reducible apply et_not) <;> walk_at "ev")
  | ((with_reducible apply et_B) <;> walk_at "ev")
  | ((with_reducible apply el_lst) <;> walk_at "ev")
  | ((with_reducible apply eu_tup) <;> walk_at "ev")
  | ((with_reducible apply ea_cons) <;> walk_at "ev")
  | with_reducible exact ea_nil
  | with_reducible assumption
  | ((with_reducible apply ex_l' ; assumption) ; walk_at "ex")
  | ((with_reducible apply ex_t' ; assumption) ; walk_at "ex")
  | (intro _ ; walk_at "ev")
  | (with_reducible first | exact atI_hd | exact at_kind | exact at2s | exact at3s | exact at3i)
  | (first | exact rfl | exact Nat.le_of_ble_eq_true rfl | exact ⟨by decide, by decide⟩ | decide | exact Or.inl ⟨by omega, by omega⟩ | exact Or.inr ⟨by omega, by omega⟩ | omega)
  | skip)
local macro_rules | `(tactic| walk_at "ex") => `(tactic| first
  | assumption
  | exact Ex.refl _
  | (refine' Ex.trans ?_ (by assumption) ; walk_at "ex"))
local macro_rules | `(tactic| walk_at "row") => `(tactic| first
  | (with_reducible exact er_nil)
  | ((with_reducible apply er_cons) <;> walk_at "row")
  | (((with_reducible apply er_var) ; rfl) ; walk_at "isrow")
  | (((with_reducible apply elr_var) ; rfl) ; walk_at "isrow")
  | ((with_reducible apply elr_cat) <;> walk_at "row")
  | ((with_reducible apply elr_lst) <;> walk_at "row")
  | ((with_reducible apply er_fin) <;> walk_at "ev")
  | ((with_reducible apply er_lendT) <;> walk_at "ev")
  | ((with_reducible apply er_lendW) <;> walk_at "ev")
  | ((with_reducible apply er_pick) <;> walk_at "ev")
  | ((with_reducible apply er_either) <;> walk_at "ev")
  | ((with_reducible apply er_or) <;> walk_at "ev")
  | ((with_reducible apply er_again) <;> walk_at "ev")
  | ((with_reducible apply er_back) <;> walk_at "ev")
  | ((with_reducible apply er_look) <;> walk_at "ev")
  | ((with_reducible apply er_change) <;> walk_at "ev")
  | exact Nat.le_of_ble_eq_true rfl
  | skip)
local macro_rules | `(tactic| walk_at "isrow") => `(tactic| first
  | assumption
  | (refine IsRow.up ?_ (by assumption) ; walk_at "ex")
  | (refine LRows.up ?_ (by assumption) ; walk_at "ex"))

/-! ### what is told of a run, of a sheet -/
theorem runF_std {rs : List Rw} (sh : Sheet rs) : ∀ (f i : Nat) (es : List Ent) (cs : List Int), Std rs i es → ∀ st ∈ runF rs f i es cs, Std rs st.1 st.2 ∧ st.1 < rs.length
  | 0, _, _, _, _, st, h => by cases h
  | f + 1, i, es, cs, hs, st, h => by
    cases hr : rs[i]? with
    | none => rw [runF_stop hr] at h; cases h
    | some r =>
      rw [runF_go hr] at h
      obtain ⟨j, hg⟩ := goes (c := takeC r cs) sh hs hr
      rcases List.mem_cons.mp h with z | z
      · rw [z]
        exact ⟨hs, (List.getElem?_eq_some_iff.mp hr).1⟩
      · rw [hg.at_, Int.toNat_natCast] at z
        exact runF_std sh f j _ _ hg.std st z
theorem runM_std {rs : List Rw} (sh : Sheet rs) (cs : List Int) : ∀ st ∈ runM rs cs, Std rs st.1 st.2 ∧ st.1 < rs.length := runF_std sh _ 0 [] cs (std0 rs)
theorem Stds.at {H : Hp} : ∀ {vs : List V} {sts : List (Nat × List Ent)} {i : Nat} {x : V}, Stds H vs sts → vs[i]? = some x → ∃ st, sts[i]? = some st ∧ AStand (st.1 : Int) st.2 x H
  | _, _, 0, _, .cons r _, e => by cases e; exact ⟨_, rfl, r⟩
  | _, _, i + 1, _, .cons _ t, e => Stds.at (i := i) t e
theorem Std.backed {rs : List Rw} {i : Nat} {es : List Ent} (u : Str) (h : Std rs i es) : Std rs i (backM u es) := ⟨h.le, held_same h.held (back_same u es)⟩
theorem rows_dp {K : PySem.W.Frag} {H : Hp} : ∀ {us : List V} {rs : List Rw}, Rows H us rs → DpAll K H us (rs.map rowD)
  | _, _, .nil => .nil
  | _, _, .cons r t => .cons (row_dp r) (rows_dp t)
theorem row_deep {r : Rw} : (rowD r).depth ≤ 3 := by
  cases r with
  | lend a b s => cases s <;> simp [rowD, Src.d, PyData.depth, PyData.depthAll]
  | pick w ts => simp [rowD, PyData.depth, PyData.depthAll, PySem.W.ke_depthAll]
  | _ => simp [rowD, PyData.depth, PyData.depthAll]
theorem rows_lay : ∀ {rs : List Rw}, (∀ r ∈ rs, RowS r) → PyData.canLayAll0 (rs.map rowD) = true ∧ PyData.depthAll (rs.map rowD) ≤ 3
  | [], _ => ⟨rfl, Nat.zero_le _⟩
  | r :: rs, h => by
    have hr := row_lay (h r List.mem_cons_self)
    have hd := row_deep (r := r)
    have ih := rows_lay (rs := rs) fun x hx => h x (List.mem_cons_of_mem _ hx)
    constructor
    · rw [List.map_cons]
      simp [PyData.canLayAll0, hr.1, ih.1]
    · rw [List.map_cons]
      have := ih.2
      simp [PyData.depthAll]
      omega
theorem rows_shaped {rs : List Rw} (h : ∀ r ∈ rs, RowS r) : SeqAt.shaped (.list (rs.map rowD)) = true := by
  have := rows_lay h
  unfold SeqAt.shaped
  have e : (PyData.list (rs.map rowD)).canLay0 = true := by simp [PyData.canLay0, this.1]
  have e2 : (PyData.list (rs.map rowD)).depth ≤ 64 := by simp [PyData.depth]; omega
  rw [e, decide_eq_true e2]
  rfl
section
variable {K : PySem.W.Frag} {σ : L2.St} {H H' : Hp} {ta tb te : TE} {rs : List Rw}
theorem ev_neRows {p p' : Addr} {us vs : List V} (hs : ∀ r ∈ rs, RowS r) (ha : Ev ta σ H (.ref p)) (hb : Ev tb σ H (.ref p')) (hp : SqL K H p us) (hR : Rows H us rs) (hp' : SqL K H p' vs) (hR' : Rows H vs rs) : Ev (tOp (rNeD K) ta tb) σ H (.bl false) :=
  ev_is (ev_neD ha hb (fun H1 e => .lst (ex_l e hp) (rows_dp (hR.up e))) (fun H1 e => .lst (ex_l e hp') (rows_dp (hR'.up e))) (rows_shaped hs) (rows_shaped hs)) (by
    rw [SeqAt.eqv_refl _ (SeqAt.canLay_of_shaped (rows_shaped hs))]
    rfl)
theorem ep_var {i : Nat} {v : V} {R : V → Hp → Prop} (h : σ[i]? = some (some v)) (hr : ∀ H1, Ex H H1 → R v H1) : EvP (tVar i) σ H R := fun H1 x Q q => ⟨v, h, q v H1 (Ex.refl H1) (hr H1 x)⟩
end
section
variable {K : PySem.W.Frag} {σ : L2.St} {H H' : Hp} {ta tb te : TE} {rs : List Rw}
theorem epl_runN {a : Addr} {cs : List Int} {rv : List V} {E : XK} (h : Ev ta σ H (.ref a)) (hc : EvL tb σ H (cs.map V.int)) (hS : SqL K H a rv) (hR : Rows H rv rs) (sh : Sheet rs) (hl : rs.length ≤ 40000) (hb : (cs.length + 1) * (2 * rs.length + 3) ≤ 99000) :
    EvPL (tCall (spRun K) [] E (tCons ta (tCons tb tNil))) σ H (fun us H2 => Stds H2 us (runM rs cs)) := fun H1 e Q q =>
  h H1 e _ fun H2 e2 => hc H2 (e.trans e2) _ fun pc H3 _ e3 h3 => ⟨a, pc, cs, rv, rs, rfl, ex_l (e.trans (e2.trans e3)) hS, hR.up (e.trans (e2.trans e3)), sq_of h3, sh, hl, hb, fun p vs H4 hp e4 h4 hs => q p vs H4 (fresh_back (e2.trans e3) hp) ((e2.trans e3).trans e4) h4 hs⟩
theorem run_bound {rs : List Rw} {cs : List Int} (h : cs.length ≤ 20) (hl : rs.length ≤ 1500) : (cs.length + 1) * (2 * rs.length + 3) ≤ 99000 := by
  have h1 : (cs.length + 1) * (2 * rs.length + 3) ≤ 21 * 3003 := Nat.mul_le_mul (by omega) (by omega)
  omega
/-- a place by a remainder -/
theorem at_mod {xs : List V} (h : 0 < xs.length) (n : Int) : ∃ (k : Nat) (x : V), k < xs.length ∧ xs[k]? = some x ∧ atI xs (n % (xs.length : Int)) = some x := by
  have h1 := Int.emod_nonneg n (show (xs.length : Int) ≠ 0 by omega)
  have h2 := Int.emod_lt_of_pos n (show (0 : Int) < xs.length by omega)
  have hk : (n % (xs.length : Int)).toNat < xs.length := by omega
  refine ⟨_, xs[(n % (xs.length : Int)).toNat], hk, List.getElem?_eq_getElem hk, ?_⟩
  have h3 := atI_nat (xs := xs) (List.getElem?_eq_getElem hk)
  rwa [Int.toNat_of_nonneg h1] at h3
end
end BD
namespace BD
open PySem PySem.Spec PyProof.Rows L2 Evl
local macro_rules | `(tactic| walk_at "ev") => `(tactic| first
  | ((with_reducible apply ev_var) ; rfl)
  | with_reducible exact ev_c
  | ((with_reducible apply ev_I0) <;> walk_at "ev")
  | ((with_reducible apply ev_e9) <;> walk_at "ev")
  | ((with_reducible apply ev_I) <;> walk_at "ev")
  | ((with_reducible apply ev_eq) <;> walk_at "ev")
  | ((with_reducible apply ev_ne) <;> walk_at "ev")
  | ((with_reducible apply ev_neg) <;> walk_at "ev")
  | ((with_reducible apply ev_ixN) <;> walk_at "ev")
  | ((with_reducible apply ev_ixL) <;> walk_at "ev")
  | ((with_reducible apply ev_inN) <;> walk_at "ev")
  | ((with_reducible apply ev_inT) <;> walk_at "ev")
  | ((with_reducible apply ev_ixT) <;> walk_at "ev")
  | ((with_reducible apply ev_ixS) <;> walk_at "ev")
  | ((with_reducible apply ev_len') <;> walk_at "ev")
  | ((with_reducible apply et_test) <;> walk_at "ev")
  | ((with_reducible apply et_and) <;> walk_at "ev")
  | ((with_reducible apply et_or) <;> walk_at "ev")
  | ((with_reducible apply et_not) <;> walk_at "ev")
  | ((with_reducible apply et_B) <;> walk_at "ev")
  | ((with_reducible apply el_lst) <;> walk_at "ev")
  | ((with_reducible apply eu_tup) <;> walk_at "ev")
  | ((with_reducible apply ea_cons) <;> walk_at "ev")
  | with_reducible exact ea_nil
  | with_reducible assumption
  | ((with_reducible apply ex_l' ; assumption) ; walk_at "ex")
  | ((with_reducible apply ex_t' ; assumption) ; walk_at "ex")
  | (intro _ ; walk_at "ev")
  | (with_reducible first | exact atI_hd | exact at_kind | exact at2s | exact at3s | exact at3i)
  | (first | exact rfl | exact Nat.le_of_ble_eq_true rfl | exact ⟨by decide, by decide⟩ | decide | exact Or.inl ⟨by omega, by omega⟩ | exact Or.inr ⟨by omega, by omega⟩ | omega)
  | skip)
local macro_rules | `(tactic| walk_at "ex") => `(tactic| first
  | assumption
  | exact Ex.refl _
  | (refine' Ex.trans ?_ (by assumption) ; walk_at "ex"))
local macro_rules | `(tactic| walk_at "row") => `(tactic| first
  | (with_reducible exact er_nil)
  | ((with_reducible apply er_cons) <;> walk_at "row")
  | (((with_reducible apply er_var) ; rfl) ; walk_at "isrow")
  | (((with_reducible apply elr_var) ; rfl) ; walk_at "isrow")
  | ((with_reducible apply elr_cat) <;> walk_at "row")
  | ((with_reducible apply elr_lst) <;> walk_at "row")
  | ((with_reducible apply er_fin) <;> walk_at "ev")
  | ((with_reducible apply er_lendT) <;> walk_at "ev")
  | ((with_reducible apply er_lendW) <;> walk_at "ev")
  | ((with_reducible apply er_pick) <;> walk_at "ev")
  | ((with_reducible apply er_either) <;> walk_at "ev")
  | ((with_reducible apply er_or) <;> walk_at "ev")
  | ((with_reducible apply er_again) <;> walk_at "ev")
  | ((with_reducible apply er_back) <;> walk_at "ev")
  | ((with_reducible apply er_look) <;> walk_at "ev")
  | ((with_reducible apply er_change) <;> walk_at "ev")
  | exact Nat.le_of_ble_eq_true rfl
  | skip)
local macro_rules | `(tactic| walk_at "isrow") => `(tactic| first
  | assumption
  | (refine IsRow.up ?_ (by assumption) ; walk_at "ex")
  | (refine LRows.up ?_ (by assumption) ; walk_at "ex"))

section
variable {K : PySem.W.Frag} {σ : L2.St} {H H' : Hp} {ta tb te : TE} {rs : List Rw}
/-- the program's fault -/
def spPFault (K : PySem.W.Frag) : Sp := fun vs H Q _ => ∃ (a : Addr) (x : V) (rv : List V) (rs : List Rw) (i : Nat) (es : List Ent) (r : Rw), vs = [.ref a, x] ∧ SqL K H a rv ∧ Rows H rv rs ∧ AStand (i : Int) es x H ∧ Sheet rs ∧ Std rs i es ∧ rs[i]? = some r ∧ rs.length ≤ 40000 ∧ RetV (.str (faultM r es)) H Q
theorem ev_pfault {a : Addr} {rv : List V} {i : Nat} {es : List Ent} {r : Rw} {E : XK} (h : Ev ta σ H (.ref a)) (h2 : EvP tb σ H (AStand (i : Int) es)) (hS : SqL K H a rv) (hR : Rows H rv rs) (sh : Sheet rs) (hs : Std rs i es) (hr : rs[i]? = some r) (hl : rs.length ≤ 40000) :
    Ev (tCall (spPFault K) [] E (tCons ta (tCons tb tNil))) σ H (.str (faultM r es)) := fun H1 e Q q =>
  h H1 e _ fun H2 e2 => h2 H2 (e.trans e2) _ fun x H3 e3 hx => ⟨a, x, rv, rs, i, es, r, rfl, ex_l (e.trans (e2.trans e3)) hS, hR.up (e.trans (e2.trans e3)), hx, sh, hs, hr, hl, fun H4 e4 => q H4 (e2.trans (e3.trans e4))⟩
end
end BD
/-! ### generator expressions handed to any and all: the element is any expression of the layer -/
namespace GX
open PySem PySem.Spec PyProof.Rows L2 Evl
open GxR (TabB)
/-- the table at P of a code object, whatever stands in it -/
def TabX (P : Addr) : HO := .ext fun h => ∃ ps : Array Value, h.get? P = some { cls := .none, data := .fields ps } ∧ TriplesOk ps.toList
theorem tabX_ok {P : Program} {w : World} {H : Hp} {h : Heap} {a : Addr} (r : ∃ ps : Array Value, h.get? a = some { cls := .none, data := .fields ps } ∧ TriplesOk ps.toList) : ObjOk P w H h a (TabX a) :=
  ⟨r, let ⟨_, e, _⟩ := r; ⟨_, e⟩, fun h1 h2 ⟨ps, e, t⟩ k => ⟨ps, k _ e, t⟩⟩
theorem tabX_ne {P a : Addr} {xs : List V} : TabX P ≠ .tup xs := fun z => nomatch z
section
variable {X : Cx} {pins : List (Addr × Obj)} {σ : L2.St} {H : Hp} {s : Shared}
theorem tabX_get {P : Addr} (I : Inv X pins σ H s) (hP : H P = some (TabX P)) : ∃ ps : Array Value, s.heap.get? P = some { cls := .none, data := .fields ps } ∧ TriplesOk ps.toList := (I.hok P _ hP).1
theorem inv_tabX {P : Addr} {h' : Heap} {g' : Array GenState} {d' : Drawn} {t' : Nat} (I : Inv X pins σ H s) (hP : H P = some (TabX P)) (k : ∀ b o, b ≠ P → s.heap.get? b = some o → h'.get? b = some o)
    (hm : ∃ ps : Array Value, h'.get? P = some { cls := .none, data := .fields ps } ∧ TriplesOk ps.toList) (hg : AllBare g') : Inv X pins σ H { s with heap := h', gens := g', drawn := d', toks := t' } := by
  have nN : ∀ b, H b = none → b ≠ P := fun b e z => by
    rw [z, hP] at e
    cases e
  refine I.step (g' := g') (d' := d') (ch := []) (fun b hb => absurd hb (by simp)) (fun b o _ _ _ e n => k b o (nN b n) e) (fun b o _ _ _ e n => ⟨o.slots, k b o (nN b n) e⟩)
    (fun b o _ e n => n) (fun b o _ e => ?_) (fun b xs e => e) (fun b o u e => e) (fun b qs e => ⟨#[], by rw [e]; simp⟩) (fun m hn => ?_) (fun b u e => ?_) hg
  · by_cases hb : b = P
    · rw [hb]
      obtain ⟨ps, e2, _⟩ := hm
      exact ⟨_, e2⟩
    · exact ⟨o, k b o hb e⟩
  · obtain ⟨ob, es, ep, ho, r⟩ := hn
    exact ⟨ob, es, ep, k _ ob (nN _ I.free) ho, r⟩
  · by_cases hb2 : b = P
    · rw [hb2] at e ⊢
      rw [hP] at e
      cases e
      exact tabX_ok hm
    · refine (I.hok b u e).stay (fun d v hd q => k d v ?_ q) (fun d q => q) fun d xs q => q
      rcases hd with z | z
      · rw [z]
        exact hb2
      · intro y
        rw [y, hP] at z
        cases z
/-- what is kept may be read further -/
theorem inv_kept {s' : Shared} (I : Inv X pins σ H s) (ho : s'.os = s.os) (hb : AllBare s'.gens) (k : ∀ b o, s.heap.get? b = some o → s'.heap.get? b = some o) : Inv X pins σ H s' :=
  I.call' (ch := []) ho (Un.kept k) (I.hok.kept k) hb (fun b hb => absurd hb (by simp))
end
/-! ### the generator's frame -/
/-- the scope of a generator expression -/
structure GScp (N : List Str) (sc scope : Scope) (own : List (Str × Nat)) : Prop where
  blk : BlkOk N sc scope own
  co : scope.isCoroutine = false
  cell : ∀ y ∈ scope.names, y.2 ≠ .cell
  dot : scope.names.lookup (".0" : Str) = some NameKind.local
def gscpB (scope : Scope) : Bool :=
  !scope.isCoroutine && (scope.names.all fun y => !decide (y.2 = .cell)) && decide (scope.names.lookup (".0" : Str) = some NameKind.local)
theorem gscp_by {N : List Str} {sc scope : Scope} {own : List (Str × Nat)} (b : BlkOk N sc scope own) (h : gscpB scope = true) : GScp N sc scope own := by
  unfold gscpB at h
  simp only [Bool.and_eq_true, Bool.not_eq_true', decide_eq_true_eq, List.all_eq_true, decide_eq_false_iff_not] at h
  exact ⟨b, h.1.1, h.1.2, h.2⟩
abbrev gArd (A : Around) (c : Code) : Around := A.over c []
/-- the context of the element -/
abbrev Cxg (X : Cx) (A : Around) (s : Shared) (H : Hp) (cenv : Env) (fp : List Addr) : Cx := { X with A := A, s_0 := s, H_0 := H, env := cenv, outer := X.stack, stack := cenv :: X.stack, ex := fp, fn := fun _ => false, calm := true, pn := [], xe := fun _ _ => False }
section
variable {X : Cx} {pins : List (Addr × Obj)} {σ : L2.St} {H : Hp} {s : Shared}
theorem gen_start {scope : Scope} {own : List (Str × Nat)} {fp : List Addr} {A : Around} {code : Value} {s' : Shared} {itv : Value} (I : Inv X pins σ H s) (G : GScp X.N X.env.scope scope own) (hN : X.N.Nodup) (hfp : ∀ b ∈ fp, FpOk X pins H b ∧ b < s.heap.objs.size)
    (hA : A.handled = none) (hF : A.frames = some (genEnv scope (cloFrom X.env.cells scope.names []) s.heap.objs.size code builtinsNs X.env :: X.stack))
    (hns : s'.heap.Ns s.heap.objs.size (fun y => if y = ".0" then some itv else none)) (kp : ∀ b o, s.heap.get? b = some o → s'.heap.get? b = some o) (hos : s'.os = s.os) (hbare : AllBare s'.gens) :
    Inv (Cxg X A s H (genEnv scope (cloFrom X.env.cells scope.names []) s.heap.objs.size code builtinsNs X.env) fp) [] (wipe σ (own.map (·.2))) H s' := by
  have ok := G.blk
  have hfree : ∀ y ∈ scope.names, y.2 = .free → ∃ c, X.env.cells.lookup y.1 = some c := fun y hy e => by
    rcases ok.free y hy e with k | k
    · exact I.ok.has _ (.inl k)
    · exact I.ok.has _ (.inr k)
  generalize hcenv : genEnv scope (cloFrom X.env.cells scope.names []) s.heap.objs.size code builtinsNs X.env = cenv at hF
  have hL : cenv.locals = s.heap.objs.size := by rw [← hcenv]; rfl
  have hcl : cenv.cells = cloFrom X.env.cells scope.names [] := by rw [← hcenv]; rfl
  have hsc : cenv.scope = scope := by rw [← hcenv]; rfl
  have cm : ∀ {y c}, cenv.cells.lookup y = some c → X.env.cells.lookup y = some c ∧ c < s.heap.objs.size := fun {y c} e => by
    rw [hcl] at e
    rcases cloFrom_mem (PySem.mem_of_lookup e) with hm | ⟨h1, rfl⟩
    · cases hm
    · obtain ⟨c, hc⟩ := hfree _ h1 rfl
      rw [hc]
      obtain ⟨w, z⟩ := I.cell _ _ hc
      exact ⟨rfl, z.lt⟩
  have look : ∀ {y}, scope.names.lookup y = some .free → ∃ c, cenv.cells.lookup y = some c ∧ X.env.cells.lookup y = some c := fun {y} hl => by
    have hy : (y, NameKind.free) ∈ scope.names := PySem.mem_of_lookup hl
    obtain ⟨c', e'⟩ := mem_lookup (cloFrom_has (cells := X.env.cells) (acc := []) hy)
    rw [← hcl] at e'
    exact ⟨c', e', (cm e').1⟩
  have kno : ∀ {y}, cenv.kindOf y = some .cell → False := fun {y} e => by
    unfold Env.kindOf at e
    rw [hsc] at e
    exact G.cell _ (PySem.mem_of_lookup e) rfl
  have okB : (Cxg X A s H cenv fp).Ok := by
    refine ⟨I.ok.mod, by show cenv.scope.kind = _; rw [hsc]; exact ok.kind, by show cenv.globals = _; rw [← hcenv]; exact I.ok.glob, by show cenv.builtins = _; rw [← hcenv]; rfl, by show s.heap.objs.size ≤ cenv.locals; rw [hL]; exact Nat.le_refl _,
      fun y z c e1 e2 => I.ok.inj y z c (cm e1).1 (cm e2).1, fun y hy => ?_, fun y c z e => (by cases z), fun _ => hA, hF, .inr ⟨rfl, by show cenv.frame = some cenv.locals; rw [← hcenv]; rfl⟩, fun b hb => ⟨?_, fun y c e z => ?_⟩, I.bs, Nat.le_trans I.ok.bsz I.sz, fun b o e hb => ?_, fun b hb z => ?_, I.stack, I.stkFree⟩
    · show ∃ c, cenv.cells.lookup y = some c
      rcases hy with hy | hy
      · exact (kno hy).elim
      · have hy : cenv.scope.names.lookup y = some .free := hy
        rw [hsc] at hy
        obtain ⟨c, h1, _⟩ := look hy
        exact ⟨c, h1⟩
    · show b ≠ cenv.locals
      rw [hL]; exact Nat.ne_of_lt (hfp b hb).2
    · exact (hfp b hb).1.2.2.2.2.1 y c (cm e).1 z
    · rcases (hfp b hb).1.2.2.2.1 with z | z
      · exact I.ok.noex b o e z
      · exact absurd (Nat.lt_of_lt_of_le (Heap.lt_size e) (Nat.le_trans I.ok.bsz z)) (Nat.lt_irrefl _)
    · rcases List.mem_cons.mp (I.stkSub b z) with z | z
      · exact (hfp b hb).1.2.1 z
      · exact (hfp b hb).1.2.2.1 z
  refine ⟨okB, hos, hbare, Un.kept kp, ⟨_, by show s'.heap.Ns cenv.locals _; rw [hL]; exact hns, fun i y av e1 e2 e3 => ?_⟩, fun y c e => ?_, ?_, fun y c e => ?_, fun p hp => ?_, I.hok.kept kp, by rw [wipe_length]; exact I.len⟩
  · obtain ⟨e2, hne⟩ := wipe_some e2
    have e3 : Vis cenv.scope y := e3
    rw [hsc] at e3
    have no : ∀ k, scope.names.lookup y = some k → ¬ (k = .local ∨ k = .cell) := fun k e hh => by
      rcases ok.own _ (PySem.mem_of_lookup e) hh with e' | e'
      · obtain ⟨p, hp, hpy⟩ := List.mem_map.mp e'
        have e3 := ok.ix p hp
        have : p.1 = y := hpy
        rw [this] at e3
        exact hne (List.mem_map.mpr ⟨p, hp, nodup_ix hN e3 e1⟩)
      · exact e' (List.mem_of_getElem? e1)
    have hfr : scope.names.lookup y = some .free := by
      rcases e3 with e3 | e3 | e3
      · exact absurd (.inl rfl) (no _ e3)
      · exact absurd (.inr rfl) (no _ e3)
      · exact e3
    obtain ⟨m, hn, hl⟩ := I.loc
    have hvis : Vis X.env.scope y := (ok.free _ (PySem.mem_of_lookup hfr) rfl).elim (fun k => .inr (.inl k)) (fun k => .inr (.inr k))
    obtain ⟨w, r, q⟩ := hl i y av e1 e2 hvis
    refine ⟨w, r, .inr ⟨.inr (by show cenv.scope.names.lookup y = _; rw [hsc]; exact hfr), ?_⟩⟩
    obtain ⟨c, h1, h2⟩ := look hfr
    rcases q with ⟨k, _⟩ | ⟨_, c', e', z⟩
    · have k : X.env.scope.names.lookup y = some .local := k
      rcases ok.free _ (PySem.mem_of_lookup hfr) rfl with k' | k' <;> rw [show X.env.scope.names.lookup y = _ from k'] at k <;> cases k
    · rw [h2] at e'; cases e'
      exact ⟨c, h1, z.keeps kp⟩
  · obtain ⟨w, z⟩ := I.cell y c (cm e).1
    exact ⟨w, z.keeps kp⟩
  · show H cenv.locals = none
    rw [hL]; exact I.hok.fresh (Nat.le_refl _)
  · exact I.freeC y c (cm e).1
  · exact absurd (show p ∈ ([] : List (Addr × Obj)) ++ [] from hp) (by simp)
end
end GX
namespace GX
open PySem PySem.Spec PyProof.Rows L2 Evl
open Sem (wp)
abbrev gLoop (elt tg iter : Expr) (scope : Scope) (pos : Pos) (it : Addr) (env : Env) : Code := .compLoop (.GeneratorExp elt [⟨tg, iter, [], 0⟩] scope pos) 0 (.ref it) .none env
/-- what stood stands, nothing hangs -/
structure Slp (s s' : Shared) : Prop where
  os : s'.os = s.os
  bare : AllBare s'.gens
  keep : ∀ b o, s.heap.get? b = some o → s'.heap.get? b = some o
def GYx (Z : Cx) (a : Addr) (obj : Obj) (cont : Bool) (Q : VK) : Protocol := fun n s₀ v s kap => ∃ (b : Bool) (H : Hp) (σ' : L2.St), v = .bool b ∧ Inv Z [(a, obj)] σ' H s ∧ (b = !cont → Q (.bl (!cont)) H) ∧ (b = cont → ∀ s'', Slp s s'' → kap (.send .none) s'')
def GRx (Z : Cx) (a : Addr) (obj : Obj) (cont : Bool) (Q : VK) : Nat → Shared → Shared → Prop := fun n s₀ s => ∃ (H : Hp) (σ' : L2.St), Inv Z [(a, obj)] σ' H s ∧ Q (.bl cont) H
/-- what the element's turns keep -/
def Turns (J : It) (g : TG) (te : TE) (σ : L2.St) (vs : List Nat) (cont : Bool) (W : Nat → Nat → Hp → Prop) (Q : VK) : Prop := ∀ i m H, W i m H → (J.stop i H ∧ Q (.bl cont) H) ∨ (J.go i H ∧ ∀ x H', J.yld i H x H' → g x (wipe σ vs) H' fun σ2 H2 => wipe σ2 vs = wipe σ vs ∧
  te σ2 H2 fun y H3 => ∃ b : Bool, y = .bl b ∧ (b = !cont → Q (.bl (!cont)) H3) ∧ (b = cont → ∃ m', m' < m ∧ W (i + 1) m' H3))
theorem seg_gx {Z : Cx} {A : Around} {elt tg iter : Expr} {scope : Scope} {pos : Pos} {J : It} {fp : List Addr} {it : Addr} {tn : Nat → Heap → Prop} {g : TG} {te : TE} {σ : L2.St} {vs : List Nat} {a : Addr} {obj : Obj} {W : Nat → Nat → Hp → Prop} {Q : VK} {cont : Bool}
    (hZ : Z.A = A.over (gLoop elt tg iter scope pos it Z.env) []) (hcalm : Z.calm = true) (hxe : Z.xe = fun _ _ => False) (hpn : Z.pn = []) (hex : ∀ b ∈ fp, b ∈ Z.ex) (ha : a ∉ fp) (hco : Z.env.scope.isCoroutine = false)
    (T : Turn Z.prog Z.w Z.K tg J fp it tn) (pg : PG Z tg g) (pe : PE Z elt te) (hW : Turns J g te σ vs cont W Q) :
    ∀ (m i : Nat) (s₀ s : Shared) (H : Hp), (∃ m', m' ≤ m ∧ W i m' H) → Inv Z [(a, obj)] (wipe σ vs) H s → tn i s.heap → (∀ b ∈ fp, H b = none) →
      Seg (model Z.prog Z.w) A (fun n s₀ r s₁ => r = .ok .next ∧ GRx Z a obj cont Q n s₀ s₁) (GYx Z a obj cont Q) (m + 1) s₀ (gLoop elt tg iter scope pos it Z.env) ((model Z.prog Z.w).den (gLoop elt tg iter scope pos it Z.env)) [] s := by
  have stat : ∀ {σ' : L2.St} {H' : Hp} {s' : Shared}, Inv Z [(a, obj)] σ' H' s' → (∀ b ∈ fp, H' b = none) → ∀ b ∈ fp, FpOk Z [(a, obj)] H' b := fun {σ' H' s'} I' hn b hb =>
    ⟨hn b hb, (I'.ok.exf b (hex b hb)).1, I'.ok.exfs b (hex b hb), .inl (hex b hb), fun x c e => (I'.ok.exf b (hex b hb)).2 x c e, fun p hp => by
      rw [hpn] at hp
      have hp : p ∈ [(a, obj)] := hp
      rcases List.mem_singleton.mp hp with rfl
      exact fun z => ha (by rw [show a = b from z]; exact hb)⟩
  intro m
  induction m using Nat.strongRecOn with
  | ind m ih =>
    intro i s₀ s H hw I st hn
    obtain ⟨m0, hm0, w0⟩ := hw
    show Seg _ A _ _ _ s₀ _ ((compTurn (.GeneratorExp elt [⟨tg, iter, [], 0⟩] scope pos) 0 (.ref it) .none Z.env).onRaise (leaving Z.env)) [] s
    rw [compTurn_gen, Sem.onRaise_eq_wrap]
    refine seg_bind_wrap (wpAny_standAt ?_)
    rcases hW i m0 H w0 with ⟨stop, qq⟩ | ⟨go, step⟩
    · have td := T.done Z rfl rfl rfl hcalm i [(a, obj)] s _ H (fun _ _ => False) I (stat I hn) st stop
      rw [hZ] at td
      refine seg_bind_wrap (thnF td fun r s6 ⟨hr, I6⟩ => ?_)
      subst hr
      exact seg_end (.ok .next) ⟨rfl, H, _, I6, qq⟩
    · have ti := T.item Z rfl rfl rfl hcalm i [(a, obj)] s _ H (fun _ _ => False) I (stat I hn) st go
      rw [hZ] at ti
      refine seg_bind_wrap (thnF ti fun r s6 ⟨u, hr, h6⟩ => ?_)
      subst hr
      refine seg_bind_wrap (thnF h6 fun _ s7 ⟨x, H7, I7, r7, y7, st7, n7⟩ => ?_)
      have I7' := I7.pinned (stat I7 n7) (T.obj _ _ st7)
      have hg := pg.run _ s7 _ H7 x u _ I7' r7 (step x H7 y7)
      rw [hZ, hxe] at hg
      refine seg_bind_wrap (thnF hg fun _ s8 ⟨σ8, H8, I8, hw8, q8⟩ => ?_)
      refine seg_bind_wrap (wpAny_tests_nil ?_)
      simp only [if_true]
      have hy : ∀ v, yieldOut Z.env v = yieldValue v := fun v => by simp only [yieldOut, hco, Bool.false_eq_true, if_false]
      simp only [hy]
      rw [Sem.bind_eq_wrap', Sem.bind_eq_wrap', Sem.wrap_wrap, Sem.wrap_wrap]
      have he := pe.run _ s8 σ8 H8 _ I8 q8
      rw [hZ, hxe] at he
      refine seg_wrap (thnF he fun z s9 ⟨yv, H9, I9, r9, b, eb, q1, q2⟩ => ?_)
      subst eb
      obtain rfl : z = Value.bool b := r9
      refine seg_at (seg_yield rfl rfl rfl ⟨b, H9, σ8, rfl, I9.unpinned, q1, fun hb s'' hal => ?_⟩)
      obtain ⟨m', hm', w'⟩ := q2 hb
      obtain ⟨k, rfl⟩ : ∃ k, m = k + 1 := ⟨m - 1, by omega⟩
      have I10 : Inv Z ([(a, obj)] ++ pinsAt fp s7.heap) σ8 H9 s'' := inv_kept I9 hal.os hal.bare hal.keep
      have pin' : ∀ b ∈ fp, ∀ o, s7.heap.get? b = some o → s''.heap.get? b = some o ∧ H9 b = none := fun b hb o e =>
        let z := I10.pin (b, o) (List.mem_append_right _ (List.mem_append_right _ (mem_pinsAt hb e)))
        ⟨z.1, z.2.1⟩
      have hl : (wipe σ vs).length = σ8.length := by rw [← hw8, wipe_length]
      refine seg_again rfl (ih k (Nat.lt_succ_self _) (i + 1) s'' s'' H9 ⟨m', by omega, w'⟩ ((I10.unpinned (pins := [(a, obj)])).weak hl (fun j v e => ?_)) (T.keep _ _ _ st7 fun b hb o e => (pin' b hb o e).1) fun b hb => ?_)
      · rw [← hw8] at e
        exact (wipe_some e).1
      · obtain ⟨o, e, _⟩ := T.obj _ _ st7 b hb
        exact (pin' b hb o e).2
/-- from the start -/
theorem seg_gxStart {Z : Cx} {A : Around} {elt tg iter : Expr} {scope : Scope} {pos : Pos} {J : It} {fp : List Addr} {it : Addr} {tn : Nat → Heap → Prop} {R : GenEnd} {Y : Protocol} {n : Nat} {s₀ s : Shared} (T : Turn Z.prog Z.w Z.K tg J fp it tn) (st : tn 0 s.heap)
    (loop : Seg (model Z.prog Z.w) A R Y n s₀ (gLoop elt tg iter scope pos it Z.env) ((model Z.prog Z.w).den (gLoop elt tg iter scope pos it Z.env)) [] s) :
    Seg (model Z.prog Z.w) A R Y n s₀ (.compStart (.GeneratorExp elt [⟨tg, iter, [], 0⟩] scope pos) 0 (.ref it) .none Z.env) ((model Z.prog Z.w).den (.compStart (.GeneratorExp elt [⟨tg, iter, [], 0⟩] scope pos) 0 (.ref it) .none Z.env)) [] s := by
  show Seg _ A _ _ _ s₀ _ ((compStart (.GeneratorExp elt [⟨tg, iter, [], 0⟩] scope pos) 0 (.ref it) .none Z.env).onRaise (leaving Z.env)) [] s
  unfold compStart
  rw [Sem.onRaise_eq_wrap]
  show Seg _ A _ _ _ s₀ _ ((ask >>= _).wrap _ _ _ _) [] s
  refine seg_bind_wrap (wpAny_askSetting ?_)
  split
  · exact seg_again rfl loop
  · first
      | exact seg_bind_wrap (wpAny_rule (seg_bind_wrap (wpAny_standAt (seg_bind_wrap (T.self _ 0 s _ _ st (seg_again rfl loop))))))
      | (refine seg_bind_wrap (wpAny_rule ?_); show Seg _ A _ _ _ s₀ _ ((standAt iter.pos >>= _).wrap _ _ _ _) [] s; exact seg_bind_wrap (wpAny_standAt (seg_bind_wrap (T.self _ 0 s _ _ st (seg_again rfl loop)))))
end GX
namespace GX
open PySem PySem.Spec PyProof.Rows L2 Evl
open GxR (TabB)
/-- the generator stands ready: n hand-outs at most are left -/
def GSt (Z : Cx) (A : Around) (a : Addr) (obj : Obj) (gi : Nat) (cont : Bool) (Q : VK) (n : Nat) (s : Shared) : Prop := ∃ (gs : GenState) (H : Hp) (σ' : L2.St), s.gens[gi]? = some gs ∧ Inv Z [(a, obj)] σ' H s ∧
  ∀ s'', Slp s s'' → gs.Goes (model Z.prog Z.w) A (fun n s₀ r s₁ => r = .ok .next ∧ GRx Z a obj cont Q n s₀ s₁) (GYx Z a obj cont Q) n (.send .none) s''
theorem slp_setGen {s : Shared} {gi : Nat} {x : GenState} (hb : AllBare s.gens) (hx : x.bare = true) : Slp s (s.setGen gi x) := ⟨rfl, allBare_setGen hb hx, fun _ _ e => e⟩
/-- one pyNext of it -/
theorem next_gx {Z : Cx} {A : Around} {a : Addr} {obj : Obj} {gi : Nat} {cont : Bool} {Q : VK} {n : Nat} {s : Shared} {P : Option Value → Shared → Prop} {E : Value → Shared → Prop} (hh : A.handled = none) (hroom : A.depth < recursionLimit) (hobj : ∀ h : Heap, h.get? a = some obj → h.IsGen a gi)
    (h : GSt Z A.in1 a obj gi cont Q n s) (hgo : ∀ s', (∃ m, n = m + 1 ∧ GSt Z A.in1 a obj gi cont Q m s') → P (some (.bool cont)) s') (hstop : ∀ s' H σ', Inv Z [(a, obj)] σ' H s' → Q (.bl (!cont)) H → P (some (.bool (!cont))) s')
    (hend : ∀ s' H σ', Inv Z [(a, obj)] σ' H s' → Q (.bl cont) H → P none s') : wpAny (model Z.prog Z.w) A (pyNext (.ref a)) P E s := by
  obtain ⟨gs, H, σ', hgs, I, hal⟩ := h
  have hpa : s.heap.get? a = some obj := (I.pin (a, obj) (List.mem_append_right _ List.mem_cons_self)).1
  have hgl : gi + 1 ≤ s.gens.size := (Array.getElem?_eq_some_iff.mp hgs).1
  refine GenW.wpAny_gsz hgl ?_
  refine wpAny_pyNext_genexpQ (P := GRx Z a obj cont Q) hh I.nolimit hroom (hobj _ hpa) hgs (hal _ (slp_setGen I.bare rfl)) (fun v s₁ gs' hb hv => ?_) (fun s₁ hp h' hk => ?_)
  · obtain ⟨b, H1, σ1, rfl, I1, q1, q2⟩ := hv
    intro hsz
    have I2 : Inv Z [(a, obj)] σ1 H1 (s₁.setGen gi gs') := inv_kept I1 rfl (allBare_setGen I1.bare hb) (fun _ _ e => e)
    by_cases hbc : b = cont
    · subst hbc
      refine hgo _ ?_
      cases n with
      | zero => exact (q2 rfl s₁ ⟨rfl, I1.bare, fun _ _ e => e⟩).elim
      | succ m =>
        refine ⟨m, rfl, gs', H1, σ1, ?_, I2, fun s'' z => q2 rfl s'' ⟨z.os, z.bare, z.keep⟩⟩
        rw [GenW.setGen_size] at hsz
        obtain ⟨y, hy⟩ : ∃ y, s₁.gens[gi]? = some y := ⟨_, Array.getElem?_eq_getElem (by omega)⟩
        exact setGen_self hy
    · have hbn : b = !cont := by cases b <;> cases cont <;> first | rfl | exact absurd rfl hbc
      subst hbn
      exact hstop _ H1 σ1 I2 (q1 rfl)
  · obtain ⟨H1, σ1, I1, q⟩ := hp
    intro _
    exact hend _ H1 σ1 (inv_kept (s' := { s₁.setGen gi .finished with heap := h' }) I1 rfl (allBare_setGen I1.bare rfl) hk) q
theorem any_loop {Z : Cx} {A : Around} {a : Addr} {obj : Obj} {gi : Nat} {Q : VK} {R : Result → Shared → Prop} (hh : A.handled = none) (hroom : A.depth < recursionLimit) (hobj : ∀ h : Heap, h.get? a = some obj → h.IsGen a gi)
    (hR : ∀ b s' H σ', Inv Z [(a, obj)] σ' H s' → Q (.bl b) H → R (.ok (.ret (.bool b))) s') : ∀ (n : Nat) (s : Shared), GSt Z A.in1.in1 a obj gi false Q n s → codeAny (model Z.prog Z.w) A (.builtin "any.loop" ⟨[.ref a], []⟩) R s := by
  intro n
  induction n using Nat.strongRecOn with
  | ind n ih =>
    intro s h
    refine codeAny_builtin F.entry_any_loop ?_
    rw [Around.under_plainId F.plain_any_loop _]
    show wpAny _ A.in1 (pyNext (.ref a) >>= _) _ _ s
    refine wpAny_bind (next_gx hh hroom hobj h (fun s' ⟨m, hm, hs⟩ => ?_) (fun s' H σ' I q => ?_) (fun s' H σ' I q => ?_))
    · refine wpAny_bind (wpAny_holding (wpAny_truthy_bool ?_))
      refine wpAny_bind (wpAny_letGo ?_)
      simp only [Bool.false_eq_true, if_false]
      exact wpAny_pure ⟨plainId_quiet F.plain_any_loop _, ih m (by omega) s' hs⟩
    · refine wpAny_bind (wpAny_holding (wpAny_truthy_bool ?_))
      refine wpAny_bind (wpAny_letGo ?_)
      simp only [Bool.not_false, if_true]
      refine wpAny_bind (wpAny_rule (wpAny_pure ?_))
      exact hR true s' H σ' I q
    · refine wpAny_bind (wpAny_rule (wpAny_pure ?_))
      exact hR false s' H σ' I q
theorem all_loop {Z : Cx} {A : Around} {a : Addr} {obj : Obj} {gi : Nat} {Q : VK} {R : Result → Shared → Prop} (hh : A.handled = none) (hroom : A.depth < recursionLimit) (hobj : ∀ h : Heap, h.get? a = some obj → h.IsGen a gi)
    (hR : ∀ b s' H σ', Inv Z [(a, obj)] σ' H s' → Q (.bl b) H → R (.ok (.ret (.bool b))) s') : ∀ (n : Nat) (s : Shared), GSt Z A.in1.in1 a obj gi true Q n s → codeAny (model Z.prog Z.w) A (.builtin "all.loop" ⟨[.ref a], []⟩) R s := by
  intro n
  induction n using Nat.strongRecOn with
  | ind n ih =>
    intro s h
    refine codeAny_builtin F.entry_all_loop ?_
    rw [Around.under_plainId F.plain_all_loop _]
    show wpAny _ A.in1 (pyNext (.ref a) >>= _) _ _ s
    refine wpAny_bind (next_gx hh hroom hobj h (fun s' ⟨m, hm, hs⟩ => ?_) (fun s' H σ' I q => ?_) (fun s' H σ' I q => ?_))
    · refine wpAny_bind (wpAny_holding (wpAny_truthy_bool ?_))
      refine wpAny_bind (wpAny_letGo ?_)
      simp only [if_true]
      exact wpAny_pure ⟨plainId_quiet F.plain_all_loop _, ih m (by omega) s' hs⟩
    · refine wpAny_bind (wpAny_holding (wpAny_truthy_bool ?_))
      refine wpAny_bind (wpAny_letGo ?_)
      simp only [Bool.not_true, Bool.false_eq_true, if_false]
      refine wpAny_bind (wpAny_rule (wpAny_pure ?_))
      exact hR false s' H σ' I q
    · refine wpAny_bind (wpAny_rule (wpAny_pure ?_))
      exact hR true s' H σ' I q
/-! ### the expression -/
/-- any (cont: False), all (cont: True) of e for x in iter; P: the table of the def's code object -/
def tGx (P : Addr) (cont : Bool) (wi : TI) (g : TG) (te : TE) (vs : List Nat) : TE := fun σ H Q => wi σ H fun J H1 => H1 P = some (TabX P) ∧ ∃ W : Nat → Nat → Hp → Prop, (∃ m, W 0 m H1) ∧ Turns J g te σ vs cont W Q
section
variable {X : Cx} {pins : List (Addr × Obj)} {σ : L2.St} {H : Hp} {s : Shared}
theorem gen_gx {c P : Addr} {elt tg iter : Expr} {scope : Scope} {own : List (Str × Nat)} {gpos : Pos} {k : Nat} {wi : TI} {g : TG} {te : TE} {cont : Bool} {Q : VK} {Qf : Value → Shared → Prop}
    (hr : Room (k + 1) X.A) (TB : TabB X.base X.mg c P) (hcode : X.env.code = .ref c) (hN : X.N.Nodup) (S : GScp X.N X.env.scope scope own) (hi : PI X tg iter wi)
    (hPG : ∀ (A : Around) (s : Shared) (H : Hp) (C : Addr) (cl : List (Str × Addr)) (cd : Value) (fp : List Addr), PG (Cxg X A s H (genEnv scope cl C cd builtinsNs X.env) fp) tg g)
    (he : ∀ (A : Around) (s : Shared) (H : Hp) (C : Addr) (cl : List (Str × Addr)) (cd : Value) (fp : List Addr), Room k A → PE (Cxg X A s H (genEnv scope cl C cd builtinsNs X.env) fp) elt te)
    (hs : ∀ v, genFold iter X.env v = pure v) (I : Inv X pins σ H s) (h : tGx P cont wi g te (own.map (·.2)) σ H Q)
    (hQ : ∀ (Z : Cx) (a : Addr) (obj : Obj) (gi n : Nat) (s5 : Shared), Z.prog = X.prog → Z.w = X.w → (∀ h : Heap, h.get? a = some obj → h.IsGen a gi) → (s5.heap.get? a = some obj) → GSt Z X.A.in1.in1 a obj gi cont Q n s5 →
      (∀ s' H' σ', Inv Z [(a, obj)] σ' H' s' → Inv X pins σ H' s') → Qf (.ref a) s5) :
    wpAny (model X.prog X.w) X.A (eval (.GeneratorExp elt [⟨tg, iter, [], 0⟩] scope gpos) X.env) Qf X.xe s := by
  have ok := S.blk
  have hfree : ∀ y ∈ scope.names, y.2 = .free → ∃ c, X.env.cells.lookup y.1 = some c := fun y hy e => by
    rcases ok.free y hy e with k | k
    · exact I.ok.has _ (.inl k)
    · exact I.ok.has _ (.inr k)
  refine wpAny_GeneratorExp_make S.co (closure_ok hfree) S.cell S.dot ok.kind (by have := hr.dp; omega) ?_ hs
  refine thn (hi.run pins s σ H _ I h) fun xv s1 hx => thn hx fun itv s2 h2 => ?_
  obtain ⟨it, fp, tn, J, H2, rfl, I2, T, st2, f2, hP, W, ⟨m0, w0⟩, hW⟩ := h2
  refine ⟨I2.nolimit, ?_⟩
  obtain ⟨ps, hP2, ht⟩ := tabX_get I2 hP
  have cd : PySem.W.CodeHd s2.heap c P := TB.code.keeps I2.bk
  have nfp : ∀ b ∈ fp, b ≠ P := fun b hb z => by
    have := (f2 b hb).1
    rw [z, hP] at this
    cases this
  -- what follows, the code object found or made
  have cont' : ∀ (code : Value) (s3 : Shared), Inv X pins σ H2 s3 → (∀ b o, b ≠ P → s2.heap.get? b = some o → s3.heap.get? b = some o) → wpAny (model X.prog X.w) X.A (builtinsFor X.env.globals X.env.builtins) (fun bi s₄ => ∀ h', h'.Ns s₄.heap.objs.size (fun y => if y = ".0" then some (.ref it) else none) → Heap.SameBut s₄.heap.objs.size (s₄.heap.push { cls := .type "frame", data := .dict #[] }) h' →
      Qf (.ref h'.objs.size) { s₄ with
        gens := s₄.gens.push (.fresh (.compStart (.GeneratorExp elt [⟨tg, iter, [], 0⟩] scope gpos) 0 (.ref it) .none (genEnv scope (cloFrom X.env.cells scope.names []) s₄.heap.objs.size code bi X.env))),
        toks := s₄.toks + 1 + 1 + 1,
        heap := h'.push { cls := .type "generator", data := .fields #[.int s₄.gens.size 0, .str "<genexpr>" (s₄.toks + 1), .str (X.env.qual ++ "<genexpr>") (s₄.toks + 1 + 1)] } }) X.xe s3 := by
    intro code s3 I3 kp3
    obtain ⟨bm, ob, e1, e2, e3, e4, e5, e6, e7, e8⟩ := TB.bm
    refine wpAny_builtinsFor (m := X.mg) (by rw [I3.ok.glob]; exact I3.ok.mod.glob.keeps I3.bk) e1 e2 (I3.bk _ _ e5) e6 e7 e8 ?_
    intro h' hns hsb
    have hsz : h'.objs.size = s3.heap.objs.size + 1 := by rw [hsb.1, Heap.size_push]
    have hfreed : ({ cls := .type "generator", data := .fields #[.int s3.gens.size 0, .str "<genexpr>" (s3.toks + 1), .str (X.env.qual ++ "<genexpr>") (s3.toks + 1 + 1)] } : Obj).isFreed = false := rfl
    generalize hobj : ({ cls := .type "generator", data := .fields #[.int s3.gens.size 0, .str "<genexpr>" (s3.toks + 1), .str (X.env.qual ++ "<genexpr>") (s3.toks + 1 + 1)] } : Obj) = obj at hfreed
    generalize hs5 : ({ s3 with gens := s3.gens.push (.fresh (.compStart (.GeneratorExp elt [⟨tg, iter, [], 0⟩] scope gpos) 0 (.ref it) .none (genEnv scope (cloFrom X.env.cells scope.names []) s3.heap.objs.size code builtinsNs X.env))), toks := s3.toks + 1 + 1 + 1, heap := h'.push obj } : Shared) = s5
    have hh5 : s5.heap = h'.push obj := by rw [← hs5]
    have hg5 : s5.gens = s3.gens.push (.fresh (.compStart (.GeneratorExp elt [⟨tg, iter, [], 0⟩] scope gpos) 0 (.ref it) .none (genEnv scope (cloFrom X.env.cells scope.names []) s3.heap.objs.size code builtinsNs X.env))) := by rw [← hs5]
    have kp : ∀ b o, s3.heap.get? b = some o → s5.heap.get? b = some o := fun b o e => by
      rw [hh5]
      refine Heap.get?_push_of_some _ ?_
      exact hsb.extBut b o (Nat.ne_of_lt (Heap.lt_size e)) (Heap.get?_push_of_some _ e)
    have f3 : ∀ b ∈ fp, FpOk X pins H2 b ∧ b < s3.heap.objs.size := fun b hb => ⟨f2 b hb, by
      obtain ⟨o, e, _⟩ := T.obj _ _ st2 b hb
      exact Heap.lt_size (kp3 b o (nfp b hb) e)⟩
    have hbare : AllBare s5.gens := by
      rw [hg5]
      exact I3.bare.push rfl
    have hos : s5.os = s3.os := by rw [← hs5]
    generalize hce : genEnv scope (cloFrom X.env.cells scope.names []) s3.heap.objs.size code builtinsNs X.env = cenv at hg5
    have hfr : X.A.frames = some X.stack := I3.ok.frames
    have I5 := gen_start (A := X.A.in1.in1.over (gLoop elt tg iter scope gpos it (genEnv scope (cloFrom X.env.cells scope.names []) s3.heap.objs.size code builtinsNs X.env)) []) (code := code) (s' := s5) (itv := .ref it) I3 S hN f3 (by exact hr.hd) (by
      show pushEnvs [genEnv scope (cloFrom X.env.cells scope.names []) s3.heap.objs.size code builtinsNs X.env] (pushEnvs [] X.A.frames) = _
      rw [hfr]
      rfl) (by rw [hh5]; exact hns.push _) kp hos hbare
    have hdep : (X.A.in1.in1.over (gLoop elt tg iter scope gpos it (genEnv scope (cloFrom X.env.cells scope.names []) s3.heap.objs.size code builtinsNs X.env)) []).depth ≤ X.A.in1.in1.depth + 1 := Nat.le_of_eq rfl
    have huni : (X.A.in1.in1.over (gLoop elt tg iter scope gpos it (genEnv scope (cloFrom X.env.cells scope.names []) s3.heap.objs.size code builtinsNs X.env)) []).units ≤ X.A.in1.in1.units + 3 := Nat.le_of_eq rfl
    have hdep1 : X.A.in1.in1.depth = X.A.depth := rfl
    have huni1 : X.A.in1.in1.units ≤ X.A.units + 2 := Nat.le_of_eq rfl
    have hA' : Room k (X.A.in1.in1.over (gLoop elt tg iter scope gpos it (genEnv scope (cloFrom X.env.cells scope.names []) s3.heap.objs.size code builtinsNs X.env)) []) := ⟨hr.hd, Nat.lt_of_le_of_lt (Nat.add_le_add_right (Nat.add_le_add_right (hdep1 ▸ hdep) _) _) (by have := hr.dp; omega), Nat.lt_of_le_of_lt (Nat.add_le_add_right (Nat.add_le_add_right (Nat.le_trans huni (Nat.add_le_add_right huni1 3)) _) _) (by have := hr.un; omega)⟩
    have pg := hPG (X.A.in1.in1.over (gLoop elt tg iter scope gpos it (genEnv scope (cloFrom X.env.cells scope.names []) s3.heap.objs.size code builtinsNs X.env)) []) s3 H2 s3.heap.objs.size (cloFrom X.env.cells scope.names []) code fp
    have pe := he (X.A.in1.in1.over (gLoop elt tg iter scope gpos it (genEnv scope (cloFrom X.env.cells scope.names []) s3.heap.objs.size code builtinsNs X.env)) []) s3 H2 s3.heap.objs.size (cloFrom X.env.cells scope.names []) code fp hA'
    rw [hce] at I5 pg pe
    have hcs : cenv.scope = scope := by rw [← hce]; rfl
    have hcl : cenv.locals = s3.heap.objs.size := by rw [← hce]; rfl
    have ha5 : s5.heap.get? h'.objs.size = some obj := by rw [hh5]; exact Heap.get?_push_size _ hfreed
    have hage : s3.heap.objs.size ≤ h'.objs.size := by omega
    have I6 : Inv (Cxg X (X.A.in1.in1.over (gLoop elt tg iter scope gpos it cenv) []) s3 H2 cenv fp) [(h'.objs.size, obj)] (wipe σ (own.map (·.2))) H2 s5 := I5.pins_of fun p hp => by
      rcases List.mem_singleton.mp hp with rfl
      refine ⟨ha5, I3.hok.fresh hage, by show h'.objs.size ≠ cenv.locals; rw [hcl, hsz]; exact Nat.succ_ne_self _, fun z => ?_, fun v z => ?_⟩
      · rcases List.mem_cons.mp (I3.stkSub _ z) with z | z
        · have := I3.lt
          rw [← z] at this
          exact absurd (Nat.lt_of_lt_of_le this hage) (Nat.lt_irrefl _)
        · exact I3.nofs hage z
      · rw [← hobj] at z
        cases z
    have hafp : h'.objs.size ∉ fp := fun z => absurd (Nat.lt_of_lt_of_le (f3 _ z).2 hage) (Nat.lt_irrefl _)
    have st5 : tn 0 s5.heap := T.keep _ _ _ st2 fun b hb o e => kp b o (kp3 b o (nfp b hb) e)
    refine hQ (Cxg X (X.A.in1.in1.over (gLoop elt tg iter scope gpos it cenv) []) s3 H2 cenv fp) h'.objs.size obj s3.gens.size (m0 + 1) s5 rfl rfl (fun h e => ?_) ha5 ⟨.fresh (.compStart (.GeneratorExp elt [⟨tg, iter, [], 0⟩] scope gpos) 0 (.ref it) .none cenv), H2, _, by rw [hg5]; exact Array.getElem?_push_size .., I6, fun s'' hal => ⟨rfl, ?_⟩⟩ (fun s' H' σ' I' => ?_)
    · rw [← hobj] at e
      exact ⟨_, _, _, e, rfl, rfl, rfl⟩
    · have I7 := inv_kept I6 hal.os hal.bare hal.keep
      have st7 : tn 0 s''.heap := T.keep _ _ _ st5 fun b _ o e => hal.keep b o e
      exact seg_gxStart (Z := Cxg X (X.A.in1.in1.over (gLoop elt tg iter scope gpos it cenv) []) s3 H2 cenv fp) T st7 (seg_gx (Z := Cxg X (X.A.in1.in1.over (gLoop elt tg iter scope gpos it cenv) []) s3 H2 cenv fp) rfl rfl rfl rfl (fun b hb => hb) hafp (by show cenv.scope.isCoroutine = false; rw [hcs]; exact S.co) T pg pe hW m0 0 s'' s'' H2 ⟨m0, Nat.le_refl _, w0⟩ I7 st7 fun b hb => (f2 b hb).1)
    · exact I3.call' (ch := fp) I'.os I'.base I'.hok I'.bare fun b hb => ⟨(f3 b hb).1.2.2.2.1, (f3 b hb).1.2.1, (f3 b hb).1.2.2.2.2.1, (f3 b hb).1.2.2.2.2.2⟩
  cases hf : codeAmong gpos ps.toList with
  | none =>
    refine wpAny_genexprCodeX hcode (cd.code hP2 ht) (cd.tab hP2) hf fun c' h' tk hx hge hlt hco' _ htab' _ => ?_
    obtain ⟨o1, vs, f1, tf, fl, tg', inF, tx, tt, op, _, _, _, _, _, _, _, _, _, htr, _⟩ := hco'
    exact cont' _ _ (inv_tabX (h' := h') (g' := s2.gens) (d' := s2.drawn) (t' := tk) I2 hP (fun b o hb e => hx b o hb e) ⟨_, htab'.2, htr⟩ I2.bare) (fun b o hb e => hx b o hb e)
  | some cv =>
    refine wpAny_genexprCode_hit hcode (cd.code hP2 ht) hf ?_
    exact cont' cv s2 I2 (fun b o _ e => e)
theorem pe_anyG {c P : Addr} {elt tg iter : Expr} {scope : Scope} {own : List (Str × Nat)} {p pos gpos : Pos} {k : Nat} {wi : TI} {g : TG} {te : TE}
    (hr : Room (k + 1) X.A) (hg : Gl X "any") (hm : X.mg "any" = none) (TB : TabB X.base X.mg c P) (hcode : X.env.code = .ref c) (hN : X.N.Nodup) (S : GScp X.N X.env.scope scope own) (hi : PI X tg iter wi)
    (hPG : ∀ (A : Around) (s : Shared) (H : Hp) (C : Addr) (cl : List (Str × Addr)) (cd : Value) (fp : List Addr), PG (Cxg X A s H (genEnv scope cl C cd builtinsNs X.env) fp) tg g)
    (he : ∀ (A : Around) (s : Shared) (H : Hp) (C : Addr) (cl : List (Str × Addr)) (cd : Value) (fp : List Addr), Room k A → PE (Cxg X A s H (genEnv scope cl C cd builtinsNs X.env) fp) elt te)
    (hs : ∀ v, genFold iter X.env v = pure v := by intro _; rfl)
    (hst : starEach [.GeneratorExp elt [⟨tg, iter, [], 0⟩] scope gpos] X.env = (false, eval (.GeneratorExp elt [⟨tg, iter, [], 0⟩] scope gpos) X.env) :: starEach [] X.env := by rfl) :
    PE X (.Call (.Name "any" p) [.GeneratorExp elt [⟨tg, iter, [], 0⟩] scope gpos] [] pos) (tGx P false wi g te (own.map (·.2))) := by
  refine ⟨fun pins s σ H Q I h => ?_⟩
  refine wpAny_Call_Name_kw (ld_blt I hg hm boot_any ?_)
  refine PyProof.Rows.callWith_builtin1 ?_ hst (by rfl)
  rw [hst]
  show wpAny _ _ (spliced ((false, eval (.GeneratorExp elt [⟨tg, iter, [], 0⟩] scope gpos) X.env) :: backTo pos (starEach [] X.env))) _ _ s
  refine Calls.spliced_cons (gen_gx hr TB hcode hN S hi hPG he hs I h fun Z a obj gi n s5 hp hw hob ha5 hG hb => ?_)
  refine Calls.spliced_nil ?_
  refine call_function_tree F.kind_any F.plain_any F.entry_any (F.args_any1 _) ?_
  unfold Builtin.«any»
  refine wpAny_bind (m := oneArg "any" _) (wpAny_pure ?_)
  refine wpAny_bind (wpAny_pyIter_gen (hob _ ha5) ?_)
  refine wpAny_pure ⟨plainId_quiet F.plain_any_loop _, ?_⟩
  rw [← hp, ← hw]
  refine any_loop (Z := Z) (Q := Q) hr.hd (by have := hr.dp; show X.A.depth < _; omega) hob (fun b s' H' σ' I' q => ?_) n s5 hG
  exact ⟨.bl b, H', hb s' H' σ' I', rfl, q⟩
theorem pe_allG {c P : Addr} {elt tg iter : Expr} {scope : Scope} {own : List (Str × Nat)} {p pos gpos : Pos} {k : Nat} {wi : TI} {g : TG} {te : TE}
    (hr : Room (k + 1) X.A) (hg : Gl X "all") (hm : X.mg "all" = none) (TB : TabB X.base X.mg c P) (hcode : X.env.code = .ref c) (hN : X.N.Nodup) (S : GScp X.N X.env.scope scope own) (hi : PI X tg iter wi)
    (hPG : ∀ (A : Around) (s : Shared) (H : Hp) (C : Addr) (cl : List (Str × Addr)) (cd : Value) (fp : List Addr), PG (Cxg X A s H (genEnv scope cl C cd builtinsNs X.env) fp) tg g)
    (he : ∀ (A : Around) (s : Shared) (H : Hp) (C : Addr) (cl : List (Str × Addr)) (cd : Value) (fp : List Addr), Room k A → PE (Cxg X A s H (genEnv scope cl C cd builtinsNs X.env) fp) elt te)
    (hs : ∀ v, genFold iter X.env v = pure v := by intro _; rfl)
    (hst : starEach [.GeneratorExp elt [⟨tg, iter, [], 0⟩] scope gpos] X.env = (false, eval (.GeneratorExp elt [⟨tg, iter, [], 0⟩] scope gpos) X.env) :: starEach [] X.env := by rfl) :
    PE X (.Call (.Name "all" p) [.GeneratorExp elt [⟨tg, iter, [], 0⟩] scope gpos] [] pos) (tGx P true wi g te (own.map (·.2))) := by
  refine ⟨fun pins s σ H Q I h => ?_⟩
  refine wpAny_Call_Name_kw (ld_blt I hg hm boot_all ?_)
  refine PyProof.Rows.callWith_builtin1 ?_ hst (by rfl)
  rw [hst]
  show wpAny _ _ (spliced ((false, eval (.GeneratorExp elt [⟨tg, iter, [], 0⟩] scope gpos) X.env) :: backTo pos (starEach [] X.env))) _ _ s
  refine Calls.spliced_cons (gen_gx hr TB hcode hN S hi hPG he hs I h fun Z a obj gi n s5 hp hw hob ha5 hG hb => ?_)
  refine Calls.spliced_nil ?_
  refine call_function_tree F.kind_all F.plain_all F.entry_all (F.args_all1 _) ?_
  unfold Builtin.«all»
  refine wpAny_bind (m := oneArg "all" _) (wpAny_pure ?_)
  refine wpAny_bind (wpAny_pyIter_gen (hob _ ha5) ?_)
  refine wpAny_pure ⟨plainId_quiet F.plain_all_loop _, ?_⟩
  rw [← hp, ← hw]
  refine all_loop (Z := Z) (Q := Q) hr.hd (by have := hr.dp; show X.A.depth < _; omega) hob (fun b s' H' σ' I' q => ?_) n s5 hG
  exact ⟨.bl b, H', hb s' H' σ' I', rfl, q⟩
end
end GX
namespace GX
open PySem PySem.Spec PyProof.Rows L2 Evl
open GxR (TabB)
section
variable {K : PySem.W.Frag} {σ : L2.St} {H : Hp} {tl te : TE} {P a : Addr} {xs : List V} {j : Nat} {ws : List Nat} {p : Nat → Bool} {Q : VK}
theorem range_hit {p : Nat → Bool} {n i : Nat} (hi : i < n) (h : p i = true) : (List.range n).any p = true := List.any_eq_true.mpr ⟨i, List.mem_range.mpr hi, h⟩
theorem range_out {p : Nat → Bool} {n i : Nat} (hi : i < n) (h : p i = false) : (List.range n).all p = false := List.all_eq_false.mpr ⟨i, List.mem_range.mpr hi, by rw [h]; decide⟩
theorem gx_anyL (hT : H P = some (TabX P)) (hx : SqL K H a xs) (hw : ∀ x, wipe ((wipe σ ws).set j (some x)) ws = wipe σ ws) (he : ∀ i x H1, Ex H H1 → xs[i]? = some x → Ev te ((wipe σ ws).set j (some x)) H1 (.bl (p i)))
    (q : ∀ H1, Ex H H1 → Q (.bl ((List.range xs.length).any p)) H1) : H P = some (TabX P) ∧ ∃ W : Nat → Nat → Hp → Prop, (∃ m, W 0 m H) ∧ Turns (Itl K a) (gName j) te σ ws false W Q := by
  refine ⟨hT, fun i m H' => i + m = xs.length ∧ Ex H H' ∧ (List.range i).any p = false, ⟨xs.length, by omega, Ex.refl H, rfl⟩, ?_⟩
  rintro i m H' ⟨him, eH, hno⟩
  by_cases hi : i < xs.length
  · refine .inr ⟨⟨xs, xs[i], ex_l eH hx, List.getElem?_eq_getElem hi⟩, ?_⟩
    rintro x H2 ⟨rfl, hx2⟩
    have hix := hx2 xs (ex_l eH hx)
    refine ⟨hw x, he i x _ eH hix _ (Ex.refl _) _ fun H3 e3 => ⟨p i, rfl, fun hb => ?_, fun hb => ⟨m - 1, by omega, by omega, eH.trans e3, ?_⟩⟩⟩
    · have g := q H3 (eH.trans e3)
      rw [range_hit hi hb] at g
      exact g
    · rw [List.range_succ, List.any_append, hno, List.any_cons, hb]
      rfl
  · obtain rfl : i = xs.length := by omega
    refine .inl ⟨⟨xs, ex_l eH hx, Nat.le_refl _⟩, ?_⟩
    have g := q H' eH
    rw [hno] at g
    exact g
theorem gx_allL (hT : H P = some (TabX P)) (hx : SqL K H a xs) (hw : ∀ x, wipe ((wipe σ ws).set j (some x)) ws = wipe σ ws) (he : ∀ i x H1, Ex H H1 → xs[i]? = some x → Ev te ((wipe σ ws).set j (some x)) H1 (.bl (p i)))
    (q : ∀ H1, Ex H H1 → Q (.bl ((List.range xs.length).all p)) H1) : H P = some (TabX P) ∧ ∃ W : Nat → Nat → Hp → Prop, (∃ m, W 0 m H) ∧ Turns (Itl K a) (gName j) te σ ws true W Q := by
  refine ⟨hT, fun i m H' => i + m = xs.length ∧ Ex H H' ∧ (List.range i).all p = true, ⟨xs.length, by omega, Ex.refl H, rfl⟩, ?_⟩
  rintro i m H' ⟨him, eH, hno⟩
  by_cases hi : i < xs.length
  · refine .inr ⟨⟨xs, xs[i], ex_l eH hx, List.getElem?_eq_getElem hi⟩, ?_⟩
    rintro x H2 ⟨rfl, hx2⟩
    have hix := hx2 xs (ex_l eH hx)
    refine ⟨hw x, he i x _ eH hix _ (Ex.refl _) _ fun H3 e3 => ⟨p i, rfl, fun hb => ?_, fun hb => ⟨m - 1, by omega, by omega, eH.trans e3, ?_⟩⟩⟩
    · have g := q H3 (eH.trans e3)
      rw [range_out hi hb] at g
      exact g
    · rw [List.range_succ, List.all_append, hno, List.all_cons, hb]
      rfl
  · obtain rfl : i = xs.length := by omega
    refine .inl ⟨⟨xs, ex_l eH hx, Nat.le_refl _⟩, ?_⟩
    have g := q H' eH
    rw [hno] at g
    exact g
theorem gx_anyT (hT : H P = some (TabX P)) (hx : SqT K H a xs) (hw : ∀ x, wipe ((wipe σ ws).set j (some x)) ws = wipe σ ws) (he : ∀ i x H1, Ex H H1 → xs[i]? = some x → Ev te ((wipe σ ws).set j (some x)) H1 (.bl (p i)))
    (q : ∀ H1, Ex H H1 → Q (.bl ((List.range xs.length).any p)) H1) : H P = some (TabX P) ∧ ∃ W : Nat → Nat → Hp → Prop, (∃ m, W 0 m H) ∧ Turns (Itt K a) (gName j) te σ ws false W Q := by
  refine ⟨hT, fun i m H' => i + m = xs.length ∧ Ex H H' ∧ (List.range i).any p = false, ⟨xs.length, by omega, Ex.refl H, rfl⟩, ?_⟩
  rintro i m H' ⟨him, eH, hno⟩
  by_cases hi : i < xs.length
  · refine .inr ⟨⟨xs, xs[i], ex_t eH hx, List.getElem?_eq_getElem hi⟩, ?_⟩
    rintro x H2 ⟨rfl, hx2⟩
    have hix := hx2 xs (ex_t eH hx)
    refine ⟨hw x, he i x _ eH hix _ (Ex.refl _) _ fun H3 e3 => ⟨p i, rfl, fun hb => ?_, fun hb => ⟨m - 1, by omega, by omega, eH.trans e3, ?_⟩⟩⟩
    · have g := q H3 (eH.trans e3)
      rw [range_hit hi hb] at g
      exact g
    · rw [List.range_succ, List.any_append, hno, List.any_cons, hb]
      rfl
  · obtain rfl : i = xs.length := by omega
    refine .inl ⟨⟨xs, ex_t eH hx, Nat.le_refl _⟩, ?_⟩
    have g := q H' eH
    rw [hno] at g
    exact g
theorem gx_allT (hT : H P = some (TabX P)) (hx : SqT K H a xs) (hw : ∀ x, wipe ((wipe σ ws).set j (some x)) ws = wipe σ ws) (he : ∀ i x H1, Ex H H1 → xs[i]? = some x → Ev te ((wipe σ ws).set j (some x)) H1 (.bl (p i)))
    (q : ∀ H1, Ex H H1 → Q (.bl ((List.range xs.length).all p)) H1) : H P = some (TabX P) ∧ ∃ W : Nat → Nat → Hp → Prop, (∃ m, W 0 m H) ∧ Turns (Itt K a) (gName j) te σ ws true W Q := by
  refine ⟨hT, fun i m H' => i + m = xs.length ∧ Ex H H' ∧ (List.range i).all p = true, ⟨xs.length, by omega, Ex.refl H, rfl⟩, ?_⟩
  rintro i m H' ⟨him, eH, hno⟩
  by_cases hi : i < xs.length
  · refine .inr ⟨⟨xs, xs[i], ex_t eH hx, List.getElem?_eq_getElem hi⟩, ?_⟩
    rintro x H2 ⟨rfl, hx2⟩
    have hix := hx2 xs (ex_t eH hx)
    refine ⟨hw x, he i x _ eH hix _ (Ex.refl _) _ fun H3 e3 => ⟨p i, rfl, fun hb => ?_, fun hb => ⟨m - 1, by omega, by omega, eH.trans e3, ?_⟩⟩⟩
    · have g := q H3 (eH.trans e3)
      rw [range_out hi hb] at g
      exact g
    · rw [List.range_succ, List.all_append, hno, List.all_cons, hb]
      rfl
  · obtain rfl : i = xs.length := by omega
    refine .inl ⟨⟨xs, ex_t eH hx, Nat.le_refl _⟩, ?_⟩
    have g := q H' eH
    rw [hno] at g
    exact g
theorem ev_anyT (hT : H P = some (TabX P)) (h : Ev tl σ H (.ref a)) (hx : SqT K H a xs) (hw : ∀ x, wipe ((wipe σ ws).set j (some x)) ws = wipe σ ws) (he : ∀ i x H1, Ex H H1 → xs[i]? = some x → Ev te ((wipe σ ws).set j (some x)) H1 (.bl (p i))) :
    Ev (tGx P false (iTup K tl) (gName j) te ws) σ H (.bl ((List.range xs.length).any p)) := fun H1 e Q q => h H1 e _ fun H2 e2 => ⟨a, rfl, ⟨xs, ex_t (e.trans e2) hx⟩, gx_anyT ((e.trans e2) _ _ hT) (ex_t (e.trans e2) hx) hw (fun i x H3 e3 hi => he i x H3 (e.trans (e2.trans e3)) hi) fun H3 e3 => q H3 (e2.trans e3)⟩
theorem ev_allT (hT : H P = some (TabX P)) (h : Ev tl σ H (.ref a)) (hx : SqT K H a xs) (hw : ∀ x, wipe ((wipe σ ws).set j (some x)) ws = wipe σ ws) (he : ∀ i x H1, Ex H H1 → xs[i]? = some x → Ev te ((wipe σ ws).set j (some x)) H1 (.bl (p i))) :
    Ev (tGx P true (iTup K tl) (gName j) te ws) σ H (.bl ((List.range xs.length).all p)) := fun H1 e Q q => h H1 e _ fun H2 e2 => ⟨a, rfl, ⟨xs, ex_t (e.trans e2) hx⟩, gx_allT ((e.trans e2) _ _ hT) (ex_t (e.trans e2) hx) hw (fun i x H3 e3 hi => he i x H3 (e.trans (e2.trans e3)) hi) fun H3 e3 => q H3 (e2.trans e3)⟩
theorem ev_anyNL (hT : H P = some (TabX P)) (h : EvL tl σ H xs) (hw : ∀ x, wipe ((wipe σ ws).set j (some x)) ws = wipe σ ws) (he : ∀ i x H1, Ex H H1 → xs[i]? = some x → Ev te ((wipe σ ws).set j (some x)) H1 (.bl (p i))) :
    Ev (tGx P false (iList K tl) (gName j) te ws) σ H (.bl ((List.range xs.length).any p)) := fun H1 e Q q => h H1 e _ fun a H2 _ e2 h2 => ⟨a, rfl, ⟨xs, sq_of h2⟩, gx_anyL ((e.trans e2) _ _ hT) (sq_of h2) hw (fun i x H3 e3 hi => he i x H3 (e.trans (e2.trans e3)) hi) fun H3 e3 => q H3 (e2.trans e3)⟩
end
end GX
namespace BD
open PySem PySem.Spec PyProof.Rows L2 Evl GX
section
variable {K : PySem.W.Frag} {σ : L2.St} {H : Hp} {tl te : TE} {P a : Addr} {xs : List V} {j n : Nat} {ws : List Nat} {p : Nat → Bool} {R : List V → Hp → Prop}
theorem ev_anyPL (hT : H P = some (TabX P)) (h : EvPL tl σ H R) (hw : ∀ x, wipe ((wipe σ ws).set j (some x)) ws = wipe σ ws) (hn : ∀ us H2, R us H2 → us.length = n) (he : ∀ us H2, Ex H H2 → R us H2 → ∀ i x H1, Ex H2 H1 → us[i]? = some x → Ev te ((wipe σ ws).set j (some x)) H1 (.bl (p i))) :
    Ev (tGx P false (iList K tl) (gName j) te ws) σ H (.bl ((List.range n).any p)) := fun H1 e Q q => h H1 e _ fun a us H2 _ e2 h2 hR => ⟨a, rfl, ⟨us, sq_of h2⟩, gx_anyL ((e.trans e2) _ _ hT) (sq_of h2) hw (fun i x H3 e3 hi => he us H2 (e.trans e2) hR i x H3 e3 hi) fun H3 e3 => by
  rw [hn us H2 hR]
  exact q H3 (e2.trans e3)⟩
end
/-! ### a def whose code object is told -/
def DnC (K : PySem.W.Frag) (mg : Str → Option Value) (x : Str) (st : Stmt) (ps : List Str) (c : Addr) : Prop := ∃ f fd, Fun K x x st f fd ∧ mg x = some (.ref f) ∧ Binds K fd ps [] ∧ fd.code = .ref c
theorem dnC_mk {K : PySem.W.Frag} {h : Heap} {mg : Str → Option Value} (X : K.In h) (G : h.Ns mainGlobals mg) {x : Str} {st : Stmt} {ps : List Str} {f cc : Addr} {oc kV dc pm cd ct : Value} {od an : Option Addr} {sl : Array (Option Value)}
    (a : PySem.W.nsIn K mainGlobals x = some (some (.ref f))) (l : K.lookup f = some ⟨oc, od, .func (PySem.W.fnOf x x (defArgs st) (defBody st) (defScope st) .none kV dc pm an cd ct), sl⟩) (c : PySem.W.codeIn K cd x = true) (k : PySem.W.keepIn K (.ref f) = true) (hc : cd = .ref cc)
    (hb : ∀ (kV doc pm : Value) (an : Option Addr) (cdv ct : Value) (us : List Value), us.length = ps.length → bindArgs (PySem.W.fnOf x x (defArgs st) (defBody st) (defScope st) .none kV doc pm an cdv ct) ⟨us, []⟩ = pure (ps.zip us)) : DnC K mg x st ps cc :=
  ⟨f, _, fun_mk l c k, PySem.W.mg_of X G a, (fun_mk l c k).binds hb, hc⟩
theorem DnC.ok {P : Program} {w : World} {K : PySem.W.Frag} {mg : Str → Option Value} {base : Heap} {x : Str} {st : Stmt} {N ps : List Str} {k : Nat} {sp : Sp} {c : Addr} (D : DnC K mg x st ps c) (S : FnScope N ps (defScope st)) (len : ∀ vs H Q E, sp vs H Q E → vs.length = ps.length)
    (hbody : ∀ (f : Addr) (cdv : Value) (A : Around) (outer : List Env) (s : Shared) (H : Hp) (vs : List V) (Q : VK) (E : XK), cdv = .ref c → Room k (A.deeper (envOfC x (defScope st) s.heap.objs.size f cdv)) → sp vs H Q E →
      ∃ t, PSs (cxOf CX0 P w K mg base N x (defScope st) f cdv A outer s H E).nox (defBody st) t ∧ t { nx := fun _ H' => Q .non H', rt := Q } (start N vs) H) : Has P w K mg base x (k + 1) ps sp := by
  obtain ⟨f, fd, F, m, b, hc⟩ := D
  refine ⟨f, fd, ?_, m, F.kp, b⟩
  obtain ⟨oc, od, kV, doc, pm, an, cdv, ct, osl, rfl, lk, hcd⟩ := F.ex
  refine fn_of lk hcd S len fun A outer s H vs Q E hr hsp => ?_
  obtain ⟨t, h, q⟩ := hbody f cdv A outer s H vs Q E hc hr hsp
  exact ⟨t, h.nox, q⟩
end BD
namespace BD
open PySem PySem.Spec PyProof.Rows L2 Evl
local macro_rules | `(tactic| walk_at "ev") => `(tactic| first
  | ((with_reducible apply ev_var) ; rfl)
  | with_reducible exact ev_c
  | ((with_reducible apply ev_I0) <;> walk_at "ev")
  | ((with_reducible apply ev_e9) <;> walk_at "ev")
  | ((with_reducible apply ev_I) <;> walk_at "ev")
  | ((with_reducible apply ev_eq) <;> walk_at "ev")
  | ((with_reducible apply ev_ne) <;> walk_at "ev")
  | ((with_reducible apply ev_neg) <;> walk_at "ev")
  | ((with_reducible apply ev_ixN) <;> walk_at "ev")
  | ((with_reducible apply ev_ixL) <;> walk_at "ev")
  | ((with_reducible apply ev_inN) <;> walk_at "ev")
  | ((with_reducible apply ev_inT) <;> walk_at "ev")
  | ((with_reducible apply ev_ixT) <;> walk_at "ev")
  | ((with_reducible apply ev_ixS) <;> walk_at "ev")
  | ((with_reducible apply ev_len') <;> walk_at "ev")
  | ((with_reducible apply et_test) <;> walk_at "ev")
  | ((with_reducible apply et_and) <;> walk_at "ev")
  | ((with_reducible apply et_or) <;> walk_at "ev")
  | ((with_reducible apply et_not) <;> walk_at "ev")
  | ((with_reducible apply et_B) <;> walk_at "ev")
  | ((with_reducible apply el_lst) <;> walk_at "ev")
  | ((with_reducible apply eu_tup) <;> walk_at "ev")
  | ((with_reducible apply ea_cons) <;> walk_at "ev")
  | with_reducible exact ea_nil
  | with_reducible assumption
  | ((with_reducible apply ex_l' ; assumption) ; walk_at "ex")
  | ((with_reducible apply ex_t' ; assumption) ; walk_at "ex")
  | (intro _ ; walk_at "ev")
  | (with_reducible first | exact atI_hd | exact at_kind | exact at2s | exact at3s | exact at3i)
  | (first | exact rfl | exact Nat.le_of_ble_eq_true rfl | exact ⟨by decide, by decide⟩ | decide | exact Or.inl ⟨by omega, by omega⟩ | exact Or.inr ⟨by omega, by omega⟩ | omega)
  | skip)
local macro_rules | `(tactic| walk_at "ex") => `(tactic| first
  | assumption
  | exact Ex.refl _
  | (refine' Ex.trans ?_ (by assumption) ; walk_at "ex"))
local macro_rules | `(tactic| walk_at "row") => `(tactic| first
  | (with_reducible exact er_nil)
  | ((with_reducible apply er_cons) <;> walk_at "row")
  | (((with_reducible apply er_var) ; rfl) ; walk_at "isrow")
  | (((with_reducible apply elr_var) ; rfl) ; walk_at "isrow")
  | ((with_reducible apply elr_cat) <;> walk_at "row")
  | ((with_reducible apply elr_lst) <;> walk_at "row")
  | ((with_reducible apply er_fin) <;> walk_at "ev")
  | ((with_reducible apply er_lendT) <;> walk_at "ev")
  | ((with_reducible apply er_lendW) <;> walk_at "ev")
  | ((with_reducible apply er_pick) <;> walk_at "ev")
  | ((with_reducible apply er_either) <;> walk_at "ev")
  | ((with_reducible apply er_or) <;> walk_at "ev")
  | ((with_reducible apply er_again) <;> walk_at "ev")
  | ((with_reducible apply er_back) <;> walk_at "ev")
  | ((with_reducible apply er_look) <;> walk_at "ev")
  | ((with_reducible apply er_change) <;> walk_at "ev")
  | exact Nat.le_of_ble_eq_true rfl
  | skip)
local macro_rules | `(tactic| walk_at "isrow") => `(tactic| first
  | assumption
  | (refine IsRow.up ?_ (by assumption) ; walk_at "ex")
  | (refine LRows.up ?_ (by assumption) ; walk_at "ex"))

abbrev s_awake : Stmt := topS 2
theorem sc_awake : FnScope ["held", "lenders", "entry"] ["held"] (defScope s_awake) := ⟨rfl, rfl, rfl, by decide +kernel, rfl, by decide +kernel, by decide +kernel⟩
theorem awakeM_one (es : List Ent) : (es.filter fun e => !decide (e.k = ("pick" : Str)) && (e.o && !decide (e.w ∈ (es.filter fun e : Ent => e.o).map fun e : Ent => e.s))) = awakeM es := by
  unfold awakeM
  rw [List.filter_filter]
  refine List.filter_congr fun e _ => ?_
  cases decide (e.k = ("pick" : Str)) <;> cases e.o <;> cases decide (e.w ∈ (es.filter fun e : Ent => e.o).map fun e : Ent => e.s) <;> rfl
section
variable {P : Program} {w : World} {K : PySem.W.Frag} {mg : Str → Option Value} {base : Heap}
theorem ok_pawake1 (D : Dn K mg "awake" s_awake ["held"]) : Has P w K mg base "awake" 1 ["held"] (spAwake K) := by
  refine D.ok sc_awake (fun vs H Q E h => ?_) (fun f cdv A outer st H vs Q E hr h => ?_)
  · obtain ⟨x, es, rfl, _⟩ := h
    rfl
  · obtain ⟨x, es, rfl, hx, hlen, q⟩ := h
    obtain ⟨p, hv, rfl, hp, hE⟩ := hx
    have hP : SqT K H p hv := st_of hp
    have hle := hE.len
    refine ⟨_, (pss_cons (ps_set (i := 1) sc_awake.nd rfl (Or.inr rfl) (pe_lc (own := [("entry", 2)]) (g := (gName 2))  rfl sc_awake.nd (pi_tup (pv 0)) (blkOk_by (own := [("entry", 2)]) (N := ["held", "lenders", "entry"]) (sc := defScope s_awake) (by decide +kernel)) (fun _ _ _ _ _ => (pg_name (i := 2) sc_awake.nd rfl (Or.inl rfl))) (fun _ _ _ _ _ => (pts_one (pt_val (pe_ix (show IxR _ (rIxT K) from ix_tup) (pv 2) pe_int (fun _ _ => rfl))))) (fun _ _ _ _ _ => (pe_ix (show IxR _ (rIxT K) from ix_tup) (pv 2) pe_int (fun _ _ => rfl))))) (pss_one (ps_ret (pe_lc (own := [("entry", 2)]) (g := (gName 2))  rfl sc_awake.nd (pi_tup (pv 0)) (blkOk_by (own := [("entry", 2)]) (N := ["held", "lenders", "entry"]) (sc := defScope s_awake) (by decide +kernel)) (fun _ _ _ _ _ => (pg_name (i := 2) sc_awake.nd rfl (Or.inl rfl))) (fun _ _ _ _ _ => (pts_one (PW.pt (pw_and (pt_cmpR op_ne (pe_ix (show IxR _ (rIxT K) from ix_tup) (pv 2) pe_int (fun _ _ => rfl)) pe_str (nomark _)) (pw_and (pt_val (pe_ix (show IxR _ (rIxT K) from ix_tup) (pv 2) pe_int (fun _ _ => rfl))) (pw_and1 (pt_cmpR (show OpR _ _ (rIn K true) from op_notIn_seq) (pe_ix (show IxR _ (rIxT K) from ix_tup) (pv 2) pe_int (fun _ _ => rfl)) (pv 1) (by rfl)))))))) (fun _ _ _ _ _ => (pv 2)))))), ?_⟩
    show (_ : L2.TS) _ [_, _, _] _
    refine q_asgL (el_mapT (K := K) (fun e : Ent => e.o) (fun e : Ent => e.s) (ev_var rfl) hP hE (by omega) (fun x => rfl) (fun x e H1 _ hx => ?_) (fun x e H1 _ hx => ?_)) (fun pl H1 hpl e1 h1 => ?_)
    · exact et_B (ev_e4 rfl hx)
    · exact ev_e3 rfl hx
    show (_ : L2.TS) _ [_, _, _] _
    have hL1 : SqL K H1 pl (((es.filter fun e : Ent => e.o).map fun e : Ent => e.s).map V.str) := sq_of h1
    refine (epl_filterT (fun e => !decide (e.k = ("pick" : Str)) && (e.o && !decide (e.w ∈ (es.filter fun e : Ent => e.o).map fun e : Ent => e.s))) (ev_var rfl) (ex_t e1 hP) (hE.up e1) (by omega) (fun x => rfl) (fun x e H2 e2 hx => ?_) (fun x => rfl)) H1 (Ex.refl H1) _ fun pz zs H3 hpz e3 h3 hZ => q pz zs H3 (fresh_back e1 hpz) (e1.trans e3) h3 (by rw [← awakeM_one]; exact hZ)
    rw [← dec_str]
    exact et_and (et_test (ev_ne (ev_e1 rfl hx) ev_c rfl)) (fun _ => et_and (et_B (ev_e4 rfl hx)) (fun _ => et_test (ev_notInLs (ev_e0 rfl hx) (ev_var rfl) (ex_l e2 hL1))))
theorem ok_pawake (D : Dn K mg "awake" s_awake ["held"]) : Has P w K mg base "awake" 3 ["held"] (spAwake K) := (ok_pawake1 D).mono (by decide)
end
end BD
namespace BD
open PySem PySem.Spec PyProof.Rows L2 Evl GX
open GxR (TabB)
local macro_rules | `(tactic| walk_at "ev") => `(tactic| first
  | ((with_reducible apply ev_var) ; rfl)
  | with_reducible exact ev_c
  | ((with_reducible apply ev_I0) <;> walk_at "ev")
  | ((with_reducible apply ev_e9) <;> walk_at "ev")
  | ((with_reducible apply ev_I) <;> walk_at "ev")
  | ((with_reducible apply ev_eq) <;> walk_at "ev")
  | ((with_reducible apply ev_ne) <;> walk_at "ev")
  | ((with_reducible apply ev_neg) <;> walk_at "ev")
  | ((with_reducible apply ev_ixN) <;> walk_at "ev")
  | ((with_reducible apply ev_ixL) <;> walk_at "ev")
  | ((with_reducible apply ev_inN) <;> walk_at "ev")
  | ((with_reducible apply ev_inT) <;> walk_at "ev")
  | ((with_reducible apply ev_ixT) <;> walk_at "ev")
  | ((with_reducible apply ev_ixS) <;> walk_at "ev")
  | ((with_reducible apply ev_len') <;> walk_at "ev")
  | ((with_reducible apply et_test) <;> walk_at "ev")
  | ((with_reducible apply et_and) <;> walk_at "ev")
  | ((with_reducible apply et_or) <;> walk_at "ev")
  | ((with_reducible apply et_not) <;> walk_at "ev")
  | ((with_reducible apply et_B) <;> walk_at "ev")
  | ((with_reducible apply el_lst) <;> walk_at "ev")
  | ((with_reducible apply eu_tup) <;> walk_at "ev")
  | ((with_reducible apply ea_cons) <;> walk_at "ev")
  | with_reducible exact ea_nil
  | with_reducible assumption
  | ((with_reducible apply ex_l' ; assumption) ; walk_at "ex")
  | ((with_reducible apply ex_t' ; assumption) ; walk_at "ex")
  | (intro _ ; walk_at "ev")
  | (with_reducible first | exact atI_hd | exact at_kind | exact at2s | exact at3s | exact at3i)
  | (first | exact rfl | exact Nat.le_of_ble_eq_true rfl | exact ⟨by decide, by decide⟩ | decide | exact Or.inl ⟨by omega, by omega⟩ | exact Or.inr ⟨by omega, by omega⟩ | omega)
  | skip)
local macro_rules | `(tactic| walk_at "ex") => `(tactic| first
  | assumption
  | exact Ex.refl _
  | (refine' Ex.trans ?_ (by assumption) ; walk_at "ex"))
local macro_rules | `(tactic| walk_at "row") => `(tactic| first
  | (with_reducible exact er_nil)
  | ((with_reducible apply er_cons) <;> walk_at "row")
  | (((with_reducible apply er_var) ; rfl) ; walk_at "isrow")
  | (((with_reducible apply elr_var) ; rfl) ; walk_at "isrow")
  | ((with_reducible apply elr_cat) <;> walk_at "row")
  | ((with_reducible apply elr_lst) <;> walk_at "row")
  | ((with_reducible apply er_fin) <;> walk_at "ev")
  | ((with_reducible apply er_lendT) <;> walk_at "ev")
  | ((with_reducible apply er_lendW) <;> walk_at "ev")
  | ((with_reducible apply er_pick) <;> walk_at "ev")
  | ((with_reducible apply er_either) <;> walk_at "ev")
  | ((with_reducible apply er_or) <;> walk_at "ev")
  | ((with_reducible apply er_again) <;> walk_at "ev")
  | ((with_reducible apply er_back) <;> walk_at "ev")
  | ((with_reducible apply er_look) <;> walk_at "ev")
  | ((with_reducible apply er_change) <;> walk_at "ev")
  | exact Nat.le_of_ble_eq_true rfl
  | skip)
local macro_rules | `(tactic| walk_at "isrow") => `(tactic| first
  | assumption
  | (refine IsRow.up ?_ (by assumption) ; walk_at "ex")
  | (refine LRows.up ?_ (by assumption) ; walk_at "ex"))

local macro_rules | `(tactic| walk_at "ev") => `(tactic| (((with_reducible apply ev_tag) ; rfl) ; walk_at "isrow"))
abbrev s_clash : Stmt := topS 3
theorem sc_clash : FnScope ["one", "other"] ["one", "other"] (defScope s_clash) := ⟨rfl, rfl, rfl, by decide +kernel, rfl, by decide +kernel, by decide +kernel⟩
abbrev s_beside : Stmt := topS 4
theorem sc_beside : FnScope ["held", "hands", "count", "one", "other"] ["held"] (defScope s_beside) := ⟨rfl, rfl, rfl, by decide +kernel, rfl, by decide +kernel, by decide +kernel⟩
abbrev s_is_gone : Stmt := topS 5
theorem sc_is_gone : FnScope ["held", "word", "entry"] ["held", "word"] (defScope s_is_gone) := ⟨rfl, rfl, rfl, by decide +kernel, rfl, by decide +kernel, by decide +kernel⟩
abbrev s_is_awake : Stmt := topS 6
theorem sc_is_awake : FnScope ["held", "word", "entry"] ["held", "word"] (defScope s_is_awake) := ⟨rfl, rfl, rfl, by decide +kernel, rfl, by decide +kernel, by decide +kernel⟩
abbrev s_fault : Stmt := topS 7
theorem sc_fault : FnScope ["rows", "standing", "at", "held", "row"] ["rows", "standing"] (defScope s_fault) := ⟨rfl, rfl, rfl, by decide +kernel, rfl, by decide +kernel, by decide +kernel⟩
theorem any_getD {α : Type} (f : α → Bool) (d : α) (l : List α) : ((List.range l.length).any fun k => f (l.getD k d)) = l.any f := by
  have key : ∀ n, n ≤ l.length → ((List.range n).any fun k => f (l.getD k d)) = (l.take n).any f := fun n => by
    induction n with
    | zero => intro _; rfl
    | succ n ih =>
      intro hn
      have hg := List.getElem?_eq_getElem (show n < l.length from hn)
      rw [List.range_succ, List.any_append, ih (by omega), List.take_add_one, hg, List.any_append, List.any_cons, List.any_nil, List.getD_eq_getElem?_getD, hg]
      show _ = (_ || ([l[n]].any f))
      rw [List.any_cons, List.any_nil]
      rfl
  rw [key l.length (Nat.le_refl _), List.take_length]
/-- the word stands at an entry that is not out -/
def goneE (s : Src) (e : Ent) : Bool := decide (V.str e.w = s.v) && !e.o
def goneM (s : Src) (es : List Ent) : Bool := es.any (goneE s)
theorem std_word {rs : List Rw} {i : Nat} {es : List Ent} (sh : Sheet rs) (h : Std rs i es) : ∀ e ∈ es, e.w ≠ "" := fun e he => by
  have h1 : e.w ∈ ((opL rs i).filter Rw.named).map Rw.word := by
    rw [← held_words h.held]
    exact List.mem_map.mpr ⟨e, he, rfl⟩
  obtain ⟨q, hq, hw⟩ := List.mem_map.mp h1
  obtain ⟨hq1, hn⟩ := List.mem_filter.mp hq
  rw [opL_pr sh.g i h.le] at hq1
  obtain ⟨j, hj, hjq⟩ := List.mem_map.mp hq1
  obtain ⟨hji, r, hr, _⟩ := pr_mem i j (List.mem_reverse.mp hj)
  have hqr : q = r := by
    rw [← hjq, List.getD_eq_getElem?_getD, hr]
    rfl
  subst hqr
  obtain ⟨l, h2, h3, _⟩ := rowS_word (sh.s q (List.mem_of_getElem? hr)) hn
  rw [← hw, h2]
  intro z
  have z2 : (mkS l).cps.size = 0 := by rw [z]; rfl
  have z3 : (mkS l).cps.size = l.length := by simp [mkS]
  omega
section
variable {K : PySem.W.Frag} {σ : L2.St} {H H' : Hp} {ta tb te : TE} {tA : TA} {x : V}
theorem ev_inU {xs : List V} (ha : Ev ta σ H x) (hb : EvA tA σ H xs) (hl : xs.length ≤ 100000) (hx : flatV x = true) (hf : xs.all flatV = true) : Ev (tOp (rIn K false) ta (tTup tA)) σ H (.bl (inV x xs)) :=
  ev_opU ha (eu_tup hb hl) fun _ _ hz _ => rv_isT (st_of hz) hx hf
end
section
variable {P : Program} {w : World} {K : PySem.W.Frag} {mg : Str → Option Value} {base : Heap}
def spClash : Sp := fun vs H Q _ => ∃ (x y : V) (a b : Ent), vs = [x, y] ∧ IsEnt H x a ∧ IsEnt H y b ∧ RetV (.bl (clash a b)) H Q
theorem ok_clash (D : Dn K mg "clash" s_clash ["one", "other"]) : Has P w K mg base "clash" 1 ["one", "other"] spClash := by
  refine D.ok sc_clash (fun vs H Q E h => ?_) (fun f cdv A outer st H vs Q E hr h => ?_)
  · obtain ⟨x, y, a, b, rfl, _⟩ := h
    rfl
  · obtain ⟨x, y, a, b, rfl, hx, hy, q⟩ := h
    refine ⟨_, (pss_one (ps_ret (pe_and (pe_cmpR op_eq (pe_ix (show IxR _ (rIxT K) from ix_tup) (pv 0) pe_int (fun _ _ => rfl)) (pe_ix (show IxR _ (rIxT K) from ix_tup) (pv 1) pe_int (fun _ _ => rfl)) (nomark _)) (pe_one (pe_cmpR (show OpR _ _ (rIn K false) from op_in_seq) pe_str (pe_tup (pa_cons (pe_ix (show IxR _ (rIxT K) from ix_tup) (pv 0) pe_int (fun _ _ => rfl)) (pa_cons (pe_ix (show IxR _ (rIxT K) from ix_tup) (pv 1) pe_int (fun _ _ => rfl)) pa_nil))) (by rfl)))))), ?_⟩
    show (_ : L2.TS) _ [_, _] _
    refine s_ret (ev_is (ev_andV (ev_eq (ev_e2 rfl hx) (ev_e2 rfl hy) rfl) (fun _ => ev_inU ev_c (ea_cons (ev_e1 rfl hx) (ea_cons (ev_e1 rfl hy) ea_nil)) (Nat.le_of_ble_eq_true rfl) rfl rfl)) ?_) q
    unfold clash
    rw [show [V.str a.k, V.str b.k] = ([a.k, b.k].map V.str) from rfl, inV_strs]
    by_cases hab : a.t = b.t
    · rw [hab, decide_eq_true rfl, decide_eq_true rfl]
    · rw [decide_eq_false hab, decide_eq_false (fun z => hab (V.int.inj z))]
def spBeside (P0 : Addr) : Sp := fun vs H Q _ => ∃ (x : V) (es : List Ent), vs = [x] ∧ AHeld es x H ∧ es.length ≤ 1000 ∧ H P0 = some (TabX P0) ∧ RetV (.bl (besideM (awakeM es))) H Q
theorem ok_beside {c P0 : Addr} (D : DnC K mg "beside" s_beside ["held"] c) (T : Blt mg) (hany : mg "any" = none) (TB : TabB base mg c P0) (h_awake : Has P w K mg base "awake" 1 ["held"] (spAwake K)) (h_clash : Has P w K mg base "clash" 1 ["one", "other"] spClash) : Has P w K mg base "beside" 3 ["held"] (spBeside P0) := by
  refine D.ok sc_beside (fun vs H Q E h => ?_) (fun f cdv A outer st H vs Q E hcd hr h => ?_)
  · obtain ⟨x, es, rfl, _⟩ := h
    rfl
  · obtain ⟨x, es, rfl, hx, hlen, hT, q⟩ := h
    obtain ⟨p, hv, rfl, hp, hE⟩ := id hx
    refine ⟨_, (pss_cons (ps_set (i := 1) sc_beside.nd rfl (Or.inl rfl) (pe_own h_awake (hr.mono (by decide)) (by rfl) (pa_cons (pv 0) pa_nil))) (pss_cons (ps_for PassesOwn.never rfl (pi_enum (by rfl) T.enumerate_ (pa_cons (pv 1) pa_nil)) (pg_tup rfl (pgs_cons (pg_name (i := 2) sc_beside.nd rfl (Or.inl rfl)) (pgs_cons (pg_name (i := 3) sc_beside.nd rfl (Or.inr rfl)) pgs_nil))) (pss_one (ps_if (pt_val (pe_anyG (own := [("other", 4)]) (g := (gName 4)) hr (by rfl) hany TB hcd sc_beside.nd (gscp_by (blkOk_by (own := [("other", 4)]) (N := ["held", "hands", "count", "one", "other"]) (sc := defScope s_beside) (by decide +kernel)) (by decide +kernel)) (pi_list (pe_slice sl_list (pv 1) po_none (po_some (pv 2)))) (fun _ _ _ _ _ _ _ => (pg_name (i := 4) sc_beside.nd rfl (Or.inl rfl))) (fun _ _ _ _ _ _ _ hr => (pe_own h_clash (hr.mono (by decide)) (by rfl) (pa_cons (pv 3) (pa_cons (pv 4) pa_nil)))))) (pss_one (ps_ret pe_bl)) pss_nil))) (pss_one (ps_ret pe_bl)))), ?_⟩
    show (_ : L2.TS) _ [_, _, _, _, _] _
    refine q_asgPL (epl_awake (x := .ref p) (es := es) (ea_cons (ev_var rfl) ea_nil) hx hlen) (fun pl us H1 hpl e1 h1 hU => ?_)
    show (_ : L2.TS) _ [_, _, _, _, _] _
    have hT1 := e1 _ _ hT
    have hul := hU.len
    generalize awakeM es = ls at *
    have hL1 : SqL K H1 pl us := sq_of h1
    refine q_forE (K := K) (a := pl) (xs := us) (ev_var rfl) hL1 (fun i σ' H' => Ex H1 H' ∧ ((List.range i).any fun i => (ls.take i).any fun o => clash (ls.getD i ent0) o) = false ∧ ∃ a b c, σ' = [some (.ref p), some (.ref pl), a, b, c]) ?_ (fun i σ' H' _ h => ex_l h.1 hL1) ?_ ?_
    · intro H2 e2
      exact ⟨e2, rfl, none, none, none, rfl⟩
    · rintro i x σ' H' H2 hi ⟨eH, hno, a, b, c2, rfl⟩ e2
      obtain ⟨e, he, hX⟩ := hU.at hi
      have hil := (List.getElem?_eq_some_iff.mp he).1
      have e12 : Ex H1 H2 := eH.trans e2
      have hX2 : IsEnt H2 x e := hX.up e12
      have hU2 : Ents H2 (us.take i) (ls.take i) := ents_take i (hU.up e12)
      have hed : ls.getD i ent0 = e := by rw [List.getD_eq_getElem?_getD, he]; rfl
      dsimp only [List.set]
      refine s_when (b := (ls.take i).any fun o => clash e o) (et_B (ev_is (ev_anyNL (P := P0) (xs := us.take i) (p := fun k => clash e ((ls.take i).getD k ent0)) (e12 _ _ hT1) ?_ (fun x => rfl) (fun k y H3 e3 hk => ?_)) ?_)) (fun hb H3 e3 => ?_) (fun hb H3 e3 => ?_)
      · rw [← cut_take]
        exact el_sl (ev_var rfl) eo_none (eo_some (ev_var rfl)) (ex_l e12 hL1)
      · obtain ⟨o, ho, hO⟩ := hU2.at hk
        have hod : (ls.take i).getD k ent0 = o := by rw [List.getD_eq_getElem?_getD, ho]; rfl
        rw [hod]
        exact ev_call (ea_cons (ev_var rfl) (ea_cons (ev_var rfl) ea_nil)) fun H4 e4 Q q E => ⟨x, y, e, o, rfl, hX2.up (e3.trans e4), hO.up (e3.trans e4), q⟩
      · rw [hU2.len, any_getD]
      · have hbes : besideM ls = true := by
          unfold besideM
          refine List.any_eq_true.mpr ⟨i, List.mem_range.mpr hil, ?_⟩
          show ((ls.take i).any fun o => clash (ls.getD i ent0) o) = true
          rw [hed]
          exact hb
        rw [hbes] at q
        exact s_ret ev_c (fun H5 e5 => q H5 (e1.trans (e12.trans (e3.trans e5))))
      · refine ⟨e12.trans e3, ?_, some (.int (i : Int)), some x, c2, rfl⟩
        rw [any_range_succ, hno, hed, hb]
        rfl
    · rintro σ' H' ⟨eH, hno, a, b, c2, rfl⟩
      have hbes : besideM ls = false := by
        unfold besideM
        rw [hul] at hno
        exact hno
      rw [hbes] at q
      exact s_ret ev_c (fun H5 e5 => q H5 (e1.trans (eH.trans e5)))
def spGone (P0 : Addr) : Sp := fun vs H Q _ => ∃ (x : V) (s : Src) (es : List Ent), vs = [x, s.v] ∧ AHeld es x H ∧ H P0 = some (TabX P0) ∧ RetV (.bl (goneM s es)) H Q
theorem ok_is_gone {c P0 : Addr} (D : DnC K mg "is_gone" s_is_gone ["held", "word"] c) (hany : mg "any" = none) (TB : TabB base mg c P0) : Has P w K mg base "is_gone" 2 ["held", "word"] (spGone P0) := by
  refine D.ok sc_is_gone (fun vs H Q E h => ?_) (fun f cdv A outer st H vs Q E hcd hr h => ?_)
  · obtain ⟨x, s, es, rfl, _⟩ := h
    rfl
  · obtain ⟨x, s, es, rfl, hx, hT, q⟩ := h
    obtain ⟨p, hv, rfl, hp, hE⟩ := hx
    refine ⟨_, (pss_one (ps_ret (pe_anyG (own := [("entry", 2)]) (g := (gName 2)) hr (by rfl) hany TB hcd sc_is_gone.nd (gscp_by (blkOk_by (own := [("entry", 2)]) (N := ["held", "word", "entry"]) (sc := defScope s_is_gone) (by decide +kernel)) (by decide +kernel)) (pi_tup (pv 0)) (fun _ _ _ _ _ _ _ => (pg_name (i := 2) sc_is_gone.nd rfl (Or.inl rfl))) (fun _ _ _ _ _ _ _ hr => (pe_and (pe_cmpR op_eq (pe_ix (show IxR _ (rIxT K) from ix_tup) (pv 2) pe_int (fun _ _ => rfl)) (pv 1) (nomark _)) (pe_one (pe_not (pe_ix (show IxR _ (rIxT K) from ix_tup) (pv 2) pe_int (fun _ _ => rfl))))))))), ?_⟩
    show (_ : L2.TS) _ [_, _, _] _
    refine s_ret (v := .bl (goneM s es)) (ev_is (ev_anyT (P := P0) (xs := hv) (p := fun k => goneE s (es.getD k ent0)) hT (ev_var rfl) (st_of hp) (fun x => rfl) (fun k y H1 e1 hk => ?_)) ?_) q
    · obtain ⟨e, he, hX⟩ := hE.at hk
      have hed : es.getD k ent0 = e := by rw [List.getD_eq_getElem?_getD, he]; rfl
      rw [hed]
      unfold goneE
      refine ev_andV (ev_eq (ev_e0 rfl (hX.up e1)) (ev_var rfl) ?_) (fun _ => ev_notV (ev_e4 rfl (hX.up e1)))
      cases s <;> rfl
    · rw [hE.len, any_getD]
      rfl
def spIsAwake (K : PySem.W.Frag) (P0 : Addr) : Sp := fun vs H Q _ => ∃ (x : V) (u : Str) (es : List Ent), vs = [x, .str u] ∧ AHeld es x H ∧ es.length ≤ 1000 ∧ H P0 = some (TabX P0) ∧ RetV (.bl (decide (u ∈ (awakeM es).map Ent.w))) H Q
theorem ok_is_awake {c P0 : Addr} (D : DnC K mg "is_awake" s_is_awake ["held", "word"] c) (hany : mg "any" = none) (TB : TabB base mg c P0) (h_awake : Has P w K mg base "awake" 1 ["held"] (spAwake K)) : Has P w K mg base "is_awake" 2 ["held", "word"] (spIsAwake K P0) := by
  refine D.ok sc_is_awake (fun vs H Q E h => ?_) (fun f cdv A outer st H vs Q E hcd hr h => ?_)
  · obtain ⟨x, u, es, rfl, _⟩ := h
    rfl
  · obtain ⟨x, u, es, rfl, hx, hlen, hT, q⟩ := h
    refine ⟨_, (pss_one (ps_ret (pe_anyG (own := [("entry", 2)]) (g := (gName 2)) hr (by rfl) hany TB hcd sc_is_awake.nd (gscp_by (blkOk_by (own := [("entry", 2)]) (N := ["held", "word", "entry"]) (sc := defScope s_is_awake) (by decide +kernel)) (by decide +kernel)) (pi_list (pe_own h_awake (hr.mono (by decide)) (by rfl) (pa_cons (pv 0) pa_nil))) (fun _ _ _ _ _ _ _ => (pg_name (i := 2) sc_is_awake.nd rfl (Or.inl rfl))) (fun _ _ _ _ _ _ _ hr => (pe_cmpR op_eq (pe_ix (show IxR _ (rIxT K) from ix_tup) (pv 2) pe_int (fun _ _ => rfl)) (pv 1) (nomark _)))))), ?_⟩
    show (_ : L2.TS) _ [_, _, _] _
    refine s_ret (ev_is (ev_anyPL (K := K) (P := P0) (n := (awakeM es).length) (p := fun k => decide (V.str ((awakeM es).getD k ent0).w = V.str u)) hT (epl_awake (x := x) (es := es) (ea_cons (ev_var rfl) ea_nil) hx hlen) (fun x => rfl) (fun us H2 h => h.len) (fun us H2 e2 hU k y H1 e1 hk => ?_)) ?_) q
    · obtain ⟨e, he, hX⟩ := hU.at hk
      have hed : (awakeM es).getD k ent0 = e := by rw [List.getD_eq_getElem?_getD, he]; rfl
      rw [hed]
      exact ev_eq (ev_e0 rfl (hX.up e1)) (ev_var rfl) rfl
    · rw [any_getD (fun e : Ent => decide (V.str e.w = V.str u)) ent0 (awakeM es)]
      congr 1
      rw [Bool.eq_iff_iff, List.any_eq_true, decide_eq_true_eq, List.mem_map]
      exact ⟨fun ⟨e, h1, h2⟩ => ⟨e, h1, V.str.inj (of_decide_eq_true h2)⟩, fun ⟨e, h1, h2⟩ => ⟨e, h1, decide_eq_true (by rw [h2])⟩⟩
end
end BD
namespace BD
open PySem PySem.Spec PyProof.Rows L2 Evl GX
open GxR (TabB)
local macro_rules | `(tactic| walk_at "ev") => `(tactic| first
  | ((with_reducible apply ev_var) ; rfl)
  | with_reducible exact ev_c
  | ((with_reducible apply ev_I0) <;> walk_at "ev")
  | ((with_reducible apply ev_e9) <;> walk_at "ev")
  | ((with_reducible apply ev_I) <;> walk_at "ev")
  | ((with_reducible apply ev_eq) <;> walk_at "ev")
  | ((with_reducible apply ev_ne) <;> walk_at "ev")
  | ((with_reducible apply ev_neg) <;> walk_at "ev")
  | ((with_reducible apply ev_ixN) <;> walk_at "ev")
  | ((with_reducible apply ev_ixL) <;> walk_at "ev")
  | ((with_reducible apply ev_inN) <;> walk_at "ev")
  | ((with_reducible apply ev_inT) <;> walk_at "ev")
  | ((with_reducible apply ev_ixT) <;> walk_at "ev")
  | ((with_reducible apply ev_ixS) <;> walk_at "ev")
  | ((with_reducible apply ev_len') <;> walk_at "ev")
  | ((with_reducible apply et_test) <;> walk_at "ev")
  | ((with_reducible apply et_and) <;> walk_at "ev")
  | ((with_reducible apply et_or) <;> walk_at "ev")
  | ((with_reducible apply et_not) <;> walk_at "ev")
  | ((with_reducible apply et_B) <;> walk_at "ev")
  | ((with_reducible apply el_lst) <;> walk_at "ev")
  | ((with_reducible apply eu_tup) <;> walk_at "ev")
  | ((with_reducible apply ea_cons) <;> walk_at "ev")
  | with_reducible exact ea_nil
  | with_reducible assumption
  | ((with_reducible apply ex_l' ; assumption) ; walk_at "ex")
  | ((with_reducible apply ex_t' ; assumption) ; walk_at "ex")
  | (intro _ ; walk_at "ev")
  | (with_reducible first | exact atI_hd | exact at_kind | exact at2s | exact at3s | exact at3i)
  | (first | exact rfl | exact Nat.le_of_ble_eq_true rfl | exact ⟨by decide, by decide⟩ | decide | exact Or.inl ⟨by omega, by omega⟩ | exact Or.inr ⟨by omega, by omega⟩ | omega)
  | skip)
local macro_rules | `(tactic| walk_at "ex") => `(tactic| first
  | assumption
  | exact Ex.refl _
  | (refine' Ex.trans ?_ (by assumption) ; walk_at "ex"))
local macro_rules | `(tactic| walk_at "row") => `(tactic| first
  | (with_reducible exact er_nil)
  | ((with_reducible apply er_cons) <;> walk_at "row")
  | (((with_reducible apply er_var) ; rfl) ; walk_at "isrow")
  | (((with_reducible apply elr_var) ; rfl) ; walk_at "isrow")
  | ((with_reducible apply elr_cat) <;> walk_at "row")
  | ((with_reducible apply elr_lst) <;> walk_at "row")
  | ((with_reducible apply er_fin) <;> walk_at "ev")
  | ((with_reducible apply er_lendT) <;> walk_at "ev")
  | ((with_reducible apply er_lendW) <;> walk_at "ev")
  | ((with_reducible apply er_pick) <;> walk_at "ev")
  | ((with_reducible apply er_either) <;> walk_at "ev")
  | ((with_reducible apply er_or) <;> walk_at "ev")
  | ((with_reducible apply er_again) <;> walk_at "ev")
  | ((with_reducible apply er_back) <;> walk_at "ev")
  | ((with_reducible apply er_look) <;> walk_at "ev")
  | ((with_reducible apply er_change) <;> walk_at "ev")
  | exact Nat.le_of_ble_eq_true rfl
  | skip)
local macro_rules | `(tactic| walk_at "isrow") => `(tactic| first
  | assumption
  | (refine IsRow.up ?_ (by assumption) ; walk_at "ex")
  | (refine LRows.up ?_ (by assumption) ; walk_at "ex"))

local macro_rules | `(tactic| walk_at "ev") => `(tactic| (((with_reducible apply ev_tag) ; rfl) ; walk_at "isrow"))
theorem gone_word (u : Str) (es : List Ent) : goneM (.word u) es = (es.any fun e => decide (e.w = u) && !e.o) := by
  unfold goneM
  congr 1
  funext e
  show (decide (V.str e.w = V.str u) && !e.o) = _
  rw [dec_str]
theorem gone_thing (n : Int) (es : List Ent) : goneM (.thing n) es = false := by
  unfold goneM
  refine List.any_eq_false.mpr fun e _ => ?_
  show ¬ ((decide (V.str e.w = V.int n) && !e.o) = true)
  rw [decide_eq_false (fun z => by cases z)]
  intro z
  cases z
theorem gone_empty {es : List Ent} (hw : ∀ e ∈ es, e.w ≠ "") : (es.any fun e => decide (e.w = ("" : Str)) && !e.o) = false := by
  refine List.any_eq_false.mpr fun e he => ?_
  rw [decide_eq_false (hw e he)]
  exact fun z => by cases z
/-- a lend's source gone -/
def goneL (r : Rw) (es : List Ent) : Bool := match r with
  | .lend _ _ s => goneM s es
  | _ => false
def faultP (r : Rw) (es : List Ent) : Str := if besideM (awakeM es) = true then "beside" else if (r.isLend && goneL r es) = true then "empty" else if (r.sees && goneM (.word (handM r)) es) = true then "empty"
    else if (r.sees && !decide (handM r ∈ (awakeM es).map Ent.w)) = true then "asleep" else ""
theorem fault_split {r : Rw} {es : List Ent} (hw : ∀ e ∈ es, e.w ≠ "") : faultM r es = faultP r es := by
  unfold faultM faultP
  cases besideM (awakeM es) with
  | true => rfl
  | false =>
    cases r with
    | lend h k s =>
      cases s with
      | thing n =>
        show (if (es.any fun e => decide (e.w = ("" : Str)) && !e.o) = true then _ else _) = (if goneM (.thing n) es = true then _ else _)
        rw [gone_empty hw, gone_thing]
        rfl
      | word u =>
        show (if (es.any fun e => decide (e.w = u) && !e.o) = true then _ else _) = (if goneM (.word u) es = true then _ else _)
        rw [gone_word]
        rfl
    | look h =>
      show (if (es.any fun e => decide (e.w = h) && !e.o) = true then _ else _) = (if goneM (.word h) es = true then _ else _)
      rw [gone_word]
    | change h =>
      show (if (es.any fun e => decide (e.w = h) && !e.o) = true then _ else _) = (if goneM (.word h) es = true then _ else _)
      rw [gone_word]
    | _ =>
      show (if (es.any fun e => decide (e.w = ("" : Str)) && !e.o) = true then _ else _) = _
      rw [gone_empty hw]
      rfl
section
variable {K : PySem.W.Frag} {σ : L2.St} {H : Hp} {te : TE} {D : Ends} {tz : TS}
theorem q_unF {x : V} {n : Int} {es : List Ent} {i j : Nat} (h : Ev te σ H x) (hx : AStand n es x H) (kk : ∀ v H1, Ex H H1 → AHeld es v H1 → tz D ((σ.set i (some (.int n))).set j (some v)) H1) : tSeq (tAsg te (gTup K 2 (gCons (gName i) (gCons (gName j) gNil)))) tz D σ H :=
  h H (Ex.refl H) _ fun H1 e => by
    obtain ⟨p, q, vs, rfl, h1, h2, h3⟩ := hx
    exact ⟨p, _, rfl, st_of (e _ _ h1), rfl, .int n, [.ref q], rfl, .ref q, [], rfl, rfl, kk _ H1 e ⟨q, vs, rfl, e _ _ h2, h3.up e⟩⟩
end
section
variable {P : Program} {w : World} {K : PySem.W.Frag} {mg : Str → Option Value} {base : Heap}
/-- the program's fault, with the tables of its defs -/
def spPF (K : PySem.W.Frag) (cs : List (Addr × Addr)) : Sp := fun vs H Q _ => ∃ (a : Addr) (x : V) (rv : List V) (rs : List Rw) (i : Nat) (es : List Ent) (r : Rw), vs = [.ref a, x] ∧ SqL K H a rv ∧ Rows H rv rs ∧ AStand (i : Int) es x H ∧ Sheet rs ∧ Std rs i es ∧ rs[i]? = some r ∧ rs.length ≤ 40000 ∧
  (∀ p ∈ cs, H p.2 = some (TabX p.2)) ∧ RetV (.str (faultM r es)) H Q
theorem ok_pfault {c1 P1 c2 P2 c3 P3 : Addr} (D : Dn K mg "fault" s_fault ["rows", "standing"]) {a_LOOKS : Addr} (g_LOOKS : mg "LOOKS" = some (.ref a_LOOKS)) (hLK : ∀ H, SqT K H a_LOOKS [.str "look", .str "change"]) (h_beside : Has P w K mg base "beside" 3 ["held"] (spBeside P1)) (h_is_gone : Has P w K mg base "is_gone" 2 ["held", "word"] (spGone P2)) (h_is_awake : Has P w K mg base "is_awake" 2 ["held", "word"] (spIsAwake K P3)) :
    Has P w K mg base "fault" 4 ["rows", "standing"] (spPF K [(c1, P1), (c2, P2), (c3, P3)]) := by
  refine D.ok sc_fault (fun vs H Q E h => ?_) (fun f cdv A outer st H vs Q E hr h => ?_)
  · obtain ⟨a, x, rv, rs, i, es, r, rfl, _⟩ := h
    rfl
  · obtain ⟨a, x, rv, rs, i, es, r, rfl, hS, hR, hx, sh, hst, hg, hl, hT, q⟩ := h
    have hT1 : H P1 = some (TabX P1) := hT (c1, P1) (by simp)
    have hT2 : H P2 = some (TabX P2) := hT (c2, P2) (by simp)
    have hT3 : H P3 = some (TabX P3) := hT (c3, P3) (by simp)
    have hw := std_word sh hst
    have hel := hst.len sh
    obtain ⟨y, hy, hY⟩ := hR.get hg
    have hix : atI rv (i : Int) = some y := atI_nat hy
    rw [fault_split hw] at q
    unfold faultP at q
    refine ⟨_, (pss_cons (ps_asg (pv 1) (pg_tup rfl (pgs_cons (pg_name (i := 2) sc_fault.nd rfl (Or.inl rfl)) (pgs_cons (pg_name (i := 3) sc_fault.nd rfl (Or.inl rfl)) pgs_nil)))) (pss_cons (ps_set (i := 4) sc_fault.nd rfl (Or.inl rfl) (pe_ix (show IxR _ (rIxL K) from ix_list) (pv 0) (pv 2) (fun _ _ => rfl))) (pss_cons (ps_if (pt_val (pe_own h_beside (hr.mono (by decide)) (by rfl) (pa_cons (pv 3) pa_nil))) (pss_one (ps_ret pe_str)) pss_nil) (pss_cons (ps_if (PW.pt (pw_and (pt_cmpR op_eq (pe_ix (show IxR _ (rIxT K) from ix_tup) (pv 4) pe_int (fun _ _ => rfl)) pe_str (nomark _)) (pw_and1 (pt_val (pe_own h_is_gone (hr.mono (by decide)) (by rfl) (pa_cons (pv 3) (pa_cons (pe_ix (show IxR _ (rIxT K) from ix_tup) (pv 4) pe_int (fun _ _ => rfl)) pa_nil))))))) (pss_one (ps_ret pe_str)) pss_nil) (pss_cons (ps_if (PW.pt (pw_and (pt_cmpR (show OpR _ _ (rIn K false) from op_in_seq) (pe_ix (show IxR _ (rIxT K) from ix_tup) (pv 4) pe_int (fun _ _ => rfl)) (pe_glob (v := .ref a_LOOKS) rfl g_LOOKS rfl) (by rfl)) (pw_and1 (pt_val (pe_own h_is_gone (hr.mono (by decide)) (by rfl) (pa_cons (pv 3) (pa_cons (pe_ix (show IxR _ (rIxT K) from ix_tup) (pv 4) pe_int (fun _ _ => rfl)) pa_nil))))))) (pss_one (ps_ret pe_str)) pss_nil) (pss_cons (ps_if (PW.pt (pw_and (pt_cmpR (show OpR _ _ (rIn K false) from op_in_seq) (pe_ix (show IxR _ (rIxT K) from ix_tup) (pv 4) pe_int (fun _ _ => rfl)) (pe_glob (v := .ref a_LOOKS) rfl g_LOOKS rfl) (by rfl)) (pw_and1 (pt_not (pt_val (pe_own h_is_awake (hr.mono (by decide)) (by rfl) (pa_cons (pv 3) (pa_cons (pe_ix (show IxR _ (rIxT K) from ix_tup) (pv 4) pe_int (fun _ _ => rfl)) pa_nil)))))))) (pss_one (ps_ret pe_str)) pss_nil) (pss_one (ps_ret pe_str)))))))), ?_⟩
    show (_ : L2.TS) _ [_, _, _, _, _] _
    refine q_unF (ev_var rfl) hx (fun v H1 e1 hv => ?_)
    show (_ : L2.TS) _ [_, _, _, _, _] _
    refine q_asg (ev_ixL (ev_var rfl) (ex_l e1 hS) (ev_var rfl) hix) (fun H2 e2 => ?_)
    show (_ : L2.TS) _ [_, _, _, _, _] _
    have e02 := e1.trans e2
    have hv2 := hv.up e2
    have hY2 := hY.up e02
    refine q_when (b := besideM (awakeM es)) (et_B (ev_call (ea_cons (ev_var rfl) ea_nil) fun H4 e4 Q q E => ⟨v, es, rfl, hv2.up e4, by omega, e4 _ _ (e02 _ _ hT1), q⟩)) (fun hb H3 e3 => ?_) (fun hb H3 e3 => ?_)
    · rw [if_pos hb] at q
      exact s_ret ev_c (fun H5 e5 => q H5 (e02.trans (e3.trans e5)))
    rw [if_neg (by rw [hb]; decide)] at q
    have e03 := e02.trans e3
    have hv3 := hv2.up e3
    have hY3 := hY2.up e3
    refine q_when (b := r.isLend && goneL r es) ?_ (fun hb H4 e4 => ?_) (fun hb H4 e4 => ?_)
    · rw [← tag_lend]
      refine et_and (et_test (ev_eq (ev_tag rfl hY3) ev_c rfl)) (fun hz => et_B ?_)
      cases r with
      | lend h k s =>
        obtain ⟨p', hp1, hp2⟩ := id hY3
        cases hp1
        exact ev_call (ea_cons (ev_var rfl) (ea_cons (ev_ixT (ev_var rfl) (st_of hp2) ev_c rfl) ea_nil)) fun H5 e5 Q q E => ⟨v, s, es, rfl, hv3.up e5, e5 _ _ (e03 _ _ hT2), q⟩
      | _ => rw [tag_lend] at hz; cases hz
    · rw [if_pos hb] at q
      exact s_ret ev_c (fun H5 e5 => q H5 (e03.trans (e4.trans e5)))
    rw [if_neg (by rw [hb]; decide)] at q
    have e04 := e03.trans e4
    have hv4 := hv3.up e4
    have hY4 := hY3.up e4
    refine q_when (b := r.sees && goneM (.word (handM r)) es) ?_ (fun hb H5 e5 => ?_) (fun hb H5 e5 => ?_)
    · rw [← tag_sees]
      refine et_and (et_test (ev_inT (ev_tag rfl hY4) ev_c (hLK _) rfl rfl)) (fun hz => et_B ?_)
      cases r with
      | look h =>
        obtain ⟨p', hp1, hp2⟩ := id hY4
        cases hp1
        exact ev_call (ea_cons (ev_var rfl) (ea_cons (ev_ixT (ev_var rfl) (st_of hp2) ev_c rfl) ea_nil)) fun H5 e5 Q q E => ⟨v, .word h, es, rfl, hv4.up e5, e5 _ _ (e04 _ _ hT2), q⟩
      | change h =>
        obtain ⟨p', hp1, hp2⟩ := id hY4
        cases hp1
        exact ev_call (ea_cons (ev_var rfl) (ea_cons (ev_ixT (ev_var rfl) (st_of hp2) ev_c rfl) ea_nil)) fun H5 e5 Q q E => ⟨v, .word h, es, rfl, hv4.up e5, e5 _ _ (e04 _ _ hT2), q⟩
      | _ => rw [tag_sees] at hz; cases hz
    · rw [if_pos hb] at q
      exact s_ret ev_c (fun H6 e6 => q H6 (e04.trans (e5.trans e6)))
    rw [if_neg (by rw [hb]; decide)] at q
    have e05 := e04.trans e5
    have hv5 := hv4.up e5
    have hY5 := hY4.up e5
    refine q_when (b := r.sees && !decide (handM r ∈ (awakeM es).map Ent.w)) ?_ (fun hb H6 e6 => ?_) (fun hb H6 e6 => ?_)
    · rw [← tag_sees]
      refine et_and (et_test (ev_inT (ev_tag rfl hY5) ev_c (hLK _) rfl rfl)) (fun hz => et_not (et_B ?_))
      cases r with
      | look h =>
        obtain ⟨p', hp1, hp2⟩ := id hY5
        cases hp1
        exact ev_call (ea_cons (ev_var rfl) (ea_cons (ev_ixT (ev_var rfl) (st_of hp2) ev_c rfl) ea_nil)) fun H5 e5 Q q E => ⟨v, h, es, rfl, hv5.up e5, by omega, e5 _ _ (e05 _ _ hT3), q⟩
      | change h =>
        obtain ⟨p', hp1, hp2⟩ := id hY5
        cases hp1
        exact ev_call (ea_cons (ev_var rfl) (ea_cons (ev_ixT (ev_var rfl) (st_of hp2) ev_c rfl) ea_nil)) fun H5 e5 Q q E => ⟨v, h, es, rfl, hv5.up e5, by omega, e5 _ _ (e05 _ _ hT3), q⟩
      | _ => rw [tag_sees] at hz; cases hz
    · rw [if_pos hb] at q
      exact s_ret ev_c (fun H7 e7 => q H7 (e05.trans (e6.trans e7)))
    rw [if_neg (by rw [hb]; decide)] at q
    exact s_ret ev_c (fun H7 e7 => q H7 (e05.trans (e6.trans e7)))
end
end BD
/-! ### the end where defs hold generator expressions: their tables are told as TabX -/
namespace GX
open PySem PySem.Spec PyProof.Rows L2 Evl
open GxR (TabB)
abbrev tab0 : Obj := { cls := .none, data := .fields #[] }
/-- the heap at the law's entry: the tables ts, the script's list at a unless it is the program's own -/
def HX (ts : List Addr) (a : Addr) (own : Bool) (o : Obj) (xs : List V) : Hp := fun b => if b ∈ ts then some (TabX b) else if b = a ∧ own = false then some (.frz o (.lst xs)) else none
theorem hx_tab {ts : List Addr} {a b : Addr} {own : Bool} {o : Obj} {xs : List V} (h : b ∈ ts) : HX ts a own o xs b = some (TabX b) := if_pos h
theorem hx_cases {ts : List Addr} {a : Addr} {own : Bool} {o : Obj} {xs : List V} (b : Addr) : (b ∈ ts ∧ HX ts a own o xs b = some (TabX b)) ∨ (b ∉ ts ∧ b = a ∧ own = false ∧ HX ts a own o xs b = some (.frz o (.lst xs))) ∨ (b ∉ ts ∧ ¬ (b = a ∧ own = false) ∧ HX ts a own o xs b = none) := by
  by_cases h : b ∈ ts
  · exact .inl ⟨h, if_pos h⟩
  · by_cases h2 : b = a ∧ own = false
    · exact .inr (.inl ⟨h, h2.1, h2.2, (if_neg h).trans (if_pos h2)⟩)
    · exact .inr (.inr ⟨h, h2, (if_neg h).trans (if_neg h2)⟩)
theorem law_tabs {P : Program} {w : World} {K : PySem.W.Frag} {mg mb : Str → Option Value} {k : Nat} {fa a : Addr} {cs : List (Addr × Addr)} {fd : FuncData} {x : Str} {sp : Sp} {s : Shared} {vs : List Value} {ns : List Int}
    (KX : K.In s.heap) (hns : s.heap.Ns mainGlobals mg) (hb : s.heap.Ns builtinsNs mb) (hbb : ∀ x : Str, x ≠ "__name__" → mb x = bootBuiltins x) (hlim : s.heap.NoLimit) (hg : s.gens = #[])
    (hT : ∀ p ∈ cs, s.heap.get? p.2 = some tab0) (nT : ∀ p ∈ cs, K.lookup p.2 = none) (C : ∀ p ∈ cs, PySem.W.CodeHd s.heap p.1 p.2)
    (hbm : ∃ (bm : Addr) (ob : Obj), mg "__builtins__" = some (.ref bm) ∧ bm ≠ builtinsNs ∧ s.heap.get? bm = some ob ∧ ob.cls = .type "module" ∧ ob.dict = some builtinsNs ∧ ob.data = .plain)
    (ha : s.heap.get? a = some { cls := .type "list", data := .seq vs.toArray }) (hi : IntsAre vs ns) (hl : ns.length ≤ sizeLine) (hr : Room k callerA)
    (F : ∀ base : Heap, K.In base → base.Ns mainGlobals mg → (∀ p ∈ cs, TabB base mg p.1 p.2) → FnOk P w K mg base CX0 k fa fd [x] sp) (hbind : ∀ (s : Shared) (u : Value), BindsTo s fd ⟨[u], []⟩ [(x, u)])
    (hsp : ∀ H : Hp, (∀ p ∈ cs, H p.2 = some (TabX p.2)) → SqL K H a (ns.map V.int) → sp [.ref a] H (fun v H' => v = .bl true ∧ Ex H H') fun _ _ _ => False) :
    codeAny (model P w) callerA (.call (.ref fa) ⟨[.ref a], []⟩) (fun r s' => r = .ok (.ret (.bool true)) ∧ OldK s.heap s'.heap ∧ s'.os = s.os ∧ AllBare s'.gens) s := by
  let lo : Obj := { cls := .type "list", data := .seq vs.toArray }
  let H : Hp := HX (cs.map (·.2)) a (K.lookup a).isSome lo (ns.map V.int)
  have isT : ∀ b ∈ cs.map (·.2), s.heap.get? b = some tab0 := fun b hb => by
    obtain ⟨p, hp, rfl⟩ := List.mem_map.mp hb
    exact hT p hp
  have mT : ∀ p ∈ cs, p.2 ∈ cs.map (·.2) := fun p hp => List.mem_map.mpr ⟨p, hp, rfl⟩
  -- what is neither a table nor the script is not told
  have quiet : ∀ {b : Addr} {o : Obj}, s.heap.get? b = some o → (∀ vs n, o.data ≠ .seq vs n) → o.data ≠ .fields #[] → H b = none := fun {b o} e h1 h2 => by
    rcases hx_cases (ts := cs.map (·.2)) (a := a) (own := (K.lookup a).isSome) (o := lo) (xs := ns.map V.int) b with ⟨h, _⟩ | ⟨_, h, _, _⟩ | ⟨_, _, h⟩
    · rw [isT b h] at e
      cases e
      exact (h2 rfl).elim
    · rw [h, ha] at e
      cases e
      exact (h1 _ _ rfl).elim
    · exact h
  have quietK : ∀ b o, K.lookup b = some o → H b = none := fun b o e => by
    rcases hx_cases (ts := cs.map (·.2)) (a := a) (own := (K.lookup a).isSome) (o := lo) (xs := ns.map V.int) b with ⟨h, _⟩ | ⟨_, h, h2, _⟩ | ⟨_, _, h⟩
    · obtain ⟨p, hp, rfl⟩ := List.mem_map.mp h
      rw [nT p hp] at e
      cases e
    · rw [← h, e] at h2
      cases h2
    · exact h
  have nsH : ∀ {b : Addr} {m : Str → Option Value}, s.heap.Ns b m → (hidT s.heap H).Ns b m := fun {b m} ⟨o, es, ep, e, d, r⟩ =>
    ⟨o, es, ep, hidT_get e (quiet e (fun v n z => by rw [d] at z; cases z) fun z => by rw [d] at z; cases z), d, r⟩
  have kH : K.In (hidT s.heap H) := fun b o e => hidT_get (KX b o e) (quietK b o e)
  have modH : L2.Mod K mg (hidT s.heap H) := ⟨kH, nsH hns, ⟨mb, nsH hb, hbb⟩, let ⟨mc, h1, h2⟩ := hlim; ⟨mc, nsH h1, h2⟩⟩
  have tbH : ∀ p ∈ cs, TabB (hidT s.heap H) mg p.1 p.2 := fun p hp => by
    obtain ⟨g0, _, _, gE, gD, _⟩ := hns
    refine ⟨?_, ?_, fun z => ?_⟩
    · obtain ⟨o, us, f1, f2, f3, f4, f5, f6, f7, h1, h2, h3, h4, rest⟩ := C p hp
      exact ⟨o, us, f1, f2, f3, f4, f5, f6, f7, hidT_get h1 (quiet h1 (fun v n z => by rw [h3] at z; cases z) fun z => by rw [h3] at z; cases z; cases h4), h2, h3, h4, rest⟩
    · obtain ⟨bm, ob, b1, b2, b3, b4, b5, b6⟩ := hbm
      refine ⟨bm, ob, b1, b2, fun z => ?_, fun z => ?_, hidT_get b3 (quiet b3 (fun v n z => by rw [b6] at z; cases z) fun z => by rw [b6] at z; cases z), b4, b5, b6⟩
      · rw [z, gE] at b3
        cases b3
        rw [gD] at b6
        cases b6
      · rw [z, hT p hp] at b3
        cases b3
        cases b6
    · rw [z, hT p hp] at gE
      cases gE
      cases gD
  have okH : HOk P w H s.heap := fun b u z => by
    rcases hx_cases (ts := cs.map (·.2)) (a := a) (own := (K.lookup a).isSome) (o := lo) (xs := ns.map V.int) b with ⟨h, h2⟩ | ⟨_, h, _, h2⟩ | ⟨_, _, h2⟩
    · cases h2.symm.trans z
      exact tabX_ok ⟨#[], isT b h, trivial⟩
    · cases h2.symm.trans z
      rw [h]
      exact ⟨ha, by rw [List.length_map]; exact hl, vs, _, vals_ints hi, ha⟩
    · cases h2.symm.trans z
  have aT : a ∉ cs.map (·.2) := fun z => by
    have q := isT a z
    rw [ha] at q
    cases congrArg Obj.data (Option.some.inj q)
  have scr : SqL K H a (ns.map V.int) := by
    cases hk : K.lookup a with
    | none =>
      refine .inl (.inr ⟨lo, ?_⟩)
      show HX _ a (K.lookup a).isSome lo _ a = _
      rw [hk]
      exact (if_neg aT).trans (if_pos ⟨rfl, rfl⟩)
    | some o =>
      have e := KX a o hk
      rw [ha] at e
      cases e
      exact .inr ⟨_, vs.toArray, _, hk, rfl, rfl, rfl, by rw [List.size_toArray, hi.length]; exact hl, vals_ints hi⟩
  have env : Env0 P w K mg (hidT s.heap H) callerA [] s H := ⟨rfl, modH, fun b o e => of_hidT e, Nat.le_of_eq (hidT_size _ _), trivial, (fun b hb => by cases hb), okH, .of_eq hg⟩
  refine codeAny_mono ((F _ kH (nsH hns) tbH).run callerA [] s H ⟨[.ref a], []⟩ [.ref a] [.ref a] _ _ hr env (hbind s (.ref a)) (.cons rfl .nil) (hsp H (fun p hp => hx_tab (mT p hp)) scr)) fun r s' h => ?_
  cases r with
  | error e => exact absurd h (by intro z; exact z)
  | ok fl =>
    cases fl with
    | ret u =>
      obtain ⟨v, H', os, bare, un, hok', r', rfl, hx⟩ := h
      obtain rfl : u = Value.bool true := r'
      have grown : ∀ p ∈ cs, ∃ more : Array Value, s'.heap.get? p.2 = some { cls := .none, data := .fields more } := fun p hp =>
        let ⟨⟨ps, e, _⟩, _⟩ := hok' p.2 _ (hx _ _ (hx_tab (mT p hp)))
        ⟨ps, e⟩
      have same : ∀ b o, b ∉ cs.map (·.2) → s.heap.get? b = some o → s'.heap.get? b = some o := fun b o nb e => by
        rcases hx_cases (ts := cs.map (·.2)) (a := a) (own := (K.lookup a).isSome) (o := lo) (xs := ns.map V.int) b with ⟨h, _⟩ | ⟨_, h, _, h2⟩ | ⟨_, _, h2⟩
        · exact (nb h).elim
        · obtain ⟨e2, _⟩ := hok' b _ (un.frzs b _ _ h2)
          rw [h, ha] at e
          cases e
          exact e2
        · exact un.keep b o e h2 (fun z => by cases z) (fun z => by cases z)
      refine ⟨rfl, ⟨fun b o e => ?_, fun b o e => ?_⟩, os, bare⟩
      · by_cases hb2 : b ∈ cs.map (·.2)
        · obtain ⟨p, hp, rfl⟩ := List.mem_map.mp hb2
          obtain ⟨more, hm⟩ := grown p hp
          rw [hT p hp] at e
          cases e
          exact .inr (.inl ⟨((C p hp).tab (hT p hp)).isCodeTable, rfl, #[], more, rfl, by rw [Array.empty_append]; exact hm⟩)
        · exact .inl (same b o hb2 e)
      · by_cases hb2 : b ∈ cs.map (·.2)
        · obtain ⟨p, hp, rfl⟩ := List.mem_map.mp hb2
          obtain ⟨more, hm⟩ := grown p hp
          exact ⟨_, hm⟩
        · exact ⟨o, same b o hb2 e⟩
    | _ => exact absurd h (by intro z; exact z)
/-- the code object c and its table P of the def n -/
structure TabOf (K : PySem.W.Frag) (mg : Str → Option Value) (n : Str) (p : Addr × Addr) : Prop where
  fn : ∃ (f : Addr) (o : Obj) (fd : FuncData), mg n = some (.ref f) ∧ K.lookup f = some o ∧ o.data = .func fd ∧ fd.code = .ref p.1
  hd : PySem.W.codeHdIn K p.1 p.2 = true
  no : K.lookup p.2 = none
theorem codeHd_lk {K : PySem.W.Frag} {c P : Addr} {o : Obj} (v : K.lookup c = some o) (h : PySem.W.codeHdIn [(c, o)] c P = true) : PySem.W.codeHdIn K c P = true := by
  unfold PySem.W.codeHdIn at h ⊢
  rw [v]
  have e : ([(c, o)] : PySem.W.Frag).lookup c = some o := by simp [List.lookup]
  rw [e] at h
  exact h
/-- the law's promise over its tables -/
def LawX (l : PySem.W.OpenLaw) (w : World) (K : PySem.W.Frag) (k n : Nat) (x : Str) (names : List Str) (mg : Str → Option Value) (fa : Addr) : Prop :=
  ∃ (fd : FuncData) (cs : List (Addr × Addr)) (sp : Sp), (∀ p ∈ cs, ∃ d ∈ names, TabOf K mg d p) ∧ (∀ (s : Shared) (u : Value), BindsTo s fd ⟨[u], []⟩ [(x, u)]) ∧
    (∀ (H : Hp) (a : Addr) (ns : List Int), ns.length ≤ n → (∀ z ∈ ns, Builtin.Int.intBits z ≤ 1048576) → (∀ p ∈ cs, H p.2 = some (TabX p.2)) → SqL K H a (ns.map V.int) → sp [.ref a] H (fun v H' => v = .bl true ∧ Ex H H') fun _ _ _ => False) ∧
    ∀ base : Heap, K.In base → base.Ns mainGlobals mg → (∀ p ∈ cs, TabB base mg p.1 p.2) → FnOk l.prog w K mg base CX0 k fa fd [x] sp
theorem walk_ofX {l : PySem.W.OpenLaw} {n k : Nat} {q : Program} {loose : List Str} {XP : (Str → Option Value) → Heap → Prop} {YP : World → Heap → Prop} {d : DefRec} {K : Params → PySem.W.Frag} {x : Str} {names : List Str}
    (hn : l.most = some n) (hn2 : n ≤ sizeLine) (hdf : d.params.defaults = []) (hr : Room k callerA) (hrec : (names.all fun z => (recsOf q).any fun e => e.name == z) = true) (hY : ∀ (w : World) (h : Heap), YP w h → (K w.params).In h)
    (F : ∀ (w : World) (mg : Str → Option Value) (fa : Addr) (h : Heap), (K w.params).In h → h.Ns mainGlobals mg → mg d.name = some (.ref fa) → LawX l w (K w.params) k n x names mg fa) :
    PySem.W.WalkO q loose XP YP l.row.toRowW d [] (fun f vs => PySem.call f vs) := by
  refine Att.attach_callB hn hdf fun w s₀ s₁ mg mb fa o pm cd doc a vs ns G Y ho hd hcd hmg hobj hints hlen hbits hg => ?_
  have KX := hY w _ Y
  obtain ⟨fd, cs, sp, hT, hb, hsp, hF⟩ := F w mg fa _ KX G.T.g hmg
  refine law_tabs KX G.T.g G.T.b G.T.builtins G.T.nolimit hg (fun p hp => ?_) (fun p hp => ?_) (fun p hp => ?_) G.T.bmain hobj hints (Nat.le_trans hlen hn2) hr hF hb (fun H hH hS => hsp H a ns hlen hbits hH hS)
  · obtain ⟨z, hz, t⟩ := hT p hp
    obtain ⟨f1, o1, fd1, h1, h2, h3, h4⟩ := t.fn
    obtain ⟨e, he, hne⟩ := List.any_eq_true.mp (List.all_eq_true.mp hrec z hz)
    obtain ⟨f2, o2, fd2, c2, P2, g1, g2, g3, g4, g5, ⟨⟨oc, vc, i1, _, i3, i4⟩, hP⟩⟩ := G.T.tab e he
    rw [beq_iff_eq.mp hne, h1] at g1
    cases g1
    rw [KX _ _ h2] at g2
    cases g2
    rw [h3] at g3
    cases g3
    rw [h4] at g4
    cases g4
    obtain ⟨o3, us, _, _, _, _, _, _, _, j1, _, j3, j4, _⟩ := PySem.W.codeHd_of_K KX t.hd
    rw [i1] at j1
    cases j1
    rw [i3] at j3
    cases j3
    rw [i4] at j4
    cases j4
    exact hP
  · obtain ⟨z, hz, t⟩ := hT p hp
    exact t.no
  · obtain ⟨z, hz, t⟩ := hT p hp
    exact PySem.W.codeHd_of_K KX t.hd
end GX
namespace BD
open PySem PySem.Spec PyProof.Rows L2 Evl GX
local macro_rules | `(tactic| walk_at "ev") => `(tactic| first
  | ((with_reducible apply ev_var) ; rfl)
  | with_reducible exact ev_c
  | ((with_reducible apply ev_I0) <;> walk_at "ev")
  | ((with_reducible apply ev_e9) <;> walk_at "ev")
  | ((with_reducible apply ev_I) <;> walk_at "ev")
  | ((with_reducible apply ev_eq) <;> walk_at "ev")
  | ((with_reducible apply ev_ne) <;> walk_at "ev")
  | ((with_reducible apply ev_neg) <;> walk_at "ev")
  | ((with_reducible apply ev_ixN) <;> walk_at "ev")
  | ((with_reducible apply ev_ixL) <;> walk_at "ev")
  | ((with_reducible apply ev_inN) <;> walk_at "ev")
  | ((with_reducible apply ev_inT) <;> walk_at "ev")
  | ((with_reducible apply ev_ixT) <;> walk_at "ev")
  | ((with_reducible apply ev_ixS) <;> walk_at "ev")
  | ((with_reducible apply ev_len') <;> walk_at "ev")
  | ((with_reducible apply et_test) <;> walk_at "ev")
  | ((with_reducible apply et_and) <;> walk_at "ev")
  | ((with_reducible apply et_or) <;> walk_at "ev")
  | ((with_reducible apply et_not) <;> walk_at "ev")
  | ((with_reducible apply et_B) <;> walk_at "ev")
  | ((with_reducible apply el_lst) <;> walk_at "ev")
  | ((with_reducible apply eu_tup) <;> walk_at "ev")
  | ((with_reducible apply ea_cons) <;> walk_at "ev")
  | with_reducible exact ea_nil
  | with_reducible assumption
  | ((with_reducible apply ex_l' ; assumption) ; walk_at "ex")
  | ((with_reducible apply ex_t' ; assumption) ; walk_at "ex")
  | (intro _ ; walk_at "ev")
  | (with_reducible first | exact atI_hd | exact at_kind | exact at2s | exact at3s | exact at3i)
  | (first | exact rfl | exact Nat.le_of_ble_eq_true rfl | exact ⟨by decide, by decide⟩ | decide | exact Or.inl ⟨by omega, by omega⟩ | exact Or.inr ⟨by omega, by omega⟩ | omega)
  | skip)
local macro_rules | `(tactic| walk_at "ex") => `(tactic| first
  | assumption
  | exact Ex.refl _
  | (refine' Ex.trans ?_ (by assumption) ; walk_at "ex"))
local macro_rules | `(tactic| walk_at "row") => `(tactic| first
  | (with_reducible exact er_nil)
  | ((with_reducible apply er_cons) <;> walk_at "row")
  | (((with_reducible apply er_var) ; rfl) ; walk_at "isrow")
  | (((with_reducible apply elr_var) ; rfl) ; walk_at "isrow")
  | ((with_reducible apply elr_cat) <;> walk_at "row")
  | ((with_reducible apply elr_lst) <;> walk_at "row")
  | ((with_reducible apply er_fin) <;> walk_at "ev")
  | ((with_reducible apply er_lendT) <;> walk_at "ev")
  | ((with_reducible apply er_lendW) <;> walk_at "ev")
  | ((with_reducible apply er_pick) <;> walk_at "ev")
  | ((with_reducible apply er_either) <;> walk_at "ev")
  | ((with_reducible apply er_or) <;> walk_at "ev")
  | ((with_reducible apply er_again) <;> walk_at "ev")
  | ((with_reducible apply er_back) <;> walk_at "ev")
  | ((with_reducible apply er_look) <;> walk_at "ev")
  | ((with_reducible apply er_change) <;> walk_at "ev")
  | exact Nat.le_of_ble_eq_true rfl
  | skip)
local macro_rules | `(tactic| walk_at "isrow") => `(tactic| first
  | assumption
  | (refine IsRow.up ?_ (by assumption) ; walk_at "ex")
  | (refine LRows.up ?_ (by assumption) ; walk_at "ex"))

abbrev s_law : Stmt := topS 31
theorem sc_law : FnScope ["_law_script", "_law_rows", "_law_standings", "_law_standing", "_law_due", "_law_kept", "_law_found", "_law_hands_here", "_law_held", "_law_one"] ["_law_script"] (defScope s_law) := ⟨rfl, rfl, rfl, by decide +kernel, rfl, by decide +kernel, by decide +kernel⟩
section
variable {K : PySem.W.Frag} {σ : L2.St} {H : Hp} {ta tb : TE} {rs : List Rw}
theorem ev_pf {cs : List (Addr × Addr)} {a : Addr} {rv : List V} {i : Nat} {es : List Ent} {r : Rw} {E : XK} (h : Ev ta σ H (.ref a)) (h2 : EvP tb σ H (AStand (i : Int) es)) (hS : SqL K H a rv) (hR : Rows H rv rs) (sh : Sheet rs) (hs : Std rs i es) (hr : rs[i]? = some r) (hl : rs.length ≤ 40000) (hT : ∀ p ∈ cs, H p.2 = some (TabX p.2)) :
    Ev (tCall (spPF K cs) [] E (tCons ta (tCons tb tNil))) σ H (.str (faultM r es)) := fun H1 e Q q =>
  h H1 e _ fun H2 e2 => h2 H2 (e.trans e2) _ fun x H3 e3 hx => ⟨a, x, rv, rs, i, es, r, rfl, ex_l (e.trans (e2.trans e3)) hS, hR.up (e.trans (e2.trans e3)), hx, sh, hs, hr, hl, fun p hp => (e.trans (e2.trans e3)) _ _ (hT p hp), fun H4 e4 => q H4 (e2.trans (e3.trans e4))⟩
end
section
variable {P : Program} {w : World} {K : PySem.W.Frag} {mg : Str → Option Value} {base : Heap}
def spLaw (K : PySem.W.Frag) (cs : List (Addr × Addr)) : Sp := fun vs H Q _ => ∃ (a : Addr) (ns : List Int), vs = [.ref a] ∧ SqL K H a (ns.map V.int) ∧ ns.length ≤ 63 ∧ (∀ p ∈ cs, H p.2 = some (TabX p.2)) ∧ ∀ H', Ex H H' → Q (.bl true) H'
theorem ok_law {cs : List (Addr × Addr)} {f : Addr} {fd : FuncData} (F : Fun K "law" "law" s_law f fd) (T : Blt mg) (h_l_drawn : Has P w K mg base "_law_drawn" 5 ["_law_script", "_law_most"] (spDrawn K)) (h_l_run : Has P w K mg base "_law_run" 3 ["_law_rows", "_law_choices_here"] (spRun K)) (h_l_choices : Has P w K mg base "_law_choices" 1 ["_law_script"] (spCho K)) (h_l_fault : Has P w K mg base "_law_fault" 2 ["_law_row_here", "_law_held"] (spFault K)) (h_fault : Has P w K mg base "fault" 4 ["rows", "standing"] (spPF K cs)) (h_l_back : Has P w K mg base "_law_back" 1 ["_law_held", "_law_word_here"] (spBack K)) :
    FnOk P w K mg base CX0 6 f fd ["_law_script"] (spLaw K cs) := by
  refine F.ok sc_law (fun vs H Q E h => ?_) (fun cdv A outer s H vs Q E hr h => ?_)
  · obtain ⟨a, ns, rfl, _⟩ := h
    rfl
  · obtain ⟨a, ns, rfl, hS, hlen, hT, q⟩ := h
    refine ⟨_, (pss_cons (ps_set (i := 1) sc_law.nd rfl (Or.inl rfl) (pe_own h_l_drawn (hr.mono (by decide)) (by rfl) (pa_cons (pv 0) (pa_cons pe_int pa_nil)))) (pss_cons (ps_set (i := 2) sc_law.nd rfl (Or.inl rfl) (pe_own h_l_run (hr.mono (by decide)) (by rfl) (pa_cons (pv 1) (pa_cons (pe_own h_l_choices (hr.mono (by decide)) (by rfl) (pa_cons (pv 0) pa_nil)) pa_nil)))) (pss_cons (ps_if (pt_cmpR op_eq (pe_callB (show CallR _ _ (rLenS K) from call_len_seq) (by rfl) T.len_ (by decide +kernel) (pa_cons (pv 2) pa_nil)) pe_int (nomark _)) (pss_one (ps_ret pe_bl)) pss_nil) (pss_cons (ps_set (i := 3) sc_law.nd rfl (Or.inl rfl) (pe_ix (show IxR _ (rIxL K) from ix_list) (pv 2) (pe_op op_mod (pe_callB (cr_sum rfl) (by rfl) T.sum_ (by decide +kernel) (pa_cons (pv 0) pa_nil)) (pe_callB (show CallR _ _ (rLenS K) from call_len_seq) (by rfl) T.len_ (by decide +kernel) (pa_cons (pv 2) pa_nil))) (fun _ _ => rfl))) (pss_cons (ps_set (i := 4) sc_law.nd rfl (Or.inl rfl) (pe_own h_l_fault (hr.mono (by decide)) (by rfl) (pa_cons (pe_ix (show IxR _ (rIxL K) from ix_list) (pv 1) (pe_ix (show IxR _ (rIxT K) from ix_tup) (pv 3) pe_int (fun _ _ => rfl)) (fun _ _ => rfl)) (pa_cons (pe_ix (show IxR _ (rIxT K) from ix_tup) (pv 3) pe_int (fun _ _ => rfl)) pa_nil)))) (pss_cons (ps_set (i := 5) sc_law.nd rfl (Or.inl rfl) (pe_callTy (show CallR _ _ (rListS K) from call_list_of) (by rfl) T.list_ (by decide +kernel) (pa_cons (pv 1) pa_nil))) (pss_cons (ps_set (i := 6) sc_law.nd rfl (Or.inl rfl) (pe_own h_fault (hr.mono (by decide)) (by rfl) (pa_cons (pv 5) (pa_cons (pv 3) pa_nil)))) (pss_cons (ps_if (PW.pt (pw_or (pt_not (pt_val (pe_callB (show CallR _ _ (rIsi K) from call_isi) (by rfl) T.isinstance_ (by decide +kernel) (pa_cons (pv 6) (pa_cons (pe_bltn (v := .ty "str") (by rfl) T.str_ (by decide +kernel) rfl) pa_nil))))) (pw_or1 (pt_cmpR op_ne (pv 6) (pv 4) (nomark _))))) (pss_one (ps_ret pe_bl)) pss_nil) (pss_cons (ps_setLc (i := 7) (own := [("_law_one", 9)]) (g := (gName 9))  rfl sc_law.nd rfl rfl (sw_true rfl rfl rfl (by decide +kernel)) (pi_tup (pe_ix (show IxR _ (rIxT K) from ix_tup) (pv 3) pe_int (fun _ _ => rfl))) (blkOk_by (own := [("_law_one", 9)]) (N := ["_law_script", "_law_rows", "_law_standings", "_law_standing", "_law_due", "_law_kept", "_law_found", "_law_hands_here", "_law_held", "_law_one"]) (sc := defScope s_law) (by decide +kernel)) (fun _ _ _ _ _ => (pg_name (i := 9) sc_law.nd rfl (Or.inl rfl))) (fun _ _ _ _ _ => (pts_one (pt_cmpR op_ne (pe_ix (show IxR _ (rIxT K) from ix_tup) (pv 9) pe_int (fun _ _ => rfl)) pe_str (nomark _)))) (fun _ _ _ _ _ => (pv 9))) (pss_cons (ps_if (pt_cmpR op_eq (pe_callB (show CallR _ _ (rLenS K) from call_len_seq) (by rfl) T.len_ (by decide +kernel) (pa_cons (pv 7) pa_nil)) pe_int (nomark _)) (pss_one (ps_ret pe_bl)) pss_nil) (pss_cons (ps_set (i := 8) sc_law.nd rfl (Or.inl rfl) (pe_own h_l_back (hr.mono (by decide)) (by rfl) (pa_cons (pe_ix (show IxR _ (rIxT K) from ix_tup) (pv 3) pe_int (fun _ _ => rfl)) (pa_cons (pe_ix (show IxR _ (rIxT K) from ix_tup) (pe_ix (show IxR _ (rIxL K) from ix_list) (pv 7) (pe_op op_mod (pe_op op_fdiv (pe_callB (cr_sum rfl) (by rfl) T.sum_ (by decide +kernel) (pa_cons (pv 0) pa_nil)) pe_int) (pe_callB (show CallR _ _ (rLenS K) from call_len_seq) (by rfl) T.len_ (by decide +kernel) (pa_cons (pv 7) pa_nil))) (fun _ _ => rfl)) pe_int (fun _ _ => rfl)) pa_nil)))) (pss_cons (ps_set (i := 6) sc_law.nd rfl (Or.inl rfl) (pe_own h_fault (hr.mono (by decide)) (by rfl) (pa_cons (pv 5) (pa_cons (pe_tup (pa_cons (pe_ix (show IxR _ (rIxT K) from ix_tup) (pv 3) pe_int (fun _ _ => rfl)) (pa_cons (pv 8) pa_nil))) pa_nil)))) (pss_cons (ps_if (PW.pt (pw_or (pt_cmpR op_ne (pe_callB (show CallR _ _ (rLenS K) from call_len_seq) (by rfl) T.len_ (by decide +kernel) (pa_cons (pv 5) pa_nil)) (pe_callB (show CallR _ _ (rLenS K) from call_len_seq) (by rfl) T.len_ (by decide +kernel) (pa_cons (pv 1) pa_nil)) (nomark _)) (pw_or1 (pt_cmpR (show OpR _ _ (rNeD K) from op_neD hr.units) (pv 5) (pv 1) (nomark _))))) (pss_one (ps_ret pe_bl)) pss_nil) (pss_one (ps_ret (pe_and (pe_callB (show CallR _ _ (rIsi K) from call_isi) (by rfl) T.isinstance_ (by decide +kernel) (pa_cons (pv 6) (pa_cons (pe_bltn (v := .ty "str") (by rfl) T.str_ (by decide +kernel) rfl) pa_nil))) (pe_one (pe_cmpR op_eq (pv 6) (pe_own h_l_fault (hr.mono (by decide)) (by rfl) (pa_cons (pe_ix (show IxR _ (rIxL K) from ix_list) (pv 1) (pe_ix (show IxR _ (rIxT K) from ix_tup) (pv 3) pe_int (fun _ _ => rfl)) (fun _ _ => rfl)) (pa_cons (pv 8) pa_nil))) (nomark _))))))))))))))))))), ?_⟩
    show (_ : L2.TS) _ [_, _, _, _, _, _, _, _, _, _] _
    refine q_asgP (ep_drawn (a := a) (ns := ns) (most := 20) ?_ hS (by decide) (by decide)) (fun v H1 e1 hv => ?_)
    · walk_at "ev"
    show (_ : L2.TS) _ [_, _, _, _, _, _, _, _, _, _] _
    have sh : Sheet (drawnM ns 20) := sheet_drawn ns 20
    have hdl : (drawnM ns 20).length ≤ 1500 := drawn_len ns (by decide) (by decide)
    generalize drawnM ns 20 = rs at *
    obtain ⟨p1, rv, rfl, hp1, hR⟩ := hv
    have hlr := hR.len
    have hP1 : SqL K H1 p1 rv := sq_of hp1
    have hS1 := ex_l e1 hS
    -- the run
    refine q_asgPL (epl_runN (cs := choM ns) (ev_var rfl) (el_cho (ea_cons (ev_var rfl) ea_nil) hS1) hP1 hR sh (by omega) (run_bound (choM_len ns) hdl)) (fun p2 sv H2 hp2 e2 h2 hD => ?_)
    show (_ : L2.TS) _ [_, _, _, _, _, _, _, _, _, _] _
    have hst := runM_std sh (choM ns)
    generalize runM rs (choM ns) = sts at *
    have hL2 : SqL K H2 p2 sv := sq_of h2
    have hP2 := ex_l e2 hP1
    have hR2 := hR.up e2
    have hS2 := ex_l e2 hS1
    replace q := fun H' x => q H' ((e1.trans e2).trans x)
    replace hT := fun p hp => (e1.trans e2) _ _ (hT p hp)
    clear hp1 hS hS1 e1 e2 hP1 hR hp2 h2
    refine q_when (b := decide (V.int (sv.length : Int) = V.int 0)) (et_test (ev_eq (ev_len' (ev_var rfl) hL2) ev_c rfl)) (fun hb H3 e3 => s_ret ev_c (fun H4 e4 => q H4 (e3.trans e4))) (fun hb H3 e3 => ?_)
    have hpos : 0 < sv.length := by
      have := of_decide_eq_false hb
      rw [V.int.injEq] at this
      omega
    have hL3 := ex_l e3 hL2
    have hP3 := ex_l e3 hP2
    have hR3 := hR2.up e3
    have hS3 := ex_l e3 hS2
    have hD3 := hD.up e3
    replace q := fun H' x => q H' ((e3).trans x)
    replace hT := fun p hp => (e3) _ _ (hT p hp)
    clear hL2 hP2 hR2 hS2 hD e3
    -- the standing
    obtain ⟨k, x, hk, hx, hat⟩ := at_mod hpos ns.sum
    obtain ⟨st, hst1, hX⟩ := hD3.at hx
    obtain ⟨hstd, hil⟩ := hst st (List.mem_of_getElem? hst1)
    obtain ⟨i, es⟩ := st
    dsimp only at hX hstd hil
    have hel := hstd.len sh
    have hgr := List.getElem?_eq_getElem hil
    generalize rs[i] = r at hgr
    refine q_asg (v := x) (ev_ixL (ev_var rfl) hL3 (ev_I (ev_sum (ev_var rfl) hS3) (ev_len' (ev_var rfl) hL3) (by omega)) hat) (fun H4 e4 => ?_)
    show (_ : L2.TS) _ [_, _, _, _, _, _, _, _, _, _] _
    have hP4 := ex_l e4 hP3
    have hR4 := hR3.up e4
    have hS4 := ex_l e4 hS3
    have hX4 : AStand (i : Int) es x H4 := hX.up e4
    replace q := fun H' x => q H' ((e4).trans x)
    replace hT := fun p hp => (e4) _ _ (hT p hp)
    clear hL3 hP3 hR3 hS3 hD3 hX e4
    obtain ⟨px, pq, hv, rfl, hpx, hpq, hE⟩ := id hX4
    have hPx : SqT K H4 px [.int (i : Int), .ref pq] := st_of hpx
    have hA4 : AHeld es (.ref pq) H4 := ⟨pq, hv, rfl, hpq, hE⟩
    have hle := hE.len
    obtain ⟨y, hy, hY⟩ := hR4.get hgr
    have hix : atI rv (i : Int) = some y := atI_nat hy
    -- due
    refine q_asg (ev_fault (y := y) (x := .ref pq) (r := r) (es := es) (ea_cons (ev_ixL (ev_var rfl) hP4 (ev_ixT (ev_var rfl) hPx ev_c rfl) hix) (ea_cons (ev_ixT (ev_var rfl) hPx ev_c rfl) ea_nil)) hY hA4 (by omega)) (fun H5 e5 => ?_)
    show (_ : L2.TS) _ [_, _, _, _, _, _, _, _, _, _] _
    -- kept
    refine q_asgL (xs := rv) (el_list (ev_var rfl) (ex_l e5 hP4)) (fun p3 H6 hp3 e6 h6 => ?_)
    show (_ : L2.TS) _ [_, _, _, _, _, _, _, _, _, _] _
    have e46 : Ex H4 H6 := e5.trans e6
    have hK6 : SqL K H6 p3 rv := sq_of h6
    have hP6 := ex_l e46 hP4
    have hR6 := hR4.up e46
    have hS6 := ex_l e46 hS4
    have hX6 := hX4.up e46
    have hPx6 := ex_t e46 hPx
    have hA6 := hA4.up e46
    have hY6 := hY.up e46
    have hE6 := hE.up e46
    have hQ6 : SqT K H6 pq hv := st_of (e46 _ _ hpq)
    replace q := fun H' x => q H' ((e46).trans x)
    replace hT := fun p hp => (e46) _ _ (hT p hp)
    clear e5 e6 e46 hP4 hR4 hS4 hX4 hPx hA4 hY hE hpx hpq h6 hp3
    -- found
    refine q_asg (ev_pf (cs := cs) (i := i) (es := es) (r := r) (rv := rv) (rs := rs) (ev_var rfl) (ep_var rfl (fun H1 e => hX6.up e)) hK6 hR6 sh hstd hgr (by omega) hT) (fun H7 e7 => ?_)
    show (_ : L2.TS) _ [_, _, _, _, _, _, _, _, _, _] _
    refine q_when (b := false) (et_is (et_or (et_not (et_B (ev_isiS (ea_cons (ev_var rfl) (ea_cons ev_c ea_nil)) (show kitB "str" "str" = some true by decide +kernel)))) (fun _ => et_test (ev_ne (ev_var rfl) (ev_var rfl) rfl))) (by rw [decide_eq_true rfl] ; rfl)) (fun hb _ _ => by cases hb) (fun _ H8 e8 => ?_)
    have e68 : Ex H6 H8 := e7.trans e8
    have hK8 := ex_l e68 hK6
    have hP8 := ex_l e68 hP6
    have hR8 := hR6.up e68
    have hS8 := ex_l e68 hS6
    have hPx8 := ex_t e68 hPx6
    have hA8 := hA6.up e68
    have hY8 := hY6.up e68
    have hE8 := hE6.up e68
    have hQ8 := ex_t e68 hQ6
    replace q := fun H' x => q H' ((e68).trans x)
    replace hT := fun p hp => (e68) _ _ (hT p hp)
    clear e7 e8 e68 hK6 hP6 hR6 hS6 hX6 hPx6 hA6 hY6 hE6 hQ6
    -- the hands
    refine q_asgPL (epl_filterT (fun e : Ent => !decide (e.k = ("pick" : Str))) (ev_ixT (ev_var rfl) hPx8 ev_c rfl) hQ8 hE8 (by omega) (fun x => rfl) (fun x e H9 e9 hx => ?_) (fun x => rfl)) (fun p4 us H9 hp4 e9 h9 hU => ?_)
    · refine et_is (et_test (ev_ne (ev_e1 rfl hx) ev_c rfl)) ?_
      rw [dec_str]
    show (_ : L2.TS) _ [_, _, _, _, _, _, _, _, _, _] _
    have hL9 : SqL K H9 p4 us := sq_of h9
    refine q_when (b := decide (V.int (us.length : Int) = V.int 0)) (et_test (ev_eq (ev_len' (ev_var rfl) hL9) ev_c rfl)) (fun hb H10 e10 => s_ret ev_c (fun H11 e11 => q H11 (e9.trans (e10.trans e11)))) (fun hb H10 e10 => ?_)
    have hpos2 : 0 < us.length := by
      have := of_decide_eq_false hb
      rw [V.int.injEq] at this
      omega
    obtain ⟨k2, x2, hk2, hx2, hat2⟩ := at_mod hpos2 (ns.sum / 7)
    obtain ⟨e, he, hXe⟩ := hU.at hx2
    obtain ⟨pe, rfl, hpe⟩ := id (hXe.up e10)
    have e810 : Ex H8 H10 := e9.trans e10
    have hL10 := ex_l e10 hL9
    refine q_asgP (ep_back (x := .ref pq) (es := es) (u := e.w) (ea_cons (ev_ixT (ev_var rfl) (ex_t e810 hPx8) ev_c rfl) (ea_cons (ev_ixT (ev_ixL (ev_var rfl) hL10 (ev_I (ev_I (ev_sum (ev_var rfl) (ex_l e810 hS8)) ev_c ⟨by decide, by decide⟩) (ev_len' (ev_var rfl) hL10) (by omega)) hat2) (st_of hpe) ev_c rfl) ea_nil)) (hA8.up e810) (by omega)) (fun z H11 e11 hz => ?_)
    show (_ : L2.TS) _ [_, _, _, _, _, _, _, _, _, _] _
    have e811 : Ex H8 H11 := e810.trans e11
    have hK11 := ex_l e811 hK8
    have hP11 := ex_l e811 hP8
    have hR11 := hR8.up e811
    have hPx11 := ex_t e811 hPx8
    have hY11 := hY8.up e811
    replace q := fun H' x => q H' ((e811).trans x)
    replace hT := fun p hp => (e811) _ _ (hT p hp)
    clear e9 e10 e11 e810 e811 hK8 hP8 hR8 hS8 hPx8 hA8 hY8 hE8 hQ8 hL9 hL10 hU hXe hpe h9 hp4
    have hstd2 := hstd.backed e.w
    generalize backM e.w es = fs at *
    have hfl := hstd2.len sh
    refine q_asg (ev_pf (cs := cs) (i := i) (es := fs) (r := r) (rv := rv) (rs := rs) (ev_var rfl) (ep_stand (ev_ixT (ev_var rfl) hPx11 ev_c rfl) (ep_heldvar rfl hz)) hK11 hR11 sh hstd2 hgr (by omega) hT) (fun H12 e12 => ?_)
    show (_ : L2.TS) _ [_, _, _, _, _, _, _, _, _, _] _
    refine q_when (b := false) (et_is (et_or (et_test (ev_ne (ev_len' (ev_var rfl) (ex_l e12 hK11)) (ev_len' (ev_var rfl) (ex_l e12 hP11)) rfl)) (fun _ => et_test (ev_neRows sh.s (ev_var rfl) (ev_var rfl) (ex_l e12 hK11) (hR11.up e12) (ex_l e12 hP11) (hR11.up e12)))) (by rw [decide_eq_true rfl] ; rfl)) (fun hb _ _ => by cases hb) (fun _ H13 e13 => ?_)
    have e1113 : Ex H11 H13 := e12.trans e13
    refine s_ret (v := .bl (true && decide (V.str (faultM r fs) = V.str (faultM r fs)))) (ev_andV (ev_isiS (ea_cons (ev_var rfl) (ea_cons ev_c ea_nil)) (show kitB "str" "str" = some true by decide +kernel)) (fun _ => ev_eq (ev_var rfl) (ev_fault (y := y) (x := z) (r := r) (es := fs) (ea_cons (ev_ixL (ev_var rfl) (ex_l e1113 hP11) (ev_ixT (ev_var rfl) (ex_t e1113 hPx11) ev_c rfl) hix) (ea_cons (ev_var rfl) ea_nil)) (hY11.up e1113) (hz.up e1113) (by omega)) rfl)) (fun H14 e14 => ?_)
    rw [decide_eq_true rfl]
    exact q H14 (e1113.trans e14)
end
end BD
namespace BD
open PySem PySem.Spec PyProof.Rows L2 Evl
local macro_rules | `(tactic| walk_at "ev") => `(tactic| first
  | ((with_reducible apply ev_var) ; rfl)
  | with_reducible exact ev_c
  | ((with_reducible apply ev_I0) <;> walk_at "ev")
  | ((with_reducible apply ev_e9) <;> walk_at "ev")
  | ((with_reducible apply ev_I) <;> walk_at "ev")
  | ((with_reducible apply ev_eq) <;> walk_at "ev")
  | ((with_reducible apply ev_ne) <;> walk_at "ev")
  | ((with_reducible apply ev_neg) <;> walk_at "ev")
  | ((with_reducible apply ev_ixN) <;> walk_at "ev")
  | ((with_reducible apply ev_ixL) <;> walk_at "ev")
  | ((with_reducible apply ev_inN) <;> walk_at "ev")
  | ((with_reducible apply ev_inT) <;> walk_at "ev")
  | ((with_reducible apply ev_ixT) <;> walk_at "ev")
  | ((with_reducible apply ev_ixS) <;> walk_at "ev")
  | ((with_reducible apply ev_len') <;> walk_at "ev")
  | ((with_reducible apply et_test) <;> walk_at "ev")
  | ((with_reducible apply et_and) <;> walk_at "ev")
  | ((with_reducible apply et_or) <;> walk_at "ev")
  | ((with_reducible apply et_not) <;> walk_at "ev")
  | ((with_reducible apply et_B) <;> walk_at "ev")
  | ((with_reducible apply el_lst) <;> walk_at "ev")
  | ((with_reducible apply eu_tup) <;> walk_at "ev")
  | ((with_reducible apply ea_cons) <;> walk_at "ev")
  | with_reducible exact ea_nil
  | with_reducible assumption
  | ((with_reducible apply ex_l' ; assumption) ; walk_at "ex")
  | ((with_reducible apply ex_t' ; assumption) ; walk_at "ex")
  | (intro _ ; walk_at "ev")
  | (with_reducible first | exact atI_hd | exact at_kind | exact at2s | exact at3s | exact at3i)
  | (first | exact rfl | exact Nat.le_of_ble_eq_true rfl | exact ⟨by decide, by decide⟩ | decide | exact Or.inl ⟨by omega, by omega⟩ | exact Or.inr ⟨by omega, by omega⟩ | omega)
  | skip)
local macro_rules | `(tactic| walk_at "ex") => `(tactic| first
  | assumption
  | exact Ex.refl _
  | (refine' Ex.trans ?_ (by assumption) ; walk_at "ex"))
local macro_rules | `(tactic| walk_at "row") => `(tactic| first
  | (with_reducible exact er_nil)
  | ((with_reducible apply er_cons) <;> walk_at "row")
  | (((with_reducible apply er_var) ; rfl) ; walk_at "isrow")
  | (((with_reducible apply elr_var) ; rfl) ; walk_at "isrow")
  | ((with_reducible apply elr_cat) <;> walk_at "row")
  | ((with_reducible apply elr_lst) <;> walk_at "row")
  | ((with_reducible apply er_fin) <;> walk_at "ev")
  | ((with_reducible apply er_lendT) <;> walk_at "ev")
  | ((with_reducible apply er_lendW) <;> walk_at "ev")
  | ((with_reducible apply er_pick) <;> walk_at "ev")
  | ((with_reducible apply er_either) <;> walk_at "ev")
  | ((with_reducible apply er_or) <;> walk_at "ev")
  | ((with_reducible apply er_again) <;> walk_at "ev")
  | ((with_reducible apply er_back) <;> walk_at "ev")
  | ((with_reducible apply er_look) <;> walk_at "ev")
  | ((with_reducible apply er_change) <;> walk_at "ev")
  | exact Nat.le_of_ble_eq_true rfl
  | skip)
local macro_rules | `(tactic| walk_at "isrow") => `(tactic| first
  | assumption
  | (refine IsRow.up ?_ (by assumption) ; walk_at "ex")
  | (refine LRows.up ?_ (by assumption) ; walk_at "ex"))

theorem all_mk {l : PySem.W.OpenLaw} {w : World} {K : PySem.W.Frag} {h : Heap} {mg : Str → Option Value} {fa f29 f1 f2 f3 f4 f5 f6 f7 f8 f9 f10 f11 f12 f13 f14 f15 f16 f17 f18 f19 f20 f21 f22 f23 f24 f25 f26 f27 f28 fL : Addr} (X : K.In h) (G : h.Ns mainGlobals mg) (hfa : mg "law" = some (.ref fa))
    {od1 an1 : Option Addr} {sl1 : Array (Option Value)} {oc1 kV1 dc1 pm1 cd1 ct1 : Value}
    (a1 : PySem.W.nsIn K mainGlobals "_law_cell_at" = some (some (.ref f1))) (l1 : K.lookup f1 = some ⟨oc1, od1, .func (PySem.W.fnOf "_law_cell_at" "_law_cell_at" (defArgs s_l_cell_at) (defBody s_l_cell_at) (defScope s_l_cell_at) .none kV1 dc1 pm1 an1 cd1 ct1), sl1⟩) (c1 : PySem.W.codeIn K cd1 "_law_cell_at" = true) (k1 : PySem.W.keepIn K (.ref f1) = true)
    {od2 an2 : Option Addr} {sl2 : Array (Option Value)} {oc2 kV2 dc2 pm2 cd2 ct2 : Value}
    (a2 : PySem.W.nsIn K mainGlobals "_law_word" = some (some (.ref f2))) (l2 : K.lookup f2 = some ⟨oc2, od2, .func (PySem.W.fnOf "_law_word" "_law_word" (defArgs s_l_word) (defBody s_l_word) (defScope s_l_word) .none kV2 dc2 pm2 an2 cd2 ct2), sl2⟩) (c2 : PySem.W.codeIn K cd2 "_law_word" = true) (k2 : PySem.W.keepIn K (.ref f2) = true)
    {od3 an3 : Option Addr} {sl3 : Array (Option Value)} {oc3 kV3 dc3 pm3 cd3 ct3 : Value}
    (a3 : PySem.W.nsIn K mainGlobals "_law_draw" = some (some (.ref f3))) (l3 : K.lookup f3 = some ⟨oc3, od3, .func (PySem.W.fnOf "_law_draw" "_law_draw" (defArgs s_l_draw) (defBody s_l_draw) (defScope s_l_draw) .none kV3 dc3 pm3 an3 cd3 ct3), sl3⟩) (c3 : PySem.W.codeIn K cd3 "_law_draw" = true) (k3 : PySem.W.keepIn K (.ref f3) = true)
    {od4 an4 : Option Addr} {sl4 : Array (Option Value)} {oc4 kV4 dc4 pm4 cd4 ct4 : Value}
    (a4 : PySem.W.nsIn K mainGlobals "_law_thing" = some (some (.ref f4))) (l4 : K.lookup f4 = some ⟨oc4, od4, .func (PySem.W.fnOf "_law_thing" "_law_thing" (defArgs s_l_thing) (defBody s_l_thing) (defScope s_l_thing) .none kV4 dc4 pm4 an4 cd4 ct4), sl4⟩) (c4 : PySem.W.codeIn K cd4 "_law_thing" = true) (k4 : PySem.W.keepIn K (.ref f4) = true)
    {od5 an5 : Option Addr} {sl5 : Array (Option Value)} {oc5 kV5 dc5 pm5 cd5 ct5 : Value}
    (a5 : PySem.W.nsIn K mainGlobals "_law_lend" = some (some (.ref f5))) (l5 : K.lookup f5 = some ⟨oc5, od5, .func (PySem.W.fnOf "_law_lend" "_law_lend" (defArgs s_l_lend) (defBody s_l_lend) (defScope s_l_lend) .none kV5 dc5 pm5 an5 cd5 ct5), sl5⟩) (c5 : PySem.W.codeIn K cd5 "_law_lend" = true) (k5 : PySem.W.keepIn K (.ref f5) = true)
    {od6 an6 : Option Addr} {sl6 : Array (Option Value)} {oc6 kV6 dc6 pm6 cd6 ct6 : Value}
    (a6 : PySem.W.nsIn K mainGlobals "_law_deed" = some (some (.ref f6))) (l6 : K.lookup f6 = some ⟨oc6, od6, .func (PySem.W.fnOf "_law_deed" "_law_deed" (defArgs s_l_deed) (defBody s_l_deed) (defScope s_l_deed) .none kV6 dc6 pm6 an6 cd6 ct6), sl6⟩) (c6 : PySem.W.codeIn K cd6 "_law_deed" = true) (k6 : PySem.W.keepIn K (.ref f6) = true)
    {od7 an7 : Option Addr} {sl7 : Array (Option Value)} {oc7 kV7 dc7 pm7 cd7 ct7 : Value}
    (a7 : PySem.W.nsIn K mainGlobals "_law_row" = some (some (.ref f7))) (l7 : K.lookup f7 = some ⟨oc7, od7, .func (PySem.W.fnOf "_law_row" "_law_row" (defArgs s_l_row) (defBody s_l_row) (defScope s_l_row) .none kV7 dc7 pm7 an7 cd7 ct7), sl7⟩) (c7 : PySem.W.codeIn K cd7 "_law_row" = true) (k7 : PySem.W.keepIn K (.ref f7) = true)
    {od8 an8 : Option Addr} {sl8 : Array (Option Value)} {oc8 kV8 dc8 pm8 cd8 ct8 : Value}
    (a8 : PySem.W.nsIn K mainGlobals "_law_hands" = some (some (.ref f8))) (l8 : K.lookup f8 = some ⟨oc8, od8, .func (PySem.W.fnOf "_law_hands" "_law_hands" (defArgs s_l_hands) (defBody s_l_hands) (defScope s_l_hands) .none kV8 dc8 pm8 an8 cd8 ct8), sl8⟩) (c8 : PySem.W.codeIn K cd8 "_law_hands" = true) (k8 : PySem.W.keepIn K (.ref f8) = true)
    {od9 an9 : Option Addr} {sl9 : Array (Option Value)} {oc9 kV9 dc9 pm9 cd9 ct9 : Value}
    (a9 : PySem.W.nsIn K mainGlobals "_law_first_four" = some (some (.ref f9))) (l9 : K.lookup f9 = some ⟨oc9, od9, .func (PySem.W.fnOf "_law_first_four" "_law_first_four" (defArgs s_l_first_four) (defBody s_l_first_four) (defScope s_l_first_four) .none kV9 dc9 pm9 an9 cd9 ct9), sl9⟩) (c9 : PySem.W.codeIn K cd9 "_law_first_four" = true) (k9 : PySem.W.keepIn K (.ref f9) = true)
    {od10 an10 : Option Addr} {sl10 : Array (Option Value)} {oc10 kV10 dc10 pm10 cd10 ct10 : Value}
    (a10 : PySem.W.nsIn K mainGlobals "_law_gadget" = some (some (.ref f10))) (l10 : K.lookup f10 = some ⟨oc10, od10, .func (PySem.W.fnOf "_law_gadget" "_law_gadget" (defArgs s_l_gadget) (defBody s_l_gadget) (defScope s_l_gadget) .none kV10 dc10 pm10 an10 cd10 ct10), sl10⟩) (c10 : PySem.W.codeIn K cd10 "_law_gadget" = true) (k10 : PySem.W.keepIn K (.ref f10) = true)
    {od11 an11 : Option Addr} {sl11 : Array (Option Value)} {oc11 kV11 dc11 pm11 cd11 ct11 : Value}
    (a11 : PySem.W.nsIn K mainGlobals "_law_sheet" = some (some (.ref f11))) (l11 : K.lookup f11 = some ⟨oc11, od11, .func (PySem.W.fnOf "_law_sheet" "_law_sheet" (defArgs s_l_sheet) (defBody s_l_sheet) (defScope s_l_sheet) .none kV11 dc11 pm11 an11 cd11 ct11), sl11⟩) (c11 : PySem.W.codeIn K cd11 "_law_sheet" = true) (k11 : PySem.W.keepIn K (.ref f11) = true)
    {od12 an12 : Option Addr} {sl12 : Array (Option Value)} {oc12 kV12 dc12 pm12 cd12 ct12 : Value}
    (a12 : PySem.W.nsIn K mainGlobals "_law_drawn" = some (some (.ref f12))) (l12 : K.lookup f12 = some ⟨oc12, od12, .func (PySem.W.fnOf "_law_drawn" "_law_drawn" (defArgs s_l_drawn) (defBody s_l_drawn) (defScope s_l_drawn) .none kV12 dc12 pm12 an12 cd12 ct12), sl12⟩) (c12 : PySem.W.codeIn K cd12 "_law_drawn" = true) (k12 : PySem.W.keepIn K (.ref f12) = true)
    {od13 an13 : Option Addr} {sl13 : Array (Option Value)} {oc13 kV13 dc13 pm13 cd13 ct13 : Value}
    (a13 : PySem.W.nsIn K mainGlobals "_law_homes" = some (some (.ref f13))) (l13 : K.lookup f13 = some ⟨oc13, od13, .func (PySem.W.fnOf "_law_homes" "_law_homes" (defArgs s_l_homes) (defBody s_l_homes) (defScope s_l_homes) .none kV13 dc13 pm13 an13 cd13 ct13), sl13⟩) (c13 : PySem.W.codeIn K cd13 "_law_homes" = true) (k13 : PySem.W.keepIn K (.ref f13) = true)
    {od14 an14 : Option Addr} {sl14 : Array (Option Value)} {oc14 kV14 dc14 pm14 cd14 ct14 : Value}
    (a14 : PySem.W.nsIn K mainGlobals "_law_last" = some (some (.ref f14))) (l14 : K.lookup f14 = some ⟨oc14, od14, .func (PySem.W.fnOf "_law_last" "_law_last" (defArgs s_l_last) (defBody s_l_last) (defScope s_l_last) .none kV14 dc14 pm14 an14 cd14 ct14), sl14⟩) (c14 : PySem.W.codeIn K cd14 "_law_last" = true) (k14 : PySem.W.keepIn K (.ref f14) = true)
    {od15 an15 : Option Addr} {sl15 : Array (Option Value)} {oc15 kV15 dc15 pm15 cd15 ct15 : Value}
    (a15 : PySem.W.nsIn K mainGlobals "_law_starts" = some (some (.ref f15))) (l15 : K.lookup f15 = some ⟨oc15, od15, .func (PySem.W.fnOf "_law_starts" "_law_starts" (defArgs s_l_starts) (defBody s_l_starts) (defScope s_l_starts) .none kV15 dc15 pm15 an15 cd15 ct15), sl15⟩) (c15 : PySem.W.codeIn K cd15 "_law_starts" = true) (k15 : PySem.W.keepIn K (.ref f15) = true)
    {od16 an16 : Option Addr} {sl16 : Array (Option Value)} {oc16 kV16 dc16 pm16 cd16 ct16 : Value}
    (a16 : PySem.W.nsIn K mainGlobals "_law_lent" = some (some (.ref f16))) (l16 : K.lookup f16 = some ⟨oc16, od16, .func (PySem.W.fnOf "_law_lent" "_law_lent" (defArgs s_l_lent) (defBody s_l_lent) (defScope s_l_lent) .none kV16 dc16 pm16 an16 cd16 ct16), sl16⟩) (c16 : PySem.W.codeIn K cd16 "_law_lent" = true) (k16 : PySem.W.keepIn K (.ref f16) = true)
    {od17 an17 : Option Addr} {sl17 : Array (Option Value)} {oc17 kV17 dc17 pm17 cd17 ct17 : Value}
    (a17 : PySem.W.nsIn K mainGlobals "_law_back" = some (some (.ref f17))) (l17 : K.lookup f17 = some ⟨oc17, od17, .func (PySem.W.fnOf "_law_back" "_law_back" (defArgs s_l_back) (defBody s_l_back) (defScope s_l_back) .none kV17 dc17 pm17 an17 cd17 ct17), sl17⟩) (c17 : PySem.W.codeIn K cd17 "_law_back" = true) (k17 : PySem.W.keepIn K (.ref f17) = true)
    {od18 an18 : Option Addr} {sl18 : Array (Option Value)} {oc18 kV18 dc18 pm18 cd18 ct18 : Value}
    (a18 : PySem.W.nsIn K mainGlobals "_law_step" = some (some (.ref f18))) (l18 : K.lookup f18 = some ⟨oc18, od18, .func (PySem.W.fnOf "_law_step" "_law_step" (defArgs s_l_step) (defBody s_l_step) (defScope s_l_step) .none kV18 dc18 pm18 an18 cd18 ct18), sl18⟩) (c18 : PySem.W.codeIn K cd18 "_law_step" = true) (k18 : PySem.W.keepIn K (.ref f18) = true)
    {od19 an19 : Option Addr} {sl19 : Array (Option Value)} {oc19 kV19 dc19 pm19 cd19 ct19 : Value}
    (a19 : PySem.W.nsIn K mainGlobals "_law_run" = some (some (.ref f19))) (l19 : K.lookup f19 = some ⟨oc19, od19, .func (PySem.W.fnOf "_law_run" "_law_run" (defArgs s_l_run) (defBody s_l_run) (defScope s_l_run) .none kV19 dc19 pm19 an19 cd19 ct19), sl19⟩) (c19 : PySem.W.codeIn K cd19 "_law_run" = true) (k19 : PySem.W.keepIn K (.ref f19) = true)
    {od20 an20 : Option Addr} {sl20 : Array (Option Value)} {oc20 kV20 dc20 pm20 cd20 ct20 : Value}
    (a20 : PySem.W.nsIn K mainGlobals "_law_choices" = some (some (.ref f20))) (l20 : K.lookup f20 = some ⟨oc20, od20, .func (PySem.W.fnOf "_law_choices" "_law_choices" (defArgs s_l_choices) (defBody s_l_choices) (defScope s_l_choices) .none kV20 dc20 pm20 an20 cd20 ct20), sl20⟩) (c20 : PySem.W.codeIn K cd20 "_law_choices" = true) (k20 : PySem.W.keepIn K (.ref f20) = true)
    {od21 an21 : Option Addr} {sl21 : Array (Option Value)} {oc21 kV21 dc21 pm21 cd21 ct21 : Value}
    (a21 : PySem.W.nsIn K mainGlobals "_law_awake" = some (some (.ref f21))) (l21 : K.lookup f21 = some ⟨oc21, od21, .func (PySem.W.fnOf "_law_awake" "_law_awake" (defArgs s_l_awake) (defBody s_l_awake) (defScope s_l_awake) .none kV21 dc21 pm21 an21 cd21 ct21), sl21⟩) (c21 : PySem.W.codeIn K cd21 "_law_awake" = true) (k21 : PySem.W.keepIn K (.ref f21) = true)
    {od22 an22 : Option Addr} {sl22 : Array (Option Value)} {oc22 kV22 dc22 pm22 cd22 ct22 : Value}
    (a22 : PySem.W.nsIn K mainGlobals "_law_fault" = some (some (.ref f22))) (l22 : K.lookup f22 = some ⟨oc22, od22, .func (PySem.W.fnOf "_law_fault" "_law_fault" (defArgs s_l_fault) (defBody s_l_fault) (defScope s_l_fault) .none kV22 dc22 pm22 an22 cd22 ct22), sl22⟩) (c22 : PySem.W.codeIn K cd22 "_law_fault" = true) (k22 : PySem.W.keepIn K (.ref f22) = true)
    {od23 an23 : Option Addr} {sl23 : Array (Option Value)} {oc23 kV23 dc23 pm23 cd23 ct23 : Value}
    (a23 : PySem.W.nsIn K mainGlobals "awake" = some (some (.ref f23))) (l23 : K.lookup f23 = some ⟨oc23, od23, .func (PySem.W.fnOf "awake" "awake" (defArgs s_awake) (defBody s_awake) (defScope s_awake) .none kV23 dc23 pm23 an23 cd23 ct23), sl23⟩) (c23 : PySem.W.codeIn K cd23 "awake" = true) (k23 : PySem.W.keepIn K (.ref f23) = true)
    {od24 an24 : Option Addr} {sl24 : Array (Option Value)} {oc24 kV24 dc24 pm24 cd24 ct24 : Value}
    (a24 : PySem.W.nsIn K mainGlobals "clash" = some (some (.ref f24))) (l24 : K.lookup f24 = some ⟨oc24, od24, .func (PySem.W.fnOf "clash" "clash" (defArgs s_clash) (defBody s_clash) (defScope s_clash) .none kV24 dc24 pm24 an24 cd24 ct24), sl24⟩) (c24 : PySem.W.codeIn K cd24 "clash" = true) (k24 : PySem.W.keepIn K (.ref f24) = true)
    {od25 an25 : Option Addr} {sl25 : Array (Option Value)} {oc25 kV25 dc25 pm25 cd25 ct25 : Value}
    (a25 : PySem.W.nsIn K mainGlobals "beside" = some (some (.ref f25))) (l25 : K.lookup f25 = some ⟨oc25, od25, .func (PySem.W.fnOf "beside" "beside" (defArgs s_beside) (defBody s_beside) (defScope s_beside) .none kV25 dc25 pm25 an25 cd25 ct25), sl25⟩) (c25 : PySem.W.codeIn K cd25 "beside" = true) (k25 : PySem.W.keepIn K (.ref f25) = true)
    {od26 an26 : Option Addr} {sl26 : Array (Option Value)} {oc26 kV26 dc26 pm26 cd26 ct26 : Value}
    (a26 : PySem.W.nsIn K mainGlobals "is_gone" = some (some (.ref f26))) (l26 : K.lookup f26 = some ⟨oc26, od26, .func (PySem.W.fnOf "is_gone" "is_gone" (defArgs s_is_gone) (defBody s_is_gone) (defScope s_is_gone) .none kV26 dc26 pm26 an26 cd26 ct26), sl26⟩) (c26 : PySem.W.codeIn K cd26 "is_gone" = true) (k26 : PySem.W.keepIn K (.ref f26) = true)
    {od27 an27 : Option Addr} {sl27 : Array (Option Value)} {oc27 kV27 dc27 pm27 cd27 ct27 : Value}
    (a27 : PySem.W.nsIn K mainGlobals "is_awake" = some (some (.ref f27))) (l27 : K.lookup f27 = some ⟨oc27, od27, .func (PySem.W.fnOf "is_awake" "is_awake" (defArgs s_is_awake) (defBody s_is_awake) (defScope s_is_awake) .none kV27 dc27 pm27 an27 cd27 ct27), sl27⟩) (c27 : PySem.W.codeIn K cd27 "is_awake" = true) (k27 : PySem.W.keepIn K (.ref f27) = true)
    {od28 an28 : Option Addr} {sl28 : Array (Option Value)} {oc28 kV28 dc28 pm28 cd28 ct28 : Value}
    (a28 : PySem.W.nsIn K mainGlobals "fault" = some (some (.ref f28))) (l28 : K.lookup f28 = some ⟨oc28, od28, .func (PySem.W.fnOf "fault" "fault" (defArgs s_fault) (defBody s_fault) (defScope s_fault) .none kV28 dc28 pm28 an28 cd28 ct28), sl28⟩) (c28 : PySem.W.codeIn K cd28 "fault" = true) (k28 : PySem.W.keepIn K (.ref f28) = true)
    {od29 an29 : Option Addr} {sl29 : Array (Option Value)} {oc29 kV29 dc29 pm29 cd29 ct29 : Value}
    (a29 : PySem.W.nsIn K mainGlobals "law" = some (some (.ref f29))) (l29 : K.lookup f29 = some ⟨oc29, od29, .func (PySem.W.fnOf "law" "law" (defArgs s_law) (defBody s_law) (defScope s_law) .none kV29 dc29 pm29 an29 cd29 ct29), sl29⟩) (c29 : PySem.W.codeIn K cd29 "law" = true) (k29 : PySem.W.keepIn K (.ref f29) = true)
    {C25 P25 : Addr} {ce25 : Value} {dd25 : Option Addr} {us25 : Array Value} {ss25 : Array (Option Value)} (q25 : cd25 = .ref C25) (v25 : K.lookup C25 = some ⟨ce25, dd25, .fields us25, ss25⟩) (w25 : us25[11]? = some (.ref P25)) (e25 : PySem.W.codeHdIn [(C25, ⟨ce25, dd25, .fields us25, ss25⟩)] C25 P25 = true) (n25 : K.lookup P25 = none)
    {C26 P26 : Addr} {ce26 : Value} {dd26 : Option Addr} {us26 : Array Value} {ss26 : Array (Option Value)} (q26 : cd26 = .ref C26) (v26 : K.lookup C26 = some ⟨ce26, dd26, .fields us26, ss26⟩) (w26 : us26[11]? = some (.ref P26)) (e26 : PySem.W.codeHdIn [(C26, ⟨ce26, dd26, .fields us26, ss26⟩)] C26 P26 = true) (n26 : K.lookup P26 = none)
    {C27 P27 : Addr} {ce27 : Value} {dd27 : Option Addr} {us27 : Array Value} {ss27 : Array (Option Value)} (q27 : cd27 = .ref C27) (v27 : K.lookup C27 = some ⟨ce27, dd27, .fields us27, ss27⟩) (w27 : us27[11]? = some (.ref P27)) (e27 : PySem.W.codeHdIn [(C27, ⟨ce27, dd27, .fields us27, ss27⟩)] C27 P27 = true) (n27 : K.lookup P27 = none)
    {oL : Obj} {iL : Array Value} {nL : Nat} (aL : PySem.W.nsIn K mainGlobals "LOOKS" = some (some (.ref fL))) (lL : K.lookup fL = some oL) (tL : oL.cls = .type "tuple") (dL : oL.data = .seq iL nL) (zL : iL.size ≤ sizeLine) (vL : Vals [.str "look", .str "change"] iL.toList)
    (z_len : PySem.W.nsIn K mainGlobals "len" = some none)
    (z_range : PySem.W.nsIn K mainGlobals "range" = some none)
    (z_enumerate : PySem.W.nsIn K mainGlobals "enumerate" = some none)
    (z_zip : PySem.W.nsIn K mainGlobals "zip" = some none)
    (z_list : PySem.W.nsIn K mainGlobals "list" = some none)
    (z_tuple : PySem.W.nsIn K mainGlobals "tuple" = some none)
    (z_isinstance : PySem.W.nsIn K mainGlobals "isinstance" = some none)
    (z_all : PySem.W.nsIn K mainGlobals "all" = some none)
    (z_int : PySem.W.nsIn K mainGlobals "int" = some none)
    (z_bool : PySem.W.nsIn K mainGlobals "bool" = some none)
    (z_str : PySem.W.nsIn K mainGlobals "str" = some none)
    (z_sum : PySem.W.nsIn K mainGlobals "sum" = some none)
    (z_reversed : PySem.W.nsIn K mainGlobals "reversed" = some none)
    (z_any : PySem.W.nsIn K mainGlobals "any" = some none)
    : GX.LawX l w K 6 63 "_law_script" ["beside", "is_gone", "is_awake"] mg fa := by
  have e := hfa.symm.trans (PySem.W.mg_of X G a29)
  cases e
  have D1 : Dn K mg "_law_cell_at" s_l_cell_at ["_law_script", "_law_k"] := dn_mk X G a1 l1 c1 k1 fun _ _ _ _ _ _ us hl => match us, hl with | [_, _], _ => rfl
  have D2 : Dn K mg "_law_word" s_l_word ["_law_one", "_law_two", "_law_deep", "_law_draw_here"] := dn_mk X G a2 l2 c2 k2 fun _ _ _ _ _ _ us hl => match us, hl with | [_, _, _, _], _ => rfl
  have D3 : Dn K mg "_law_draw" s_l_draw ["_law_script"] := dn_mk X G a3 l3 c3 k3 fun _ _ _ _ _ _ us hl => match us, hl with | [_], _ => rfl
  have D4 : Dn K mg "_law_thing" s_l_thing ["_law_cell", "_law_base"] := dn_mk X G a4 l4 c4 k4 fun _ _ _ _ _ _ us hl => match us, hl with | [_, _], _ => rfl
  have D5 : Dn K mg "_law_lend" s_l_lend ["_law_one", "_law_two", "_law_named", "_law_draw_here"] := dn_mk X G a5 l5 c5 k5 fun _ _ _ _ _ _ us hl => match us, hl with | [_, _, _, _], _ => rfl
  have D6 : Dn K mg "_law_deed" s_l_deed ["_law_one", "_law_two", "_law_hands_here"] := dn_mk X G a6 l6 c6 k6 fun _ _ _ _ _ _ us hl => match us, hl with | [_, _, _], _ => rfl
  have D7 : Dn K mg "_law_row" s_l_row ["_law_way", "_law_one", "_law_two", "_law_opened", "_law_draw_here"] := dn_mk X G a7 l7 c7 k7 fun _ _ _ _ _ _ us hl => match us, hl with | [_, _, _, _, _], _ => rfl
  have D8 : Dn K mg "_law_hands" s_l_hands ["_law_one", "_law_two", "_law_deep", "_law_draw_here"] := dn_mk X G a8 l8 c8 k8 fun _ _ _ _ _ _ us hl => match us, hl with | [_, _, _, _], _ => rfl
  have D9 : Dn K mg "_law_first_four" s_l_first_four ["_law_way", "_law_one", "_law_two", "_law_names", "_law_thing_here"] := dn_mk X G a9 l9 c9 k9 fun _ _ _ _ _ _ us hl => match us, hl with | [_, _, _, _, _], _ => rfl
  have D10 : Dn K mg "_law_gadget" s_l_gadget ["_law_one", "_law_two", "_law_deep", "_law_draw_here"] := dn_mk X G a10 l10 c10 k10 fun _ _ _ _ _ _ us hl => match us, hl with | [_, _, _, _], _ => rfl
  have D11 : Dn K mg "_law_sheet" s_l_sheet ["_law_cells", "_law_draw_here", "_law_most", "_law_odd"] := dn_mk X G a11 l11 c11 k11 fun _ _ _ _ _ _ us hl => match us, hl with | [_, _, _, _], _ => rfl
  have D12 : Dn K mg "_law_drawn" s_l_drawn ["_law_script", "_law_most"] := dn_mk X G a12 l12 c12 k12 fun _ _ _ _ _ _ us hl => match us, hl with | [_, _], _ => rfl
  have D13 : Dn K mg "_law_homes" s_l_homes ["_law_rows"] := dn_mk X G a13 l13 c13 k13 fun _ _ _ _ _ _ us hl => match us, hl with | [_], _ => rfl
  have D14 : Dn K mg "_law_last" s_l_last ["_law_rows", "_law_home", "_law_at"] := dn_mk X G a14 l14 c14 k14 fun _ _ _ _ _ _ us hl => match us, hl with | [_, _, _], _ => rfl
  have D15 : Dn K mg "_law_starts" s_l_starts ["_law_rows", "_law_home", "_law_at"] := dn_mk X G a15 l15 c15 k15 fun _ _ _ _ _ _ us hl => match us, hl with | [_, _, _], _ => rfl
  have D16 : Dn K mg "_law_lent" s_l_lent ["_law_held", "_law_row_here"] := dn_mk X G a16 l16 c16 k16 fun _ _ _ _ _ _ us hl => match us, hl with | [_, _], _ => rfl
  have D17 : Dn K mg "_law_back" s_l_back ["_law_held", "_law_word_here"] := dn_mk X G a17 l17 c17 k17 fun _ _ _ _ _ _ us hl => match us, hl with | [_, _], _ => rfl
  have D18 : Dn K mg "_law_step" s_l_step ["_law_rows", "_law_home", "_law_standing", "_law_choice"] := dn_mk X G a18 l18 c18 k18 fun _ _ _ _ _ _ us hl => match us, hl with | [_, _, _, _], _ => rfl
  have D19 : Dn K mg "_law_run" s_l_run ["_law_rows", "_law_choices_here"] := dn_mk X G a19 l19 c19 k19 fun _ _ _ _ _ _ us hl => match us, hl with | [_, _], _ => rfl
  have D20 : Dn K mg "_law_choices" s_l_choices ["_law_script"] := dn_mk X G a20 l20 c20 k20 fun _ _ _ _ _ _ us hl => match us, hl with | [_], _ => rfl
  have D21 : Dn K mg "_law_awake" s_l_awake ["_law_held"] := dn_mk X G a21 l21 c21 k21 fun _ _ _ _ _ _ us hl => match us, hl with | [_], _ => rfl
  have D22 : Dn K mg "_law_fault" s_l_fault ["_law_row_here", "_law_held"] := dn_mk X G a22 l22 c22 k22 fun _ _ _ _ _ _ us hl => match us, hl with | [_, _], _ => rfl
  have D23 : Dn K mg "awake" s_awake ["held"] := dn_mk X G a23 l23 c23 k23 fun _ _ _ _ _ _ us hl => match us, hl with | [_], _ => rfl
  have D24 : Dn K mg "clash" s_clash ["one", "other"] := dn_mk X G a24 l24 c24 k24 fun _ _ _ _ _ _ us hl => match us, hl with | [_, _], _ => rfl
  have D25 : DnC K mg "beside" s_beside ["held"] C25 := dnC_mk X G a25 l25 c25 k25 q25 fun _ _ _ _ _ _ us hl => match us, hl with | [_], _ => rfl
  have D26 : DnC K mg "is_gone" s_is_gone ["held", "word"] C26 := dnC_mk X G a26 l26 c26 k26 q26 fun _ _ _ _ _ _ us hl => match us, hl with | [_, _], _ => rfl
  have D27 : DnC K mg "is_awake" s_is_awake ["held", "word"] C27 := dnC_mk X G a27 l27 c27 k27 q27 fun _ _ _ _ _ _ us hl => match us, hl with | [_, _], _ => rfl
  have D28 : Dn K mg "fault" s_fault ["rows", "standing"] := dn_mk X G a28 l28 c28 k28 fun _ _ _ _ _ _ us hl => match us, hl with | [_, _], _ => rfl
  have T : Blt mg := ⟨PySem.W.mg_none_of X G z_len, PySem.W.mg_none_of X G z_range, PySem.W.mg_none_of X G z_enumerate, PySem.W.mg_none_of X G z_zip, PySem.W.mg_none_of X G z_list, PySem.W.mg_none_of X G z_tuple, PySem.W.mg_none_of X G z_isinstance, PySem.W.mg_none_of X G z_all, PySem.W.mg_none_of X G z_int, PySem.W.mg_none_of X G z_bool, PySem.W.mg_none_of X G z_str, PySem.W.mg_none_of X G z_sum, PySem.W.mg_none_of X G z_reversed⟩
  have gL : mg "LOOKS" = some (.ref fL) := PySem.W.mg_of X G aL
  have hL : ∀ H : Hp, SqT K H fL [.str "look", .str "change"] := fun H => .inr ⟨oL, iL, nL, lL, tL, dL, zL, vL⟩
  have hany : mg "any" = none := PySem.W.mg_none_of X G z_any
  have tabs : ∀ p ∈ ([(C25, P25), (C26, P26), (C27, P27)] : List (Addr × Addr)), ∃ d ∈ (["beside", "is_gone", "is_awake"] : List Str), GX.TabOf K mg d p := by
    intro p hp
    simp only [List.mem_cons, List.not_mem_nil, or_false] at hp
    rcases hp with rfl | rfl | rfl
    · exact ⟨"beside", by simp, ⟨f25, _, _, PySem.W.mg_of X G a25, l25, rfl, q25⟩, GX.codeHd_lk v25 e25, n25⟩
    · exact ⟨"is_gone", by simp, ⟨f26, _, _, PySem.W.mg_of X G a26, l26, rfl, q26⟩, GX.codeHd_lk v26 e26, n26⟩
    · exact ⟨"is_awake", by simp, ⟨f27, _, _, PySem.W.mg_of X G a27, l27, rfl, q27⟩, GX.codeHd_lk v27 e27, n27⟩
  refine ⟨PySem.W.fnOf "law" "law" (defArgs s_law) (defBody s_law) (defScope s_law) .none kV29 dc29 pm29 an29 cd29 ct29, [(C25, P25), (C26, P26), (C27, P27)], spLaw K [(C25, P25), (C26, P26), (C27, P27)], tabs, fun s v => .of_eq rfl, fun H a ns hl hb hT hS => ⟨a, ns, rfl, hS, hl, hT, fun H' e => ⟨rfl, e⟩⟩, fun base _ _ TB => ?_⟩
  have TB25 := TB (C25, P25) (by simp)
  have TB26 := TB (C26, P26) (by simp)
  have TB27 := TB (C27, P27) (by simp)
  have F := fun_mk (st := s_law) l29 c29 k29
  have h_cell : Has l.prog w K mg base _ _ _ _ := ok_cell D1 T
  have h_word : Has l.prog w K mg base _ _ _ _ := ok_word D2 T
  have h_draw : Has l.prog w K mg base _ _ _ _ := ok_draw D3 h_cell
  have h_thing : Has l.prog w K mg base _ _ _ _ := ok_thing D4
  have h_lend : Has l.prog w K mg base _ _ _ _ := ok_lend D5 T h_thing h_word
  have h_deed : Has l.prog w K mg base _ _ _ _ := ok_deed D6 T
  have h_row : Has l.prog w K mg base _ _ _ _ := ok_row D7 T h_lend h_thing h_word h_deed
  have h_hands : Has l.prog w K mg base _ _ _ _ := ok_hands D8 h_word
  have h_four : Has l.prog w K mg base _ _ _ _ := ok_four D9
  have h_gadget : Has l.prog w K mg base _ _ _ _ := ok_gadget D10 h_hands h_thing h_four
  have h_sheet : Has l.prog w K mg base _ _ _ _ := ok_sheet D11 T h_gadget h_row
  have h_drawn : Has l.prog w K mg base _ _ _ _ := ok_drawn D12 T h_cell h_sheet h_draw
  have h_lhomes : Has l.prog w K mg base _ _ _ _ := ok_lhomes D13 T
  have h_last : Has l.prog w K mg base _ _ _ _ := ok_last D14 T
  have h_starts : Has l.prog w K mg base _ _ _ _ := ok_starts D15 T
  have h_lent : Has l.prog w K mg base _ _ _ _ := ok_lent D16
  have h_back : Has l.prog w K mg base _ _ _ _ := ok_back D17
  have h_step : Has l.prog w K mg base _ _ _ _ := ok_step D18 T h_lent h_back h_starts h_last
  have h_run : Has l.prog w K mg base _ _ _ _ := ok_run D19 T h_lhomes h_step
  have h_cho : Has l.prog w K mg base _ _ _ _ := ok_cho D20 T
  have h_awake : Has l.prog w K mg base _ _ _ _ := ok_awake D21
  have h_fault : Has l.prog w K mg base _ _ _ _ := ok_fault D22 T h_awake
  have h_pawake1 : Has l.prog w K mg base _ _ _ _ := ok_pawake1 D23
  have h_clash : Has l.prog w K mg base _ _ _ _ := ok_clash D24
  have h_beside : Has l.prog w K mg base _ _ _ _ := ok_beside D25 T hany TB25 h_pawake1 h_clash
  have h_is_gone : Has l.prog w K mg base _ _ _ _ := ok_is_gone D26 hany TB26
  have h_is_awake : Has l.prog w K mg base _ _ _ _ := ok_is_awake D27 hany TB27 h_pawake1
  have h_pfault : Has l.prog w K mg base _ _ _ _ := ok_pfault D28 (c1:=C25) (c2:=C26) (c3:=C27) gL hL h_beside h_is_gone h_is_awake
  exact ok_law F T h_drawn h_run h_cho h_fault h_pfault h_back
end BD
open PySem PySem.W PyProof.Rows
set_option maxHeartbeats 0 in
theorem PySem.Challenge.cw_borrowdesk_k04_what_is_wrong_holds : PySem.Challenge.rw_borrowdesk_k04_what_is_wrong.Holds := by
  w_on; o_law; k_head; (case hw => w_witness2)
  k_fill
  refine GX.walk_ofX (l := PySem.Challenge.rw_borrowdesk_k04_what_is_wrong) (n := 63) (k := 6) (x := "_law_script") (names := ["beside", "is_gone", "is_awake"]) rfl (by decide) rfl ⟨rfl, by decide, by decide⟩ (by decide +kernel) (fun w h Y => PySem.W.kIn_of Y) ?F
  case F =>
    intro w mg fa h KX G hmg
    refine' BD.all_mk KX G hmg ?a1 ?l1 ?c1 ?k1 ?a2 ?l2 ?c2 ?k2 ?a3 ?l3 ?c3 ?k3 ?a4 ?l4 ?c4 ?k4 ?a5 ?l5 ?c5 ?k5 ?a6 ?l6 ?c6 ?k6 ?a7 ?l7 ?c7 ?k7 ?a8 ?l8 ?c8 ?k8 ?a9 ?l9 ?c9 ?k9 ?a10 ?l10 ?c10 ?k10 ?a11 ?l11 ?c11 ?k11 ?a12 ?l12 ?c12 ?k12 ?a13 ?l13 ?c13 ?k13 ?a14 ?l14 ?c14 ?k14 ?a15 ?l15 ?c15 ?k15 ?a16 ?l16 ?c16 ?k16 ?a17 ?l17 ?c17 ?k17 ?a18 ?l18 ?c18 ?k18 ?a19 ?l19 ?c19 ?k19 ?a20 ?l20 ?c20 ?k20 ?a21 ?l21 ?c21 ?k21 ?a22 ?l22 ?c22 ?k22 ?a23 ?l23 ?c23 ?k23 ?a24 ?l24 ?c24 ?k24 ?a25 ?l25 ?c25 ?k25 ?a26 ?l26 ?c26 ?k26 ?a27 ?l27 ?c27 ?k27 ?a28 ?l28 ?c28 ?k28 ?a29 ?l29 ?c29 ?k29 ?q25 ?v25 ?w25 ?e25 ?n25 ?q26 ?v26 ?w26 ?e26 ?n26 ?q27 ?v27 ?w27 ?e27 ?n27 ?aL ?lL ?tL ?dL ?zL ?vL ?z_len ?z_range ?z_enumerate ?z_zip ?z_list ?z_tuple ?z_isinstance ?z_all ?z_int ?z_bool ?z_str ?z_sum ?z_reversed ?z_any
    (case a1 => k_is); (case l1 => k_is); (case c1 => k_is); (case k1 => k_is)
    (case a2 => k_is); (case l2 => k_is); (case c2 => k_is); (case k2 => k_is)
    (case a3 => k_is); (case l3 => k_is); (case c3 => k_is); (case k3 => k_is)
    (case a4 => k_is); (case l4 => k_is); (case c4 => k_is); (case k4 => k_is)
    (case a5 => k_is); (case l5 => k_is); (case c5 => k_is); (case k5 => k_is)
    (case a6 => k_is); (case l6 => k_is); (case c6 => k_is); (case k6 => k_is)
    (case a7 => k_is); (case l7 => k_is); (case c7 => k_is); (case k7 => k_is)
    (case a8 => k_is); (case l8 => k_is); (case c8 => k_is); (case k8 => k_is)
    (case a9 => k_is); (case l9 => k_is); (case c9 => k_is); (case k9 => k_is)
    (case a10 => k_is); (case l10 => k_is); (case c10 => k_is); (case k10 => k_is)
    (case a11 => k_is); (case l11 => k_is); (case c11 => k_is); (case k11 => k_is)
    (case a12 => k_is); (case l12 => k_is); (case c12 => k_is); (case k12 => k_is)
    (case a13 => k_is); (case l13 => k_is); (case c13 => k_is); (case k13 => k_is)
    (case a14 => k_is); (case l14 => k_is); (case c14 => k_is); (case k14 => k_is)
    (case a15 => k_is); (case l15 => k_is); (case c15 => k_is); (case k15 => k_is)
    (case a16 => k_is); (case l16 => k_is); (case c16 => k_is); (case k16 => k_is)
    (case a17 => k_is); (case l17 => k_is); (case c17 => k_is); (case k17 => k_is)
    (case a18 => k_is); (case l18 => k_is); (case c18 => k_is); (case k18 => k_is)
    (case a19 => k_is); (case l19 => k_is); (case c19 => k_is); (case k19 => k_is)
    (case a20 => k_is); (case l20 => k_is); (case c20 => k_is); (case k20 => k_is)
    (case a21 => k_is); (case l21 => k_is); (case c21 => k_is); (case k21 => k_is)
    (case a22 => k_is); (case l22 => k_is); (case c22 => k_is); (case k22 => k_is)
    (case a23 => k_is); (case l23 => k_is); (case c23 => k_is); (case k23 => k_is)
    (case a24 => k_is); (case l24 => k_is); (case c24 => k_is); (case k24 => k_is)
    (case a25 => k_is); (case l25 => k_is); (case c25 => k_is); (case k25 => k_is)
    (case a26 => k_is); (case l26 => k_is); (case c26 => k_is); (case k26 => k_is)
    (case a27 => k_is); (case l27 => k_is); (case c27 => k_is); (case k27 => k_is)
    (case a28 => k_is); (case l28 => k_is); (case c28 => k_is); (case k28 => k_is)
    (case a29 => k_is); (case l29 => k_is); (case c29 => k_is); (case k29 => k_is)
    (case q25 => rfl); (case v25 => k_is); (case w25 => rfl); (case e25 => first | rfl | decide +kernel); (case n25 => first | rfl | decide +kernel | k_is)
    (case q26 => rfl); (case v26 => k_is); (case w26 => rfl); (case e26 => first | rfl | decide +kernel); (case n26 => first | rfl | decide +kernel | k_is)
    (case q27 => rfl); (case v27 => k_is); (case w27 => rfl); (case e27 => first | rfl | decide +kernel); (case n27 => first | rfl | decide +kernel | k_is)
    (case aL => k_is); (case lL => k_is); (case tL => rfl); (case dL => rfl); (case zL => decide); (case vL => exact .cons ⟨_, rfl⟩ (.cons ⟨_, rfl⟩ .nil))
    (case z_len => k_is)
    (case z_range => k_is)
    (case z_enumerate => k_is)
    (case z_zip => k_is)
    (case z_list => k_is)
    (case z_tuple => k_is)
    (case z_isinstance => k_is)
    (case z_all => k_is)
    (case z_int => k_is)
    (case z_bool => k_is)
    (case z_str => k_is)
    (case z_sum => k_is)
    (case z_reversed => k_is)
    (case z_any => k_is)
