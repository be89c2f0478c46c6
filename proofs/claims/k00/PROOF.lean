import PyProof.Rows.All
import Wide.All
import OpenK.AllK
import Wide.FinOn
import HandS.ForMost
import HandS.IsInst
import HandS.Flow
import HandS.Exc
import HandS.TryOnly
import HandS.ExcOwn
import HandS.WordsExc
import KE.KExcInit
import KE.KExcIs
import HandS.ExcInit
import HandS.ExcIs
import HandS.ExcValue
import KE.KExcLine
import KE.RegKIsAll
import PySem.Challenge.RW_stemsure_k00_errors
set_option Elab.async false
set_option linter.all false
set_option maxRecDepth 100000
set_option maxHeartbeats 4000000
/-! my layer: callables by name, heaps -/
namespace My
open PySem PySem.Spec PyProof.Rows L2
/-- the def x of the text stands behind the top -/
def Stands (K : PySem.W.Frag) (mg : Str → Option Value) (x : Str) (st : Stmt) : Prop := ∃ f fd, mg x = some (.ref f) ∧ Fun K x x st f fd
/-- x is a def that keeps the promise sp -/
def Cal (P : Program) (w : World) (K : PySem.W.Frag) (mg : Str → Option Value) (base : Heap) (CX : CXT) (x : Str) (k : Nat) (ps : List Str) (sp : Sp) : Prop :=
  ∃ f fd, mg x = some (.ref f) ∧ PySem.W.keepIn K (.ref f) = true ∧ Binds K fd ps [] ∧ FnOk P w K mg base CX k f fd ps sp ∧ ∃ oc od sl, K.lookup f = some ⟨oc, od, .func fd, sl⟩
section
variable {P : Program} {w : World} {K : PySem.W.Frag} {mg : Str → Option Value} {base : Heap} {CX : CXT} {x : Str} {k j : Nat} {ps N : List Str} {sp sp' : Sp} {st : Stmt}
theorem Cal.mono (C : Cal P w K mg base CX x j ps sp) (h : j ≤ k) : Cal P w K mg base CX x k ps sp := by
  obtain ⟨f, fd, h1, h2, h3, h4, h5⟩ := C
  exact ⟨f, fd, h1, h2, h3, h4.mono h, h5⟩
theorem Cal.imp (C : Cal P w K mg base CX x k ps sp) (h : ∀ vs H Q E, sp' vs H Q E → sp vs H Q E) : Cal P w K mg base CX x k ps sp' := by
  obtain ⟨f, fd, h1, h2, h3, h4, h5⟩ := C
  exact ⟨f, fd, h1, h2, h3, h4.imp h, h5⟩
/-- a def by its body -/
theorem cal0 (S : Stands K mg x st) (sc : FnScope N ps (defScope st))
    (hb : ∀ (kV doc pm : Value) (an : Option Addr) (cdv ct : Value) (us : List Value), us.length = ps.length → bindArgs (PySem.W.fnOf x x (defArgs st) (defBody st) (defScope st) .none kV doc pm an cdv ct) ⟨us, []⟩ = pure (ps.zip us))
    (len : ∀ vs H Q E, sp vs H Q E → vs.length = ps.length)
    (hbody : ∀ (f : Addr) (cdv : Value) (A : Around) (outer : List Env) (s : Shared) (H : Hp) (vs : List V) (Q : VK) (E : XK), Room k (A.deeper (envOfC x (defScope st) s.heap.objs.size f cdv)) → sp vs H Q E →
      ∃ t, PSs (cxOf CX0 P w K mg base N x (defScope st) f cdv A outer s H E).nox (defBody st) t ∧ t { nx := fun _ H' => Q .non H', rt := Q } (start N vs) H) :
    Cal P w K mg base CX0 x (k + 1) ps sp := by
  obtain ⟨f, fd, hm, F⟩ := S
  obtain ⟨oc, od, kV, doc, pm, an, cdv, ct, osl, e1, e2, _⟩ := F.ex
  exact ⟨f, fd, hm, F.kp, F.binds hb, F.ok sc len (fun cdv A outer s H vs Q E => hbody f cdv A outer s H vs Q E), oc, od, osl, e2⟩
end
section
variable {X : Cx} {x : Str} {k : Nat} {ps : List Str} {sp : Sp} {e : Expr} {es : List Expr} {t : TA} {p pos : Pos}
theorem pe_c {j : Nat} (C : Cal X.prog X.w X.K X.mg X.base CX0 x j ps sp) (hr : Room k X.A) (ha : PA X (e :: es) t) (hjk : j ≤ k := by first | decide | omega) (hg : Gl X x := by rfl) (hdb : (x == ("__debug__" : Str)) = false := by decide)
    (he : starEach (e :: es) X.env = (false, eval e X.env) :: starEach es X.env := by rfl) (hpl : (backTo pos (starEach es X.env)).any (·.1) = false := by rfl) :
    PE X (.Call (.Name x p) (e :: es) [] pos) (tCall sp [] E0 t) := by
  obtain ⟨f, fd, h1, h2, h3, h4, _⟩ := C
  exact pe_call h4 (hr.mono hjk) hg h1 h2 h3 .nil pass0 ha hdb he hpl
end
/-- a def of the top, as the fragment tells it -/
theorem stands_mk {K : PySem.W.Frag} {h : Heap} {mg : Str → Option Value} {x : Str} {st : Stmt} {f : Addr} {oc kV doc pm cdv ct : Value} {od an : Option Addr} {osl : Array (Option Value)} (X : K.In h) (G : h.Ns mainGlobals mg) (a : PySem.W.nsIn K mainGlobals x = some (some (.ref f)))
    (l : K.lookup f = some ⟨oc, od, .func (PySem.W.fnOf x x (defArgs st) (defBody st) (defScope st) .none kV doc pm an cdv ct), osl⟩) (c : PySem.W.codeIn K cdv x = true) (k : PySem.W.keepIn K (.ref f) = true) : Stands K mg x st :=
  ⟨f, _, PySem.W.mg_of X G a, fun_mk l c k⟩
/-- the law's def, for the row's end -/
theorem law_end {P : Program} {w : World} {K : PySem.W.Frag} {mg : Str → Option Value} {st : Stmt} {x : Str} {fa : Addr} {k : Nat} {sp : Sp} (S : Stands K mg x st) (hfa : mg x = some (.ref fa))
    (hb : ∀ (kV doc pm : Value) (an : Option Addr) (cdv ct : Value) (u : Value), bindArgs (PySem.W.fnOf x x (defArgs st) (defBody st) (defScope st) .none kV doc pm an cdv ct) ⟨[u], []⟩ = pure [(("script" : Str), u)])
    (c : ∀ base : Heap, K.In base → base.Ns mainGlobals mg → Cal P w K mg base CX0 x k ["script"] sp) :
    ∃ fd : FuncData, (∀ (s : Shared) (u : Value), BindsTo s fd ⟨[u], []⟩ [("script", u)]) ∧ ∀ base : Heap, K.In base → base.Ns mainGlobals mg → FnOk P w K mg base CX0 k fa fd ["script"] sp := by
  obtain ⟨f, fd, hm, F⟩ := S
  have e := hfa.symm.trans hm
  cases e
  obtain ⟨oc, od, kV, doc, pm, an, cdv, ct, osl, e1, e2, _⟩ := F.ex
  refine ⟨fd, fun s u => .of_eq (by rw [e1]; exact hb kV doc pm an cdv ct u), fun base h1 h2 => ?_⟩
  obtain ⟨f', fd', g1, _, _, g4, oc', od', sl', g5⟩ := c base h1 h2
  have e3 := hm.symm.trans g1
  cases e3
  have e4 := e2.symm.trans g5
  cases e4
  exact g4
theorem same_new {H : Hp} {p : Addr} (h : H p = none) (o : HO) : Same H (upd H p o) := fun b u q => by rw [upd_ne (ne_of_none q h)]; exact q
/-- all but what stands at s -/
def off (H : Hp) (s : Addr) : Hp := fun b => if b = s then none else H b
theorem off_ne {H : Hp} {s b : Addr} (h : b ≠ s) : off H s b = H b := if_neg h
theorem off_eq {H : Hp} {s : Addr} : off H s s = none := if_pos rfl
end My
set_option Elab.async false
set_option linter.all false
set_option maxRecDepth 100000
set_option maxHeartbeats 4000000
/-! data of None, bools, ints, texts, tuples and lists, as they stand in the heap -/
namespace My
open PySem PySem.Spec PyProof.Rows L2
/-- what is told of tuples stays -/
def Tp (H H' : Hp) : Prop := ∀ b xs, Rd H b (.tup xs) → Rd H' b (.tup xs)
theorem Tp.refl (H : Hp) : Tp H H := fun _ _ h => h
theorem Tp.trans {H H1 H2 : Hp} (a : Tp H H1) (b : Tp H1 H2) : Tp H H2 := fun c xs h => b c xs (a c xs h)
theorem tp_same {H H' : Hp} (e : Same H H') : Tp H H' := fun b xs h => by
  rcases h with h | ⟨o, h⟩
  · exact .inl (e _ _ h)
  · exact .inr ⟨o, e _ _ h⟩
/-- an object that is no tuple changes -/
theorem tp_upd {H : Hp} {p : Addr} {o u : HO} (h : H p = some u) (h1 : ∀ xs, u ≠ .tup xs) (h2 : ∀ ob xs, u ≠ .frz ob (.tup xs)) : Tp H (upd H p o) := fun b xs r => by
  rcases r with r | ⟨ob, r⟩
  · exact .inl (by rw [upd_ne (fun z => by rw [z, h] at r; exact h1 xs (Option.some.inj r))]; exact r)
  · exact .inr ⟨ob, by rw [upd_ne (fun z => by rw [z, h] at r; exact h2 ob xs (Option.some.inj r))]; exact r⟩
theorem tp_lst {H : Hp} {p : Addr} {o : HO} {ys : List V} (h : H p = some (.lst ys)) : Tp H (upd H p o) := tp_upd h (fun _ z => by cases z) (fun _ _ z => by cases z)
theorem tp_dK {H : Hp} {p : Addr} {o : HO} {ys : List (Key × V)} (h : H p = some (.dK ys)) : Tp H (upd H p o) := tp_upd h (fun _ z => by cases z) (fun _ _ z => by cases z)
theorem tp_new {H : Hp} {p : Addr} {o : HO} (h : H p = none) : Tp H (upd H p o) := tp_same (same_new h o)
/-- all but s is as it was -/
def Fr (s : Addr) (H H' : Hp) : Prop := ∀ b o, b ≠ s → H b = some o → H' b = some o
theorem Fr.refl (s : Addr) (H : Hp) : Fr s H H := fun _ _ _ h => h
theorem Fr.trans {s : Addr} {H H1 H2 : Hp} (a : Fr s H H1) (b : Fr s H1 H2) : Fr s H H2 := fun c o n h => b c o n (a c o n h)
theorem Fr.of {s : Addr} {H H' : Hp} (e : Same H H') : Fr s H H' := fun b o _ h => e b o h
theorem Fr.at_ {s : Addr} {H : Hp} {o : HO} : Fr s H (upd H s o) := fun b u n h => by rw [upd_ne n]; exact h
theorem Fr.tp {s : Addr} {H H' : Hp} {ys : List V} (e : Fr s H H') (h : H s = some (.lst ys)) : Tp H H' := fun b xs r => by
  rcases r with r | ⟨ob, r⟩
  · exact .inl (e b _ (fun z => by rw [z, h] at r; cases r) r)
  · exact .inr ⟨ob, e b _ (fun z => by rw [z, h] at r; cases r) r⟩
theorem sqt_tp {K : PySem.W.Frag} {H H' : Hp} {a : Addr} {xs : List V} (e : Tp H H') (h : SqT K H a xs) : SqT K H' a xs := by
  rcases h with h | h
  · exact .inl (e _ _ h)
  · exact .inr h
mutual
/-- no list, no dict within, no tuple too long -/
def tupd : PyData → Bool
  | .list _ => false
  | .dict _ => false
  | .tuple xs => decide (xs.length ≤ 100000) && tupdAll xs
  | .none => true
  | .bool _ => true
  | .int _ => true
  | .str _ => true
def tupdAll : List PyData → Bool
  | [] => true
  | x :: xs => tupd x && tupdAll xs
end
mutual
/-- no dict within -/
def dat : PyData → Bool
  | .list xs => datAll xs
  | .dict _ => false
  | .tuple xs => datAll xs
  | .none => true
  | .bool _ => true
  | .int _ => true
  | .str _ => true
def datAll : List PyData → Bool
  | [] => true
  | x :: xs => dat x && datAll xs
end
mutual
/-- how deep -/
def dep : PyData → Nat
  | .list xs => depAll xs + 1
  | .tuple xs => depAll xs + 1
  | .none => 0
  | .bool _ => 0
  | .int _ => 0
  | .str _ => 0
  | .dict _ => 0
def depAll : List PyData → Nat
  | [] => 0
  | x :: xs => max (dep x) (depAll xs)
end
theorem depAll_mem : ∀ {xs : List PyData} {x : PyData}, x ∈ xs → dep x ≤ depAll xs
  | y :: ys, x, h => by
    rw [depAll]
    rcases List.mem_cons.mp h with e | e
    · rw [e]
      exact Nat.le_max_left _ _
    · exact Nat.le_trans (depAll_mem e) (Nat.le_max_right _ _)
theorem tupdAll_mem : ∀ {xs : List PyData}, tupdAll xs = true → ∀ x ∈ xs, tupd x = true
  | y :: ys, h, x, hx => by
    rw [tupdAll, Bool.and_eq_true] at h
    rcases List.mem_cons.mp hx with e | e
    · rw [e]
      exact h.1
    · exact tupdAll_mem h.2 x e
theorem tupdAll_of : ∀ {xs : List PyData}, (∀ x ∈ xs, tupd x = true) → tupdAll xs = true
  | [], _ => rfl
  | y :: ys, h => by
    rw [tupdAll, h y List.mem_cons_self, tupdAll_of fun x hx => h x (List.mem_cons_of_mem _ hx)] <;> rfl
theorem tupd_items {xs : List PyData} (h : tupd (.tuple xs) = true) : tupdAll xs = true := by
  rw [tupd, Bool.and_eq_true] at h
  exact h.2
theorem tupd_len {xs : List PyData} (h : tupd (.tuple xs) = true) : xs.length ≤ 100000 := by
  rw [tupd, Bool.and_eq_true] at h
  exact of_decide_eq_true h.1
theorem tupd_of {xs : List PyData} (h : xs.length ≤ 100000) (k : tupdAll xs = true) : tupd (.tuple xs) = true := by
  rw [tupd, k, decide_eq_true h] <;> rfl
section
variable {K : PySem.W.Frag} {H H' : Hp}
mutual
theorem dp_tp (e : Tp H H') : ∀ (d : PyData) (v : V), tupd d = true → Dp K H v d → Dp K H' v d
  | .none, _, _, h => by cases h; exact .non
  | .bool b, _, _, h => by cases h; exact .bl b
  | .int i, _, _, h => by cases h; exact .int i
  | .str x, _, _, h => by cases h; exact .str x
  | .list _, _, t, _ => by cases t
  | .dict _, _, t, _ => by cases t
  | .tuple ds, _, t, h => by
    cases h with
    | tup hs ha => exact .tup (sqt_tp e hs) (dpa_tp e ds _ (tupd_items t) ha)
theorem dpa_tp (e : Tp H H') : ∀ (ds : List PyData) (vs : List V), tupdAll ds = true → DpAll K H vs ds → DpAll K H' vs ds
  | [], _, _, h => by cases h; exact .nil
  | d :: ds, _, t, h => by
    cases h with
    | cons h1 h2 =>
      rw [tupdAll, Bool.and_eq_true] at t
      exact .cons (dp_tp e d _ t.1 h1) (dpa_tp e ds _ t.2 h2)
end
mutual
theorem dp_same (e : Same H H') : ∀ (d : PyData) (v : V), Dp K H v d → Dp K H' v d
  | .none, _, h => by cases h; exact .non
  | .bool b, _, h => by cases h; exact .bl b
  | .int i, _, h => by cases h; exact .int i
  | .str x, _, h => by cases h; exact .str x
  | .dict _, _, h => by cases h
  | .list ds, _, h => by
    cases h with
    | lst hs ha => exact .lst (e.seq hs) (dpa_same e ds _ ha)
  | .tuple ds, _, h => by
    cases h with
    | tup hs ha => exact .tup (sqt_tp (tp_same e) hs) (dpa_same e ds _ ha)
theorem dpa_same (e : Same H H') : ∀ (ds : List PyData) (vs : List V), DpAll K H vs ds → DpAll K H' vs ds
  | [], _, h => by cases h; exact .nil
  | d :: ds, _, h => by
    cases h with
    | cons h1 h2 => exact .cons (dp_same e d _ h1) (dpa_same e ds _ h2)
end
theorem dpa_len : ∀ {ds : List PyData} {vs : List V}, DpAll K H vs ds → vs.length = ds.length
  | [], _, h => by cases h; rfl
  | d :: ds, _, h => by
    cases h with
    | cons h1 h2 => rw [List.length_cons, List.length_cons, dpa_len h2]
theorem dpa_get : ∀ {ds : List PyData} {vs : List V} {i : Nat} {d : PyData}, DpAll K H vs ds → ds[i]? = some d → ∃ v, vs[i]? = some v ∧ Dp K H v d
  | [], _, i, d, h, e => by simp at e
  | d :: ds, _, 0, d', h, e => by
    cases h with
    | cons h1 h2 =>
      cases Option.some.inj e
      exact ⟨_, rfl, h1⟩
  | d :: ds, _, i + 1, d', h, e => by
    cases h with
    | cons h1 h2 =>
      obtain ⟨v, q1, q2⟩ := dpa_get (i := i) (d := d') h2 (by simpa using e)
      exact ⟨v, by simpa using q1, q2⟩
theorem dpa_getv : ∀ {ds : List PyData} {vs : List V} {i : Nat} {v : V}, DpAll K H vs ds → vs[i]? = some v → ∃ d, ds[i]? = some d ∧ Dp K H v d
  | ds, _, i, v, h, e => by
    have hi : i < ds.length := by
      rw [← dpa_len h]
      exact (List.getElem?_eq_some_iff.mp e).1
    obtain ⟨u, q1, q2⟩ := dpa_get (i := i) (d := ds[i]) h (List.getElem?_eq_getElem hi)
    rw [q1] at e
    cases e
    exact ⟨ds[i], List.getElem?_eq_getElem hi, q2⟩
theorem dpa_app : ∀ {ds es : List PyData} {vs ws : List V}, DpAll K H vs ds → DpAll K H ws es → DpAll K H (vs ++ ws) (ds ++ es)
  | [], _, _, _, h, k => by cases h; exact k
  | d :: ds, _, _, _, h, k => by
    cases h with
    | cons h1 h2 => exact .cons h1 (dpa_app h2 k)
/-- the name of its class -/
def tyn : PyData → String
  | .none => "NoneType"
  | .bool _ => "bool"
  | .int _ => "int"
  | .str _ => "str"
  | .list _ => "list"
  | .tuple _ => "tuple"
  | .dict _ => "dict"
theorem tyD {v : V} {d : PyData} (h : Dp K H v d) : TyX K H v (.type (tyn d)) := by
  cases h with
  | non => exact .base .non
  | bl b => exact .base (.bl b)
  | int i => exact .base (.int i)
  | str x => exact .base (.str x)
  | lst hs _ =>
    rcases hs with (h | ⟨o, h⟩) | ⟨o, its, n, h, c, _⟩
    · exact .base (.lst h)
    · exact .base (.frz h)
    · exact .kList h c
  | tup hs _ =>
    rcases hs with (h | ⟨o, h⟩) | ⟨o, its, n, h, c, _⟩
    · exact .base (.tup h)
    · exact .fTuple h
    · exact .kTuple h c
end
section
variable {K : PySem.W.Frag} {H : Hp} {σ : L2.St} {D : Ends} {v : V} {d : PyData} {b : Bool} {i : Nat} {c : TT} {t u r : TS} {te : TE}
/-- isinstance(x, T) of data -/
theorem e_isi (K : PySem.W.Frag) (T : String) {Q : VK} (hv : σ[i]? = some (some v)) (h : Dp K H v d) (hb : kitB (tyn d) T = some b) (q : Q (.bl b) H) : tCB (rIsi K) (tCons (tVar i) (tCons (tC (.ty T)) tNil)) σ H Q :=
  ⟨v, hv, v, .ty T, _, _, b, rfl, .ty T, tyD h, kit_ty hb, q⟩
theorem r_isi (K : PySem.W.Frag) (T : String) {Q : Bool → Hp → Prop} (hv : σ[i]? = some (some v)) (h : Dp K H v d) (hb : kitB (tyn d) T = some b) (q : Q b H) : tB (tCB (rIsi K) (tCons (tVar i) (tCons (tC (.ty T)) tNil))) σ H Q :=
  e_isi K T hv h hb ⟨b, rfl, q⟩
theorem r_if (h : c σ H fun b H1 => if b = true then t { D with nx := r D } σ H1 else u { D with nx := r D } σ H1) : tSeq (tIfS c t u) r D σ H := h
theorem r_ifN (h : c σ H fun b H1 => if b = true then t { D with nx := r D } σ H1 else r D σ H1) : tSeq (tIfS c t tNext) r D σ H := h
theorem r_if1N (h : c σ H fun b H1 => if b = true then t D σ H1 else D.nx σ H1) : tIfS c t tNext D σ H := h
theorem r_if1 (h : c σ H fun b H1 => if b = true then t D σ H1 else u D σ H1) : tIfS c t u D σ H := h
theorem r_set (h : te σ H fun x H1 => r D (σ.set i (some x)) H1) : tSeq (tAsg te (gName i)) r D σ H := h
theorem r_set1 (h : te σ H fun x H1 => D.nx (σ.set i (some x)) H1) : tAsg te (gName i) D σ H := h
theorem a_nil {Q : List V → Hp → Prop} (h : Q [] H) : tNil σ H Q := h
theorem a_cons {ta : TE} {tr : TA} {Q : List V → Hp → Prop} (h : ta σ H fun x H1 => tr σ H1 fun xs H2 => Q (x :: xs) H2) : tCons ta tr σ H Q := h
theorem e_lst {ta : TA} {Q : VK} (h : ta σ H fun xs H1 => xs.length ≤ sizeLine ∧ ∀ p, H1 p = none → Q (.ref p) (upd H1 p (.lst xs))) : tLst ta σ H Q := h
theorem e_tup {ta : TA} {Q : VK} (h : ta σ H fun xs H1 => xs.length ≤ sizeLine ∧ ∀ p, H1 p = none → Q (.ref p) (upd H1 p (.tup xs))) : tTup ta σ H Q := h
theorem e_op {o : R2} {ta tb : TE} {Q : VK} (h : ta σ H fun x H1 => tb σ H1 fun y H2 => o x y H2 Q) : tOp o ta tb σ H Q := h
theorem e_un {o : V → Hp → VK → Prop} {ta : TE} {Q : VK} (h : ta σ H fun x H1 => o x H1 Q) : tUn o ta σ H Q := h
theorem e_var {Q : VK} (hv : σ[i]? = some (some v)) (q : Q v H) : tVar i σ H Q := ⟨v, hv, q⟩
theorem e_c {Q : VK} (q : Q v H) : tC v σ H Q := q
theorem e_cb {o : List V → Hp → VK → Prop} {ta : TA} {Q : VK} (h : ta σ H fun vs H1 => o vs H1 Q) : tCB o ta σ H Q := h
theorem e_call {sp : Sp} {E : XK} {ta : TA} {Q : VK} (h : ta σ H fun vs H1 => sp (vs ++ []) H1 Q E) : tCall sp [] E ta σ H Q := h
theorem e_if {ta tb : TE} {Q : VK} (h : c σ H fun b H1 => if b = true then ta σ H1 Q else tb σ H1 Q) : tIf c ta tb σ H Q := h
theorem r_test {ta : TE} {Q : Bool → Hp → Prop} (h : ta σ H fun x H' => ∃ k, x = .bl k ∧ Q k H') : tTest ta σ H Q := h
theorem r_b {ta : TE} {Q : Bool → Hp → Prop} (h : ta σ H fun x H' => ∃ k, x = .bl k ∧ Q k H') : tB ta σ H Q := h
theorem r_seq (h : t { D with nx := r D } σ H) : tSeq t r D σ H := h
/-- what a loop over J asks -/
def LoopJ (J : It) (g : TG) (tb : TS) (D : Ends) (σ : L2.St) (H : Hp) : Prop := ∃ W : Nat → Nat → L2.St → Hp → Prop, (∃ m, W 0 m σ H) ∧ ∀ i m σ H, W i m σ H →
  (J.stop i H ∧ D.nx σ H) ∨ (J.go i H ∧ ∃ N : L2.St → Hp → Prop, (∀ σ' H', N σ' H' → ∃ m', m' < m ∧ W (i + 1) m' σ' H') ∧ ∀ x H', J.yld i H x H' → g x σ H' fun σ2 H2 => tb { D with nx := N, ct := N, bk := D.nx } σ2 H2)
theorem r_forL {tl : TE} {g : TG} {tb : TS} (h : tl σ H fun x H1 => ∃ a, x = .ref a ∧ (∃ xs, SqL K H1 a xs) ∧ LoopJ (Itl K a) g tb { D with nx := r D } σ H1) : tSeq (tFor (iList K tl) g tb) r D σ H := h
theorem r_forT {tl : TE} {g : TG} {tb : TS} (h : tl σ H fun x H1 => ∃ a, x = .ref a ∧ (∃ xs, SqT K H1 a xs) ∧ LoopJ (Itt K a) g tb { D with nx := r D } σ H1) : tSeq (tFor (iTup K tl) g tb) r D σ H := h
theorem r_forR1 {ta : TA} {g : TG} {tb : TS} (h : ta σ H fun vs H1 => ∃ j : Int, vs = [.int j] ∧ -(2 ^ 62) ≤ j ∧ j < 2 ^ 62 ∧ LoopJ (Itr 0 j.toNat) g tb { D with nx := r D } σ H1) : tSeq (tFor (iRng1 ta) g tb) r D σ H := h
theorem r_forR2 {ta : TA} {g : TG} {tb : TS} (h : ta σ H fun vs H1 => ∃ i j : Int, vs = [.int i, .int j] ∧ (-(2 ^ 62) ≤ i ∧ i < 2 ^ 62 ∧ -(2 ^ 62) ≤ j ∧ j < 2 ^ 62) ∧ LoopJ (Itr i (j - i).toNat) g tb { D with nx := r D } σ H1) : tSeq (tFor (iRng2 ta) g tb) r D σ H := h
theorem r_forS {te : TE} {g : TG} {tb : TS} (h : te σ H fun v H1 => ∃ x, v = .str x ∧ LoopJ (Its x) g tb { D with nx := r D } σ H1) : tSeq (tFor (iStr te) g tb) r D σ H := h
theorem r_nx {nx bk ct : L2.St → Hp → Prop} {rt : VK} (h : nx σ H) : Ends.nx { nx := nx, rt := rt, bk := bk, ct := ct } σ H := h
theorem r_yes {Q : Bool → Hp → Prop} (h : Q true H) : tYes σ H Q := h
theorem r_ret (h : te σ H D.rt) : tRet te D σ H := h
theorem r_drop (h : te σ H fun _ H1 => r D σ H1) : tSeq (tDrop te) r D σ H := h
theorem r_and {c1 c2 : TT} {Q : Bool → Hp → Prop} (h : c1 σ H fun b H1 => if b = true then c2 σ H1 Q else Q false H1) : tAnd c1 c2 σ H Q := h
theorem r_or {c1 c2 : TT} {Q : Bool → Hp → Prop} (h : c1 σ H fun b H1 => if b = true then Q true H1 else c2 σ H1 Q) : tOr c1 c2 σ H Q := h
theorem r_not {c1 : TT} {Q : Bool → Hp → Prop} (h : c1 σ H fun b H1 => Q (!b) H1) : tNot c1 σ H Q := h
theorem r_andV {ta tb : TE} {Q : VK} (h : ta σ H fun x H1 => ∃ c, x = .bl c ∧ if c = true then tb σ H1 Q else Q (.bl false) H1) : tAndV ta tb σ H Q := h
theorem r_orV {ta tb : TE} {Q : VK} (h : ta σ H fun x H1 => ∃ c, x = .bl c ∧ if c = true then Q (.bl true) H1 else tb σ H1 Q) : tOrV ta tb σ H Q := h
theorem r_notV {ta : TE} {Q : VK} (h : ta σ H fun x H1 => ∃ c, x = .bl c ∧ Q (.bl (!c)) H1) : tNotV ta σ H Q := h
end
theorem kb_NoneType_bool : kitB "NoneType" "bool" = some false := by decide +kernel
theorem kb_NoneType_int : kitB "NoneType" "int" = some false := by decide +kernel
theorem kb_NoneType_str : kitB "NoneType" "str" = some false := by decide +kernel
theorem kb_NoneType_tuple : kitB "NoneType" "tuple" = some false := by decide +kernel
theorem kb_NoneType_list : kitB "NoneType" "list" = some false := by decide +kernel
theorem kb_bool_bool : kitB "bool" "bool" = some true := by decide +kernel
theorem kb_bool_int : kitB "bool" "int" = some true := by decide +kernel
theorem kb_bool_str : kitB "bool" "str" = some false := by decide +kernel
theorem kb_bool_tuple : kitB "bool" "tuple" = some false := by decide +kernel
theorem kb_bool_list : kitB "bool" "list" = some false := by decide +kernel
theorem kb_int_bool : kitB "int" "bool" = some false := by decide +kernel
theorem kb_int_int : kitB "int" "int" = some true := by decide +kernel
theorem kb_int_str : kitB "int" "str" = some false := by decide +kernel
theorem kb_int_tuple : kitB "int" "tuple" = some false := by decide +kernel
theorem kb_int_list : kitB "int" "list" = some false := by decide +kernel
theorem kb_str_bool : kitB "str" "bool" = some false := by decide +kernel
theorem kb_str_int : kitB "str" "int" = some false := by decide +kernel
theorem kb_str_str : kitB "str" "str" = some true := by decide +kernel
theorem kb_str_tuple : kitB "str" "tuple" = some false := by decide +kernel
theorem kb_str_list : kitB "str" "list" = some false := by decide +kernel
theorem kb_list_bool : kitB "list" "bool" = some false := by decide +kernel
theorem kb_list_int : kitB "list" "int" = some false := by decide +kernel
theorem kb_list_str : kitB "list" "str" = some false := by decide +kernel
theorem kb_list_tuple : kitB "list" "tuple" = some false := by decide +kernel
theorem kb_list_list : kitB "list" "list" = some true := by decide +kernel
theorem kb_tuple_bool : kitB "tuple" "bool" = some false := by decide +kernel
theorem kb_tuple_int : kitB "tuple" "int" = some false := by decide +kernel
theorem kb_tuple_str : kitB "tuple" "str" = some false := by decide +kernel
theorem kb_tuple_tuple : kitB "tuple" "tuple" = some true := by decide +kernel
theorem kb_tuple_list : kitB "tuple" "list" = some false := by decide +kernel
end My
set_option Elab.async false
set_option linter.all false
set_option maxRecDepth 100000
set_option maxHeartbeats 4000000
/-! own exception classes over Exception whose __init__ stores its one argument in a field -/
namespace PySem
namespace MyX
open PySem.W PySem.Calls PyProof.Rows PySem.HandSPX
abbrev exT : List Value := [.type "Exception", .type "BaseException", .type "object"]
theorem one_sz (v : Value) : [v].length ≤ sizeLine := by
  rw [sizeLine_eq]
  exact (by decide : 1 ≤ 16777216)
theorem kept_x {K : Frag} {h h' : Heap} {x : Addr} (X : K.In h) (hx : K.lookup x = none) (k : ∀ b o, b ≠ x → h.get? b = some o → h'.get? b = some o) : K.In h' := fun a o e =>
  k a o (fun z => by rw [z, hx] at e; cases e) (X a o e)
theorem ldF {M : Model} {s : Shared} {name : Str} {scope : Scope} {L a : Addr} {cd : Value} {m : Str → Option Value} {x : Str} {pos : Pos} {v : Value} {Q : Value → Shared → Prop} {A : Around} {E : Value → Shared → Prop} (hn : s.heap.Ns L m) (hv : m x = some v) (h : Q v s)
    (hk : scope.kind = .function := by rfl) (hl : (envOfC name scope L a cd).kindOf x = some .local := by rfl) (hd : (x == ("__debug__" : Str)) = false := by decide) :
    wpAny M A (eval (.Name x pos) (envOfC name scope L a cd)) Q E s := wpAny_Name (wpAny_loadName_local hk hl hn hv h) hd
/-- the first store into an exception: its dict is made -/
theorem osaX {prog : Program} {w : World} {A : Around} {R : Result → Shared → Prop} {hp : Heap} {g : Array GenState} {d : Drawn} {t : Nat} {os : OsState} {K : W.Frag} {name : Str} {tk : Tok} {v : Value} {x C : Addr} {fv : Array Value}
    (X : K.In hp) (hx : hp.get? x = some { cls := .ref C, data := .fields fv }) (ov : excOver K C exT = true) (hd : hasDictIn K C = true) (tn : takerIn K C name = some none)
    (hq : ∀ h' tk' dx, (∀ b o, b ≠ x → hp.get? b = some o → h'.get? b = some o) → hp.objs.size ≤ dx → dx ≠ x → h'.get? x = some { cls := .ref C, dict := some dx, data := .fields fv } →
      h'.Ns1 dx (fun y => if y = name then some v else none) → R (.ok (.ret .none)) ⟨h', g, d, tk', os⟩) :
    codeAny (model prog w) A (.call (.builtin "object.__setattr__") ⟨[.ref x, .str name tk, v], []⟩) R ⟨hp, g, d, t, os⟩ := by
  have hxs : x ≠ hp.objs.size := Nat.ne_of_lt (Heap.lt_size hx)
  refine osa_openX (s := ⟨hp, g, d, t, os⟩) (od := none) PySem.F.store_Exception X ⟨hx, rfl, rfl, trivial⟩ ov tn fun b => ?_
  obtain ⟨cd, hc, hd2⟩ := any_some hd
  have hcls : W.Looks (model prog w) hp (classData C) cd := W.looks_clsIn X hc
  obtain ⟨nm, bs, mro, ns, qn, hdd, sn, sb, ab, col, del⟩ := cd
  dsimp only at hd2
  subst hd2
  show wpAny _ _ (Builtin.ObjectAttr.storeInOwnDict (.ref x) (.ref C) (.str name tk) name v b) _ _ _
  unfold Builtin.ObjectAttr.storeInOwnDict
  unfold Builtin.ObjectAttr.ownDictForStores
  repeat (first | with_reducible refine store_in_new ?_ ?_ | with_reducible refine wpAny_loadPart_at hx ?_ | with_reducible refine hcls.at ?_ | wp_step)
  · exact ⟨_, #[], _, (Heap.get?_update_ne _ _ _ _ (Ne.symm hxs)).trans (Heap.get?_push_at rfl rfl), rfl, fun e he => absurd he (by simp), fun _ => rfl⟩
  · intro h' tk' hn' hs
    have h1 : (hp.push { cls := .type "dict", data := .dict #[] }).get? x = some { cls := .ref C, data := .fields fv } := Heap.get?_push_of_some _ hx
    refine hq h' tk' hp.objs.size (fun c o hb ho => ?_) (Nat.le_refl _) (Ne.symm hxs) ?_ hn'
    · refine (hs.2 c (Nat.ne_of_lt (Heap.lt_size ho))).trans ?_
      exact (Heap.get?_update_ne _ _ _ _ hb).trans (Heap.get?_push_of_some _ ho)
    · exact (hs.2 x hxs).trans (Heap.get?_update_self _ h1 rfl)
/-- what the written part says of an exception class at C -/
structure ExcT (K : Frag) (C : Addr) : Prop where
  cls : ∃ nm q N bs bm sn sub ab col dd k0 k1 k2 k3 k5, K.lookup C = some (excClassObj nm q C N bs bm true sn sub ab col dd k0 k1 k2 k3 k5 "Exception.__new__") ∧ excTail exT bm = true
  ov : excOver K C exT = true
  sa : findIn K (.ref C) "__setattr__" = some (some (.builtin "object.__setattr__"))
  ga : findIn K (.ref C) "__getattribute__" = some (some (.builtin "BaseException.__getattribute__"))
  gg : findIn K (.ref C) "__getattr__" = some none
  kC : keepIn K (.ref C) = true
  exC : subIn K (.ref C) (.type "BaseException") = some true
  tyC : typeIn K (.ref C) = some (.type "type")
  hdC : hasDictIn K C = true
  ca : findIn K (.ref C) "__class__" = some (some (.builtin "object.__class__"))
  cn : specialIn K (.builtin "object.__class__") "__get__" = some (some (.builtin "getset_descriptor.__get__"))
  ct : takesIn K (.builtin "object.__class__") = some true
  cm : mroIn K C (.type "object") = some true
/-- what __init__ leaves of a fresh exception at x -/
structure InitE (h h' : Heap) (x C dx t1 : Addr) (f : Str) (v : Value) : Prop where
  keep : ∀ b o, b ≠ x → h.get? b = some o → h'.get? b = some o
  obj : h'.get? x = some { cls := .ref C, dict := some dx, data := .fields #[.ref t1, .none, .none, .none, .bool false, .none] }
  dbig : h.objs.size ≤ dx
  dne : dx ≠ x
  ns : h'.Ns1 dx (fun y => if y = f then some v else none)
/-- a made one -/
structure MadeE (h h' : Heap) (e C d : Addr) (f : Str) (v : Value) : Prop where
  keep : ∀ b o, h.get? b = some o → h'.get? b = some o
  new : h.objs.size ≤ e
  obj : ∃ t1 : Addr, h'.get? e = some { cls := .ref C, dict := some d, data := .fields #[.ref t1, .none, .none, .none, .bool false, .none] }
  dbig : h.objs.size ≤ d
  dne : d ≠ e
  ns : h'.Ns1 d (fun y => if y = f then some v else none)
/-- the class at C, called by its name with one argument, makes an exception whose field f holds it -/
def Makes (prog : Program) (w : World) (K : Frag) (C : Addr) (f : Str) : Prop :=
  ∀ (A : Around) (R : Result → Shared → Prop) (s : Shared) (v : Value), K.In s.heap → s.heap.NoLimit → A.depth + 1 < recursionLimit →
    (∀ h' tk e d, MadeE s.heap h' e C d f v → R (.ok (.ret (.ref e))) { s with heap := h', toks := tk }) → codeAny (model prog w) A (.call (.ref C) ⟨[v], []⟩) R s
namespace XAt
def iA (p1 p2 : Pos) : Arguments := { posonlyargs := [], args := [{ arg := "self", annotation := none, pos := p1 }, { arg := "at", annotation := none, pos := p2 }], vararg := none, kwonlyargs := [], kw_defaults := [], kwarg := none, defaults := [] }
def iB (q1 q2 q3 q4 : Pos) : List Stmt := [.Assign [.Attribute (.Name "self" q1) "at" q2] (.Name "at" q3) q4]
def iS : Scope := { kind := .function, names := [(PySem.Str.ofString "self", .local), (PySem.Str.ofString "at", .local)], isGenerator := false, isCoroutine := false, more := [] }
/-- its __init__ at fI, which stores the argument in at -/
structure InitT (K : Frag) (C fI : Addr) (qual : Str) : Prop where
  noN : findIn K (.ref C) "at" = some none
  iC : findIn K (.ref C) "__init__" = some (some (.ref fI))
  tC : typeIn K (.ref fI) = some (.type "function")
  fn : ∃ (oc : Value) (od : Option Addr) (doc pm : Value) (an : Option Addr) (cdv ct : Value) (osl : Array (Option Value)) (p1 p2 q1 q2 q3 q4 : Pos),
    K.lookup fI = some ⟨oc, od, .func (fnOf "__init__" qual (iA p1 p2) (iB q1 q2 q3 q4) iS .none .none doc pm an cdv ct), osl⟩ ∧ codeIn K cdv qual = true
section
variable {prog : Program} {w : World} {A : Around} {E : Value → Shared → Prop} {R : Result → Shared → Prop} {s : Shared} {K : Frag} {C fI : Addr} {qual : Str}
theorem init_ok (T : ExcT K C) (U : InitT K C fI qual) {x t0 : Addr} {v : Value} (X : K.In s.heap) (hlim : s.heap.NoLimit) (hx : s.heap.get? x = some (excO C t0)) (hroom : A.depth < recursionLimit)
    (hq : ∀ h' tk dx, InitE s.heap h' x C dx t0 "at" v → R (.ok (.ret .none)) { s with heap := h', toks := tk }) :
    codeAny (model prog w) A (.call (.ref fI) ⟨[.ref x, v], []⟩) R s := by
  obtain ⟨oc, od, doc, pm, an, cdv, ct, osl, p1, p2, q1, q2, q3, q4, ho, hcd⟩ := U.fn
  refine Att.call_fn (binds := [("self", .ref x), ("at", v)]) X hlim ho hcd hroom (BindsTo.of_eq (by first | rfl | with_unfolding_all rfl)) (by first | rfl | decide | with_unfolding_all rfl) (fun s₁ IC => ?_) rfl rfl rfl
  obtain ⟨h₁, tk₁, rfl⟩ := IC.toInCall.same
  have k : ∀ b o, s.heap.get? b = some o → h₁.get? b = some o := IC.toInCall.keep
  have hn := IC.toInCall.ns
  have X₁ : K.In h₁ := X.keeps k
  have hx₁ := k _ _ hx
  show wpAny _ _ (execs _ _) _ _ _
  refine wpAny_execs_cons (plainObj_wpAny_Assign_Attribute ?_)
  refine ldF (v := v) hn (by first | rfl | with_unfolding_all rfl | kernel_rfl) (ldF (v := .ref x) hn (by first | rfl | with_unfolding_all rfl | kernel_rfl) ?_)
  refine set_plain X₁ (ox := excO C t0) (od := none) ⟨hx₁, rfl, rfl, trivial⟩ T.sa ?_
  refine osaX X₁ hx₁ T.ov T.hdC (by unfold takerIn; rw [U.noN] <;> rfl) (fun h₃ tk₃ dx k₃ dn dne hx₃ hn₃ => ?_)
  show wpAny _ _ (execs _ _) _ _ _
  have z : s.heap.objs.size < h₁.objs.size := hn.lt
  exact wpAny_execs_nil (hq h₃ tk₃ dx ⟨fun b o hb e => k₃ b o hb (k b o e), hx₃, Nat.le_of_lt (Nat.lt_of_lt_of_le z dn), dne, hn₃⟩)
theorem makes (T : ExcT K C) (U : InitT K C fI qual) : Makes prog w K C "at" := by
  intro A R s v X hlim hroom hq
  obtain ⟨nm, q, N, bs, bm, sn, sub, ab, col, dd, k0, k1, k2, k3, k5, hC, hbm⟩ := T.cls
  obtain ⟨hp, g, dr, tk, os⟩ := s
  have k : ∀ b o, hp.get? b = some o → ((hp.push (kdv_tup [v])).push (excO C hp.objs.size)).get? b = some o := fun b o e => Heap.get?_push_of_some _ (Heap.get?_push_of_some _ e)
  have hget : ((hp.push (kdv_tup [v])).push (excO C hp.objs.size)).get? (hp.objs.size + 1) = some (excO C hp.objs.size) := by heap_get
  refine call_own PySem.F.excBase_Exception (fun X => excTail_contains X bm hbm) (X _ _ hC) (looks_findIn X U.iC) (fun self => bind_fn X self U.tC) (one_sz v) ?_
  refine init_ok (s := ⟨(hp.push (kdv_tup [v])).push (excO C hp.objs.size), g, dr, tk, os⟩) T U (X.keeps k) (hlim.keeps k) hget ?_ fun h' tk' dx ⟨k', hx, dn, dne, hns⟩ => ?_
  · show A.depth + 1 < recursionLimit
    exact hroom
  · have old : ∀ b o, hp.get? b = some o → h'.get? b = some o := fun b o e => k' b o (Nat.ne_of_lt (Nat.lt_succ_of_lt (Heap.lt_size e))) (k b o e)
    have z : hp.objs.size + 1 + 1 ≤ dx := by
      first
        | (simpa only [Heap.size_push] using dn)
        | exact dn
        | (have q := dn; rw [Heap.size_push, Heap.size_push] at q; exact q)
    exact ⟨rfl, hq h' tk' (hp.objs.size + 1) dx ⟨old, Nat.le_succ _, ⟨_, hx⟩, Nat.le_trans (Nat.le_trans (Nat.le_succ _) (Nat.le_succ _)) z, dne, hns⟩⟩
end
end XAt
namespace XWord
def iA (p1 p2 : Pos) : Arguments := { posonlyargs := [], args := [{ arg := "self", annotation := none, pos := p1 }, { arg := "word", annotation := none, pos := p2 }], vararg := none, kwonlyargs := [], kw_defaults := [], kwarg := none, defaults := [] }
def iB (q1 q2 q3 q4 : Pos) : List Stmt := [.Assign [.Attribute (.Name "self" q1) "word" q2] (.Name "word" q3) q4]
def iS : Scope := { kind := .function, names := [(PySem.Str.ofString "self", .local), (PySem.Str.ofString "word", .local)], isGenerator := false, isCoroutine := false, more := [] }
/-- its __init__ at fI, which stores the argument in word -/
structure InitT (K : Frag) (C fI : Addr) (qual : Str) : Prop where
  noN : findIn K (.ref C) "word" = some none
  iC : findIn K (.ref C) "__init__" = some (some (.ref fI))
  tC : typeIn K (.ref fI) = some (.type "function")
  fn : ∃ (oc : Value) (od : Option Addr) (doc pm : Value) (an : Option Addr) (cdv ct : Value) (osl : Array (Option Value)) (p1 p2 q1 q2 q3 q4 : Pos),
    K.lookup fI = some ⟨oc, od, .func (fnOf "__init__" qual (iA p1 p2) (iB q1 q2 q3 q4) iS .none .none doc pm an cdv ct), osl⟩ ∧ codeIn K cdv qual = true
section
variable {prog : Program} {w : World} {A : Around} {E : Value → Shared → Prop} {R : Result → Shared → Prop} {s : Shared} {K : Frag} {C fI : Addr} {qual : Str}
theorem init_ok (T : ExcT K C) (U : InitT K C fI qual) {x t0 : Addr} {v : Value} (X : K.In s.heap) (hlim : s.heap.NoLimit) (hx : s.heap.get? x = some (excO C t0)) (hroom : A.depth < recursionLimit)
    (hq : ∀ h' tk dx, InitE s.heap h' x C dx t0 "word" v → R (.ok (.ret .none)) { s with heap := h', toks := tk }) :
    codeAny (model prog w) A (.call (.ref fI) ⟨[.ref x, v], []⟩) R s := by
  obtain ⟨oc, od, doc, pm, an, cdv, ct, osl, p1, p2, q1, q2, q3, q4, ho, hcd⟩ := U.fn
  refine Att.call_fn (binds := [("self", .ref x), ("word", v)]) X hlim ho hcd hroom (BindsTo.of_eq (by first | rfl | with_unfolding_all rfl)) (by first | rfl | decide | with_unfolding_all rfl) (fun s₁ IC => ?_) rfl rfl rfl
  obtain ⟨h₁, tk₁, rfl⟩ := IC.toInCall.same
  have k : ∀ b o, s.heap.get? b = some o → h₁.get? b = some o := IC.toInCall.keep
  have hn := IC.toInCall.ns
  have X₁ : K.In h₁ := X.keeps k
  have hx₁ := k _ _ hx
  show wpAny _ _ (execs _ _) _ _ _
  refine wpAny_execs_cons (plainObj_wpAny_Assign_Attribute ?_)
  refine ldF (v := v) hn (by first | rfl | with_unfolding_all rfl | kernel_rfl) (ldF (v := .ref x) hn (by first | rfl | with_unfolding_all rfl | kernel_rfl) ?_)
  refine set_plain X₁ (ox := excO C t0) (od := none) ⟨hx₁, rfl, rfl, trivial⟩ T.sa ?_
  refine osaX X₁ hx₁ T.ov T.hdC (by unfold takerIn; rw [U.noN] <;> rfl) (fun h₃ tk₃ dx k₃ dn dne hx₃ hn₃ => ?_)
  show wpAny _ _ (execs _ _) _ _ _
  have z : s.heap.objs.size < h₁.objs.size := hn.lt
  exact wpAny_execs_nil (hq h₃ tk₃ dx ⟨fun b o hb e => k₃ b o hb (k b o e), hx₃, Nat.le_of_lt (Nat.lt_of_lt_of_le z dn), dne, hn₃⟩)
theorem makes (T : ExcT K C) (U : InitT K C fI qual) : Makes prog w K C "word" := by
  intro A R s v X hlim hroom hq
  obtain ⟨nm, q, N, bs, bm, sn, sub, ab, col, dd, k0, k1, k2, k3, k5, hC, hbm⟩ := T.cls
  obtain ⟨hp, g, dr, tk, os⟩ := s
  have k : ∀ b o, hp.get? b = some o → ((hp.push (kdv_tup [v])).push (excO C hp.objs.size)).get? b = some o := fun b o e => Heap.get?_push_of_some _ (Heap.get?_push_of_some _ e)
  have hget : ((hp.push (kdv_tup [v])).push (excO C hp.objs.size)).get? (hp.objs.size + 1) = some (excO C hp.objs.size) := by heap_get
  refine call_own PySem.F.excBase_Exception (fun X => excTail_contains X bm hbm) (X _ _ hC) (looks_findIn X U.iC) (fun self => bind_fn X self U.tC) (one_sz v) ?_
  refine init_ok (s := ⟨(hp.push (kdv_tup [v])).push (excO C hp.objs.size), g, dr, tk, os⟩) T U (X.keeps k) (hlim.keeps k) hget ?_ fun h' tk' dx ⟨k', hx, dn, dne, hns⟩ => ?_
  · show A.depth + 1 < recursionLimit
    exact hroom
  · have old : ∀ b o, hp.get? b = some o → h'.get? b = some o := fun b o e => k' b o (Nat.ne_of_lt (Nat.lt_succ_of_lt (Heap.lt_size e))) (k b o e)
    have z : hp.objs.size + 1 + 1 ≤ dx := by
      first
        | (simpa only [Heap.size_push] using dn)
        | exact dn
        | (have q := dn; rw [Heap.size_push, Heap.size_push] at q; exact q)
    exact ⟨rfl, hq h' tk' (hp.objs.size + 1) dx ⟨old, Nat.le_succ _, ⟨_, hx⟩, Nat.le_trans (Nat.le_trans (Nat.le_succ _) (Nat.le_succ _)) z, dne, hns⟩⟩
end
end XWord
end MyX
end PySem
namespace My
open PySem PySem.Spec PyProof.Rows L2 PySem.MyX
theorem relO_one {v : V} {u : Value} (r : RelV v u) (f g : Str) : RelO (List.lookup g [(f, v)]) (if g = f then some u else none) := by
  rw [lookup_put]
  by_cases h : g = f
  · rw [if_pos h, if_pos h]
    exact r
  · rw [if_neg h, if_neg h]
    trivial
section
variable {X : Cx} {C : Addr} {f x : Str}
/-- C(e), then raised: its own dict d holds the field -/
def tMkX (C : Addr) (f : Str) (ta : TA) : L2.St → Hp → XK → Prop := fun σ H Q => ta σ H fun vs H1 => ∃ v, vs = [v] ∧ ∀ d, H1 d = none → Q (.ref C) (some d) (upd H1 d (.xd [(f, v)]))
theorem pmk_x {a : Expr} {ta : TA} {p pos : Pos} {k : Nat} (T : ExcT X.K C) (Mk : Makes X.prog X.w X.K C f) (gC : X.mg x = some (.ref C)) (hr : Room k X.A) (ha : PA X [a] ta) (hg : Gl X x := by rfl) (hdb : (x == ("__debug__" : Str)) = false := by decide)
    (he : starEach (a :: []) X.env = (false, eval a X.env) :: starEach [] X.env := by rfl) (hpl : (backTo pos (starEach [] X.env)).any (·.1) = false := by rfl) :
    PMk X (.Call (.Name x p) [a] [] pos) (tMkX C f ta) := by
  intro pins s σ H Q I h
  refine wpAny_Call_Name_kw (ld_glob I hg gC ?_ hdb)
  refine PySem.W.callWith_K (h₀ := X.base) I.ok.mod.kin T.kC (thn (ha.run pos pins s σ H _ I h) fun us s1 hh => ?_) he hpl
  obtain ⟨vs, H1, I1, r1, v, ev, q1⟩ := hh
  subst ev
  refine ⟨I1.kIn, ?_⟩
  cases r1 with
  | cons rv rn =>
    rename_i v' us'
    cases rn
    show wpAny _ _ (call (.ref C) [v']) _ _ _
    have hlim := I1.nolimit
    obtain ⟨hp, g, dr, tk, os⟩ := s1
    refine wpAny_call (Mk _ _ _ v' I1.kIn hlim (by have := hr.dp; omega) fun h' tk' e d M => ?_)
    show MkP X pins σ Q (.ref e) ⟨h', g, dr, tk', os⟩
    obtain ⟨t1, hoe⟩ := M.obj
    have hns := M.ns
    obtain ⟨G', g1, g2⟩ := restrict h' fun b => decide (b ≠ e)
    have gk : ∀ b, b ≠ e → G'.get? b = h'.get? b := fun b hb => g1 b (decide_eq_true hb)
    have ge : G'.get? e = none := g2 e (by simp)
    have old : ∀ b o, hp.get? b = some o → G'.get? b = some o := fun b o q => (gk b (Nat.ne_of_lt (Nat.lt_of_lt_of_le (Heap.lt_size q) M.new))).trans (M.keep b o q)
    have ob : ObjOk X.prog X.w (upd H1 d (.xd [(f, v)])) G' d (.xd [(f, v)]) :=
      ⟨_, hns.at (fun o q => (gk d M.dne).trans q), fun g => relO_one rv f g⟩
    have J : Inv X pins σ (upd H1 d (.xd [(f, v)])) ⟨G', g, dr, tk', os⟩ := I1.laid (t' := tk') old M.dbig ob
    refine ⟨e, _, _, ⟨G', g, dr, tk', os⟩, _, .ref C, some d, rfl, J, fun b o q => ?_, ge, hoe, ⟨rfl, rfl⟩, rfl, rfl, ?_, rfl, I1.bare, raises_own T.exC T.tyC, q1 d (I1.hok.fresh M.dbig)⟩
    · by_cases hb : b = e
      · have q' : G'.get? b = some o := q
        rw [hb, ge] at q'; cases q'
      · exact (gk b hb).symm.trans q
    · rw [upd_ne (Ne.symm M.dne)]
      exact I1.hok.fresh M.new
/-- raise C(e) -/
def tRaiseX (C : Addr) (f : Str) (W : WX) (ta : TA) : TS := fun _ σ H => tMkX C f ta σ H fun cls d H' => W cls d σ H'
theorem ps_raiseX {a : Expr} {ta : TA} {W : WX} {p pos pos2 : Pos} {k : Nat} (T : ExcT X.K C) (Mk : Makes X.prog X.w X.K C f) (gC : X.mg x = some (.ref C)) (hr : Room k X.A) (tk : Takes X W) (ha : PA X [a] ta) (hc : X.calm = true := by rfl) (hg : Gl X x := by rfl) (hdb : (x == ("__debug__" : Str)) = false := by decide)
    (he : starEach (a :: []) X.env = (false, eval a X.env) :: starEach [] X.env := by rfl) (hpl : (backTo pos (starEach [] X.env)).any (·.1) = false := by rfl) :
    PS X (.Raise (some (.Call (.Name x p) [a] [] pos)) none pos2) (tRaiseX C f W ta) := ps_raise hc tk (pmk_x T Mk gC hr ha hg hdb he hpl)
/-- C(e) as a value: an exception object, not raised -/
def tValX (C : Addr) (f : Str) (ta : TA) : TE := fun σ H Q => ta σ H fun vs H1 => ∃ v, vs = [v] ∧ ∀ e d, H1 e = none → H1 d = none → d ≠ e → Q (.ref e) (upd (upd H1 d (exd d [(f, v)])) e (exo e C (some d)))
theorem val_end {pins : List (Addr × Obj)} {σ : L2.St} {H1 : Hp} {Q : VK} {hp h' : Heap} {g : Array GenState} {dr : Drawn} {tk tk' : Nat} {os : OsState} {v : V} {v' : Value} {e d : Addr} (I1 : Inv X pins σ H1 ⟨hp, g, dr, tk, os⟩) (rv : RelV v v') (M : MadeE hp h' e C d f v')
    (q1 : ∀ e d, H1 e = none → H1 d = none → d ≠ e → Q (.ref e) (upd (upd H1 d (exd d [(f, v)])) e (exo e C (some d)))) : EP X pins σ Q (.ref e) ⟨h', g, dr, tk', os⟩ := by
  obtain ⟨t1, hoe⟩ := M.obj
  have nd : H1 d = none := I1.hok.fresh M.dbig
  have ne : H1 e = none := I1.hok.fresh M.new
  have J1 : Inv X pins σ (upd H1 d (exd d [(f, v)])) ⟨h', g, dr, tk', os⟩ := I1.laid (t' := tk') M.keep M.dbig (exd_ok M.ns fun g => relO_one rv f g)
  have un0 : upd H1 d (exd d [(f, v)]) e = none := by rw [upd_ne (Ne.symm M.dne)]; exact ne
  have newE : hp.get? e = none := by
    cases q : hp.get? e with
    | none => rfl
    | some o => exact absurd (Heap.lt_size q) (Nat.not_lt.mpr M.new)
  refine ⟨.ref e, _, ?_, rfl, q1 e d ne nd M.dne⟩
  have U1 : Un X.fs [] H1 (upd (upd H1 d (exd d [(f, v)])) e (exo e C (some d))) hp h' := {
    keep := fun b o q _ _ _ => M.keep b o q
    slot := fun b o q _ _ _ => ⟨o.slots, M.keep b o q⟩
    free := fun b o q n _ => by
      rw [upd_ne (Nat.ne_of_lt (Nat.lt_of_lt_of_le (Heap.lt_size q) M.new)), upd_ne (Nat.ne_of_lt (Nat.lt_of_lt_of_le (Heap.lt_size q) M.dbig))]
      exact n
    there := fun b o q _ => ⟨o, M.keep b o q⟩
    tups := fun b xs q => by rw [upd_ne (ne_of_none q ne), upd_ne (ne_of_none q nd)]; exact q
    frzs := fun b o u q => by rw [upd_ne (ne_of_none q ne), upd_ne (ne_of_none q nd)]; exact q
    tbls := fun b ps q => ⟨#[], by rw [upd_ne (ne_of_none q ne), upd_ne (ne_of_none q nd), q]; simp⟩ }
  refine I1.un (t' := tk') U1 fun b o q => ?_
  by_cases hb : b = e
  · subst hb
    rw [upd_same] at q
    cases q
    exact exo_ok hoe
  · rw [upd_ne hb] at q
    exact (J1.hok b o q).stay (fun c u _ r => r) (fun c r => by rw [upd_ne (ne_of_none r un0)]; exact r) fun c xs r => by rw [upd_ne (ne_of_none r un0)]; exact r
theorem pe_valX {a : Expr} {ta : TA} {p pos : Pos} {k : Nat} (T : ExcT X.K C) (Mk : Makes X.prog X.w X.K C f) (gC : X.mg x = some (.ref C)) (hr : Room k X.A) (ha : PA X [a] ta) (hg : Gl X x := by rfl) (hdb : (x == ("__debug__" : Str)) = false := by decide)
    (he : starEach (a :: []) X.env = (false, eval a X.env) :: starEach [] X.env := by rfl) (hpl : (backTo pos (starEach [] X.env)).any (·.1) = false := by rfl) :
    PE X (.Call (.Name x p) [a] [] pos) (tValX C f ta) := by
  refine ⟨fun pins s σ H Q I h => ?_⟩
  refine wpAny_Call_Name_kw (ld_glob I hg gC ?_ hdb)
  refine PySem.W.callWith_K (h₀ := X.base) I.ok.mod.kin T.kC (thn (ha.run pos pins s σ H _ I h) fun us s1 hh => ?_) he hpl
  obtain ⟨vs, H1, I1, r1, v, ev, q1⟩ := hh
  subst ev
  refine ⟨I1.kIn, ?_⟩
  cases r1 with
  | cons rv rn =>
    rename_i v' us'
    cases rn
    show wpAny _ _ (call (.ref C) [v']) _ _ _
    have hlim := I1.nolimit
    obtain ⟨hp, g, dr, tk, os⟩ := s1
    exact wpAny_call (Mk _ _ _ v' I1.kIn hlim (by have := hr.dp; omega) fun h' tk' e d M => val_end I1 rv M q1)
/-- e.f, e an exception object that is held as a value -/
def tFldX (K : PySem.W.Frag) (f : Str) (te : TE) : TE := fun σ H Q => te σ H fun x H1 => ∃ (a C d : Addr) (fs : List (Str × V)) (v : V), x = .ref a ∧ ExcT K C ∧ PySem.W.findIn K (.ref C) f = some none ∧ H1 a = some (exo a C (some d)) ∧ H1 d = some (exd d fs) ∧ fs.lookup f = some v ∧ Q v H1
theorem pe_fldX {e : Expr} {te : TE} {pos : Pos} (he : PE X e te) (hb : attributeBase e f X.env (eval e X.env) = eval e X.env := by rfl) : PE X (.Attribute e f pos) (tFldX X.K f te) := by
  refine ⟨fun pins s σ H Q I h => ?_⟩
  refine attr_of hb (thn (he.run pins s σ H _ I h) fun u s1 hh => ?_)
  obtain ⟨x, H1, I1, rx, a, C, d, fs, v, ex, T, noN, ea, ed, hl, q⟩ := hh
  subst ex
  obtain rfl : u = Value.ref a := rx
  obtain ⟨t1, ha⟩ := exo_at I1.hok ea
  obtain ⟨mA, hns, hr⟩ := exd_at I1.hok ed
  obtain ⟨od, ho, hl2⟩ := lookIn_ns hns
  obtain ⟨u, hu, ru⟩ := RelO.some_of (v := v) (o := mA f) (by rw [← hl]; exact hr f)
  have J : PySem.W.InstAt s1.heap a { cls := .ref C, dict := some d, data := .fields #[.ref t1, .none, .none, .none, .bool false, .none] } C (some od) := ⟨ha, rfl, rfl, ho⟩
  exact HandSPX.exc_get I1.kIn J T.ga T.gg T.exC (PySem.W.findObj_own T.hdC noN rfl (by rw [hl2, hu])) (handed_of ru) ⟨v, H1, I1.tok _, ru, q⟩
/-- isinstance(e, c), e an exception object that is held as a value -/
def rIsX (K : PySem.W.Frag) : List V → Hp → VK → Prop := fun xs H Q => ∃ (a C : Addr) (od : Option Addr) (fs : List (Str × V)) (c : V) (cv : Value) (b : Bool), xs = [.ref a, c] ∧ ExcT K C ∧ H a = some (exo a C od) ∧ (∀ d, od = some d → H d = some (exd d fs)) ∧ (∀ u, RelV c u → u = cv) ∧ PySem.W.kitOne K (.ref C) cv = some b ∧ Q (.bl b) H
theorem call_isX : CallR X (.builtin "isinstance") (rIsX X.K) := by
  intro pins s σ H xs us Q I r h
  obtain ⟨a, C, od, fs, c, cv, b, rfl, T, ea, ed, hcv, e, q⟩ := h
  obtain ⟨u1, u2, rfl, rx, rt⟩ := vals2 r
  cases rx
  have ec := hcv _ rt
  subst ec
  obtain ⟨t1, ha⟩ := exo_at I.hok ea
  have hcl : (PySem.W.clsIn X.K C).isSome = true := by
    obtain ⟨cd, hc, _⟩ := PySem.W.any_some T.hdC
    rw [hc] <;> rfl
  have J : ∃ oo : Option Obj, PySem.W.InstAt s.heap a { cls := .ref C, dict := od, data := .fields #[.ref t1, .none, .none, .none, .bool false, .none] } C oo := by
    cases od with
    | none => exact ⟨none, ha, rfl, rfl, trivial⟩
    | some d =>
      obtain ⟨mA, hns, _⟩ := exd_at I.hok (ed d rfl)
      obtain ⟨o, ho, _⟩ := lookIn_ns hns
      exact ⟨some o, ha, rfl, rfl, ho⟩
  obtain ⟨oo, J⟩ := J
  exact PySem.W.kia_one (PySem.W.kitx_exc hcl T.ga T.gg T.exC T.ca T.cn T.ct T.cm) I.kIn J e (fun z => nomatch z) fun tk => ⟨.bl b, H, I.kept (t' := tk) fun _ _ z => z, rfl, q⟩
/-- n.f, n the exception that the suite holds (at a; its class cls, its dict d) -/
def tByX (C : Addr) (f : Str) (a : Addr) (cls : Value) (d : Option Addr) (te : TE) : TE := fun σ H Q => te σ H fun x H1 => x = .ref a ∧ cls = .ref C ∧ ∃ (dd : Addr) (v : V), d = some dd ∧ H1 dd = some (.xd [(f, v)]) ∧ Q v H1
theorem pe_byX {a : Addr} {oe : Obj} {cls : Value} {d : Option Addr} {pn : List (Addr × Obj)} {e : Expr} {te : TE} {pos : Pos} (T : ExcT X.K C) (noN : PySem.W.findIn X.K (.ref C) f = some none) (hz : Zc cls d oe) (hf : ∃ vs, oe.data = .fields vs) (he : PE (X.suite a ((a, oe) :: pn)) e te)
    (hb : attributeBase e f X.env (eval e X.env) = eval e X.env := by rfl) :
    PE (X.suite a ((a, oe) :: pn)) (.Attribute e f pos) (tByX C f a cls d te) := by
  refine ⟨fun pins s σ H Q I h => ?_⟩
  refine attr_of hb (thn (he.run pins s σ H _ I h) fun u s1 hh => ?_)
  obtain ⟨x, H1, I1, rx, ex, ec, dd, v, ed, ea, q⟩ := hh
  subst ex
  obtain rfl : u = Value.ref a := rx
  subst ec
  subst ed
  obtain ⟨ha, _⟩ := I1.pin (a, oe) (List.mem_append_left _ List.mem_cons_self)
  obtain ⟨vs, hd⟩ := hf
  have hx : ObjOk X.prog X.w H1 s1.heap dd (.xd [(f, v)]) := I1.hok dd _ ea
  obtain ⟨mA, hns, hr⟩ := hx
  obtain ⟨od, ho, hl⟩ := lookIn_ns hns
  have l : List.lookup f [(f, v)] = some v := by simp [List.lookup]
  obtain ⟨u, hu, ru⟩ := RelO.some_of (v := v) (o := mA f) (by rw [← l]; exact hr f)
  have J : PySem.W.InstAt s1.heap a oe C (some od) := ⟨ha, hz.1, by unfold PySem.W.notCls; rw [hd] <;> rfl, by rw [hz.2]; exact ho⟩
  exact HandSPX.exc_get I1.kIn J T.ga T.gg T.exC (PySem.W.findObj_own T.hdC noN rfl (by rw [hl, hu])) (handed_of ru) ⟨v, H1, I1.tok _, ru, q⟩
end
end My
set_option Elab.async false
set_option linter.all false
set_option maxRecDepth 100000
set_option maxHeartbeats 4000000
namespace PySem
namespace MyX
open PySem.W PySem.Calls PyProof.Rows PySem.HandSPX
section
variable {M : Model} {prog : Program} {w : World} {A : Around} {E : Value → Shared → Prop} {R : Result → Shared → Prop} {hp : Heap} {g : Array GenState} {d : Drawn} {t : Nat} {os : OsState}
variable {nm q : Str} {C N : Addr} {bs bm : List Value} {hdct : Bool} {sn : List Str} {sub : List Value} {ab : Bool} {col : Option Bool} {dd : Option Addr} {k0 k1 k2 k3 k5 : Option Value}
theorem chk_new (hT : ∀ X : String, bm.contains (.type X) = exT.contains (.type X)) {kw : List (Str × Value)} {Q : Unit → Shared → Prop}
    (hC : hp.get? C = some (excClassObj nm q C N bs bm hdct sn sub ab col dd k0 k1 k2 k3 k5 "Exception.__new__")) (hq : Q () ⟨hp, g, d, t, os⟩) : wpAny M A (checkBuiltinCall "Exception.__new__" ⟨[.ref C], kw⟩) Q E ⟨hp, g, d, t, os⟩ := by
  have F := PySem.F.excBase_Exception
  have hB : (Value.ref C :: bm).contains (.type "Exception") = true := by rw [List.contains_cons, hT, F.hasB, Bool.or_true]
  have st := F.noStar
  simp only [checkBuiltinCall, F.newKind, F.newSplit, F.newRow]
  repeat (first | refine wpAny_loadPart_at hC ?_ | (refine wpAny_isSubtype_exc hC ?_; rw [hB]) | refine wpAny_staticBase_exc hC ?_ | refine wpAny_madeBy_exc hC ?_ | simp only [bne_self_eq_false, Bool.false_eq_true, if_false] | wp_step)
  all_goals exact hq
theorem new_kw (hT : ∀ X : String, bm.contains (.type X) = exT.contains (.type X)) {kw : List (Str × Value)}
    (hC : hp.get? C = some (excClassObj nm q C N bs bm hdct sn sub ab col dd k0 k1 k2 k3 k5 "Exception.__new__"))
    (hq : R (.ok (.ret (.ref (hp.objs.size + 1)))) ⟨(hp.push { cls := .type "tuple", data := .seq #[] }).push (excO C hp.objs.size), g, d, t, os⟩) :
    codeAny (model prog w) A (.builtin "Exception.__new__" ⟨[.ref C], kw⟩) R ⟨hp, g, d, t, os⟩ := by
  have F := PySem.F.excBase_Exception
  have hends := F.ends
  have c1 : (Value.ref C :: bm).contains (.type "Exception") = true := by rw [List.contains_cons, hT, F.hasB, Bool.or_true]
  have c2 : (Value.ref C :: bm).contains (.type "AttributeError") = false := by
    rw [List.contains_cons, hT, F.noAttr] <;> rfl
  have c3 : (Value.ref C :: bm).contains (.type "NameError") = false := by
    rw [List.contains_cons, hT, F.noName] <;> rfl
  refine codeAny_builtinAt F.entry ?_
  unfold Builtin.«BaseException.__new__»
  refine wpAt_bind ?_
  show wpAt _ _ _ (stack >>= _) _ _ _
  refine wpAt_bind (wpAt_stack fun p below => wpAt_of_wpAny ?_)
  wp_walk
  refine wpAt_of_wpAny ?_
  rw [F.owner]
  repeat (first | with_reducible refine wpAny_madeHere_exc F.canon hC ?_ | with_reducible refine wpAny_loadPart_at hC ?_ | (with_reducible refine wpAny_isSubtype_exc hC ?_; first | rw [c1] | rw [c2] | rw [c3]) | wp_step)
  show R _ _
  rw [Heap.size_push]
  exact hq
theorem chk_type {kw : List (Str × Value)} {newId : String} {Q : Unit → Shared → Prop} (hC : hp.get? C = some (excClassObj nm q C N bs bm hdct sn sub ab col dd k0 k1 k2 k3 k5 newId))
    (hq : Q () ⟨hp, g, d, t, os⟩) : wpAny M A (checkBuiltinCall "type.__call__" ⟨[.ref C], kw⟩) Q E ⟨hp, g, d, t, os⟩ := by
  have f3 := tc_sub
  have hT : (⟨hp, g, d, t, os⟩ : Shared).TypeIs (.ref C) "type" := ⟨_, hC, rfl⟩
  simp only [checkBuiltinCall, tc_kind, tc_split]
  repeat (any_goals (first | assumption | with_reducible refine wpAny_loadPart_at hC ?_ | with_reducible refine wpAny_onRaise ?_ | with_reducible refine wpAny_map ?_ | wp_step))
theorem tcall_kw (hT : ∀ X : String, bm.contains (.type X) = exT.contains (.type X)) {kw : List (Str × Value)} {fI : Addr} {Q : Fin → Shared → Prop}
    (hC : hp.get? C = some (excClassObj nm q C N bs bm hdct sn sub ab col dd k0 k1 k2 k3 k5 "Exception.__new__"))
    (hi : W.Looks (model prog w) hp (typeLookup (.ref C) "__init__") (some (.ref fI))) (hb : ∀ self, W.Looks (model prog w) hp (bindSpecial (.ref fI) self) (.ref fI, [self]))
    (hq : codeAny (model prog w) A (.call (.ref fI) ⟨[.ref (hp.objs.size + 1)], kw⟩)
      (fun r s' => match r with | .ok (.ret v) => v = .none ∧ Q (.done (.ret (.ref (hp.objs.size + 1)))) s' | .ok _ => False | .error e => E e s')
      ⟨(hp.push (W.kdv_tup [])).push (excO C hp.objs.size), g, d, t, os⟩) :
    wpAny (model prog w) A (Builtin.«type.__call__» ⟨[.ref C], kw⟩) Q E ⟨hp, g, d, t, os⟩ := by
  repeat (first | with_reducible refine wpAny_loadPart_at hC ?_ | with_reducible refine wpAny_madeBy_exc hC ?_ | wp_step)
  refine codeAny_call_builtin_code (Code.quiet_builtin _ PySem.F.excBase_Exception.quiet) (chk_new hT hC ?_)
  refine new_kw hT hC ?_
  show wpAny _ _ _ _ _ _
  have kk : ∀ b o, hp.get? b = some o → ((hp.push (W.kdv_tup [])).push (excO C hp.objs.size)).get? b = some o := fun b o e => Heap.get?_push_of_some _ (Heap.get?_push_of_some _ e)
  have hC1 := kk _ _ hC
  have hg1 : ((hp.push (W.kdv_tup [])).push (excO C hp.objs.size)).get? (hp.objs.size + 1) = some (excO C hp.objs.size) := by heap_get
  have cC : (Value.ref C :: bm).contains (.ref C) = true := by simp
  have i1 := hi.keeps kk
  have b1 := (hb (.ref (hp.objs.size + 1))).keeps kk
  unfold isInstance
  repeat (first | with_reducible refine wpAny_loadPart_at hg1 ?_ | (with_reducible refine wpAny_isSubtype_exc hC1 ?_; rw [cC]) | wp_step)
  show wpAny _ _ (typeLookup (.ref C) _) _ _ _
  refine i1.at ?_
  refine wpAny_holding (wpAny_bind (b1.at ?_))
  refine wpAny_bind (wpAny_call (codeAny_mono hq fun r s' z => ?_))
  rcases r with e | (v | _ | _ | _) <;> first | exact z | exact z.elim | skip
  obtain ⟨rfl, z⟩ := z
  first
    | exact wpAny_pure (wpAny_pure z)
    | (wp_walk; exact z)
theorem call_kw (hT : ∀ X : String, bm.contains (.type X) = exT.contains (.type X)) {kw : List (Str × Value)} {fI : Addr}
    (hC : hp.get? C = some (excClassObj nm q C N bs bm hdct sn sub ab col dd k0 k1 k2 k3 k5 "Exception.__new__"))
    (hi : W.Looks (model prog w) hp (typeLookup (.ref C) "__init__") (some (.ref fI))) (hb : ∀ self, W.Looks (model prog w) hp (bindSpecial (.ref fI) self) (.ref fI, [self]))
    (hq : codeAny (model prog w) (A.under (.builtin "type.__call__" ⟨[.ref C], kw⟩)) (.call (.ref fI) ⟨[.ref (hp.objs.size + 1)], kw⟩) (W.InitBack (hp.objs.size + 1) R)
      ⟨(hp.push (W.kdv_tup [])).push (excO C hp.objs.size), g, d, t, os⟩) :
    codeAny (model prog w) A (.call (.ref C) ⟨[], kw⟩) R ⟨hp, g, d, t, os⟩ := by
  have f1 := tc_lookup
  have f2 := tc_bind (.ref C)
  have hTy : (⟨hp, g, d, t, os⟩ : Shared).TypeIs (.ref C) "type" := ⟨_, hC, rfl⟩
  refine codeAny_of_tree ?_
  show wpAny _ _ (callAny (.ref C) _) _ _ _
  repeat (any_goals (first | assumption | with_reducible refine wpAny_loadPart_at hC ?_ | wp_step))
  refine ⟨rfl, ?_⟩
  refine codeAny_call_builtin_at (Code.quiet_builtin _ (by decide +kernel)) entry_typeCall (chk_type hC (tcall_kw hT hC hi hb ?_))
  refine codeAny_mono hq fun r s' z => ?_
  rcases r with e | (v | _ | _ | _) <;> exact z
end
-- GEN
/-- the same by a keyword -/
def MakesK (prog : Program) (w : World) (K : Frag) (C : Addr) (f : Str) : Prop :=
  ∀ (A : Around) (R : Result → Shared → Prop) (s : Shared) (v : Value), K.In s.heap → s.heap.NoLimit → A.depth + 1 < recursionLimit →
    (∀ h' tk e d, MadeE s.heap h' e C d f v → R (.ok (.ret (.ref e))) { s with heap := h', toks := tk }) → codeAny (model prog w) A (.call (.ref C) ⟨[], [(f, v)]⟩) R s
namespace XAt
section
variable {prog : Program} {w : World} {A : Around} {E : Value → Shared → Prop} {R : Result → Shared → Prop} {s : Shared} {K : Frag} {C fI : Addr} {qual : Str}
theorem init_kw (T : ExcT K C) (U : InitT K C fI qual) {x t0 : Addr} {v : Value} (X : K.In s.heap) (hlim : s.heap.NoLimit) (hx : s.heap.get? x = some (excO C t0)) (hroom : A.depth < recursionLimit)
    (hq : ∀ h' tk dx, InitE s.heap h' x C dx t0 "at" v → R (.ok (.ret .none)) { s with heap := h', toks := tk }) :
    codeAny (model prog w) A (.call (.ref fI) ⟨[.ref x], [("at", v)]⟩) R s := by
  obtain ⟨oc, od, doc, pm, an, cdv, ct, osl, p1, p2, q1, q2, q3, q4, ho, hcd⟩ := U.fn
  refine Att.call_fn (binds := [("self", .ref x), ("at", v)]) X hlim ho hcd hroom (BindsTo.of_eq (by first | rfl | with_unfolding_all rfl)) (by first | rfl | decide | with_unfolding_all rfl) (fun s₁ IC => ?_) rfl rfl rfl
  obtain ⟨h₁, tk₁, rfl⟩ := IC.toInCall.same
  have k : ∀ b o, s.heap.get? b = some o → h₁.get? b = some o := IC.toInCall.keep
  have hn := IC.toInCall.ns
  have X₁ : K.In h₁ := X.keeps k
  have hx₁ := k _ _ hx
  show wpAny _ _ (execs _ _) _ _ _
  refine wpAny_execs_cons (plainObj_wpAny_Assign_Attribute ?_)
  refine ldF (v := v) hn (by first | rfl | with_unfolding_all rfl | kernel_rfl) (ldF (v := .ref x) hn (by first | rfl | with_unfolding_all rfl | kernel_rfl) ?_)
  refine set_plain X₁ (ox := excO C t0) (od := none) ⟨hx₁, rfl, rfl, trivial⟩ T.sa ?_
  refine osaX X₁ hx₁ T.ov T.hdC (by unfold takerIn; rw [U.noN] <;> rfl) (fun h₃ tk₃ dx k₃ dn dne hx₃ hn₃ => ?_)
  show wpAny _ _ (execs _ _) _ _ _
  have z : s.heap.objs.size < h₁.objs.size := hn.lt
  exact wpAny_execs_nil (hq h₃ tk₃ dx ⟨fun b o hb e => k₃ b o hb (k b o e), hx₃, Nat.le_of_lt (Nat.lt_of_lt_of_le z dn), dne, hn₃⟩)
theorem makesK (T : ExcT K C) (U : InitT K C fI qual) : MakesK prog w K C "at" := by
  intro A R s v X hlim hroom hq
  obtain ⟨nm, q, N, bs, bm, sn, sub, ab, col, dd, k0, k1, k2, k3, k5, hC, hbm⟩ := T.cls
  obtain ⟨hp, g, dr, tk, os⟩ := s
  have k : ∀ b o, hp.get? b = some o → ((hp.push (kdv_tup [])).push (excO C hp.objs.size)).get? b = some o := fun b o e => Heap.get?_push_of_some _ (Heap.get?_push_of_some _ e)
  have hget : ((hp.push (kdv_tup [])).push (excO C hp.objs.size)).get? (hp.objs.size + 1) = some (excO C hp.objs.size) := by heap_get
  refine call_kw (fun X => excTail_contains X bm hbm) (X _ _ hC) (looks_findIn X U.iC) (fun self => bind_fn X self U.tC) ?_
  refine init_kw (s := ⟨(hp.push (kdv_tup [])).push (excO C hp.objs.size), g, dr, tk, os⟩) T U (X.keeps k) (hlim.keeps k) hget ?_ fun h' tk' dx ⟨k', hx, dn, dne, hns⟩ => ?_
  · show A.depth + 1 < recursionLimit
    exact hroom
  · have old : ∀ b o, hp.get? b = some o → h'.get? b = some o := fun b o e => k' b o (Nat.ne_of_lt (Nat.lt_succ_of_lt (Heap.lt_size e))) (k b o e)
    have z : hp.objs.size + 1 + 1 ≤ dx := by
      first
        | (simpa only [Heap.size_push] using dn)
        | exact dn
        | (have q := dn; rw [Heap.size_push, Heap.size_push] at q; exact q)
    exact ⟨rfl, hq h' tk' (hp.objs.size + 1) dx ⟨old, Nat.le_succ _, ⟨_, hx⟩, Nat.le_trans (Nat.le_trans (Nat.le_succ _) (Nat.le_succ _)) z, dne, hns⟩⟩
end
end XAt
namespace XWord
section
variable {prog : Program} {w : World} {A : Around} {E : Value → Shared → Prop} {R : Result → Shared → Prop} {s : Shared} {K : Frag} {C fI : Addr} {qual : Str}
theorem init_kw (T : ExcT K C) (U : InitT K C fI qual) {x t0 : Addr} {v : Value} (X : K.In s.heap) (hlim : s.heap.NoLimit) (hx : s.heap.get? x = some (excO C t0)) (hroom : A.depth < recursionLimit)
    (hq : ∀ h' tk dx, InitE s.heap h' x C dx t0 "word" v → R (.ok (.ret .none)) { s with heap := h', toks := tk }) :
    codeAny (model prog w) A (.call (.ref fI) ⟨[.ref x], [("word", v)]⟩) R s := by
  obtain ⟨oc, od, doc, pm, an, cdv, ct, osl, p1, p2, q1, q2, q3, q4, ho, hcd⟩ := U.fn
  refine Att.call_fn (binds := [("self", .ref x), ("word", v)]) X hlim ho hcd hroom (BindsTo.of_eq (by first | rfl | with_unfolding_all rfl)) (by first | rfl | decide | with_unfolding_all rfl) (fun s₁ IC => ?_) rfl rfl rfl
  obtain ⟨h₁, tk₁, rfl⟩ := IC.toInCall.same
  have k : ∀ b o, s.heap.get? b = some o → h₁.get? b = some o := IC.toInCall.keep
  have hn := IC.toInCall.ns
  have X₁ : K.In h₁ := X.keeps k
  have hx₁ := k _ _ hx
  show wpAny _ _ (execs _ _) _ _ _
  refine wpAny_execs_cons (plainObj_wpAny_Assign_Attribute ?_)
  refine ldF (v := v) hn (by first | rfl | with_unfolding_all rfl | kernel_rfl) (ldF (v := .ref x) hn (by first | rfl | with_unfolding_all rfl | kernel_rfl) ?_)
  refine set_plain X₁ (ox := excO C t0) (od := none) ⟨hx₁, rfl, rfl, trivial⟩ T.sa ?_
  refine osaX X₁ hx₁ T.ov T.hdC (by unfold takerIn; rw [U.noN] <;> rfl) (fun h₃ tk₃ dx k₃ dn dne hx₃ hn₃ => ?_)
  show wpAny _ _ (execs _ _) _ _ _
  have z : s.heap.objs.size < h₁.objs.size := hn.lt
  exact wpAny_execs_nil (hq h₃ tk₃ dx ⟨fun b o hb e => k₃ b o hb (k b o e), hx₃, Nat.le_of_lt (Nat.lt_of_lt_of_le z dn), dne, hn₃⟩)
theorem makesK (T : ExcT K C) (U : InitT K C fI qual) : MakesK prog w K C "word" := by
  intro A R s v X hlim hroom hq
  obtain ⟨nm, q, N, bs, bm, sn, sub, ab, col, dd, k0, k1, k2, k3, k5, hC, hbm⟩ := T.cls
  obtain ⟨hp, g, dr, tk, os⟩ := s
  have k : ∀ b o, hp.get? b = some o → ((hp.push (kdv_tup [])).push (excO C hp.objs.size)).get? b = some o := fun b o e => Heap.get?_push_of_some _ (Heap.get?_push_of_some _ e)
  have hget : ((hp.push (kdv_tup [])).push (excO C hp.objs.size)).get? (hp.objs.size + 1) = some (excO C hp.objs.size) := by heap_get
  refine call_kw (fun X => excTail_contains X bm hbm) (X _ _ hC) (looks_findIn X U.iC) (fun self => bind_fn X self U.tC) ?_
  refine init_kw (s := ⟨(hp.push (kdv_tup [])).push (excO C hp.objs.size), g, dr, tk, os⟩) T U (X.keeps k) (hlim.keeps k) hget ?_ fun h' tk' dx ⟨k', hx, dn, dne, hns⟩ => ?_
  · show A.depth + 1 < recursionLimit
    exact hroom
  · have old : ∀ b o, hp.get? b = some o → h'.get? b = some o := fun b o e => k' b o (Nat.ne_of_lt (Nat.lt_succ_of_lt (Heap.lt_size e))) (k b o e)
    have z : hp.objs.size + 1 + 1 ≤ dx := by
      first
        | (simpa only [Heap.size_push] using dn)
        | exact dn
        | (have q := dn; rw [Heap.size_push, Heap.size_push] at q; exact q)
    exact ⟨rfl, hq h' tk' (hp.objs.size + 1) dx ⟨old, Nat.le_succ _, ⟨_, hx⟩, Nat.le_trans (Nat.le_trans (Nat.le_succ _) (Nat.le_succ _)) z, dne, hns⟩⟩
end
end XWord
end MyX
end PySem
namespace My
open PySem PySem.Spec PyProof.Rows L2 PySem.MyX
section
variable {X : Cx} {C : Addr} {f x : Str}
/-- C(f=e) as a value -/
theorem pe_valK {a : Expr} {te : TE} {p pos kpos : Pos} {k : Nat} (T : ExcT X.K C) (Mk : MakesK X.prog X.w X.K C f) (gC : X.mg x = some (.ref C)) (hr : Room k X.A) (ha : PE X a te) (hg : Gl X x := by rfl) (hdb : (x == ("__debug__" : Str)) = false := by decide)
    (hall : (backToKw pos (keywordEach [⟨some f, a, kpos⟩] X.env)).all (·.1.isSome) = true := by rfl) (hks : (backToKw pos (keywordEach [⟨some f, a, kpos⟩] X.env)).filterMap (·.1) = [f] := by rfl)
    (hpl : ((backTo pos (starEach [] X.env)).any (·.1) || (backToKw pos (keywordEach [⟨some f, a, kpos⟩] X.env)).any (·.1.isNone)) = false := by rfl) :
    PE X (.Call (.Name x p) [] [⟨some f, a, kpos⟩] pos) (tValX C f (tCons te tNil)) := by
  refine ⟨fun pins s σ H Q I h => ?_⟩
  refine wpAny_Call_Name_kw (ld_glob I hg gC ?_ hdb)
  refine PySem.W.callWith_KW0 (h₀ := X.base) I.ok.mod.kin T.kC hall (thn ((pk_cons ha pk_nil).run pos pins s σ H _ I h) fun us s1 hh => ?_) hpl
  obtain ⟨vs, H1, I1, r1, v, ev, q1⟩ := hh
  subst ev
  refine ⟨I1.kIn, ?_⟩
  rw [hks]
  cases r1 with
  | cons rv rn =>
    rename_i v' us'
    cases rn
    show wpAny _ _ (call (.ref C) [] [(f, v')]) _ _ _
    have hlim := I1.nolimit
    obtain ⟨hp, g, dr, tk, os⟩ := s1
    exact wpAny_call (Mk _ _ _ v' I1.kIn hlim (by have := hr.dp; omega) fun h' tk' e d M => val_end I1 rv M q1)
/-- C(), a class without own __init__, as a value -/
def tVal0 (C : Addr) : TE := fun _ H Q => ∀ e, H e = none → Q (.ref e) (upd H e (exo e C none))
theorem pe_val0 {p pos : Pos} (T : ExcT X.K C) (q : PySem.W.excIn X.K C exT "Exception.__new__" = true) (gC : X.mg x = some (.ref C)) (hg : Gl X x := by rfl) (hdb : (x == ("__debug__" : Str)) = false := by decide) :
    PE X (.Call (.Name x p) [] [] pos) (tVal0 C) := by
  refine ⟨fun pins s σ H Q I h => ?_⟩
  refine wpAny_Call_Name_kw (ld_glob I hg gC ?_ hdb)
  refine PySem.W.callWith_K0 I.kIn T.kC ?_
  show wpAny _ _ (call (.ref C) []) _ _ _
  obtain ⟨bm, N, nm, qn, bs, hdct, sn, sub, ab, col, dd, k0, k1, k2, k3, k5, mN, hC, hN, hni, OT⟩ := exc_obj I.kIn q
  refine wpAny_call_exc_subT PySem.F.excBase_Exception OT hC hN hni (fun h' a hm => ?_) (by show 0 ≤ sizeLine; exact Nat.zero_le _)
  have hn : H a = none := I.hok.gone hm.new
  obtain ⟨t, ht, _, _⟩ := hm.there
  exact ⟨.ref a, upd H a (exo a C none), I.laidN hm.keeps hm.new hn (exo_ok ht), rfl, h a hn⟩
/-- raise C() -/
theorem pmk_0 {p pos : Pos} (T : ExcT X.K C) (q : PySem.W.excIn X.K C exT "Exception.__new__" = true) (gC : X.mg x = some (.ref C)) (hg : Gl X x := by rfl) (hdb : (x == ("__debug__" : Str)) = false := by decide) :
    PMk X (.Call (.Name x p) [] [] pos) (fun _ H Q => Q (.ref C) none H) := by
  intro pins s σ H Q I h
  refine wpAny_Call_Name_kw (ld_glob I hg gC ?_ hdb)
  refine PySem.W.callWith_K0 I.kIn T.kC ?_
  show wpAny _ _ (call (.ref C) []) _ _ _
  obtain ⟨bm, N, nm, qn, bs, hdct, sn, sub, ab, col, dd, k0, k1, k2, k3, k5, mN, hC, hN, hni, OT⟩ := exc_obj I.kIn q
  refine wpAny_call_exc_subT PySem.F.excBase_Exception OT hC hN hni (fun h' e hm => ?_) (by show 0 ≤ sizeLine; exact Nat.zero_le _)
  exact mk_of I hm (raises_own T.exC T.tyC) h (I.hok.gone hm.new)
/-- isinstance(e, c), e the exception that the suite holds -/
def rIsS (K : PySem.W.Frag) (a : Addr) (cls : Value) (d : Option Addr) : List V → Hp → VK → Prop := fun xs H Q => ∃ (D : Addr) (c : V) (cv : Value) (b : Bool), xs = [.ref a, c] ∧ cls = .ref D ∧ ExcT K D ∧ (∀ dd, d = some dd → ∃ fs, H dd = some (.xd fs)) ∧
  (∀ u, RelV c u → u = cv) ∧ PySem.W.kitOne K (.ref D) cv = some b ∧ Q (.bl b) H
theorem call_isS {a : Addr} {oe : Obj} {cls : Value} {d : Option Addr} {pn : List (Addr × Obj)} (hz : Zc cls d oe) (hf : ∃ vs, oe.data = .fields vs) : CallR (X.suite a ((a, oe) :: pn)) (.builtin "isinstance") (rIsS X.K a cls d) := by
  intro pins s σ H xs us Q I r h
  obtain ⟨D, c, cv, b, rfl, rfl, T, hd, hcv, e, q⟩ := h
  obtain ⟨u1, u2, rfl, rx, rt⟩ := vals2 r
  cases rx
  have ec := hcv _ rt
  subst ec
  obtain ⟨hget, _⟩ := I.pin (a, oe) (List.mem_append.mpr (.inl List.mem_cons_self))
  obtain ⟨vs, hv⟩ := hf
  have hcl : (PySem.W.clsIn X.K D).isSome = true := by
    obtain ⟨cd, hc, _⟩ := PySem.W.any_some T.hdC
    rw [hc] <;> rfl
  have J : ∃ oo : Option Obj, PySem.W.InstAt s.heap a oe D oo := by
    obtain ⟨oc, od, oda, osl⟩ := oe
    obtain ⟨h1, h2⟩ := hz
    dsimp only at h1 h2 hv
    subst h1 h2 hv
    cases od with
    | none => exact ⟨none, hget, rfl, rfl, trivial⟩
    | some dd =>
      obtain ⟨fs, hh⟩ := hd dd rfl
      have hx : ObjOk X.prog X.w H s.heap dd (.xd fs) := I.hok dd _ hh
      obtain ⟨mA, hns, _⟩ := hx
      obtain ⟨o, ho, _⟩ := lookIn_ns hns
      exact ⟨some o, hget, rfl, rfl, ho⟩
  obtain ⟨oo, J⟩ := J
  exact PySem.W.kia_one (PySem.W.kitx_exc hcl T.ga T.gg T.exC T.ca T.cn T.ct T.cm) I.kIn J e (fun z => nomatch z) fun tk => ⟨.bl b, H, I.kept (t' := tk) fun _ _ z => z, rfl, q⟩
end
end My
set_option Elab.async false
set_option linter.all false
set_option maxRecDepth 100000
set_option maxHeartbeats 4000000
namespace My
open PySem PySem.Spec PyProof.Rows L2
def top (i : Nat) : Stmt := PySem.Challenge.pw_stemsure_k00_errors.main.body.getD i (.Pass ⟨0, 0, 0, 0⟩)
abbrev s_numbers : Stmt := top 10
abbrev s_draw : Stmt := top 11
abbrev s_take : Stmt := top 12
/-- what is built in stays so -/
structure Blt (mg : Str → Option Value) : Prop where
  len : mg "len" = none
  int : mg "int" = none
  range : mg "range" = none
/-- _law_numbers: a new list of ints, not empty -/
def sp_numbers (K : PySem.W.Frag) : Sp := fun vs H Q _ => ∃ (a : Addr) (ns : List Int), vs = [.ref a] ∧ SqL K H a (ns.map V.int) ∧ ns.length ≤ 63 ∧
  ∀ (p : Addr) (ms : List Int) (H' : Hp), Same H H' → H p = none → ms ≠ [] → H' p = some (.lst (ms.map V.int)) → Q (.ref p) H'
/-- row: a list of ints, not empty -/
def Row (K : PySem.W.Frag) (H : Hp) (a : Addr) : Prop := ∃ ms : List Int, ms ≠ [] ∧ SqL K H a (ms.map V.int)
def sp_draw (K : PySem.W.Frag) : Sp := fun vs H Q _ => ∃ (a : Addr) (j : Nat) (lim : Int), vs = [.ref a, .int (j : Int), .int lim] ∧ Row K H a ∧ 0 < lim ∧ ∀ n : Int, 0 ≤ n → n < lim → Q (.int n) H
/-- row at a, not empty, and spot at s -/
structure Dr (H : Hp) (a s : Addr) : Prop where
  ne : a ≠ s
  row : ∃ ms : List Int, ms ≠ [] ∧ H a = some (.lst (ms.map V.int))
  spot : ∃ i : Nat, H s = some (.lst [.int (i : Int)])
theorem Dr.fr {H H' : Hp} {a s : Addr} (D : Dr H a s) (e : Fr s H H') (h : ∃ i : Nat, H' s = some (.lst [.int (i : Int)])) : Dr H' a s := by
  obtain ⟨ms, h1, h2⟩ := D.row
  exact ⟨D.ne, ⟨ms, h1, e _ _ D.ne h2⟩, h⟩
theorem Dr.same {H H' : Hp} {a s : Addr} (D : Dr H a s) (e : Same H H') : Dr H' a s := by
  obtain ⟨ms, h1, h2⟩ := D.row
  obtain ⟨i, h3⟩ := D.spot
  exact ⟨D.ne, ⟨ms, h1, e _ _ h2⟩, i, e _ _ h3⟩
/-- another list or dict changes -/
theorem Dr.upd {H : Hp} {a s p : Addr} {o : HO} (D : Dr H a s) (h1 : a ≠ p) (h2 : s ≠ p) : Dr (upd H p o) a s := by
  obtain ⟨ms, g1, g2⟩ := D.row
  obtain ⟨i, g3⟩ := D.spot
  exact ⟨D.ne, ⟨ms, g1, by rw [upd_ne h1]; exact g2⟩, i, by rw [upd_ne h2]; exact g3⟩
theorem Dr.na {H : Hp} {a s p : Addr} (D : Dr H a s) (h : H p = none) : a ≠ p := by
  obtain ⟨ms, g1, g2⟩ := D.row
  exact ne_of_none g2 h
theorem Dr.ns {H : Hp} {a s p : Addr} (D : Dr H a s) (h : H p = none) : s ≠ p := by
  obtain ⟨i, g⟩ := D.spot
  exact ne_of_none g h
theorem Dr.tp {H H' : Hp} {a s : Addr} (D : Dr H a s) (e : Fr s H H') : Tp H H' := by
  obtain ⟨i, g⟩ := D.spot
  exact e.tp g
def sp_take : Sp := fun vs H Q _ => ∃ (a s : Addr) (lim : Int), vs = [.ref a, .ref s, .int lim] ∧ Dr H a s ∧ 0 < lim ∧ ∀ (n : Int) (H' : Hp), 0 ≤ n → n < lim → Fr s H H' → Dr H' a s → Q (.int n) H'
section
variable {P : Program} {w : World} {K : PySem.W.Frag} {mg : Str → Option Value} {base : Heap}
theorem sc_numbers : FnScope ["script", "row", "cell", "left", "k", "mixed"] ["script"] (defScope s_numbers) := ⟨rfl, rfl, rfl, by decide +kernel, rfl, by decide +kernel, by decide +kernel⟩
theorem c_numbers (B : Blt mg) (S : Stands K mg "_law_numbers" s_numbers) : Cal P w K mg base CX0 "_law_numbers" 1 ["script"] (sp_numbers K) := by
  refine cal0 S sc_numbers (fun _ _ _ _ _ _ us hl => match us, hl with | [_], _ => rfl) (fun vs H Q E h => ?_) (fun f cdv A outer s H vs Q E hr h => ?_)
  · obtain ⟨a, ns, rfl, _⟩ := h
    rfl
  obtain ⟨a, ns, rfl, hS, hlen, q⟩ := h
  have nd := sc_numbers.nd
  refine ⟨_, pss_cons (ps_set (i := 1) nd rfl (.inl rfl) (pe_lst pa_nil))
    (pss_cons (ps_for PassesOwn.never rfl (pi_list (pe_slice sl_list (pv 0) po_none (po_some pe_int))) (pg_name (i := 2) nd rfl (.inl rfl))
      (pss_one (ps_if (pt_cmpR op_ge (pv 2) (pe_op op_pow pe_int pe_int) (nomark _))
        (pss_cons (ps_set (i := 3) nd rfl (.inl rfl) (pv 2))
          (pss_one (ps_for PassesOwn.never rfl (pi_range1 rfl B.range (pa_cons pe_int pa_nil)) (pg_name (i := 4) nd rfl (.inl rfl))
            (pss_cons (ps_if (pt_cmpR op_eq (pv 3) pe_int (nomark _)) (pss_one ps_break) pss_nil)
            (pss_cons (ps_expr (pe_bm PySem.F.plainAttrs_list PySem.F.slot_list_append PySem.F.type_list_append mt_append (pv 1) (pa_cons (pe_op op_mod (pe_callTy call_int1 (by rfl) B.int (by decide +kernel) (pa_cons (pv 3) pa_nil)) pe_int) pa_nil)))
            (pss_one (ps_set (i := 3) nd rfl (.inl rfl) (pe_op op_fdiv (pv 3) pe_int))))))))
        (pss_one (ps_for PassesOwn.never rfl (pi_range1 rfl B.range (pa_cons pe_int pa_nil)) (pg_name (i := 4) nd rfl (.inl rfl))
            (pss_cons (ps_set (i := 5) nd rfl (.inl rfl) (pe_op op_mod (pe_callTy call_int1 (by rfl) B.int (by decide +kernel) (pa_cons (pe_op op_add (pe_op op_add (pe_op op_mul (pv 2) pe_int) (pe_op op_mul (pv 4) pe_int)) pe_int) pa_nil)) pe_int))
            (pss_one (ps_expr (pe_bm PySem.F.plainAttrs_list PySem.F.slot_list_append PySem.F.type_list_append mt_append (pv 1) (pa_cons (pe_op op_mod (pe_callTy call_int1 (by rfl) B.int (by decide +kernel) (pa_cons (pe_op op_add (pe_op op_mul (pv 5) pe_int) (pv 4)) pa_nil)) pe_int) pa_nil))))))))))
    (pss_cons (ps_if (pt_cmpR op_eq (pe_callB call_len_seq (by rfl) B.len PySem.boot_len (pa_cons (pv 1) pa_nil)) pe_int (nomark _))
      (pss_one (ps_expr (pe_bm PySem.F.plainAttrs_list PySem.F.slot_list_append PySem.F.type_list_append mt_append (pv 1) (pa_cons pe_int pa_nil)))) pss_nil)
    (pss_one (ps_ret (pv 1))))), ?_⟩
  refine ⟨Nat.zero_le _, fun p hp => ?_⟩
  -- for cell in script[:63]
  refine ⟨_, rfl, 63, rfl, a, _, rfl, (same_new hp _).seq hS, fun c hc => ?_⟩
  have ncp : c ≠ p := fun e => by rw [e, upd_same] at hc; cases hc
  have hc0 : H c = none := by rw [upd_ne ncp] at hc; exact hc
  generalize hxs : cutV (ns.map V.int) none (some 63) = xs
  have hx : ∀ v ∈ xs, ∃ z, v = V.int z := fun v hv => by
    rw [← hxs] at hv
    unfold cutV at hv
    have h1 := List.mem_of_mem_drop (List.mem_of_mem_take hv)
    obtain ⟨z, _, e⟩ := List.mem_map.mp h1
    exact ⟨z, e.symm⟩
  have hx63 : xs.length ≤ 63 := by
    rw [← hxs]
    unfold cutV
    rw [List.length_take, List.length_drop, List.length_map]
    omega
  refine ⟨c, rfl, ⟨_, SqL.of upd_same⟩, for_list (K := K) (a := c) (xs := xs) (fun i σ H' => ∃ (ms : List Int) (v2 v3 v4 v5 : Option V), σ = [some (.ref a), some (.ref p), v2, v3, v4, v5] ∧ Same H H' ∧ H' c = some (.lst xs) ∧ H' p = some (.lst (ms.map V.int)) ∧ ms.length ≤ 60 * i)
    ⟨[], none, none, none, none, rfl, (same_new hp _).trans (same_new hc _), upd_same, by rw [upd_ne ncp.symm, upd_same] <;> rfl, Nat.zero_le _⟩ (fun i σ H' _ ⟨_, _, _, _, _, _, _, h, _⟩ => SqL.of h) ?_ ?_⟩
  · rintro i y σ H' hi ⟨ms, v2, v3, v4, v5, rfl, sm, hcc, hpp, hl⟩
    have i63 : i < 63 := Nat.lt_of_lt_of_le (List.getElem?_eq_some_iff.mp hi).1 hx63
    obtain ⟨z, rfl⟩ := hx y (List.mem_of_getElem? hi)
    refine ⟨_, rfl, 10, 18, rfl, rfl, ⟨by decide, by decide, by decide⟩, _, _, rfl, rfl, _, rfl, ?_⟩
    refine ite2 (fun _ => ?_) (fun _ => ?_)
    · refine ⟨_, rfl, 60, rfl, by decide, by decide, for_range (lo := 0) (n := 60) (fun j σ H' => ∃ (ms : List Int) (l : Int) (v4 v5 : Option V), σ = [some (.ref a), some (.ref p), some (.int z), some (.int l), v4, v5] ∧ Same H H' ∧ H' c = some (.lst xs) ∧ H' p = some (.lst (ms.map V.int)) ∧ ms.length ≤ 60 * i + j)
        ⟨ms, z, v4, v5, rfl, sm, hcc, hpp, by omega⟩ ?_ ?_⟩
      · rintro j σ H' hj ⟨ms, l, v4, v5, rfl, sm, hcc, hpp, hl⟩
        refine ⟨_, rfl, rfl, _, rfl, ite2 (fun _ => ?_) (fun _ => ?_)⟩
        · exact ⟨ms, _, _, _, _, rfl, sm, hcc, hpp, by omega⟩
        · refine ⟨_, rfl, .inl ⟨rfl, _, SqL.of hpp⟩, _, rfl, .inl ⟨_, rfl, _, _, rfl, rfl, (by show (0 : Int) < _; decide), p, _, _, rfl, rfl, hpp, ?_, _, rfl, _, _, rfl, rfl, ⟨by decide, by decide⟩, ms ++ [l % 997], l / 997, _, _, rfl, fun b o e => ?_, ?_, ?_, ?_⟩⟩
          · rw [List.length_map]; exact Nat.lt_of_le_of_lt (show ms.length ≤ 4000 by omega) (by decide)
          · rw [upd_ne (ne_of_none e hp)]; exact sm b o e
          · rw [upd_ne ncp]; exact hcc
          · rw [upd_same, List.map_append] <;> rfl
          · rw [List.length_append]; show ms.length + 1 ≤ _; omega
      · rintro σ H' ⟨ms, l, v4, v5, rfl, sm, hcc, hpp, hl⟩
        exact ⟨ms, _, _, _, _, rfl, sm, hcc, hpp, by omega⟩
    · refine ⟨4, rfl, by decide, by decide, for_range (lo := 0) (n := 4) (fun j σ H' => ∃ (ms : List Int) (v3 v4 v5 : Option V), σ = [some (.ref a), some (.ref p), some (.int z), v3, v4, v5] ∧ Same H H' ∧ H' c = some (.lst xs) ∧ H' p = some (.lst (ms.map V.int)) ∧ ms.length ≤ 60 * i + j)
        ⟨ms, v3, v4, v5, rfl, sm, hcc, hpp, by omega⟩ ?_ ?_⟩
      · rintro j σ H' hj ⟨ms, v3, v4, v5, rfl, sm, hcc, hpp, hl⟩
        refine ⟨_, rfl, _, _, rfl, rfl, .inr ⟨by decide, by decide⟩, _, rfl, _, _, rfl, rfl, .inr ⟨by decide, by decide⟩, _, _, rfl, rfl, _, _, rfl, rfl, .inl ⟨_, rfl, _, _, rfl, rfl, (by show (0 : Int) < _; decide), ?_⟩⟩
        refine ⟨_, rfl, .inl ⟨rfl, _, SqL.of hpp⟩, _, rfl, _, _, rfl, rfl, .inr ⟨by decide, by decide⟩, _, rfl, _, _, rfl, rfl, .inl ⟨_, rfl, _, _, rfl, rfl, (by show (0 : Int) < _; decide), p, _, _, rfl, rfl, hpp, ?_, ms ++ [((z * 48271 + (0 + (j:Int)) * 69621 + 11) % 2147483647 * 16807 + (0 + (j:Int))) % 2147483629], _, _, _, rfl, fun b o e => ?_, ?_, ?_, ?_⟩⟩
        · rw [List.length_map]; exact Nat.lt_of_le_of_lt (show ms.length ≤ 4000 by omega) (by decide)
        · rw [upd_ne (ne_of_none e hp)]; exact sm b o e
        · rw [upd_ne ncp]; exact hcc
        · rw [upd_same, List.map_append] <;> rfl
        · rw [List.length_append]; show ms.length + 1 ≤ _; omega
      · rintro σ H' ⟨ms, v3, v4, v5, rfl, sm, hcc, hpp, hl⟩
        exact ⟨ms, _, _, _, _, rfl, sm, hcc, hpp, by omega⟩
  · rintro σ H' ⟨ms, v2, v3, v4, v5, rfl, sm, hcc, hpp, hl⟩
    refine ⟨_, rfl, p, _, rfl, .inl (SqL.of hpp), rfl, _, rfl, ite2 (fun e => ?_) (fun e => ?_)⟩
    · refine ⟨_, rfl, .inl ⟨rfl, _, SqL.of hpp⟩, p, _, _, rfl, rfl, hpp, ?_, _, rfl, q p (ms ++ [0]) _ (fun b o e => ?_) hp (by simp) ?_⟩
      · rw [List.length_map]; exact Nat.lt_of_le_of_lt (show ms.length ≤ 4000 by omega) (by decide)
      · rw [upd_ne (ne_of_none e hp)]; exact sm b o e
      · rw [upd_same, List.map_append] <;> rfl
    · refine ⟨_, rfl, q p ms _ sm hp (fun z => ?_) hpp⟩
      subst z
      exact e (decide_eq_true rfl)
theorem sc_draw : FnScope ["row", "at", "limit", "mixed"] ["row", "at", "limit"] (defScope s_draw) := ⟨rfl, rfl, rfl, by decide +kernel, rfl, by decide +kernel, by decide +kernel⟩
theorem atI_lt {ms : List Int} {i : Int} (h0 : 0 ≤ i) (h : i < (ms.length : Int)) : ∃ z, atI (ms.map V.int) i = some (V.int z) := by
  obtain ⟨j, rfl⟩ : ∃ j : Nat, i = (j : Int) := ⟨i.toNat, by omega⟩
  have hj : j < ms.length := by omega
  exact ⟨ms[j], atI_nat (by rw [List.getElem?_map, List.getElem?_eq_getElem hj] <;> rfl)⟩
theorem c_draw (B : Blt mg) (S : Stands K mg "_law_draw" s_draw) : Cal P w K mg base CX0 "_law_draw" 1 ["row", "at", "limit"] (sp_draw K) := by
  refine cal0 S sc_draw (fun _ _ _ _ _ _ us hl => match us, hl with | [_, _, _], _ => rfl) (fun vs H Q E h => ?_) (fun f cdv A outer s H vs Q E hr h => ?_)
  · obtain ⟨a, ns, _, rfl, _⟩ := h
    rfl
  obtain ⟨a, j, lim, rfl, ⟨ms, hne, hS⟩, hlim, q⟩ := h
  have nd := sc_draw.nd
  have hl0 : 0 < ms.length := List.length_pos_iff.mpr hne
  refine ⟨_, pss_cons (ps_if (pt_cmpR op_lt (pv 1) (pe_callB call_len_seq (by rfl) B.len PySem.boot_len (pa_cons (pv 0) pa_nil)) (nomark _))
      (pss_one (ps_ret (pe_op op_mod (pe_callTy call_int1 (by rfl) B.int (by decide +kernel) (pa_cons (pe_ix ix_list (pv 0) (pv 1) (fun _ _ => rfl)) pa_nil)) (pv 2)))) pss_nil)
    (pss_cons (ps_set (i := 3) nd rfl (.inl rfl) (pe_op op_mod (pe_callTy call_int1 (by rfl) B.int (by decide +kernel) (pa_cons (pe_op op_add (pe_op op_add (pe_op op_mul
        (pe_ix ix_list (pv 0) (pe_op op_mod (pe_callTy call_int1 (by rfl) B.int (by decide +kernel) (pa_cons (pv 1) pa_nil)) (pe_callB call_len_seq (by rfl) B.len PySem.boot_len (pa_cons (pv 0) pa_nil))) (fun _ _ => rfl)) pe_int) (pe_op op_mul (pv 1) pe_int)) pe_int) pa_nil)) pe_int))
    (pss_one (ps_ret (pe_op op_mod (pe_callTy call_int1 (by rfl) B.int (by decide +kernel) (pa_cons (pe_op op_mod (pe_callTy call_int1 (by rfl) B.int (by decide +kernel) (pa_cons (pe_op op_add (pe_op op_mul (pv 3) pe_int) (pv 1)) pa_nil)) pe_int) pa_nil)) (pv 2))))), ?_⟩
  have hlen : (ms.map V.int).length = ms.length := List.length_map _
  have fin : ∀ z : Int, Q (.int (z % lim)) H := fun z => q _ (Int.emod_nonneg z (by omega)) (Int.emod_lt_of_pos z hlim)
  refine ⟨_, rfl, _, rfl, a, _, rfl, .inl hS, _, _, rfl, rfl, _, rfl, ite2 (fun c => ?_) (fun _ => ?_)⟩
  · have c' := of_decide_eq_true c
    rw [hlen] at c'
    obtain ⟨z, hz⟩ := atI_lt (ms := ms) (i := (j : Int)) (by omega) (by omega)
    exact ⟨_, rfl, _, rfl, a, _, _, _, rfl, rfl, hS, hz, .inl ⟨_, rfl, _, rfl, _, _, rfl, rfl, hlim, fin z⟩⟩
  · obtain ⟨z, hz⟩ := atI_lt (ms := ms) (i := (j : Int) % (ms.length : Int)) (Int.emod_nonneg _ (by omega)) (Int.emod_lt_of_pos _ (by omega))
    refine ⟨_, rfl, _, rfl, .inl ⟨_, rfl, _, rfl, a, _, rfl, .inl hS, _, _, rfl, rfl, (by show (0 : Int) < _; rw [hlen]; omega), a, _, _, _, rfl, rfl, hS, (by rw [hlen]; exact hz), _, _, rfl, rfl, .inr ⟨by decide, by decide⟩, ?_⟩⟩
    refine ⟨_, rfl, _, _, rfl, rfl, .inr ⟨by decide, by decide⟩, _, _, rfl, rfl, _, _, rfl, rfl, .inl ⟨_, rfl, _, _, rfl, rfl, (by show (0 : Int) < _; decide), ?_⟩⟩
    exact ⟨_, rfl, _, _, rfl, rfl, .inr ⟨by decide, by decide⟩, _, rfl, _, _, rfl, rfl, .inl ⟨_, rfl, _, _, rfl, rfl, (by show (0 : Int) < _; decide), .inl ⟨_, rfl, _, rfl, _, _, rfl, rfl, hlim, fin _⟩⟩⟩
theorem sc_take : FnScope ["row", "spot", "limit"] ["row", "spot", "limit"] (defScope s_take) := ⟨rfl, rfl, rfl, by decide +kernel, rfl, by decide +kernel, by decide +kernel⟩
theorem c_take (S : Stands K mg "_law_take" s_take) (cd : Cal P w K mg base CX0 "_law_draw" 1 ["row", "at", "limit"] (sp_draw K)) : Cal P w K mg base CX0 "_law_take" 2 ["row", "spot", "limit"] sp_take := by
  refine cal0 S sc_take (fun _ _ _ _ _ _ us hl => match us, hl with | [_, _, _], _ => rfl) (fun vs H Q E h => ?_) (fun f cdv A outer s H vs Q E hr h => ?_)
  · obtain ⟨a, ns, _, rfl, _⟩ := h
    rfl
  obtain ⟨a, s, lim, rfl, D, hlim, q⟩ := h
  obtain ⟨ms, hne, hS⟩ := D.row
  obtain ⟨i, hs⟩ := D.spot
  have nd := sc_take.nd
  refine ⟨_, pss_cons (ps_asg (pe_op op_add (pe_ix ix_list (pv 1) pe_int (fun _ _ => rfl)) pe_int) (pg_sub (pv 1) pe_int set_list))
    (pss_one (ps_ret (pe_c cd hr (pa_cons (pv 0) (pa_cons (pe_op op_sub (pe_ix ix_list (pv 1) pe_int (fun _ _ => rfl)) pe_int) (pa_cons (pv 2) pa_nil)))))), ?_⟩
  refine ⟨_, rfl, s, _, _, _, rfl, rfl, SqL.of hs, rfl, _, _, rfl, rfl, _, rfl, s, _, _, _, rfl, rfl, hs, rfl, ?_⟩
  refine ⟨_, rfl, _, rfl, s, _, _, _, rfl, rfl, SqL.of upd_same, rfl, _, _, rfl, rfl, _, rfl, a, i, lim, ?_, ⟨ms, hne, ?_⟩, hlim, fun n h0 h1 => ?_⟩
  · show [V.ref a, V.int ((i : Int) + 1 - 1), V.int lim] = _
    rw [Int.add_sub_cancel]
  · exact SqL.of (by rw [upd_ne D.ne]; exact hS)
  · have fr : Fr s H (upd H s (.lst [.int (((i + 1 : Nat)) : Int)])) := Fr.at_
    exact q n _ h0 h1 fr (D.fr fr ⟨i + 1, upd_same⟩)
end
end My
set_option Elab.async false
set_option linter.all false
set_option maxRecDepth 100000
set_option maxHeartbeats 4000000
namespace My
open PySem PySem.Spec PyProof.Rows L2
structure BltI (mg : Str → Option Value) : Prop where
  len : mg "len" = none
  int : mg "int" = none
  range : mg "range" = none
  isinstance : mg "isinstance" = none
  tuple : mg "tuple" = none
  list : mg "list" = none
  bool : mg "bool" = none
  str : mg "str" = none
abbrev s_so : Stmt := top 9
abbrev N_so : List Str := ["found", "meant", "k"]
/-- the same data, of tuples, twice: True -/
def sp_so (K : PySem.W.Frag) (n : Nat) : Sp := fun vs H Q _ => ∃ (v1 v2 : V) (d : PyData), vs = [v1, v2] ∧ Dp K H v1 d ∧ Dp K H v2 d ∧ tupd d = true ∧ dep d < n ∧ Q (.bl true) H
theorem ite_not_true {A B : Prop} (h : B) : if (!true) = true then A else B := h
section
variable {P : Program} {w : World} {K : PySem.W.Frag} {mg : Str → Option Value} {base : Heap}
theorem sc_so : FnScope N_so ["found", "meant"] (defScope s_so) := ⟨rfl, rfl, rfl, by decide +kernel, rfl, by decide +kernel, by decide +kernel⟩
theorem c_so1 {n : Nat} (B : BltI mg) (S : Stands K mg "_law_so" s_so) (c_so : Cal P w K mg base CX0 "_law_so" n ["found", "meant"] (sp_so K n)) : Cal P w K mg base CX0 "_law_so" (n + 1) ["found", "meant"] (sp_so K (n + 1)) := by
  refine cal0 S sc_so (fun _ _ _ _ _ _ us hl => match us, hl with | [_, _], _ => rfl) (fun vs H Q E h => ?_) (fun f cdv A outer s H vs Q E hr h => ?_)
  · obtain ⟨v1, v2, d, rfl, _⟩ := h
    rfl
  have nd := sc_so.nd
  obtain ⟨v1, v2, d, rfl, h1, h2, ht, hd, q⟩ := h
  refine ⟨_, (pss_cons (ps_if (pt_cmpR op_isN (pv 1) pe_non (nomark _)) (pss_one (ps_ret (pe_cmpR op_isN (pv 0) pe_non (nomark _)))) pss_nil)
    (pss_cons (ps_if (pt_val (pe_callB call_isi (by rfl) B.isinstance (by decide +kernel) (pa_cons (pv 1) (pa_cons (pe_bltn (v := .ty "tuple") (by rfl) B.tuple (by decide +kernel) rfl) pa_nil)))) (pss_cons (ps_if (PW.pt (pw_or (pt_not (pt_val (pe_callB call_isi (by rfl) B.isinstance (by decide +kernel) (pa_cons (pv 0) (pa_cons (pe_bltn (v := .ty "tuple") (by rfl) B.tuple (by decide +kernel) rfl) pa_nil))))) (pw_or1 (pt_cmpR op_ne (pe_callB call_len_seq (by rfl) B.len PySem.boot_len (pa_cons (pv 0) pa_nil)) (pe_callB call_len_seq (by rfl) B.len PySem.boot_len (pa_cons (pv 1) pa_nil)) (nomark _))))) (pss_one (ps_ret pe_bl)) pss_nil)
    (pss_cons (ps_for PassesOwn.never rfl (pi_range1 rfl B.range (pa_cons (pe_callB call_len_seq (by rfl) B.len PySem.boot_len (pa_cons (pv 1) pa_nil)) pa_nil)) (pg_name (i := 2) nd rfl (Or.inl rfl))
    (pss_one (ps_if (pt_not (pt_val (pe_c c_so hr (pa_cons (pe_ix ix_tup (pv 0) (pv 2) (fun _ _ => rfl)) (pa_cons (pe_ix ix_tup (pv 1) (pv 2) (fun _ _ => rfl)) pa_nil))))) (pss_one (ps_ret pe_bl)) pss_nil)))
    (pss_one (ps_ret pe_bl)))) pss_nil)
    (pss_cons (ps_if (PW.pt (pw_or (pt_val (pe_callB call_isi (by rfl) B.isinstance (by decide +kernel) (pa_cons (pv 1) (pa_cons (pe_bltn (v := .ty "bool") (by rfl) B.bool (by decide +kernel) rfl) pa_nil)))) (pw_or1 (pt_val (pe_callB call_isi (by rfl) B.isinstance (by decide +kernel) (pa_cons (pv 0) (pa_cons (pe_bltn (v := .ty "bool") (by rfl) B.bool (by decide +kernel) rfl) pa_nil))))))) (pss_one (ps_ret (pe_and (pe_callB call_isi (by rfl) B.isinstance (by decide +kernel) (pa_cons (pv 1) (pa_cons (pe_bltn (v := .ty "bool") (by rfl) B.bool (by decide +kernel) rfl) pa_nil))) (pe_and (pe_callB call_isi (by rfl) B.isinstance (by decide +kernel) (pa_cons (pv 0) (pa_cons (pe_bltn (v := .ty "bool") (by rfl) B.bool (by decide +kernel) rfl) pa_nil))) (pe_one (pe_cmpR op_eq (pv 0) (pv 1) (nomark _))))))) pss_nil)
    (pss_cons (ps_if (pt_val (pe_callB call_isi (by rfl) B.isinstance (by decide +kernel) (pa_cons (pv 1) (pa_cons (pe_bltn (v := .ty "int") (by rfl) B.int (by decide +kernel) rfl) pa_nil)))) (pss_one (ps_ret (pe_and (pe_callB call_isi (by rfl) B.isinstance (by decide +kernel) (pa_cons (pv 0) (pa_cons (pe_bltn (v := .ty "int") (by rfl) B.int (by decide +kernel) rfl) pa_nil))) (pe_one (pe_cmpR op_eq (pv 0) (pv 1) (nomark _)))))) pss_nil)
    (pss_one (ps_ret (pe_and (pe_callB call_isi (by rfl) B.isinstance (by decide +kernel) (pa_cons (pv 1) (pa_cons (pe_bltn (v := .ty "str") (by rfl) B.str (by decide +kernel) rfl) pa_nil))) (pe_and (pe_callB call_isi (by rfl) B.isinstance (by decide +kernel) (pa_cons (pv 0) (pa_cons (pe_bltn (v := .ty "str") (by rfl) B.str (by decide +kernel) rfl) pa_nil))) (pe_one (pe_cmpR op_eq (pv 0) (pv 1) (nomark _))))))))))), ?_⟩
  refine r_ifN ⟨_, rfl, rfl, _, rfl, ?_⟩
  cases h2 with
  | non =>
    cases h1
    exact iteT ⟨_, rfl, rfl, q⟩
  | bl b =>
    cases h1
    refine iteF (r_ifN ?_)
    refine r_isi K "tuple" rfl (.bl b) kb_bool_tuple (iteF (r_ifN (r_or ?_)))
    refine r_isi K "bool" rfl (.bl b) kb_bool_bool (iteT (iteT (r_ret (r_andV ?_))))
    refine e_isi K "bool" rfl (.bl b) kb_bool_bool ⟨_, rfl, iteT (r_andV ?_)⟩
    refine e_isi K "bool" rfl (.bl b) kb_bool_bool ⟨_, rfl, iteT ⟨_, rfl, _, rfl, rfl, ?_⟩⟩
    rw [decide_eq_true rfl]
    exact q
  | int i =>
    cases h1
    refine iteF (r_ifN ?_)
    refine r_isi K "tuple" rfl (.int i) kb_int_tuple (iteF (r_ifN (r_or ?_)))
    refine r_isi K "bool" rfl (.int i) kb_int_bool (iteF ?_)
    refine r_isi K "bool" rfl (.int i) kb_int_bool (iteF (r_ifN ?_))
    refine r_isi K "int" rfl (.int i) kb_int_int (iteT (r_ret (r_andV ?_)))
    refine e_isi K "int" rfl (.int i) kb_int_int ⟨_, rfl, iteT ⟨_, rfl, _, rfl, rfl, ?_⟩⟩
    rw [decide_eq_true rfl]
    exact q
  | str x =>
    cases h1
    refine iteF (r_ifN ?_)
    refine r_isi K "tuple" rfl (.str x) kb_str_tuple (iteF (r_ifN (r_or ?_)))
    refine r_isi K "bool" rfl (.str x) kb_str_bool (iteF ?_)
    refine r_isi K "bool" rfl (.str x) kb_str_bool (iteF (r_ifN ?_))
    refine r_isi K "int" rfl (.str x) kb_str_int (iteF (r_ret (r_andV ?_)))
    refine e_isi K "str" rfl (.str x) kb_str_str ⟨_, rfl, iteT (r_andV ?_)⟩
    refine e_isi K "str" rfl (.str x) kb_str_str ⟨_, rfl, iteT ⟨_, rfl, _, rfl, rfl, ?_⟩⟩
    rw [decide_eq_true rfl]
    exact q
  | lst => cases ht
  | @tup a xs ds hs ha =>
    cases h1 with
    | @tup b ys _ hs2 ha2 =>
    have l1 := dpa_len ha
    have l2 := dpa_len ha2
    refine iteF (r_ifN ?_)
    refine r_isi K "tuple" rfl (.tup hs ha) kb_tuple_tuple (iteT (r_ifN (r_or (r_not ?_))))
    refine r_isi K "tuple" rfl (.tup hs2 ha2) kb_tuple_tuple (iteF ?_)
    refine ⟨_, rfl, b, _, rfl, .inr hs2, _, rfl, a, _, rfl, .inr hs, rfl, _, rfl, ?_⟩
    rw [decide_eq_true (show V.int ((ys.length : Nat) : Int) = V.int ((xs.length : Nat) : Int) by rw [l1, l2])]
    refine iteF ⟨_, rfl, a, _, rfl, .inr hs, ((xs.length : Nat) : Int), rfl, ?_, ?_, ?_⟩
    · omega
    · have z := tupd_len ht
      omega
    · rw [show (((xs.length : Nat) : Int)).toNat = xs.length from rfl]
      refine for_range (lo := 0) (n := xs.length) (fun i σ H' => H' = H ∧ ∃ v, σ = [some (.ref b), some (.ref a), v]) ⟨rfl, _, rfl⟩ ?_ ?_
      · rintro i σ H' hi ⟨rfl, v, rfl⟩
        have e0 : (0 : Int) + (i : Int) = ((i : Nat) : Int) := Int.zero_add _
        obtain ⟨d, hdi, g1⟩ := dpa_getv ha (List.getElem?_eq_getElem hi)
        obtain ⟨u, hu, g2⟩ := dpa_get ha2 hdi
        refine ⟨_, rfl, _, rfl, b, ys, _, u, rfl, rfl, hs2, (by rw [e0]; exact atI_nat hu), _, rfl, _, rfl, a, xs, _, _, rfl, rfl, hs, (by rw [e0]; exact atI_nat (List.getElem?_eq_getElem hi)), ?_⟩
        refine ⟨_, _, d, rfl, g2, g1, tupdAll_mem (tupd_items ht) d (List.mem_of_getElem? hdi), ?_, _, rfl, ite_not_true ⟨rfl, _, rfl⟩⟩
        have z := depAll_mem (List.mem_of_getElem? hdi)
        rw [dep] at hd
        omega
      · rintro σ H' ⟨rfl, v, rfl⟩
        exact q
theorem c_so (B : BltI mg) (S : Stands K mg "_law_so" s_so) : ∀ n : Nat, Cal P w K mg base CX0 "_law_so" n ["found", "meant"] (sp_so K n)
  | 0 => by
    obtain ⟨f, fd, hm, F⟩ := S
    have no : ∀ vs H Q E, ¬ sp_so K 0 vs H Q E := fun vs H Q E h => by
      obtain ⟨_, _, _, _, _, _, _, h, _⟩ := h
      exact absurd h (Nat.not_lt_zero _)
    obtain ⟨oc, od, kV, doc, pm, an, cdv, ct, osl, e1, e2, _⟩ := F.ex
    exact ⟨f, fd, hm, F.kp, F.binds (ps := ["found", "meant"]) (fun _ _ _ _ _ _ us hl => match us, hl with | [_, _], _ => rfl), ⟨fun vs H Q E h => absurd h (no vs H Q E), fun A outer s H args us vs Q E _ _ _ _ h => absurd h (no vs H Q E)⟩, oc, od, osl, e2⟩
  | n + 1 => c_so1 B S (c_so B S n)
end
end My
set_option Elab.async false
set_option linter.all false
set_option maxRecDepth 100000
set_option maxHeartbeats 8000000
namespace My
open PySem PySem.Spec PyProof.Rows L2 PySem.MyX
abbrev s_of : Stmt := top 13
abbrev s_foreign : Stmt := top 14
abbrev s_caught : Stmt := top 15
abbrev s_law : Stmt := top 16
abbrev N_law : List Str := ["script", "row", "spot", "at", "other", "made", "every", "k", "one"]
/-- the classes, by number: BadValue, BadText, BadPaper, NoStem, TakenStem, TooMany -/
structure Six (K : PySem.W.Frag) (mg : Str → Option Value) (C : Nat → Addr) (S : Addr) : Prop where
  g0 : mg "BadValue" = some (.ref (C 0))
  g1 : mg "BadText" = some (.ref (C 1))
  g2 : mg "BadPaper" = some (.ref (C 2))
  g3 : mg "NoStem" = some (.ref (C 3))
  g4 : mg "TakenStem" = some (.ref (C 4))
  g5 : mg "TooMany" = some (.ref (C 5))
  gS : mg "StemError" = some (.ref S)
  T : ∀ i, i < 6 → ExcT K (C i)
  own : ∀ i j, i < 6 → j < 6 → PySem.W.kitOne K (.ref (C i)) (.ref (C j)) = some (decide (i = j))
  base : ∀ i, i < 6 → PySem.W.kitOne K (.ref (C i)) (.ref S) = some true
  ve : ∀ i, i < 6 → PySem.W.kitOne K (.ref (C i)) (.type "ValueError") = some false
  le : ∀ i, i < 6 → PySem.W.kitOne K (.ref (C i)) (.type "LookupError") = some false
  ae : ∀ i, i < 6 → PySem.W.kitOne K (.ref (C i)) (.type "ArithmeticError") = some false
  ex : ∀ i, i < 6 → PySem.W.kitOne K (.ref (C i)) (.type "Exception") = some true
  xm : ∀ i, i < 6 → PySem.W.exmOne K (.ref (C i)) (.ref S) = some true
  q5 : PySem.W.excIn K (C 5) exT "Exception.__new__" = true
  nA : ∀ i, i < 3 → PySem.W.findIn K (.ref (C i)) "at" = some none
  nW : ∀ i, i < 6 → 3 ≤ i → i < 5 → PySem.W.findIn K (.ref (C i)) "word" = some none
structure Mks (P : Program) (w : World) (K : PySem.W.Frag) (C : Nat → Addr) : Prop where
  m : ∀ i, i < 3 → Makes P w K (C i) "at"
  ma : ∀ i, i < 3 → MakesK P w K (C i) "at"
  n : ∀ i, 3 ≤ i → i < 5 → Makes P w K (C i) "word"
  nk : ∀ i, 3 ≤ i → i < 5 → MakesK P w K (C i) "word"
structure BltX (mg : Str → Option Value) : Prop extends BltI mg where
  ve : mg "ValueError" = none
  le : mg "LookupError" = none
  ae : mg "ArithmeticError" = none
  ex : mg "Exception" = none
/-- v is an exception object of the i-th class -/
def XAtN (H : Hp) (C : Nat → Addr) (i : Nat) (v : V) : Prop := ∃ (a : Addr) (od : Option Addr) (fs : List (Str × V)), v = .ref a ∧ H a = some (exo a (C i) od) ∧ ∀ d, od = some d → H d = some (exd d fs)
theorem XAtN.same {H H' : Hp} {C : Nat → Addr} {i : Nat} {v : V} (e : Same H H') (h : XAtN H C i v) : XAtN H' C i v := by
  obtain ⟨a, od, fs, rfl, h1, h2⟩ := h
  exact ⟨a, od, fs, rfl, e _ _ h1, fun d hd => e _ _ (h2 d hd)⟩
def sp_of (C : Nat → Addr) : Sp := fun vs H Q _ => ∃ (v : V) (i : Nat), vs = [v] ∧ XAtN H C i v ∧ i < 6 ∧ ∀ (p : Addr) (H' : Hp), Same H H' → H p = none → H' p = some (.lst ((List.range 6).map fun j => V.bl (decide (i = j)))) → Q (.ref p) H'
def sp_foreign (C : Nat → Addr) : Sp := fun vs H Q _ => ∃ (v : V) (i : Nat), vs = [v] ∧ XAtN H C i v ∧ i < 6 ∧ Q (.bl false) H
def sp_caught : Sp := fun vs H Q _ => ∃ (n : Int), vs = [.int n] ∧ ∀ H', Same H H' → Q (.bl (decide (n ≠ 0))) H'
section
variable {P : Program} {w : World} {K : PySem.W.Frag} {mg : Str → Option Value} {base : Heap} {C : Nat → Addr} {S : Addr}
theorem e_isX {σ : L2.St} {H : Hp} {i k : Nat} {v c : V} {cv : Value} {b : Bool} {Q : VK} (Z : Six K mg C S) (hv : σ[k]? = some (some v)) (h : XAtN H C i v) (hi : i < 6) (hc : ∀ u, RelV c u → u = cv) (hk : PySem.W.kitOne K (.ref (C i)) cv = some b) (q : Q (.bl b) H) :
    tCB (rIsX K) (tCons (tVar k) (tCons (tC c) tNil)) σ H Q := by
  obtain ⟨a, od, fs, rfl, h1, h2⟩ := h
  exact ⟨.ref a, hv, a, C i, od, fs, c, cv, b, rfl, Z.T i hi, h1, h2, hc, hk, q⟩
theorem r_isX {σ : L2.St} {H : Hp} {i k : Nat} {v c : V} {cv : Value} {b : Bool} {Q : Bool → Hp → Prop} (Z : Six K mg C S) (hv : σ[k]? = some (some v)) (h : XAtN H C i v) (hi : i < 6) (hc : ∀ u, RelV c u → u = cv) (hk : PySem.W.kitOne K (.ref (C i)) cv = some b) (q : Q b H) :
    tB (tCB (rIsX K) (tCons (tVar k) (tCons (tC c) tNil))) σ H Q := e_isX Z hv h hi hc hk ⟨b, rfl, q⟩
theorem rel_ref {a : Addr} : ∀ u, RelV (.ref a) u → u = Value.ref a := fun u h => h
theorem rel_ty {n : String} : ∀ u, RelV (.ty n) u → u = Value.type n := fun u h => h
theorem sc_of : FnScope ["value", "made"] ["value"] (defScope s_of) := ⟨rfl, rfl, rfl, by decide +kernel, rfl, by decide +kernel, by decide +kernel⟩
theorem c_of (B : BltX mg) (Z : Six K mg C S) (S0 : Stands K mg "_law_of" s_of) : Cal P w K mg base CX0 "_law_of" 1 ["value"] (sp_of C) := by
  refine cal0 S0 sc_of (fun _ _ _ _ _ _ us hl => match us, hl with | [_], _ => rfl) (fun vs H Q E h => ?_) (fun f cdv A outer s H vs Q E hr h => ?_)
  · obtain ⟨v, i, rfl, _⟩ := h
    rfl
  obtain ⟨v, i, rfl, hx, hi, q⟩ := h
  have nd := sc_of.nd
  refine ⟨_, (pss_cons (ps_set (i := 1) nd rfl (Or.inl rfl) (pe_lst (pa_cons (pe_callB call_isX (by rfl) B.isinstance (by decide +kernel) (pa_cons (pv 0) (pa_cons (pe_glob (v := .ref (C 0)) rfl Z.g0 rfl) pa_nil))) (pa_cons (pe_callB call_isX (by rfl) B.isinstance (by decide +kernel) (pa_cons (pv 0) (pa_cons (pe_glob (v := .ref (C 1)) rfl Z.g1 rfl) pa_nil))) (pa_cons (pe_callB call_isX (by rfl) B.isinstance (by decide +kernel) (pa_cons (pv 0) (pa_cons (pe_glob (v := .ref (C 2)) rfl Z.g2 rfl) pa_nil))) pa_nil)))))
    (pss_one (ps_ret (pe_op op_cat (pv 1) (pe_lst (pa_cons (pe_callB call_isX (by rfl) B.isinstance (by decide +kernel) (pa_cons (pv 0) (pa_cons (pe_glob (v := .ref (C 3)) rfl Z.g3 rfl) pa_nil))) (pa_cons (pe_callB call_isX (by rfl) B.isinstance (by decide +kernel) (pa_cons (pv 0) (pa_cons (pe_glob (v := .ref (C 4)) rfl Z.g4 rfl) pa_nil))) (pa_cons (pe_callB call_isX (by rfl) B.isinstance (by decide +kernel) (pa_cons (pv 0) (pa_cons (pe_glob (v := .ref (C 5)) rfl Z.g5 rfl) pa_nil))) pa_nil)))))))), ?_⟩
  refine r_set (e_lst (a_cons ?_))
  refine e_isX Z rfl hx hi rel_ref (Z.own i 0 hi (by decide)) (a_cons ?_)
  refine e_isX Z rfl hx hi rel_ref (Z.own i 1 hi (by decide)) (a_cons ?_)
  refine e_isX Z rfl hx hi rel_ref (Z.own i 2 hi (by decide)) ?_
  refine ⟨(by show 3 ≤ sizeLine; decide), fun p hp => ?_⟩
  have s1 : Same H (upd H p (.lst [.bl (decide (i = 0)), .bl (decide (i = 1)), .bl (decide (i = 2))])) := same_new hp _
  have hx1 := hx.same s1
  refine r_ret (e_op (e_var rfl (e_lst (a_cons ?_))))
  refine e_isX Z rfl hx1 hi rel_ref (Z.own i 3 hi (by decide)) (a_cons ?_)
  refine e_isX Z rfl hx1 hi rel_ref (Z.own i 4 hi (by decide)) (a_cons ?_)
  refine e_isX Z rfl hx1 hi rel_ref (Z.own i 5 hi (by decide)) ?_
  refine ⟨(by show 3 ≤ sizeLine; decide), fun p2 hp2 => ?_⟩
  have n12 : p ≠ p2 := fun e => by rw [← e, upd_same] at hp2; cases hp2
  refine ⟨p, p2, _, _, rfl, rfl, by rw [upd_ne n12, upd_same], upd_same, (by show 6 ≤ sizeLine; decide), fun p3 hp3 => ?_⟩
  exact q p3 _ (s1.trans ((same_new hp2 _).trans (same_new hp3 _))) (Same.free s1 (Same.free (same_new hp2 _) hp3)) upd_same
theorem sc_foreign : FnScope ["value"] ["value"] (defScope s_foreign) := ⟨rfl, rfl, rfl, by decide +kernel, rfl, by decide +kernel, by decide +kernel⟩
theorem c_foreign (B : BltX mg) (Z : Six K mg C S) (S0 : Stands K mg "_law_foreign" s_foreign) : Cal P w K mg base CX0 "_law_foreign" 1 ["value"] (sp_foreign C) := by
  refine cal0 S0 sc_foreign (fun _ _ _ _ _ _ us hl => match us, hl with | [_], _ => rfl) (fun vs H Q E h => ?_) (fun f cdv A outer s H vs Q E hr h => ?_)
  · obtain ⟨v, i, rfl, _⟩ := h
    rfl
  obtain ⟨v, i, rfl, hx, hi, q⟩ := h
  have nd := sc_foreign.nd
  refine ⟨_, (pss_cons (ps_if (PW.pt (pw_or (pt_val (pe_callB call_isX (by rfl) B.isinstance (by decide +kernel) (pa_cons (pv 0) (pa_cons (pe_bltn (v := .ty "ValueError") (by rfl) B.ve (by decide +kernel) rfl) pa_nil)))) (pw_or1 (pt_val (pe_callB call_isX (by rfl) B.isinstance (by decide +kernel) (pa_cons (pv 0) (pa_cons (pe_bltn (v := .ty "LookupError") (by rfl) B.le (by decide +kernel) rfl) pa_nil))))))) (pss_one (ps_ret pe_bl)) pss_nil)
    (pss_one (ps_ret (pe_or (pe_callB call_isX (by rfl) B.isinstance (by decide +kernel) (pa_cons (pv 0) (pa_cons (pe_bltn (v := .ty "ArithmeticError") (by rfl) B.ae (by decide +kernel) rfl) pa_nil))) (pe_one (pe_not (pe_callB call_isX (by rfl) B.isinstance (by decide +kernel) (pa_cons (pv 0) (pa_cons (pe_bltn (v := .ty "Exception") (by rfl) B.ex (by decide +kernel) rfl) pa_nil))))))))), ?_⟩
  refine r_ifN (r_or ?_)
  refine r_isX Z rfl hx hi rel_ty (Z.ve i hi) (iteF ?_)
  refine r_isX Z rfl hx hi rel_ty (Z.le i hi) (iteF (r_ret (r_orV ?_)))
  refine e_isX Z rfl hx hi rel_ty (Z.ae i hi) ⟨_, rfl, iteF (r_notV ?_)⟩
  exact e_isX Z rfl hx hi rel_ty (Z.ex i hi) ⟨_, rfl, q⟩
theorem sc_caught : FnScope ["at", "wrong"] ["at"] (defScope s_caught) := ⟨rfl, rfl, rfl, by decide +kernel, rfl, by decide +kernel, by decide +kernel⟩
def t_caughtS (K : PySem.W.Frag) (C : Nat → Addr) : Addr → Value → Option Addr → TS := fun a cls d => tRet (tCB (rIsS K a cls d) (tCons (tVar 1) (tCons (tC (.ref (C 3))) tNil)))
def t_caughtB (C : Nat → Addr) (W : WX) : TS := tSeq (tIfS (tTest (tOp rEq (tVar 0) (tC (.int 0)))) (fun _ σ H => W (.ref (C 5)) none σ H) tNext) (tRaiseX (C 3) "word" W (tCons (tVar 0) tNil))
theorem c_caught (B : BltX mg) (Z : Six K mg C S) (M : Mks P w K C) (S0 : Stands K mg "_law_caught" s_caught) : Cal P w K mg base CX0 "_law_caught" 3 ["at"] sp_caught := by
  refine cal0 S0 sc_caught (fun _ _ _ _ _ _ us hl => match us, hl with | [_], _ => rfl) (fun vs H Q E h => ?_) (fun f cdv A outer s H vs Q E hr h => ?_)
  · obtain ⟨v, rfl, _⟩ := h
    rfl
  obtain ⟨n, rfl, q⟩ := h
  have nd := sc_caught.nd
  refine ⟨_, pss_one (ps_try_as (i := 1) (tb := fun W => t_caughtB C W) (ts := t_caughtS K C) (Wout := fun _ _ _ _ => False) rfl rfl nd rfl rfl ⟨rfl, by decide, Or.inl Z.gS⟩ takes0
    (fun W pn xe tk _ => pss_cons (ps_if (pt_cmpR op_eq (pv 0) pe_int (nomark _)) (pss_one (ps_raise rfl tk (pmk_0 (Z.T 5 (by decide)) Z.q5 Z.g5))) pss_nil) (pss_one (ps_raiseX (Z.T 3 (by decide)) (M.n 3 (by decide) (by decide)) Z.g3 hr tk (pa_cons (pv 0) pa_nil))))
    (fun a oe cls d pn hz hf => pss_one (ps_ret (pe_callB (call_isS hz hf) (by rfl) B.isinstance (by decide +kernel) (pa_cons (pv 1) (pa_cons (pe_glob (v := .ref (C 3)) rfl Z.g3 rfl) pa_nil)))))), ?_⟩
  refine r_ifN ⟨_, rfl, rfl, _, rfl, ite2 (fun e => ?_) (fun e => ?_)⟩
  · have e0 : n = 0 := V.int.inj (of_decide_eq_true e)
    refine ⟨true, Z.xm 5 (by decide), fun _ a ha => ?_, fun z => Bool.noConfusion z⟩
    refine ⟨_, rfl, C 5, .ref (C 3), _, _, rfl, rfl, Z.T 5 (by decide), ?_, rel_ref, Z.own 5 3 (by decide) (by decide), ?_⟩
    · intro dd z
      cases z
    have g := q H (Same.refl H)
    rw [e0] at g
    exact g
  · refine ⟨_, rfl, _, rfl, fun d hd => ?_⟩
    refine ⟨true, Z.xm 3 (by decide), fun _ a ha => ?_, fun z => Bool.noConfusion z⟩
    refine ⟨_, rfl, C 3, .ref (C 3), _, _, rfl, rfl, Z.T 3 (by decide), ?_, rel_ref, Z.own 3 3 (by decide) (by decide), ?_⟩
    · intro dd z
      cases z
      exact ⟨_, upd_same⟩
    have g := q _ (same_new hd (.xd [("word", .int n)]))
    rw [decide_eq_true (show n ≠ 0 from fun z => e (by rw [z] <;> rfl))] at g
    exact g
end
end My
set_option Elab.async false
set_option linter.all false
set_option maxRecDepth 100000
set_option maxHeartbeats 8000000
namespace My
open PySem PySem.Spec PyProof.Rows L2 PySem.MyX
/-- v is an exception object whose field f holds x -/
def XHas (K : PySem.W.Frag) (H : Hp) (f : Str) (x v : V) : Prop := ∃ (a C d : Addr), v = .ref a ∧ ExcT K C ∧ PySem.W.findIn K (.ref C) f = some none ∧ H a = some (exo a C (some d)) ∧ H d = some (exd d [(f, x)])
theorem XHas.same {K : PySem.W.Frag} {H H' : Hp} {f : Str} {x v : V} (e : Same H H') (h : XHas K H f x v) : XHas K H' f x v := by
  obtain ⟨a, C, d, e1, T, n, h1, h2⟩ := h
  exact ⟨a, C, d, e1, T, n, e _ _ h1, e _ _ h2⟩
theorem same2 {H : Hp} {e d : Addr} {o u : HO} (h1 : H e = none) (h2 : H d = none) (hne : d ≠ e) : Same H (upd (upd H d o) e u) :=
  (same_new h2 _).trans (same_new (by rw [upd_ne (Ne.symm hne)]; exact h1) _)
/-- a made exception -/
theorem e_x {K : PySem.W.Frag} {σ : L2.St} {H : Hp} {C : Addr} {f : Str} {te : TE} {x : V} {Q : VK} (T : ExcT K C) (n : PySem.W.findIn K (.ref C) f = some none) (h : ∀ Q : VK, Q x H → te σ H Q)
    (q : ∀ (v : V) (H' : Hp), Same H H' → XHas K H' f x v → (∃ a d, v = .ref a ∧ H' a = some (exo a C (some d)) ∧ H' d = some (exd d [(f, x)])) → Q v H') : tValX C f (tCons te tNil) σ H Q := by
  refine h _ ?_
  refine ⟨x, rfl, fun e d he hd hne => ?_⟩
  have h1 : (upd (upd H d (exd d [(f, x)])) e (exo e C (some d))) e = some (exo e C (some d)) := upd_same
  have h2 : (upd (upd H d (exd d [(f, x)])) e (exo e C (some d))) d = some (exd d [(f, x)]) := by rw [upd_ne hne, upd_same]
  exact q (.ref e) _ (same2 he hd hne) ⟨e, C, d, rfl, T, n, h1, h2⟩ ⟨e, d, rfl, h1, h2⟩
theorem atI_mem {xs : List V} {n : Int} (h0 : 0 ≤ n) (h1 : n < (xs.length : Int)) : ∃ v, atI xs n = some v ∧ v ∈ xs := by
  obtain ⟨j, rfl⟩ : ∃ j : Nat, n = (j : Int) := ⟨n.toNat, by omega⟩
  have hj : j < xs.length := by omega
  exact ⟨xs[j], atI_nat (List.getElem?_eq_getElem hj), List.getElem_mem hj⟩
/-- data of tuples, not deep -/
def Da (K : PySem.W.Frag) (H : Hp) (v : V) : Prop := ∃ d, Dp K H v d ∧ tupd d = true ∧ dep d < 5
theorem Da.tp {K : PySem.W.Frag} {H H' : Hp} {v : V} (e : Tp H H') (h : Da K H v) : Da K H' v := by
  obtain ⟨d, h1, h2, h3⟩ := h
  exact ⟨d, dp_tp e d v h2 h1, h2, h3⟩
theorem lay_bools (bs : List Bool) : PyData.canLayAll0 (bs.map PyData.bool) = true := by
  induction bs with
  | nil => rfl
  | cons b r ih => rw [List.map_cons, PyData.canLayAll0, ih] <;> rfl
theorem dp_bools {K : PySem.W.Frag} {H : Hp} : ∀ bs : List Bool, DpAll K H (bs.map V.bl) (bs.map PyData.bool)
  | [] => .nil
  | b :: r => .cons (.bl b) (dp_bools r)
theorem depth_bools (bs : List Bool) : PyData.depthAll (bs.map PyData.bool) = 0 := by
  induction bs with
  | nil => rfl
  | cons b r ih => rw [List.map_cons, PyData.depthAll, ih] <;> rfl
theorem shaped_bools (bs : List Bool) : SeqAt.shaped (.list (bs.map PyData.bool)) = true := by
  have h1 : PyData.canLay0 (.list (bs.map PyData.bool)) = true := by
    rw [PyData.canLay0]
    exact lay_bools bs
  have h2 : PyData.depth (.list (bs.map PyData.bool)) ≤ 64 := by
    rw [PyData.depth, depth_bools]
    decide
  unfold SeqAt.shaped
  rw [h1, decide_eq_true h2] <;> rfl
def sp_law (K : PySem.W.Frag) : Sp := fun vs H Q _ => ∃ (a : Addr) (ns : List Int), vs = [.ref a] ∧ SqL K H a (ns.map V.int) ∧ ns.length ≤ 63 ∧ ∀ H', Q (.bl true) H'
section
variable {P : Program} {w : World} {K : PySem.W.Frag} {mg : Str → Option Value} {base : Heap} {C : Nat → Addr} {S : Addr}
theorem e_fldX {σ : L2.St} {H : Hp} {f : Str} {te : TE} {x v : V} {Q : VK} (h : XHas K H f x v) (ht : ∀ Q : VK, Q v H → te σ H Q) (q : Q x H) : tFldX K f te σ H Q := by
  obtain ⟨a, C, d, rfl, T, n, h1, h2⟩ := h
  exact ht _ ⟨a, C, d, _, x, rfl, T, n, h1, h2, by simp [List.lookup], q⟩
theorem sc_law : FnScope N_law ["script"] (defScope s_law) := ⟨rfl, rfl, rfl, by decide +kernel, rfl, by decide +kernel, by decide +kernel⟩
theorem c_law (B : BltX mg) (Z : Six K mg C S) (M : Mks P w K C) (S0 : Stands K mg "law" s_law) (c_numbers : Cal P w K mg base CX0 "_law_numbers" 1 ["script"] (sp_numbers K)) (c_take : Cal P w K mg base CX0 "_law_take" 2 ["row", "spot", "limit"] sp_take)
    (c_so : Cal P w K mg base CX0 "_law_so" 6 ["found", "meant"] (sp_so K 6)) (c_of : Cal P w K mg base CX0 "_law_of" 1 ["value"] (sp_of C)) (c_foreign : Cal P w K mg base CX0 "_law_foreign" 1 ["value"] (sp_foreign C)) (c_caught : Cal P w K mg base CX0 "_law_caught" 3 ["at"] sp_caught) :
    Cal P w K mg base CX0 "law" 11 ["script"] (sp_law K) := by
  refine cal0 S0 sc_law (fun _ _ _ _ _ _ us hl => match us, hl with | [_], _ => rfl) (fun vs H Q E h => ?_) (fun f cdv A outer s H vs Q E hr h => ?_)
  · obtain ⟨a, ns, rfl, _⟩ := h
    rfl
  obtain ⟨a, ns, rfl, hS, hlen, q⟩ := h
  have nd := sc_law.nd
  refine ⟨_, (pss_cons (ps_set (i := 1) nd rfl (Or.inl rfl) (pe_c c_numbers hr (pa_cons (pv 0) pa_nil)))
    (pss_cons (ps_set (i := 2) nd rfl (Or.inl rfl) (pe_lst (pa_cons pe_int pa_nil)))
    (pss_cons (ps_set (i := 3) nd rfl (Or.inl rfl) (pe_op op_sub (pe_c c_take hr (pa_cons (pv 1) (pa_cons (pv 2) (pa_cons pe_int pa_nil)))) pe_int))
    (pss_cons (ps_set (i := 4) nd rfl (Or.inl rfl) (pe_ix ix_list (pe_lst (pa_cons pe_non (pa_cons (pe_un un_neg (pv 3)) (pa_cons pe_str (pa_cons (pe_tup (pa_cons (pv 3) (pa_cons pe_int pa_nil))) (pa_cons pe_bl pa_nil)))))) (pe_c c_take hr (pa_cons (pv 1) (pa_cons (pv 2) (pa_cons pe_int pa_nil)))) (fun _ _ => rfl)))
    (pss_cons (ps_for PassesOwn.never rfl (pi_list (pe_lst (pa_cons (pe_valX (Z.T 0 (by decide)) (M.m 0 (by decide)) Z.g0 hr (pa_cons (pv 3) pa_nil)) (pa_cons (pe_valX (Z.T 1 (by decide)) (M.m 1 (by decide)) Z.g1 hr (pa_cons (pv 3) pa_nil)) (pa_cons (pe_valX (Z.T 2 (by decide)) (M.m 2 (by decide)) Z.g2 hr (pa_cons (pv 3) pa_nil))
      (pa_cons (pe_valK (Z.T 0 (by decide)) (M.ma 0 (by decide)) Z.g0 hr (pv 3)) (pa_cons (pe_valK (Z.T 1 (by decide)) (M.ma 1 (by decide)) Z.g1 hr (pv 3)) (pa_cons (pe_valK (Z.T 2 (by decide)) (M.ma 2 (by decide)) Z.g2 hr (pv 3)) pa_nil)))))))) (pg_name (i := 5) nd rfl (Or.inl rfl))
    (pss_one (ps_if (pt_not (pt_val (pe_c c_so hr (pa_cons (pe_fldX (pv 5)) (pa_cons (pv 3) pa_nil))))) (pss_one (ps_ret pe_bl)) pss_nil)))
    (pss_cons (ps_for PassesOwn.never rfl (pi_list (pe_lst (pa_cons (pe_valX (Z.T 3 (by decide)) (M.n 3 (by decide) (by decide)) Z.g3 hr (pa_cons (pv 4) pa_nil)) (pa_cons (pe_valK (Z.T 3 (by decide)) (M.nk 3 (by decide) (by decide)) Z.g3 hr (pv 4)) (pa_cons (pe_valX (Z.T 4 (by decide)) (M.n 4 (by decide) (by decide)) Z.g4 hr (pa_cons (pv 4) pa_nil)) (pa_cons (pe_valK (Z.T 4 (by decide)) (M.nk 4 (by decide) (by decide)) Z.g4 hr (pv 4)) pa_nil)))))) (pg_name (i := 5) nd rfl (Or.inl rfl))
    (pss_one (ps_if (pt_not (pt_val (pe_c c_so hr (pa_cons (pe_fldX (pv 5)) (pa_cons (pv 4) pa_nil))))) (pss_one (ps_ret pe_bl)) pss_nil)))
    (pss_cons (ps_set (i := 6) nd rfl (Or.inl rfl) (pe_lst (pa_cons (pe_valX (Z.T 0 (by decide)) (M.m 0 (by decide)) Z.g0 hr (pa_cons (pv 3) pa_nil)) (pa_cons (pe_valX (Z.T 1 (by decide)) (M.m 1 (by decide)) Z.g1 hr (pa_cons (pv 3) pa_nil)) (pa_cons (pe_valX (Z.T 2 (by decide)) (M.m 2 (by decide)) Z.g2 hr (pa_cons (pv 3) pa_nil))
      (pa_cons (pe_valX (Z.T 3 (by decide)) (M.n 3 (by decide) (by decide)) Z.g3 hr (pa_cons (pv 4) pa_nil)) (pa_cons (pe_valX (Z.T 4 (by decide)) (M.n 4 (by decide) (by decide)) Z.g4 hr (pa_cons (pv 4) pa_nil)) (pa_cons (pe_val0 (Z.T 5 (by decide)) Z.q5 Z.g5) pa_nil))))))))
    (pss_cons (ps_for PassesOwn.never rfl (pi_range1 rfl B.range (pa_cons pe_int pa_nil)) (pg_name (i := 7) nd rfl (Or.inr rfl))
    (pss_one (ps_if (PW.pt (pw_or (pt_cmpR (op_neD hr.units) (pe_c c_of hr (pa_cons (pe_ix ix_list (pv 6) (pv 7) (fun _ _ => rfl)) pa_nil)) (pe_lc (own := [("one", 8)]) rfl nd (pi_range1 rfl B.range (pa_cons pe_int pa_nil)) (blkOk_by (own := [("one", 8)]) (N := N_law) (sc := defScope s_law) (by decide +kernel)) (fun _ _ _ _ _ => (pg_name (i := 8) nd rfl (Or.inl rfl))) (fun _ _ _ _ _ => pts_nil) (fun _ _ _ _ _ => (pe_cmpR op_eq (pv 8) (pv 7) (nomark _)))) (nomark _)) (pw_or (pt_val (pe_c c_foreign hr (pa_cons (pe_ix ix_list (pv 6) (pv 7) (fun _ _ => rfl)) pa_nil))) (pw_or1 (pt_not (pt_val (pe_callB call_isX (by rfl) B.isinstance (by decide +kernel) (pa_cons (pe_ix ix_list (pv 6) (pv 7) (fun _ _ => rfl)) (pa_cons (pe_glob (v := .ref S) rfl Z.gS rfl) pa_nil))))))))) (pss_one (ps_ret pe_bl)) pss_nil)))
    (pss_one (ps_ret (pe_and (pe_not (pe_c c_caught hr (pa_cons pe_int pa_nil))) (pe_one (pe_c c_caught hr (pa_cons (pe_op op_add pe_int (pe_c c_take hr (pa_cons (pv 1) (pa_cons (pv 2) (pa_cons pe_int pa_nil))))) pa_nil)))))))))))))), ?_⟩
  -- row, spot
  refine ⟨_, rfl, a, ns, rfl, hS, hlen, fun r ms H1 s1 r0 hms hr1 => ?_⟩
  refine ⟨(by show 1 ≤ sizeLine; decide), fun sp hsp => ?_⟩
  have nrs : r ≠ sp := ne_of_none hr1 hsp
  have D1 : Dr (upd H1 sp (.lst [.int 0])) r sp := ⟨nrs, ⟨ms, hms, by rw [upd_ne nrs]; exact hr1⟩, 0, upd_same⟩
  refine ⟨_, rfl, _, rfl, r, sp, 997, rfl, D1, by decide, fun m H2 _ _ f2 D2 => ?_⟩
  refine ⟨m, 9, rfl, rfl, ?_⟩
  -- other
  refine r_set (e_op (e_lst (a_cons (e_c (a_cons (e_un (e_var rfl ⟨_, rfl, ?_⟩)))))))
  refine a_cons (e_c (a_cons (e_tup ⟨_, rfl, ?_⟩)))
  refine ⟨(by show 2 ≤ sizeLine; decide), fun t ht => ?_⟩
  refine ⟨(by show 5 ≤ sizeLine; decide), fun l hl => ?_⟩
  have s3 : Same H2 (upd (upd H2 t (.tup [.int (m - 9), .int 2])) l (.lst [.non, .int (-(m - 9)), .str "x", .ref t, .bl true])) := (same_new ht _).trans (same_new hl _)
  have D3 := D2.same s3
  refine ⟨_, rfl, _, rfl, r, sp, 5, rfl, D3, by decide, fun n H4 n0 n5 f4 D4 => ?_⟩
  have nl : l ≠ sp := fun e => by
    obtain ⟨i, g⟩ := (D2.same (same_new ht (.tup [.int (m - 9), .int 2]))).spot
    rw [e, g] at hl
    cases hl
  obtain ⟨ov, hov, hmem⟩ := atI_mem (xs := [.non, .int (-(m - 9)), .str "x", .ref t, .bl true]) n0 n5
  refine ⟨l, _, n, ov, rfl, rfl, SqL.of (f4 _ _ nl upd_same), hov, ?_⟩
  have hda : Da K H4 ov := by
    have tq : H4 t = some (.tup [.int (m - 9), .int 2]) := by
      have nt : t ≠ sp := fun e => by
        obtain ⟨i, g⟩ := D2.spot
        rw [e, g] at ht
        cases ht
      have ntl : t ≠ l := fun e => by rw [← e, upd_same] at hl; cases hl
      exact f4 _ _ nt (by rw [upd_ne ntl, upd_same])
    rcases List.mem_cons.mp hmem with e | hmem
    · subst e; exact ⟨.none, .non, rfl, by decide⟩
    rcases List.mem_cons.mp hmem with e | hmem
    · subst e; exact ⟨.int _, .int _, rfl, by show 0 < 5; decide⟩
    rcases List.mem_cons.mp hmem with e | hmem
    · subst e; exact ⟨.str _, .str _, rfl, by show 0 < 5; decide⟩
    rcases List.mem_cons.mp hmem with e | hmem
    · subst e; exact ⟨.tuple [.int (m - 9), .int 2], .tup (SqT.of tq) (.cons (.int _) (.cons (.int _) .nil)), rfl, by show 1 < 5; decide⟩
    rcases List.mem_cons.mp hmem with e | hmem
    · subst e; exact ⟨.bool true, .bl _, rfl, by show 0 < 5; decide⟩
    · cases hmem
  -- for made in [..]
  have nA := fun i h => Z.nA i h
  have T0 := Z.T 0 (by decide)
  have T1 := Z.T 1 (by decide)
  have T2 := Z.T 2 (by decide)
  have T3 := Z.T 3 (by decide)
  have T4 := Z.T 4 (by decide)
  refine r_forL (e_lst (a_cons ?_))
  refine e_x T0 (Z.nA 0 (by decide)) (fun Q q => ⟨_, rfl, q⟩) fun v0 H50 s50 x0 _ => a_cons ?_
  refine e_x T1 (Z.nA 1 (by decide)) (fun Q q => ⟨_, rfl, q⟩) fun v1 H51 s51 x1 _ => a_cons ?_
  refine e_x T2 (Z.nA 2 (by decide)) (fun Q q => ⟨_, rfl, q⟩) fun v2 H52 s52 x2 _ => a_cons ?_
  refine e_x T0 (Z.nA 0 (by decide)) (fun Q q => ⟨_, rfl, q⟩) fun v3 H53 s53 x3 _ => a_cons ?_
  refine e_x T1 (Z.nA 1 (by decide)) (fun Q q => ⟨_, rfl, q⟩) fun v4 H54 s54 x4 _ => a_cons ?_
  refine e_x T2 (Z.nA 2 (by decide)) (fun Q q => ⟨_, rfl, q⟩) fun v5 H55 s55 x5 _ => a_nil ?_
  have y0 := (x0.same s51).same (s52.trans (s53.trans (s54.trans s55)))
  have y1 := x1.same (s52.trans (s53.trans (s54.trans s55)))
  have y2 := x2.same (s53.trans (s54.trans s55))
  have y3 := x3.same (s54.trans s55)
  have y4 := x4.same s55
  have s5 : Same H4 H55 := s50.trans (s51.trans (s52.trans (s53.trans (s54.trans s55))))
  refine ⟨(by show 6 ≤ sizeLine; decide), fun l6 hl6 => ?_⟩
  have s6 := same_new hl6 (.lst [v0, v1, v2, v3, v4, v5])
  generalize h6 : upd H55 l6 (.lst [v0, v1, v2, v3, v4, v5]) = H6
  have hL6 : H6 l6 = some (.lst [v0, v1, v2, v3, v4, v5]) := by rw [← h6, upd_same]
  rw [h6] at s6
  have all6 : ∀ v ∈ [v0, v1, v2, v3, v4, v5], XHas K H6 "at" (.int (m - 9)) v := by
    intro v hv
    simp only [List.mem_cons, List.not_mem_nil, or_false] at hv
    rcases hv with rfl | rfl | rfl | rfl | rfl | rfl
    · exact y0.same s6
    · exact y1.same s6
    · exact y2.same s6
    · exact y3.same s6
    · exact y4.same s6
    · exact x5.same s6
  refine ⟨l6, rfl, ⟨_, SqL.of hL6⟩, for_list (K := K) (a := l6) (xs := [v0, v1, v2, v3, v4, v5]) (fun i σ H' => H' = H6 ∧ ∃ v, σ = [some (.ref a), some (.ref r), some (.ref sp), some (.int (m - 9)), some ov, v, none, none, none]) ⟨rfl, _, rfl⟩ (fun i σ H' _ ⟨e, _⟩ => by rw [e]; exact SqL.of hL6) ?_ ?_⟩
  · rintro i y σ H' hi ⟨rfl, v, rfl⟩
    refine r_if1N (r_not (r_b (e_call (a_cons ?_))))
    refine e_fldX (all6 y (List.mem_of_getElem? hi)) (fun Q q => ⟨_, rfl, q⟩) ?_
    refine ⟨_, rfl, _, _, .int (m - 9), rfl, .int _, .int _, rfl, by show 0 < 6; decide, _, rfl, ite_not_true ⟨rfl, _, rfl⟩⟩
  rintro σ H' ⟨rfl, v, rfl⟩
  have D6 := (D4.same s5).same s6
  have hd6 : Da K H' ov := hda.tp ((tp_same s5).trans (tp_same s6))
  -- for made in [NoStem(other), ..]
  refine r_nx ?_
  refine r_forL (e_lst (a_cons ?_))
  refine e_x T3 (Z.nW 3 (by decide) (by decide) (by decide)) (fun Q q => ⟨_, rfl, q⟩) fun w0 H70 s70 z0 _ => a_cons ?_
  refine e_x T3 (Z.nW 3 (by decide) (by decide) (by decide)) (fun Q q => ⟨_, rfl, q⟩) fun w1 H71 s71 z1 _ => a_cons ?_
  refine e_x T4 (Z.nW 4 (by decide) (by decide) (by decide)) (fun Q q => ⟨_, rfl, q⟩) fun w2 H72 s72 z2 _ => a_cons ?_
  refine e_x T4 (Z.nW 4 (by decide) (by decide) (by decide)) (fun Q q => ⟨_, rfl, q⟩) fun w3 H73 s73 z3 _ => a_nil ?_
  have u0 := z0.same (s71.trans (s72.trans s73))
  have u1 := z1.same (s72.trans s73)
  have u2 := z2.same s73
  have s7 : Same H' H73 := s70.trans (s71.trans (s72.trans s73))
  refine ⟨(by show 4 ≤ sizeLine; decide), fun l8 hl8 => ?_⟩
  have s8 := same_new hl8 (.lst [w0, w1, w2, w3])
  generalize h8 : upd H73 l8 (.lst [w0, w1, w2, w3]) = H8
  have hL8 : H8 l8 = some (.lst [w0, w1, w2, w3]) := by rw [← h8, upd_same]
  rw [h8] at s8
  have all8 : ∀ v ∈ [w0, w1, w2, w3], XHas K H8 "word" ov v := by
    intro v hv
    simp only [List.mem_cons, List.not_mem_nil, or_false] at hv
    rcases hv with rfl | rfl | rfl | rfl
    · exact u0.same s8
    · exact u1.same s8
    · exact u2.same s8
    · exact z3.same s8
  have hd8 : Da K H8 ov := hd6.tp ((tp_same s7).trans (tp_same s8))
  refine ⟨l8, rfl, ⟨_, SqL.of hL8⟩, for_list (K := K) (a := l8) (xs := [w0, w1, w2, w3]) (fun i σ H'' => H'' = H8 ∧ ∃ v, σ = [some (.ref a), some (.ref r), some (.ref sp), some (.int (m - 9)), some ov, v, none, none, none]) ⟨rfl, _, rfl⟩ (fun i σ H'' _ ⟨e, _⟩ => by rw [e]; exact SqL.of hL8) ?_ ?_⟩
  · rintro i y σ H'' hi ⟨rfl, v, rfl⟩
    refine r_if1N (r_not (r_b (e_call (a_cons ?_))))
    refine e_fldX (all8 y (List.mem_of_getElem? hi)) (fun Q q => ⟨_, rfl, q⟩) ?_
    obtain ⟨dd, g1, g2, g3⟩ := hd8
    refine ⟨_, rfl, _, _, dd, rfl, g1, g1, g2, by omega, _, rfl, ite_not_true ⟨rfl, _, rfl⟩⟩
  rintro σ H'' ⟨rfl, y9o, rfl⟩
  have D8 := (D6.same s7).same s8
  -- every
  refine r_nx ?_
  refine r_set (e_lst (a_cons ?_))
  refine e_x T0 (Z.nA 0 (by decide)) (fun Q q => ⟨_, rfl, q⟩) fun a0 H90 s90 _ b0 => a_cons ?_
  refine e_x T1 (Z.nA 1 (by decide)) (fun Q q => ⟨_, rfl, q⟩) fun a1 H91 s91 _ b1 => a_cons ?_
  refine e_x T2 (Z.nA 2 (by decide)) (fun Q q => ⟨_, rfl, q⟩) fun a2 H92 s92 _ b2 => a_cons ?_
  refine e_x T3 (Z.nW 3 (by decide) (by decide) (by decide)) (fun Q q => ⟨_, rfl, q⟩) fun a3 H93 s93 _ b3 => a_cons ?_
  refine e_x T4 (Z.nW 4 (by decide) (by decide) (by decide)) (fun Q q => ⟨_, rfl, q⟩) fun a4 H94 s94 _ b4 => a_cons ?_
  intro a5 ha5
  refine ⟨(by show 6 ≤ sizeLine; decide), fun l10 hl10 => ?_⟩
  have s95 := same_new ha5 (exo a5 (C 5) none)
  have s10 := same_new hl10 (.lst [a0, a1, a2, a3, a4, .ref a5])
  generalize h10 : upd (upd H94 a5 (exo a5 (C 5) none)) l10 (.lst [a0, a1, a2, a3, a4, .ref a5]) = H10
  have hL10 : H10 l10 = some (.lst [a0, a1, a2, a3, a4, .ref a5]) := by rw [← h10, upd_same]
  rw [h10] at s10
  have xat : ∀ {i : Nat} {f : Str} {x v : V} {G : Hp}, (∃ a d, v = .ref a ∧ G a = some (exo a (C i) (some d)) ∧ G d = some (exd d [(f, x)])) → XAtN G C i v := fun ⟨a, d, e, g1, g2⟩ => ⟨a, some d, _, e, g1, fun d' hd' => by cases hd'; exact g2⟩
  have i5 : XAtN (upd H94 a5 (exo a5 (C 5) none)) C 5 (.ref a5) := ⟨a5, none, [], rfl, upd_same, fun d hd => by cases hd⟩
  have all10 : ∀ i v, [a0, a1, a2, a3, a4, V.ref a5][i]? = some v → XAtN H10 C i v ∧ i < 6 := by
    intro i v hi
    match i, hi with
    | 0, hi => cases hi; exact ⟨(xat b0).same (s91.trans (s92.trans (s93.trans (s94.trans (s95.trans s10))))), by decide⟩
    | 1, hi => cases hi; exact ⟨(xat b1).same (s92.trans (s93.trans (s94.trans (s95.trans s10)))), by decide⟩
    | 2, hi => cases hi; exact ⟨(xat b2).same (s93.trans (s94.trans (s95.trans s10))), by decide⟩
    | 3, hi => cases hi; exact ⟨(xat b3).same (s94.trans (s95.trans s10)), by decide⟩
    | 4, hi => cases hi; exact ⟨(xat b4).same (s95.trans s10), by decide⟩
    | 5, hi => cases hi; exact ⟨i5.same s10, by decide⟩
    | i + 6, hi => simp at hi
  have D10 := (D8.same (s90.trans (s91.trans (s92.trans (s93.trans (s94.trans s95)))))).same s10
  -- for k in range(6)
  refine r_forR1 ⟨6, rfl, by decide, by decide, ?_⟩
  refine for_range (lo := 0) (n := 6) (fun i σ H' => Same H10 H' ∧ ∃ v, σ = [some (.ref a), some (.ref r), some (.ref sp), some (.int (m - 9)), some ov, y9o, some (.ref l10), v, none]) ⟨Same.refl _, _, rfl⟩ ?_ ?_
  · rintro i σ H0 hi ⟨s0, v, rfl⟩
    have e0 : (0 : Int) + (i : Int) = ((i : Nat) : Int) := Int.zero_add _
    obtain ⟨x, hx⟩ : ∃ x, [a0, a1, a2, a3, a4, V.ref a5][i]? = some x := ⟨_, List.getElem?_eq_getElem (by simpa using hi)⟩
    obtain ⟨xx, hi6⟩ := all10 i x hx
    have q0 : H0 l10 = some (.lst [a0, a1, a2, a3, a4, .ref a5]) := s0 _ _ hL10
    refine r_if1N (r_or (r_test (e_op (e_call (a_cons ?_)))))
    refine ⟨_, rfl, _, rfl, l10, _, _, x, rfl, rfl, SqL.of q0, (by rw [e0]; exact atI_nat hx), ?_⟩
    refine ⟨x, i, rfl, xx.same s0, hi6, fun p1 H1' t1 np1 g1 => ?_⟩
    -- [one == k for one in range(6)]
    refine ⟨6, rfl, by decide, by decide, fun D0 nD => ?_⟩
    have hne : p1 ≠ D0 := ne_of_none g1 nD
    refine lc_range (lo := 0) (n := 6) (fun j G => Same H1' G ∧ G D0 = some (.lst ((List.range j).map fun j => V.bl (decide (i = j))))) ⟨same_new nD _, upd_same⟩ ?_ ?_
    · rintro j G hj ⟨sG, gD⟩
      have e1 : (0 : Int) + (j : Int) = ((j : Nat) : Int) := Int.zero_add _
      refine ⟨rfl, r_yes (iteT (e_op (e_var rfl (e_var rfl ⟨rfl, _, gD, ?_, ?_, ?_⟩))))⟩
      · rw [List.length_map, List.length_range]
        exact Nat.lt_of_lt_of_le hj (by decide)
      · intro b o hb
        rw [upd_ne (ne_of_none hb nD)]
        exact sG b o hb
      · rw [upd_same, List.range_succ, List.map_append]
        have ed : decide (V.int ((0 : Int) + (j : Int)) = V.int ((0 : Int) + (i : Int))) = decide (i = j) := by
          rw [e0, e1]
          by_cases h : i = j
          · rw [h, decide_eq_true rfl, decide_eq_true rfl]
          · rw [decide_eq_false h, decide_eq_false (fun z => h (by have z1 := V.int.inj z; omega))]
        rw [ed] <;> rfl
    · rintro G ⟨sG, gD⟩
      have em : ((List.range 6).map fun j => V.bl (decide (i = j))) = ((List.range 6).map fun j => decide (i = j)).map V.bl := by rw [List.map_map] <;> rfl
      rw [em] at gD g1
      have hd1 : Dp K G (.ref p1) (.list (((List.range 6).map fun j => decide (i = j)).map PyData.bool)) := .lst (SqL.of (sG _ _ g1)) (dp_bools _)
      have hd2 : Dp K G (.ref D0) (.list (((List.range 6).map fun j => decide (i = j)).map PyData.bool)) := .lst (SqL.of gD) (dp_bools _)
      refine ⟨_, _, hd1, hd2, shaped_bools _, shaped_bools _, _, rfl, ?_⟩
      rw [SeqAt.eqv_refl _ (SeqAt.canLay_of_shaped (shaped_bools _))]
      have sH : Same H10 G := s0.trans (t1.trans sG)
      have qG : G l10 = some (.lst [a0, a1, a2, a3, a4, .ref a5]) := sH _ _ hL10
      refine iteF (r_or (r_b (e_call (a_cons ?_))))
      refine ⟨_, rfl, _, rfl, l10, _, _, x, rfl, rfl, SqL.of qG, (by rw [e0]; exact atI_nat hx), ?_⟩
      refine ⟨x, i, rfl, xx.same sH, hi6, _, rfl, iteF (r_not (r_b (e_cb (a_cons ?_))))⟩
      refine ⟨_, rfl, _, rfl, l10, _, _, x, rfl, rfl, SqL.of qG, (by rw [e0]; exact atI_nat hx), ?_⟩
      obtain ⟨xa, xo, xf, ex, g3, g4⟩ := xx.same sH
      refine ⟨xa, C i, xo, xf, _, _, true, by rw [ex] <;> rfl, Z.T i hi6, g3, g4, rel_ref, Z.base i hi6, _, rfl, ite_not_true ⟨sH, _, rfl⟩⟩
  · rintro σ H0 ⟨s0, v, rfl⟩
    refine r_nx ?_
    refine r_ret (r_andV (r_notV (e_call (a_cons (e_c (a_nil ?_))))))
    refine ⟨0, rfl, fun H11 s11 => ⟨false, rfl, _, rfl, iteT (e_call (a_cons (e_op (e_c (e_call ?_)))))⟩⟩
    have D11 := (D10.same s0).same s11
    refine ⟨_, rfl, _, rfl, r, sp, 9, rfl, D11, by decide, fun n2 H12 g0 g1 _ _ => ⟨1, n2, rfl, rfl, ?_⟩⟩
    refine ⟨1 + n2, rfl, fun H13 _ => ?_⟩
    rw [decide_eq_true (show (1 : Int) + n2 ≠ 0 by omega)]
    exact q H13
end
end My
set_option Elab.async false
set_option linter.all false
namespace My
open PySem PySem.Spec PyProof.Rows L2 PySem.MyX
theorem excT_mk {K : PySem.W.Frag} {h : Heap} {mg : Str → Option Value} {x : Str} {C N : Addr} {nm q : Str} {bs bm sub : List Value} {sn : List Str} {ab : Bool} {col : Option Bool} {dd : Option Addr} {m0 m1 m2 m3 m5 : Option Value}
    (_ : K.In h) (_ : mg x = some (.ref C)) (xL : K.lookup C = some (excClassObj nm q C N bs bm true sn sub ab col dd m0 m1 m2 m3 m5 "Exception.__new__")) (tl : PySem.W.excTail exT bm = true) (ov : PySem.W.excOver K C exT = true) (sa : PySem.W.findIn K (.ref C) "__setattr__" = some (some (.builtin "object.__setattr__")))
    (ga : PySem.W.findIn K (.ref C) "__getattribute__" = some (some (.builtin "BaseException.__getattribute__"))) (gg : PySem.W.findIn K (.ref C) "__getattr__" = some none) (kC : PySem.W.keepIn K (.ref C) = true) (exC : PySem.W.subIn K (.ref C) (.type "BaseException") = some true)
    (tyC : PySem.W.typeIn K (.ref C) = some (.type "type")) (hdC : PySem.W.hasDictIn K C = true) (ca : PySem.W.findIn K (.ref C) "__class__" = some (some (.builtin "object.__class__"))) (cn : PySem.W.specialIn K (.builtin "object.__class__") "__get__" = some (some (.builtin "getset_descriptor.__get__")))
    (ct : PySem.W.takesIn K (.builtin "object.__class__") = some true) (cm : PySem.W.mroIn K C (.type "object") = some true) : ExcT K C :=
  ⟨⟨nm, q, N, bs, bm, sn, sub, ab, col, dd, m0, m1, m2, m3, m5, xL, tl⟩, ov, sa, ga, gg, kC, exC, tyC, hdC, ca, cn, ct, cm⟩
theorem initAt_mk {K : PySem.W.Frag} {h : Heap} {mg : Str → Option Value} {x : Str} {C f : Addr} {qual : Str} {oc doc pm cdv ct : Value} {od an : Option Addr} {osl : Array (Option Value)} {p1 p2 q1 q2 q3 q4 : Pos} (_ : K.In h) (_ : mg x = some (.ref C)) (n : PySem.W.findIn K (.ref C) "at" = some none) (i : PySem.W.findIn K (.ref C) "__init__" = some (some (.ref f))) (t : PySem.W.typeIn K (.ref f) = some (.type "function"))
    (l : K.lookup f = some ⟨oc, od, .func (PySem.W.fnOf "__init__" qual (XAt.iA p1 p2) (XAt.iB q1 q2 q3 q4) XAt.iS .none .none doc pm an cdv ct), osl⟩) (c : PySem.W.codeIn K cdv qual = true) : XAt.InitT K C f qual :=
  ⟨n, i, t, ⟨_, _, _, _, _, _, _, _, _, _, _, _, _, _, l, c⟩⟩
theorem initWord_mk {K : PySem.W.Frag} {h : Heap} {mg : Str → Option Value} {x : Str} {C f : Addr} {qual : Str} {oc doc pm cdv ct : Value} {od an : Option Addr} {osl : Array (Option Value)} {p1 p2 q1 q2 q3 q4 : Pos} (_ : K.In h) (_ : mg x = some (.ref C)) (n : PySem.W.findIn K (.ref C) "word" = some none) (i : PySem.W.findIn K (.ref C) "__init__" = some (some (.ref f))) (t : PySem.W.typeIn K (.ref f) = some (.type "function"))
    (l : K.lookup f = some ⟨oc, od, .func (PySem.W.fnOf "__init__" qual (XWord.iA p1 p2) (XWord.iB q1 q2 q3 q4) XWord.iS .none .none doc pm an cdv ct), osl⟩) (c : PySem.W.codeIn K cdv qual = true) : XWord.InitT K C f qual :=
  ⟨n, i, t, ⟨_, _, _, _, _, _, _, _, _, _, _, _, _, _, l, c⟩⟩
theorem exm_own {K : PySem.W.Frag} {C S : Addr} (h1 : PySem.W.subIn K (.ref S) (.type "BaseException") = some true) (h2 : PySem.W.isClsIn K S = true) (h3 : PySem.W.typeIn K (.ref S) = some (.type "type")) (h4 : PySem.W.subIn K (.ref C) (.ref S) = some true) :
    PySem.W.exmOne K (.ref C) (.ref S) = some true := by
  have e1 : (PySem.W.subIn K (.ref S) (.type "BaseException") == some true) = true := by rw [h1] <;> rfl
  have e2 : ((PySem.W.clsIn K S).isSome && PySem.W.typeIn K (.ref S) == some (.type "type")) = true := by
    have h2' : (PySem.W.clsIn K S).isSome = true := h2
    rw [h2', h3] <;> rfl
  show (if (PySem.W.subIn K (.ref S) (.type "BaseException") == some true) = true then (if ((PySem.W.clsIn K S).isSome && PySem.W.typeIn K (.ref S) == some (.type "type")) = true then PySem.W.subIn K (.ref C) (.ref S) else none) else none) = some true
  rw [if_pos e1, if_pos e2]
  exact h4
theorem kit_self {K : PySem.W.Frag} {a : Addr} : PySem.W.kitOne K (.ref a) (.ref a) = some true := by
  unfold PySem.W.kitOne
  rw [if_pos (by simp)]
/-- the six by number -/
def six (a b c d e f : Addr) : Nat → Addr
  | 0 => a
  | 1 => b
  | 2 => c
  | 3 => d
  | 4 => e
  | _ => f
theorem lt6 {P : Nat → Prop} (h0 : P 0) (h1 : P 1) (h2 : P 2) (h3 : P 3) (h4 : P 4) (h5 : P 5) : ∀ i, i < 6 → P i
  | 0, _ => h0
  | 1, _ => h1
  | 2, _ => h2
  | 3, _ => h3
  | 4, _ => h4
  | 5, _ => h5
  | i + 6, h => absurd h (by omega)
theorem lt3 {P : Nat → Prop} (h0 : P 0) (h1 : P 1) (h2 : P 2) : ∀ i, i < 3 → P i
  | 0, _ => h0
  | 1, _ => h1
  | 2, _ => h2
  | i + 3, h => absurd h (by omega)
theorem six_mk {K : PySem.W.Frag} {mg : Str → Option Value} {c0 c1 c2 c3 c4 c5 S : Addr}
    (g0 : mg "BadValue" = some (.ref c0)) (g1 : mg "BadText" = some (.ref c1)) (g2 : mg "BadPaper" = some (.ref c2)) (g3 : mg "NoStem" = some (.ref c3)) (g4 : mg "TakenStem" = some (.ref c4)) (g5 : mg "TooMany" = some (.ref c5))
    (gS : mg "StemError" = some (.ref S)) (T0 : ExcT K c0) (T1 : ExcT K c1) (T2 : ExcT K c2) (T3 : ExcT K c3) (T4 : ExcT K c4)
    (T5 : ExcT K c5) (k01 : PySem.W.kitOne K (.ref c0) (.ref c1) = some false) (k02 : PySem.W.kitOne K (.ref c0) (.ref c2) = some false) (k03 : PySem.W.kitOne K (.ref c0) (.ref c3) = some false) (k04 : PySem.W.kitOne K (.ref c0) (.ref c4) = some false) (k05 : PySem.W.kitOne K (.ref c0) (.ref c5) = some false)
    (k10 : PySem.W.kitOne K (.ref c1) (.ref c0) = some false) (k12 : PySem.W.kitOne K (.ref c1) (.ref c2) = some false) (k13 : PySem.W.kitOne K (.ref c1) (.ref c3) = some false) (k14 : PySem.W.kitOne K (.ref c1) (.ref c4) = some false) (k15 : PySem.W.kitOne K (.ref c1) (.ref c5) = some false) (k20 : PySem.W.kitOne K (.ref c2) (.ref c0) = some false)
    (k21 : PySem.W.kitOne K (.ref c2) (.ref c1) = some false) (k23 : PySem.W.kitOne K (.ref c2) (.ref c3) = some false) (k24 : PySem.W.kitOne K (.ref c2) (.ref c4) = some false) (k25 : PySem.W.kitOne K (.ref c2) (.ref c5) = some false) (k30 : PySem.W.kitOne K (.ref c3) (.ref c0) = some false) (k31 : PySem.W.kitOne K (.ref c3) (.ref c1) = some false)
    (k32 : PySem.W.kitOne K (.ref c3) (.ref c2) = some false) (k34 : PySem.W.kitOne K (.ref c3) (.ref c4) = some false) (k35 : PySem.W.kitOne K (.ref c3) (.ref c5) = some false) (k40 : PySem.W.kitOne K (.ref c4) (.ref c0) = some false) (k41 : PySem.W.kitOne K (.ref c4) (.ref c1) = some false) (k42 : PySem.W.kitOne K (.ref c4) (.ref c2) = some false)
    (k43 : PySem.W.kitOne K (.ref c4) (.ref c3) = some false) (k45 : PySem.W.kitOne K (.ref c4) (.ref c5) = some false) (k50 : PySem.W.kitOne K (.ref c5) (.ref c0) = some false) (k51 : PySem.W.kitOne K (.ref c5) (.ref c1) = some false) (k52 : PySem.W.kitOne K (.ref c5) (.ref c2) = some false) (k53 : PySem.W.kitOne K (.ref c5) (.ref c3) = some false)
    (k54 : PySem.W.kitOne K (.ref c5) (.ref c4) = some false) (kS0 : PySem.W.kitOne K (.ref c0) (.ref S) = some true) (kS1 : PySem.W.kitOne K (.ref c1) (.ref S) = some true) (kS2 : PySem.W.kitOne K (.ref c2) (.ref S) = some true) (kS3 : PySem.W.kitOne K (.ref c3) (.ref S) = some true) (kS4 : PySem.W.kitOne K (.ref c4) (.ref S) = some true)
    (kS5 : PySem.W.kitOne K (.ref c5) (.ref S) = some true) (v0 : PySem.W.kitOne K (.ref c0) (.type "ValueError") = some false) (v1 : PySem.W.kitOne K (.ref c1) (.type "ValueError") = some false) (v2 : PySem.W.kitOne K (.ref c2) (.type "ValueError") = some false) (v3 : PySem.W.kitOne K (.ref c3) (.type "ValueError") = some false) (v4 : PySem.W.kitOne K (.ref c4) (.type "ValueError") = some false)
    (v5 : PySem.W.kitOne K (.ref c5) (.type "ValueError") = some false) (l0 : PySem.W.kitOne K (.ref c0) (.type "LookupError") = some false) (l1 : PySem.W.kitOne K (.ref c1) (.type "LookupError") = some false) (l2 : PySem.W.kitOne K (.ref c2) (.type "LookupError") = some false) (l3 : PySem.W.kitOne K (.ref c3) (.type "LookupError") = some false) (l4 : PySem.W.kitOne K (.ref c4) (.type "LookupError") = some false)
    (l5 : PySem.W.kitOne K (.ref c5) (.type "LookupError") = some false) (a0 : PySem.W.kitOne K (.ref c0) (.type "ArithmeticError") = some false) (a1 : PySem.W.kitOne K (.ref c1) (.type "ArithmeticError") = some false) (a2 : PySem.W.kitOne K (.ref c2) (.type "ArithmeticError") = some false) (a3 : PySem.W.kitOne K (.ref c3) (.type "ArithmeticError") = some false) (a4 : PySem.W.kitOne K (.ref c4) (.type "ArithmeticError") = some false)
    (a5 : PySem.W.kitOne K (.ref c5) (.type "ArithmeticError") = some false) (e0 : PySem.W.kitOne K (.ref c0) (.type "Exception") = some true) (e1 : PySem.W.kitOne K (.ref c1) (.type "Exception") = some true) (e2 : PySem.W.kitOne K (.ref c2) (.type "Exception") = some true) (e3 : PySem.W.kitOne K (.ref c3) (.type "Exception") = some true) (e4 : PySem.W.kitOne K (.ref c4) (.type "Exception") = some true)
    (e5 : PySem.W.kitOne K (.ref c5) (.type "Exception") = some true) (s1 : PySem.W.subIn K (.ref S) (.type "BaseException") = some true) (s2 : PySem.W.isClsIn K S = true) (s3 : PySem.W.typeIn K (.ref S) = some (.type "type")) (x0 : PySem.W.subIn K (.ref c0) (.ref S) = some true) (x1 : PySem.W.subIn K (.ref c1) (.ref S) = some true) (x2 : PySem.W.subIn K (.ref c2) (.ref S) = some true) (x3 : PySem.W.subIn K (.ref c3) (.ref S) = some true)
    (x4 : PySem.W.subIn K (.ref c4) (.ref S) = some true) (x5 : PySem.W.subIn K (.ref c5) (.ref S) = some true) (q5 : PySem.W.excIn K c5 exT "Exception.__new__" = true) (n0 : PySem.W.findIn K (.ref c0) "at" = some none) (n1 : PySem.W.findIn K (.ref c1) "at" = some none) (n2 : PySem.W.findIn K (.ref c2) "at" = some none)
    (n3 : PySem.W.findIn K (.ref c3) "word" = some none) (n4 : PySem.W.findIn K (.ref c4) "word" = some none) : Six K mg (six c0 c1 c2 c3 c4 c5) S where
  g0 := g0
  g1 := g1
  g2 := g2
  g3 := g3
  g4 := g4
  g5 := g5
  gS := gS
  T := (lt6 T0 T1 T2 T3 T4 T5)
  own := fun i j hi hj => lt6 (P := fun i => ∀ j, j < 6 → PySem.W.kitOne K (.ref (six c0 c1 c2 c3 c4 c5 i)) (.ref (six c0 c1 c2 c3 c4 c5 j)) = some (decide (i = j))) (lt6 kit_self k01 k02 k03 k04 k05) (lt6 k10 kit_self k12 k13 k14 k15) (lt6 k20 k21 kit_self k23 k24 k25) (lt6 k30 k31 k32 kit_self k34 k35) (lt6 k40 k41 k42 k43 kit_self k45) (lt6 k50 k51 k52 k53 k54 kit_self) i hi j hj
  base := (lt6 kS0 kS1 kS2 kS3 kS4 kS5)
  ve := (lt6 v0 v1 v2 v3 v4 v5)
  le := (lt6 l0 l1 l2 l3 l4 l5)
  ae := (lt6 a0 a1 a2 a3 a4 a5)
  ex := (lt6 e0 e1 e2 e3 e4 e5)
  xm := (lt6 (exm_own s1 s2 s3 x0) (exm_own s1 s2 s3 x1) (exm_own s1 s2 s3 x2) (exm_own s1 s2 s3 x3) (exm_own s1 s2 s3 x4) (exm_own s1 s2 s3 x5))
  q5 := q5
  nA := lt3 n0 n1 n2
  nW := fun i hi h3 h5 => match i, h3, h5 with
    | 0, h, _ => absurd h (by omega)
    | 1, h, _ => absurd h (by omega)
    | 2, h, _ => absurd h (by omega)
    | 3, _, _ => n3
    | 4, _, _ => n4
    | i + 5, _, h => absurd h (by omega)
theorem mks_mk {P : Program} {w : World} {K : PySem.W.Frag} {mg : Str → Option Value} {c0 c1 c2 c3 c4 c5 S : Addr} (_ : Six K mg (six c0 c1 c2 c3 c4 c5) S) (a0 : Makes P w K c0 "at") (a1 : Makes P w K c1 "at") (a2 : Makes P w K c2 "at") (b0 : MakesK P w K c0 "at") (b1 : MakesK P w K c1 "at") (b2 : MakesK P w K c2 "at")
    (a3 : Makes P w K c3 "word") (a4 : Makes P w K c4 "word") (b3 : MakesK P w K c3 "word") (b4 : MakesK P w K c4 "word") : Mks P w K (six c0 c1 c2 c3 c4 c5) where
  m := lt3 a0 a1 a2
  ma := lt3 b0 b1 b2
  n := fun i h3 h5 => match i, h3, h5 with
    | 0, h, _ => absurd h (by omega)
    | 1, h, _ => absurd h (by omega)
    | 2, h, _ => absurd h (by omega)
    | 3, _, _ => a3
    | 4, _, _ => a4
    | i + 5, _, h => absurd h (by omega)
  nk := fun i h3 h5 => match i, h3, h5 with
    | 0, h, _ => absurd h (by omega)
    | 1, h, _ => absurd h (by omega)
    | 2, h, _ => absurd h (by omega)
    | 3, _, _ => b3
    | 4, _, _ => b4
    | i + 5, _, h => absurd h (by omega)
theorem walk {l : PySem.W.OpenLaw} {q : Program} {loose : List Str} {XP : (Str → Option Value) → Heap → Prop} {YP : World → Heap → Prop} {d : DefRec} {K : Params → PySem.W.Frag} (hn : l.most = some 63) (hdf : d.params.defaults = [])
    (hY : ∀ (w : World) (h : Heap), YP w h → (K w.params).In h)
    (F : ∀ (w : World) (mg : Str → Option Value) (fa : Addr) (h : Heap), (K w.params).In h → h.Ns mainGlobals mg → mg d.name = some (.ref fa) →
      ∃ fd : FuncData, (∀ (s : Shared) (u : Value), BindsTo s fd ⟨[u], []⟩ [("script", u)]) ∧ ∀ base : Heap, (K w.params).In base → base.Ns mainGlobals mg → FnOk l.prog w (K w.params) mg base CX0 11 fa fd ["script"] (sp_law (K w.params))) :
    PySem.W.WalkO q loose XP YP l.row.toRowW d [] (fun f vs => PySem.call f vs) :=
  L2.walk_of (n := 63) (k := 11) (x := "script") (CX := fun _ => CX0) (sp := fun w => sp_law (K w.params)) hn (by decide) hdf ⟨rfl, by decide, by decide⟩ hY F (fun _ _ a ns hl _ hS => ⟨a, ns, rfl, hS, hl, fun _ => rfl⟩) fun _ _ _ _ _ z => z
end My
open PySem PySem.W PyProof.Rows
set_option maxRecDepth 100000 in
set_option maxHeartbeats 0 in
theorem PySem.Challenge.cw_stemsure_k00_errors_holds : PySem.Challenge.rw_stemsure_k00_errors.Holds := by
  w_on; o_law; k_head; (case hw => w_witness2)
  k_fill
  refine My.walk (l := PySem.Challenge.rw_stemsure_k00_errors) rfl rfl (fun w h Y => PySem.W.kIn_of Y) ?F
  case F =>
    intro w mg fa h KX G hmg
    have S_so := by
      refine' My.stands_mk (x := "_law_so") (st := My.s_so) KX G ?a ?l ?c ?k
      (case a => k_is); (case l => k_is); (case c => k_is); (case k => k_is)
    have S_numbers := by
      refine' My.stands_mk (x := "_law_numbers") (st := My.s_numbers) KX G ?a ?l ?c ?k
      (case a => k_is); (case l => k_is); (case c => k_is); (case k => k_is)
    have S_draw := by
      refine' My.stands_mk (x := "_law_draw") (st := My.s_draw) KX G ?a ?l ?c ?k
      (case a => k_is); (case l => k_is); (case c => k_is); (case k => k_is)
    have S_take := by
      refine' My.stands_mk (x := "_law_take") (st := My.s_take) KX G ?a ?l ?c ?k
      (case a => k_is); (case l => k_is); (case c => k_is); (case k => k_is)
    have S_of := by
      refine' My.stands_mk (x := "_law_of") (st := My.s_of) KX G ?a ?l ?c ?k
      (case a => k_is); (case l => k_is); (case c => k_is); (case k => k_is)
    have S_foreign := by
      refine' My.stands_mk (x := "_law_foreign") (st := My.s_foreign) KX G ?a ?l ?c ?k
      (case a => k_is); (case l => k_is); (case c => k_is); (case k => k_is)
    have S_caught := by
      refine' My.stands_mk (x := "_law_caught") (st := My.s_caught) KX G ?a ?l ?c ?k
      (case a => k_is); (case l => k_is); (case c => k_is); (case k => k_is)
    have S_law := by
      refine' My.stands_mk (x := "law") (st := My.s_law) KX G ?a ?l ?c ?k
      (case a => k_is); (case l => k_is); (case c => k_is); (case k => k_is)
    have g0 := by
      refine' PySem.W.mg_of (n := "BadValue") KX G ?a
      (case a => k_is)
    have g1 := by
      refine' PySem.W.mg_of (n := "BadText") KX G ?a
      (case a => k_is)
    have g2 := by
      refine' PySem.W.mg_of (n := "BadPaper") KX G ?a
      (case a => k_is)
    have g3 := by
      refine' PySem.W.mg_of (n := "NoStem") KX G ?a
      (case a => k_is)
    have g4 := by
      refine' PySem.W.mg_of (n := "TakenStem") KX G ?a
      (case a => k_is)
    have g5 := by
      refine' PySem.W.mg_of (n := "TooMany") KX G ?a
      (case a => k_is)
    have g6 := by
      refine' PySem.W.mg_of (n := "StemError") KX G ?a
      (case a => k_is)
    have T0 := by
      refine' My.excT_mk KX g0 ?xL ?tl ?ov ?sa ?ga ?gg ?kC ?exC ?tyC ?hdC ?ca ?cn ?ct ?cm
      (case xL => k_is); (case tl => decide +kernel); (case ov => kx_is); (case sa => k_is); (case ga => k_is); (case gg => k_is); (case kC => k_is); (case exC => k_is); (case tyC => k_is); (case hdC => k_is)
      (case ca => k_is); (case cn => k_is); (case ct => k_is); (case cm => k_is)
    have T1 := by
      refine' My.excT_mk KX g1 ?xL ?tl ?ov ?sa ?ga ?gg ?kC ?exC ?tyC ?hdC ?ca ?cn ?ct ?cm
      (case xL => k_is); (case tl => decide +kernel); (case ov => kx_is); (case sa => k_is); (case ga => k_is); (case gg => k_is); (case kC => k_is); (case exC => k_is); (case tyC => k_is); (case hdC => k_is)
      (case ca => k_is); (case cn => k_is); (case ct => k_is); (case cm => k_is)
    have T2 := by
      refine' My.excT_mk KX g2 ?xL ?tl ?ov ?sa ?ga ?gg ?kC ?exC ?tyC ?hdC ?ca ?cn ?ct ?cm
      (case xL => k_is); (case tl => decide +kernel); (case ov => kx_is); (case sa => k_is); (case ga => k_is); (case gg => k_is); (case kC => k_is); (case exC => k_is); (case tyC => k_is); (case hdC => k_is)
      (case ca => k_is); (case cn => k_is); (case ct => k_is); (case cm => k_is)
    have T3 := by
      refine' My.excT_mk KX g3 ?xL ?tl ?ov ?sa ?ga ?gg ?kC ?exC ?tyC ?hdC ?ca ?cn ?ct ?cm
      (case xL => k_is); (case tl => decide +kernel); (case ov => kx_is); (case sa => k_is); (case ga => k_is); (case gg => k_is); (case kC => k_is); (case exC => k_is); (case tyC => k_is); (case hdC => k_is)
      (case ca => k_is); (case cn => k_is); (case ct => k_is); (case cm => k_is)
    have T4 := by
      refine' My.excT_mk KX g4 ?xL ?tl ?ov ?sa ?ga ?gg ?kC ?exC ?tyC ?hdC ?ca ?cn ?ct ?cm
      (case xL => k_is); (case tl => decide +kernel); (case ov => kx_is); (case sa => k_is); (case ga => k_is); (case gg => k_is); (case kC => k_is); (case exC => k_is); (case tyC => k_is); (case hdC => k_is)
      (case ca => k_is); (case cn => k_is); (case ct => k_is); (case cm => k_is)
    have T5 := by
      refine' My.excT_mk KX g5 ?xL ?tl ?ov ?sa ?ga ?gg ?kC ?exC ?tyC ?hdC ?ca ?cn ?ct ?cm
      (case xL => k_is); (case tl => decide +kernel); (case ov => kx_is); (case sa => k_is); (case ga => k_is); (case gg => k_is); (case kC => k_is); (case exC => k_is); (case tyC => k_is); (case hdC => k_is)
      (case ca => k_is); (case cn => k_is); (case ct => k_is); (case cm => k_is)
    have U0 := by
      refine' My.initAt_mk (qual := "BadValue.__init__") KX g0 ?n ?i ?t ?l ?c
      (case n => k_is); (case i => k_is); (case t => k_is); (case l => k_is); (case c => k_is)
    have U1 := by
      refine' My.initAt_mk (qual := "BadText.__init__") KX g1 ?n ?i ?t ?l ?c
      (case n => k_is); (case i => k_is); (case t => k_is); (case l => k_is); (case c => k_is)
    have U2 := by
      refine' My.initAt_mk (qual := "BadPaper.__init__") KX g2 ?n ?i ?t ?l ?c
      (case n => k_is); (case i => k_is); (case t => k_is); (case l => k_is); (case c => k_is)
    have U3 := by
      refine' My.initWord_mk (qual := "NoStem.__init__") KX g3 ?n ?i ?t ?l ?c
      (case n => k_is); (case i => k_is); (case t => k_is); (case l => k_is); (case c => k_is)
    have U4 := by
      refine' My.initWord_mk (qual := "TakenStem.__init__") KX g4 ?n ?i ?t ?l ?c
      (case n => k_is); (case i => k_is); (case t => k_is); (case l => k_is); (case c => k_is)
    have Z := by
      refine' My.six_mk g0 g1 g2 g3 g4 g5 g6 T0 T1 T2 T3 T4 T5 ?k01 ?k02 ?k03 ?k04 ?k05 ?k10 ?k12 ?k13 ?k14 ?k15 ?k20 ?k21 ?k23 ?k24 ?k25 ?k30 ?k31 ?k32 ?k34 ?k35 ?k40 ?k41 ?k42 ?k43 ?k45 ?k50 ?k51 ?k52 ?k53 ?k54 ?kS0 ?kS1 ?kS2 ?kS3 ?kS4 ?kS5 ?v0 ?v1 ?v2 ?v3 ?v4 ?v5 ?l0 ?l1 ?l2 ?l3 ?l4 ?l5 ?a0 ?a1 ?a2 ?a3 ?a4 ?a5 ?e0 ?e1 ?e2 ?e3 ?e4 ?e5 ?s1 ?s2 ?s3 ?x0 ?x1 ?x2 ?x3 ?x4 ?x5 ?q5 ?n0 ?n1 ?n2 ?n3 ?n4
      (case k01 => kit_is)
      (case k02 => kit_is)
      (case k03 => kit_is)
      (case k04 => kit_is)
      (case k05 => kit_is)
      (case k10 => kit_is)
      (case k12 => kit_is)
      (case k13 => kit_is)
      (case k14 => kit_is)
      (case k15 => kit_is)
      (case k20 => kit_is)
      (case k21 => kit_is)
      (case k23 => kit_is)
      (case k24 => kit_is)
      (case k25 => kit_is)
      (case k30 => kit_is)
      (case k31 => kit_is)
      (case k32 => kit_is)
      (case k34 => kit_is)
      (case k35 => kit_is)
      (case k40 => kit_is)
      (case k41 => kit_is)
      (case k42 => kit_is)
      (case k43 => kit_is)
      (case k45 => kit_is)
      (case k50 => kit_is)
      (case k51 => kit_is)
      (case k52 => kit_is)
      (case k53 => kit_is)
      (case k54 => kit_is)
      (case kS0 => kit_is)
      (case kS1 => kit_is)
      (case kS2 => kit_is)
      (case kS3 => kit_is)
      (case kS4 => kit_is)
      (case kS5 => kit_is)
      (case v0 => kit_is)
      (case v1 => kit_is)
      (case v2 => kit_is)
      (case v3 => kit_is)
      (case v4 => kit_is)
      (case v5 => kit_is)
      (case l0 => kit_is)
      (case l1 => kit_is)
      (case l2 => kit_is)
      (case l3 => kit_is)
      (case l4 => kit_is)
      (case l5 => kit_is)
      (case a0 => kit_is)
      (case a1 => kit_is)
      (case a2 => kit_is)
      (case a3 => kit_is)
      (case a4 => kit_is)
      (case a5 => kit_is)
      (case e0 => kit_is)
      (case e1 => kit_is)
      (case e2 => kit_is)
      (case e3 => kit_is)
      (case e4 => kit_is)
      (case e5 => kit_is)
      (case s1 => k_is)
      (case s2 => k_is)
      (case s3 => k_is)
      (case x0 => k_is)
      (case x1 => k_is)
      (case x2 => k_is)
      (case x3 => k_is)
      (case x4 => k_is)
      (case x5 => k_is)
      (case q5 => k_exc)
      (case n0 => k_is)
      (case n1 => k_is)
      (case n2 => k_is)
      (case n3 => k_is)
      (case n4 => k_is)
    have M : My.Mks PySem.Challenge.rw_stemsure_k00_errors.prog w _ _ := My.mks_mk Z (PySem.MyX.XAt.makes T0 U0) (PySem.MyX.XAt.makes T1 U1) (PySem.MyX.XAt.makes T2 U2) (PySem.MyX.XAt.makesK T0 U0) (PySem.MyX.XAt.makesK T1 U1) (PySem.MyX.XAt.makesK T2 U2)
      (PySem.MyX.XWord.makes T3 U3) (PySem.MyX.XWord.makes T4 U4) (PySem.MyX.XWord.makesK T3 U3) (PySem.MyX.XWord.makesK T4 U4)
    have z_len := by
      refine' PySem.W.mg_none_of (n := "len") KX G ?a
      (case a => k_is)
    have z_int := by
      refine' PySem.W.mg_none_of (n := "int") KX G ?a
      (case a => k_is)
    have z_range := by
      refine' PySem.W.mg_none_of (n := "range") KX G ?a
      (case a => k_is)
    have z_isinstance := by
      refine' PySem.W.mg_none_of (n := "isinstance") KX G ?a
      (case a => k_is)
    have z_tuple := by
      refine' PySem.W.mg_none_of (n := "tuple") KX G ?a
      (case a => k_is)
    have z_list := by
      refine' PySem.W.mg_none_of (n := "list") KX G ?a
      (case a => k_is)
    have z_bool := by
      refine' PySem.W.mg_none_of (n := "bool") KX G ?a
      (case a => k_is)
    have z_str := by
      refine' PySem.W.mg_none_of (n := "str") KX G ?a
      (case a => k_is)
    have z_ValueError := by
      refine' PySem.W.mg_none_of (n := "ValueError") KX G ?a
      (case a => k_is)
    have z_LookupError := by
      refine' PySem.W.mg_none_of (n := "LookupError") KX G ?a
      (case a => k_is)
    have z_ArithmeticError := by
      refine' PySem.W.mg_none_of (n := "ArithmeticError") KX G ?a
      (case a => k_is)
    have z_Exception := by
      refine' PySem.W.mg_none_of (n := "Exception") KX G ?a
      (case a => k_is)
    have B : My.BltX mg := ⟨⟨z_len, z_int, z_range, z_isinstance, z_tuple, z_list, z_bool, z_str⟩, z_ValueError, z_LookupError, z_ArithmeticError, z_Exception⟩
    refine My.law_end S_law hmg (fun _ _ _ _ _ _ _ => rfl) fun base _ _ => ?_
    have BN : My.Blt mg := ⟨z_len, z_int, z_range⟩
    exact My.c_law B Z M S_law (My.c_numbers BN S_numbers) (My.c_take S_take (My.c_draw BN S_draw)) (My.c_so B.toBltI S_so 6) (My.c_of B Z S_of) (My.c_foreign B Z S_foreign) (My.c_caught B Z M S_caught)
