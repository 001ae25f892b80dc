import PyProof.Rows.All
import Wide.All
import OpenK.AllK
import Wide.FinOn
import HandS.ForMost
import HandS.Wide
import HandS.Rev
import HandS.Ends
import HandS.ExcValue
import HandS.ForExc
import HandS.WideMore
import HandS.More
import HandS.Style
import HandS.IsInst
import HandS.ExcIs
import HandS.TryMany
import HandS.NoneIn
import HandS.EndBits
import HandS.Flow
import HandS.Conv
import HandS.Evl
import HandS.TupLe
import PySem.Challenge.RW_docketloom_k06_months_and_easter
set_option Elab.async false
set_option linter.all false
set_option maxRecDepth 100000
set_option maxHeartbeats 4000000
/-! list(reversed(xs)): a new list -/
namespace Rx
open PySem PySem.Spec PyProof.Rows L2 RT
section
variable {prog : Program} {w : World} {A : Around} {E : Value → Shared → Prop} {s : Shared}
theorem grow_rev {G : Result → Shared → Prop} {r l : Addr} {zs : Array Value} (hn0 : A.handled = none) (hr : s.heap.IsRevIter r l ((zs.size : Int) - 1)) (hL : s.heap.IsList l zs) (hd : l ≠ r) (hz : zs.size ≤ sizeLine)
    (D : Addr) (out : Value) (c₀ : Nat) (hD : s.heap.get? D = some { cls := .type "list", data := .seq #[] c₀ }) (hDl : D ≠ l)
    (fin : ∀ g tk acc c1, (∀ b o, b ≠ D → b ≠ r → s.heap.get? b = some o → g.get? b = some o) → g.get? D = some { cls := .type "list", dict := none, data := .seq acc c1, slots := #[] } →
      ItemsOf (fun i v => zs[zs.size - 1 - i]? = some v) acc zs.size → G (.ok (.ret out)) { s with heap := g, toks := tk }) :
    wpAny (model prog w) A.in1 (Builtin.List.listExtendWith (.ref D) (.ref r) out)
      (fun z t => match z with | .done f => G (.ok f) t | .again c => c.quiet = true ∧ codeAny (model prog w) A c G t) (fun e t => G (.error e) t) s := by
  have V := (Walks.listRev (prog := prog) (w := w) (A := A.in1) hn0 r l hd zs).toS
  have hDr : D ≠ r := fun q => by
    obtain ⟨o, ho, hc, _⟩ := id hr
    rw [q, ho] at hD
    rw [Option.some.inj hD] at hc
    simp at hc
  have hout : D ∉ [r, l] := by
    intro hm
    rcases List.mem_cons.mp hm with q | q
    · exact hDr q
    · exact hDl (List.mem_singleton.mp q)
  have hT : s.TypeIs (.ref r) "list_reverseiterator" := hr.typeIs
  have hsame : Builtin.List.listSameRef (.ref D) (.ref r) = false := by simp [Builtin.List.listSameRef, hDr]
  unfold Builtin.List.listExtendWith
  refine wpAny_bind (wpAny_typeOf hT ?_)
  rw [if_neg (by rw [hsame]; decide)]
  refine wpAny_bind (wpAny_pyIter_revIter hr ?_)
  refine wpAny_bind (wpAny_holding ?_)
  unfold Builtin.List.listLengthHint
  refine wpAny_bind (wpAny_specialOf hT nolen_lri ?_)
  show wpAny _ A.in1 (specialOf (Value.ref r) (Str.ofString "__length_hint__") >>= _) _ _ s
  refine wpAny_bind (wpAny_specialOf hT hint_lri ?_)
  generalize hq : ("list_reverseiterator.__length_hint__" : String) = nm
  wp_delta
  rw [show splitId nm = some ("list_reverseiterator", "__length_hint__") from by subst hq; decide +kernel]
  subst hq
  refine wpAny_bind (wpAny_isInstance (b := true) hT (by rw [isSubtype_type]; kernel_rfl) ?_)
  refine wpAny_pure ?_
  rw [if_neg (by decide)]
  have z0 : ((zs.size : Nat) : Int) - 1 - ((0 : Nat) : Int) = (zs.size : Int) - 1 := by omega
  refine wpAny_pure ⟨plainId_quiet F.plain_extend_loop _, codeAny_extend_loopS V hz D hout out zs.size 0 _ _ _ rfl (Nat.zero_le _) ⟨Nat.zero_le _, by rw [z0]; exact hr, hL⟩ hD (ItemsOf.nil _) fun t acc c1 mv hD1 hacc => ?_⟩
  rw [Moved.eq_with mv]
  refine fin t.heap t.toks acc c1 (fun b o hb hbr e => mv.heap b o (fun hm => ?_) e) hD1 hacc
  rcases List.mem_cons.mp hm with q | q
  · exact hb q
  · exact hbr (List.mem_singleton.mp q)
theorem fill_rev {G : Result → Shared → Prop} {r l : Addr} {zs : Array Value} (hn0 : A.handled = none) (hr : s.heap.IsRevIter r l ((zs.size : Int) - 1)) (hL : s.heap.IsList l zs) (hd : l ≠ r) (hz : zs.size ≤ sizeLine)
    (D : Addr) (hD : s.heap.get? D = some { cls := .type "list", data := .seq #[] }) (hDl : D ≠ l) (hDr : D ≠ r)
    (fin : ∀ g tk acc c1, (∀ b o, b ≠ D → b ≠ r → s.heap.get? b = some o → g.get? b = some o) → g.get? D = some { cls := .type "list", dict := none, data := .seq acc c1, slots := #[] } →
      ItemsOf (fun i v => zs[zs.size - 1 - i]? = some v) acc zs.size → G (.ok (.ret .none)) { s with heap := g, toks := tk }) :
    wpAny (model prog w) A.in1 (Builtin.«list.__init__» ⟨[.ref D, .ref r], []⟩)
      (fun z t => match z with | .done f => G (.ok f) t | .again c => c.quiet = true ∧ codeAny (model prog w) A c G t) (fun e t => G (.error e) t) s := by
  show wpAny _ _ (do
    let was ← Builtin.List.listItems (.ref D)
    Builtin.List.listUpdate (.ref D) (fun _ => #[])
    letGo was.toList.reverse
    Builtin.List.listExtendWith (.ref D) (.ref r) .none) _ _ s
  refine wpAny_bind ?_
  unfold Builtin.List.listItems
  refine wpAny_bind (wpAny_seqItems hD rfl (wpAny_pure ?_))
  show wpAny _ _ (updateSeq D (fun _ => #[]) >>= fun _ => letGo (#[] : Array Value).toList.reverse >>= fun _ =>
    Builtin.List.listExtendWith (.ref D) (.ref r) .none) _ _ s
  refine wpAny_bind (wpAny_updateSeq hD rfl ?_)
  have hD2 := Heap.get?_update_self (Obj.mapSeq (fun _ => (#[] : Array Value))) hD rfl
  have kp : ∀ b o, b ≠ D → s.heap.get? b = some o → (s.heap.update D (Obj.mapSeq fun _ => (#[] : Array Value))).get? b = some o := fun b o hb e =>
    (Heap.get?_update_other _ _ (Ne.symm hb)).trans e
  refine wpAny_bind (wpAny_letGo ?_)
  refine grow_rev hn0 (hr.at fun o e => kp r o hDr.symm e) (hL.at fun o e => kp l o hDl.symm e) hd hz D .none _ hD2 hDl fun g tk acc c1 hk hD1 hacc => ?_
  exact fin g tk acc c1 (fun b o hb hbr e => hk b o hb hbr (kp b o hb e)) hD1 hacc
theorem call_list_rev {Q : Value → Shared → Prop} {r l : Addr} {zs : Array Value} (hn0 : A.handled = none) (hr : s.heap.IsRevIter r l ((zs.size : Int) - 1)) (hL : s.heap.IsList l zs) (hd : l ≠ r) (hz : zs.size ≤ sizeLine)
    (fin : ∀ g tk acc c1, (∀ b o, b ≠ r → s.heap.get? b = some o → g.get? b = some o) → g.get? s.heap.objs.size = some { cls := .type "list", dict := none, data := .seq acc c1, slots := #[] } →
      ItemsOf (fun i v => zs[zs.size - 1 - i]? = some v) acc zs.size → Q (.ref s.heap.objs.size) { s with heap := g, toks := tk }) :
    wpAny (model prog w) A (call (.type "list") [.ref r]) Q E s := by
  refine callType_codes (Q₁ := fun ob t => ob = .ref s.heap.objs.size ∧ t = { s with heap := s.heap.push { cls := .type "list", data := .seq #[] } }) F.called_list (F.typeCall_list_1 _) F.entry_list_init
    (code_list_new _ ⟨rfl, rfl⟩) fun ob t ht => ?_
  obtain ⟨rfl, rfl⟩ := ht
  obtain ⟨o1, ho1, _⟩ := id hr
  obtain ⟨o2, ho2, _⟩ := id hL
  have hD : (s.heap.push { cls := .type "list", data := .seq #[] }).get? s.heap.objs.size = some { cls := .type "list", data := .seq #[] } := Heap.get?_push_size _ rfl
  refine ⟨⟨_, hD, rfl⟩, F.args_list_init_2 _ _, fill_rev (A := A.in1) hn0 (hr.at fun o e => Heap.get?_push_of_some _ e) (hL.push _) hd hz _ hD (Nat.ne_of_gt (Heap.lt_size ho2)) (Nat.ne_of_gt (Heap.lt_size ho1)) fun g tk acc c1 hk hD1 hacc => ?_⟩
  exact ⟨rfl, fin g tk acc c1 (fun b o hbr e => hk b o (Nat.ne_of_lt (Heap.lt_size e)) hbr (Heap.get?_push_of_some _ e)) hD1 hacc⟩
end
/-- list(reversed(x)), x a list: what is wanted -/
def tLR (K : PySem.W.Frag) (te : TE) : TE := fun σ H Q => te σ H fun v H1 => ∃ (a : Addr) (xs : List V), v = .ref a ∧ SqL K H1 a xs ∧ ∀ q, H1 q = none → Q (.ref q) (upd H1 q (.lst xs.reverse))
section
variable {X : Cx}
theorem pe_listRev {e : Expr} {te : TE} {p p2 pos pos2 : Pos} (hc : X.calm = true) (hg : Gl X "list") (hm : X.mg "list" = none) (hg2 : Gl X "reversed") (hm2 : X.mg "reversed" = none) (he : PE X e te)
    (hs : starEach [e] X.env = (false, eval e X.env) :: starEach [] X.env := by rfl)
    (hs2 : starEach [.Call (.Name "reversed" p2) [e] [] pos2] X.env = (false, eval (.Call (.Name "reversed" p2) [e] [] pos2) X.env) :: starEach [] X.env := by rfl) :
    PE X (.Call (.Name "list" p) [.Call (.Name "reversed" p2) [e] [] pos2] [] pos) (tLR X.K te) := by
  refine ⟨fun pins s σ H Q I h => ?_⟩
  refine Call_ (ld_blt I hg hm PyProof.Rows.boot_list (PyProof.Rows.callWith_type1 (args_cons (Call_ (ld_blt I hg2 hm2 PyProof.Rows.boot_reversed
    (PyProof.Rows.callWith_type1 (args_cons (thn (he.run pins s σ H _ I h) fun u s1 ⟨v, H1, I1, r1, q1⟩ => args_nil ?_) hs) hs rfl))) hs2) hs2 rfl))
  obtain ⟨a, xs, ev, hq, q⟩ := q1
  subst ev
  obtain rfl : u = Value.ref a := r1
  obtain ⟨its, rv, pl, hz⟩ := I1.list hq
  refine call_reversed_list pl.isList (args_nil ?_)
  have k0 : ∀ b o, s1.heap.get? b = some o → (s1.heap.push (revObj a ((its.toArray.size : Int) - 1))).get? b = some o := fun b o e => Heap.get?_push_of_some _ e
  have J : Inv X pins σ H1 { s1 with heap := s1.heap.push (revObj a ((its.toArray.size : Int) - 1)) } := I1.kept (t' := s1.toks) k0
  obtain ⟨f0, f1, f2, f3, f4, f5⟩ := I1.fpOk (H' := H1) (b := s1.heap.objs.size) (Nat.le_refl _) (I1.hok.fresh (Nat.le_refl _))
  have hl := pl.isList
  obtain ⟨ol, hol, _⟩ := id hl
  have hne : a ≠ s1.heap.objs.size := Nat.ne_of_lt (Heap.lt_size hol)
  have hn : its.toArray.size ≤ sizeLine := by
    rw [List.size_toArray, ← rv.length]
    exact hz
  refine call_list_rev (s := { s1 with heap := s1.heap.push (revObj a ((its.toArray.size : Int) - 1)) }) (I1.ok.hd hc) ⟨_, Heap.get?_push_size _ rfl, rfl, rfl⟩ (hl.push _) hne hn fun g tk acc c1 hk hg1 hi => ?_
  obtain ⟨g2, e1, e2⟩ := restrict g fun b => decide (b ≠ (s1.heap.push (revObj a ((its.toArray.size : Int) - 1))).objs.size)
  have eD := e2 _ (decide_eq_false fun z => z rfl)
  have up : ∀ b o, g2.get? b = some o → g.get? b = some o := fun b o e => by
    by_cases q : b = (s1.heap.push (revObj a ((its.toArray.size : Int) - 1))).objs.size
    · rw [q, eD] at e
      cases e
    · rw [← e1 b (decide_eq_true q)]
      exact e
  have I3 : Inv X pins σ H1 { s1 with heap := g2, toks := tk } := J.turned (t' := tk) (fun b o hb e => by
    rw [e1 b (decide_eq_true (Nat.ne_of_lt (Heap.lt_size e)))]
    exact hk b o hb e) f0 f1 f3 f4 f5
  have hfree : H1 (s1.heap.push (revObj a ((its.toArray.size : Int) - 1))).objs.size = none := J.hok.fresh (Nat.le_refl _)
  exact ⟨.ref _, upd H1 _ (.lst xs.reverse), I3.laidN (t' := tk) up eD hfree (show ObjOk X.prog X.w _ _ _ (.lst xs.reverse) from ⟨by rw [List.length_reverse]; exact hz, acc.toList, c1, vals_rev rv hi, by rw [Array.toArray_toList]; exact hg1⟩), rfl, q _ hfree⟩
end
end Rx
/-! a def by its name, its promise by its name -/
namespace Kt
open PySem PySem.Spec PyProof.Rows L2
structure At (K : PySem.W.Frag) (mg : Str → Option Value) (x : Str) (st : Stmt) : Prop where
  ex : ∃ f fd, Fun K x x st f fd ∧ mg x = some (.ref f)
structure Prom (P : Program) (w : World) (K : PySem.W.Frag) (mg : Str → Option Value) (base : Heap) (CX : CXT) (k : Nat) (x : Str) (ps : List Str) (sp : Sp) : Prop where
  ex : ∃ f fd, mg x = some (.ref f) ∧ PySem.W.keepIn K (.ref f) = true ∧ Binds K fd ps [] ∧ FnOk P w K mg base CX k f fd ps sp ∧ ∃ st, Fun K x x st f fd
structure ExcAt (K : PySem.W.Frag) (mg : Str → Option Value) (x : Str) (C : Addr) : Prop where
  g : mg x = some (.ref C)
  x : PySem.W.excIn K C [.type "ValueError", .type "Exception", .type "BaseException", .type "object"] "ValueError.__new__" = true
  k : PySem.W.keepIn K (.ref C) = true
  b : PySem.W.subIn K (.ref C) (.type "BaseException") = some true
  t : PySem.W.typeIn K (.ref C) = some (.type "type")
  c : ExcC K C
section
variable {P : Program} {w : World} {K : PySem.W.Frag} {mg : Str → Option Value} {base : Heap} {x : Str} {st : Stmt} {N ps : List Str} {k : Nat} {sp : Sp}
abbrev BindH (st : Stmt) (x : Str) (ps : List Str) : Prop := ∀ (kV doc pm : Value) (an : Option Addr) (cdv ct : Value) (us : List Value), us.length = ps.length → bindArgs (PySem.W.fnOf x x (defArgs st) (defBody st) (defScope st) .none kV doc pm an cdv ct) ⟨us, []⟩ = pure (ps.zip us)
theorem At.ok (D : At K mg x st) (S : FnScope N ps (defScope st)) (hb : BindH st x ps) (len : ∀ vs H Q E, sp vs H Q E → vs.length = ps.length)
    (body : ∀ (f : Addr) (cdv : Value) (A : Around) (outer : List Env) (s : Shared) (H : Hp) (vs : List V) (Q : VK) (E : XK), Room k (A.deeper (envOfC x (defScope st) s.heap.objs.size f cdv)) → sp vs H Q E →
      ∃ t, PSs (cxOf CX0 P w K mg base N x (defScope st) f cdv A outer s H E).nox (defBody st) t ∧ t { nx := fun _ H' => Q .non H', rt := Q } (start N vs) H) : Prom P w K mg base CX0 (k + 1) x ps sp := by
  obtain ⟨f, fd, F, g⟩ := D.ex
  exact ⟨f, fd, g, F.kp, F.binds hb, F.ok S len (body f), _, F⟩
theorem At.okX (D : At K mg x st) (S : FnScope N ps (defScope st)) (hb : BindH st x ps) (len : ∀ vs H Q E, sp vs H Q E → vs.length = ps.length)
    (body : ∀ (f : Addr) (cdv : Value) (A : Around) (outer : List Env) (s : Shared) (H : Hp) (vs : List V) (Q : VK) (E : XK), Room k (A.deeper (envOfC x (defScope st) s.heap.objs.size f cdv)) → sp vs H Q E →
      ∃ t, PSs (cxOf (L2.CX P w) P w K mg base N x (defScope st) f cdv A outer s H E) (defBody st) t ∧ t { nx := fun _ H' => Q .non H', rt := Q } (start N vs) H) : Prom P w K mg base (L2.CX P w) (k + 1) x ps sp := by
  obtain ⟨f, fd, F, g⟩ := D.ex
  exact ⟨f, fd, g, F.kp, F.binds hb, F.okX S len (body f), _, F⟩
theorem at_mk {h : Heap} {f : Addr} {oc : Value} {od an : Option Addr} {osl : Array (Option Value)} {kV doc pm cdv ct : Value} (X : K.In h) (G : h.Ns mainGlobals mg) (a : PySem.W.nsIn K mainGlobals x = some (some (.ref f)))
    (l : K.lookup f = some ⟨oc, od, .func (PySem.W.fnOf x x (defArgs st) (defBody st) (defScope st) .none kV doc pm an cdv ct), osl⟩) (c : PySem.W.codeIn K cdv x = true) (k : PySem.W.keepIn K (.ref f) = true) : At K mg x st :=
  ⟨f, _, fun_mk l c k, PySem.W.mg_of X G a⟩
end
section
variable {X : Cx} {CX : CXT} {j k : Nat} {x : Str} {ps : List Str} {sp : Sp} {E : XK} {W : WX} {p pos : Pos} {e : Expr} {es : List Expr} {t : TA}
/-- a call of a def that raises nothing -/
theorem pcall (hr : Room k X.A) (F : Prom X.prog X.w X.K X.mg X.base CX0 j x ps sp) (ha : PA X (e :: es) t) (hg : Gl X x := by rfl) (hj : j ≤ k := by decide) (hdb : (x == ("__debug__" : Str)) = false := by decide)
    (he : starEach (e :: es) X.env = (false, eval e X.env) :: starEach es X.env := by rfl) (hpl : (backTo pos (starEach es X.env)).any (·.1) = false := by rfl) : PE X (.Call (.Name x p) (e :: es) [] pos) (tCall sp [] E0 t) := by
  obtain ⟨f, fd, g, kp, b, G, _⟩ := F.ex
  exact pe_call G (hr.mono hj) hg g kp b .nil pass0 ha hdb he hpl
/-- a call of a def that may raise, here it does not -/
theorem pcallN (hr : Room k X.A) (F : Prom X.prog X.w X.K X.mg X.base (L2.CX X.prog X.w) j x ps sp) (ha : PA X (e :: es) t) (hg : Gl X x := by rfl) (hj : j ≤ k := by decide) (hdb : (x == ("__debug__" : Str)) = false := by decide)
    (he : starEach (e :: es) X.env = (false, eval e X.env) :: starEach es X.env := by rfl) (hpl : (backTo pos (starEach es X.env)).any (·.1) = false := by rfl) : PE X (.Call (.Name x p) (e :: es) [] pos) (tCall sp [] E0 t) := by
  obtain ⟨f, fd, g, kp, b, G, _⟩ := F.ex
  exact pe_call G (hr.mono hj) hg g kp b .nil passL ha hdb he hpl
/-- a call of a def that may raise, within a def that may, or in a try: what is raised is wished at the slots -/
theorem pcallX (hr : Room k X.A) (F : Prom X.prog X.w X.K X.mg X.base (L2.CX X.prog X.w) j x ps sp) (tk : Takes X W) (ha : PA X (e :: es) t) (hg : Gl X x := by rfl) (hj : j ≤ k := by decide) (hdb : (x == ("__debug__" : Str)) = false := by decide)
    (he : starEach (e :: es) X.env = (false, eval e X.env) :: starEach es X.env := by rfl) (hpl : (backTo pos (starEach es X.env)).any (·.1) = false := by rfl) : PE X (.Call (.Name x p) (e :: es) [] pos) (tCallS sp (WE W) t) := by
  obtain ⟨f, fd, g, kp, b, G, _⟩ := F.ex
  exact pe_callS G (hr.mono hj) hg g kp b (fun σ => passAt tk σ) ha hdb he hpl
end
theorem pe_gi {X : Cx} {x : Str} {n : Int} {t : Tok} {pos : Pos} (hm : X.mg x = some (.int n t)) (hg : Gl X x := by rfl) (hdb : (x == ("__debug__" : Str)) = false := by decide) : PE X (.Name x pos) (tC (.int n)) := pe_glob (hd := hdb) hg hm ⟨_, rfl⟩
/-- what a def of one's own frame lets out -/
abbrev wOut (E : XK) : WX := fun cls d _ H => E cls d H
end Kt
namespace Kt
open PySem PySem.Spec PyProof.Rows L2
/-- a promise that is never asked -/
theorem At.never {P : Program} {w : World} {K : PySem.W.Frag} {mg : Str → Option Value} {base : Heap} {x : Str} {st : Stmt} {ps : List Str} {CX : CXT} (D : At K mg x st) (hb : BindH st x ps) : Prom P w K mg base CX 0 x ps (fun _ _ _ _ => False) := by
  obtain ⟨f, fd, F, g⟩ := D.ex
  exact ⟨f, fd, g, F.kp, F.binds hb, ⟨fun _ _ _ _ z => z.elim, fun _ _ _ _ _ _ _ _ _ _ _ _ _ z => z.elim⟩, _, F⟩
/-- a turn of a comprehension without a test -/
theorem lcy {σ : L2.St} {H : Hp} {A B : Bool → Hp → Prop} (h : A true H) : tYes σ H fun b H3 => if b = true then A b H3 else B b H3 := by
  show (if true = true then A true H else B true H)
  rw [if_pos rfl]
  exact h
/-- a comprehension over a range with a step -/
theorem lc_rngC {lo c : Int} {n : Nat} {g : TG} {tt : TT} {te : TE} {vs : List Nat} {σ : L2.St} {H1 : Hp} {D : Addr} {Qd : Hp → Prop} (Pv : Nat → Hp → Prop) (start : Pv 0 (upd H1 D (.lst [])))
    (turn : ∀ i H, i < n → Pv i H → g (.int (lo + (i : Nat) * c)) (wipe σ vs) H fun σ2 H2 => wipe σ2 vs = wipe σ vs ∧ tt σ2 H2 fun b H3 =>
      if b = true then te σ2 H3 fun y H4 => ∃ acc, H4 D = some (.lst acc) ∧ acc.length < sizeLine ∧ Pv (i + 1) (upd H4 D (.lst (acc ++ [y]))) else Pv (i + 1) H3) (fin : ∀ H, Pv n H → Qd H) :
    ∃ W : Nat → Nat → Hp → Prop, (∃ m, W 0 m (upd H1 D (.lst []))) ∧ ∀ i m H, W i m H →
      ((Itc lo c n).stop i H ∧ Qd H) ∨ ((Itc lo c n).go i H ∧ ∃ Nx : Hp → Prop, (∀ H', Nx H' → ∃ m', m' < m ∧ W (i + 1) m' H') ∧ ∀ x H', (Itc lo c n).yld i H x H' → g x (wipe σ vs) H' fun σ2 H2 => wipe σ2 vs = wipe σ vs ∧ tt σ2 H2 fun b H3 =>
        if b = true then te σ2 H3 fun y H4 => ∃ acc, H4 D = some (.lst acc) ∧ acc.length < sizeLine ∧ Nx (upd H4 D (.lst (acc ++ [y]))) else Nx H3) := by
  refine ⟨fun j k G => k = n - j ∧ j ≤ n ∧ Pv j G, ⟨n, by simp, Nat.zero_le _, start⟩, ?_⟩
  rintro j k G ⟨rfl, hj, pj⟩
  by_cases lt : j < n
  · refine .inr ⟨lt, Pv (j + 1), fun G' p' => ⟨n - (j + 1), by omega, rfl, lt, p'⟩, fun v G' yy => ?_⟩
    obtain ⟨e1, e2⟩ := yy
    subst e1 e2
    exact turn j _ lt pj
  · have ej : j = n := by omega
    subst ej
    exact .inl ⟨Nat.le_refl _, fin G pj⟩
/-- range(0, y, c) -/
theorem rgc {y c : Int} (h0 : 0 ≤ y) (h1 : y < 2 ^ 40) (c1 : 1 ≤ c) (c2 : c < 1000000000) : RgC 0 y c ((y + c - 1) / c).toNat := by
  have q := rangeSize_pos (len := y) (c := c) c1 h0
  have z : 0 ≤ (y + c - 1) / c := Int.ediv_nonneg (by omega) (by omega)
  have z2 : (y + c - 1) / c ≤ y + c - 1 := Int.ediv_le_self c (by omega)
  refine ⟨by omega, by omega, ?_, by rw [q]; omega⟩
  unfold Builtin.Range.small
  rw [q]
  simp only [Builtin.Range.rangeFitsLong, Bool.and_eq_true, Bool.or_eq_true, decide_eq_true_eq, beq_iff_eq]
  generalize (y + c - 1) / c = d at z z2
  rw [if_pos (show c > 0 by omega)]
  exact ⟨by omega, .inr (by rw [Bool.and_eq_true, decide_eq_true_eq, decide_eq_true_eq]; omega)⟩
/-! plain data -/
inductive Dd where
  | non | bl (b : Bool) | int (i : Int) | str (s : Str) | tup (xs : List Dd) | lst (xs : List Dd)
mutual
def Rep (H : Hp) : Dd → V → Prop
  | .non, v => v = .non
  | .bl b, v => v = .bl b
  | .int i, v => v = .int i
  | .str s, v => v = .str s
  | .tup ds, v => ds.length ≤ 1000000 ∧ ∃ a xs, v = .ref a ∧ H a = some (.tup xs) ∧ RepL H ds xs
  | .lst ds, v => ds.length ≤ 1000000 ∧ ∃ a xs, v = .ref a ∧ H a = some (.lst xs) ∧ RepL H ds xs
def RepL (H : Hp) : List Dd → List V → Prop
  | [], xs => xs = []
  | d :: ds, xs => ∃ v r, xs = v :: r ∧ Rep H d v ∧ RepL H ds r
end
mutual
def dep : Dd → Nat
  | .tup ds => depL ds + 1
  | .lst ds => depL ds + 1
  | _ => 0
def depL : List Dd → Nat
  | [] => 0
  | d :: ds => max (dep d) (depL ds)
end
theorem RepL.len {H : Hp} : ∀ {ds : List Dd} {xs : List V}, RepL H ds xs → xs.length = ds.length
  | [], xs, h => by
    unfold RepL at h
    subst h
    rfl
  | d :: ds, xs, h => by
    unfold RepL at h
    obtain ⟨v, r, rfl, _, h2⟩ := h
    rw [List.length_cons, List.length_cons, RepL.len h2]
theorem RepL.at {H : Hp} : ∀ {ds : List Dd} {xs : List V} (i : Nat), RepL H ds xs → i < ds.length → ∃ d v, ds[i]? = some d ∧ xs[i]? = some v ∧ Rep H d v ∧ dep d ≤ depL ds
  | [], _, _, _, hi => absurd hi (Nat.not_lt_zero _)
  | d :: ds, xs, i, h, hi => by
    unfold RepL at h
    obtain ⟨v, r, rfl, h1, h2⟩ := h
    cases i with
    | zero => exact ⟨d, v, rfl, rfl, h1, by unfold depL; exact Nat.le_max_left _ _⟩
    | succ i =>
      obtain ⟨d', v', e1, e2, h3, h4⟩ := RepL.at i h2 (by rw [List.length_cons] at hi; omega)
      exact ⟨d', v', e1, e2, h3, by unfold depL; exact Nat.le_trans h4 (Nat.le_max_right _ _)⟩
def Dd.ty : Dd → String
  | .non => "NoneType"
  | .bl _ => "bool"
  | .int _ => "int"
  | .str _ => "str"
  | .tup _ => "tuple"
  | .lst _ => "list"
def Dd.isTup : Dd → Bool
  | .tup _ => true
  | _ => false
def Dd.isLst : Dd → Bool
  | .lst _ => true
  | _ => false
def Dd.isBl : Dd → Bool
  | .bl _ => true
  | _ => false
def Dd.isInt : Dd → Bool
  | .bl _ => true
  | .int _ => true
  | _ => false
def Dd.isStr : Dd → Bool
  | .str _ => true
  | _ => false
theorem Rep.tyx {K : PySem.W.Frag} {H : Hp} {d : Dd} {v : V} (h : Rep H d v) : TyX K H v (.type d.ty) := by
  cases d with
  | non => unfold Rep at h; subst h; exact .base .non
  | bl b => unfold Rep at h; subst h; exact .base (.bl b)
  | int i => unfold Rep at h; subst h; exact .base (.int i)
  | str s => unfold Rep at h; subst h; exact .base (.str s)
  | tup ds => unfold Rep at h; obtain ⟨_, a, xs, rfl, e, _⟩ := h; exact .base (.tup e)
  | lst ds => unfold Rep at h; obtain ⟨_, a, xs, rfl, e, _⟩ := h; exact .base (.lst e)
theorem kit_tuple {K : PySem.W.Frag} (d : Dd) : PySem.W.kitOne K (.type d.ty) (.type "tuple") = some d.isTup := match d with
  | .non => kit_ty (show kitB "NoneType" "tuple" = some false by decide +kernel)
  | .bl _ => kit_ty (show kitB "bool" "tuple" = some false by decide +kernel)
  | .int _ => kit_ty (show kitB "int" "tuple" = some false by decide +kernel)
  | .str _ => kit_ty (show kitB "str" "tuple" = some false by decide +kernel)
  | .tup _ => kit_ty (show kitB "tuple" "tuple" = some true by decide +kernel)
  | .lst _ => kit_ty (show kitB "list" "tuple" = some false by decide +kernel)
theorem kit_list {K : PySem.W.Frag} (d : Dd) : PySem.W.kitOne K (.type d.ty) (.type "list") = some d.isLst := match d with
  | .non => kit_ty (show kitB "NoneType" "list" = some false by decide +kernel)
  | .bl _ => kit_ty (show kitB "bool" "list" = some false by decide +kernel)
  | .int _ => kit_ty (show kitB "int" "list" = some false by decide +kernel)
  | .str _ => kit_ty (show kitB "str" "list" = some false by decide +kernel)
  | .tup _ => kit_ty (show kitB "tuple" "list" = some false by decide +kernel)
  | .lst _ => kit_ty (show kitB "list" "list" = some true by decide +kernel)
theorem kit_bool {K : PySem.W.Frag} (d : Dd) : PySem.W.kitOne K (.type d.ty) (.type "bool") = some d.isBl := match d with
  | .non => kit_ty (show kitB "NoneType" "bool" = some false by decide +kernel)
  | .bl _ => kit_ty (show kitB "bool" "bool" = some true by decide +kernel)
  | .int _ => kit_ty (show kitB "int" "bool" = some false by decide +kernel)
  | .str _ => kit_ty (show kitB "str" "bool" = some false by decide +kernel)
  | .tup _ => kit_ty (show kitB "tuple" "bool" = some false by decide +kernel)
  | .lst _ => kit_ty (show kitB "list" "bool" = some false by decide +kernel)
theorem kit_int {K : PySem.W.Frag} (d : Dd) : PySem.W.kitOne K (.type d.ty) (.type "int") = some d.isInt := match d with
  | .non => kit_ty (show kitB "NoneType" "int" = some false by decide +kernel)
  | .bl _ => kit_ty (show kitB "bool" "int" = some true by decide +kernel)
  | .int _ => kit_ty (show kitB "int" "int" = some true by decide +kernel)
  | .str _ => kit_ty (show kitB "str" "int" = some false by decide +kernel)
  | .tup _ => kit_ty (show kitB "tuple" "int" = some false by decide +kernel)
  | .lst _ => kit_ty (show kitB "list" "int" = some false by decide +kernel)
theorem kit_str {K : PySem.W.Frag} (d : Dd) : PySem.W.kitOne K (.type d.ty) (.type "str") = some d.isStr := match d with
  | .non => kit_ty (show kitB "NoneType" "str" = some false by decide +kernel)
  | .bl _ => kit_ty (show kitB "bool" "str" = some false by decide +kernel)
  | .int _ => kit_ty (show kitB "int" "str" = some false by decide +kernel)
  | .str _ => kit_ty (show kitB "str" "str" = some true by decide +kernel)
  | .tup _ => kit_ty (show kitB "tuple" "str" = some false by decide +kernel)
  | .lst _ => kit_ty (show kitB "list" "str" = some false by decide +kernel)
/-- isinstance(e, c), e the error that the suite holds; its class is told by the reading -/
def rIsG (K : PySem.W.Frag) (cls : Value) (d : Option Addr) (a : Addr) : List V → Hp → VK → Prop := fun xs H Q => ∃ (D : Addr), cls = .ref D ∧ d = none ∧ ExcC K D ∧ rIsE K D a xs H Q
theorem call_isG {X : Cx} {a : Addr} {cls : Value} {d : Option Addr} {oe : Obj} {pn : List (Addr × Obj)} (hz : Zc cls d oe) (hf : ∃ vs, oe.data = .fields vs) : CallR (X.suite a ((a, oe) :: pn)) (.builtin "isinstance") (rIsG X.K cls d a) := by
  intro pins s σ H xs us Q I r h
  obtain ⟨D, rfl, rfl, C, h⟩ := h
  exact call_isE C hz hf pins s σ H xs us Q I r h
theorem kit_self {K : PySem.W.Frag} (D : Addr) : PySem.W.kitOne K (.ref D) (.ref D) = some true := by
  unfold PySem.W.kitOne
  rw [if_pos (by simp)]
/-- except C, the error's class D below it -/
theorem exm_up {K : PySem.W.Frag} {C D : Addr} {mg : Str → Option Value} {x : Str} (c : ExcAt K mg x C) (h : PySem.W.subIn K (.ref D) (.ref C) = some true) : PySem.W.exmOne K (.ref D) (.ref C) = some true :=
  PySem.W.exm_ref c.b c.c.hd c.t h
/-- a law's own promise, over every base -/
theorem law_end {P : Program} {w : World} {K : PySem.W.Frag} {mg : Str → Option Value} {fa : Addr} {st : Stmt} {k : Nat} {sp : Sp} {x p : Str} (D : At K mg x st) (hb : BindH st x [p]) (hfa : mg x = some (.ref fa))
    (F : ∀ base : Heap, Prom P w K mg base CX0 k x [p] sp) :
    ∃ fd : FuncData, (∀ (s : Shared) (v : Value), BindsTo s fd ⟨[v], []⟩ [(p, v)]) ∧ ∀ base : Heap, K.In base → base.Ns mainGlobals mg → FnOk P w K mg base CX0 k fa fd [p] sp := by
  obtain ⟨f, fd, F0, g⟩ := D.ex
  have e : f = fa := by
    rw [g] at hfa
    cases hfa
    rfl
  subst e
  obtain ⟨oc, od, kV, doc, pm, an, cdv, ct, osl, e1, lk, hcd⟩ := F0.ex
  refine ⟨fd, fun s v => .of_eq (by rw [e1]; exact hb kV doc pm an cdv ct [v] rfl), fun base _ _ => ?_⟩
  obtain ⟨f', fd', g', _, _, G', st', F'⟩ := (F base).ex
  have e2 : f' = f := by
    rw [g'] at g
    cases g
    rfl
  subst e2
  obtain ⟨_, _, _, _, _, _, _, _, _, _, lk', _⟩ := F'.ex
  have e3 : fd' = fd := by
    rw [lk] at lk'
    cases lk'
    rfl
  subst e3
  exact G'
theorem tup_mk {K : PySem.W.Frag} {a : Addr} {od : Option Addr} {its : Array Value} {n : Nat} {sl : Array (Option Value)} {xs : List V} (l : K.lookup a = some ⟨.type "tuple", od, .seq its n, sl⟩) (hz : its.size ≤ sizeLine) (v : Vals xs its.toList) (H : Hp) : SqT K H a xs :=
  .inr ⟨_, its, n, l, rfl, rfl, hz, v⟩
theorem exc_mk {K : PySem.W.Frag} {h : Heap} {mg : Str → Option Value} {x : Str} {C : Addr} (X : K.In h) (G : h.Ns mainGlobals mg) (a : PySem.W.nsIn K mainGlobals x = some (some (.ref C)))
    (q : PySem.W.excIn K C [.type "ValueError", .type "Exception", .type "BaseException", .type "object"] "ValueError.__new__" = true) (k : PySem.W.keepIn K (.ref C) = true) (b : PySem.W.subIn K (.ref C) (.type "BaseException") = some true) (t : PySem.W.typeIn K (.ref C) = some (.type "type"))
    (hg : PySem.W.findIn K (.ref C) "__getattribute__" = some (some (.builtin "BaseException.__getattribute__"))) (hk : PySem.W.findIn K (.ref C) "__getattr__" = some none) (hd : PySem.W.hasDictIn K C = true)
    (ha : PySem.W.findIn K (.ref C) "__class__" = some (some (.builtin "object.__class__"))) (hn : PySem.W.specialIn K (.builtin "object.__class__") "__get__" = some (some (.builtin "getset_descriptor.__get__")))
    (ht : PySem.W.takesIn K (.builtin "object.__class__") = some true) (hm : PySem.W.mroIn K C (.type "object") = some true) : ExcAt K mg x C :=
  ⟨PySem.W.mg_of X G a, q, k, b, t, ⟨hg, hk, b, hd, ha, hn, ht, hm⟩⟩
/-- the written part that a fact speaks of -/
abbrev kOf {K : PySem.W.Frag} {h : Heap} (_ : K.In h) : PySem.W.Frag := K
theorem int_mk {K : PySem.W.Frag} {h : Heap} {mg : Str → Option Value} {x : Str} {n : Int} {t : Tok} (X : K.In h) (G : h.Ns mainGlobals mg) (a : PySem.W.nsIn K mainGlobals x = some (some (.int n t))) : ∃ t, mg x = some (.int n t) := ⟨t, PySem.W.mg_of X G a⟩
theorem tupg_mk {K : PySem.W.Frag} {h : Heap} {mg : Str → Option Value} {x : Str} {a : Addr} {od : Option Addr} {its : Array Value} {n : Nat} {sl : Array (Option Value)} {xs : List V} (X : K.In h) (G : h.Ns mainGlobals mg)
    (e : PySem.W.nsIn K mainGlobals x = some (some (.ref a))) (l : K.lookup a = some ⟨.type "tuple", od, .seq its n, sl⟩) (hz : its.size ≤ sizeLine) (v : Vals xs its.toList) : ∃ a, mg x = some (.ref a) ∧ ∀ H, SqT K H a xs :=
  ⟨a, PySem.W.mg_of X G e, fun H => tup_mk l hz v H⟩
theorem ex_mk {α : Type} {R : α → Prop} {a : α} (h : R a) : ∃ a, R a := ⟨a, h⟩
end Kt
/-! dates: the mathematics -/
namespace Dt
def leap (y : Int) : Bool := decide (y % 4 = 0) && (decide (y % 100 ≠ 0) || decide (y % 400 = 0))
def lens : List Int := [31, 28, 31, 30, 31, 30, 31, 31, 30, 31, 30, 31]
def mlen (y m : Int) : Int := if m = 2 ∧ leap y = true then 29 else lens.getD (m - 1).toNat 0
def ystart (y : Int) : Int := 365 * y + (y + 3) / 4 - (y + 99) / 100 + (y + 399) / 400
def lp (y : Int) : Int := if leap y = true then 1 else 0
def msum (y : Int) (n : Nat) : Int := ((List.range n).map fun (i : Nat) => mlen y (1 + (i : Int))).sum
def num (y m d : Int) : Int := ystart y + msum y (m - 1).toNat + d - 1
structure Vd (y m d : Int) : Prop where
  y0 : 0 ≤ y
  m1 : 1 ≤ m
  m2 : m ≤ 12
  d1 : 1 ≤ d
  d2 : d ≤ mlen y m
theorem leap_iff (y : Int) : leap y = true ↔ (y % 4 = 0 ∧ (y % 100 ≠ 0 ∨ y % 400 = 0)) := by
  unfold leap
  rw [Bool.and_eq_true, Bool.or_eq_true, decide_eq_true_eq, decide_eq_true_eq, decide_eq_true_eq]
theorem ystart_succ (y : Int) : ystart (y + 1) = ystart y + 365 + lp y := by
  unfold ystart lp
  by_cases h : leap y = true
  · rw [if_pos h]
    have h := (leap_iff y).mp h
    omega
  · rw [if_neg h]
    have h : ¬ (y % 4 = 0 ∧ (y % 100 ≠ 0 ∨ y % 400 = 0)) := fun q => h ((leap_iff y).mpr q)
    omega
theorem lp_01 (y : Int) : lp y = 0 ∨ lp y = 1 := by
  unfold lp
  split
  · exact .inr rfl
  · exact .inl rfl
theorem msum_succ (y : Int) (n : Nat) : msum y (n + 1) = msum y n + mlen y (1 + (n : Int)) := by
  unfold msum
  rw [List.range_succ, List.map_append, List.sum_append]
  simp
theorem m12 {m : Int} (h1 : 1 ≤ m) (h2 : m ≤ 12) : m = 1 ∨ m = 2 ∨ m = 3 ∨ m = 4 ∨ m = 5 ∨ m = 6 ∨ m = 7 ∨ m = 8 ∨ m = 9 ∨ m = 10 ∨ m = 11 ∨ m = 12 := by omega
theorem mlen_2 (y : Int) : mlen y 2 = 28 + lp y := by
  unfold mlen lp
  by_cases h : leap y = true
  · rw [if_pos ⟨rfl, h⟩, if_pos h]
    rfl
  · rw [if_neg (fun q => h q.2), if_neg h]
    rfl
theorem mlen_ne {y m : Int} (h : m ≠ 2) : mlen y m = lens.getD (m - 1).toNat 0 := by
  unfold mlen
  rw [if_neg (fun q => h q.1)]
theorem mlen_range {y m : Int} (h1 : 1 ≤ m) (h2 : m ≤ 12) : 28 ≤ mlen y m ∧ mlen y m ≤ 31 := by
  have z := lp_01 y
  rcases m12 h1 h2 with h | h | h | h | h | h | h | h | h | h | h | h <;> subst h
  case inr.inl => rw [mlen_2]; omega
  all_goals
    rw [mlen_ne (by decide)]
    exact ⟨by decide, by decide⟩
theorem msum_0 (y : Int) : msum y 0 = 0 := rfl
theorem msum_12 (y : Int) : msum y 12 = 365 + lp y := by
  show msum y (11 + 1) = _
  rw [msum_succ, msum_succ y 10, msum_succ y 9, msum_succ y 8, msum_succ y 7, msum_succ y 6, msum_succ y 5, msum_succ y 4, msum_succ y 3, msum_succ y 2, msum_succ y 1, msum_succ y 0, msum_0]
  have e2 : mlen y (1 + ((1 : Nat) : Int)) = 28 + lp y := mlen_2 y
  rw [e2]
  rw [mlen_ne (y := y) (m := 1 + ((0 : Nat) : Int)) (by decide), mlen_ne (y := y) (m := 1 + ((2 : Nat) : Int)) (by decide), mlen_ne (y := y) (m := 1 + ((3 : Nat) : Int)) (by decide), mlen_ne (y := y) (m := 1 + ((4 : Nat) : Int)) (by decide), mlen_ne (y := y) (m := 1 + ((5 : Nat) : Int)) (by decide), mlen_ne (y := y) (m := 1 + ((6 : Nat) : Int)) (by decide), mlen_ne (y := y) (m := 1 + ((7 : Nat) : Int)) (by decide), mlen_ne (y := y) (m := 1 + ((8 : Nat) : Int)) (by decide), mlen_ne (y := y) (m := 1 + ((9 : Nat) : Int)) (by decide), mlen_ne (y := y) (m := 1 + ((10 : Nat) : Int)) (by decide), mlen_ne (y := y) (m := 1 + ((11 : Nat) : Int)) (by decide)]
  show (0 : Int) + 31 + (28 + lp y) + 31 + 30 + 31 + 30 + 31 + 31 + 30 + 31 + 30 + 31 = _
  omega
theorem msum_mono (y : Int) {a b : Nat} (h : a ≤ b) (hb : b ≤ 12) : msum y a + 28 * ((b : Int) - a) ≤ msum y b := by
  induction b with
  | zero =>
    have e : a = 0 := by omega
    subst e
    simp
  | succ b ih =>
    by_cases q : a = b + 1
    · subst q
      simp
    · have i := ih (by omega) (by omega)
      rw [msum_succ]
      have r := (mlen_range (y := y) (m := 1 + (b : Int)) (by omega) (by omega)).1
      omega
theorem msum_nn (y : Int) {n : Nat} (h : n ≤ 12) : 0 ≤ msum y n := by
  have z := msum_mono y (Nat.zero_le n) h
  rw [msum_0] at z
  omega
theorem num_lo {y m d : Int} (v : Vd y m d) : ystart y ≤ num y m d := by
  have z := msum_nn y (n := (m - 1).toNat) (by have := v.m2; omega)
  have := v.d1
  unfold num
  omega
theorem num_hi {y m d : Int} (v : Vd y m d) : num y m d < ystart (y + 1) := by
  have h1 := v.m1
  have h2 := v.m2
  have h3 := v.d2
  have e : msum y ((m - 1).toNat + 1) = msum y (m - 1).toNat + mlen y m := by
    rw [msum_succ]
    have q : 1 + (((m - 1).toNat : Nat) : Int) = m := by omega
    rw [q]
  have z := msum_mono y (a := (m - 1).toNat + 1) (b := 12) (by omega) (Nat.le_refl _)
  rw [msum_12] at z
  rw [ystart_succ]
  unfold num
  omega
theorem ystart_mono {a b : Int} (h : a ≤ b) : ystart a + 365 * (b - a) ≤ ystart b := by
  obtain ⟨n, e⟩ : ∃ n : Nat, b = a + n := ⟨(b - a).toNat, by omega⟩
  subst e
  clear h
  induction n with
  | zero => simp
  | succ n ih =>
    have z := ystart_succ (a + n)
    have e : a + ((n + 1 : Nat) : Int) = a + n + 1 := by omega
    rw [e, z]
    have := lp_01 (a + n)
    omega
theorem uniq {y m d y' m' d' : Int} (v : Vd y m d) (v' : Vd y' m' d') (h : num y m d = num y' m' d') : y = y' ∧ m = m' ∧ d = d' := by
  have a1 := num_lo v
  have a2 := num_hi v
  have b1 := num_lo v'
  have b2 := num_hi v'
  have ey : y = y' := by
    rcases Int.lt_trichotomy y y' with q | q | q
    · have := ystart_mono (a := y + 1) (b := y') (by omega)
      omega
    · exact q
    · have := ystart_mono (a := y' + 1) (b := y) (by omega)
      omega
  subst ey
  have c1 := v.m1
  have c2 := v.m2
  have c3 := v'.m1
  have c4 := v'.m2
  have d1 := v.d1
  have d2 := v.d2
  have d3 := v'.d1
  have d4 := v'.d2
  have e : ∀ m : Int, 1 ≤ m → msum y ((m - 1).toNat + 1) = msum y (m - 1).toNat + mlen y m := fun m hm => by
    rw [msum_succ]
    have q : 1 + (((m - 1).toNat : Nat) : Int) = m := by omega
    rw [q]
  have e1 := e m c1
  have e2 := e m' c3
  unfold num at h
  have em : m = m' := by
    rcases Int.lt_trichotomy m m' with q | q | q
    · have := msum_mono y (a := (m - 1).toNat + 1) (b := (m' - 1).toNat) (by omega) (by omega)
      omega
    · exact q
    · have := msum_mono y (a := (m' - 1).toNat + 1) (b := (m - 1).toNat) (by omega) (by omega)
      omega
  subst em
  exact ⟨rfl, rfl, by omega⟩
/-- the leap years among 0, 4, .. below y -/
def leaps (n : Nat) : Int := (((List.range n).filter fun (i : Nat) => leap (0 + (i : Int) * 4)).length : Int)
theorem leaps_succ (n : Nat) : leaps (n + 1) = leaps n + lp (0 + (n : Int) * 4) := by
  unfold leaps lp
  rw [List.range_succ, List.filter_append, List.length_append]
  by_cases h : leap (0 + (n : Int) * 4) = true
  · rw [if_pos h, List.filter_cons, if_pos h]
    simp
  · rw [if_neg h, List.filter_cons, if_neg h]
    simp
theorem leaps_eq (n : Nat) : leaps n = (n : Int) - ((4 * (n : Int) - 3) + 99) / 100 + ((4 * (n : Int) - 3) + 399) / 400 := by
  induction n with
  | zero => decide
  | succ n ih =>
    rw [leaps_succ, ih]
    unfold lp
    by_cases h : leap (0 + (n : Int) * 4) = true
    · rw [if_pos h]
      have h := (leap_iff _).mp h
      omega
    · rw [if_neg h]
      have h : ¬ ((0 + (n : Int) * 4) % 4 = 0 ∧ ((0 + (n : Int) * 4) % 100 ≠ 0 ∨ (0 + (n : Int) * 4) % 400 = 0)) := fun q => h ((leap_iff _).mpr q)
      omega
theorem ystart_leaps {y : Int} (h : 0 ≤ y) : ystart y = 365 * y + leaps ((y + 3) / 4).toNat := by
  rw [leaps_eq]
  unfold ystart
  omega
/-- the next date -/
def nextD (y m d : Int) : Int × Int × Int := if d = mlen y m then (if m = 12 then (y + 1, 1, 1) else (y, m + 1, 1)) else (y, m, d + 1)
theorem next_ok {y m d : Int} (v : Vd y m d) : Vd (nextD y m d).1 (nextD y m d).2.1 (nextD y m d).2.2 ∧ num (nextD y m d).1 (nextD y m d).2.1 (nextD y m d).2.2 = num y m d + 1 := by
  have h0 := v.y0
  have h1 := v.m1
  have h2 := v.m2
  have h3 := v.d1
  have h4 := v.d2
  have e : msum y ((m - 1).toNat + 1) = msum y (m - 1).toNat + mlen y m := by
    rw [msum_succ]
    have q : 1 + (((m - 1).toNat : Nat) : Int) = m := by omega
    rw [q]
  unfold nextD
  split
  · rename_i hd
    split
    · rename_i hm
      subst hm
      have z : (28 : Int) ≤ mlen (y + 1) 1 := (mlen_range (by decide) (by decide)).1
      refine ⟨⟨by show 0 ≤ y + 1; omega, by show (1 : Int) ≤ 1; omega, by show (1 : Int) ≤ 12; omega, by show (1 : Int) ≤ 1; omega, by show (1 : Int) ≤ mlen (y + 1) 1; omega⟩, ?_⟩
      show ystart (y + 1) + msum (y + 1) 0 + 1 - 1 = ystart y + msum y 11 + d - 1 + 1
      have e' : msum y 12 = msum y 11 + mlen y 12 := e
      rw [msum_0, ystart_succ]
      rw [msum_12] at e'
      omega
    · rename_i hm
      have z := (mlen_range (y := y) (m := m + 1) (by omega) (by omega)).1
      refine ⟨⟨h0, by show (1 : Int) ≤ m + 1; omega, by show m + 1 ≤ 12; omega, by show (1 : Int) ≤ 1; omega, by show (1 : Int) ≤ mlen y (m + 1); omega⟩, ?_⟩
      show ystart y + msum y (m + 1 - 1).toNat + 1 - 1 = ystart y + msum y (m - 1).toNat + d - 1 + 1
      have q : (m + 1 - 1).toNat = (m - 1).toNat + 1 := by omega
      rw [q, e]
      omega
  · rename_i hd
    refine ⟨⟨h0, h1, h2, by show (1 : Int) ≤ d + 1; omega, by show d + 1 ≤ mlen y m; omega⟩, ?_⟩
    show ystart y + msum y (m - 1).toNat + (d + 1) - 1 = ystart y + msum y (m - 1).toNat + d - 1 + 1
    omega
theorem ystart_nn {y : Int} (h : 0 ≤ y) : y ≤ ystart y := by
  have z := ystart_mono h
  have e : ystart 0 = 0 := by decide
  omega
/-- the guess of the year is never too late -/
theorem guess_ok {n : Int} (h : 0 ≤ n) : ystart (n * 400 / 146097 - 1) ≤ n ∧ -1 ≤ n * 400 / 146097 - 1 := by
  unfold ystart
  omega
end Dt
/-! months and Easter: the mathematics -/
namespace Dt
def far (y m mo : Int) : Int := y * 12 + m - 1 + mo
def later (y m d mo : Int) : Int := num (far y m mo / 12) (far y m mo % 12 + 1) (if mlen (far y m mo / 12) (far y m mo % 12 + 1) < d then mlen (far y m mo / 12) (far y m mo % 12 + 1) else d)
theorem later_vd {y m d mo : Int} (v : Vd y m d) (h : 0 ≤ mo) : Vd (far y m mo / 12) (far y m mo % 12 + 1) (if mlen (far y m mo / 12) (far y m mo % 12 + 1) < d then mlen (far y m mo / 12) (far y m mo % 12 + 1) else d) := by
  have y0 := v.y0
  have m1 := v.m1
  have d1 := v.d1
  have f0 : 0 ≤ far y m mo := by
    unfold far
    omega
  have r := (mlen_range (y := far y m mo / 12) (m := far y m mo % 12 + 1) (by omega) (by omega)).1
  refine ⟨by omega, by omega, by omega, ?_, ?_⟩
  · split <;> omega
  · split <;> omega
theorem num_month {y m d y' m' d' : Int} (v : Vd y m d) (v' : Vd y' m' d') (h : y * 12 + m < y' * 12 + m') : num y m d < num y' m' d' := by
  have a1 := num_lo v
  have a2 := num_hi v
  have b1 := num_lo v'
  have m1 := v.m1
  have m2 := v.m2
  have m3 := v'.m1
  have m4 := v'.m2
  rcases Int.lt_trichotomy y y' with q | q | q
  · have := ystart_mono (a := y + 1) (b := y') (by omega)
    omega
  · subst q
    have e : msum y ((m - 1).toNat + 1) = msum y (m - 1).toNat + mlen y m := by
      rw [msum_succ]
      have q : 1 + (((m - 1).toNat : Nat) : Int) = m := by omega
      rw [q]
    have z := msum_mono y (a := (m - 1).toNat + 1) (b := (m' - 1).toNat) (by omega) (by omega)
    have d2 := v.d2
    have d3 := v'.d1
    unfold num
    omega
  · omega
/-- a later day is not earlier some months later -/
theorem later_mono {y m d y' m' d' mo : Int} (v : Vd y m d) (v' : Vd y' m' d') (h : num y m d ≤ num y' m' d') (h0 : 0 ≤ mo) : later y m d mo ≤ later y' m' d' mo := by
  have hv := later_vd v h0
  have hv' := later_vd v' h0
  have m1 := v.m1
  have m2 := v.m2
  have m3 := v'.m1
  have m4 := v'.m2
  rcases Int.lt_trichotomy (y * 12 + m) (y' * 12 + m') with q | q | q
  · refine Int.le_of_lt (num_month hv hv' ?_)
    have e1 : far y m mo / 12 * 12 + (far y m mo % 12 + 1) = far y m mo + 1 := by omega
    have e2 : far y' m' mo / 12 * 12 + (far y' m' mo % 12 + 1) = far y' m' mo + 1 := by omega
    rw [e1, e2]
    unfold far
    omega
  · have e1 : y = y' := by omega
    have e2 : m = m' := by omega
    subst e1 e2
    have ed : d ≤ d' := by
      unfold num at h
      omega
    unfold later num
    split <;> split <;> omega
  · have z := num_month v' v q
    omega
theorem later_0 {y m d : Int} (v : Vd y m d) : later y m d 0 = num y m d := by
  have m1 := v.m1
  have m2 := v.m2
  have d2 := v.d2
  have e1 : far y m 0 / 12 = y := by unfold far; omega
  have e2 : far y m 0 % 12 + 1 = m := by unfold far; omega
  unfold later
  rw [e1, e2, if_neg (by omega)]
/-- two steps come where one does, from a day up to the 28th -/
theorem later_two {y m d a b : Int} (v : Vd y m d) (h : d ≤ 28) (a0 : 0 ≤ a) (b0 : 0 ≤ b) :
    later (far y m a / 12) (far y m a % 12 + 1) d b = later y m d (a + b) ∧ Vd (far y m a / 12) (far y m a % 12 + 1) d ∧ num (far y m a / 12) (far y m a % 12 + 1) d = later y m d a := by
  have hv := later_vd v a0
  have f0 : 0 ≤ far y m a := by
    have := v.y0
    have := v.m1
    unfold far
    omega
  have r := (mlen_range (y := far y m a / 12) (m := far y m a % 12 + 1) (by omega) (by omega)).1
  rw [if_neg (by omega)] at hv
  refine ⟨?_, hv, ?_⟩
  · have e : far (far y m a / 12) (far y m a % 12 + 1) b = far y m (a + b) := by
      unfold far
      omega
    unfold later
    rw [e]
  · unfold later
    rw [if_neg (by omega)]
/-! Easter -/
def offs0 (y : Int) : Int := (19 * (y % 19) + 15 + y / 100 - y / 100 / 4 - (8 * (y / 100) + 13) / 25) % 30
def offs (y : Int) : Int := if offs0 y = 29 then 28 else if offs0 y = 28 ∧ y % 19 > 10 then 27 else offs0 y
def eastP (y : Int) : Int := (num y 3 21 + offs y) + ((6 - (num y 3 21 + offs y + 5) % 7 - 1) % 7 + 1)
def eh (y : Int) : Int := (19 * (y % 19) + y / 100 - y / 100 / 4 - (y / 100 - (y / 100 + 8) / 25 + 1) / 3 + 15) % 30
def ek (y : Int) : Int := (32 + 2 * (y / 100 % 4) + 2 * (y % 100 / 4) - eh y - y % 100 % 4) % 7
def em (y : Int) : Int := (y % 19 + 11 * eh y + 22 * ek y) / 451
def en (y : Int) : Int := eh y + ek y - 7 * em y + 114
def echeck (y : Int) : Bool := decide (114 ≤ en y) && decide (en y ≤ 148) && decide (eastP y = num y (en y / 31) (en y % 31 + 1)) && decide ((eastP y + 5) % 7 = 6)
theorem echeck_all : (List.range 2738).all (fun n => echeck (n : Int)) = true := by decide +kernel
theorem easter_ok {y : Int} (h0 : 0 ≤ y) (h1 : y ≤ 2737) : 114 ≤ en y ∧ en y ≤ 148 ∧ eastP y = num y (en y / 31) (en y % 31 + 1) ∧ (eastP y + 5) % 7 = 6 := by
  have z := List.all_eq_true.mp echeck_all y.toNat (List.mem_range.mpr (by omega))
  have e : ((y.toNat : Nat) : Int) = y := by omega
  rw [e] at z
  unfold echeck at z
  rw [Bool.and_eq_true, Bool.and_eq_true, Bool.and_eq_true, decide_eq_true_eq, decide_eq_true_eq, decide_eq_true_eq, decide_eq_true_eq] at z
  exact ⟨z.1.1.1, z.1.1.2, z.1.2, z.2⟩
theorem easter_vd {y : Int} (h0 : 0 ≤ y) (h1 : y ≤ 2737) : Vd y (en y / 31) (en y % 31 + 1) := by
  have z := easter_ok h0 h1
  have hm : en y / 31 = 3 ∨ en y / 31 = 4 := by omega
  rcases hm with e | e
  · refine ⟨h0, by omega, by omega, by omega, ?_⟩
    rw [e, mlen_ne (by decide)]
    show en y % 31 + 1 ≤ 31
    omega
  · refine ⟨h0, by omega, by omega, by omega, ?_⟩
    rw [e, mlen_ne (by decide)]
    show en y % 31 + 1 ≤ 30
    omega
/-- the law's own way to a date -/
theorem guess2 {n : Int} (h0 : 0 ≤ n) (h1 : n ≤ 1000000) : ystart (n / 366) ≤ n ∧ n < ystart (n / 366 + 12 + 1) := by
  unfold ystart
  omega
end Dt
namespace K6
open PySem PySem.Spec PyProof.Rows L2 Kt
def top (i : Nat) : Stmt := PySem.Challenge.pw_docketloom_k06_months_and_easter.main.body.getD i (.Pass ⟨0, 0, 0, 0⟩)
abbrev s_is_number : Stmt := top 4
abbrev N_is_number : List Str := ["value", "least", "most"]
theorem sc_is_number : FnScope N_is_number ["value", "least", "most"] (defScope s_is_number) := ⟨rfl, rfl, rfl, by decide +kernel, rfl, by decide +kernel, by decide +kernel⟩
theorem bi_is_number : BindH s_is_number "is_number" ["value", "least", "most"] := fun _ _ _ _ _ _ us hl => match us, hl with | [_, _, _], _ => rfl
abbrev s_is_day : Stmt := top 9
abbrev N_is_day : List Str := ["value"]
theorem sc_is_day : FnScope N_is_day ["value"] (defScope s_is_day) := ⟨rfl, rfl, rfl, by decide +kernel, rfl, by decide +kernel, by decide +kernel⟩
theorem bi_is_day : BindH s_is_day "is_day" ["value"] := fun _ _ _ _ _ _ us hl => match us, hl with | [_], _ => rfl
abbrev s_check_day : Stmt := top 10
abbrev N_check_day : List Str := ["day"]
theorem sc_check_day : FnScope N_check_day ["day"] (defScope s_check_day) := ⟨rfl, rfl, rfl, by decide +kernel, rfl, by decide +kernel, by decide +kernel⟩
theorem bi_check_day : BindH s_check_day "check_day" ["day"] := fun _ _ _ _ _ _ us hl => match us, hl with | [_], _ => rfl
abbrev s_weekday_of : Stmt := top 11
abbrev N_weekday_of : List Str := ["number"]
theorem sc_weekday_of : FnScope N_weekday_of ["number"] (defScope s_weekday_of) := ⟨rfl, rfl, rfl, by decide +kernel, rfl, by decide +kernel, by decide +kernel⟩
theorem bi_weekday_of : BindH s_weekday_of "weekday_of" ["number"] := fun _ _ _ _ _ _ us hl => match us, hl with | [_], _ => rfl
abbrev s_weekday : Stmt := top 12
abbrev N_weekday : List Str := ["day"]
theorem sc_weekday : FnScope N_weekday ["day"] (defScope s_weekday) := ⟨rfl, rfl, rfl, by decide +kernel, rfl, by decide +kernel, by decide +kernel⟩
theorem bi_weekday : BindH s_weekday "weekday" ["day"] := fun _ _ _ _ _ _ us hl => match us, hl with | [_], _ => rfl
abbrev s_has_leap_day : Stmt := top 20
abbrev N_has_leap_day : List Str := ["year"]
theorem sc_has_leap_day : FnScope N_has_leap_day ["year"] (defScope s_has_leap_day) := ⟨rfl, rfl, rfl, by decide +kernel, rfl, by decide +kernel, by decide +kernel⟩
theorem bi_has_leap_day : BindH s_has_leap_day "has_leap_day" ["year"] := fun _ _ _ _ _ _ us hl => match us, hl with | [_], _ => rfl
abbrev s_length_of : Stmt := top 21
abbrev N_length_of : List Str := ["year", "month"]
theorem sc_length_of : FnScope N_length_of ["year", "month"] (defScope s_length_of) := ⟨rfl, rfl, rfl, by decide +kernel, rfl, by decide +kernel, by decide +kernel⟩
theorem bi_length_of : BindH s_length_of "length_of" ["year", "month"] := fun _ _ _ _ _ _ us hl => match us, hl with | [_, _], _ => rfl
abbrev s_check_year : Stmt := top 22
abbrev N_check_year : List Str := ["year"]
theorem sc_check_year : FnScope N_check_year ["year"] (defScope s_check_year) := ⟨rfl, rfl, rfl, by decide +kernel, rfl, by decide +kernel, by decide +kernel⟩
theorem bi_check_year : BindH s_check_year "check_year" ["year"] := fun _ _ _ _ _ _ us hl => match us, hl with | [_], _ => rfl
abbrev s_year_start : Stmt := top 23
abbrev N_year_start : List Str := ["year"]
theorem sc_year_start : FnScope N_year_start ["year"] (defScope s_year_start) := ⟨rfl, rfl, rfl, by decide +kernel, rfl, by decide +kernel, by decide +kernel⟩
theorem bi_year_start : BindH s_year_start "year_start" ["year"] := fun _ _ _ _ _ _ us hl => match us, hl with | [_], _ => rfl
abbrev s_year_of : Stmt := top 24
abbrev N_year_of : List Str := ["number", "year"]
theorem sc_year_of : FnScope N_year_of ["number"] (defScope s_year_of) := ⟨rfl, rfl, rfl, by decide +kernel, rfl, by decide +kernel, by decide +kernel⟩
theorem bi_year_of : BindH s_year_of "year_of" ["number"] := fun _ _ _ _ _ _ us hl => match us, hl with | [_], _ => rfl
abbrev s_number_at : Stmt := top 25
abbrev N_number_at : List Str := ["year", "month", "day", "before"]
theorem sc_number_at : FnScope N_number_at ["year", "month", "day"] (defScope s_number_at) := ⟨rfl, rfl, rfl, by decide +kernel, rfl, by decide +kernel, by decide +kernel⟩
theorem bi_number_at : BindH s_number_at "number_at" ["year", "month", "day"] := fun _ _ _ _ _ _ us hl => match us, hl with | [_, _, _], _ => rfl
abbrev s_date_at : Stmt := top 26
abbrev N_date_at : List Str := ["number", "year", "rest", "month"]
theorem sc_date_at : FnScope N_date_at ["number"] (defScope s_date_at) := ⟨rfl, rfl, rfl, by decide +kernel, rfl, by decide +kernel, by decide +kernel⟩
theorem bi_date_at : BindH s_date_at "date_at" ["number"] := fun _ _ _ _ _ _ us hl => match us, hl with | [_], _ => rfl
abbrev s_moved_by : Stmt := top 27
abbrev N_moved_by : List Str := ["number", "months", "year", "month", "day", "far"]
theorem sc_moved_by : FnScope N_moved_by ["number", "months"] (defScope s_moved_by) := ⟨rfl, rfl, rfl, by decide +kernel, rfl, by decide +kernel, by decide +kernel⟩
theorem bi_moved_by : BindH s_moved_by "moved_by" ["number", "months"] := fun _ _ _ _ _ _ us hl => match us, hl with | [_, _], _ => rfl
abbrev s_date_of : Stmt := top 28
abbrev N_date_of : List Str := ["day"]
theorem sc_date_of : FnScope N_date_of ["day"] (defScope s_date_of) := ⟨rfl, rfl, rfl, by decide +kernel, rfl, by decide +kernel, by decide +kernel⟩
theorem bi_date_of : BindH s_date_of "date_of" ["day"] := fun _ _ _ _ _ _ us hl => match us, hl with | [_], _ => rfl
abbrev s_months_later : Stmt := top 29
abbrev N_months_later : List Str := ["day", "months", "number"]
theorem sc_months_later : FnScope N_months_later ["day", "months"] (defScope s_months_later) := ⟨rfl, rfl, rfl, by decide +kernel, rfl, by decide +kernel, by decide +kernel⟩
theorem bi_months_later : BindH s_months_later "months_later" ["day", "months"] := fun _ _ _ _ _ _ us hl => match us, hl with | [_, _], _ => rfl
abbrev s_easter_offset : Stmt := top 30
abbrev N_easter_offset : List Str := ["year", "golden", "century", "offset"]
theorem sc_easter_offset : FnScope N_easter_offset ["year"] (defScope s_easter_offset) := ⟨rfl, rfl, rfl, by decide +kernel, rfl, by decide +kernel, by decide +kernel⟩
theorem bi_easter_offset : BindH s_easter_offset "easter_offset" ["year"] := fun _ _ _ _ _ _ us hl => match us, hl with | [_], _ => rfl
abbrev s_easter : Stmt := top 31
abbrev N_easter : List Str := ["year", "number", "days_to_sunday"]
theorem sc_easter : FnScope N_easter ["year"] (defScope s_easter) := ⟨rfl, rfl, rfl, by decide +kernel, rfl, by decide +kernel, by decide +kernel⟩
theorem bi_easter : BindH s_easter "easter" ["year"] := fun _ _ _ _ _ _ us hl => match us, hl with | [_], _ => rfl
abbrev s__law_draws : Stmt := top 33
abbrev N__law_draws : List Str := ["script", "draws", "cell", "number", "first", "k", "seed"]
theorem sc__law_draws : FnScope N__law_draws ["script"] (defScope s__law_draws) := ⟨rfl, rfl, rfl, by decide +kernel, rfl, by decide +kernel, by decide +kernel⟩
theorem bi__law_draws : BindH s__law_draws "_law_draws" ["script"] := fun _ _ _ _ _ _ us hl => match us, hl with | [_], _ => rfl
abbrev s__law_take : Stmt := top 34
abbrev N__law_take : List Str := ["draws", "bound"]
theorem sc__law_take : FnScope N__law_take ["draws", "bound"] (defScope s__law_take) := ⟨rfl, rfl, rfl, by decide +kernel, rfl, by decide +kernel, by decide +kernel⟩
theorem bi__law_take : BindH s__law_take "_law_take" ["draws", "bound"] := fun _ _ _ _ _ _ us hl => match us, hl with | [_, _], _ => rfl
abbrev s__law_same : Stmt := top 35
abbrev N__law_same : List Str := ["actual", "due", "k"]
theorem sc__law_same : FnScope N__law_same ["actual", "due"] (defScope s__law_same) := ⟨rfl, rfl, rfl, by decide +kernel, rfl, by decide +kernel, by decide +kernel⟩
theorem bi__law_same : BindH s__law_same "_law_same" ["actual", "due"] := fun _ _ _ _ _ _ us hl => match us, hl with | [_, _], _ => rfl
abbrev s__law_leap : Stmt := top 36
abbrev N__law_leap : List Str := ["year"]
theorem sc__law_leap : FnScope N__law_leap ["year"] (defScope s__law_leap) := ⟨rfl, rfl, rfl, by decide +kernel, rfl, by decide +kernel, by decide +kernel⟩
theorem bi__law_leap : BindH s__law_leap "_law_leap" ["year"] := fun _ _ _ _ _ _ us hl => match us, hl with | [_], _ => rfl
abbrev s__law_length : Stmt := top 37
abbrev N__law_length : List Str := ["year", "month"]
theorem sc__law_length : FnScope N__law_length ["year", "month"] (defScope s__law_length) := ⟨rfl, rfl, rfl, by decide +kernel, rfl, by decide +kernel, by decide +kernel⟩
theorem bi__law_length : BindH s__law_length "_law_length" ["year", "month"] := fun _ _ _ _ _ _ us hl => match us, hl with | [_, _], _ => rfl
abbrev s__law_ahead : Stmt := top 38
abbrev N__law_ahead : List Str := ["year"]
theorem sc__law_ahead : FnScope N__law_ahead ["year"] (defScope s__law_ahead) := ⟨rfl, rfl, rfl, by decide +kernel, rfl, by decide +kernel, by decide +kernel⟩
theorem bi__law_ahead : BindH s__law_ahead "_law_ahead" ["year"] := fun _ _ _ _ _ _ us hl => match us, hl with | [_], _ => rfl
abbrev s__law_date : Stmt := top 39
abbrev N__law_date : List Str := ["day", "year", "turn", "left", "month"]
theorem sc__law_date : FnScope N__law_date ["day"] (defScope s__law_date) := ⟨rfl, rfl, rfl, by decide +kernel, rfl, by decide +kernel, by decide +kernel⟩
theorem bi__law_date : BindH s__law_date "_law_date" ["day"] := fun _ _ _ _ _ _ us hl => match us, hl with | [_], _ => rfl
abbrev s__law_number : Stmt := top 40
abbrev N__law_number : List Str := ["year", "month", "day", "k"]
theorem sc__law_number : FnScope N__law_number ["year", "month", "day"] (defScope s__law_number) := ⟨rfl, rfl, rfl, by decide +kernel, rfl, by decide +kernel, by decide +kernel⟩
theorem bi__law_number : BindH s__law_number "_law_number" ["year", "month", "day"] := fun _ _ _ _ _ _ us hl => match us, hl with | [_, _, _], _ => rfl
abbrev s__law_later : Stmt := top 41
abbrev N__law_later : List Str := ["day", "months", "year", "month", "number", "total", "length"]
theorem sc__law_later : FnScope N__law_later ["day", "months"] (defScope s__law_later) := ⟨rfl, rfl, rfl, by decide +kernel, rfl, by decide +kernel, by decide +kernel⟩
theorem bi__law_later : BindH s__law_later "_law_later" ["day", "months"] := fun _ _ _ _ _ _ us hl => match us, hl with | [_, _], _ => rfl
abbrev s__law_easter : Stmt := top 42
abbrev N__law_easter : List Str := ["year", "a", "b", "c", "h", "k", "m", "number"]
theorem sc__law_easter : FnScope N__law_easter ["year"] (defScope s__law_easter) := ⟨rfl, rfl, rfl, by decide +kernel, rfl, by decide +kernel, by decide +kernel⟩
theorem bi__law_easter : BindH s__law_easter "_law_easter" ["year"] := fun _ _ _ _ _ _ us hl => match us, hl with | [_], _ => rfl
abbrev s__law_told : Stmt := top 43
abbrev N__law_told : List Str := ["day", "months", "e"]
theorem sc__law_told : FnScope N__law_told ["day", "months"] (defScope s__law_told) := ⟨rfl, rfl, rfl, by decide +kernel, rfl, by decide +kernel, by decide +kernel⟩
theorem bi__law_told : BindH s__law_told "_law_told" ["day", "months"] := fun _ _ _ _ _ _ us hl => match us, hl with | [_, _], _ => rfl
abbrev s__law_feast : Stmt := top 44
abbrev N__law_feast : List Str := ["year", "e"]
theorem sc__law_feast : FnScope N__law_feast ["year"] (defScope s__law_feast) := ⟨rfl, rfl, rfl, by decide +kernel, rfl, by decide +kernel, by decide +kernel⟩
theorem bi__law_feast : BindH s__law_feast "_law_feast" ["year"] := fun _ _ _ _ _ _ us hl => match us, hl with | [_], _ => rfl
abbrev s__law_due : Stmt := top 45
abbrev N__law_due : List Str := ["day", "months"]
theorem sc__law_due : FnScope N__law_due ["day", "months"] (defScope s__law_due) := ⟨rfl, rfl, rfl, by decide +kernel, rfl, by decide +kernel, by decide +kernel⟩
theorem bi__law_due : BindH s__law_due "_law_due" ["day", "months"] := fun _ _ _ _ _ _ us hl => match us, hl with | [_, _], _ => rfl
abbrev s_law : Stmt := top 46
abbrev N_law : List Str := ["script", "draws", "turn", "year", "month", "day", "months", "low", "more", "told"]
theorem sc_law : FnScope N_law ["script"] (defScope s_law) := ⟨rfl, rfl, rfl, by decide +kernel, rfl, by decide +kernel, by decide +kernel⟩
theorem bi_law : BindH s_law "law" ["script"] := fun _ _ _ _ _ _ us hl => match us, hl with | [_], _ => rfl
structure Txt (K : PySem.W.Frag) (mg : Str → Option Value) (X_OutOfRange : Addr) : Prop where
  b_type : mg "type" = none
  b_int : mg "int" = none
  b_sum : mg "sum" = none
  b_range : mg "range" = none
  b_min : mg "min" = none
  b_abs : mg "abs" = none
  b_len : mg "len" = none
  b_list : mg "list" = none
  b_reversed : mg "reversed" = none
  b_isinstance : mg "isinstance" = none
  b_tuple : mg "tuple" = none
  b_bool : mg "bool" = none
  b_str : mg "str" = none
  d_is_number : At K mg "is_number" s_is_number
  d_is_day : At K mg "is_day" s_is_day
  d_check_day : At K mg "check_day" s_check_day
  d_weekday_of : At K mg "weekday_of" s_weekday_of
  d_weekday : At K mg "weekday" s_weekday
  d_has_leap_day : At K mg "has_leap_day" s_has_leap_day
  d_length_of : At K mg "length_of" s_length_of
  d_check_year : At K mg "check_year" s_check_year
  d_year_start : At K mg "year_start" s_year_start
  d_year_of : At K mg "year_of" s_year_of
  d_number_at : At K mg "number_at" s_number_at
  d_date_at : At K mg "date_at" s_date_at
  d_moved_by : At K mg "moved_by" s_moved_by
  d_date_of : At K mg "date_of" s_date_of
  d_months_later : At K mg "months_later" s_months_later
  d_easter_offset : At K mg "easter_offset" s_easter_offset
  d_easter : At K mg "easter" s_easter
  d__law_draws : At K mg "_law_draws" s__law_draws
  d__law_take : At K mg "_law_take" s__law_take
  d__law_same : At K mg "_law_same" s__law_same
  d__law_leap : At K mg "_law_leap" s__law_leap
  d__law_length : At K mg "_law_length" s__law_length
  d__law_ahead : At K mg "_law_ahead" s__law_ahead
  d__law_date : At K mg "_law_date" s__law_date
  d__law_number : At K mg "_law_number" s__law_number
  d__law_later : At K mg "_law_later" s__law_later
  d__law_easter : At K mg "_law_easter" s__law_easter
  d__law_told : At K mg "_law_told" s__law_told
  d__law_feast : At K mg "_law_feast" s__law_feast
  d__law_due : At K mg "_law_due" s__law_due
  d_law : At K mg "law" s_law
  e_OutOfRange : ExcAt K mg "OutOfRange" X_OutOfRange
  g_DE : ∃ DE : Addr, ExcAt K mg "DocketError" DE ∧ PySem.W.subIn K (.ref X_OutOfRange) (.ref DE) = some true
  g_LAST_DAY : ∃ t, mg "LAST_DAY" = some (.int 1000000 t)
  g_WEEK : ∃ t, mg "WEEK" = some (.int 7 t)
  g_FIRST_WEEKDAY : ∃ t, mg "FIRST_WEEKDAY" = some (.int 5 t)
  g_LAST_YEAR : ∃ t, mg "LAST_YEAR" = some (.int 2737 t)
  g_MONTHS : ∃ t, mg "MONTHS" = some (.int 12 t)
  g_MOST_MONTHS_LATER : ∃ t, mg "MOST_MONTHS_LATER" = some (.int 1000 t)
  g_LENGTHS : ∃ a, mg "LENGTHS" = some (.ref a) ∧ ∀ H, SqT K H a (Dt.lens.map V.int)
  g_DAYS_OF_400_YEARS : ∃ t, mg "DAYS_OF_400_YEARS" = some (.int 146097 t)
  g_SUNDAY : ∃ t, mg "SUNDAY" = some (.int 6 t)
def isN (v : V) (a b : Int) : Bool := match v with
  | .int n => decide (a ≤ n) && decide (n ≤ b)
  | _ => false
theorem isN_int (n a b : Int) : isN (.int n) a b = (decide (a ≤ n) && decide (n ≤ b)) := rfl
theorem isN_t {n a b : Int} (h1 : a ≤ n) (h2 : n ≤ b) : isN (.int n) a b = true := by
  rw [isN_int, decide_eq_true h1, decide_eq_true h2] <;> rfl
theorem isN_f {n a b : Int} (h : ¬ (a ≤ n ∧ n ≤ b)) : isN (.int n) a b = false := by
  rw [isN_int]
  by_cases h1 : a ≤ n
  · have h2 : ¬ n ≤ b := fun q => h ⟨h1, q⟩
    rw [decide_eq_false h2, Bool.and_false]
  · rw [decide_eq_false h1, Bool.false_and]
theorem isN_iff {n a b : Int} : isN (.int n) a b = true ↔ a ≤ n ∧ n ≤ b := by
  rw [isN_int, Bool.and_eq_true, decide_eq_true_eq, decide_eq_true_eq]
end K6
namespace K6
open PySem PySem.Spec PyProof.Rows L2 Kt Dt
/-! one step of a reading -/
local macro_rules | `(tactic| walk_at "go") => `(tactic| repeat (first
  | refine ⟨_, rfl, ?_⟩
  | refine ⟨_, _, rfl, rfl, (by show (0 : Int) < _; decide), ?_⟩
  | refine ⟨_, _, rfl, rfl, (show CDiv _ _ from ⟨by decide, by decide⟩), ?_⟩
  | refine ⟨_, _, rfl, rfl, (show CMul _ _ from .inr ⟨by decide, by decide⟩), ?_⟩
  | refine ⟨_, _, rfl, rfl, (show CMul _ _ from .inl ⟨by decide, by decide⟩), ?_⟩
  | refine ⟨_, _, rfl, rfl, ?_⟩
  | refine ⟨(rfl : scal _ _ = true), ?_⟩))
section
variable {P : Program} {w : World} {K : PySem.W.Frag} {mg : Str → Option Value} {base : Heap} {OR : Addr}
abbrev Pr0 (P : Program) (w : World) (K : PySem.W.Frag) (mg : Str → Option Value) (base : Heap) (k : Nat) (x : Str) (ps : List Str) (sp : Sp) : Prop := Prom P w K mg base CX0 k x ps sp
abbrev PrX (P : Program) (w : World) (K : PySem.W.Frag) (mg : Str → Option Value) (base : Heap) (k : Nat) (x : Str) (ps : List Str) (sp : Sp) : Prop := Prom P w K mg base (L2.CX P w) k x ps sp
def spIsNum (K : PySem.W.Frag) : Sp := fun vs H Q _ => ∃ (v : V) (a b : Int) (T : String), vs = [v, .int a, .int b] ∧ TyB K H v T ∧ Q (.bl (isN v a b)) H
theorem ok_is_number (T : Txt K mg OR) : Prom P w K mg base CX0 1 "is_number" ["value", "least", "most"] (spIsNum K) := by
  have nd := sc_is_number.nd
  refine T.d_is_number.ok sc_is_number bi_is_number (fun vs H Q E h => ?_) (fun f cdv A outer s H vs Q E hr h => ?_)
  · obtain ⟨v, a, b, t, rfl, _⟩ := h
    rfl
  · obtain ⟨v, a, b, t, rfl, ty, q⟩ := h
    refine ⟨_, (pss_one (ps_ret (pe_and (pe_cmpR op_isTyB (pe_callTy call_type1 (by rfl) T.b_type (by decide +kernel) (pa_cons (pv 0) pa_nil)) (pe_bltn (v := .ty "int") (by rfl) T.b_int PyProof.Rows.boot_int rfl) (nomark _)) (pe_one (pe_chain op_le op_le (pv 1) (pv 0) (pv 2)))))), ?_⟩
    refine ⟨v, rfl, v, t, rfl, ty, _, _, rfl, rfl, _, rfl, ?_⟩
    cases ty with
    | int n =>
      refine iteT ?_
      walk_at "go"
      cases c : decide (a ≤ n) with
      | true =>
        refine iteT ?_
        walk_at "go"
        have e : isN (.int n) a b = decide (n ≤ b) := by show (decide (a ≤ n) && decide (n ≤ b)) = _; rw [c] <;> rfl
        rw [e] at q
        exact q
      | false =>
        refine iteF ?_
        have e : isN (.int n) a b = false := by show (decide (a ≤ n) && decide (n ≤ b)) = _; rw [c] <;> rfl
        rw [e] at q
        exact q
    | _ => exact iteF q
def spIsDay (K : PySem.W.Frag) : Sp := fun vs H Q _ => ∃ (v : V) (T : String), vs = [v] ∧ TyB K H v T ∧ Q (.bl (isN v 0 1000000)) H
theorem ok_is_day (T : Txt K mg OR) : Prom P w K mg base CX0 2 "is_day" ["value"] (spIsDay K) := by
  have nd := sc_is_day.nd
  have pr_is_number := ok_is_number (P := P) (w := w) (base := base) T
  obtain ⟨tL, gL⟩ := T.g_LAST_DAY
  refine T.d_is_day.ok sc_is_day bi_is_day (fun vs H Q E h => ?_) (fun f cdv A outer s H vs Q E hr h => ?_)
  · obtain ⟨v, t, rfl, _⟩ := h
    rfl
  · obtain ⟨v, t, rfl, ty, q⟩ := h
    refine ⟨_, (pss_one (ps_ret (pcall hr pr_is_number (pa_cons (pv 0) (pa_cons pe_int (pa_cons (pe_gi gL) pa_nil)))))), ?_⟩
    exact ⟨v, rfl, v, 0, 1000000, t, rfl, ty, q⟩
/-- a def that looks at a value, and raises -/
def spCheck (K : PySem.W.Frag) (a b : Int) (OR : Addr) : Sp := fun vs H Q E => ∃ (v : V) (T : String), vs = [v] ∧ TyB K H v T ∧ (isN v a b = true → Q .non H) ∧ (isN v a b = false → E (.ref OR) none H)
theorem ok_check_day (T : Txt K mg OR) : PrX P w K mg base 3 "check_day" ["day"] (spCheck K 0 1000000 OR) := by
  have nd := sc_check_day.nd
  have pr_is_day := ok_is_day (P := P) (w := w) (base := base) T
  refine T.d_check_day.okX sc_check_day bi_check_day (fun vs H Q E h => ?_) (fun f cdv A outer s H vs Q E hr h => ?_)
  · obtain ⟨v, t, rfl, _⟩ := h
    rfl
  · obtain ⟨v, t, rfl, ty, q1, q2⟩ := h
    refine ⟨_, (pss_one (ps_if (pt_not (pt_val (pcall hr pr_is_day (pa_cons (pv 0) pa_nil)))) (pss_one (ps_raise rfl (takes_of rfl rfl rfl rfl) (pmk_own PySem.F.excBase_ValueError T.e_OutOfRange.x T.e_OutOfRange.g T.e_OutOfRange.k (raises_own T.e_OutOfRange.b T.e_OutOfRange.t) rfl))) pss_nil)), ?_⟩
    refine ⟨v, rfl, v, t, rfl, ty, _, rfl, ?_⟩
    cases c : isN v 0 1000000 with
    | true => exact iteF (q1 c)
    | false => exact iteT (q2 c)
theorem ok_weekday_of (T : Txt K mg OR) : Prom P w K mg base CX0 1 "weekday_of" ["number"] (fun vs H Q _ => ∃ n : Int, vs = [.int n] ∧ Q (.int ((n + 5) % 7)) H) := by
  have nd := sc_weekday_of.nd
  obtain ⟨t1, g1⟩ := T.g_FIRST_WEEKDAY
  obtain ⟨t2, g2⟩ := T.g_WEEK
  refine T.d_weekday_of.ok sc_weekday_of bi_weekday_of (fun vs H Q E h => ?_) (fun f cdv A outer s H vs Q E hr h => ?_)
  · obtain ⟨n, rfl, _⟩ := h
    rfl
  · obtain ⟨n, rfl, q⟩ := h
    refine ⟨_, (pss_one (ps_ret (pe_op op_mod (pe_op op_add (pv 0) (pe_gi g1)) (pe_gi g2)))), ?_⟩
    walk_at "go"
    exact q
theorem ok_weekday (T : Txt K mg OR) : PrX P w K mg base 4 "weekday" ["day"] (fun vs H Q E => ∃ n : Int, vs = [.int n] ∧ (isN (.int n) 0 1000000 = true → Q (.int ((n + 5) % 7)) H) ∧ (isN (.int n) 0 1000000 = false → E (.ref OR) none H)) := by
  have nd := sc_weekday.nd
  have pr_check_day := ok_check_day (P := P) (w := w) (base := base) T
  have pr_weekday_of := ok_weekday_of (P := P) (w := w) (base := base) T
  refine T.d_weekday.okX sc_weekday bi_weekday (fun vs H Q E h => ?_) (fun f cdv A outer s H vs Q E hr h => ?_)
  · obtain ⟨n, rfl, _⟩ := h
    rfl
  · obtain ⟨n, rfl, q1, q2⟩ := h
    refine ⟨_, (pss_cons (ps_expr (pcallX hr pr_check_day (takes_of rfl rfl rfl rfl) (pa_cons (pv 0) pa_nil)))
    (pss_one (ps_ret (pcall hr pr_weekday_of (pa_cons (pv 0) pa_nil))))), ?_⟩
    exact ⟨_, rfl, _, "int", rfl, .int n, fun c => ⟨_, rfl, n, rfl, q1 c⟩, q2⟩
theorem ok_has_leap_day (T : Txt K mg OR) : Prom P w K mg base CX0 1 "has_leap_day" ["year"] (fun vs H Q _ => ∃ n : Int, vs = [.int n] ∧ Q (.bl (leap n)) H) := by
  have nd := sc_has_leap_day.nd
  refine T.d_has_leap_day.ok sc_has_leap_day bi_has_leap_day (fun vs H Q E h => ?_) (fun f cdv A outer s H vs Q E hr h => ?_)
  · obtain ⟨n, rfl, _⟩ := h
    rfl
  · obtain ⟨n, rfl, q⟩ := h
    refine ⟨_, (pss_one (ps_ret (pe_and (pe_cmpR op_eq (pe_op op_mod (pv 0) pe_int) pe_int (nomark _)) (pe_one (pe_or (pe_cmpR op_ne (pe_op op_mod (pv 0) pe_int) pe_int (nomark _)) (pe_one (pe_cmpR op_eq (pe_op op_mod (pv 0) pe_int) pe_int (nomark _)))))))), ?_⟩
    have i_inj : ∀ a b : Int, decide (V.int a = V.int b) = decide (a = b) := fun a b => by
      by_cases c : a = b
      · rw [c, decide_eq_true rfl, decide_eq_true rfl]
      · rw [decide_eq_false c, decide_eq_false (fun z => c (by cases z; rfl))]
    have e : leap n = (decide (V.int (n % 4) = V.int 0) && (!decide (V.int (n % 100) = V.int 0) || decide (V.int (n % 400) = V.int 0))) := by
      rw [i_inj, i_inj, i_inj]
      unfold leap
      simp
    rw [e] at q
    walk_at "go"
    cases c : decide (V.int (n % 4) = V.int 0) with
    | false => rw [c] at q; exact iteF q
    | true =>
      rw [c] at q
      refine iteT ?_
      walk_at "go"
      cases c2 : (!decide (V.int (n % 100) = V.int 0)) with
      | true => rw [c2] at q; exact iteT q
      | false =>
        rw [c2] at q
        refine iteF ?_
        walk_at "go"
        exact q
theorem i_inj (a b : Int) : decide (V.int a = V.int b) = decide (a = b) := by
  by_cases c : a = b
  · rw [c, decide_eq_true rfl, decide_eq_true rfl]
  · rw [decide_eq_false c, decide_eq_false (fun z => c (by cases z; rfl))]
theorem lens_at {m : Int} (h1 : 1 ≤ m) (h2 : m ≤ 12) : atI (lens.map V.int) (m - 1) = some (V.int (lens.getD (m - 1).toNat 0)) := by
  rcases m12 h1 h2 with h | h | h | h | h | h | h | h | h | h | h | h <;> subst h <;> decide
theorem ok_length_of (T : Txt K mg OR) : Prom P w K mg base CX0 2 "length_of" ["year", "month"] (fun vs H Q _ => ∃ y m : Int, vs = [.int y, .int m] ∧ 1 ≤ m ∧ m ≤ 12 ∧ Q (.int (mlen y m)) H) := by
  have nd := sc_length_of.nd
  have pr_has_leap_day := ok_has_leap_day (P := P) (w := w) (base := base) T
  obtain ⟨aL, gL, sL⟩ := T.g_LENGTHS
  refine T.d_length_of.ok sc_length_of bi_length_of (fun vs H Q E h => ?_) (fun f cdv A outer s H vs Q E hr h => ?_)
  · obtain ⟨y, m, rfl, _⟩ := h
    rfl
  · obtain ⟨y, m, rfl, h1, h2, q⟩ := h
    refine ⟨_, (pss_cons (ps_if (PW.pt (pw_and (pt_cmpR op_eq (pv 1) pe_int (nomark _)) (pw_and1 (pt_val (pcall hr pr_has_leap_day (pa_cons (pv 0) pa_nil)))))) (pss_one (ps_ret pe_int)) pss_nil)
    (pss_one (ps_ret (pe_ix ix_tup (pe_glob (v := .ref aL) rfl gL rfl) (pe_op op_sub (pv 1) pe_int) (fun _ _ => rfl))))), ?_⟩
    have last : tSeq tNext (tRet (tOp (rIxT K) (tC (.ref aL)) (tOp (rI0 fun i j => .int (i - j)) (tVar 1) (tC (.int 1))))) { nx := fun _ H' => Q .non H', rt := Q } (L2.start N_length_of [V.int y, V.int m]) H ∨ (m = 2 ∧ leap y = true) := by
      by_cases c : m = 2 ∧ leap y = true
      · exact .inr c
      · refine .inl ?_
        walk_at "go"
        refine ⟨_, _, _, _, rfl, rfl, sL H, lens_at h1 h2, ?_⟩
        unfold mlen at q
        rw [if_neg c] at q
        exact q
    refine ⟨_, rfl, rfl, _, rfl, ?_⟩
    cases c : decide (V.int m = V.int 2) with
    | false =>
      refine iteF (iteF ?_)
      rcases last with z | z
      · exact z
      · rw [i_inj, decide_eq_false_iff_not] at c
        exact absurd z.1 c
    | true =>
      rw [i_inj, decide_eq_true_eq] at c
      refine iteT ⟨_, rfl, y, rfl, _, rfl, ?_⟩
      cases c2 : leap y with
      | true =>
        refine iteT ?_
        unfold mlen at q
        rw [if_pos ⟨c, c2⟩] at q
        exact q
      | false =>
        refine iteF ?_
        rcases last with z | z
        · exact z
        · rw [c2] at z
          exact absurd z.2 (by decide)
theorem ok_check_year (T : Txt K mg OR) : PrX P w K mg base 2 "check_year" ["year"] (spCheck K 0 2737 OR) := by
  have nd := sc_check_year.nd
  have pr_is_number := ok_is_number (P := P) (w := w) (base := base) T
  obtain ⟨t1, g1⟩ := T.g_LAST_YEAR
  refine T.d_check_year.okX sc_check_year bi_check_year (fun vs H Q E h => ?_) (fun f cdv A outer s H vs Q E hr h => ?_)
  · obtain ⟨v, t, rfl, _⟩ := h
    rfl
  · obtain ⟨v, t, rfl, ty, q1, q2⟩ := h
    refine ⟨_, (pss_one (ps_if (pt_not (pt_val (pcall hr pr_is_number (pa_cons (pv 0) (pa_cons pe_int (pa_cons (pe_gi g1) pa_nil)))))) (pss_one (ps_raise rfl (takes_of rfl rfl rfl rfl) (pmk_own PySem.F.excBase_ValueError T.e_OutOfRange.x T.e_OutOfRange.g T.e_OutOfRange.k (raises_own T.e_OutOfRange.b T.e_OutOfRange.t) rfl))) pss_nil)), ?_⟩
    refine ⟨v, rfl, v, 0, 2737, t, rfl, ty, _, rfl, ?_⟩
    cases c : isN v 0 2737 with
    | true => exact iteF (q1 c)
    | false => exact iteT (q2 c)
def okYM (y m : Int) : Bool := isN (.int y) 0 2737 && isN (.int m) 1 12
theorem ok_year_start (T : Txt K mg OR) : Prom P w K mg base CX0 1 "year_start" ["year"] (fun vs H Q _ => ∃ n : Int, vs = [.int n] ∧ Q (.int (ystart n)) H) := by
  have nd := sc_year_start.nd
  refine T.d_year_start.ok sc_year_start bi_year_start (fun vs H Q E h => ?_) (fun f cdv A outer s H vs Q E hr h => ?_)
  · obtain ⟨n, rfl, _⟩ := h
    rfl
  · obtain ⟨n, rfl, q⟩ := h
    refine ⟨_, (pss_one (ps_ret (pe_op op_add (pe_op op_sub (pe_op op_add (pe_op op_mul pe_int (pv 0)) (pe_op op_fdiv (pe_op op_add (pv 0) pe_int) pe_int)) (pe_op op_fdiv (pe_op op_add (pv 0) pe_int) pe_int)) (pe_op op_fdiv (pe_op op_add (pv 0) pe_int) pe_int)))), ?_⟩
    walk_at "go"
    exact q
theorem ok_year_of (T : Txt K mg OR) : Prom P w K mg base CX0 2 "year_of" ["number"] (fun vs H Q _ => ∃ n : Int, vs = [.int n] ∧ 0 ≤ n ∧ ∀ y : Int, 0 ≤ y → ystart y ≤ n → n < ystart (y + 1) → Q (.int y) H) := by
  have nd := sc_year_of.nd
  have pr_year_start := ok_year_start (P := P) (w := w) (base := base) T
  obtain ⟨t1, g1⟩ := T.g_DAYS_OF_400_YEARS
  refine T.d_year_of.ok sc_year_of bi_year_of (fun vs H Q E h => ?_) (fun f cdv A outer s H vs Q E hr h => ?_)
  · obtain ⟨n, rfl, _⟩ := h
    rfl
  · obtain ⟨n, rfl, h0, q⟩ := h
    refine ⟨_, (pss_cons (ps_set (i := 1) nd rfl (Or.inl rfl) (pe_op op_sub (pe_op op_fdiv (pe_op op_mul (pv 0) pe_int) (pe_gi g1)) pe_int))
    (pss_cons (ps_while PassesOwn.never (pt_cmpR op_le (pcall hr pr_year_start (pa_cons (pe_op op_add (pv 1) pe_int) pa_nil)) (pv 0) (nomark _)) (pss_one (ps_aug (i := 1) nd rfl (Or.inl rfl) pe_int ip_add)))
    (pss_one (ps_ret (pv 1))))), ?_⟩
    refine ⟨_, rfl, _, _, rfl, rfl, .inr ⟨by decide, by decide⟩, _, _, rfl, rfl, ⟨by decide, by decide⟩, _, _, rfl, rfl, ?_⟩
    have g := guess_ok h0
    have fin : ∀ y : Int, -1 ≤ y → ystart y ≤ n → n < ystart (y + 1) → Q (.int y) H := fun y hy h1 h2 => by
      refine q y ?_ h1 h2
      rcases Int.lt_or_le y 0 with z | z
      · have e : y = -1 := by omega
        subst e
        have e0 : ystart (-1 + 1) = 0 := by decide
        omega
      · exact z
    refine ⟨fun k σ' H' => ∃ y : Int, σ' = [some (.int n), some (.int y)] ∧ H' = H ∧ -1 ≤ y ∧ ystart y ≤ n ∧ k = (n + 1 - y).toNat, ⟨_, _, rfl, rfl, g.2, g.1, rfl⟩, ?_⟩
    rintro k σ' H' ⟨y, rfl, rfl, hy, hs, rfl⟩
    refine ⟨_, rfl, _, _, rfl, rfl, _, rfl, _, rfl, _, _, rfl, rfl, _, rfl, ?_⟩
    cases c : decide (ystart (y + 1) ≤ n) with
    | true =>
      have c := of_decide_eq_true c
      refine iteT ⟨fun σ2 H2 => σ2 = [some (.int n), some (.int (y + 1))] ∧ H2 = H', ?_, ?_⟩
      · rintro σ2 H2 ⟨rfl, rfl⟩
        have z := ystart_nn (y := y + 1) (by omega)
        exact ⟨_, by omega, _, rfl, rfl, by omega, c, rfl⟩
      · exact ⟨_, rfl, _, _, rfl, rfl, rfl, rfl⟩
    | false =>
      have c := of_decide_eq_false c
      exact iteF ⟨_, rfl, fin y hy hs (by omega)⟩
end
end K6
namespace K6
open PySem PySem.Spec PyProof.Rows L2 Kt Dt
local macro_rules | `(tactic| walk_at "go") => `(tactic| repeat (first
  | refine ⟨_, rfl, ?_⟩
  | refine ⟨_, _, rfl, rfl, (by show (0 : Int) < _; decide), ?_⟩
  | refine ⟨_, _, rfl, rfl, (show CDiv _ _ from ⟨by decide, by decide⟩), ?_⟩
  | refine ⟨_, _, rfl, rfl, (show CMul _ _ from .inr ⟨by decide, by decide⟩), ?_⟩
  | refine ⟨_, _, rfl, rfl, (show CMul _ _ from .inl ⟨by decide, by decide⟩), ?_⟩
  | refine ⟨_, _, rfl, rfl, ?_⟩
  | refine ⟨(rfl : scal _ _ = true), ?_⟩))
/-- a turn of a comprehension without a test -/
theorem lcy {σ : L2.St} {H : Hp} {A B : Bool → Hp → Prop} (h : A true H) : tYes σ H fun b H3 => if b = true then A b H3 else B b H3 := by
  show (if true = true then A true H else B true H)
  rw [if_pos rfl]
  exact h
theorem small (n : Nat) (h : n ≤ 1000000) : n ≤ sizeLine := Nat.le_trans h (by decide)
theorem same_new {H : Hp} {p : Addr} {o : HO} (h : H p = none) : Same H (upd H p o) := fun b u e => by
  rw [upd_ne (ne_of_none e h)]
  exact e
theorem same_put {H H' : Hp} {p : Addr} {o : HO} (s : Same H H') (h : H p = none) : Same H (upd H' p o) := fun b u e => by
  rw [upd_ne (ne_of_none e h)]
  exact s b u e
section
variable {P : Program} {w : World} {K : PySem.W.Frag} {mg : Str → Option Value} {base : Heap} {OR : Addr}
def ml (y : Int) (n : Nat) : List Int := (List.range n).map fun (i : Nat) => mlen y (1 + (i : Int))
theorem ml_succ (y : Int) (n : Nat) : (ml y (n + 1)).map V.int = (ml y n).map V.int ++ [V.int (mlen y (1 + (n : Int)))] := by
  unfold ml
  rw [List.range_succ, List.map_append, List.map_append]
  rfl
theorem ml_len (y : Int) (n : Nat) : ((ml y n).map V.int).length = n := by
  unfold ml
  rw [List.length_map, List.length_map, List.length_range]
theorem ok_number_at (T : Txt K mg OR) : Prom P w K mg base CX0 3 "number_at" ["year", "month", "day"] (fun vs H Q _ => ∃ y m d : Int, vs = [.int y, .int m, .int d] ∧ 1 ≤ m ∧ m ≤ 12 ∧ ∀ H', Same H H' → Q (.int (num y m d)) H') := by
  have nd := sc_number_at.nd
  have pr_year_start := ok_year_start (P := P) (w := w) (base := base) T
  have pr_length_of := ok_length_of (P := P) (w := w) (base := base) T
  refine T.d_number_at.ok sc_number_at bi_number_at (fun vs H Q E h => ?_) (fun f cdv A outer s H vs Q E hr h => ?_)
  · obtain ⟨y, m, d, rfl, _⟩ := h
    rfl
  · obtain ⟨y, m, d, rfl, h1, h2, q⟩ := h
    refine ⟨_, (pss_one (ps_ret (pe_op op_sub (pe_op op_add (pe_op op_add (pcall hr pr_year_start (pa_cons (pv 0) pa_nil)) (pe_callB (cr_sum rfl) (by rfl) T.b_sum (by decide +kernel) (pa_cons (pe_lc (own := [("before", 3)]) (g := gName 3) (by rfl) nd (pi_range2 (by rfl) T.b_range (pa_cons pe_int (pa_cons (pv 1) pa_nil))) (blkOk_by (own := [("before", 3)]) (N := N_number_at) (sc := defScope s_number_at) (by decide +kernel)) (fun _ _ _ _ _ => (pg_name (i := 3) nd rfl (Or.inl rfl))) (fun _ _ _ _ _ => pts_nil) (fun _ _ _ _ _ => (pcall hr pr_length_of (pa_cons (pv 0) (pa_cons (pv 3) pa_nil))))) pa_nil))) (pv 2)) pe_int))), ?_⟩
    refine ⟨_, rfl, _, rfl, _, rfl, 1, _, rfl, ⟨by decide, by decide, by show -(2 ^ 62) ≤ m; omega, by show m < 2 ^ 62; omega⟩, fun D hD => lc_range (lo := 1) (n := (m - 1).toNat)
      (fun i H' => Same H H' ∧ H' D = some (.lst ((ml y i).map V.int))) ⟨same_new hD, upd_same⟩ (fun i H' hi p => ⟨rfl, ?_⟩) (fun H' p => ?_)⟩
    · obtain ⟨s1, hL⟩ := p
      refine lcy ?_
      refine ⟨_, rfl, _, rfl, y, 1 + (i : Int), rfl, by omega, by omega, _, hL, ?_, ?_⟩
      · rw [ml_len]
        exact Nat.lt_of_le_of_lt (show i ≤ 12 by omega) (by decide)
      · refine ⟨fun b u e => ?_, ?_⟩
        · rw [upd_ne (ne_of_none e hD)]
          exact s1 b u e
        · rw [upd_same, ml_succ]
    · obtain ⟨s1, hL⟩ := p
      refine ⟨D, _, rfl, .of hL, ?_⟩
      walk_at "go"
      exact q H' s1
/-- a date's tuple -/
def dt (y m d : Int) : List V := [.int y, .int m, .int d]
def spDate : Sp := fun vs H Q _ => ∃ n : Int, vs = [.int n] ∧ 0 ≤ n ∧ ∀ (y m d : Int) (p : Addr) (H' : Hp), Vd y m d → num y m d = n → Same H H' → H p = none → H' p = some (.tup (dt y m d)) → Q (.ref p) H'
theorem ok_date_at (T : Txt K mg OR) : Prom P w K mg base CX0 3 "date_at" ["number"] spDate := by
  have nd := sc_date_at.nd
  have pr_year_start := ok_year_start (P := P) (w := w) (base := base) T
  have pr_length_of := ok_length_of (P := P) (w := w) (base := base) T
  have pr_year_of := ok_year_of (P := P) (w := w) (base := base) T
  refine T.d_date_at.ok sc_date_at bi_date_at (fun vs H Q E h => ?_) (fun f cdv A outer s H vs Q E hr h => ?_)
  · obtain ⟨n, rfl, _⟩ := h
    rfl
  · obtain ⟨n, rfl, h0, q⟩ := h
    refine ⟨_, (pss_cons (ps_set (i := 1) nd rfl (Or.inl rfl) (pcall hr pr_year_of (pa_cons (pv 0) pa_nil)))
    (pss_cons (ps_set (i := 2) nd rfl (Or.inl rfl) (pe_op op_sub (pv 0) (pcall hr pr_year_start (pa_cons (pv 1) pa_nil))))
    (pss_cons (ps_set (i := 3) nd rfl (Or.inl rfl) pe_int)
    (pss_cons (ps_while PassesOwn.never (pt_cmpR op_ge (pv 2) (pcall hr pr_length_of (pa_cons (pv 1) (pa_cons (pv 3) pa_nil))) (nomark _)) (pss_cons (ps_aug (i := 2) nd rfl (Or.inl rfl) (pcall hr pr_length_of (pa_cons (pv 1) (pa_cons (pv 3) pa_nil))) ip_sub)
    (pss_one (ps_aug (i := 3) nd rfl (Or.inl rfl) pe_int ip_add))))
    (pss_one (ps_ret (pe_tup (pa_cons (pv 1) (pa_cons (pv 3) (pa_cons (pe_op op_add (pv 2) pe_int) pa_nil)))))))))), ?_⟩
    refine ⟨_, rfl, n, rfl, h0, fun y y0 ylo yhi => ?_⟩
    refine ⟨_, rfl, _, rfl, y, rfl, _, _, rfl, rfl, ?_⟩
    refine ⟨fun k σ' H' => ∃ j : Nat, σ' = [some (.int n), some (.int y), some (.int (n - ystart y - msum y j)), some (.int ((j : Int) + 1))] ∧ H' = H ∧ j < 12 ∧ 0 ≤ n - ystart y - msum y j ∧ k = 12 - j, ⟨12, 0, by rw [msum_0, Int.sub_zero]; rfl, rfl, by decide, by rw [msum_0]; omega, rfl⟩, ?_⟩
    rintro k σ' H' ⟨j, rfl, rfl, hj, hn, rfl⟩
    refine ⟨_, rfl, _, rfl, _, rfl, y, (j : Int) + 1, rfl, by omega, by omega, _, _, rfl, rfl, _, rfl, ?_⟩
    have e1 : msum y (j + 1) = msum y j + mlen y ((j : Int) + 1) := by
      rw [msum_succ, Int.add_comm 1 (j : Int)]
    cases c : decide (mlen y ((j : Int) + 1) ≤ n - ystart y - msum y j) with
    | true =>
      have c := of_decide_eq_true c
      have hj2 : j + 1 < 12 := by
        rcases Nat.lt_or_ge (j + 1) 12 with z | z
        · exact z
        · have e : j = 11 := by omega
          subst e
          have e2 := msum_12 y
          have e3 := ystart_succ y
          have e4 : msum y 12 = msum y 11 + mlen y ((11 : Nat) + 1) := e1
          omega
      refine iteT ⟨fun σ2 H2 => σ2 = [some (.int n), some (.int y), some (.int (n - ystart y - msum y (j + 1))), some (.int (((j + 1 : Nat) : Int) + 1))] ∧ H2 = H', ?_, ?_⟩
      · rintro σ2 H2 ⟨rfl, rfl⟩
        exact ⟨11 - j, by omega, j + 1, rfl, rfl, hj2, by omega, by omega⟩
      · refine ⟨_, rfl, _, rfl, _, rfl, y, (j : Int) + 1, rfl, by omega, by omega, _, _, rfl, rfl, _, rfl, _, _, rfl, rfl, ?_, rfl⟩
        have e3 : n - ystart y - msum y j - mlen y ((j : Int) + 1) = n - ystart y - msum y (j + 1) := by omega
        have e4 : (j : Int) + 1 + 1 = ((j + 1 : Nat) : Int) + 1 := by omega
        show [some (V.int n), some (V.int y), some (V.int (n - ystart y - msum y j - mlen y ((j : Int) + 1))), some (V.int ((j : Int) + 1 + 1))] = _
        rw [e3, e4]
    | false =>
      have c := of_decide_eq_false c
      refine iteF ⟨_, rfl, _, rfl, _, rfl, _, _, rfl, rfl, by show 3 ≤ sizeLine; decide, fun p hp => ?_⟩
      refine q y ((j : Int) + 1) (n - ystart y - msum y j + 1) p _ ⟨y0, by omega, by omega, by omega, by omega⟩ ?_ (same_new hp) hp upd_same
      unfold num
      have e5 : ((j : Int) + 1 - 1).toNat = j := by omega
      rw [e5]
      omega
def spDateX (OR : Addr) : Sp := fun vs H Q E => ∃ n : Int, vs = [.int n] ∧ (isN (.int n) 0 1000000 = true → ∀ (y m d : Int) (p : Addr) (H' : Hp), Vd y m d → num y m d = n → Same H H' → H p = none → H' p = some (.tup (dt y m d)) → Q (.ref p) H') ∧ (isN (.int n) 0 1000000 = false → E (.ref OR) none H)
theorem ok_date_of (T : Txt K mg OR) : PrX P w K mg base 4 "date_of" ["day"] (spDateX OR) := by
  have nd := sc_date_of.nd
  have pr_check_day := ok_check_day (P := P) (w := w) (base := base) T
  have pr_date_at := ok_date_at (P := P) (w := w) (base := base) T
  refine T.d_date_of.okX sc_date_of bi_date_of (fun vs H Q E h => ?_) (fun f cdv A outer s H vs Q E hr h => ?_)
  · obtain ⟨n, rfl, _⟩ := h
    rfl
  · obtain ⟨n, rfl, q1, q2⟩ := h
    refine ⟨_, (pss_cons (ps_expr (pcallX hr pr_check_day (takes_of rfl rfl rfl rfl) (pa_cons (pv 0) pa_nil)))
    (pss_one (ps_ret (pcall hr pr_date_at (pa_cons (pv 0) pa_nil))))), ?_⟩
    exact ⟨_, rfl, _, "int", rfl, .int n, fun c => ⟨_, rfl, n, rfl, (isN_iff.mp c).1, fun y m d p H' v e s hp hq => q1 c y m d p H' v e s hp hq⟩, q2⟩
def okD (y m d : Int) : Bool := okYM y m && isN (.int d) 1 (mlen y m) && decide (num y m d ≤ 1000000)
def spDay (OR : Addr) : Sp := fun vs H Q E => ∃ y m d : Int, vs = [.int y, .int m, .int d] ∧ (okD y m d = true → ∀ H', Same H H' → Q (.int (num y m d)) H') ∧ (okD y m d = false → ∀ H', Same H H' → E (.ref OR) none H')
end
end K6
namespace K6
open PySem PySem.Spec PyProof.Rows L2 Kt Dt
local macro_rules | `(tactic| walk_at "go") => `(tactic| repeat (first
  | refine ⟨_, rfl, ?_⟩
  | refine ⟨_, _, rfl, rfl, (by show (0 : Int) < _; decide), ?_⟩
  | refine ⟨_, _, rfl, rfl, (show CDiv _ _ from ⟨by decide, by decide⟩), ?_⟩
  | refine ⟨_, _, rfl, rfl, (show CPow _ _ from ⟨by decide, by decide, by decide⟩), ?_⟩
  | refine ⟨_, _, rfl, rfl, (show CMul _ _ from .inr ⟨by decide, by decide⟩), ?_⟩
  | refine ⟨_, _, rfl, rfl, (show CMul _ _ from .inl ⟨by decide, by decide⟩), ?_⟩
  | refine ⟨_, _, rfl, rfl, ?_⟩
  | refine .inl ⟨_, rfl, ?_⟩
  | refine ⟨(rfl : scal _ _ = true), ?_⟩))
/-- a list of ints at p, of at most n -/
def Ints (H : Hp) (p : Addr) (n : Nat) : Prop := ∃ zs : List Int, H p = some (.lst (zs.map V.int)) ∧ zs.length ≤ n
theorem ints_add {zs : List Int} (v : Int) : zs.map V.int ++ [V.int v] = (zs ++ [v]).map V.int := by
  rw [List.map_append]
  rfl
section
variable {P : Program} {w : World} {K : PySem.W.Frag} {mg : Str → Option Value} {base : Heap} {OR : Addr}
theorem map_get {ns : List Int} {i : Nat} {x : V} (h : (ns.map V.int)[i]? = some x) : ∃ n : Int, ns[i]? = some n ∧ x = .int n := by
  rw [List.getElem?_map] at h
  cases e : ns[i]? with
  | none =>
    rw [e] at h
    cases h
  | some n =>
    rw [e] at h
    exact ⟨n, rfl, (Option.some.inj h).symm⟩
def spDraws (K : PySem.W.Frag) : Sp := fun vs H Q _ => ∃ (a : Addr) (ns : List Int), vs = [.ref a] ∧ SqL K H a (ns.map V.int) ∧ ns.length ≤ 63 ∧ ∀ p H', Same H H' → H p = none → Ints H' p 10000 → Q (.ref p) H'
theorem ok_law_draws (T : Txt K mg OR) : Prom P w K mg base CX0 1 "_law_draws" ["script"] (spDraws K) := by
  have nd := sc__law_draws.nd
  refine T.d__law_draws.ok sc__law_draws bi__law_draws (fun vs H Q E h => ?_) (fun f cdv A outer s H vs Q E hr h => ?_)
  · obtain ⟨a, ns, rfl, _⟩ := h
    rfl
  · obtain ⟨a, ns, rfl, hS, hlen, q⟩ := h
    refine ⟨_, (pss_cons (ps_set (i := 1) nd rfl (Or.inl rfl) (pe_lst pa_nil))
    (pss_cons (ps_for PassesOwn.never rfl (pi_list (pv 0)) (pg_name (i := 2) nd rfl (Or.inl rfl)) (pss_cons (ps_set (i := 3) nd rfl (Or.inl rfl) (pe_callB call_abs (by rfl) T.b_abs (by decide +kernel) (pa_cons (pv 2) pa_nil)))
    (Evl.pss_cut (ps_if (pt_cmpR op_lt (pv 3) (pe_op op_pow pe_int pe_int) (nomark _)) (pss_cons (ps_set (i := 4) nd rfl (Or.inl rfl) (pe_op op_mod (pe_callTy call_int1 (by rfl) T.b_int (by decide +kernel) (pa_cons (pe_op op_add (pe_op op_mul (pv 3) pe_int) pe_int) pa_nil)) pe_int))
    (pss_cons (ps_expr (pe_bm PySem.F.plainAttrs_list PySem.F.slot_list_append PySem.F.type_list_append mt_append (pv 1) (pa_cons (pe_op op_mod (pe_callTy call_int1 (by rfl) T.b_int (by decide +kernel) (pa_cons (pe_op op_add (pe_op op_mul (pv 4) pe_int) (pv 3)) pa_nil)) pe_int) pa_nil)))
    (pss_cons (ps_expr (pe_bm PySem.F.plainAttrs_list PySem.F.slot_list_append PySem.F.type_list_append mt_append (pv 1) (pa_cons (pe_op op_mod (pe_callTy call_int1 (by rfl) T.b_int (by decide +kernel) (pa_cons (pe_op op_add (pv 4) (pe_op op_fdiv (pv 3) pe_int)) pa_nil)) pe_int) pa_nil)))
    (pss_one (ps_set (i := 3) nd rfl (Or.inl rfl) pe_int))))) pss_nil)
    (pss_one (ps_for PassesOwn.never rfl (pi_range1 (by rfl) T.b_range (pa_cons pe_int pa_nil)) (pg_name (i := 5) nd rfl (Or.inl rfl)) (pss_one (ps_if (pt_cmpR op_gt (pv 3) pe_int (nomark _)) (pss_cons (ps_expr (pe_bm PySem.F.plainAttrs_list PySem.F.slot_list_append PySem.F.type_list_append mt_append (pv 1) (pa_cons (pe_op op_mod (pe_callTy call_int1 (by rfl) T.b_int (by decide +kernel) (pa_cons (pv 3) pa_nil)) pe_int) pa_nil)))
    (pss_one (ps_set (i := 3) nd rfl (Or.inl rfl) (pe_op op_fdiv (pv 3) pe_int)))) pss_nil)))))))
    (pss_cons (ps_set (i := 6) nd rfl (Or.inl rfl) pe_int)
    (Evl.pss_cut (ps_if (pt_cmpR op_gt (pe_callB call_len_seq (by rfl) T.b_len (by decide +kernel) (pa_cons (pv 0) pa_nil)) pe_int (nomark _)) (pss_one (ps_set (i := 6) nd rfl (Or.inl rfl) (pe_op op_add pe_int (pe_callB call_abs (by rfl) T.b_abs (by decide +kernel) (pa_cons (pe_ix ix_list (pv 0) pe_int (fun _ _ => rfl)) pa_nil))))) pss_nil)
    (pss_cons (ps_for PassesOwn.never rfl (pi_range1 (by rfl) T.b_range (pa_cons pe_int pa_nil)) (pg_name (i := 5) nd rfl (Or.inl rfl)) (pss_cons (ps_set (i := 6) nd rfl (Or.inl rfl) (pe_op op_mod (pe_callTy call_int1 (by rfl) T.b_int (by decide +kernel) (pa_cons (pe_op op_add (pe_op op_mul (pv 6) pe_int) pe_int) pa_nil)) pe_int))
    (pss_one (ps_expr (pe_bm PySem.F.plainAttrs_list PySem.F.slot_list_append PySem.F.type_list_append mt_append (pv 1) (pa_cons (pe_op op_fdiv (pv 6) pe_int) pa_nil))))))
    (pss_one (ps_ret (Rx.pe_listRev rfl (by rfl) T.b_list (by rfl) T.b_reversed (pv 1))))))))), ?_⟩
    refine ⟨Nat.zero_le _, fun D hD => ?_⟩
    have s0 : Same H (upd H D (.lst [])) := same_new hD
    refine ⟨_, rfl, a, rfl, ⟨_, s0.seq hS⟩, for_list (K := K) (a := a) (xs := ns.map V.int) (fun i σ' H' => ∃ v2 v3 v4 v5 : Option V, σ' = [some (.ref a), some (.ref D), v2, v3, v4, v5, none] ∧ Same H H' ∧ Ints H' D (62 * i))
      ⟨none, none, none, none, rfl, s0, [], upd_same, Nat.zero_le _⟩ (fun i σ' H' _ ⟨_, _, _, _, _, s1, _⟩ => s1.seq hS) ?_ ?_⟩
    · rintro i x σ' H' hi ⟨v2, v3, v4, v5, rfl, s1, zs, hz, hl⟩
      obtain ⟨n, hn, rfl⟩ := map_get hi
      have hi63 : i < 63 := Nat.lt_of_lt_of_le (List.getElem?_eq_some_iff.mp hn).1 hlen
      refine ⟨_, rfl, _, rfl, ?_⟩
      refine ⟨fun σ2 H2 => ∃ (m : Int) (v4 : Option V), σ2 = [some (.ref a), some (.ref D), some (.int n), some (.int m), v4, v5, none] ∧ Same H H2 ∧ Ints H2 D (62 * i + 2), ?_, ?_⟩
      · walk_at "go"
        refine ite2 (fun _ => ?_) (fun _ => ?_)
        · walk_at "go"
          refine ⟨.inl ⟨rfl, _, SqL.of hz⟩, ?_⟩
          walk_at "go"
          refine ⟨_, _, _, rfl, rfl, hz, by rw [List.length_map]; exact Nat.lt_of_le_of_lt (show zs.length ≤ 10000 by omega) (by decide), ?_⟩
          rw [ints_add]
          walk_at "go"
          refine ⟨.inl ⟨rfl, _, SqL.of upd_same⟩, ?_⟩
          walk_at "go"
          refine ⟨_, _, _, rfl, rfl, upd_same, by rw [List.length_map, List.length_append]; exact Nat.lt_of_le_of_lt (show zs.length + 1 ≤ 10000 by omega) (by decide), ?_⟩
          rw [ints_add]
          exact ⟨_, _, rfl, same_put (same_put s1 hD) hD, _, upd_same, by rw [List.length_append, List.length_append]; show zs.length + 1 + 1 ≤ _; omega⟩
        · exact ⟨_, v4, rfl, s1, zs, hz, by omega⟩
      · rintro σ2 H2 ⟨m, v4, rfl, s2, zs2, hz2, hl2⟩
        refine ⟨60, rfl, by decide, by decide, for_range (n := 60) (fun j σ3 H3 => ∃ (m : Int) (v4 v5 : Option V), σ3 = [some (.ref a), some (.ref D), some (.int n), some (.int m), v4, v5, none] ∧ Same H H3 ∧ Ints H3 D (62 * i + 2 + j)) ⟨m, v4, v5, rfl, s2, zs2, hz2, hl2⟩ ?_ ?_⟩
        · rintro j σ3 H3 hj ⟨m, v4, v5, rfl, s3, zs3, hz3, hl3⟩
          walk_at "go"
          refine ite2 (fun _ => ?_) (fun _ => ?_)
          · walk_at "go"
            refine ⟨.inl ⟨rfl, _, SqL.of hz3⟩, ?_⟩
            walk_at "go"
            refine ⟨_, _, _, rfl, rfl, hz3, by rw [List.length_map]; exact Nat.lt_of_le_of_lt (show zs3.length ≤ 10000 by omega) (by decide), ?_⟩
            rw [ints_add]
            walk_at "go"
            exact ⟨_, _, _, rfl, same_put s3 hD, _, upd_same, by rw [List.length_append]; show zs3.length + 1 ≤ _; omega⟩
          · exact ⟨m, v4, _, rfl, s3, zs3, hz3, by omega⟩
        · rintro σ3 H3 ⟨m, v4, v5, rfl, s3, zs3, hz3, hl3⟩
          exact ⟨_, _, _, _, rfl, s3, zs3, hz3, by omega⟩
    · rintro σ' H' ⟨v2, v3, v4, v5, rfl, s1, zs, hz, hl⟩
      rw [List.length_map] at hl
      refine ⟨fun σ2 H2 => ∃ z : Int, σ2 = [some (.ref a), some (.ref D), v2, v3, v4, v5, some (.int z)] ∧ H2 = H', ?_, ?_⟩
      · refine ⟨_, rfl, a, _, rfl, .inl (s1.seq hS), _, _, rfl, rfl, _, rfl, ?_⟩
        refine ite2 (fun c => ?_) (fun _ => ⟨_, rfl, rfl⟩)
        have c : 0 < ns.length := by
          have z := of_decide_eq_true c
          rw [List.length_map] at z
          omega
        refine ⟨_, rfl, a, ns.map V.int, 0, V.int ns[0], rfl, rfl, s1.seq hS, atI_nat (j := 0) (by rw [List.getElem?_map, List.getElem?_eq_getElem c]; rfl), ?_⟩
        walk_at "go"
        exact rfl
      · rintro σ2 H2 ⟨z, rfl, rfl⟩
        refine ⟨900, rfl, by decide, by decide, for_range (n := 900) (fun j σ3 H3 => ∃ (z : Int) (v5 : Option V), σ3 = [some (.ref a), some (.ref D), v2, v3, v4, v5, some (.int z)] ∧ Same H H3 ∧ Ints H3 D (62 * 63 + j)) ⟨z, v5, rfl, s1, zs, hz, by omega⟩ ?_ ?_⟩
        · rintro j σ3 H3 hj ⟨z, v5, rfl, s3, zs3, hz3, hl3⟩
          walk_at "go"
          refine ⟨.inl ⟨rfl, _, SqL.of hz3⟩, ?_⟩
          walk_at "go"
          refine ⟨_, _, _, rfl, rfl, hz3, by rw [List.length_map]; exact Nat.lt_of_le_of_lt (show zs3.length ≤ 10000 by omega) (by decide), ?_⟩
          rw [ints_add]
          exact ⟨_, _, rfl, same_put s3 hD, _, upd_same, by rw [List.length_append]; show zs3.length + 1 ≤ _; omega⟩
        · rintro σ3 H3 ⟨z, v5, rfl, s3, zs3, hz3, hl3⟩
          refine ⟨_, rfl, D, _, rfl, SqL.of hz3, fun p hp => ?_⟩
          rw [← List.map_reverse]
          exact q p _ (same_put s3 (s3.free hp)) (s3.free hp) ⟨_, upd_same, by rw [List.length_reverse]; omega⟩
/-- all but what stands at l stays -/
def But (l : Addr) (H H' : Hp) : Prop := ∀ b o, b ≠ l → H b = some o → H' b = some o
theorem But.refl (l : Addr) (H : Hp) : But l H H := fun _ _ _ e => e
theorem But.trans {l : Addr} {H H1 H2 : Hp} (a : But l H H1) (b : But l H1 H2) : But l H H2 := fun c o n e => b c o n (a c o n e)
theorem But.of {l : Addr} {H H1 : Hp} (a : Same H H1) : But l H H1 := fun c o _ e => a c o e
def spTake : Sp := fun vs H Q _ => ∃ (l : Addr) (b : Int), vs = [.ref l, .int b] ∧ 0 < b ∧ Ints H l 10000 ∧ ∀ (r : Int) (H' : Hp), 0 ≤ r → r < b → But l H H' → Ints H' l 10000 → Q (.int r) H'
theorem ok_law_take (T : Txt K mg OR) : Prom P w K mg base CX0 1 "_law_take" ["draws", "bound"] spTake := by
  have nd := sc__law_take.nd
  refine T.d__law_take.ok sc__law_take bi__law_take (fun vs H Q E h => ?_) (fun f cdv A outer s H vs Q E hr h => ?_)
  · obtain ⟨l, b, rfl, _⟩ := h
    rfl
  · obtain ⟨l, b, rfl, hb, ⟨zs, hz, hl⟩, q⟩ := h
    refine ⟨_, (pss_cons (ps_if (pt_cmpR op_eq (pe_callB call_len_seq (by rfl) T.b_len (by decide +kernel) (pa_cons (pv 0) pa_nil)) pe_int (nomark _)) (pss_one (ps_ret pe_int)) pss_nil)
    (pss_one (ps_ret (pe_op op_mod (pe_callTy call_int1 (by rfl) T.b_int (by decide +kernel) (pa_cons (pe_bm0 PySem.F.plainAttrs_list PySem.F.slot_list_pop PySem.F.type_list_pop mt_pop (pv 0)) pa_nil)) (pv 1))))), ?_⟩
    refine ⟨_, rfl, l, _, rfl, .inl (SqL.of hz), rfl, _, rfl, ?_⟩
    rw [List.length_map]
    by_cases c : zs = []
    · subst c
      refine iteT ?_
      exact q 0 H (Int.le_refl _) hb (But.refl l H) ⟨[], hz, Nat.zero_le _⟩
    · have e : decide (V.int ((zs.length : Nat) : Int) = V.int 0) = false := by
        rw [i_inj]
        refine decide_eq_false fun z => c ?_
        exact List.length_eq_zero_iff.mp (by omega)
      rw [e]
      refine iteF ?_
      have hp : 0 < zs.length := List.length_pos_iff.mpr c
      refine ⟨_, rfl, .inl ⟨rfl, _, SqL.of hz⟩, l, zs.map V.int, V.int (zs[zs.length - 1]'(by omega)), rfl, rfl, hz, by rw [List.length_map, List.getElem?_map, List.getElem?_eq_getElem]; rfl, ?_⟩
      refine .inl ⟨_, rfl, _, rfl, _, _, rfl, rfl, hb, ?_⟩
      refine q _ _ (Int.emod_nonneg _ (by omega)) (Int.emod_lt_of_pos _ hb) (fun b' o hn e => ?_) ⟨zs.dropLast, by rw [upd_same, List.map_dropLast], by rw [List.length_dropLast]; omega⟩
      rw [upd_ne hn]
      exact e
theorem ok_law_leap (T : Txt K mg OR) : Prom P w K mg base CX0 1 "_law_leap" ["year"] (fun vs H Q _ => ∃ n : Int, vs = [.int n] ∧ Q (.bl (leap n)) H) := by
  have nd := sc__law_leap.nd
  refine T.d__law_leap.ok sc__law_leap bi__law_leap (fun vs H Q E h => ?_) (fun f cdv A outer s H vs Q E hr h => ?_)
  · obtain ⟨n, rfl, _⟩ := h
    rfl
  · obtain ⟨n, rfl, q⟩ := h
    refine ⟨_, (pss_one (ps_ret (pe_or (pe_and (pe_cmpR op_eq (pe_op op_mod (pv 0) pe_int) pe_int (nomark _)) (pe_one (pe_cmpR op_ne (pe_op op_mod (pv 0) pe_int) pe_int (nomark _)))) (pe_one (pe_cmpR op_eq (pe_op op_mod (pv 0) pe_int) pe_int (nomark _)))))), ?_⟩
    have e : leap n = ((decide (V.int (n % 4) = V.int 0) && !decide (V.int (n % 100) = V.int 0)) || decide (V.int (n % 400) = V.int 0)) := by
      rw [i_inj, i_inj, i_inj]
      have z : leap n = true ↔ ((decide (n % 4 = 0) && !decide (n % 100 = 0)) || decide (n % 400 = 0)) = true := by
        rw [leap_iff]
        simp
        omega
      cases h1 : leap n <;> cases h2 : ((decide (n % 4 = 0) && !decide (n % 100 = 0)) || decide (n % 400 = 0)) <;> simp_all
    rw [e] at q
    walk_at "go"
    cases c : decide (V.int (n % 4) = V.int 0) with
    | false =>
      rw [c] at q
      refine iteF ⟨_, rfl, iteF ?_⟩
      walk_at "go"
      exact q
    | true =>
      rw [c] at q
      refine iteT ?_
      walk_at "go"
      cases c2 : (!decide (V.int (n % 100) = V.int 0)) with
      | true => rw [c2] at q; exact iteT q
      | false =>
        rw [c2] at q
        refine iteF ?_
        walk_at "go"
        exact q
/-- the law's own list of lengths -/
def lw (y : Int) : List Int := [31, 28 + lp y, 31, 30, 31, 30, 31, 31, 30, 31, 30, 31]
theorem lw_at {y m : Int} (h1 : 1 ≤ m) (h2 : m ≤ 12) : atI ((lw y).map V.int) (m - 1) = some (V.int (mlen y m)) := by
  have e : ∀ z : Int, mlen y m = z → (lw y)[(m - 1).toNat]? = some z → atI ((lw y).map V.int) (m - 1) = some (V.int (mlen y m)) := fun z e1 e2 => by
    have q := atI_nat (xs := (lw y).map V.int) (j := (m - 1).toNat) (v := V.int z) (by rw [List.getElem?_map, e2]; rfl)
    have e3 : (((m - 1).toNat : Nat) : Int) = m - 1 := by omega
    rw [e3] at q
    rw [q, e1]
  rcases m12 h1 h2 with h | h | h | h | h | h | h | h | h | h | h | h <;> subst h
  case inr.inl => exact e (28 + lp y) (mlen_2 y) rfl
  all_goals exact e _ (mlen_ne (by decide)) rfl
theorem ok_law_length (T : Txt K mg OR) : Prom P w K mg base CX0 2 "_law_length" ["year", "month"] (fun vs H Q _ => ∃ y m : Int, vs = [.int y, .int m] ∧ 1 ≤ m ∧ m ≤ 12 ∧ ∀ H', Same H H' → Q (.int (mlen y m)) H') := by
  have nd := sc__law_length.nd
  have pr__law_leap := ok_law_leap (P := P) (w := w) (base := base) T
  refine T.d__law_length.ok sc__law_length bi__law_length (fun vs H Q E h => ?_) (fun f cdv A outer s H vs Q E hr h => ?_)
  · obtain ⟨y, m, rfl, _⟩ := h
    rfl
  · obtain ⟨y, m, rfl, h1, h2, q⟩ := h
    refine ⟨_, (pss_one (ps_ret (pe_ix ix_list (pe_lst (pa_cons pe_int (pa_cons (pe_op op_add pe_int (pe_callTy call_int1 (by rfl) T.b_int (by decide +kernel) (pa_cons (pcall hr pr__law_leap (pa_cons (pv 0) pa_nil)) pa_nil))) (pa_cons pe_int (pa_cons pe_int (pa_cons pe_int (pa_cons pe_int (pa_cons pe_int (pa_cons pe_int (pa_cons pe_int (pa_cons pe_int (pa_cons pe_int (pa_cons pe_int pa_nil))))))))))))) (pe_op op_sub (pv 1) pe_int) (fun _ _ => rfl)))), ?_⟩
    refine ⟨_, rfl, y, rfl, .inr ⟨_, rfl, _, _, rfl, rfl, by show 12 ≤ sizeLine; decide, fun p hp => ?_⟩⟩
    have e : (if leap y = true then (1 : Int) else 0) = lp y := rfl
    rw [e]
    refine ⟨_, rfl, _, _, rfl, rfl, p, _, _, _, rfl, rfl, SqL.of upd_same, lw_at h1 h2, q _ (same_new hp)⟩
end
end K6
namespace K6
open PySem PySem.Spec PyProof.Rows L2 Kt
local macro_rules | `(tactic| walk_at "go") => `(tactic| repeat (first
  | refine ⟨_, rfl, ?_⟩
  | refine ⟨_, _, rfl, rfl, (by show (0 : Int) < _; decide), ?_⟩
  | refine ⟨_, _, rfl, rfl, (show CDiv _ _ from ⟨by decide, by decide⟩), ?_⟩
  | refine ⟨_, _, rfl, rfl, (show CPow _ _ from ⟨by decide, by decide, by decide⟩), ?_⟩
  | refine ⟨_, _, rfl, rfl, (show CMul _ _ from .inr ⟨by decide, by decide⟩), ?_⟩
  | refine ⟨_, _, rfl, rfl, (show CMul _ _ from .inl ⟨by decide, by decide⟩), ?_⟩
  | refine ⟨_, _, rfl, rfl, ?_⟩
  | refine .inl ⟨_, rfl, ?_⟩
  | refine ⟨(rfl : scal _ _ = true), ?_⟩))
section
variable {P : Program} {w : World} {K : PySem.W.Frag} {mg : Str → Option Value} {base : Heap} {OR : Addr}
def spSame : Nat → Sp
  | 0 => fun _ _ _ _ => False
  | n + 1 => fun vs H Q _ => ∃ (x y : V) (d : Dd), vs = [x, y] ∧ Rep H d x ∧ Rep H d y ∧ dep d ≤ n ∧ Q (.bl true) H
theorem nb (b : Bool) : (!decide (V.bl b = V.bl b)) = false := by rw [decide_eq_true rfl] <;> rfl
theorem ok_law_same (T : Txt K mg OR) : ∀ n : Nat, Prom P w K mg base CX0 n "_law_same" ["actual", "due"] (spSame n)
  | 0 => T.d__law_same.never bi__law_same
  | n + 1 => by
    have nd := sc__law_same.nd
    have pr__law_same := ok_law_same T n
    refine T.d__law_same.ok sc__law_same bi__law_same (fun vs H Q E h => ?_) (fun f cdv A outer s H vs Q E hr h => ?_)
    · obtain ⟨x, y, d, rfl, _⟩ := h
      rfl
    · obtain ⟨x, y, d, rfl, rx, ry, hd, q⟩ := h
      refine ⟨_, (pss_cons (ps_if (PW.pt (pw_or (pt_cmpR op_isN (pv 1) pe_non (nomark _)) (pw_or1 (pt_cmpR op_isN (pv 0) pe_non (nomark _))))) (pss_one (ps_ret (pe_and (pe_cmpR op_isN (pv 1) pe_non (nomark _)) (pe_one (pe_cmpR op_isN (pv 0) pe_non (nomark _)))))) pss_nil)
    (pss_cons (ps_if (PW.pt (pw_or (pt_val (pe_callB call_isi (by rfl) T.b_isinstance (by decide +kernel) (pa_cons (pv 1) (pa_cons (pe_bltn (v := .ty "tuple") (by rfl) T.b_tuple PyProof.Rows.boot_tuple rfl) pa_nil)))) (pw_or1 (pt_val (pe_callB call_isi (by rfl) T.b_isinstance (by decide +kernel) (pa_cons (pv 1) (pa_cons (pe_bltn (v := .ty "list") (by rfl) T.b_list PyProof.Rows.boot_list rfl) pa_nil))))))) (pss_cons (ps_if (PW.pt (pw_or (pt_cmpR op_ne (pe_callB call_isi (by rfl) T.b_isinstance (by decide +kernel) (pa_cons (pv 1) (pa_cons (pe_bltn (v := .ty "tuple") (by rfl) T.b_tuple PyProof.Rows.boot_tuple rfl) pa_nil))) (pe_callB call_isi (by rfl) T.b_isinstance (by decide +kernel) (pa_cons (pv 0) (pa_cons (pe_bltn (v := .ty "tuple") (by rfl) T.b_tuple PyProof.Rows.boot_tuple rfl) pa_nil))) (nomark _)) (pw_or1 (pt_cmpR op_ne (pe_callB call_isi (by rfl) T.b_isinstance (by decide +kernel) (pa_cons (pv 1) (pa_cons (pe_bltn (v := .ty "list") (by rfl) T.b_list PyProof.Rows.boot_list rfl) pa_nil))) (pe_callB call_isi (by rfl) T.b_isinstance (by decide +kernel) (pa_cons (pv 0) (pa_cons (pe_bltn (v := .ty "list") (by rfl) T.b_list PyProof.Rows.boot_list rfl) pa_nil))) (nomark _))))) (pss_one (ps_ret pe_bl)) pss_nil)
    (pss_cons (ps_if (pt_cmpR op_ne (pe_callB call_len_seq (by rfl) T.b_len (by decide +kernel) (pa_cons (pv 0) pa_nil)) (pe_callB call_len_seq (by rfl) T.b_len (by decide +kernel) (pa_cons (pv 1) pa_nil)) (nomark _)) (pss_one (ps_ret pe_bl)) pss_nil)
    (pss_cons (ps_for PassesOwn.never rfl (pi_range1 (by rfl) T.b_range (pa_cons (pe_callB call_len_seq (by rfl) T.b_len (by decide +kernel) (pa_cons (pv 1) pa_nil)) pa_nil)) (pg_name (i := 2) nd rfl (Or.inl rfl)) (pss_one (ps_if (pt_not (pt_val (pcall hr pr__law_same (pa_cons (pe_ix ix_seq (pv 0) (pv 2) (fun _ _ => rfl)) (pa_cons (pe_ix ix_seq (pv 1) (pv 2) (fun _ _ => rfl)) pa_nil)) (hj := Nat.le_refl _)))) (pss_one (ps_ret pe_bl)) pss_nil)))
    (pss_one (ps_ret pe_bl))))) pss_nil)
    (pss_cons (ps_if (pt_cmpR op_ne (pe_callB call_isi (by rfl) T.b_isinstance (by decide +kernel) (pa_cons (pv 1) (pa_cons (pe_bltn (v := .ty "bool") (by rfl) T.b_bool PyProof.Rows.boot_bool rfl) pa_nil))) (pe_callB call_isi (by rfl) T.b_isinstance (by decide +kernel) (pa_cons (pv 0) (pa_cons (pe_bltn (v := .ty "bool") (by rfl) T.b_bool PyProof.Rows.boot_bool rfl) pa_nil))) (nomark _)) (pss_one (ps_ret pe_bl)) pss_nil)
    (pss_cons (ps_if (PW.pt (pw_or (pt_cmpR op_ne (pe_callB call_isi (by rfl) T.b_isinstance (by decide +kernel) (pa_cons (pv 1) (pa_cons (pe_bltn (v := .ty "int") (by rfl) T.b_int PyProof.Rows.boot_int rfl) pa_nil))) (pe_callB call_isi (by rfl) T.b_isinstance (by decide +kernel) (pa_cons (pv 0) (pa_cons (pe_bltn (v := .ty "int") (by rfl) T.b_int PyProof.Rows.boot_int rfl) pa_nil))) (nomark _)) (pw_or1 (pt_cmpR op_ne (pe_callB call_isi (by rfl) T.b_isinstance (by decide +kernel) (pa_cons (pv 1) (pa_cons (pe_bltn (v := .ty "str") (by rfl) T.b_str PyProof.Rows.boot_str rfl) pa_nil))) (pe_callB call_isi (by rfl) T.b_isinstance (by decide +kernel) (pa_cons (pv 0) (pa_cons (pe_bltn (v := .ty "str") (by rfl) T.b_str PyProof.Rows.boot_str rfl) pa_nil))) (nomark _))))) (pss_one (ps_ret pe_bl)) pss_nil)
    (pss_one (ps_ret (pe_cmpR op_eq (pv 0) (pv 1) (nomark _)))))))), ?_⟩
      have tx := rx.tyx (K := K)
      have ty := ry.tyx (K := K)
      by_cases hn : d = .non
      · subst hn
        unfold Rep at rx ry
        subst rx ry
        refine ⟨_, rfl, rfl, _, rfl, iteT (iteT ?_)⟩
        exact ⟨_, rfl, rfl, _, rfl, iteT ⟨_, rfl, rfl, q⟩⟩
      · have nN : ∀ v : V, Rep H d v → decide (v = V.non) = false := fun v r => decide_eq_false fun e => by
          subst e
          cases d <;> unfold Rep at r
          case non => exact hn rfl
          case tup => obtain ⟨_, _, _, z, _⟩ := r; cases z
          case lst => obtain ⟨_, _, _, z, _⟩ := r; cases z
          all_goals cases r
        refine ⟨_, rfl, rfl, _, rfl, ?_⟩
        rw [nN y ry]
        refine iteF ⟨_, rfl, rfl, _, rfl, ?_⟩
        rw [nN x rx]
        refine iteF ?_
        -- a tuple or a list: item by item
        have seq : ∀ (ds : List Dd) (a b : Addr) (xs ys : List V), x = .ref a → y = .ref b → (SqL K H a xs ∨ SqT K H a xs) → (SqL K H b ys ∨ SqT K H b ys) → RepL H ds xs → RepL H ds ys → depL ds + 1 ≤ n → ds.length ≤ 1000000 →
            tSeq (tIfS (tTest (tOp rNe (tCB (fun us H_1 Q => ∃ p zs, us = [.ref p] ∧ (SqL K H_1 p zs ∨ SqT K H_1 p zs) ∧ Q (.int zs.length) H_1) (tCons (tVar 0) tNil)) (tCB (fun us H_1 Q => ∃ p zs, us = [.ref p] ∧ (SqL K H_1 p zs ∨ SqT K H_1 p zs) ∧ Q (.int zs.length) H_1) (tCons (tVar 1) tNil)))) (tRet (tC (.bl false))) tNext)
              (tSeq (tFor (iRng1 (tCons (tCB (fun us H_1 Q => ∃ p zs, us = [.ref p] ∧ (SqL K H_1 p zs ∨ SqT K H_1 p zs) ∧ Q (.int zs.length) H_1) (tCons (tVar 1) tNil)) tNil)) (gName 2) (tIfS (tNot (tB (tCall (spSame n) [] E0 (tCons (tOp (rIx K) (tVar 0) (tVar 2)) (tCons (tOp (rIx K) (tVar 1) (tVar 2)) tNil))))) (tRet (tC (.bl false))) tNext)) (tRet (tC (.bl true))))
              { nx := fun _ H' => Q .non H', rt := Q } (L2.start N__law_same [x, y]) H := by
          intro ds a b xs ys ea eb ha hb r1 r2 hdep hw
          subst ea eb
          have l1 := r1.len
          have l2 := r2.len
          refine ⟨_, rfl, a, xs, rfl, ha, _, rfl, b, ys, rfl, hb, rfl, _, rfl, ?_⟩
          rw [l1, l2]
          have e0 : (!decide (V.int ((ds.length : Nat) : Int) = V.int ((ds.length : Nat) : Int))) = false := by rw [decide_eq_true rfl] <;> rfl
          rw [e0]
          refine iteF ⟨_, rfl, b, ys, rfl, hb, _, rfl, ?_⟩
          rw [l2]
          have big : (ds.length : Int) < 2 ^ 62 := by omega
          refine ⟨by omega, big, for_range (n := ds.length) (fun i σ' H' => ∃ v : Option V, σ' = [some (.ref a), some (.ref b), v] ∧ H' = H) ⟨none, rfl, rfl⟩ ?_ ?_⟩
          · rintro i σ' H' hi ⟨v, rfl, rfl⟩
            obtain ⟨dd, u, e1, e2, p1, p2⟩ := r1.at i hi
            obtain ⟨dd', u', e1', e2', p1', _⟩ := r2.at i hi
            have ed : dd' = dd := Option.some.inj (e1'.symm.trans e1)
            subst ed
            have ix : ∀ (p : Addr) (zs : List V) (z : V) (Q' : VK), (SqL K H' p zs ∨ SqT K H' p zs) → zs[i]? = some z → Q' z H' → rIx K (.ref p) (.int (0 + (i : Int))) H' Q' := fun p zs z Q' hs hz hq => by
              rw [Int.zero_add]
              rcases hs with h | h
              · exact .inl ⟨p, zs, _, z, rfl, rfl, h, atI_nat hz, hq⟩
              · exact .inr (.inl ⟨p, zs, _, z, rfl, rfl, h, atI_nat hz, hq⟩)
            refine ⟨_, rfl, _, rfl, ix a xs u _ ha e2 ⟨_, rfl, _, rfl, ix b ys u' _ hb e2' ?_⟩⟩
            cases n with
            | zero => omega
            | succ n => exact ⟨u, u', dd', rfl, p1, p1', by omega, _, rfl, iteF ⟨_, rfl, rfl⟩⟩
          · rintro σ' H' ⟨v, rfl, rfl⟩
            exact q
        refine ⟨_, rfl, _, _, _, _, _, rfl, .ty _, ty, kit_tuple d, _, rfl, ?_⟩
        have two : ∀ b : Bool, (!decide (V.bl b = V.bl b)) = false := nb
        cases d with
        | non => exact absurd rfl hn
        | tup ds =>
          refine iteT (iteT ?_)
          refine ⟨_, rfl, _, _, _, _, _, rfl, .ty _, ty, kit_tuple (.tup ds), _, rfl, _, _, _, _, _, rfl, .ty _, tx, kit_tuple (.tup ds), rfl, _, rfl, ?_⟩
          rw [nb]
          refine iteF ⟨_, rfl, _, _, _, _, _, rfl, .ty _, ty, kit_list (.tup ds), _, rfl, _, _, _, _, _, rfl, .ty _, tx, kit_list (.tup ds), rfl, _, rfl, ?_⟩
          rw [nb]
          refine iteF ?_
          unfold Rep at rx ry
          obtain ⟨hw, a, xs, ea, ha, r1⟩ := rx
          obtain ⟨_, b, ys, eb, hb, r2⟩ := ry
          unfold dep at hd
          exact seq ds a b xs ys ea eb (.inr (SqT.of ha)) (.inr (SqT.of hb)) r1 r2 hd hw
        | lst ds =>
          refine iteF ⟨_, rfl, _, _, _, _, _, rfl, .ty _, ty, kit_list (.lst ds), _, rfl, iteT ?_⟩
          refine ⟨_, rfl, _, _, _, _, _, rfl, .ty _, ty, kit_tuple (.lst ds), _, rfl, _, _, _, _, _, rfl, .ty _, tx, kit_tuple (.lst ds), rfl, _, rfl, ?_⟩
          rw [nb]
          refine iteF ⟨_, rfl, _, _, _, _, _, rfl, .ty _, ty, kit_list (.lst ds), _, rfl, _, _, _, _, _, rfl, .ty _, tx, kit_list (.lst ds), rfl, _, rfl, ?_⟩
          rw [nb]
          refine iteF ?_
          unfold Rep at rx ry
          obtain ⟨hw, a, xs, ea, ha, r1⟩ := rx
          obtain ⟨_, b, ys, eb, hb, r2⟩ := ry
          unfold dep at hd
          exact seq ds a b xs ys ea eb (.inl (SqL.of ha)) (.inl (SqL.of hb)) r1 r2 hd hw
        | bl _ | int _ | str _ =>
          refine iteF ⟨_, rfl, _, _, _, _, _, rfl, .ty _, ty, kit_list _, _, rfl, iteF ?_⟩
          refine ⟨_, rfl, _, _, _, _, _, rfl, .ty _, ty, kit_bool _, _, rfl, _, _, _, _, _, rfl, .ty _, tx, kit_bool _, rfl, _, rfl, ?_⟩
          rw [nb]
          refine iteF ⟨_, rfl, _, _, _, _, _, rfl, .ty _, ty, kit_int _, _, rfl, _, _, _, _, _, rfl, .ty _, tx, kit_int _, rfl, _, rfl, ?_⟩
          rw [nb]
          refine iteF ⟨_, rfl, _, _, _, _, _, rfl, .ty _, ty, kit_str _, _, rfl, _, _, _, _, _, rfl, .ty _, tx, kit_str _, rfl, _, rfl, ?_⟩
          rw [nb]
          unfold Rep at rx ry
          subst rx ry
          refine iteF ⟨_, rfl, _, rfl, rfl, ?_⟩
          rw [decide_eq_true rfl]
          exact q
end
end K6
namespace K6
open PySem PySem.Spec PyProof.Rows L2 Kt Dt
local macro_rules | `(tactic| walk_at "go") => `(tactic| repeat (first
  | refine ⟨_, rfl, ?_⟩
  | refine ⟨_, _, rfl, rfl, (by show (0 : Int) < _; decide), ?_⟩
  | refine ⟨_, _, rfl, rfl, (show CDiv _ _ from ⟨by decide, by decide⟩), ?_⟩
  | refine ⟨_, _, rfl, rfl, (show CPow _ _ from ⟨by decide, by decide, by decide⟩), ?_⟩
  | refine ⟨_, _, rfl, rfl, (show CMul _ _ from .inr ⟨by decide, by decide⟩), ?_⟩
  | refine ⟨_, _, rfl, rfl, (show CMul _ _ from .inl ⟨by decide, by decide⟩), ?_⟩
  | refine ⟨_, _, rfl, rfl, ?_⟩
  | refine .inl ⟨_, rfl, ?_⟩
  | refine ⟨(rfl : scal _ _ = true), ?_⟩))
section
variable {P : Program} {w : World} {K : PySem.W.Frag} {mg : Str → Option Value} {base : Heap} {OR : Addr}
theorem ab {b : Bool} (z : b = true) (y : b = false) : False := by
  rw [z] at y
  cases y
theorem ok_moved_by (T : Txt K mg OR) : Prom P w K mg base CX0 4 "moved_by" ["number", "months"] (fun vs H Q _ => ∃ y m d mo : Int, vs = [.int (num y m d), .int mo] ∧ Vd y m d ∧ 0 ≤ num y m d ∧ 0 ≤ mo ∧ ∀ H', Same H H' → Q (.int (later y m d mo)) H') := by
  have nd := sc_moved_by.nd
  have pr_date_at := ok_date_at (P := P) (w := w) (base := base) T
  have pr_number_at := ok_number_at (P := P) (w := w) (base := base) T
  have pr_length_of := ok_length_of (P := P) (w := w) (base := base) T
  obtain ⟨t1, g1⟩ := T.g_MONTHS
  refine T.d_moved_by.ok sc_moved_by bi_moved_by (fun vs H Q E h => ?_) (fun f cdv A outer s H vs Q E hr h => ?_)
  · obtain ⟨y, m, d, mo, rfl, _⟩ := h
    rfl
  · obtain ⟨y, m, d, mo, rfl, v, h0, hmo, q⟩ := h
    refine ⟨_, (pss_cons (ps_asg (pcall hr pr_date_at (pa_cons (pv 0) pa_nil)) (pg_tup rfl (pgs_cons (pg_name (i := 2) nd rfl (Or.inl rfl)) (pgs_cons (pg_name (i := 3) nd rfl (Or.inl rfl)) (pgs_cons (pg_name (i := 4) nd rfl (Or.inl rfl)) pgs_nil)))))
    (pss_cons (ps_set (i := 5) nd rfl (Or.inl rfl) (pe_op op_add (pe_op op_sub (pe_op op_add (pe_op op_mul (pv 2) (pe_gi g1)) (pv 3)) pe_int) (pv 1)))
    (pss_cons (ps_set (i := 2) nd rfl (Or.inl rfl) (pe_op op_fdiv (pv 5) (pe_gi g1)))
    (pss_cons (ps_set (i := 3) nd rfl (Or.inl rfl) (pe_op op_add (pe_op op_mod (pv 5) (pe_gi g1)) pe_int))
    (pss_one (ps_ret (pcall hr pr_number_at (pa_cons (pv 2) (pa_cons (pv 3) (pa_cons (pe_callB (call_min2 rfl) (by rfl) T.b_min (by decide +kernel) (pa_cons (pv 4) (pa_cons (pcall hr pr_length_of (pa_cons (pv 2) (pa_cons (pv 3) pa_nil))) pa_nil))) pa_nil)))))))))), ?_⟩
    refine ⟨_, rfl, _, rfl, h0, fun y' m' d' p H1 v' e1 s1 np hp => ?_⟩
    obtain ⟨e1, e2, e3⟩ := uniq v' v e1
    subst e1 e2 e3
    have lv := later_vd v hmo
    refine ⟨p, _, rfl, SqT.of hp, rfl, _, _, rfl, _, _, rfl, _, _, rfl, rfl, ?_⟩
    refine ⟨_, rfl, _, _, rfl, rfl, .inr ⟨by decide, by decide⟩, _, rfl, _, _, rfl, rfl, _, _, rfl, rfl, _, rfl, _, _, rfl, rfl, ?_⟩
    refine ⟨_, rfl, _, _, rfl, rfl, ⟨by decide, by decide⟩, _, rfl, _, _, rfl, rfl, (by show (0 : Int) < 12; decide), _, _, rfl, rfl, ?_⟩
    refine ⟨_, rfl, _, rfl, _, rfl, _, rfl, _, rfl, _, _, rfl, lv.m1, lv.m2, _, _, rfl, ?_⟩
    exact ⟨_, _, _, rfl, lv.m1, lv.m2, fun H2 s2 => q H2 (s1.trans s2)⟩
def spLater (OR : Addr) : Sp := fun vs H Q E => ∃ n mo : Int, vs = [.int n, .int mo] ∧
  (∀ y m d : Int, Vd y m d → num y m d = n → n ≤ 1000000 → 0 ≤ mo → mo ≤ 1000 → later y m d mo ≤ 1000000 → ∀ H', Same H H' → Q (.int (later y m d mo)) H') ∧
  (∀ y m d : Int, Vd y m d → num y m d = n → n ≤ 1000000 → 0 ≤ mo → mo ≤ 1000 → ¬ later y m d mo ≤ 1000000 → ∀ H', Same H H' → E (.ref OR) none H') ∧
  (¬ (0 ≤ n ∧ n ≤ 1000000 ∧ 0 ≤ mo ∧ mo ≤ 1000) → ∀ H', Same H H' → E (.ref OR) none H')
theorem date_ex {n : Int} (h0 : 0 ≤ n) (h1 : n ≤ 1000000) : ∃ y m d : Int, Vd y m d ∧ num y m d = n := by
  obtain ⟨k, hk⟩ : ∃ k : Nat, n = k := ⟨n.toNat, by omega⟩
  subst hk
  clear h0 h1
  induction k with
  | zero => exact ⟨0, 1, 1, ⟨by decide, by decide, by decide, by decide, by decide⟩, by decide⟩
  | succ k ih =>
    obtain ⟨y, m, d, v, e⟩ := ih
    have z := next_ok v
    exact ⟨_, _, _, z.1, by rw [z.2, e]; omega⟩
theorem ok_months_later (T : Txt K mg OR) : PrX P w K mg base 5 "months_later" ["day", "months"] (spLater OR) := by
  have nd := sc_months_later.nd
  have pr_check_day := ok_check_day (P := P) (w := w) (base := base) T
  have pr_is_number := ok_is_number (P := P) (w := w) (base := base) T
  have pr_moved_by := ok_moved_by (P := P) (w := w) (base := base) T
  obtain ⟨t1, g1⟩ := T.g_MOST_MONTHS_LATER
  obtain ⟨t2, g2⟩ := T.g_LAST_DAY
  refine T.d_months_later.okX sc_months_later bi_months_later (fun vs H Q E h => ?_) (fun f cdv A outer s H vs Q E hr h => ?_)
  · obtain ⟨n, mo, rfl, _⟩ := h
    rfl
  · obtain ⟨n, mo, rfl, q1, q2, q3⟩ := h
    refine ⟨_, (pss_cons (ps_expr (pcallX hr pr_check_day (takes_of rfl rfl rfl rfl) (pa_cons (pv 0) pa_nil)))
    (pss_cons (ps_if (pt_not (pt_val (pcall hr pr_is_number (pa_cons (pv 1) (pa_cons pe_int (pa_cons (pe_gi g1) pa_nil)))))) (pss_one (ps_raise rfl (takes_of rfl rfl rfl rfl) (pmk_own PySem.F.excBase_ValueError T.e_OutOfRange.x T.e_OutOfRange.g T.e_OutOfRange.k (raises_own T.e_OutOfRange.b T.e_OutOfRange.t) rfl))) pss_nil)
    (pss_cons (ps_set (i := 2) nd rfl (Or.inl rfl) (pcall hr pr_moved_by (pa_cons (pv 0) (pa_cons (pv 1) pa_nil))))
    (pss_cons (ps_if (pt_cmpR op_gt (pv 2) (pe_gi g2) (nomark _)) (pss_one (ps_raise rfl (takes_of rfl rfl rfl rfl) (pmk_own PySem.F.excBase_ValueError T.e_OutOfRange.x T.e_OutOfRange.g T.e_OutOfRange.k (raises_own T.e_OutOfRange.b T.e_OutOfRange.t) rfl))) pss_nil)
    (pss_one (ps_ret (pv 2))))))), ?_⟩
    refine ⟨_, rfl, _, "int", rfl, .int n, fun c => ?_, fun c => q3 (fun z => ab (isN_t z.1 z.2.1) c) H (Same.refl H)⟩
    have c := isN_iff.mp c
    refine ⟨_, rfl, _, _, _, "int", rfl, .int mo, _, rfl, ?_⟩
    cases c2 : isN (.int mo) 0 1000 with
    | false => exact iteT (q3 (fun z => ab (isN_t z.2.2.1 z.2.2.2) c2) H (Same.refl H))
    | true =>
      have c2 := isN_iff.mp c2
      obtain ⟨y, m, d, v, e⟩ := date_ex c.1 c.2
      subst e
      refine iteF ⟨_, rfl, _, rfl, y, m, d, mo, rfl, v, c.1, c2.1, fun H1 s1 => ?_⟩
      refine ⟨_, rfl, _, _, rfl, rfl, _, rfl, ?_⟩
      by_cases c3 : later y m d mo ≤ 1000000
      · have e : decide (1000000 < later y m d mo) = false := decide_eq_false (by omega)
        rw [e]
        exact iteF ⟨_, rfl, q1 y m d v rfl c.2 c2.1 c2.2 c3 H1 s1⟩
      · have e : decide (1000000 < later y m d mo) = true := decide_eq_true (by omega)
        rw [e]
        exact iteT (q2 y m d v rfl c.2 c2.1 c2.2 c3 H1 s1)
theorem ok_easter_offset (T : Txt K mg OR) : Prom P w K mg base CX0 1 "easter_offset" ["year"] (fun vs H Q _ => ∃ n : Int, vs = [.int n] ∧ Q (.int (offs n)) H) := by
  have nd := sc_easter_offset.nd
  refine T.d_easter_offset.ok sc_easter_offset bi_easter_offset (fun vs H Q E h => ?_) (fun f cdv A outer s H vs Q E hr h => ?_)
  · obtain ⟨n, rfl, _⟩ := h
    rfl
  · obtain ⟨n, rfl, q⟩ := h
    refine ⟨_, (pss_cons (ps_set (i := 1) nd rfl (Or.inl rfl) (pe_op op_mod (pv 0) pe_int))
    (pss_cons (ps_set (i := 2) nd rfl (Or.inl rfl) (pe_op op_fdiv (pv 0) pe_int))
    (pss_cons (ps_set (i := 3) nd rfl (Or.inl rfl) (pe_op op_mod (pe_op op_sub (pe_op op_sub (pe_op op_add (pe_op op_add (pe_op op_mul pe_int (pv 1)) pe_int) (pv 2)) (pe_op op_fdiv (pv 2) pe_int)) (pe_op op_fdiv (pe_op op_add (pe_op op_mul pe_int (pv 2)) pe_int) pe_int)) pe_int))
    (pss_cons (ps_if (pt_cmpR op_eq (pv 3) pe_int (nomark _)) (pss_one (ps_ret pe_int)) pss_nil)
    (pss_cons (ps_if (PW.pt (pw_and (pt_cmpR op_eq (pv 3) pe_int (nomark _)) (pw_and1 (pt_cmpR op_gt (pv 1) pe_int (nomark _))))) (pss_one (ps_ret pe_int)) pss_nil)
    (pss_one (ps_ret (pv 3)))))))), ?_⟩
    walk_at "go"
    rw [i_inj]
    unfold offs at q
    refine ite2 (fun c => ?_) (fun c => ?_)
    · rw [if_pos (show offs0 n = 29 from of_decide_eq_true c)] at q
      exact q
    · have c := of_decide_eq_false (Bool.eq_false_iff.mpr c)
      rw [if_neg (show ¬ offs0 n = 29 from c)] at q
      walk_at "go"
      rw [i_inj]
      cases c2 : decide ((19 * (n % 19) + 15 + n / 100 - n / 100 / 4 - (8 * (n / 100) + 13) / 25) % 30 = 28) with
      | false =>
        have c2 := of_decide_eq_false c2
        rw [if_neg (show ¬ (offs0 n = 28 ∧ n % 19 > 10) from fun z => c2 z.1)] at q
        exact iteF (iteF ⟨_, rfl, q⟩)
      | true =>
        have c2 := of_decide_eq_true c2
        refine iteT ?_
        walk_at "go"
        refine ite2 (fun c3 => ?_) (fun c3 => ?_)
        · rw [if_pos (show offs0 n = 28 ∧ n % 19 > 10 from ⟨c2, of_decide_eq_true c3⟩)] at q
          exact q
        · have c3 := of_decide_eq_false (Bool.eq_false_iff.mpr c3)
          rw [if_neg (show ¬ (offs0 n = 28 ∧ n % 19 > 10) from fun z => c3 z.2)] at q
          exact ⟨_, rfl, q⟩
theorem ok_easter (T : Txt K mg OR) : PrX P w K mg base 4 "easter" ["year"] (fun vs H Q E => ∃ n : Int, vs = [.int n] ∧ (isN (.int n) 0 2737 = true → ∀ H', Same H H' → Q (.int (eastP n)) H') ∧ (isN (.int n) 0 2737 = false → E (.ref OR) none H)) := by
  have nd := sc_easter.nd
  have pr_check_year := ok_check_year (P := P) (w := w) (base := base) T
  have pr_number_at := ok_number_at (P := P) (w := w) (base := base) T
  have pr_easter_offset := ok_easter_offset (P := P) (w := w) (base := base) T
  have pr_weekday_of := ok_weekday_of (P := P) (w := w) (base := base) T
  obtain ⟨t1, g1⟩ := T.g_SUNDAY
  refine T.d_easter.okX sc_easter bi_easter (fun vs H Q E h => ?_) (fun f cdv A outer s H vs Q E hr h => ?_)
  · obtain ⟨n, rfl, _⟩ := h
    rfl
  · obtain ⟨n, rfl, q1, q2⟩ := h
    refine ⟨_, (pss_cons (ps_expr (pcallX hr pr_check_year (takes_of rfl rfl rfl rfl) (pa_cons (pv 0) pa_nil)))
    (pss_cons (ps_set (i := 1) nd rfl (Or.inl rfl) (pe_op op_add (pcall hr pr_number_at (pa_cons (pv 0) (pa_cons pe_int (pa_cons pe_int pa_nil)))) (pcall hr pr_easter_offset (pa_cons (pv 0) pa_nil))))
    (pss_cons (ps_set (i := 2) nd rfl (Or.inl rfl) (pe_op op_add (pe_op op_mod (pe_op op_sub (pe_op op_sub (pe_gi g1) (pcall hr pr_weekday_of (pa_cons (pv 1) pa_nil))) pe_int) pe_int) pe_int))
    (pss_one (ps_ret (pe_op op_add (pv 1) (pv 2))))))), ?_⟩
    refine ⟨_, rfl, _, "int", rfl, .int n, fun c => ?_, q2⟩
    refine ⟨_, rfl, n, 3, 21, rfl, by decide, by decide, fun H1 s1 => ⟨_, rfl, n, rfl, _, _, rfl, rfl, ?_⟩⟩
    refine ⟨_, rfl, _, rfl, _, _, rfl, rfl, _, _, rfl, rfl, _, _, rfl, rfl, (by show (0 : Int) < 7; decide), _, _, rfl, rfl, ?_⟩
    exact ⟨_, rfl, _, rfl, _, _, rfl, rfl, q1 c H1 s1⟩
end
end K6
namespace K6
open PySem PySem.Spec PyProof.Rows L2 Kt Dt
local macro_rules | `(tactic| walk_at "go") => `(tactic| repeat (first
  | refine ⟨_, rfl, ?_⟩
  | refine ⟨_, _, rfl, rfl, (by show (0 : Int) < _; decide), ?_⟩
  | refine ⟨_, _, rfl, rfl, (show CDiv _ _ from ⟨by decide, by decide⟩), ?_⟩
  | refine ⟨_, _, rfl, rfl, (show CPow _ _ from ⟨by decide, by decide, by decide⟩), ?_⟩
  | refine ⟨_, _, rfl, rfl, (show CMul _ _ from .inr ⟨by decide, by decide⟩), ?_⟩
  | refine ⟨_, _, rfl, rfl, (show CMul _ _ from .inl ⟨by decide, by decide⟩), ?_⟩
  | refine ⟨_, _, rfl, rfl, ?_⟩
  | refine .inl ⟨_, rfl, ?_⟩
  | refine ⟨(rfl : scal _ _ = true), ?_⟩))
section
variable {P : Program} {w : World} {K : PySem.W.Frag} {mg : Str → Option Value} {base : Heap} {OR : Addr}
theorem ok_law_ahead (T : Txt K mg OR) : Prom P w K mg base CX0 1 "_law_ahead" ["year"] (fun vs H Q _ => ∃ n : Int, vs = [.int n] ∧ Q (.int (ystart n)) H) := by
  have nd := sc__law_ahead.nd
  refine T.d__law_ahead.ok sc__law_ahead bi__law_ahead (fun vs H Q E h => ?_) (fun f cdv A outer s H vs Q E hr h => ?_)
  · obtain ⟨n, rfl, _⟩ := h
    rfl
  · obtain ⟨n, rfl, q⟩ := h
    refine ⟨_, (pss_one (ps_ret (pe_op op_add (pe_op op_sub (pe_op op_add (pe_op op_mul pe_int (pv 0)) (pe_op op_fdiv (pe_op op_add (pv 0) pe_int) pe_int)) (pe_op op_fdiv (pe_op op_add (pv 0) pe_int) pe_int)) (pe_op op_fdiv (pe_op op_add (pv 0) pe_int) pe_int)))), ?_⟩
    walk_at "go"
    exact q
def spLDate : Sp := fun vs H Q _ => ∃ n : Int, vs = [.int n] ∧ 0 ≤ n ∧ n ≤ 1000000 ∧ ∀ (y m d : Int) (p : Addr) (H' : Hp), Vd y m d → num y m d = n → Same H H' → H p = none → H' p = some (.tup (dt y m d)) → Q (.ref p) H'
theorem ok_law_date (T : Txt K mg OR) : Prom P w K mg base CX0 3 "_law_date" ["day"] spLDate := by
  have nd := sc__law_date.nd
  have pr__law_ahead := ok_law_ahead (P := P) (w := w) (base := base) T
  have pr__law_length := ok_law_length (P := P) (w := w) (base := base) T
  refine T.d__law_date.ok sc__law_date bi__law_date (fun vs H Q E h => ?_) (fun f cdv A outer s H vs Q E hr h => ?_)
  · obtain ⟨n, rfl, _⟩ := h
    rfl
  · obtain ⟨n, rfl, h0, h1, q⟩ := h
    refine ⟨_, (pss_cons (ps_set (i := 1) nd rfl (Or.inl rfl) (pe_op op_fdiv (pv 0) pe_int))
    (pss_cons (ps_for PassesOwn.never rfl (pi_range1 (by rfl) T.b_range (pa_cons pe_int pa_nil)) (pg_name (i := 2) nd rfl (Or.inl rfl)) (pss_one (ps_if (pt_cmpR op_le (pcall hr pr__law_ahead (pa_cons (pe_op op_add (pv 1) pe_int) pa_nil)) (pv 0) (nomark _)) (pss_one (ps_set (i := 1) nd rfl (Or.inl rfl) (pe_op op_add (pv 1) pe_int))) pss_nil)))
    (pss_cons (ps_set (i := 3) nd rfl (Or.inl rfl) (pe_op op_sub (pv 0) (pcall hr pr__law_ahead (pa_cons (pv 1) pa_nil))))
    (pss_cons (ps_set (i := 4) nd rfl (Or.inl rfl) pe_int)
    (pss_cons (ps_for PassesOwn.never rfl (pi_range1 (by rfl) T.b_range (pa_cons pe_int pa_nil)) (pg_name (i := 2) nd rfl (Or.inl rfl)) (pss_one (ps_if (pt_cmpR op_ge (pv 3) (pcall hr pr__law_length (pa_cons (pv 1) (pa_cons (pv 4) pa_nil))) (nomark _)) (pss_cons (ps_set (i := 3) nd rfl (Or.inl rfl) (pe_op op_sub (pv 3) (pcall hr pr__law_length (pa_cons (pv 1) (pa_cons (pv 4) pa_nil)))))
    (pss_one (ps_set (i := 4) nd rfl (Or.inl rfl) (pe_op op_add (pv 4) pe_int)))) pss_nil)))
    (pss_one (ps_ret (pe_tup (pa_cons (pv 1) (pa_cons (pv 4) (pa_cons (pe_op op_add (pv 3) pe_int) pa_nil))))))))))), ?_⟩
    have g := guess2 h0 h1
    refine ⟨_, rfl, _, _, rfl, rfl, ⟨by decide, by decide⟩, ?_⟩
    refine ⟨12, rfl, by decide, by decide, for_range (n := 12) (fun t σ' H' => ∃ (y : Int) (v2 : Option V), σ' = [some (.int n), some (.int y), v2, none, none] ∧ H' = H ∧ 0 ≤ y ∧ ystart y ≤ n ∧ (n < ystart (y + 1) ∨ y = n / 366 + t)) ⟨_, none, rfl, rfl, by omega, g.1, .inr (by omega)⟩ ?_ ?_⟩
    · rintro t σ' H' ht ⟨y, v2, rfl, rfl, y0, ylo, yor⟩
      refine ⟨_, rfl, _, _, rfl, rfl, _, rfl, _, rfl, _, _, rfl, rfl, _, rfl, ?_⟩
      refine ite2 (fun c => ?_) (fun c => ?_)
      · have c := of_decide_eq_true c
        refine ⟨_, rfl, _, _, rfl, rfl, y + 1, _, rfl, rfl, by omega, c, ?_⟩
        rcases yor with z | z
        · omega
        · exact .inr (by omega)
      · have c := of_decide_eq_false (Bool.eq_false_iff.mpr c)
        exact ⟨y, _, rfl, rfl, y0, ylo, .inl (by omega)⟩
    · rintro σ' H' ⟨y, v2, rfl, rfl, y0, ylo, yor⟩
      have yhi : n < ystart (y + 1) := by
        rcases yor with z | z
        · exact z
        · rw [z]
          exact g.2
      refine ⟨_, rfl, _, rfl, y, rfl, _, _, rfl, rfl, ?_⟩
      refine ⟨11, rfl, by decide, by decide, for_range (n := 11) (fun t σ2 H2 => ∃ (j : Nat) (v2 : Option V), σ2 = [some (.int n), some (.int y), v2, some (.int (n - ystart y - msum y j)), some (.int ((j : Int) + 1))] ∧ Same H' H2 ∧ j < 12 ∧ 0 ≤ n - ystart y - msum y j ∧ (n - ystart y - msum y j < mlen y ((j : Int) + 1) ∨ j = t)) ⟨0, v2, by rw [msum_0, Int.sub_zero]; rfl, Same.refl _, by decide, by rw [msum_0]; omega, .inr rfl⟩ ?_ ?_⟩
      · rintro t σ2 H2 ht ⟨j, v2, rfl, s2, hj, hn, hor⟩
        refine ⟨_, rfl, _, rfl, _, rfl, y, (j : Int) + 1, rfl, by omega, by omega, fun H3 s3 => ⟨_, _, rfl, rfl, _, rfl, ?_⟩⟩
        have e1 : msum y (j + 1) = msum y j + mlen y ((j : Int) + 1) := by
          rw [msum_succ, Int.add_comm 1 (j : Int)]
        refine ite2 (fun c => ?_) (fun c => ?_)
        · have c := of_decide_eq_true c
          refine ⟨_, rfl, _, rfl, _, rfl, y, (j : Int) + 1, rfl, by omega, by omega, fun H4 s4 => ⟨_, _, rfl, rfl, _, rfl, _, _, rfl, rfl, j + 1, some (.int (0 + (t : Int))), ?_, (s2.trans s3).trans s4, ?_, by omega, ?_⟩⟩
          · have e3 : n - ystart y - msum y j - mlen y ((j : Int) + 1) = n - ystart y - msum y (j + 1) := by omega
            have e4 : (j : Int) + 1 + 1 = ((j + 1 : Nat) : Int) + 1 := by omega
            show [some (V.int n), some (V.int y), some (V.int (0 + (t : Int))), some (V.int (n - ystart y - msum y j - mlen y ((j : Int) + 1))), some (V.int ((j : Int) + 1 + 1))] = _
            rw [e3, e4]
          · rcases hor with z | z <;> omega
          · rcases hor with z | z
            · omega
            · exact .inr (by omega)
        · have c := of_decide_eq_false (Bool.eq_false_iff.mpr c)
          exact ⟨j, _, rfl, s2.trans s3, hj, hn, .inl (by omega)⟩
      · rintro σ2 H2 ⟨j, v2, rfl, s2, hj, hn, hor⟩
        have hl : n - ystart y - msum y j < mlen y ((j : Int) + 1) := by
          rcases hor with z | z
          · exact z
          · subst z
            have e2 := msum_12 y
            have e3 := ystart_succ y
            have e4 : msum y 12 = msum y 11 + mlen y ((11 : Nat) + 1) := by
              show msum y (11 + 1) = _
              rw [msum_succ, Int.add_comm 1 _]
            omega
        refine ⟨_, rfl, _, rfl, _, rfl, _, _, rfl, rfl, by show 3 ≤ sizeLine; decide, fun p hp => ?_⟩
        refine q y ((j : Int) + 1) (n - ystart y - msum y j + 1) p _ ⟨y0, by omega, by omega, by omega, by omega⟩ ?_ (same_put s2 (s2.free hp)) (s2.free hp) upd_same
        unfold num
        have e5 : ((j : Int) + 1 - 1).toNat = j := by omega
        rw [e5]
        omega
theorem ok_law_number (T : Txt K mg OR) : Prom P w K mg base CX0 3 "_law_number" ["year", "month", "day"] (fun vs H Q _ => ∃ y m d : Int, vs = [.int y, .int m, .int d] ∧ 1 ≤ m ∧ m ≤ 12 ∧ ∀ H', Same H H' → Q (.int (num y m d)) H') := by
  have nd := sc__law_number.nd
  have pr__law_ahead := ok_law_ahead (P := P) (w := w) (base := base) T
  have pr__law_length := ok_law_length (P := P) (w := w) (base := base) T
  refine T.d__law_number.ok sc__law_number bi__law_number (fun vs H Q E h => ?_) (fun f cdv A outer s H vs Q E hr h => ?_)
  · obtain ⟨y, m, d, rfl, _⟩ := h
    rfl
  · obtain ⟨y, m, d, rfl, h1, h2, q⟩ := h
    refine ⟨_, (pss_one (ps_ret (pe_op op_sub (pe_op op_add (pe_op op_add (pcall hr pr__law_ahead (pa_cons (pv 0) pa_nil)) (pe_callB (cr_sum rfl) (by rfl) T.b_sum (by decide +kernel) (pa_cons (pe_lc (own := [("k", 3)]) (g := gName 3) (by rfl) nd (pi_range2 (by rfl) T.b_range (pa_cons pe_int (pa_cons (pv 1) pa_nil))) (blkOk_by (own := [("k", 3)]) (N := N__law_number) (sc := defScope s__law_number) (by decide +kernel)) (fun _ _ _ _ _ => (pg_name (i := 3) nd rfl (Or.inl rfl))) (fun _ _ _ _ _ => pts_nil) (fun _ _ _ _ _ => (pcall hr pr__law_length (pa_cons (pv 0) (pa_cons (pv 3) pa_nil))))) pa_nil))) (pv 2)) pe_int))), ?_⟩
    refine ⟨_, rfl, _, rfl, _, rfl, 1, _, rfl, ⟨by decide, by decide, by show -(2 ^ 62) ≤ m; omega, by show m < 2 ^ 62; omega⟩, fun D hD => lc_range (lo := 1) (n := (m - 1).toNat)
      (fun i H' => Same H H' ∧ H' D = some (.lst ((ml y i).map V.int))) ⟨same_new hD, upd_same⟩ (fun i H' hi p => ⟨rfl, ?_⟩) (fun H' p => ?_)⟩
    · obtain ⟨s1, hL⟩ := p
      refine Kt.lcy ?_
      refine ⟨_, rfl, _, rfl, y, 1 + (i : Int), rfl, by omega, by omega, fun H2 s2 => ⟨_, s2 _ _ hL, ?_, ?_⟩⟩
      · rw [ml_len]
        exact Nat.lt_of_le_of_lt (show i ≤ 12 by omega) (by decide)
      · exact ⟨same_put (s1.trans s2) hD, by rw [upd_same, ml_succ]⟩
    · obtain ⟨s1, hL⟩ := p
      refine ⟨D, _, rfl, .of hL, ?_⟩
      walk_at "go"
      exact q H' s1
theorem ok_law_later (T : Txt K mg OR) : Prom P w K mg base CX0 4 "_law_later" ["day", "months"] (fun vs H Q _ => ∃ y m d mo : Int, vs = [.int (num y m d), .int mo] ∧ Vd y m d ∧ 0 ≤ num y m d ∧ num y m d ≤ 1000000 ∧ 0 ≤ mo ∧ ∀ H', Same H H' → Q (.int (later y m d mo)) H') := by
  have nd := sc__law_later.nd
  have pr__law_date := ok_law_date (P := P) (w := w) (base := base) T
  have pr__law_number := ok_law_number (P := P) (w := w) (base := base) T
  have pr__law_length := ok_law_length (P := P) (w := w) (base := base) T
  refine T.d__law_later.ok sc__law_later bi__law_later (fun vs H Q E h => ?_) (fun f cdv A outer s H vs Q E hr h => ?_)
  · obtain ⟨y, m, d, mo, rfl, _⟩ := h
    rfl
  · obtain ⟨y, m, d, mo, rfl, v, h0, h1, hmo, q⟩ := h
    refine ⟨_, (pss_cons (ps_asg (pcall hr pr__law_date (pa_cons (pv 0) pa_nil)) (pg_tup rfl (pgs_cons (pg_name (i := 2) nd rfl (Or.inl rfl)) (pgs_cons (pg_name (i := 3) nd rfl (Or.inl rfl)) (pgs_cons (pg_name (i := 4) nd rfl (Or.inl rfl)) pgs_nil)))))
    (pss_cons (ps_set (i := 5) nd rfl (Or.inl rfl) (pe_op op_add (pe_op op_sub (pe_op op_add (pe_op op_mul pe_int (pv 2)) (pv 3)) pe_int) (pv 1)))
    (pss_cons (ps_set (i := 6) nd rfl (Or.inl rfl) (pcall hr pr__law_length (pa_cons (pe_op op_fdiv (pv 5) pe_int) (pa_cons (pe_op op_add (pe_op op_mod (pv 5) pe_int) pe_int) pa_nil))))
    (pss_one (ps_ret (pcall hr pr__law_number (pa_cons (pe_op op_fdiv (pv 5) pe_int) (pa_cons (pe_op op_add (pe_op op_mod (pv 5) pe_int) pe_int) (pa_cons (pe_callB (call_min2 rfl) (by rfl) T.b_min (by decide +kernel) (pa_cons (pv 4) (pa_cons (pv 6) pa_nil))) pa_nil))))))))), ?_⟩
    refine ⟨_, rfl, _, rfl, h0, h1, fun y' m' d' p H1 v' e1 s1 np hp => ?_⟩
    obtain ⟨e1, e2, e3⟩ := uniq v' v e1
    subst e1 e2 e3
    have lv := later_vd v hmo
    have ef : 12 * y' + m' - 1 + mo = far y' m' mo := by
      unfold far
      omega
    refine ⟨p, _, rfl, SqT.of hp, rfl, _, _, rfl, _, _, rfl, _, _, rfl, rfl, ?_⟩
    refine ⟨_, rfl, _, _, rfl, rfl, .inl ⟨by decide, by decide⟩, _, rfl, _, _, rfl, rfl, _, _, rfl, rfl, _, rfl, _, _, rfl, rfl, ?_⟩
    unfold later at q
    rw [← ef] at lv q
    refine ⟨_, rfl, _, _, rfl, rfl, ⟨by decide, by decide⟩, _, rfl, _, _, rfl, rfl, (by show (0 : Int) < 12; decide), _, _, rfl, rfl, _, _, rfl, lv.m1, lv.m2, fun H2 s2 => ?_⟩
    refine ⟨_, rfl, _, _, rfl, rfl, ⟨by decide, by decide⟩, _, rfl, _, _, rfl, rfl, (by show (0 : Int) < 12; decide), _, _, rfl, rfl, _, rfl, _, rfl, _, _, rfl, ?_⟩
    exact ⟨_, _, _, rfl, lv.m1, lv.m2, fun H3 s3 => q H3 ((s1.trans s2).trans s3)⟩
theorem ok_law_easter (T : Txt K mg OR) : Prom P w K mg base CX0 4 "_law_easter" ["year"] (fun vs H Q _ => ∃ y : Int, vs = [.int y] ∧ 0 ≤ y ∧ y ≤ 2737 ∧ ∀ H', Same H H' → Q (.int (eastP y)) H') := by
  have nd := sc__law_easter.nd
  have pr__law_number := ok_law_number (P := P) (w := w) (base := base) T
  refine T.d__law_easter.ok sc__law_easter bi__law_easter (fun vs H Q E h => ?_) (fun f cdv A outer s H vs Q E hr h => ?_)
  · obtain ⟨y, rfl, _⟩ := h
    rfl
  · obtain ⟨y, rfl, h0, h1, q⟩ := h
    refine ⟨_, (pss_cons (ps_par3 (i := 1) (j := 2) (l := 3) (by rfl) nd rfl rfl rfl (by decide) (by decide) (by decide) rfl rfl rfl (pa_cons (pe_op op_mod (pv 0) pe_int) (pa_cons (pe_op op_fdiv (pv 0) pe_int) (pa_cons (pe_op op_mod (pv 0) pe_int) pa_nil))) (by rfl))
    (pss_cons (ps_set (i := 4) nd rfl (Or.inl rfl) (pe_op op_mod (pe_op op_add (pe_op op_sub (pe_op op_sub (pe_op op_add (pe_op op_mul pe_int (pv 1)) (pv 2)) (pe_op op_fdiv (pv 2) pe_int)) (pe_op op_fdiv (pe_op op_add (pe_op op_sub (pv 2) (pe_op op_fdiv (pe_op op_add (pv 2) pe_int) pe_int)) pe_int) pe_int)) pe_int) pe_int))
    (pss_cons (ps_set (i := 5) nd rfl (Or.inl rfl) (pe_op op_mod (pe_op op_sub (pe_op op_sub (pe_op op_add (pe_op op_add pe_int (pe_op op_mul pe_int (pe_op op_mod (pv 2) pe_int))) (pe_op op_mul pe_int (pe_op op_fdiv (pv 3) pe_int))) (pv 4)) (pe_op op_mod (pv 3) pe_int)) pe_int))
    (pss_cons (ps_set (i := 6) nd rfl (Or.inl rfl) (pe_op op_fdiv (pe_op op_add (pe_op op_add (pv 1) (pe_op op_mul pe_int (pv 4))) (pe_op op_mul pe_int (pv 5))) pe_int))
    (pss_cons (ps_set (i := 7) nd rfl (Or.inl rfl) (pe_op op_add (pe_op op_sub (pe_op op_add (pv 4) (pv 5)) (pe_op op_mul pe_int (pv 6))) pe_int))
    (pss_one (ps_ret (pcall hr pr__law_number (pa_cons (pv 0) (pa_cons (pe_op op_fdiv (pv 7) pe_int) (pa_cons (pe_op op_add (pe_op op_mod (pv 7) pe_int) pe_int) pa_nil))))))))))), ?_⟩
    have z := easter_ok h0 h1
    have v := easter_vd h0 h1
    rw [z.2.2.1] at q
    walk_at "go"
    refine ⟨_, _, _, rfl, ?_⟩
    walk_at "go"
    exact ⟨y, en y / 31, en y % 31 + 1, rfl, v.m1, v.m2, q⟩
def tsTold (K : PySem.W.Frag) (OR : Addr) (i : Nat) : Addr → Value → Option Addr → TS := fun a cls d => tRet (tOp (rIxL K) (tLst (tCons (tC (.str "other")) (tCons (tC (.str "range")) tNil))) (tCB (fun xs H Q => (∃ i, xs = [.int i] ∧ Q (.int i) H) ∨ ∃ k, xs = [.bl k] ∧ Q (.int (if k then 1 else 0)) H) (tCons (tCB (rIsG K cls d a) (tCons (tVar i) (tCons (tC (.ref OR)) tNil))) tNil)))
def tellV (z : Int) : V := if z ≤ 1000000 then .int z else .str "range"
def spTold : Sp := fun vs H Q _ => ∃ n mo : Int, vs = [.int n, .int mo] ∧
  (∀ y m d : Int, Vd y m d → num y m d = n → n ≤ 1000000 → 0 ≤ mo → mo ≤ 1000 → ∀ H', Same H H' → Q (tellV (later y m d mo)) H') ∧
  (¬ (0 ≤ n ∧ n ≤ 1000000 ∧ 0 ≤ mo ∧ mo ≤ 1000) → ∀ H', Same H H' → Q (.str "range") H')
theorem ok_law_told (T : Txt K mg OR) : Prom P w K mg base CX0 6 "_law_told" ["day", "months"] spTold := by
  have nd := sc__law_told.nd
  have pr_months_later := ok_months_later (P := P) (w := w) (base := base) T
  obtain ⟨DE, eD, up⟩ := T.g_DE
  refine T.d__law_told.ok sc__law_told bi__law_told (fun vs H Q E h => ?_) (fun f cdv A outer s H vs Q E hr h => ?_)
  · obtain ⟨n, mo, rfl, _⟩ := h
    rfl
  · obtain ⟨n, mo, rfl, q1, q2⟩ := h
    refine ⟨_, (pss_one (ps_try_as (i := 2) (ts := tsTold K OR 2) rfl rfl nd rfl rfl ⟨rfl, by decide, .inl eD.g⟩ (Wout := fun _ _ _ _ => False) takes0 (fun W pn xe tk _ => (pss_one (ps_ret (pcallX hr pr_months_later tk (by exact (pa_cons (pv 0) (pa_cons (pv 1) pa_nil))))))) (fun a oe cls d pn hz hf => (pss_one (ps_ret (pe_ix ix_list (pe_lst (pa_cons pe_str (pa_cons pe_str pa_nil))) (pe_callTy call_int1 (by rfl) T.b_int (by decide +kernel) (pa_cons (pe_callB (call_isG hz hf) (by rfl) T.b_isinstance (by decide +kernel) (pa_cons (pv 2) (pa_cons (pe_glob (v := .ref OR) rfl T.e_OutOfRange.g rfl) pa_nil))) pa_nil)) (fun _ _ => rfl))))))), ?_⟩
    have up2 : PySem.W.exmOne K (.ref OR) (.ref DE) = some true := exm_up eD up
    have suite : ∀ (H1 : Hp) (q : ∀ H', Same H H' → Q (.str "range") H'), Same H H1 → WE (wAs K (.ref DE) 2 (tsTold K OR 2) (fun _ _ _ _ => False) { nx := fun _ H' => Q .non H', rt := Q }) [some (.int n), some (.int mo), none] (.ref OR) none H1 := by
      intro H1 q s1
      refine ⟨true, up2, fun _ e he => ?_, fun z => nomatch z⟩
      refine ⟨by show 2 ≤ sizeLine; decide, fun p hp => ?_⟩
      refine ⟨_, rfl, OR, rfl, rfl, T.e_OutOfRange.c, _, _, true, rfl, fun u r => r, kit_self OR, .inr ⟨true, rfl, ?_⟩⟩
      exact ⟨p, _, 1, V.str "range", rfl, rfl, SqL.of upd_same, rfl, q _ (same_put s1 (s1.free hp))⟩
    refine ⟨_, rfl, _, rfl, n, mo, rfl, fun y m d v e a b c z H' s' => ?_, fun y m d v e a b c z H' s' => ?_, fun z H' s' => suite H' (q2 z) s'⟩
    · have r := q1 y m d v e a b c
      unfold tellV at r
      rw [if_pos z] at r
      exact r H' s'
    · have r := q1 y m d v e a b c
      unfold tellV at r
      rw [if_neg z] at r
      exact suite H' r s'
def spFeast : Sp := fun vs H Q _ => ∃ n : Int, vs = [.int n] ∧ (isN (.int n) 0 2737 = true → ∀ H', Same H H' → Q (.int (eastP n)) H') ∧ (isN (.int n) 0 2737 = false → ∀ H', Same H H' → Q (.str "range") H')
theorem ok_law_feast (T : Txt K mg OR) : Prom P w K mg base CX0 5 "_law_feast" ["year"] spFeast := by
  have nd := sc__law_feast.nd
  have pr_easter := ok_easter (P := P) (w := w) (base := base) T
  obtain ⟨DE, eD, up⟩ := T.g_DE
  refine T.d__law_feast.ok sc__law_feast bi__law_feast (fun vs H Q E h => ?_) (fun f cdv A outer s H vs Q E hr h => ?_)
  · obtain ⟨n, rfl, _⟩ := h
    rfl
  · obtain ⟨n, rfl, q1, q2⟩ := h
    refine ⟨_, (pss_one (ps_try_as (i := 1) (ts := tsTold K OR 1) rfl rfl nd rfl rfl ⟨rfl, by decide, .inl eD.g⟩ (Wout := fun _ _ _ _ => False) takes0 (fun W pn xe tk _ => (pss_one (ps_ret (pcallX hr pr_easter tk (by exact (pa_cons (pv 0) pa_nil)))))) (fun a oe cls d pn hz hf => (pss_one (ps_ret (pe_ix ix_list (pe_lst (pa_cons pe_str (pa_cons pe_str pa_nil))) (pe_callTy call_int1 (by rfl) T.b_int (by decide +kernel) (pa_cons (pe_callB (call_isG hz hf) (by rfl) T.b_isinstance (by decide +kernel) (pa_cons (pv 1) (pa_cons (pe_glob (v := .ref OR) rfl T.e_OutOfRange.g rfl) pa_nil))) pa_nil)) (fun _ _ => rfl))))))), ?_⟩
    have up2 : PySem.W.exmOne K (.ref OR) (.ref DE) = some true := exm_up eD up
    refine ⟨_, rfl, n, rfl, fun z H' s' => q1 z H' s', fun z => ?_⟩
    refine ⟨true, up2, fun _ e he => ?_, fun z => nomatch z⟩
    refine ⟨by show 2 ≤ sizeLine; decide, fun p hp => ?_⟩
    refine ⟨_, rfl, OR, rfl, rfl, T.e_OutOfRange.c, _, _, true, rfl, fun u r => r, kit_self OR, .inr ⟨true, rfl, ?_⟩⟩
    exact ⟨p, _, 1, V.str "range", rfl, rfl, SqL.of upd_same, rfl, q2 z _ (same_new hp)⟩
theorem ok_law_due (T : Txt K mg OR) : Prom P w K mg base CX0 5 "_law_due" ["day", "months"] (fun vs H Q _ => ∃ y m d mo : Int, vs = [.int (num y m d), .int mo] ∧ Vd y m d ∧ 0 ≤ num y m d ∧ num y m d ≤ 1000000 ∧ 0 ≤ mo ∧ ∀ H', Same H H' → Q (tellV (later y m d mo)) H') := by
  have nd := sc__law_due.nd
  have pr__law_later := ok_law_later (P := P) (w := w) (base := base) T
  refine T.d__law_due.ok sc__law_due bi__law_due (fun vs H Q E h => ?_) (fun f cdv A outer s H vs Q E hr h => ?_)
  · obtain ⟨y, m, d, mo, rfl, _⟩ := h
    rfl
  · obtain ⟨y, m, d, mo, rfl, v, h0, h1, hmo, q⟩ := h
    refine ⟨_, (pss_cons (ps_if (pt_cmpR op_gt (pcall hr pr__law_later (pa_cons (pv 0) (pa_cons (pv 1) pa_nil))) pe_int (nomark _)) (pss_one (ps_ret pe_str)) pss_nil)
    (pss_one (ps_ret (pcall hr pr__law_later (pa_cons (pv 0) (pa_cons (pv 1) pa_nil)))))), ?_⟩
    refine ⟨_, rfl, _, rfl, y, m, d, mo, rfl, v, h0, h1, hmo, fun H1 s1 => ⟨_, _, rfl, rfl, _, rfl, ?_⟩⟩
    unfold tellV at q
    refine ite2 (fun c => ?_) (fun c => ?_)
    · have c := of_decide_eq_true c
      rw [if_neg (by omega)] at q
      exact q H1 s1
    · have c := of_decide_eq_false (Bool.eq_false_iff.mpr c)
      rw [if_pos (by omega)] at q
      exact ⟨_, rfl, _, rfl, y, m, d, mo, rfl, v, h0, h1, hmo, fun H2 s2 => q H2 (s1.trans s2)⟩
end
end K6
namespace K6
open PySem PySem.Spec PyProof.Rows L2 Kt Dt
section
variable {P : Program} {w : World} {K : PySem.W.Frag} {mg : Str → Option Value} {base : Heap} {OR : Addr}
theorem Ints.same {H H' : Hp} {l : Addr} {n : Nat} (s : Same H H') (h : Ints H l n) : Ints H' l n := by
  obtain ⟨zs, hz, hl⟩ := h
  exact ⟨zs, s _ _ hz, hl⟩
theorem nv (v : V) : (!decide (v = v)) = false := by
  rw [decide_eq_true rfl] <;> rfl
theorem dep_s (d : Dd) (h : d.isTup = false) (h2 : d.isLst = false) : dep d ≤ 2 := by
  cases d <;> simp_all [dep, Dd.isTup, Dd.isLst]
theorem rep_int {H : Hp} (n : Int) : Rep H (.int n) (.int n) := by
  unfold Rep
  rfl
theorem rep_str {H : Hp} (n : Str) : Rep H (.str n) (.str n) := by
  unfold Rep
  rfl
def tellD (z : Int) : Dd := if z ≤ 1000000 then .int z else .str "range"
theorem rep_tell {H : Hp} (z : Int) : Rep H (tellD z) (tellV z) := by
  unfold tellD tellV
  split
  · exact rep_int z
  · exact rep_str _
theorem dep_tell (z : Int) : dep (tellD z) ≤ 2 := by
  unfold tellD
  split <;> exact dep_s _ rfl rfl
theorem dep_int (n : Int) : dep (.int n) ≤ 2 := dep_s _ rfl rfl
theorem at_mo (y : Int) : atI [V.int 12, V.int 11] (if decide (V.int y = V.int 2737) = true then 1 else 0) = some (V.int (if y = 2737 then 11 else 12)) := by
  rw [i_inj]
  by_cases c : y = 2737
  · rw [if_pos c, decide_eq_true c]
    rfl
  · rw [if_neg c, decide_eq_false c]
    rfl
theorem at_3 {k : Int} (h0 : 0 ≤ k) (h1 : k < 2) : ∃ v : Int, atI [V.int 3, V.int 28] k = some (V.int v) ∧ 0 < v ∧ v ≤ 28 := by
  have h : k = 0 ∨ k = 1 := by omega
  rcases h with h | h <;> subst h
  · exact ⟨3, rfl, by decide, by decide⟩
  · exact ⟨28, rfl, by decide, by decide⟩
theorem at_mos {k a b c : Int} (h0 : 0 ≤ k) (h1 : k < 3) (ha : 0 ≤ a) (ha' : a < 14) (hb : 0 ≤ b) (hb' : b < 1001) (hc : 0 ≤ c) (hc' : c < 80) :
    ∃ v : Int, atI [V.int a, V.int b, V.int (12 * c)] k = some (V.int v) ∧ 0 ≤ v ∧ v ≤ 1000 := by
  have h : k = 0 ∨ k = 1 ∨ k = 2 := by omega
  rcases h with h | h | h <;> subst h
  · exact ⟨a, rfl, by omega, by omega⟩
  · exact ⟨b, rfl, by omega, by omega⟩
  · exact ⟨12 * c, rfl, by omega, by omega⟩
theorem later_ge {y m d mo : Int} (v : Vd y m d) (h0 : 0 ≤ mo) : num y m d ≤ later y m d mo := by
  by_cases c : mo = 0
  · subst c
    rw [later_0 v]
    exact Int.le_refl _
  · refine Int.le_of_lt (num_month v (later_vd v h0) ?_)
    have m1 := v.m1
    unfold far
    omega
theorem num_nn {y m d : Int} (v : Vd y m d) : 0 ≤ num y m d := Int.le_trans (Int.le_trans v.y0 (ystart_nn v.y0)) (num_lo v)
theorem east_le {y : Int} (h0 : 0 ≤ y) (h1 : y ≤ 2737) : 0 ≤ eastP y ∧ eastP y ≤ 1000000 := by
  have z := easter_ok h0 h1
  have v := easter_vd h0 h1
  have v5 : Vd y 5 1 := ⟨h0, by decide, by decide, by decide, by rw [mlen_ne (by decide)]; decide⟩
  have w5 : Vd 2737 5 1 := ⟨by decide, by decide, by decide, by decide, by decide⟩
  have a1 := num_month v v5 (by omega)
  have a2 : num y 5 1 ≤ num 2737 5 1 := by
    by_cases c : y = 2737
    · subst c
      exact Int.le_refl _
    · exact Int.le_of_lt (num_month v5 w5 (by omega))
  have a3 : num 2737 5 1 ≤ 1000000 := by decide
  have a4 := num_nn v
  rw [z.2.2.1]
  omega
theorem uq {n y m d mo : Int} (v : Vd y m d) (e : num y m d = n) : ∀ y2 m2 d2 : Int, Vd y2 m2 d2 → num y2 m2 d2 = n → later y2 m2 d2 mo = later y m d mo := fun y2 m2 d2 v2 e2 => by
  obtain ⟨e1, e3, e4⟩ := uniq v2 v (e2.trans e.symm)
  rw [e1, e3, e4]
theorem lex_le {a b c d : Int} (h : a < c ∨ (a = c ∧ b ≤ d)) : Ob.lexAt (fun j => decide (([a, b] : List Int).getD j 0 = ([c, d] : List Int).getD j 0)) (fun j => decide (([a, b] : List Int).getD j 0 ≤ ([c, d] : List Int).getD j 0)) (decide (([a, b] : List Int).length ≤ ([c, d] : List Int).length)) 0 (min ([a, b] : List Int).length ([c, d] : List Int).length) = true := by
  show (if decide (a = c) = true then (if decide (b = d) = true then decide (2 ≤ 2) else decide (b ≤ d)) else decide (a ≤ c)) = true
  rcases h with h | ⟨h1, h2⟩
  · rw [decide_eq_false (show ¬ a = c by omega), if_neg (by decide), decide_eq_true_eq]
    omega
  · rw [decide_eq_true h1, if_pos rfl]
    by_cases e : b = d
    · rw [decide_eq_true e, if_pos rfl]
      rfl
    · rw [decide_eq_false e, if_neg (by decide), decide_eq_true h2]
theorem last_ok {y m d : Int} (v : Vd y m d) (e : num y m d = 1000000) : later y m d 1 = 1000030 := by
  obtain ⟨e1, e2, e3⟩ := uniq v (⟨by decide, by decide, by decide, by decide, by decide⟩ : Vd 2737 11 28) (e.trans (by decide))
  subst e1 e2 e3
  decide
def spLaw (K : PySem.W.Frag) : Sp := fun vs H Q _ => ∃ (a : Addr) (ns : List Int), vs = [.ref a] ∧ SqL K H a (ns.map V.int) ∧ ns.length ≤ 63 ∧ ∀ H', Q (.bl true) H'
theorem ok_law (T : Txt K mg OR) : Prom P w K mg base CX0 7 "law" ["script"] (spLaw K) := by
  have nd := sc_law.nd
  have pr__law_draws := ok_law_draws (P := P) (w := w) (base := base) T
  have pr__law_take := ok_law_take (P := P) (w := w) (base := base) T
  have pr__law_number := ok_law_number (P := P) (w := w) (base := base) T
  have pr__law_length := ok_law_length (P := P) (w := w) (base := base) T
  have pr__law_same := ok_law_same (P := P) (w := w) (base := base) T 3
  have pr__law_told := ok_law_told (P := P) (w := w) (base := base) T
  have pr__law_due := ok_law_due (P := P) (w := w) (base := base) T
  have pr__law_date := ok_law_date (P := P) (w := w) (base := base) T
  have pr__law_later := ok_law_later (P := P) (w := w) (base := base) T
  have pr__law_feast := ok_law_feast (P := P) (w := w) (base := base) T
  have pr__law_easter := ok_law_easter (P := P) (w := w) (base := base) T
  have pr_months_later := ok_months_later (P := P) (w := w) (base := base) T
  have pr_weekday := ok_weekday (P := P) (w := w) (base := base) T
  have pr_easter := ok_easter (P := P) (w := w) (base := base) T
  have pr_date_of := ok_date_of (P := P) (w := w) (base := base) T
  refine T.d_law.ok sc_law bi_law (fun vs H Q E h => ?_) (fun f cdv A outer s H vs Q E hr h => ?_)
  · obtain ⟨a, ns, rfl, _⟩ := h
    rfl
  · obtain ⟨a, ns, rfl, hS, hlen, q⟩ := h
    refine ⟨_, (pss_cons (ps_set (i := 1) nd rfl (Or.inl rfl) (pcall hr pr__law_draws (pa_cons (pv 0) pa_nil)))
    (pss_cons (ps_for PassesOwn.never rfl (pi_range1 (by rfl) T.b_range (pa_cons pe_int pa_nil)) (pg_name (i := 2) nd rfl (Or.inl rfl)) (pss_cons (ps_set (i := 3) nd rfl (Or.inl rfl) (pcall hr pr__law_take (pa_cons (pv 1) (pa_cons pe_int pa_nil))))
    (pss_cons (ps_set (i := 4) nd rfl (Or.inl rfl) (pe_op op_add pe_int (pcall hr pr__law_take (pa_cons (pv 1) (pa_cons (pe_ix ix_list (pe_lst (pa_cons pe_int (pa_cons pe_int pa_nil))) (pe_callTy call_int1 (by rfl) T.b_int (by decide +kernel) (pa_cons (pe_cmpR op_eq (pv 3) pe_int (nomark _)) pa_nil)) (fun _ _ => rfl)) pa_nil)))))
    (pss_cons (ps_set (i := 5) nd rfl (Or.inl rfl) (pcall hr pr__law_number (pa_cons (pv 3) (pa_cons (pv 4) (pa_cons (pe_op op_sub (pcall hr pr__law_length (pa_cons (pv 3) (pa_cons (pv 4) pa_nil))) (pcall hr pr__law_take (pa_cons (pv 1) (pa_cons (pe_ix ix_list (pe_lst (pa_cons pe_int (pa_cons pe_int pa_nil))) (pcall hr pr__law_take (pa_cons (pv 1) (pa_cons pe_int pa_nil))) (fun _ _ => rfl)) pa_nil)))) pa_nil)))))
    (Evl.pss_cut (ps_if (pt_cmpR op_gt (pv 5) pe_int (nomark _)) (pss_one (ps_set (i := 5) nd rfl (Or.inl rfl) (pe_op op_sub pe_int (pcall hr pr__law_take (pa_cons (pv 1) (pa_cons pe_int pa_nil)))))) pss_nil)
    (pss_cons (ps_set (i := 6) nd rfl (Or.inl rfl) (pe_ix ix_list (pe_lst (pa_cons (pcall hr pr__law_take (pa_cons (pv 1) (pa_cons pe_int pa_nil))) (pa_cons (pcall hr pr__law_take (pa_cons (pv 1) (pa_cons pe_int pa_nil))) (pa_cons (pe_op op_mul pe_int (pcall hr pr__law_take (pa_cons (pv 1) (pa_cons pe_int pa_nil)))) pa_nil)))) (pcall hr pr__law_take (pa_cons (pv 1) (pa_cons pe_int pa_nil))) (fun _ _ => rfl)))
    (pss_cons (ps_if (pt_not (pt_val (pcall hr pr__law_same (pa_cons (pcall hr pr__law_told (pa_cons (pv 5) (pa_cons (pv 6) pa_nil))) (pa_cons (pcall hr pr__law_due (pa_cons (pv 5) (pa_cons (pv 6) pa_nil))) pa_nil))))) (pss_one (ps_ret pe_bl)) pss_nil)
    (Evl.pss_cut (ps_if (PW.pt (pw_and (pt_cmpR op_lt (pv 5) pe_int (nomark _)) (pw_and1 (pt_cmpR op_ne (pcall hr pr__law_due (pa_cons (pe_op op_add (pv 5) pe_int) (pa_cons (pv 6) pa_nil))) pe_str (nomark _))))) (pss_one (ps_if (pt_cmpR op_lt (pcallN hr pr_months_later (pa_cons (pe_op op_add (pv 5) pe_int) (pa_cons (pv 6) pa_nil))) (pcallN hr pr_months_later (pa_cons (pv 5) (pa_cons (pv 6) pa_nil))) (nomark _)) (pss_one (ps_ret pe_bl)) pss_nil)) pss_nil)
    (pss_cons (ps_set (i := 7) nd rfl (Or.inl rfl) (pe_op op_add (pe_op op_add (pe_op op_sub (pv 5) (pe_ix ix_tup (pcall hr pr__law_date (pa_cons (pv 5) pa_nil)) pe_int (fun _ _ => rfl))) pe_int) (pcall hr pr__law_take (pa_cons (pv 1) (pa_cons pe_int pa_nil)))))
    (pss_cons (ps_set (i := 8) nd rfl (Or.inl rfl) (pcall hr pr__law_take (pa_cons (pv 1) (pa_cons pe_int pa_nil))))
    (Evl.pss_cut (ps_if (PW.pt (pw_and (pt_cmpR op_le (pv 7) pe_int (nomark _)) (pw_and1 (pt_cmpR op_le (pcall hr pr__law_later (pa_cons (pv 7) (pa_cons (pe_op op_add (pv 8) pe_int) pa_nil))) pe_int (nomark _))))) (pss_one (ps_if (pt_cmpR op_ne (pcallN hr pr_months_later (pa_cons (pcallN hr pr_months_later (pa_cons (pv 7) (pa_cons (pv 8) pa_nil))) (pa_cons pe_int pa_nil))) (pcallN hr pr_months_later (pa_cons (pv 7) (pa_cons (pe_op op_add (pv 8) pe_int) pa_nil))) (nomark _)) (pss_one (ps_ret pe_bl)) pss_nil)) pss_nil)
    (pss_cons (ps_if (PW.pt (pw_or (pt_not (pt_val (pcall hr pr__law_same (pa_cons (pcall hr pr__law_feast (pa_cons (pv 3) pa_nil)) (pa_cons (pcall hr pr__law_easter (pa_cons (pv 3) pa_nil)) pa_nil))))) (pw_or1 (pt_cmpR op_ne (pcallN hr pr_weekday (pa_cons (pcallN hr pr_easter (pa_cons (pv 3) pa_nil)) pa_nil)) pe_int (nomark _))))) (pss_one (ps_ret pe_bl)) pss_nil)
    (pss_one (ps_if (pt_not (pt_chain (op_leT (Nat.lt_of_le_of_lt (Nat.le_add_right _ _) hr.units)) (op_leT (Nat.lt_of_le_of_lt (Nat.le_add_right _ _) hr.units)) (pe_tup (pa_cons pe_int (pa_cons pe_int pa_nil))) (pe_slice sl_tup (pcallN hr pr_date_of (pa_cons (pcallN hr pr_easter (pa_cons (pv 3) pa_nil)) pa_nil)) (po_some pe_int) po_none) (pe_tup (pa_cons pe_int (pa_cons pe_int pa_nil))))) (pss_one (ps_ret pe_bl)) pss_nil))))))))))))))
    (pss_cons (ps_set (i := 9) nd rfl (Or.inl rfl) (pe_lst (pa_cons (pcall hr pr__law_told (pa_cons (pe_un un_neg pe_int) (pa_cons pe_int pa_nil))) (pa_cons (pcall hr pr__law_told (pa_cons pe_int (pa_cons pe_int pa_nil))) (pa_cons (pcall hr pr__law_told (pa_cons pe_int (pa_cons (pe_un un_neg pe_int) pa_nil))) (pa_cons (pcall hr pr__law_told (pa_cons pe_int (pa_cons pe_int pa_nil))) (pa_cons (pcall hr pr__law_told (pa_cons pe_int (pa_cons pe_int pa_nil))) (pa_cons (pcall hr pr__law_feast (pa_cons (pe_un un_neg pe_int) pa_nil)) (pa_cons (pcall hr pr__law_feast (pa_cons pe_int pa_nil)) pa_nil)))))))))
    (pss_one (ps_ret (pe_and (pe_cmpR (op_eqD hr.units) (pv 9) (pe_op op_rep (pe_lst (pa_cons pe_str pa_nil)) pe_int) (nomark _)) (pe_one (pcall hr pr__law_same (pa_cons (pcall hr pr__law_told (pa_cons pe_int (pa_cons pe_int pa_nil))) (pa_cons pe_int pa_nil)))))))))), ?_⟩
    refine ⟨_, rfl, a, ns, rfl, hS, hlen, fun l H0 s0 nl I0 => ?_⟩
    refine ⟨6, rfl, by decide, by decide, for_range (n := 6) (fun i σ' H' => ∃ v2 v3 v4 v5 v6 v7 v8 : Option V, σ' = [some (.ref a), some (.ref l), v2, v3, v4, v5, v6, v7, v8, none] ∧ Ints H' l 10000)
      ⟨none, none, none, none, none, none, none, rfl, I0⟩ ?_ ?_⟩
    · rintro i σ' H' hi ⟨v2, v3, v4, v5, v6, v7, v8, rfl, I⟩
      refine ⟨_, rfl, l, 2738, rfl, by decide, I, fun y H1 y0 y1 b1 I1 => ?_⟩
      refine ⟨_, rfl, by show 2 ≤ sizeLine; decide, fun L nL => ?_⟩
      refine ⟨_, rfl, rfl, .inr ⟨_, rfl, L, _, _, _, rfl, rfl, SqL.of upd_same, at_mo y, ?_⟩⟩
      refine ⟨l, _, rfl, by split <;> decide, I1.same (same_new nL), fun r1 H2 r10 r11 b2 I2 => ⟨_, _, rfl, rfl, ?_⟩⟩
      have m1 : 1 ≤ 1 + r1 := by omega
      have m2 : 1 + r1 ≤ 12 := by split at r11 <;> omega
      have hm := mlen_range (y := y) m1 m2
      -- day
      refine ⟨_, rfl, _, rfl, _, rfl, _, rfl, y, 1 + r1, rfl, m1, m2, fun H3 s3 => ?_⟩
      refine ⟨_, rfl, by show 2 ≤ sizeLine; decide, fun L2 nL2 => ?_⟩
      refine ⟨_, rfl, l, 2, rfl, by decide, (I2.same s3).same (same_new nL2), fun k1 H4 k10 k11 b4 I4 => ?_⟩
      obtain ⟨v1, hv1, v10, v11⟩ := at_3 k10 k11
      have nL2l : L2 ≠ l := fun z => by
        obtain ⟨zs, hz, _⟩ := I2.same s3
        rw [z, hz] at nL2
        cases nL2
      refine ⟨L2, _, _, _, rfl, rfl, SqL.of (b4 _ _ nL2l upd_same), hv1, ?_⟩
      refine ⟨l, v1, rfl, v10, I4, fun r2 H5 r20 r21 b5 I5 => ⟨_, _, rfl, rfl, y, 1 + r1, _, rfl, m1, m2, fun H6 s6 => ?_⟩⟩
      have v0 : Vd y (1 + r1) (mlen y (1 + r1) - r2) := ⟨y0, m1, m2, by omega, by omega⟩
      have I6 := I5.same s6
      refine ⟨fun σ2 H2 => ∃ y' m' d' : Int, σ2 = [some (.ref a), some (.ref l), some (.int (0 + (i : Int))), some (.int y), some (.int (1 + r1)), some (.int (num y' m' d')), v6, v7, v8, none] ∧ Vd y' m' d' ∧ num y' m' d' ≤ 1000000 ∧ Ints H2 l 10000, ?_, ?_⟩
      · refine ⟨_, rfl, _, _, rfl, rfl, _, rfl, ?_⟩
        refine ite2 (fun c => ?_) (fun c => ?_)
        · refine ⟨_, rfl, l, 5, rfl, by decide, I6, fun r3 H7 r30 r31 b7 I7 => ⟨_, _, rfl, rfl, ?_⟩⟩
          obtain ⟨y', m', d', v', e'⟩ := date_ex (n := 1000000 - r3) (by omega) (by omega)
          exact ⟨y', m', d', by rw [e']; rfl, v', by omega, I7⟩
        · have c := of_decide_eq_false (Bool.eq_false_iff.mpr c)
          exact ⟨_, _, _, rfl, v0, by omega, I6⟩
      · rintro σ2 H7 ⟨y', m', d', rfl, v, n1, I7⟩
        have n0 := num_nn v
        -- months
        refine ⟨_, rfl, l, 14, rfl, by decide, I7, fun a1 H8 a10 a11 b8 I8 => ?_⟩
        refine ⟨_, rfl, l, 1001, rfl, by decide, I8, fun a2 H9 a20 a21 b9 I9 => ?_⟩
        refine ⟨_, rfl, l, 80, rfl, by decide, I9, fun a3 H10 a30 a31 b10 I10 => ⟨_, _, rfl, rfl, .inl ⟨by decide, by decide⟩, by show 3 ≤ sizeLine; decide, fun L3 nL3 => ?_⟩⟩
        refine ⟨_, rfl, l, 3, rfl, by decide, I10.same (same_new nL3), fun k2 H11 k20 k21 b11 I11 => ?_⟩
        obtain ⟨mo, hmo, mo0, mo1⟩ := at_mos k20 k21 a10 a11 a20 a21 a30 a31
        have nL3l : L3 ≠ l := fun z => by
          obtain ⟨zs, hz, _⟩ := id I10
          rw [z, hz] at nL3
          cases nL3
        refine ⟨L3, _, _, _, rfl, rfl, SqL.of (b11 _ _ nL3l upd_same), hmo, ?_⟩
        -- told and due
        refine ⟨_, rfl, _, rfl, _, mo, rfl, fun y2 m2' d2 v2 e2 _ _ _ H12 s12 => ?_, fun z => (z ⟨n0, n1, mo0, mo1⟩).elim⟩
        rw [uq v rfl _ _ _ v2 e2]
        refine ⟨_, rfl, _, rfl, y', m', d', mo, rfl, v, n0, n1, mo0, fun H13 s13 => ?_⟩
        refine ⟨_, _, tellD _, rfl, rep_tell _, rep_tell _, dep_tell _, _, rfl, iteF ?_⟩
        have I13 := (I11.same s12).same s13
        -- the next day
        refine ⟨fun σ3 H3 => σ3 = [some (.ref a), some (.ref l), some (.int (0 + (i : Int))), some (.int y), some (.int (1 + r1)), some (.int (num y' m' d')), some (.int mo), v7, v8, none] ∧ Ints H3 l 10000, ?_, ?_⟩
        · refine ⟨_, rfl, _, _, rfl, rfl, _, rfl, ?_⟩
          cases c : decide (num y' m' d' < 1000000) with
          | false => exact iteF (iteF ⟨rfl, I13⟩)
          | true =>
            have c := of_decide_eq_true c
            have nx := next_ok v
            refine iteT ⟨_, rfl, _, _, rfl, rfl, _, rfl, (nextD y' m' d').1, (nextD y' m' d').2.1, (nextD y' m' d').2.2, mo, by rw [nx.2]; rfl, nx.1, num_nn nx.1, by rw [nx.2]; omega, mo0, fun H14 s14 => ?_⟩
            unfold tellV
            by_cases c2 : later (nextD y' m' d').1 (nextD y' m' d').2.1 (nextD y' m' d').2.2 mo ≤ 1000000
            · rw [if_pos c2]
              refine ⟨rfl, _, rfl, iteT ?_⟩
              have mon : later y' m' d' mo ≤ later (nextD y' m' d').1 (nextD y' m' d').2.1 (nextD y' m' d').2.2 mo := later_mono v nx.1 (by rw [nx.2]; omega) mo0
              refine ⟨_, rfl, _, _, rfl, rfl, _, rfl, _, mo, rfl, fun y3 m3 d3 v3 e3 _ _ _ _ H15 s15 => ?_, fun y3 m3 d3 v3 e3 _ _ _ z _ _ => z (by rw [uq nx.1 nx.2 _ _ _ v3 e3]; exact c2), fun z _ _ => z ⟨by omega, by omega, mo0, mo1⟩⟩
              rw [uq nx.1 nx.2 _ _ _ v3 e3]
              refine ⟨_, rfl, _, rfl, _, mo, rfl, fun y4 m4 d4 v4 e4 _ _ _ _ H16 s16 => ?_, fun y4 m4 d4 v4 e4 _ _ _ z _ _ => z (by rw [uq v rfl _ _ _ v4 e4]; omega), fun z _ _ => z ⟨n0, n1, mo0, mo1⟩⟩
              rw [uq v rfl _ _ _ v4 e4]
              refine ⟨_, _, rfl, rfl, _, rfl, ?_⟩
              rw [decide_eq_false (by omega)]
              exact iteF ⟨rfl, ((I13.same s14).same s15).same s16⟩
            · rw [if_neg c2]
              refine ⟨rfl, _, rfl, ?_⟩
              rw [nv]
              exact iteF ⟨rfl, I13.same s14⟩
        · rintro σ3 H14 ⟨rfl, I14⟩
          -- low, more
          refine ⟨_, rfl, _, rfl, _, rfl, n0, n1, fun y2 m2' d2 p2 H15 v2 e2 s15 np2 hp2 => ⟨p2, _, 2, _, rfl, rfl, SqT.of hp2, rfl, _, _, rfl, rfl, _, _, rfl, rfl, ?_⟩⟩
          obtain ⟨e3, e4, e5⟩ := uniq v2 v e2
          subst e3 e4 e5
          refine ⟨_, rfl, l, 28, rfl, by decide, I14.same s15, fun r4 H16 r40 r41 b16 I16 => ⟨_, _, rfl, rfl, ?_⟩⟩
          refine ⟨_, rfl, l, 40, rfl, by decide, I16, fun more H17 more0 more1 b17 I17 => ?_⟩
          have hl28 := (mlen_range (y := y2) v.m1 v.m2).1
          have vl : Vd y2 m2' (1 + r4) := ⟨v.y0, v.m1, v.m2, by omega, by omega⟩
          have el : num y2 m2' d2 - d2 + 1 + r4 = num y2 m2' (1 + r4) := by
            unfold num
            omega
          refine ⟨fun σ3 H3 => ∃ v7 v8 : Option V, σ3 = [some (.ref a), some (.ref l), some (.int (0 + (i : Int))), some (.int y), some (.int (1 + r1)), some (.int (num y2 m2' d2)), some (.int mo), v7, v8, none] ∧ Ints H3 l 10000, ?_, ?_⟩
          · refine ⟨_, rfl, _, _, rfl, rfl, _, rfl, ?_⟩
            cases c : decide (num y2 m2' d2 - d2 + 1 + r4 ≤ 1000000) with
            | false => exact iteF (iteF ⟨_, _, rfl, I17⟩)
            | true =>
              have c := of_decide_eq_true c
              have w0 := num_nn vl
              refine iteT ⟨_, rfl, _, rfl, _, _, rfl, rfl, y2, m2', 1 + r4, more + 7, by rw [← el]; rfl, vl, w0, by omega, by omega, fun H18 s18 => ⟨_, _, rfl, rfl, _, rfl, ?_⟩⟩
              cases c2 : decide (later y2 m2' (1 + r4) (more + 7) ≤ 1000000) with
              | false => exact iteF ⟨_, _, rfl, I17.same s18⟩
              | true =>
                have c2 := of_decide_eq_true c2
                have two := later_two vl (show 1 + r4 ≤ 28 by omega) more0 (show (0 : Int) ≤ 7 by decide)
                have g1 := later_ge two.2.1 (show (0 : Int) ≤ 7 by decide)
                rw [two.1, two.2.2] at g1
                have w2 := num_nn two.2.1
                rw [two.2.2] at w2
                refine iteT ⟨_, rfl, _, rfl, _, more, rfl, fun y3 m3 d3 v3 e3 _ _ _ _ H19 s19 => ?_, fun y3 m3 d3 v3 e3 _ _ _ z _ _ => z (by rw [uq vl el.symm _ _ _ v3 e3]; omega), fun z _ _ => z ⟨by omega, c, more0, by omega⟩⟩
                rw [uq vl el.symm _ _ _ v3 e3]
                refine ⟨_, 7, rfl, fun y4 m4 d4 v4 e4 _ _ _ _ H20 s20 => ?_, fun y4 m4 d4 v4 e4 _ _ _ z _ _ => z (by rw [uq two.2.1 two.2.2 _ _ _ v4 e4, two.1]; omega), fun z _ _ => z ⟨w2, by omega, by decide, by decide⟩⟩
                rw [uq two.2.1 two.2.2 _ _ _ v4 e4, two.1]
                refine ⟨_, rfl, _, rfl, _, _, rfl, rfl, _, more + 7, rfl, fun y5 m5 d5 v5 e5 _ _ _ _ H21 s21 => ?_, fun y5 m5 d5 v5 e5 _ _ _ z _ _ => z (by rw [uq vl el.symm _ _ _ v5 e5]; omega), fun z _ _ => z ⟨by omega, c, by omega, by omega⟩⟩
                rw [uq vl el.symm _ _ _ v5 e5]
                refine ⟨rfl, _, rfl, ?_⟩
                rw [nv]
                exact iteF ⟨_, _, rfl, (((I17.same s18).same s19).same s20).same s21⟩
          · rintro σ3 H18 ⟨v7, v8, rfl, I18⟩
            -- Easter
            have yin := isN_t (n := y) (a := 0) (b := 2737) y0 (by omega)
            have ez := easter_ok y0 (show y ≤ 2737 by omega)
            have ev := easter_vd y0 (show y ≤ 2737 by omega)
            have el := east_le y0 (show y ≤ 2737 by omega)
            have ein := isN_t (n := eastP y) (a := 0) (b := 1000000) el.1 el.2
            refine ⟨_, rfl, y, rfl, fun _ H19 s19 => ⟨_, rfl, y, rfl, y0, by omega, fun H20 s20 => ?_⟩, fun z => (ab yin z).elim⟩
            refine ⟨_, _, _, rfl, rep_int _, rep_int _, dep_int _, _, rfl, iteF ?_⟩
            refine ⟨_, rfl, y, rfl, fun _ H21 s21 => ⟨_, rfl, fun _ => ⟨rfl, _, rfl, ?_⟩, fun z => ab ein z⟩, fun z => ab yin z⟩
            rw [ez.2.2.2, nv]
            refine iteF ?_
            refine ⟨by show 2 ≤ sizeLine; decide, fun p1 n1' => ?_⟩
            refine ⟨_, rfl, y, rfl, fun _ H22 s22 => ⟨_, rfl, fun _ y6 m6 d6 p6 H23 v6' e6 s23 np6 hp6 => ?_, fun z => ab ein z⟩, fun z => ab yin z⟩
            obtain ⟨f1, f2, f3⟩ := uniq v6' ev (e6.trans ez.2.2.1)
            refine ⟨_, rfl, p6, _, rfl, SqT.of hp6, by show ¬ (HT.sIx 3 0 (some 1) = 0 ∧ HT.sIx 3 3 none = 3); decide, fun p7 n7 => ?_⟩
            have s7 := same_new (o := HO.tup (cutV (dt y6 m6 d6) (some 1) none)) n7
            refine ⟨p1, p7, [3, 22], [m6, d6], rfl, rfl, SqT.of (s7 _ _ (s23 _ _ (s22 _ _ upd_same))), SqT.of upd_same, _, rfl, ?_⟩
            rw [lex_le (by omega)]
            refine iteT ⟨by show 2 ≤ sizeLine; decide, fun p8 n8 => ?_⟩
            have s8 := same_new (o := HO.tup [V.int 4, V.int 25]) n8
            refine ⟨p7, p8, [m6, d6], [4, 25], rfl, rfl, SqT.of (s8 _ _ upd_same), SqT.of upd_same, _, rfl, ?_⟩
            rw [lex_le (by omega)]
            exact iteF ⟨_, _, _, _, _, _, _, rfl, (((((((I18.same s19).same s20).same s21).same (same_new n1')).same s22).same s23).same s7).same s8⟩
    · rintro σ' H' ⟨v2, v3, v4, v5, v6, v7, v8, rfl, I⟩
      refine ⟨_, rfl, _, 1, rfl, fun y m d v e _ _ _ => absurd (num_nn v) (by omega), fun _ H1 s1 => ?_⟩
      refine ⟨_, 0, rfl, fun y m d v e z _ _ => absurd z (by omega), fun _ H2 s2 => ?_⟩
      refine ⟨_, rfl, 5, _, rfl, fun y m d v e _ z _ => absurd z (by omega), fun _ H3 s3 => ?_⟩
      refine ⟨5, 1001, rfl, fun y m d v e _ _ z => absurd z (by omega), fun _ H4 s4 => ?_⟩
      refine ⟨1000000, 1, rfl, fun y m d v e _ _ _ H5 s5 => ?_, fun z => (z (by decide)).elim⟩
      rw [last_ok v e]
      refine ⟨_, rfl, _, rfl, fun z => (ab z (by decide)).elim, fun _ H6 s6 => ?_⟩
      refine ⟨2738, rfl, fun z => (ab z (by decide)).elim, fun _ H7 s7 => ?_⟩
      refine ⟨by show 7 ≤ sizeLine; decide, fun A1 nA1 => ?_⟩
      refine ⟨_, rfl, by show 1 ≤ sizeLine; decide, fun A2 nA2 => ?_⟩
      have sA2 := same_new (o := HO.lst [V.str "range"]) nA2
      refine ⟨A2, 7, _, rfl, rfl, upd_same, by decide, by decide, by show 1 * 7 ≤ sizeLine; decide, fun A3 nA3 => ?_⟩
      have sA3 := same_new (o := HO.lst [V.str "range", V.str "range", V.str "range", V.str "range", V.str "range", V.str "range", V.str "range"]) nA3
      refine ⟨.list [.str "range", .str "range", .str "range", .str "range", .str "range", .str "range", .str "range"], .list [.str "range", .str "range", .str "range", .str "range", .str "range", .str "range", .str "range"],
        .lst (SqL.of (sA3 _ _ (sA2 A1 _ upd_same))) (.cons (.str _) (.cons (.str _) (.cons (.str _) (.cons (.str _) (.cons (.str _) (.cons (.str _) (.cons (.str _) .nil))))))),
        .lst (SqL.of upd_same) (.cons (.str _) (.cons (.str _) (.cons (.str _) (.cons (.str _) (.cons (.str _) (.cons (.str _) (.cons (.str _) .nil))))))), by decide +kernel, by decide +kernel, _, rfl, ?_⟩
      rw [SeqAt.eqv_refl _ (by decide +kernel)]
      refine iteT ?_
      refine ⟨1000000, 0, rfl, fun y m d v e _ _ _ H8 s8 => ?_, fun z => (z (by decide)).elim⟩
      rw [later_0 v, e]
      exact ⟨_, _, _, rfl, rep_int 1000000, rep_int 1000000, dep_int _, q H8⟩
end
end K6
namespace K6
open PySem L2 Kt
theorem walk {l : PySem.W.OpenLaw} {q : Program} {loose : List Str} {XP : (Str → Option Value) → Heap → Prop} {YP : World → Heap → Prop} {d : DefRec} {K : Params → PySem.W.Frag} (hn : l.most = some 63) (hdf : d.params.defaults = [])
    (hY : ∀ (w : World) (h : Heap), YP w h → (K w.params).In h)
    (F : ∀ (w : World) (mg : Str → Option Value) (fa : Addr) (h : Heap), (K w.params).In h → h.Ns mainGlobals mg → mg d.name = some (.ref fa) →
      ∃ fd : FuncData, (∀ (s : Shared) (u : Value), BindsTo s fd ⟨[u], []⟩ [("script", u)]) ∧ ∀ base : Heap, (K w.params).In base → base.Ns mainGlobals mg → FnOk l.prog w (K w.params) mg base CX0 7 fa fd ["script"] (spLaw (K w.params))) :
    PySem.W.WalkO q loose XP YP l.row.toRowW d [] (fun f vs => PySem.call f vs) :=
  L2.walk_of (n := 63) (k := 7) (x := "script") (CX := fun _ => CX0) (sp := fun w => spLaw (K w.params)) hn (by decide) hdf ⟨rfl, by decide, by decide⟩ hY F (fun _ _ a ns hl _ hS => ⟨a, ns, rfl, hS, hl, fun _ => rfl⟩) fun _ _ _ _ _ z => z
end K6
open PySem PySem.W PyProof.Rows
set_option maxRecDepth 100000 in
set_option maxHeartbeats 0 in
theorem PySem.Challenge.cw_docketloom_k06_months_and_easter_holds : PySem.Challenge.rw_docketloom_k06_months_and_easter.Holds := by
  w_on; o_law; k_head; (case hw => w_witness2)
  k_fill
  refine K6.walk (l := PySem.Challenge.rw_docketloom_k06_months_and_easter) rfl rfl (fun w h Y => PySem.W.kIn_of Y) ?F
  case F =>
    intro w mg fa h KX G hmg
    have A_is_number : Kt.At (Kt.kOf KX) mg "is_number" K6.s_is_number := by
      unfold Kt.kOf
      refine' Kt.at_mk KX G ?a ?l ?c ?k
      (case a => k_is); (case l => k_is); (case c => k_is); (case k => k_is)
    have A_is_day : Kt.At (Kt.kOf KX) mg "is_day" K6.s_is_day := by
      unfold Kt.kOf
      refine' Kt.at_mk KX G ?a ?l ?c ?k
      (case a => k_is); (case l => k_is); (case c => k_is); (case k => k_is)
    have A_check_day : Kt.At (Kt.kOf KX) mg "check_day" K6.s_check_day := by
      unfold Kt.kOf
      refine' Kt.at_mk KX G ?a ?l ?c ?k
      (case a => k_is); (case l => k_is); (case c => k_is); (case k => k_is)
    have A_weekday_of : Kt.At (Kt.kOf KX) mg "weekday_of" K6.s_weekday_of := by
      unfold Kt.kOf
      refine' Kt.at_mk KX G ?a ?l ?c ?k
      (case a => k_is); (case l => k_is); (case c => k_is); (case k => k_is)
    have A_weekday : Kt.At (Kt.kOf KX) mg "weekday" K6.s_weekday := by
      unfold Kt.kOf
      refine' Kt.at_mk KX G ?a ?l ?c ?k
      (case a => k_is); (case l => k_is); (case c => k_is); (case k => k_is)
    have A_has_leap_day : Kt.At (Kt.kOf KX) mg "has_leap_day" K6.s_has_leap_day := by
      unfold Kt.kOf
      refine' Kt.at_mk KX G ?a ?l ?c ?k
      (case a => k_is); (case l => k_is); (case c => k_is); (case k => k_is)
    have A_length_of : Kt.At (Kt.kOf KX) mg "length_of" K6.s_length_of := by
      unfold Kt.kOf
      refine' Kt.at_mk KX G ?a ?l ?c ?k
      (case a => k_is); (case l => k_is); (case c => k_is); (case k => k_is)
    have A_check_year : Kt.At (Kt.kOf KX) mg "check_year" K6.s_check_year := by
      unfold Kt.kOf
      refine' Kt.at_mk KX G ?a ?l ?c ?k
      (case a => k_is); (case l => k_is); (case c => k_is); (case k => k_is)
    have A_year_start : Kt.At (Kt.kOf KX) mg "year_start" K6.s_year_start := by
      unfold Kt.kOf
      refine' Kt.at_mk KX G ?a ?l ?c ?k
      (case a => k_is); (case l => k_is); (case c => k_is); (case k => k_is)
    have A_year_of : Kt.At (Kt.kOf KX) mg "year_of" K6.s_year_of := by
      unfold Kt.kOf
      refine' Kt.at_mk KX G ?a ?l ?c ?k
      (case a => k_is); (case l => k_is); (case c => k_is); (case k => k_is)
    have A_number_at : Kt.At (Kt.kOf KX) mg "number_at" K6.s_number_at := by
      unfold Kt.kOf
      refine' Kt.at_mk KX G ?a ?l ?c ?k
      (case a => k_is); (case l => k_is); (case c => k_is); (case k => k_is)
    have A_date_at : Kt.At (Kt.kOf KX) mg "date_at" K6.s_date_at := by
      unfold Kt.kOf
      refine' Kt.at_mk KX G ?a ?l ?c ?k
      (case a => k_is); (case l => k_is); (case c => k_is); (case k => k_is)
    have A_moved_by : Kt.At (Kt.kOf KX) mg "moved_by" K6.s_moved_by := by
      unfold Kt.kOf
      refine' Kt.at_mk KX G ?a ?l ?c ?k
      (case a => k_is); (case l => k_is); (case c => k_is); (case k => k_is)
    have A_date_of : Kt.At (Kt.kOf KX) mg "date_of" K6.s_date_of := by
      unfold Kt.kOf
      refine' Kt.at_mk KX G ?a ?l ?c ?k
      (case a => k_is); (case l => k_is); (case c => k_is); (case k => k_is)
    have A_months_later : Kt.At (Kt.kOf KX) mg "months_later" K6.s_months_later := by
      unfold Kt.kOf
      refine' Kt.at_mk KX G ?a ?l ?c ?k
      (case a => k_is); (case l => k_is); (case c => k_is); (case k => k_is)
    have A_easter_offset : Kt.At (Kt.kOf KX) mg "easter_offset" K6.s_easter_offset := by
      unfold Kt.kOf
      refine' Kt.at_mk KX G ?a ?l ?c ?k
      (case a => k_is); (case l => k_is); (case c => k_is); (case k => k_is)
    have A_easter : Kt.At (Kt.kOf KX) mg "easter" K6.s_easter := by
      unfold Kt.kOf
      refine' Kt.at_mk KX G ?a ?l ?c ?k
      (case a => k_is); (case l => k_is); (case c => k_is); (case k => k_is)
    have A__law_draws : Kt.At (Kt.kOf KX) mg "_law_draws" K6.s__law_draws := by
      unfold Kt.kOf
      refine' Kt.at_mk KX G ?a ?l ?c ?k
      (case a => k_is); (case l => k_is); (case c => k_is); (case k => k_is)
    have A__law_take : Kt.At (Kt.kOf KX) mg "_law_take" K6.s__law_take := by
      unfold Kt.kOf
      refine' Kt.at_mk KX G ?a ?l ?c ?k
      (case a => k_is); (case l => k_is); (case c => k_is); (case k => k_is)
    have A__law_same : Kt.At (Kt.kOf KX) mg "_law_same" K6.s__law_same := by
      unfold Kt.kOf
      refine' Kt.at_mk KX G ?a ?l ?c ?k
      (case a => k_is); (case l => k_is); (case c => k_is); (case k => k_is)
    have A__law_leap : Kt.At (Kt.kOf KX) mg "_law_leap" K6.s__law_leap := by
      unfold Kt.kOf
      refine' Kt.at_mk KX G ?a ?l ?c ?k
      (case a => k_is); (case l => k_is); (case c => k_is); (case k => k_is)
    have A__law_length : Kt.At (Kt.kOf KX) mg "_law_length" K6.s__law_length := by
      unfold Kt.kOf
      refine' Kt.at_mk KX G ?a ?l ?c ?k
      (case a => k_is); (case l => k_is); (case c => k_is); (case k => k_is)
    have A__law_ahead : Kt.At (Kt.kOf KX) mg "_law_ahead" K6.s__law_ahead := by
      unfold Kt.kOf
      refine' Kt.at_mk KX G ?a ?l ?c ?k
      (case a => k_is); (case l => k_is); (case c => k_is); (case k => k_is)
    have A__law_date : Kt.At (Kt.kOf KX) mg "_law_date" K6.s__law_date := by
      unfold Kt.kOf
      refine' Kt.at_mk KX G ?a ?l ?c ?k
      (case a => k_is); (case l => k_is); (case c => k_is); (case k => k_is)
    have A__law_number : Kt.At (Kt.kOf KX) mg "_law_number" K6.s__law_number := by
      unfold Kt.kOf
      refine' Kt.at_mk KX G ?a ?l ?c ?k
      (case a => k_is); (case l => k_is); (case c => k_is); (case k => k_is)
    have A__law_later : Kt.At (Kt.kOf KX) mg "_law_later" K6.s__law_later := by
      unfold Kt.kOf
      refine' Kt.at_mk KX G ?a ?l ?c ?k
      (case a => k_is); (case l => k_is); (case c => k_is); (case k => k_is)
    have A__law_easter : Kt.At (Kt.kOf KX) mg "_law_easter" K6.s__law_easter := by
      unfold Kt.kOf
      refine' Kt.at_mk KX G ?a ?l ?c ?k
      (case a => k_is); (case l => k_is); (case c => k_is); (case k => k_is)
    have A__law_told : Kt.At (Kt.kOf KX) mg "_law_told" K6.s__law_told := by
      unfold Kt.kOf
      refine' Kt.at_mk KX G ?a ?l ?c ?k
      (case a => k_is); (case l => k_is); (case c => k_is); (case k => k_is)
    have A__law_feast : Kt.At (Kt.kOf KX) mg "_law_feast" K6.s__law_feast := by
      unfold Kt.kOf
      refine' Kt.at_mk KX G ?a ?l ?c ?k
      (case a => k_is); (case l => k_is); (case c => k_is); (case k => k_is)
    have A__law_due : Kt.At (Kt.kOf KX) mg "_law_due" K6.s__law_due := by
      unfold Kt.kOf
      refine' Kt.at_mk KX G ?a ?l ?c ?k
      (case a => k_is); (case l => k_is); (case c => k_is); (case k => k_is)
    have A_law : Kt.At (Kt.kOf KX) mg "law" K6.s_law := by
      unfold Kt.kOf
      refine' Kt.at_mk KX G ?a ?l ?c ?k
      (case a => k_is); (case l => k_is); (case c => k_is); (case k => k_is)
    have eOR : ∃ C, Kt.ExcAt (Kt.kOf KX) mg "OutOfRange" C ∧ ∃ D, Kt.ExcAt (Kt.kOf KX) mg "DocketError" D ∧ PySem.W.subIn (Kt.kOf KX) (.ref C) (.ref D) = some true := by
      unfold Kt.kOf
      refine' Kt.ex_mk ⟨Kt.exc_mk KX G ?a ?qx ?k ?b ?t ?g1 ?g2 ?g3 ?g4 ?g5 ?g6 ?g7, Kt.ex_mk ⟨Kt.exc_mk KX G ?aa ?qqx ?kk ?bb ?tt ?h1 ?h2 ?h3 ?h4 ?h5 ?h6 ?h7, ?up⟩⟩
      (case a => k_is); (case aa => k_is)
      (case qx => k_exc); (case k => k_is); (case b => k_is); (case t => k_is); (case g1 => k_is); (case g2 => k_is); (case g3 => k_is); (case g4 => k_is); (case g5 => k_is); (case g6 => k_is); (case g7 => k_is)
      (case qqx => k_exc); (case kk => k_is); (case bb => k_is); (case tt => k_is); (case h1 => k_is); (case h2 => k_is); (case h3 => k_is); (case h4 => k_is); (case h5 => k_is); (case h6 => k_is); (case h7 => k_is)
      (case up => k_is)
    obtain ⟨OR, eO, DE, eD, up⟩ := eOR
    have g_LAST_DAY : ∃ t, mg "LAST_DAY" = some (.int 1000000 t) := by
      refine' Kt.int_mk KX G ?a
      (case a => k_is)
    have g_WEEK : ∃ t, mg "WEEK" = some (.int 7 t) := by
      refine' Kt.int_mk KX G ?a
      (case a => k_is)
    have g_FIRST_WEEKDAY : ∃ t, mg "FIRST_WEEKDAY" = some (.int 5 t) := by
      refine' Kt.int_mk KX G ?a
      (case a => k_is)
    have g_LAST_YEAR : ∃ t, mg "LAST_YEAR" = some (.int 2737 t) := by
      refine' Kt.int_mk KX G ?a
      (case a => k_is)
    have g_MONTHS : ∃ t, mg "MONTHS" = some (.int 12 t) := by
      refine' Kt.int_mk KX G ?a
      (case a => k_is)
    have g_MOST_MONTHS_LATER : ∃ t, mg "MOST_MONTHS_LATER" = some (.int 1000 t) := by
      refine' Kt.int_mk KX G ?a
      (case a => k_is)
    have g_LENGTHS : ∃ a, mg "LENGTHS" = some (.ref a) ∧ ∀ H, L2.SqT (Kt.kOf KX) H a (Dt.lens.map L2.V.int) := by
      unfold Kt.kOf
      refine' Kt.tupg_mk KX G ?a ?l ?z ?v
      (case a => k_is); (case l => k_is)
      (case z => decide)
      (case v => repeat (first | exact .nil | refine .cons ⟨_, rfl⟩ ?_))
    have g_DAYS_OF_400_YEARS : ∃ t, mg "DAYS_OF_400_YEARS" = some (.int 146097 t) := by
      refine' Kt.int_mk KX G ?a
      (case a => k_is)
    have g_SUNDAY : ∃ t, mg "SUNDAY" = some (.int 6 t) := by
      refine' Kt.int_mk KX G ?a
      (case a => k_is)
    have b_type : mg "type" = none := by
      refine' PySem.W.mg_none_of KX G ?a
      (case a => k_is)
    have b_int : mg "int" = none := by
      refine' PySem.W.mg_none_of KX G ?a
      (case a => k_is)
    have b_sum : mg "sum" = none := by
      refine' PySem.W.mg_none_of KX G ?a
      (case a => k_is)
    have b_range : mg "range" = none := by
      refine' PySem.W.mg_none_of KX G ?a
      (case a => k_is)
    have b_min : mg "min" = none := by
      refine' PySem.W.mg_none_of KX G ?a
      (case a => k_is)
    have b_abs : mg "abs" = none := by
      refine' PySem.W.mg_none_of KX G ?a
      (case a => k_is)
    have b_len : mg "len" = none := by
      refine' PySem.W.mg_none_of KX G ?a
      (case a => k_is)
    have b_list : mg "list" = none := by
      refine' PySem.W.mg_none_of KX G ?a
      (case a => k_is)
    have b_reversed : mg "reversed" = none := by
      refine' PySem.W.mg_none_of KX G ?a
      (case a => k_is)
    have b_isinstance : mg "isinstance" = none := by
      refine' PySem.W.mg_none_of KX G ?a
      (case a => k_is)
    have b_tuple : mg "tuple" = none := by
      refine' PySem.W.mg_none_of KX G ?a
      (case a => k_is)
    have b_bool : mg "bool" = none := by
      refine' PySem.W.mg_none_of KX G ?a
      (case a => k_is)
    have b_str : mg "str" = none := by
      refine' PySem.W.mg_none_of KX G ?a
      (case a => k_is)
    have T : K6.Txt (Kt.kOf KX) mg OR := by
      exact ⟨b_type, b_int, b_sum, b_range, b_min, b_abs, b_len, b_list, b_reversed, b_isinstance, b_tuple, b_bool, b_str, A_is_number, A_is_day, A_check_day, A_weekday_of, A_weekday, A_has_leap_day, A_length_of, A_check_year, A_year_start, A_year_of, A_number_at, A_date_at, A_moved_by, A_date_of, A_months_later, A_easter_offset, A_easter, A__law_draws, A__law_take, A__law_same, A__law_leap, A__law_length, A__law_ahead, A__law_date, A__law_number, A__law_later, A__law_easter, A__law_told, A__law_feast, A__law_due, A_law, eO, ⟨DE, eD, up⟩, g_LAST_DAY, g_WEEK, g_FIRST_WEEKDAY, g_LAST_YEAR, g_MONTHS, g_MOST_MONTHS_LATER, g_LENGTHS, g_DAYS_OF_400_YEARS, g_SUNDAY⟩
    exact Kt.law_end T.d_law K6.bi_law hmg fun base => K6.ok_law (base := base) T
