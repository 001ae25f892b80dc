import PyProof.Rows.All
import Wide.All
import OpenK.AllK
import Wide.FinOn
import HandS.ForMost
import HandS.Wide
import HandS.Rev
import HandS.Ends
import HandS.ExcValue
import HandS.ForExc
import HandS.WideMore
import HandS.More
import HandS.Style
import HandS.IsInst
import HandS.ExcIs
import HandS.TryMany
import HandS.NoneIn
import HandS.EndBits
import HandS.Flow
import HandS.Conv
import HandS.Evl
import PyProof.Seq
import PyProof.Rows.TupIter
import HandS.Base
import HandS.Call
import HandS.Comp
import HandS.Exc
import HandS.ExcOwn
import HandS.ExcCtx
import HandS.Hot
import HandS.HotCalls
import HandS.GenList
import HandS.AnyAll
import HandS.Walk
import HandS.EndTab
import KE.KNestM
import HandS.EndOwn
import HandS.Text
import HandS.StrMore
import HandS.FStr
import HandS.Gcd
import HandS.TryOnly
import HandS.ExcBuiltin
import PySem.Challenge.RW_docketloom_k03_names_words_and_numbers
set_option Elab.async false
set_option linter.all false
set_option maxRecDepth 100000
set_option maxHeartbeats 4000000
/-! list(reversed(xs)): a new list -/
namespace Rx
open PySem PySem.Spec PyProof.Rows L2 RT
section
variable {prog : Program} {w : World} {A : Around} {E : Value → Shared → Prop} {s : Shared}
theorem grow_rev {G : Result → Shared → Prop} {r l : Addr} {zs : Array Value} (hn0 : A.handled = none) (hr : s.heap.IsRevIter r l ((zs.size : Int) - 1)) (hL : s.heap.IsList l zs) (hd : l ≠ r) (hz : zs.size ≤ sizeLine)
    (D : Addr) (out : Value) (c₀ : Nat) (hD : s.heap.get? D = some { cls := .type "list", data := .seq #[] c₀ }) (hDl : D ≠ l)
    (fin : ∀ g tk acc c1, (∀ b o, b ≠ D → b ≠ r → s.heap.get? b = some o → g.get? b = some o) → g.get? D = some { cls := .type "list", dict := none, data := .seq acc c1, slots := #[] } →
      ItemsOf (fun i v => zs[zs.size - 1 - i]? = some v) acc zs.size → G (.ok (.ret out)) { s with heap := g, toks := tk }) :
    wpAny (model prog w) A.in1 (Builtin.List.listExtendWith (.ref D) (.ref r) out)
      (fun z t => match z with | .done f => G (.ok f) t | .again c => c.quiet = true ∧ codeAny (model prog w) A c G t) (fun e t => G (.error e) t) s := by
  have V := (Walks.listRev (prog := prog) (w := w) (A := A.in1) hn0 r l hd zs).toS
  have hDr : D ≠ r := fun q => by
    obtain ⟨o, ho, hc, _⟩ := id hr
    rw [q, ho] at hD
    rw [Option.some.inj hD] at hc
    simp at hc
  have hout : D ∉ [r, l] := by
    intro hm
    rcases List.mem_cons.mp hm with q | q
    · exact hDr q
    · exact hDl (List.mem_singleton.mp q)
  have hT : s.TypeIs (.ref r) "list_reverseiterator" := hr.typeIs
  have hsame : Builtin.List.listSameRef (.ref D) (.ref r) = false := by simp [Builtin.List.listSameRef, hDr]
  unfold Builtin.List.listExtendWith
  refine wpAny_bind (wpAny_typeOf hT ?_)
  rw [if_neg (by rw [hsame]; decide)]
  refine wpAny_bind (wpAny_pyIter_revIter hr ?_)
  refine wpAny_bind (wpAny_holding ?_)
  unfold Builtin.List.listLengthHint
  refine wpAny_bind (wpAny_specialOf hT nolen_lri ?_)
  show wpAny _ A.in1 (specialOf (Value.ref r) (Str.ofString "__length_hint__") >>= _) _ _ s
  refine wpAny_bind (wpAny_specialOf hT hint_lri ?_)
  generalize hq : ("list_reverseiterator.__length_hint__" : String) = nm
  wp_delta
  rw [show splitId nm = some ("list_reverseiterator", "__length_hint__") from by subst hq; decide +kernel]
  subst hq
  refine wpAny_bind (wpAny_isInstance (b := true) hT (by rw [isSubtype_type]; kernel_rfl) ?_)
  refine wpAny_pure ?_
  rw [if_neg (by decide)]
  have z0 : ((zs.size : Nat) : Int) - 1 - ((0 : Nat) : Int) = (zs.size : Int) - 1 := by omega
  refine wpAny_pure ⟨plainId_quiet F.plain_extend_loop _, codeAny_extend_loopS V hz D hout out zs.size 0 _ _ _ rfl (Nat.zero_le _) ⟨Nat.zero_le _, by rw [z0]; exact hr, hL⟩ hD (ItemsOf.nil _) fun t acc c1 mv hD1 hacc => ?_⟩
  rw [Moved.eq_with mv]
  refine fin t.heap t.toks acc c1 (fun b o hb hbr e => mv.heap b o (fun hm => ?_) e) hD1 hacc
  rcases List.mem_cons.mp hm with q | q
  · exact hb q
  · exact hbr (List.mem_singleton.mp q)
theorem fill_rev {G : Result → Shared → Prop} {r l : Addr} {zs : Array Value} (hn0 : A.handled = none) (hr : s.heap.IsRevIter r l ((zs.size : Int) - 1)) (hL : s.heap.IsList l zs) (hd : l ≠ r) (hz : zs.size ≤ sizeLine)
    (D : Addr) (hD : s.heap.get? D = some { cls := .type "list", data := .seq #[] }) (hDl : D ≠ l) (hDr : D ≠ r)
    (fin : ∀ g tk acc c1, (∀ b o, b ≠ D → b ≠ r → s.heap.get? b = some o → g.get? b = some o) → g.get? D = some { cls := .type "list", dict := none, data := .seq acc c1, slots := #[] } →
      ItemsOf (fun i v => zs[zs.size - 1 - i]? = some v) acc zs.size → G (.ok (.ret .none)) { s with heap := g, toks := tk }) :
    wpAny (model prog w) A.in1 (Builtin.«list.__init__» ⟨[.ref D, .ref r], []⟩)
      (fun z t => match z with | .done f => G (.ok f) t | .again c => c.quiet = true ∧ codeAny (model prog w) A c G t) (fun e t => G (.error e) t) s := by
  show wpAny _ _ (do
    let was ← Builtin.List.listItems (.ref D)
    Builtin.List.listUpdate (.ref D) (fun _ => #[])
    letGo was.toList.reverse
    Builtin.List.listExtendWith (.ref D) (.ref r) .none) _ _ s
  refine wpAny_bind ?_
  unfold Builtin.List.listItems
  refine wpAny_bind (wpAny_seqItems hD rfl (wpAny_pure ?_))
  show wpAny _ _ (updateSeq D (fun _ => #[]) >>= fun _ => letGo (#[] : Array Value).toList.reverse >>= fun _ =>
    Builtin.List.listExtendWith (.ref D) (.ref r) .none) _ _ s
  refine wpAny_bind (wpAny_updateSeq hD rfl ?_)
  have hD2 := Heap.get?_update_self (Obj.mapSeq (fun _ => (#[] : Array Value))) hD rfl
  have kp : ∀ b o, b ≠ D → s.heap.get? b = some o → (s.heap.update D (Obj.mapSeq fun _ => (#[] : Array Value))).get? b = some o := fun b o hb e =>
    (Heap.get?_update_other _ _ (Ne.symm hb)).trans e
  refine wpAny_bind (wpAny_letGo ?_)
  refine grow_rev hn0 (hr.at fun o e => kp r o hDr.symm e) (hL.at fun o e => kp l o hDl.symm e) hd hz D .none _ hD2 hDl fun g tk acc c1 hk hD1 hacc => ?_
  exact fin g tk acc c1 (fun b o hb hbr e => hk b o hb hbr (kp b o hb e)) hD1 hacc
theorem call_list_rev {Q : Value → Shared → Prop} {r l : Addr} {zs : Array Value} (hn0 : A.handled = none) (hr : s.heap.IsRevIter r l ((zs.size : Int) - 1)) (hL : s.heap.IsList l zs) (hd : l ≠ r) (hz : zs.size ≤ sizeLine)
    (fin : ∀ g tk acc c1, (∀ b o, b ≠ r → s.heap.get? b = some o → g.get? b = some o) → g.get? s.heap.objs.size = some { cls := .type "list", dict := none, data := .seq acc c1, slots := #[] } →
      ItemsOf (fun i v => zs[zs.size - 1 - i]? = some v) acc zs.size → Q (.ref s.heap.objs.size) { s with heap := g, toks := tk }) :
    wpAny (model prog w) A (call (.type "list") [.ref r]) Q E s := by
  refine callType_codes (Q₁ := fun ob t => ob = .ref s.heap.objs.size ∧ t = { s with heap := s.heap.push { cls := .type "list", data := .seq #[] } }) F.called_list (F.typeCall_list_1 _) F.entry_list_init
    (code_list_new _ ⟨rfl, rfl⟩) fun ob t ht => ?_
  obtain ⟨rfl, rfl⟩ := ht
  obtain ⟨o1, ho1, _⟩ := id hr
  obtain ⟨o2, ho2, _⟩ := id hL
  have hD : (s.heap.push { cls := .type "list", data := .seq #[] }).get? s.heap.objs.size = some { cls := .type "list", data := .seq #[] } := Heap.get?_push_size _ rfl
  refine ⟨⟨_, hD, rfl⟩, F.args_list_init_2 _ _, fill_rev (A := A.in1) hn0 (hr.at fun o e => Heap.get?_push_of_some _ e) (hL.push _) hd hz _ hD (Nat.ne_of_gt (Heap.lt_size ho2)) (Nat.ne_of_gt (Heap.lt_size ho1)) fun g tk acc c1 hk hD1 hacc => ?_⟩
  exact ⟨rfl, fin g tk acc c1 (fun b o hbr e => hk b o (Nat.ne_of_lt (Heap.lt_size e)) hbr (Heap.get?_push_of_some _ e)) hD1 hacc⟩
end
/-- list(reversed(x)), x a list: what is wanted -/
def tLR (K : PySem.W.Frag) (te : TE) : TE := fun σ H Q => te σ H fun v H1 => ∃ (a : Addr) (xs : List V), v = .ref a ∧ SqL K H1 a xs ∧ ∀ q, H1 q = none → Q (.ref q) (upd H1 q (.lst xs.reverse))
section
variable {X : Cx}
theorem pe_listRev {e : Expr} {te : TE} {p p2 pos pos2 : Pos} (hc : X.calm = true) (hg : Gl X "list") (hm : X.mg "list" = none) (hg2 : Gl X "reversed") (hm2 : X.mg "reversed" = none) (he : PE X e te)
    (hs : starEach [e] X.env = (false, eval e X.env) :: starEach [] X.env := by rfl)
    (hs2 : starEach [.Call (.Name "reversed" p2) [e] [] pos2] X.env = (false, eval (.Call (.Name "reversed" p2) [e] [] pos2) X.env) :: starEach [] X.env := by rfl) :
    PE X (.Call (.Name "list" p) [.Call (.Name "reversed" p2) [e] [] pos2] [] pos) (tLR X.K te) := by
  refine ⟨fun pins s σ H Q I h => ?_⟩
  refine Call_ (ld_blt I hg hm PyProof.Rows.boot_list (PyProof.Rows.callWith_type1 (args_cons (Call_ (ld_blt I hg2 hm2 PyProof.Rows.boot_reversed
    (PyProof.Rows.callWith_type1 (args_cons (thn (he.run pins s σ H _ I h) fun u s1 ⟨v, H1, I1, r1, q1⟩ => args_nil ?_) hs) hs rfl))) hs2) hs2 rfl))
  obtain ⟨a, xs, ev, hq, q⟩ := q1
  subst ev
  obtain rfl : u = Value.ref a := r1
  obtain ⟨its, rv, pl, hz⟩ := I1.list hq
  refine call_reversed_list pl.isList (args_nil ?_)
  have k0 : ∀ b o, s1.heap.get? b = some o → (s1.heap.push (revObj a ((its.toArray.size : Int) - 1))).get? b = some o := fun b o e => Heap.get?_push_of_some _ e
  have J : Inv X pins σ H1 { s1 with heap := s1.heap.push (revObj a ((its.toArray.size : Int) - 1)) } := I1.kept (t' := s1.toks) k0
  obtain ⟨f0, f1, f2, f3, f4, f5⟩ := I1.fpOk (H' := H1) (b := s1.heap.objs.size) (Nat.le_refl _) (I1.hok.fresh (Nat.le_refl _))
  have hl := pl.isList
  obtain ⟨ol, hol, _⟩ := id hl
  have hne : a ≠ s1.heap.objs.size := Nat.ne_of_lt (Heap.lt_size hol)
  have hn : its.toArray.size ≤ sizeLine := by
    rw [List.size_toArray, ← rv.length]
    exact hz
  refine call_list_rev (s := { s1 with heap := s1.heap.push (revObj a ((its.toArray.size : Int) - 1)) }) (I1.ok.hd hc) ⟨_, Heap.get?_push_size _ rfl, rfl, rfl⟩ (hl.push _) hne hn fun g tk acc c1 hk hg1 hi => ?_
  obtain ⟨g2, e1, e2⟩ := restrict g fun b => decide (b ≠ (s1.heap.push (revObj a ((its.toArray.size : Int) - 1))).objs.size)
  have eD := e2 _ (decide_eq_false fun z => z rfl)
  have up : ∀ b o, g2.get? b = some o → g.get? b = some o := fun b o e => by
    by_cases q : b = (s1.heap.push (revObj a ((its.toArray.size : Int) - 1))).objs.size
    · rw [q, eD] at e
      cases e
    · rw [← e1 b (decide_eq_true q)]
      exact e
  have I3 : Inv X pins σ H1 { s1 with heap := g2, toks := tk } := J.turned (t' := tk) (fun b o hb e => by
    rw [e1 b (decide_eq_true (Nat.ne_of_lt (Heap.lt_size e)))]
    exact hk b o hb e) f0 f1 f3 f4 f5
  have hfree : H1 (s1.heap.push (revObj a ((its.toArray.size : Int) - 1))).objs.size = none := J.hok.fresh (Nat.le_refl _)
  exact ⟨.ref _, upd H1 _ (.lst xs.reverse), I3.laidN (t' := tk) up eD hfree (show ObjOk X.prog X.w _ _ _ (.lst xs.reverse) from ⟨by rw [List.length_reverse]; exact hz, acc.toList, c1, vals_rev rv hi, by rw [Array.toArray_toList]; exact hg1⟩), rfl, q _ hfree⟩
end
end Rx
/-! a def by its name, its promise by its name -/
namespace Kt
open PySem PySem.Spec PyProof.Rows L2
structure At (K : PySem.W.Frag) (mg : Str → Option Value) (x : Str) (st : Stmt) : Prop where
  ex : ∃ f fd, Fun K x x st f fd ∧ mg x = some (.ref f)
structure Prom (P : Program) (w : World) (K : PySem.W.Frag) (mg : Str → Option Value) (base : Heap) (CX : CXT) (k : Nat) (x : Str) (ps : List Str) (sp : Sp) : Prop where
  ex : ∃ f fd, mg x = some (.ref f) ∧ PySem.W.keepIn K (.ref f) = true ∧ Binds K fd ps [] ∧ FnOk P w K mg base CX k f fd ps sp ∧ ∃ st, Fun K x x st f fd
structure ExcAt (K : PySem.W.Frag) (mg : Str → Option Value) (x : Str) (C : Addr) : Prop where
  g : mg x = some (.ref C)
  x : PySem.W.excIn K C [.type "ValueError", .type "Exception", .type "BaseException", .type "object"] "ValueError.__new__" = true
  k : PySem.W.keepIn K (.ref C) = true
  b : PySem.W.subIn K (.ref C) (.type "BaseException") = some true
  t : PySem.W.typeIn K (.ref C) = some (.type "type")
  c : ExcC K C
section
variable {P : Program} {w : World} {K : PySem.W.Frag} {mg : Str → Option Value} {base : Heap} {x : Str} {st : Stmt} {N ps : List Str} {k : Nat} {sp : Sp}
abbrev BindH (st : Stmt) (x : Str) (ps : List Str) : Prop := ∀ (kV doc pm : Value) (an : Option Addr) (cdv ct : Value) (us : List Value), us.length = ps.length → bindArgs (PySem.W.fnOf x x (defArgs st) (defBody st) (defScope st) .none kV doc pm an cdv ct) ⟨us, []⟩ = pure (ps.zip us)
theorem At.ok (D : At K mg x st) (S : FnScope N ps (defScope st)) (hb : BindH st x ps) (len : ∀ vs H Q E, sp vs H Q E → vs.length = ps.length)
    (body : ∀ (f : Addr) (cdv : Value) (A : Around) (outer : List Env) (s : Shared) (H : Hp) (vs : List V) (Q : VK) (E : XK), Room k (A.deeper (envOfC x (defScope st) s.heap.objs.size f cdv)) → sp vs H Q E →
      ∃ t, PSs (cxOf CX0 P w K mg base N x (defScope st) f cdv A outer s H E).nox (defBody st) t ∧ t { nx := fun _ H' => Q .non H', rt := Q } (start N vs) H) : Prom P w K mg base CX0 (k + 1) x ps sp := by
  obtain ⟨f, fd, F, g⟩ := D.ex
  exact ⟨f, fd, g, F.kp, F.binds hb, F.ok S len (body f), _, F⟩
theorem At.okX (D : At K mg x st) (S : FnScope N ps (defScope st)) (hb : BindH st x ps) (len : ∀ vs H Q E, sp vs H Q E → vs.length = ps.length)
    (body : ∀ (f : Addr) (cdv : Value) (A : Around) (outer : List Env) (s : Shared) (H : Hp) (vs : List V) (Q : VK) (E : XK), Room k (A.deeper (envOfC x (defScope st) s.heap.objs.size f cdv)) → sp vs H Q E →
      ∃ t, PSs (cxOf (L2.CX P w) P w K mg base N x (defScope st) f cdv A outer s H E) (defBody st) t ∧ t { nx := fun _ H' => Q .non H', rt := Q } (start N vs) H) : Prom P w K mg base (L2.CX P w) (k + 1) x ps sp := by
  obtain ⟨f, fd, F, g⟩ := D.ex
  exact ⟨f, fd, g, F.kp, F.binds hb, F.okX S len (body f), _, F⟩
theorem at_mk {h : Heap} {f : Addr} {oc : Value} {od an : Option Addr} {osl : Array (Option Value)} {kV doc pm cdv ct : Value} (X : K.In h) (G : h.Ns mainGlobals mg) (a : PySem.W.nsIn K mainGlobals x = some (some (.ref f)))
    (l : K.lookup f = some ⟨oc, od, .func (PySem.W.fnOf x x (defArgs st) (defBody st) (defScope st) .none kV doc pm an cdv ct), osl⟩) (c : PySem.W.codeIn K cdv x = true) (k : PySem.W.keepIn K (.ref f) = true) : At K mg x st :=
  ⟨f, _, fun_mk l c k, PySem.W.mg_of X G a⟩
end
section
variable {X : Cx} {CX : CXT} {j k : Nat} {x : Str} {ps : List Str} {sp : Sp} {E : XK} {W : WX} {p pos : Pos} {e : Expr} {es : List Expr} {t : TA}
/-- a call of a def that raises nothing -/
theorem pcall (hr : Room k X.A) (F : Prom X.prog X.w X.K X.mg X.base CX0 j x ps sp) (ha : PA X (e :: es) t) (hg : Gl X x := by rfl) (hj : j ≤ k := by decide) (hdb : (x == ("__debug__" : Str)) = false := by decide)
    (he : starEach (e :: es) X.env = (false, eval e X.env) :: starEach es X.env := by rfl) (hpl : (backTo pos (starEach es X.env)).any (·.1) = false := by rfl) : PE X (.Call (.Name x p) (e :: es) [] pos) (tCall sp [] E0 t) := by
  obtain ⟨f, fd, g, kp, b, G, _⟩ := F.ex
  exact pe_call G (hr.mono hj) hg g kp b .nil pass0 ha hdb he hpl
/-- a call of a def that may raise, here it does not -/
theorem pcallN (hr : Room k X.A) (F : Prom X.prog X.w X.K X.mg X.base (L2.CX X.prog X.w) j x ps sp) (ha : PA X (e :: es) t) (hg : Gl X x := by rfl) (hj : j ≤ k := by decide) (hdb : (x == ("__debug__" : Str)) = false := by decide)
    (he : starEach (e :: es) X.env = (false, eval e X.env) :: starEach es X.env := by rfl) (hpl : (backTo pos (starEach es X.env)).any (·.1) = false := by rfl) : PE X (.Call (.Name x p) (e :: es) [] pos) (tCall sp [] E0 t) := by
  obtain ⟨f, fd, g, kp, b, G, _⟩ := F.ex
  exact pe_call G (hr.mono hj) hg g kp b .nil passL ha hdb he hpl
/-- a call of a def that may raise, within a def that may, or in a try: what is raised is wished at the slots -/
theorem pcallX (hr : Room k X.A) (F : Prom X.prog X.w X.K X.mg X.base (L2.CX X.prog X.w) j x ps sp) (tk : Takes X W) (ha : PA X (e :: es) t) (hg : Gl X x := by rfl) (hj : j ≤ k := by decide) (hdb : (x == ("__debug__" : Str)) = false := by decide)
    (he : starEach (e :: es) X.env = (false, eval e X.env) :: starEach es X.env := by rfl) (hpl : (backTo pos (starEach es X.env)).any (·.1) = false := by rfl) : PE X (.Call (.Name x p) (e :: es) [] pos) (tCallS sp (WE W) t) := by
  obtain ⟨f, fd, g, kp, b, G, _⟩ := F.ex
  exact pe_callS G (hr.mono hj) hg g kp b (fun σ => passAt tk σ) ha hdb he hpl
end
theorem pe_gi {X : Cx} {x : Str} {n : Int} {t : Tok} {pos : Pos} (hm : X.mg x = some (.int n t)) (hg : Gl X x := by rfl) (hdb : (x == ("__debug__" : Str)) = false := by decide) : PE X (.Name x pos) (tC (.int n)) := pe_glob (hd := hdb) hg hm ⟨_, rfl⟩
/-- what a def of one's own frame lets out -/
abbrev wOut (E : XK) : WX := fun cls d _ H => E cls d H
end Kt
namespace Kt
open PySem PySem.Spec PyProof.Rows L2
/-- a promise that is never asked -/
theorem At.never {P : Program} {w : World} {K : PySem.W.Frag} {mg : Str → Option Value} {base : Heap} {x : Str} {st : Stmt} {ps : List Str} {CX : CXT} (D : At K mg x st) (hb : BindH st x ps) : Prom P w K mg base CX 0 x ps (fun _ _ _ _ => False) := by
  obtain ⟨f, fd, F, g⟩ := D.ex
  exact ⟨f, fd, g, F.kp, F.binds hb, ⟨fun _ _ _ _ z => z.elim, fun _ _ _ _ _ _ _ _ _ _ _ _ _ z => z.elim⟩, _, F⟩
/-- a turn of a comprehension without a test -/
theorem lcy {σ : L2.St} {H : Hp} {A B : Bool → Hp → Prop} (h : A true H) : tYes σ H fun b H3 => if b = true then A b H3 else B b H3 := by
  show (if true = true then A true H else B true H)
  rw [if_pos rfl]
  exact h
/-- a comprehension over a range with a step -/
theorem lc_rngC {lo c : Int} {n : Nat} {g : TG} {tt : TT} {te : TE} {vs : List Nat} {σ : L2.St} {H1 : Hp} {D : Addr} {Qd : Hp → Prop} (Pv : Nat → Hp → Prop) (start : Pv 0 (upd H1 D (.lst [])))
    (turn : ∀ i H, i < n → Pv i H → g (.int (lo + (i : Nat) * c)) (wipe σ vs) H fun σ2 H2 => wipe σ2 vs = wipe σ vs ∧ tt σ2 H2 fun b H3 =>
      if b = true then te σ2 H3 fun y H4 => ∃ acc, H4 D = some (.lst acc) ∧ acc.length < sizeLine ∧ Pv (i + 1) (upd H4 D (.lst (acc ++ [y]))) else Pv (i + 1) H3) (fin : ∀ H, Pv n H → Qd H) :
    ∃ W : Nat → Nat → Hp → Prop, (∃ m, W 0 m (upd H1 D (.lst []))) ∧ ∀ i m H, W i m H →
      ((Itc lo c n).stop i H ∧ Qd H) ∨ ((Itc lo c n).go i H ∧ ∃ Nx : Hp → Prop, (∀ H', Nx H' → ∃ m', m' < m ∧ W (i + 1) m' H') ∧ ∀ x H', (Itc lo c n).yld i H x H' → g x (wipe σ vs) H' fun σ2 H2 => wipe σ2 vs = wipe σ vs ∧ tt σ2 H2 fun b H3 =>
        if b = true then te σ2 H3 fun y H4 => ∃ acc, H4 D = some (.lst acc) ∧ acc.length < sizeLine ∧ Nx (upd H4 D (.lst (acc ++ [y]))) else Nx H3) := by
  refine ⟨fun j k G => k = n - j ∧ j ≤ n ∧ Pv j G, ⟨n, by simp, Nat.zero_le _, start⟩, ?_⟩
  rintro j k G ⟨rfl, hj, pj⟩
  by_cases lt : j < n
  · refine .inr ⟨lt, Pv (j + 1), fun G' p' => ⟨n - (j + 1), by omega, rfl, lt, p'⟩, fun v G' yy => ?_⟩
    obtain ⟨e1, e2⟩ := yy
    subst e1 e2
    exact turn j _ lt pj
  · have ej : j = n := by omega
    subst ej
    exact .inl ⟨Nat.le_refl _, fin G pj⟩
/-- range(0, y, c) -/
theorem rgc {y c : Int} (h0 : 0 ≤ y) (h1 : y < 2 ^ 40) (c1 : 1 ≤ c) (c2 : c < 1000000000) : RgC 0 y c ((y + c - 1) / c).toNat := by
  have q := rangeSize_pos (len := y) (c := c) c1 h0
  have z : 0 ≤ (y + c - 1) / c := Int.ediv_nonneg (by omega) (by omega)
  have z2 : (y + c - 1) / c ≤ y + c - 1 := Int.ediv_le_self c (by omega)
  refine ⟨by omega, by omega, ?_, by rw [q]; omega⟩
  unfold Builtin.Range.small
  rw [q]
  simp only [Builtin.Range.rangeFitsLong, Bool.and_eq_true, Bool.or_eq_true, decide_eq_true_eq, beq_iff_eq]
  generalize (y + c - 1) / c = d at z z2
  rw [if_pos (show c > 0 by omega)]
  exact ⟨by omega, .inr (by rw [Bool.and_eq_true, decide_eq_true_eq, decide_eq_true_eq]; omega)⟩
/-! plain data -/
inductive Dd where
  | non | bl (b : Bool) | int (i : Int) | str (s : Str) | tup (xs : List Dd) | lst (xs : List Dd)
mutual
def Rep (H : Hp) : Dd → V → Prop
  | .non, v => v = .non
  | .bl b, v => v = .bl b
  | .int i, v => v = .int i
  | .str s, v => v = .str s
  | .tup ds, v => ds.length ≤ 1000000 ∧ ∃ a xs, v = .ref a ∧ H a = some (.tup xs) ∧ RepL H ds xs
  | .lst ds, v => ds.length ≤ 1000000 ∧ ∃ a xs, v = .ref a ∧ H a = some (.lst xs) ∧ RepL H ds xs
def RepL (H : Hp) : List Dd → List V → Prop
  | [], xs => xs = []
  | d :: ds, xs => ∃ v r, xs = v :: r ∧ Rep H d v ∧ RepL H ds r
end
mutual
def dep : Dd → Nat
  | .tup ds => depL ds + 1
  | .lst ds => depL ds + 1
  | _ => 0
def depL : List Dd → Nat
  | [] => 0
  | d :: ds => max (dep d) (depL ds)
end
theorem RepL.len {H : Hp} : ∀ {ds : List Dd} {xs : List V}, RepL H ds xs → xs.length = ds.length
  | [], xs, h => by
    unfold RepL at h
    subst h
    rfl
  | d :: ds, xs, h => by
    unfold RepL at h
    obtain ⟨v, r, rfl, _, h2⟩ := h
    rw [List.length_cons, List.length_cons, RepL.len h2]
theorem RepL.at {H : Hp} : ∀ {ds : List Dd} {xs : List V} (i : Nat), RepL H ds xs → i < ds.length → ∃ d v, ds[i]? = some d ∧ xs[i]? = some v ∧ Rep H d v ∧ dep d ≤ depL ds
  | [], _, _, _, hi => absurd hi (Nat.not_lt_zero _)
  | d :: ds, xs, i, h, hi => by
    unfold RepL at h
    obtain ⟨v, r, rfl, h1, h2⟩ := h
    cases i with
    | zero => exact ⟨d, v, rfl, rfl, h1, by unfold depL; exact Nat.le_max_left _ _⟩
    | succ i =>
      obtain ⟨d', v', e1, e2, h3, h4⟩ := RepL.at i h2 (by rw [List.length_cons] at hi; omega)
      exact ⟨d', v', e1, e2, h3, by unfold depL; exact Nat.le_trans h4 (Nat.le_max_right _ _)⟩
def Dd.ty : Dd → String
  | .non => "NoneType"
  | .bl _ => "bool"
  | .int _ => "int"
  | .str _ => "str"
  | .tup _ => "tuple"
  | .lst _ => "list"
def Dd.isTup : Dd → Bool
  | .tup _ => true
  | _ => false
def Dd.isLst : Dd → Bool
  | .lst _ => true
  | _ => false
def Dd.isBl : Dd → Bool
  | .bl _ => true
  | _ => false
def Dd.isInt : Dd → Bool
  | .bl _ => true
  | .int _ => true
  | _ => false
def Dd.isStr : Dd → Bool
  | .str _ => true
  | _ => false
theorem Rep.tyx {K : PySem.W.Frag} {H : Hp} {d : Dd} {v : V} (h : Rep H d v) : TyX K H v (.type d.ty) := by
  cases d with
  | non => unfold Rep at h; subst h; exact .base .non
  | bl b => unfold Rep at h; subst h; exact .base (.bl b)
  | int i => unfold Rep at h; subst h; exact .base (.int i)
  | str s => unfold Rep at h; subst h; exact .base (.str s)
  | tup ds => unfold Rep at h; obtain ⟨_, a, xs, rfl, e, _⟩ := h; exact .base (.tup e)
  | lst ds => unfold Rep at h; obtain ⟨_, a, xs, rfl, e, _⟩ := h; exact .base (.lst e)
theorem kit_tuple {K : PySem.W.Frag} (d : Dd) : PySem.W.kitOne K (.type d.ty) (.type "tuple") = some d.isTup := match d with
  | .non => kit_ty (show kitB "NoneType" "tuple" = some false by decide +kernel)
  | .bl _ => kit_ty (show kitB "bool" "tuple" = some false by decide +kernel)
  | .int _ => kit_ty (show kitB "int" "tuple" = some false by decide +kernel)
  | .str _ => kit_ty (show kitB "str" "tuple" = some false by decide +kernel)
  | .tup _ => kit_ty (show kitB "tuple" "tuple" = some true by decide +kernel)
  | .lst _ => kit_ty (show kitB "list" "tuple" = some false by decide +kernel)
theorem kit_list {K : PySem.W.Frag} (d : Dd) : PySem.W.kitOne K (.type d.ty) (.type "list") = some d.isLst := match d with
  | .non => kit_ty (show kitB "NoneType" "list" = some false by decide +kernel)
  | .bl _ => kit_ty (show kitB "bool" "list" = some false by decide +kernel)
  | .int _ => kit_ty (show kitB "int" "list" = some false by decide +kernel)
  | .str _ => kit_ty (show kitB "str" "list" = some false by decide +kernel)
  | .tup _ => kit_ty (show kitB "tuple" "list" = some false by decide +kernel)
  | .lst _ => kit_ty (show kitB "list" "list" = some true by decide +kernel)
theorem kit_bool {K : PySem.W.Frag} (d : Dd) : PySem.W.kitOne K (.type d.ty) (.type "bool") = some d.isBl := match d with
  | .non => kit_ty (show kitB "NoneType" "bool" = some false by decide +kernel)
  | .bl _ => kit_ty (show kitB "bool" "bool" = some true by decide +kernel)
  | .int _ => kit_ty (show kitB "int" "bool" = some false by decide +kernel)
  | .str _ => kit_ty (show kitB "str" "bool" = some false by decide +kernel)
  | .tup _ => kit_ty (show kitB "tuple" "bool" = some false by decide +kernel)
  | .lst _ => kit_ty (show kitB "list" "bool" = some false by decide +kernel)
theorem kit_int {K : PySem.W.Frag} (d : Dd) : PySem.W.kitOne K (.type d.ty) (.type "int") = some d.isInt := match d with
  | .non => kit_ty (show kitB "NoneType" "int" = some false by decide +kernel)
  | .bl _ => kit_ty (show kitB "bool" "int" = some true by decide +kernel)
  | .int _ => kit_ty (show kitB "int" "int" = some true by decide +kernel)
  | .str _ => kit_ty (show kitB "str" "int" = some false by decide +kernel)
  | .tup _ => kit_ty (show kitB "tuple" "int" = some false by decide +kernel)
  | .lst _ => kit_ty (show kitB "list" "int" = some false by decide +kernel)
theorem kit_str {K : PySem.W.Frag} (d : Dd) : PySem.W.kitOne K (.type d.ty) (.type "str") = some d.isStr := match d with
  | .non => kit_ty (show kitB "NoneType" "str" = some false by decide +kernel)
  | .bl _ => kit_ty (show kitB "bool" "str" = some false by decide +kernel)
  | .int _ => kit_ty (show kitB "int" "str" = some false by decide +kernel)
  | .str _ => kit_ty (show kitB "str" "str" = some true by decide +kernel)
  | .tup _ => kit_ty (show kitB "tuple" "str" = some false by decide +kernel)
  | .lst _ => kit_ty (show kitB "list" "str" = some false by decide +kernel)
/-- isinstance(e, c), e the error that the suite holds; its class is told by the reading -/
def rIsG (K : PySem.W.Frag) (cls : Value) (d : Option Addr) (a : Addr) : List V → Hp → VK → Prop := fun xs H Q => ∃ (D : Addr), cls = .ref D ∧ d = none ∧ ExcC K D ∧ rIsE K D a xs H Q
theorem call_isG {X : Cx} {a : Addr} {cls : Value} {d : Option Addr} {oe : Obj} {pn : List (Addr × Obj)} (hz : Zc cls d oe) (hf : ∃ vs, oe.data = .fields vs) : CallR (X.suite a ((a, oe) :: pn)) (.builtin "isinstance") (rIsG X.K cls d a) := by
  intro pins s σ H xs us Q I r h
  obtain ⟨D, rfl, rfl, C, h⟩ := h
  exact call_isE C hz hf pins s σ H xs us Q I r h
theorem kit_self {K : PySem.W.Frag} (D : Addr) : PySem.W.kitOne K (.ref D) (.ref D) = some true := by
  unfold PySem.W.kitOne
  rw [if_pos (by simp)]
/-- except C, the error's class D below it -/
theorem exm_up {K : PySem.W.Frag} {C D : Addr} {mg : Str → Option Value} {x : Str} (c : ExcAt K mg x C) (h : PySem.W.subIn K (.ref D) (.ref C) = some true) : PySem.W.exmOne K (.ref D) (.ref C) = some true :=
  PySem.W.exm_ref c.b c.c.hd c.t h
/-- a law's own promise, over every base -/
theorem law_end {P : Program} {w : World} {K : PySem.W.Frag} {mg : Str → Option Value} {fa : Addr} {st : Stmt} {k : Nat} {sp : Sp} {x p : Str} (D : At K mg x st) (hb : BindH st x [p]) (hfa : mg x = some (.ref fa))
    (F : ∀ base : Heap, Prom P w K mg base CX0 k x [p] sp) :
    ∃ fd : FuncData, (∀ (s : Shared) (v : Value), BindsTo s fd ⟨[v], []⟩ [(p, v)]) ∧ ∀ base : Heap, K.In base → base.Ns mainGlobals mg → FnOk P w K mg base CX0 k fa fd [p] sp := by
  obtain ⟨f, fd, F0, g⟩ := D.ex
  have e : f = fa := by
    rw [g] at hfa
    cases hfa
    rfl
  subst e
  obtain ⟨oc, od, kV, doc, pm, an, cdv, ct, osl, e1, lk, hcd⟩ := F0.ex
  refine ⟨fd, fun s v => .of_eq (by rw [e1]; exact hb kV doc pm an cdv ct [v] rfl), fun base _ _ => ?_⟩
  obtain ⟨f', fd', g', _, _, G', st', F'⟩ := (F base).ex
  have e2 : f' = f := by
    rw [g'] at g
    cases g
    rfl
  subst e2
  obtain ⟨_, _, _, _, _, _, _, _, _, _, lk', _⟩ := F'.ex
  have e3 : fd' = fd := by
    rw [lk] at lk'
    cases lk'
    rfl
  subst e3
  exact G'
theorem tup_mk {K : PySem.W.Frag} {a : Addr} {od : Option Addr} {its : Array Value} {n : Nat} {sl : Array (Option Value)} {xs : List V} (l : K.lookup a = some ⟨.type "tuple", od, .seq its n, sl⟩) (hz : its.size ≤ sizeLine) (v : Vals xs its.toList) (H : Hp) : SqT K H a xs :=
  .inr ⟨_, its, n, l, rfl, rfl, hz, v⟩
theorem exc_mk {K : PySem.W.Frag} {h : Heap} {mg : Str → Option Value} {x : Str} {C : Addr} (X : K.In h) (G : h.Ns mainGlobals mg) (a : PySem.W.nsIn K mainGlobals x = some (some (.ref C)))
    (q : PySem.W.excIn K C [.type "ValueError", .type "Exception", .type "BaseException", .type "object"] "ValueError.__new__" = true) (k : PySem.W.keepIn K (.ref C) = true) (b : PySem.W.subIn K (.ref C) (.type "BaseException") = some true) (t : PySem.W.typeIn K (.ref C) = some (.type "type"))
    (hg : PySem.W.findIn K (.ref C) "__getattribute__" = some (some (.builtin "BaseException.__getattribute__"))) (hk : PySem.W.findIn K (.ref C) "__getattr__" = some none) (hd : PySem.W.hasDictIn K C = true)
    (ha : PySem.W.findIn K (.ref C) "__class__" = some (some (.builtin "object.__class__"))) (hn : PySem.W.specialIn K (.builtin "object.__class__") "__get__" = some (some (.builtin "getset_descriptor.__get__")))
    (ht : PySem.W.takesIn K (.builtin "object.__class__") = some true) (hm : PySem.W.mroIn K C (.type "object") = some true) : ExcAt K mg x C :=
  ⟨PySem.W.mg_of X G a, q, k, b, t, ⟨hg, hk, b, hd, ha, hn, ht, hm⟩⟩
/-- the written part that a fact speaks of -/
abbrev kOf {K : PySem.W.Frag} {h : Heap} (_ : K.In h) : PySem.W.Frag := K
theorem int_mk {K : PySem.W.Frag} {h : Heap} {mg : Str → Option Value} {x : Str} {n : Int} {t : Tok} (X : K.In h) (G : h.Ns mainGlobals mg) (a : PySem.W.nsIn K mainGlobals x = some (some (.int n t))) : ∃ t, mg x = some (.int n t) := ⟨t, PySem.W.mg_of X G a⟩
theorem tupg_mk {K : PySem.W.Frag} {h : Heap} {mg : Str → Option Value} {x : Str} {a : Addr} {od : Option Addr} {its : Array Value} {n : Nat} {sl : Array (Option Value)} {xs : List V} (X : K.In h) (G : h.Ns mainGlobals mg)
    (e : PySem.W.nsIn K mainGlobals x = some (some (.ref a))) (l : K.lookup a = some ⟨.type "tuple", od, .seq its n, sl⟩) (hz : its.size ≤ sizeLine) (v : Vals xs its.toList) : ∃ a, mg x = some (.ref a) ∧ ∀ H, SqT K H a xs :=
  ⟨a, PySem.W.mg_of X G e, fun H => tup_mk l hz v H⟩
theorem ex_mk {α : Type} {R : α → Prop} {a : α} (h : R a) : ∃ a, R a := ⟨a, h⟩
end Kt
/-! while an error is handled: the end of a list's walk, a tuple unpacked, a comprehension over a list -/
namespace Kh
open PySem PySem.Spec PyProof.Rows L2 L2H HotX
section
variable {prog : Program} {w : World} {A : Around} {E : Value → Shared → Prop} {s : Shared}
theorem list_end_hot {it l x1 : Addr} {i : Nat} {items : Array Value} {Q : Option Value → Shared → Prop} (hot : HotAt A x1 s.heap) (hne : x1 ≠ it)
    (hit : s.heap.IsListIter it l i) (hl : s.heap.IsList l items) (hx : items[i]? = none)
    (hQ : ∀ h', Heap.ExtBut it s.heap h' → Q none { s with heap := h' }) : wpAny (model prog w) A (pyNext (.ref it)) Q E s := by
  obtain ⟨o, ho, hc, hd⟩ := id hit
  obtain ⟨ol, hol, _, nl, hdl⟩ := hl
  obtain ⟨hh, o1, vs1, h1, d1, c1⟩ := hot
  unfold pyNext
  refine wpAny_bind (wpAny_attempt (wpAny_callSpecial?_slot (name := Str.ofString "__next__") hit.typeIs slot_listiter_next
    (wpAny_call_entry slot_listiter_next hit.typeIs entry_listiter_next ?_ (args_listiter_next _))))
  show wpAny _ _ (field (.ref it) 0 >>= _) _ _ s
  refine wpAny_bind (wpAny_field ho hd (x := .ref l) rfl ?_)
  show wpAny _ _ (if (Value.ref l == Value.none) = true then _ else _) _ _ s
  rw [if_neg (show ¬ ((Value.ref l == Value.none) = true) from Bool.false_ne_true)]
  show wpAny _ _ (field (.ref it) 1 >>= _) _ _ s
  refine wpAny_bind (wpAny_field ho hd (x := .int i 0) rfl ?_)
  show wpAny _ _ (seqItems? (.ref l) >>= _) _ _ s
  refine wpAny_bind (wpAny_seqItems hol hdl ?_)
  simp only [Int.toNat_natCast, hx]
  refine wpAny_bind (wpAny_rule (wpAny_bind (wpAny_setField ho hd (by simp) ?_)))
  show wpAny _ _ (newExc (.type "StopIteration") [] >>= _) _ _ _
  refine wpAny_bind ?_
  simp only [newExc, newTuple]
  refine wpAny_bind (wpAny_newObj_type ?_ (by size_fits))
  refine wpAny_bind (m := firstArgMember _ _) (wpAny_of_eq (a := Value.none) (by first | rfl | (simp only [firstArgMember]; rfl)) ?_)
  refine wpAny_newObj_type ?_ (by size_fits)
  have h1' := (Heap.SameBut.update s.heap it (Obj.mapFields fun x => x.setIfInBounds 0 Value.none)).extBut x1 o1 hne h1
  refine raiseNew_hot ⟨hh, o1, vs1, Heap.get?_push_of_some _ (Heap.get?_push_of_some _ h1'), d1, c1⟩ (Nat.ne_of_lt (Heap.lt_size (Heap.get?_push_of_some _ h1'))) (Heap.get?_push_size _ rfl) rfl (by first | (simp; done) | (simp; omega) | (simp only [Array.size_append]; simp; omega)) ?_
  refine wpAny_bind (wpAny_isInstance (T := "StopIteration") (b := true) ⟨_, Heap.get?_update_self _ (Heap.get?_push_size _ rfl) rfl, rfl⟩ isSubtype_stop ?_)
  refine wpAny_pure (hQ _ fun b o hb e => ?_)
  have e' := (Heap.SameBut.update s.heap it (Obj.mapFields fun x => x.setIfInBounds 0 Value.none)).extBut b o hb e
  rw [Heap.get?_update_other _ _ (Nat.ne_of_gt (Heap.lt_size (Heap.get?_push_of_some _ e')))]
  exact Heap.get?_push_of_some _ (Heap.get?_push_of_some _ e')
theorem tuple_end_hot {it t x1 : Addr} {i : Nat} {items : Array Value} {Q : Option Value → Shared → Prop} (hot : HotAt A x1 s.heap) (hne : x1 ≠ it)
    (hit : IsTupIter s.heap it t i) (ht : IsTup s.heap t items) (hx : items[i]? = none)
    (hQ : ∀ h', Heap.ExtBut it s.heap h' → Q none { s with heap := h' }) : wpAny (model prog w) A (pyNext (.ref it)) Q E s := by
  obtain ⟨o, ho, hc, hd⟩ := id hit
  obtain ⟨ol, hol, _, nl, hdl⟩ := ht
  obtain ⟨hh, o1, vs1, h1, d1, c1⟩ := hot
  unfold pyNext
  refine wpAny_bind (wpAny_attempt (wpAny_callSpecial?_slot (name := Str.ofString "__next__") hit.typeIs slot_tupleiter_next
    (wpAny_call_entry slot_tupleiter_next hit.typeIs entry_tupleiter_next ?_ (args_tupleiter_next _))))
  show wpAny _ _ (field (.ref it) 0 >>= _) _ _ s
  refine wpAny_bind (wpAny_field ho hd (x := .ref t) rfl ?_)
  show wpAny _ _ (if (Value.ref t == Value.none) = true then _ else _) _ _ s
  rw [if_neg (show ¬ ((Value.ref t == Value.none) = true) from Bool.false_ne_true)]
  show wpAny _ _ (field (.ref it) 1 >>= _) _ _ s
  refine wpAny_bind (wpAny_field ho hd (x := .int i 0) rfl ?_)
  show wpAny _ _ (seqItems? (.ref t) >>= _) _ _ s
  refine wpAny_bind (wpAny_seqItems hol hdl ?_)
  simp only [Int.toNat_natCast, hx]
  refine wpAny_bind (wpAny_rule (wpAny_bind (wpAny_setField ho hd (by simp) ?_)))
  show wpAny _ _ (newExc (.type "StopIteration") [] >>= _) _ _ _
  refine wpAny_bind ?_
  simp only [newExc, newTuple]
  refine wpAny_bind (wpAny_newObj_type ?_ (by size_fits))
  refine wpAny_bind (m := firstArgMember _ _) (wpAny_of_eq (a := Value.none) (by first | rfl | (simp only [firstArgMember]; rfl)) ?_)
  refine wpAny_newObj_type ?_ (by size_fits)
  have h1' := (Heap.SameBut.update s.heap it (Obj.mapFields fun x => x.setIfInBounds 0 Value.none)).extBut x1 o1 hne h1
  refine raiseNew_hot ⟨hh, o1, vs1, Heap.get?_push_of_some _ (Heap.get?_push_of_some _ h1'), d1, c1⟩ (Nat.ne_of_lt (Heap.lt_size (Heap.get?_push_of_some _ h1'))) (Heap.get?_push_size _ rfl) rfl (by first | (simp; done) | (simp; omega) | (simp only [Array.size_append]; simp; omega)) ?_
  refine wpAny_bind (wpAny_isInstance (T := "StopIteration") (b := true) ⟨_, Heap.get?_update_self _ (Heap.get?_push_size _ rfl) rfl, rfl⟩ isSubtype_stop ?_)
  refine wpAny_pure (hQ _ fun b o hb e => ?_)
  have e' := (Heap.SameBut.update s.heap it (Obj.mapFields fun x => x.setIfInBounds 0 Value.none)).extBut b o hb e
  rw [Heap.get?_update_other _ _ (Nat.ne_of_gt (Heap.lt_size (Heap.get?_push_of_some _ e')))]
  exact Heap.get?_push_of_some _ (Heap.get?_push_of_some _ e')
theorem HotAt.ext {x1 b : Addr} {h h' : Heap} (hot : HotAt A x1 h) (hne : x1 ≠ b) (k : Heap.ExtBut b h h') : HotAt A x1 h' := by
  obtain ⟨hh, o1, vs1, h1, d1, c1⟩ := hot
  exact ⟨hh, o1, vs1, k x1 o1 hne h1, d1, c1⟩
theorem HotAt.lt {x1 : Addr} {h : Heap} (hot : HotAt A x1 h) : x1 < h.objs.size := by
  obtain ⟨hh, o1, vs1, h1, d1, c1⟩ := hot
  exact Heap.lt_size h1
theorem HotAt.push {x1 : Addr} {h : Heap} {o : Obj} (hot : HotAt A x1 h) : HotAt A x1 (h.push o) := by
  obtain ⟨hh, o1, vs1, h1, d1, c1⟩ := hot
  exact ⟨hh, o1, vs1, Heap.get?_push_of_some _ h1, d1, c1⟩
theorem unpackItems_hot {t x1 : Addr} {items : Array Value} {Q : List Value → Shared → Prop} (hot : HotAt A x1 s.heap) (ht : IsTup s.heap t items)
    (hQ : ∀ h', Heap.ExtBut s.heap.objs.size s.heap h' → Q items.toList { s with heap := h' }) : wpAny (model prog w) A (unpackItems (.ref t) items.size none) Q E s := by
  have hlt : t ≠ s.heap.objs.size := by obtain ⟨o, ho, _⟩ := ht; exact Nat.ne_of_lt (Heap.lt_size ho)
  have hx1 : x1 ≠ s.heap.objs.size := Nat.ne_of_lt (HotAt.lt hot)
  unfold unpackItems
  refine wpAny_bind ?_
  · unfold notIterableAtAll
    refine wpAny_bind (wpAny_specialOf ht.typeIs slot_tuple_iter.lookup ?_)
    refine wpAny_pure ?_
    simp only [Bool.false_eq_true, if_false]
    refine wpAny_bind (wpAny_holding (iter_tuple ht ?_))
    refine wpAny_bind (wpAny_holding (draw_tuple hlt items.size 0 _ _ ⟨_, Heap.get?_push_size _ rfl, rfl, rfl⟩ (ht.push _) (by omega) fun h₁ hit₁ hs₁ => ?_))
    have hall : List.take items.size (List.drop 0 items.toList) = items.toList := by
      rw [List.drop_zero]; exact List.take_of_length_le (by simp)
    rw [hall]
    rw [if_neg (by simp)]
    have ht₁ : IsTup h₁ t items := (ht.push _).extBut hs₁.extBut hlt
    refine wpAny_bind (wpAny_holding (tuple_end_hot (s := { s with heap := h₁ }) (x1 := x1) (HotAt.ext (HotAt.push hot) hx1 hs₁.extBut) hx1 hit₁ ht₁ (by simp) fun h₂ he₂ => ?_))
    simp only [Option.isSome_none, Bool.false_eq_true, if_false]
    refine wpAny_pure (hQ h₂ fun b o hb e => he₂ b o hb (hs₁.extBut b o hb (Heap.get?_push_of_some _ e)))
theorem assign_tup_hot {env : Env} {elts : List Expr} {k} {pos : Pos} {t x1 : Addr} {items : Array Value} {Q : Unit → Shared → Prop} (hot : HotAt A x1 s.heap) (ht : IsTup s.heap t items)
    (hn : (assignEach elts env).length = items.size) (hstar : (assignEach elts env).findIdx? (·.1) = none)
    (h : ∀ h', Heap.ExtBut s.heap.objs.size s.heap h' → wpAny (model prog w) A (assignInOrder ((assignEach elts env).map (·.2)) items.toList) Q E { s with heap := h' }) :
    wpAny (model prog w) A (assign (.Tuple elts k pos) env (.ref t)) Q E s := by
  rw [assign_Tuple]
  refine wpAny_bind (wpAny_standAt ?_)
  unfold unpack
  rw [hn, hstar]
  exact wpAny_bind (wpAny_holding (unpackItems_hot hot ht h))
end
/-- (a, b, ..) = a tuple of that length -/
theorem pg_tupH {X : Cx} {pos : Pos} {es : List Expr} {k : Nat} {t : TGs} {n : Nat} (hc : HotC X) (h : PGs X es t)
    (hn : (assignEach es X.env).length = n := by rfl) (hst : (assignEach es X.env).findIdx? (·.1) = none := by rfl) : PG X (.Tuple es k pos) (gTup X.K n t) := by
  refine ⟨fun pins s σ H v u Q I r hw => ?_⟩
  obtain ⟨a, xs, e1, hq, hl, hw⟩ := hw
  subst e1
  cases r
  obtain ⟨its, rv, ht, hz⟩ := I.tuple hq
  obtain ⟨x1, hot⟩ := hc.at I
  refine assign_tup_hot hot ht (by simp [hn, ← hl, rv.length]) hst fun h' hx => ?_
  have I1 : Inv X pins σ H { s with heap := h' } := I.kept (t' := s.toks) fun b o e => hx b o (Nat.ne_of_lt (Heap.lt_size e)) e
  exact h.run pins _ σ H xs _ Q I1 (by simpa using rv) hw
/-- the walk of a list -/
theorem turn_listH {P : Program} {w : World} {K : PySem.W.Frag} {tg : Expr} (a it : Addr) : TurnH P w K tg (Itl K a) [it] it (fun i h => h.IsListIter it a i) where
  mem := by simp
  obj := (turn_list (P := P) (w := w) (K := K) (tg := tg) a it).obj
  keep := (turn_list (P := P) (w := w) (K := K) (tg := tg) a it).keep
  item := by
    intro X hP hw hK hc i pins s σ H E I hf st hg
    subst hP hw hK
    obtain ⟨xs, x, hq, hx⟩ := hg
    obtain ⟨its, rv, p, hz⟩ := I.list hq
    obtain ⟨u, hu, ru⟩ := rv.get hx
    obtain ⟨f0, f1, f2, f3, f4, f5⟩ := hf it (by simp)
    refine wpAny_pyNext_list_item st p.isList (x := u) (by simpa using hu) fun h' st' sb => ?_
    have I1 : Inv X pins σ H { s with heap := h' } := I.turned (t' := s.toks) (fun b o hb e => (sb.2 b hb).trans e) f0 f1 f3 f4 f5
    obtain ⟨o, e, c, d⟩ := id st'
    exact ⟨u, rfl, go_of (s := { s with heap := h' }) e c d (by decide) ⟨x, H, I1, ru, ⟨rfl, fun ys hy => by rw [I.list_inj hy hq]; exact hx⟩, st', fun b hb => (hf b hb).1⟩⟩
  done := by
    intro X hP hw hK hc i pins s σ H E I hf st hg
    subst hP hw hK
    obtain ⟨xs, hq, hx⟩ := hg
    obtain ⟨its, rv, p, hz⟩ := I.list hq
    obtain ⟨f0, f1, f2, f3, f4, f5⟩ := hf it (by simp)
    have hl := rv.length
    obtain ⟨q, ⟨hh, v1, e1, c1⟩, hqp⟩ := hc
    have hot : HotAt X.A q.1 s.heap := ⟨hh, q.2, v1, (I.pin q (List.mem_append_left _ hqp)).1, e1, c1⟩
    exact list_end_hot hot (f5 q (List.mem_append_left _ hqp)) st p.isList (by simp; omega) fun h' eb => ⟨rfl, I.turned (t' := s.toks) (fun b o hb e => eb b o hb e) f0 f1 f3 f4 f5⟩
  self := fun _ _ _ _ _ st h => wpAny_pyIter_listiter st h
theorem pi_listH {X : Cx} {tg : Expr} {l : Expr} {tl : TE} (hl : PE X l tl) : PIH X tg l (iList X.K tl) := by
  refine ⟨fun pins s σ H R I h => ?_⟩
  refine thn (hl.run pins s σ H _ I h) fun v s1 ⟨x, H1, I1, r1, q1⟩ => ?_
  obtain ⟨a, e, ⟨xs, hq⟩, q⟩ := q1
  subst e
  cases r1
  obtain ⟨its, rv, p, hz⟩ := I1.list hq
  refine wpAny_pyIter_list p.isList ?_
  refine ⟨s1.heap.objs.size, [s1.heap.objs.size], _, _, H1, rfl, I1.kept (t' := s1.toks) fun b o e => Heap.get?_push_of_some _ e, turn_listH a _, ⟨_, Heap.get?_push_size _ rfl, rfl, rfl⟩, fun b hb => ?_, q⟩
  have e : b = s1.heap.objs.size := by simpa using hb
  subst e
  exact I1.fpOk (Nat.le_refl _) (I1.hok.fresh (Nat.le_refl _))
end Kh
/-! a list comprehension while an error is handled: its block bears the def's pins -/
namespace Kh
open PySem PySem.Spec PyProof.Rows L2 L2H HotX
theorem rep {X : Cx} {σ : L2.St} {H : Hp} {s : Shared} {pn' : List (Addr × Obj)} (I : Inv X [] σ H s)
    (h : ∀ p ∈ pn', s.heap.get? p.1 = some p.2 ∧ H p.1 = none ∧ p.1 ≠ X.env.locals ∧ p.1 ∉ X.fs ∧ ∀ v, p.2.data ≠ .cell v) : Inv { X with pn := pn' } [] σ H s :=
  ⟨⟨I.ok.mod, I.ok.kind, I.ok.glob, I.ok.blt, I.ok.above, I.ok.inj, I.ok.has, I.ok.cab, I.ok.hd, I.ok.frames, I.ok.stk, I.ok.exf, I.ok.bs, I.ok.bsz, I.ok.noex, I.ok.exfs, I.ok.funs, I.ok.frf⟩,
    I.os, I.bare, I.base, I.loc, I.cell, I.free, I.freeC, fun p hp => h p (by simpa using (show p ∈ pn' ++ [] from hp)), I.hok, I.len⟩
abbrev blkH (X : Cx) (s : Shared) (H : Hp) (scope : Scope) (cenv : Env) (fp : List Addr) : Cx := { X.blk s H scope cenv fp with pn := X.pn }
section
variable {X : Cx}
theorem lc_coreH {pins : List (Addr × Obj)} {s : Shared} {σ : L2.St} {H : Hp} {Q : VK} {elt tg iter : Expr} {ifs : List Expr} {scope : Scope} {own : List (Str × Nat)} {pos pos' : Pos} {wi : TI} {g : TG} {tt : TT} {te : TE} {use : Option (Value → Sem Unit)} {Qf : Value → Shared → Prop}
    (hc : HotC X) (hN : X.N.Nodup) (I : Inv X pins σ H s) (hi : PIH X tg iter wi) (ok : BlkOk X.N X.env.scope scope own)
    (hg : ∀ (s : Shared) (H : Hp) (C : Addr) (cl : List (Str × Addr)) (fp : List Addr), PG (blkH X s H scope (compEnvC scope cl C X.env) fp) tg g) (ht : ∀ (s : Shared) (H : Hp) (C : Addr) (cl : List (Str × Addr)) (fp : List Addr), PTs (blkH X s H scope (compEnvC scope cl C X.env) fp) ifs tt)
    (he : ∀ (s : Shared) (H : Hp) (C : Addr) (cl : List (Str × Addr)) (fp : List Addr), PE (blkH X s H scope (compEnvC scope cl C X.env) fp) elt te) (hs : ∀ x, foldedSetIterable iter X.env x = pure x)
    (h : tLc wi g tt te (own.map (·.2)) σ H Q)
    (hRR : ∀ D C s' m H', Inv X pins σ H' s' → Q (.ref D) H' → s'.heap.Ns C m → FpOk X pins H' C → compPost (model X.prog X.w) X.A X.xe use Qf (.ref D) C (.ok .next) s') :
    wpAny (model X.prog X.w) X.A (comprehension (.ListComp elt [⟨tg, iter, ifs, 0⟩] scope pos) scope X.env pos' (newList []) false (eval iter X.env) use) Qf X.xe s := by
  have hfree : ∀ y ∈ scope.names, y.2 = .free → ∃ c, X.env.cells.lookup y.1 = some c := fun y hy e => (ok.free y hy e).elim (fun k => I.ok.has _ (.inl k)) fun k => I.ok.has _ (.inr k)
  refine wpAny_comprehension_free (use := use) rfl hs (closure_ok hfree) ok.kind (fun y hy e => by rw [ok.uniq y hy, e])
    (thn (hi.run pins s σ H _ I h) fun xv s1 hx => thn hx fun itv s2 h2 => ?_)
  obtain ⟨it, fp, tn, J, H2, e, I2, T, st2, f2, q⟩ := h2
  subst e
  refine wpAny_newObj_type (newEnv_comp ?_) (by show 0 ≤ sizeLine; decide)
  generalize hD : s2.heap.objs.size = D
  obtain ⟨W, ⟨m0, w0⟩, turn⟩ := q D (I2.hok.fresh (Nat.le_of_eq hD))
  generalize hs3 : ({ s2 with heap := s2.heap.push { cls := .type "list", data := .seq ([] : List Value).toArray } } : Shared) = s3
  have h3 : s3.heap = s2.heap.push { cls := .type "list", data := .seq ([] : List Value).toArray } := by rw [← hs3]
  have I3 : Inv X pins σ (upd H2 D (.lst [])) s3 := by
    rw [← hs3]
    refine I2.laid (t' := s2.toks) (fun b o e => Heap.get?_push_of_some _ e) (Nat.le_of_eq hD) ⟨Nat.zero_le _, [], 0, .nil, ?_⟩
    rw [← hD]
    exact Heap.get?_push_size _ rfl
  have sz : ∀ b ∈ fp, b < s2.heap.objs.size := fun b hb => let ⟨o, e, _⟩ := T.obj _ _ st2 b hb; Heap.lt_size e
  have f3 : ∀ b ∈ fp, FpOk X pins (upd H2 D (.lst [])) b ∧ b < s3.heap.objs.size := fun b hb => by
    have hlt := sz b hb
    refine ⟨⟨?_, (f2 b hb).2⟩, by rw [h3, Heap.size_push]; exact Nat.lt_succ_of_lt hlt⟩
    rw [upd_ne (by rw [← hD]; exact Nat.ne_of_lt hlt)]
    exact (f2 b hb).1
  have st3 : tn 0 s3.heap := T.keep _ _ _ st2 fun b _ o e => by rw [h3]; exact Heap.get?_push_of_some _ e
  have I4 := block_start I3 ok hN f3
  have pg := hg s3 (upd H2 D (.lst [])) s3.heap.objs.size (cellsFrom (s3.heap.objs.size + 1) scope.names (cloFrom X.env.cells scope.names [])) fp
  have pt := ht s3 (upd H2 D (.lst [])) s3.heap.objs.size (cellsFrom (s3.heap.objs.size + 1) scope.names (cloFrom X.env.cells scope.names [])) fp
  have pe := he s3 (upd H2 D (.lst [])) s3.heap.objs.size (cellsFrom (s3.heap.objs.size + 1) scope.names (cloFrom X.env.cells scope.names [])) fp
  show codeAny _ _ (.compStart (.ListComp elt [⟨tg, iter, ifs, 0⟩] scope pos) 0 (.ref it) (.ref D) (compEnvC scope (cellsFrom (s3.heap.objs.size + 1) scope.names (cloFrom X.env.cells scope.names [])) s3.heap.objs.size X.env)) (compPost (model X.prog X.w) X.A X.xe use Qf (.ref D) s3.heap.objs.size) { s3 with heap := pushCells (s3.heap.push { cls := .type "dict", data := .dict #[] }) scope.names }
  have nfp : ∀ b ∈ fp, (upd H2 D (.lst [])) b = none := fun b hb => (f3 b hb).1.1
  generalize hce : compEnvC scope (cellsFrom (s3.heap.objs.size + 1) scope.names (cloFrom X.env.cells scope.names [])) s3.heap.objs.size X.env = ce at I4 pg pt pe ⊢
  have cL : ce.locals = s3.heap.objs.size := by subst hce; rfl
  generalize hH3 : upd H2 D (.lst []) = H3 at I3 I4 pg pt pe w0 nfp f3
  have kp : ∀ b o, s3.heap.get? b = some o → (pushCells (s3.heap.push { cls := .type "dict", data := .dict #[] }) scope.names).get? b = some o := fun b o e => pushCells_keeps _ _ _ _ (Heap.get?_push_of_some _ e)
  generalize hs4 : ({ s3 with heap := pushCells (s3.heap.push { cls := .type "dict", data := .dict #[] }) scope.names } : Shared) = s4 at I4 ⊢
  have kp4 : ∀ b o, s3.heap.get? b = some o → s4.heap.get? b = some o := by rw [← hs4]; exact kp
  have st4 : tn 0 s4.heap := T.keep _ _ _ st3 fun b _ o e => kp4 b o e
  -- the def's pins, in the block
  have I4 : Inv (blkH X s3 H3 scope ce fp) [] (wipe σ (own.map (·.2))) H3 s4 := rep I4 fun p hp => by
    have P := I3.pin p (List.mem_append_left _ hp)
    refine ⟨kp4 _ _ P.1, P.2.1, ?_, fun hm => (List.mem_cons.mp (I3.stkSub p.1 hm)).elim P.2.2.1 P.2.2.2.1, P.2.2.2.2⟩
    show p.1 ≠ ce.locals
    rw [cL]
    exact Nat.ne_of_lt (Heap.lt_size P.1)
  have hcB : HotC (blkH X s3 H3 scope ce fp) := hc
  have stat : ∀ {σ' : L2.St} {H' : Hp} {s' : Shared}, Inv (blkH X s3 H3 scope ce fp) [] σ' H' s' → (∀ b ∈ fp, H' b = none) → ∀ b ∈ fp, FpOk (blkH X s3 H3 scope ce fp) [] H' b := fun {σ' H' s'} I' hn b hb =>
    ⟨hn b hb, (I'.ok.exf b hb).1, I'.ok.exfs b hb, .inl hb, fun x c e => (I'.ok.exf b hb).2 x c e, fun p hp => (f3 b hb).1.2.2.2.2.2 p (List.mem_append_left _ (by simpa using (show p ∈ X.pn ++ [] from hp)))⟩
  have loop : codeAny (model X.prog X.w) X.A (.compLoop (.ListComp elt [⟨tg, iter, ifs, 0⟩] scope pos) 0 (.ref it) (.ref D) ce) (compPost (model X.prog X.w) X.A X.xe use Qf (.ref D) s3.heap.objs.size) s4 := by
    refine compLoop_any (fun n s' => ∃ i H', Inv (blkH X s3 H3 scope ce fp) [] (wipe σ (own.map (·.2))) H' s' ∧ tn i s'.heap ∧ (∀ b ∈ fp, H' b = none) ∧ W i n H') ?_ m0 ⟨0, H3, I4, st4, nfp, w0⟩
    rintro n s5 ⟨i, H5, I5, st5, n5, w5⟩
    rcases turn i n H5 w5 with ⟨stop, qq⟩ | ⟨go, Nx, hNx, step⟩
    · refine thnF (T.done (blkH X s3 H3 scope ce fp) rfl rfl rfl hcB i [] s5 _ H5 (fun _ _ => False) I5 (stat I5 n5) st5 stop) fun r s6 ⟨hr, I6⟩ => ?_
      subst hr
      have I7 : Inv X pins σ H5 s6 := I3.call' (ch := fp) I6.os I6.base I6.hok I6.bare fun b hb => ⟨(f3 b hb).1.2.2.2.1, (f3 b hb).1.2.1, (f3 b hb).1.2.2.2.2.1, (f3 b hb).1.2.2.2.2.2⟩
      have nC : H5 s3.heap.objs.size = none := by
        have z : H5 ce.locals = none := I6.free
        rw [cL] at z
        exact z
      obtain ⟨m, hn, _⟩ := I6.loc
      have hn : s6.heap.Ns ce.locals m := hn
      rw [cL] at hn
      exact hRR D s3.heap.objs.size s6 m H5 I7 qq hn (I3.fpOk (Nat.le_refl _) nC)
    · refine thnF (T.item (blkH X s3 H3 scope ce fp) rfl rfl rfl hcB i [] s5 _ H5 (fun _ _ => False) I5 (stat I5 n5) st5 go) fun r s6 ⟨u, hr, h6⟩ => ?_
      subst hr
      refine thnF h6 fun _ s7 ⟨x, H7, I7, r7, y7, st7, n7⟩ => ?_
      have I7' := I7.pinned (stat I7 n7) (T.obj _ _ st7)
      refine thnF (pg.run _ s7 _ H7 x u _ I7' r7 (step x H7 y7)) fun _ s8 ⟨σ8, H8, I8, hw8, q8⟩ => ?_
      refine thnF (pt.run _ s8 σ8 H8 _ I8 q8) fun b s9 ⟨H9, I9, q9⟩ => ?_
      have fin : ∀ {s' : Shared} {H' : Hp}, Inv (blkH X s3 H3 scope ce fp) ([] ++ pinsAt fp s7.heap) σ8 H' s' → Nx H' → ∃ m, m < n ∧ ∃ i H', Inv (blkH X s3 H3 scope ce fp) [] (wipe σ (own.map (·.2))) H' s' ∧ tn i s'.heap ∧ (∀ b ∈ fp, H' b = none) ∧ W i m H' := fun {s' H'} I' nx => by
        obtain ⟨m', hm, w'⟩ := hNx H' nx
        have pin' : ∀ b ∈ fp, ∀ o, s7.heap.get? b = some o → s'.heap.get? b = some o ∧ H' b = none := fun b hb o e =>
          let z := I'.pin (b, o) (List.mem_append_right _ (List.mem_append_right _ (mem_pinsAt hb e)))
          ⟨z.1, z.2.1⟩
        have hl : (wipe σ (own.map (·.2))).length = σ8.length := by rw [← hw8, wipe_length]
        refine ⟨m', hm, i + 1, H', (I'.unpinned (pins := [])).weak hl (fun j v e => ?_), T.keep _ _ _ st7 fun b hb o e => (pin' b hb o e).1, fun b hb => ?_, w'⟩
        · rw [← hw8] at e
          exact (wipe_some e).1
        · obtain ⟨o, e, _⟩ := T.obj _ _ st7 b hb
          exact (pin' b hb o e).2
      cases b with
      | false =>
        simp only [Bool.false_eq_true, if_false] at q9 ⊢
        exact fin I9 q9
      | true =>
        simp only [if_true] at q9 ⊢
        refine thnF (pe.run _ s9 σ8 H9 _ I9 q9) fun z s10 ⟨yv, H10, I10, r10, acc, hD10, hz10, nx⟩ => ?_
        exact app_ok (X := blkH X s3 H3 scope ce fp) I10 hD10 hz10 r10 fun s11 I11 => fin I11 nx
  exact codeAny_compStart_list loop (T.self X.A 0 _ _ _ st4 loop)
theorem pe_lcH {elt tg iter : Expr} {ifs : List Expr} {scope : Scope} {own : List (Str × Nat)} {pos : Pos} {wi : TI} {g : TG} {tt : TT} {te : TE} (hc : HotC X) (hN : X.N.Nodup) (hi : PIH X tg iter wi) (ok : BlkOk X.N X.env.scope scope own)
    (hg : ∀ (s : Shared) (H : Hp) (C : Addr) (cl : List (Str × Addr)) (fp : List Addr), PG (blkH X s H scope (compEnvC scope cl C X.env) fp) tg g) (ht : ∀ (s : Shared) (H : Hp) (C : Addr) (cl : List (Str × Addr)) (fp : List Addr), PTs (blkH X s H scope (compEnvC scope cl C X.env) fp) ifs tt)
    (he : ∀ (s : Shared) (H : Hp) (C : Addr) (cl : List (Str × Addr)) (fp : List Addr), PE (blkH X s H scope (compEnvC scope cl C X.env) fp) elt te) (hs : ∀ x, foldedSetIterable iter X.env x = pure x := by intro _; rfl) :
    PE X (.ListComp elt [⟨tg, iter, ifs, 0⟩] scope pos) (tLc wi g tt te (own.map (·.2))) := by
  refine ⟨fun pins s σ H Q I h => ?_⟩
  rw [eval_ListComp]
  refine lc_coreH hc hN I hi ok hg ht he hs h fun D C s' m H' I' q hn f => ⟨m, hn, fun h'' sb => ?_⟩
  obtain ⟨f0, f1, f2, f3, f4, f5⟩ := f
  exact ⟨.ref D, H', I'.turned (t' := s'.toks) (fun b o hb e => (sb.2 b hb).trans e) f0 f1 f3 f4 f5, rfl, q⟩
theorem ps_setLcH {i : Nat} {y : Str} {py : Pos} {elt tg iter : Expr} {ifs : List Expr} {scope : Scope} {own : List (Str × Nat)} {pos spos : Pos} {wi : TI} {g : TG} {tt : TT} {te : TE} (hc : HotC X) (hN : X.N.Nodup) (hy : X.N[i]? = some y) (hyl : X.env.scope.names.lookup y = some .local)
    (hsw : swapsWith (.ListComp elt [⟨tg, iter, ifs, 0⟩] scope pos) (some (.Name y py)) spos.line X.env = pure true) (hi : PIH X tg iter wi) (ok : BlkOk X.N X.env.scope scope own)
    (hg : ∀ (s : Shared) (H : Hp) (C : Addr) (cl : List (Str × Addr)) (fp : List Addr), PG (blkH X s H scope (compEnvC scope cl C X.env) fp) tg g) (ht : ∀ (s : Shared) (H : Hp) (C : Addr) (cl : List (Str × Addr)) (fp : List Addr), PTs (blkH X s H scope (compEnvC scope cl C X.env) fp) ifs tt)
    (he : ∀ (s : Shared) (H : Hp) (C : Addr) (cl : List (Str × Addr)) (fp : List Addr), PE (blkH X s H scope (compEnvC scope cl C X.env) fp) elt te) (hs : ∀ x, foldedSetIterable iter X.env x = pure x := by intro _; rfl) :
    PS X (.Assign [.Name y py] (.ListComp elt [⟨tg, iter, ifs, 0⟩] scope pos) spos) (tAsg (tLc wi g tt te (own.map (·.2))) (gName i)) := by
  refine ⟨fun pins s σ H D I h => ?_⟩
  rw [exec_Assign_Name_used _ _ _ _ hsw]
  refine wpAny_bind (wpAny_standAt (wpAny_bind ?_))
  show wpAny _ X.A (do let _ ← comprehension (.ListComp elt [⟨tg, iter, ifs, 0⟩] scope pos) scope X.env (firstIterPos [⟨tg, iter, ifs, 0⟩] pos) (newList []) false (eval iter X.env) (some (assign (.Name y py) X.env))) _ _ s
  have h : tLc wi g tt te (own.map (·.2)) σ H (fun x H1 => gName i x σ H1 D.nx) := h
  refine wpAny_bind (thn (lc_coreH (Qf := fun _ s' => SP X pins D .next s') hc hN I hi ok hg ht he hs h fun L C s' m H' I' q hn f => ?_) fun _ s' hq => wpAny_pure (wpAny_pure hq))
  show wpAny _ _ (assign (.Name y py) X.env (.ref L)) _ _ _
  refine wpAny_assign_Name (store_ok2 (v := V.ref L) I' hN hy (.inl hyl) rfl (fun s2 I2 ⟨a, sb, ha⟩ => ?_) (.inr hyl))
  obtain ⟨f0, f1, f2, f3, f4, f5⟩ := f
  have haC : C ≠ a := by
    rcases ha with z | z
    · rw [z]; exact f1
    · exact fun e => f4 y a z e.symm
  refine ⟨m, hn.sameBut sb haC, fun h3 sb3 => ?_⟩
  exact ⟨_, H', I2.turned (t' := s2.toks) (fun b o hb e => (sb3.2 b hb).trans e) f0 f1 f3 f4 f5, q⟩
end
end Kh
/-! a def that is called with the handled error, within an except suite: its promise speaks of that error -/
namespace Kh
open PySem PySem.Spec PyProof.Rows L2 L2H HotX Kt
abbrev SpE := Addr × Obj → Sp
structure FnE (P : Program) (w : World) (K : PySem.W.Frag) (mg : Str → Option Value) (base : Heap) (k : Nat) (f : Addr) (fd : FuncData) (ps : List Str) (sp : SpE) : Prop where
  len : ∀ p vs H Q E, sp p vs H Q E → vs.length = ps.length
  run : ∀ (A : Around) (outer : List Env) (s : Shared) (H : Hp) (args : Args) (us : List Value) (vs : List V) (Q : VK) (E : XK) (p : Addr × Obj), RoomH k A → Hot1 A p → PinOk outer H s p → Env0 P w K mg base A outer s H → BindsTo s fd args (ps.zip us) → Vals vs us → sp p vs H Q E →
    codeAny (model P w) A (.call (.ref f) args) (CR CX0 outer P w H s Q E) s
section
variable {P : Program} {w : World} {K : PySem.W.Frag} {mg : Str → Option Value} {base : Heap} {k : Nat} {x : Str} {st : Stmt} {N ps : List Str} {sp : SpE}
/-- for one error at a time it is a promise of the library's kind -/
theorem fnE_of {f : Addr} {fd : FuncData} (F : Fun K x x st f fd) (S : FnScope N ps (defScope st)) (len : ∀ p vs H Q E, sp p vs H Q E → vs.length = ps.length)
    (hbody : ∀ (cdv : Value) (A : Around) (outer : List Env) (s : Shared) (H : Hp) (vs : List V) (Q : VK) (E : XK) (p : Addr × Obj), Hot1 A p → RoomH k (A.deeper (envOfC x (defScope st) s.heap.objs.size f cdv)) → sp p vs H Q E →
      ∃ t, PSs (cxH CX0 P w K mg base N x (defScope st) f cdv A outer s H E p).nox (defBody st) t ∧ t { nx := fun _ H' => Q .non H', rt := Q } (L2.start N vs) H) :
    FnE P w K mg base (k + 1) f fd ps sp := by
  obtain ⟨oc, od, kV, doc, pm, an, cdv, ct, osl, rfl, lk, hcd⟩ := F.ex
  refine ⟨len, fun A outer s H args us vs Q E p hr hot hpin e0 hb r hsp => ?_⟩
  have hl := len p _ _ _ _ hsp
  have KX : K.In s.heap := e0.mod.kin.keeps fun b o e => (e0.bs b o e).1
  have lim : s.heap.NoLimit := e0.mod.nolimit.keeps fun b o e => (e0.bs b o e).1
  have hkind : ∀ y ∈ ps.zip us, (defScope st).names.lookup y.1 = some .local ∨ ((defScope st).names.lookup y.1 = some .cell ∧ ((cellsFrom (s.heap.objs.size + 1) (defScope st).names []).lookup y.1).isSome = true) := fun ⟨n, v⟩ hy =>
    (S.par n (List.of_mem_zip hy).1).elim .inl fun q => .inr ⟨q, PySem.W.cellsFrom_some _ _ _ (.inl q)⟩
  refine codeAny_call_function hr.depth (KX _ _ lk) rfl S.co S.gen rfl (PySem.W.codeRec_of KX hcd) (hb _ _ _ _ ?_)
  refine wpAny_newFunctionEnv_cells S.kind hkind fun env he s1 xx => ?_
  subst he
  refine ⟨lim.keeps xx.toInCall.keep, codeAny_func ?_⟩
  obtain ⟨t, ht, hq⟩ := hbody cdv A outer s H vs Q E p hot (hr.deeper _) hsp
  have I : Inv (cxH CX0 P w K mg base N x (defScope st) f cdv A outer s H E p) [] (L2.start N vs) H s1 := inv_startH S hpin e0 hl r xx
  refine wpAny_mono (ht.nox.run [] s1 (L2.start N vs) H _ I hq) (fun fl s' hs => ?_) fun e s' hs => hs
  have fin : ∀ {σ' : L2.St} {H' : Hp} {v : V} {u : Value}, Inv (cxH CX0 P w K mg base N x (defScope st) f cdv A outer s H E p) [] σ' H' s' → RelV v u → Q v H' → CE outer P w H s Q u s' :=
    fun {σ' H' v u} J rv q => ⟨v, H', J.os, J.bare, J.base, J.hok, rv, q⟩
  cases fl with
  | ret u =>
    obtain ⟨v, σ', H', J, rv, q⟩ := hs
    exact fin J rv q
  | next =>
    obtain ⟨σ', H', J, q⟩ := hs
    exact fin (v := V.non) (u := Value.none) J rfl q
  | brk =>
    obtain ⟨_, _, _, q⟩ := hs
    exact False.elim q
  | cont =>
    obtain ⟨_, _, _, q⟩ := hs
    exact False.elim q
structure PromE (P : Program) (w : World) (K : PySem.W.Frag) (mg : Str → Option Value) (base : Heap) (k : Nat) (x : Str) (ps : List Str) (sp : SpE) : Prop where
  ex : ∃ f fd, mg x = some (.ref f) ∧ PySem.W.keepIn K (.ref f) = true ∧ Binds K fd ps [] ∧ FnE P w K mg base k f fd ps sp
theorem okE (D : At K mg x st) (S : FnScope N ps (defScope st)) (hb : BindH st x ps) (len : ∀ p vs H Q E, sp p vs H Q E → vs.length = ps.length)
    (body : ∀ (f : Addr) (cdv : Value) (A : Around) (outer : List Env) (s : Shared) (H : Hp) (vs : List V) (Q : VK) (E : XK) (p : Addr × Obj), HotC (cxH CX0 P w K mg base N x (defScope st) f cdv A outer s H E p).nox → (∃ vs : Array Value, p.2.data = .fields vs) → RoomH k (A.deeper (envOfC x (defScope st) s.heap.objs.size f cdv)) → sp p vs H Q E →
      ∃ t, PSs (cxH CX0 P w K mg base N x (defScope st) f cdv A outer s H E p).nox (defBody st) t ∧ t { nx := fun _ H' => Q .non H', rt := Q } (L2.start N vs) H) : PromE P w K mg base (k + 1) x ps sp := by
  obtain ⟨f, fd, F, g⟩ := D.ex
  exact ⟨f, fd, g, F.kp, F.binds hb, fnE_of F S len fun cdv A outer s H vs Q E p hot hr h => body f cdv A outer s H vs Q E p ⟨p, hot, List.mem_cons_self⟩ (let ⟨vs, e, _⟩ := hot.2; ⟨vs, e⟩) hr h⟩
end
section
variable {X : Cx} {j k : Nat} {x : Str} {ps : List Str} {sp : SpE} {p : Addr × Obj} {q pos : Pos} {e : Expr} {es : List Expr} {t : TA}
/-- the call, the error p handled -/
theorem pcallE (hr : RoomH k X.A) (F : PromE X.prog X.w X.K X.mg X.base j x ps sp) (hot : Hot1 X.A p) (hp : p ∈ X.pn) (ha : PA X (e :: es) t) (hg : Gl X x := by rfl) (hj : j ≤ k := by decide) (hdb : (x == ("__debug__" : Str)) = false := by decide)
    (he : starEach (e :: es) X.env = (false, eval e X.env) :: starEach es X.env := by rfl) (hpl : (backTo pos (starEach es X.env)).any (·.1) = false := by rfl) : PE X (.Call (.Name x q) (e :: es) [] pos) (tCallS (sp p) (fun _ => E0) t) := by
  obtain ⟨f, fd, g, kp, b, G⟩ := F.ex
  refine ⟨fun pins s σ H Q I h => ?_⟩
  refine wpAny_Call_Name_kw (ld_glob I hg g ?_ hdb)
  refine PySem.W.callWith_K (h₀ := X.base) I.ok.mod.kin kp (thn (ha.run pos pins s σ H _ I h) fun us s1 ⟨vs, H1, I1, r, q⟩ => ⟨I1.kIn, ?_⟩) he hpl
  have hl : us.length = ps.length := by rw [← r.length]; exact G.len _ _ _ _ _ q
  have bb := b s1 us I1.kIn (by rw [List.append_nil]; exact hl)
  rw [List.append_nil] at bb
  have P1 := I1.pin p (List.mem_append_left _ hp)
  have hpin : PinOk X.stack H1 s1 p := ⟨P1.1, P1.2.1, fun hm => (List.mem_cons.mp (I1.stkSub p.1 hm)).elim P1.2.2.1 P1.2.2.2.1, P1.2.2.2.2⟩
  refine wpAny_call (codeAny_mono (G.run X.A X.stack s1 H1 ⟨us, []⟩ us vs Q E0 p (hr.mono hj) hot hpin I1.env0 bb r q) fun r s' hq => ?_)
  cases r with
  | error e => exact False.elim hq
  | ok fl =>
    cases fl with
    | ret u => exact I1.after hq
    | next => exact False.elim hq
    | brk => exact False.elim hq
    | cont => exact False.elim hq
end
/-- isinstance(e, c), e the error that is handled: its class is told by the promise -/
def rIsP (K : PySem.W.Frag) (p : Addr × Obj) : List V → Hp → VK → Prop := fun xs H Q => ∃ D : Addr, Zc (.ref D) none p.2 ∧ (∃ vs, p.2.data = .fields vs) ∧ ExcC K D ∧ rIsE K D p.1 xs H Q
theorem call_isP {X : Cx} {p : Addr × Obj} (hp : p ∈ X.pn) : CallR X (.builtin "isinstance") (rIsP X.K p) := by
  intro pins s σ H xs us Q I r h
  obtain ⟨D, hz, hf, C, c, cv, b, rfl, hcv, e, q⟩ := h
  cases r with
  | cons rx rr =>
    cases rr with
    | cons rt rr =>
      cases rr
      cases rx
      have ec := hcv _ rt
      subst ec
      have hget := (I.pin p (List.mem_append_left _ hp)).1
      obtain ⟨vs, hv⟩ := hf
      obtain ⟨a, oc, od, oda, osl⟩ := p
      obtain ⟨h1, h2⟩ := hz
      dsimp only at h1 h2 hv hget
      subst h1 h2 hv
      have J : PySem.W.InstAt s.heap a ⟨.ref D, none, .fields vs, osl⟩ D none := ⟨hget, rfl, rfl, trivial⟩
      exact PySem.W.kia_one (PySem.W.handS_kitx_exc C.hg C.hk C.hs C.hd C.ha C.hn C.ht C.hm) I.kIn J e (fun z => nomatch z) fun tk => ⟨.bl b, H, I.kept (t' := tk) fun _ _ z => z, rfl, q⟩
/-- within the suite of an error whose context is None -/
theorem hot_suite {X : Cx} {a : Addr} {oe : Obj} {cls : Value} {d : Option Addr} (hz : L2N.Zn cls d oe) (hf : ∃ vs, oe.data = .fields vs) : Hot1 (X.A.mark (some (.ref a))) (a, oe) :=
  ⟨rfl, let ⟨vs, e⟩ := hf; ⟨vs, e, hz.2.2 vs e⟩⟩
theorem roomH_suite {k : Nat} {A : Around} {v : Option Value} (r : Room k A) : RoomH k (A.mark v) := ⟨r.dp, r.un⟩
/-- .. by the error's place, class and dict alone -/
abbrev byP (sp : Addr → Value → Option Addr → Sp) : SpE := fun p => sp p.1 p.2.cls p.2.dict
theorem pcallS {X : Cx} {a : Addr} {oe : Obj} {cls : Value} {d : Option Addr} {pn : List (Addr × Obj)} {j k : Nat} {x : Str} {ps : List Str} {sp : Addr → Value → Option Addr → Sp} {q pos : Pos} {e : Expr} {es : List Expr} {t : TA}
    (hz : L2N.Zn cls d oe) (hf : ∃ vs, oe.data = .fields vs) (hr : Room k X.A) (F : PromE X.prog X.w X.K X.mg X.base j x ps (byP sp)) (ha : PA (X.suite a ((a, oe) :: pn)) (e :: es) t) (hg : Gl (X.suite a ((a, oe) :: pn)) x := by rfl) (hj : j ≤ k := by decide) (hdb : (x == ("__debug__" : Str)) = false := by decide)
    (he : starEach (e :: es) X.env = (false, eval e X.env) :: starEach es X.env := by rfl) (hpl : (backTo pos (starEach es X.env)).any (·.1) = false := by rfl) : PE (X.suite a ((a, oe) :: pn)) (.Call (.Name x q) (e :: es) [] pos) (tCallS (sp a cls d) (fun _ => E0) t) := by
  have e1 := hz.1
  have e2 := hz.2.1
  have r := pcallE (X := X.suite a ((a, oe) :: pn)) (q := q) (pos := pos) (roomH_suite hr) F (hot_suite hz hf) List.mem_cons_self ha hg hj hdb he hpl
  unfold byP at r
  dsimp only at r
  rw [e1, e2] at r
  exact r
/-! errors whose context is None: a def that may raise one, its call -/
theorem takesN0 {X : Cx} : L2N.Takes X (fun _ _ _ _ => False) := fun _ _ ⟨_, _, _, _, _, _, _, _, _, _, _, _, _, _, _, _, w⟩ => w.elim
theorem okXN {P : Program} {w : World} {K : PySem.W.Frag} {mg : Str → Option Value} {base : Heap} {x : Str} {st : Stmt} {N ps : List Str} {k : Nat} {sp : Sp} (D : At K mg x st) (S : FnScope N ps (defScope st)) (hb : BindH st x ps) (len : ∀ vs H Q E, sp vs H Q E → vs.length = ps.length)
    (body : ∀ (f : Addr) (cdv : Value) (A : Around) (outer : List Env) (s : Shared) (H : Hp) (vs : List V) (Q : VK) (E : XK), Room k (A.deeper (envOfC x (defScope st) s.heap.objs.size f cdv)) → sp vs H Q E →
      ∃ t, PSs (cxOf (L2N.CX P w) P w K mg base N x (defScope st) f cdv A outer s H E) (defBody st) t ∧ t { nx := fun _ H' => Q .non H', rt := Q } (L2.start N vs) H) : Prom P w K mg base (L2N.CX P w) (k + 1) x ps sp := by
  obtain ⟨f, fd, F, g⟩ := D.ex
  refine ⟨f, fd, g, F.kp, F.binds hb, ?_, _, F⟩
  obtain ⟨oc, od, kV, doc, pm, an, cdv, ct, osl, rfl, lk, hcd⟩ := F.ex
  exact fn_of lk hcd S len fun A outer s H vs Q E hr hsp => body f cdv A outer s H vs Q E hr hsp
section
variable {X : Cx} {j k : Nat} {x : Str} {ps : List Str} {sp : Sp} {W : WX} {p pos : Pos} {e : Expr} {es : List Expr} {t : TA}
theorem pcallXN (hr : Room k X.A) (F : Prom X.prog X.w X.K X.mg X.base (L2N.CX X.prog X.w) j x ps sp) (tk : L2N.Takes X W) (ha : PA X (e :: es) t) (hg : Gl X x := by rfl) (hj : j ≤ k := by decide) (hdb : (x == ("__debug__" : Str)) = false := by decide)
    (he : starEach (e :: es) X.env = (false, eval e X.env) :: starEach es X.env := by rfl) (hpl : (backTo pos (starEach es X.env)).any (·.1) = false := by rfl) : PE X (.Call (.Name x p) (e :: es) [] pos) (tCallS sp (WE W) t) := by
  obtain ⟨f, fd, g, kp, b, G, _⟩ := F.ex
  exact pe_callS G (hr.mono hj) hg g kp b (fun σ => L2N.passAt tk σ) ha hdb he hpl
/-- a call of a def that may raise, here it does not -/
theorem passLN : Passes (L2N.CX X.prog X.w) X E0 := fun _ _ _ _ _ _ _ ⟨_, _, _, _, _, _, _, _, _, _, _, _, z⟩ => z.elim
theorem pcallNN (hr : Room k X.A) (F : Prom X.prog X.w X.K X.mg X.base (L2N.CX X.prog X.w) j x ps sp) (ha : PA X (e :: es) t) (hg : Gl X x := by rfl) (hj : j ≤ k := by decide) (hdb : (x == ("__debug__" : Str)) = false := by decide)
    (he : starEach (e :: es) X.env = (false, eval e X.env) :: starEach es X.env := by rfl) (hpl : (backTo pos (starEach es X.env)).any (·.1) = false := by rfl) : PE X (.Call (.Name x p) (e :: es) [] pos) (tCall sp [] E0 t) := by
  obtain ⟨f, fd, g, kp, b, G, _⟩ := F.ex
  exact pe_call G (hr.mono hj) hg g kp b .nil passLN ha hdb he hpl
end
end Kh
set_option maxHeartbeats 2000000
/-! own: all(..), any(..) of a generator expression over anything that is walked, its element any expression (own calls too). -/
namespace Kg
open PySem PySem.Spec PyProof.Rows L2 GenW

/-- the generator expression's own scope: ".0", the targets xs, captured names of the def -/
structure GnS (sc scope : Scope) (xs : List Str) : Prop where
  kind : scope.kind = .function
  co : scope.isCoroutine = false
  cell : ∀ y ∈ scope.names, y.2 ≠ .cell
  dot : scope.names.lookup (".0" : Str) = some .local
  own : ∀ y ∈ scope.names, y.2 = .local → y.1 = ".0" ∨ y.1 ∈ xs
  free : ∀ y ∈ scope.names, y.2 = .free → sc.names.lookup y.1 = some .cell ∨ sc.names.lookup y.1 = some .free
def gnSB (sc scope : Scope) (xs : List Str) : Bool :=
  decide (scope.kind = .function) && !scope.isCoroutine && decide (scope.names.lookup (".0" : Str) = some .local) && scope.names.all fun y => !decide (y.2 = .cell) && (!decide (y.2 = .local) || decide (y.1 = ".0") || decide (y.1 ∈ xs)) && (!decide (y.2 = .free) || decide (sc.names.lookup y.1 = some .cell) || decide (sc.names.lookup y.1 = some .free))
theorem gnS_by {sc scope : Scope} {xs : List Str} (h : gnSB sc scope xs = true) : GnS sc scope xs := by
  unfold gnSB at h
  simp only [Bool.and_eq_true, Bool.or_eq_true, Bool.not_eq_true', decide_eq_true_eq, decide_eq_false_iff_not, List.all_eq_true] at h
  obtain ⟨⟨⟨h1, h2⟩, h3⟩, h4⟩ := h
  refine ⟨h1, h2, fun y hy => (h4 y hy).1.1, h3, fun y hy e => ?_, fun y hy e => ?_⟩
  · rcases (h4 y hy).1.2 with (z | z) | z
    · exact absurd e z
    · exact .inl z
    · exact .inr z
  · rcases (h4 y hy).2 with (z | z) | z
    · exact absurd e z
    · exact .inl z
    · exact .inr z
theorem GnS.has {X : Cx} {scope : Scope} {xs : List Str} (L : GnS X.env.scope scope xs) (ok : X.Ok) : ∀ y ∈ scope.names, y.2 = .free → ∃ c, X.env.cells.lookup y.1 = some c := fun y hy e => by
  rcases L.free y hy e with k | k
  · exact ok.has _ (.inl k)
  · exact ok.has _ (.inr k)
/-- its context, entered at s -/
def genCx (X : Cx) (A : Around) (xs : List Str) (s : Shared) (H : Hp) (env : Env) (fp : List Addr) (pn : List (Addr × Obj)) : Cx where
  prog := X.prog
  w := X.w
  K := X.K
  mg := X.mg
  base := X.base
  A := A
  N := xs ++ X.N
  s_0 := s
  H_0 := H
  env := env
  outer := X.stack
  stack := env :: X.stack
  ex := fp
  fn := fun _ => false
  calm := true
  pn := pn
  xe := fun _ _ => False
abbrev gEnv (X : Cx) (scope : Scope) (C : Addr) (code : Value) : Env := genEnv scope (cloFrom X.env.cells scope.names []) C code builtinsNs X.env
def blank (xs : List Str) (σ : L2.St) : L2.St := xs.map (fun _ => none) ++ σ

section
variable {X : Cx} {pins : List (Addr × Obj)} {σ : L2.St} {H : Hp} {s : Shared}
theorem inv_gens {G : Array GenState} (I : Inv X pins σ H s) (hG : AllBare G) : Inv X pins σ H { s with gens := G } :=
  ⟨I.ok, I.os, hG, I.base, I.loc, I.cell, I.free, I.freeC, I.pin, I.hok, I.len⟩
theorem gen_start {A : Around} {xs : List Str} {scope : Scope} {code : Value} {fp : List Addr} {a : Addr} {go : Obj} {itv : Value} {h₁ : Heap} {G : Array GenState} {tk : Nat}
    (I : Inv X pins σ H s) (L : GnS X.env.scope scope xs) (hN : ((".0" : Str) :: (xs ++ X.N)).Nodup) (hd : A.handled = none) (hf : A.frames = some (gEnv X scope s.heap.objs.size code :: X.stack))
    (hfp : ∀ b ∈ fp, FpOk X pins H b ∧ b < s.heap.objs.size) (hns : h₁.Ns s.heap.objs.size fun y => if y = ".0" then some itv else none) (kp : ∀ b o, s.heap.get? b = some o → h₁.get? b = some o)
    (ha : s.heap.objs.size < a) (hgo : h₁.get? a = some go) (hgd : ∀ v, go.data ≠ .cell v) (hG : AllBare G) :
    Inv (genCx X A xs s H (gEnv X scope s.heap.objs.size code) fp [(a, go)]) [] (blank xs σ) H { s with heap := h₁, gens := G, toks := tk } := by
  have hfree := L.has I.ok
  have cm : ∀ {y c}, (cloFrom X.env.cells scope.names []).lookup y = some c → X.env.cells.lookup y = some c := fun {y c} e => by
    rcases cloFrom_mem (PySem.mem_of_lookup e) with hm | ⟨h1, h2⟩
    · cases hm
    · obtain ⟨c1, hc⟩ := hfree _ h1 rfl
      have hc : X.env.cells.lookup y = some c1 := hc
      have e2 : c = c1 := by
        rw [h2, hc] <;> rfl
      rw [e2]
      exact hc
  have look : ∀ {y}, scope.names.lookup y = some .free → ∃ c, (cloFrom X.env.cells scope.names []).lookup y = some c := fun {y} hl => by
    have hy : (y, NameKind.free) ∈ scope.names := PySem.mem_of_lookup hl
    exact mem_lookup (cloFrom_has (cells := X.env.cells) (acc := []) hy)
  have cellK : ∀ {c : Addr} {v : Option Value}, s.heap.IsCell c v → h₁.IsCell c v := fun {c v} ⟨o, ho, hd⟩ => ⟨o, kp _ _ ho, hd⟩
  have clt : ∀ {y c}, X.env.cells.lookup y = some c → c < s.heap.objs.size := fun {y c} e => by
    obtain ⟨v, z⟩ := I.cell y c e
    exact z.lt
  have fl : ∀ b ∈ fp, b ≠ s.heap.objs.size := fun b hb => Nat.ne_of_lt (hfp b hb).2
  refine ⟨⟨I.ok.mod, L.kind, I.ok.glob, rfl, Nat.le_refl _, fun y z c e1 e2 => I.ok.inj y z c (cm e1) (cm e2), fun y hy => ?_, fun y c z _ => ?_, fun _ => hd, hf, .inr ⟨rfl, rfl⟩, fun b hb => ⟨fl b hb, fun y c e z => ?_⟩, I.bs, Nat.le_trans I.ok.bsz I.sz, fun b o e hb => ?_,
      fun b hb z => ?_, I.stack, I.stkFree⟩,
    rfl, hG, Un.kept kp, ⟨_, hns, fun i y v e1 e2 e3 => ?_⟩, fun y c e => ?_, I.hok.fresh (Nat.le_refl _), fun y c e => ?_, fun q hq => ?_, I.hok.kept kp, ?_⟩
  · have hy : scope.names.lookup y = some .cell ∨ scope.names.lookup y = some .free := hy
    rcases hy with hy | hy
    · exact absurd rfl (L.cell _ (PySem.mem_of_lookup hy))
    · exact look hy
  · have z : false = true := z
    cases z
  · exact (hfp b hb).1.2.2.2.2.1 y c (cm e) z
  · rcases (hfp b hb).1.2.2.2.1 with z | z
    · exact I.ok.noex b o e z
    · exact absurd (Nat.lt_of_lt_of_le (Heap.lt_size e) (Nat.le_trans I.ok.bsz z)) (Nat.lt_irrefl _)
  · rcases List.mem_cons.mp (I.stkSub b z) with z | z
    · exact (hfp b hb).1.2.1 z
    · exact (hfp b hb).1.2.2.1 z
  · -- the slots
    have e1 : (xs ++ X.N)[i]? = some y := e1
    have e2 : (xs.map (fun _ => none) ++ σ)[i]? = some (some v) := e2
    have hi : xs.length ≤ i := by
      by_cases h : i < xs.length
      · rw [List.getElem?_append_left (by simpa using h)] at e2
        rw [List.getElem?_map] at e2
        cases q : xs[i]? with
        | none => rw [q] at e2; cases e2
        | some z => rw [q] at e2; cases e2
      · omega
    rw [List.getElem?_append_right hi] at e1
    rw [List.getElem?_append_right (by simpa using hi)] at e2
    have e2 : σ[i - xs.length]? = some (some v) := by simpa using e2
    have yN : y ∈ X.N := List.mem_of_getElem? e1
    obtain ⟨n0, n1⟩ := List.nodup_cons.mp hN
    have y0 : y ≠ ".0" := fun z => n0 (by rw [← z]; exact List.mem_append_right _ yN)
    have yx : y ∉ xs := fun z => (List.nodup_append.mp n1).2.2 y z y yN rfl
    have e3 : Vis scope y := e3
    rcases e3 with k | k | k
    · rcases L.own _ (PySem.mem_of_lookup k) rfl with z | z
      · exact absurd z y0
      · exact absurd z yx
    · exact absurd rfl (L.cell _ (PySem.mem_of_lookup k))
    · obtain ⟨m, hn, hl⟩ := I.loc
      have hvis : Vis X.env.scope y := (L.free _ (PySem.mem_of_lookup k) rfl).elim (fun k => .inr (.inl k)) (fun k => .inr (.inr k))
      obtain ⟨w', r, q⟩ := hl _ y v e1 e2 hvis
      obtain ⟨c2, h2⟩ := look k
      refine ⟨w', r, .inr ⟨.inr k, c2, h2, ?_⟩⟩
      have c1 := cm h2
      rcases q with ⟨k', _⟩ | ⟨_, c3, e', z⟩
      · have k' : X.env.scope.names.lookup y = some .local := k'
        rcases L.free _ (PySem.mem_of_lookup k) rfl with k2 | k2 <;> rw [show X.env.scope.names.lookup y = _ from k2] at k' <;> cases k'
      · rw [c1] at e'
        cases e'
        exact cellK z
  · obtain ⟨w', z⟩ := I.cell y c (cm e)
    exact ⟨w', cellK z⟩
  · exact I.freeC y c (cm e)
  · have hq : q = (a, go) := by
      have hq : q ∈ [(a, go)] ++ ([] : List (Addr × Obj)) := hq
      simpa using hq
    subst hq
    refine ⟨hgo, I.hok.fresh (Nat.le_of_lt ha), Nat.ne_of_gt ha, fun z => ?_, hgd⟩
    rcases List.mem_cons.mp (I.stkSub a z) with z | z
    · have h1 := I.lt
      rw [← z] at h1
      exact Nat.lt_irrefl _ (Nat.lt_trans ha h1)
    · exact I.nofs (Nat.le_of_lt ha) z
  · show (xs.map (fun _ => none) ++ σ).length = (xs ++ X.N).length
    rw [List.length_append, List.length_append, List.length_map, I.len]
end
end Kg
namespace Kg
open PySem PySem.Spec PyProof.Rows L2 GenW
abbrev GE (elt tg iter : Expr) (scope : Scope) (pos : Pos) : Expr := .GeneratorExp elt [⟨tg, iter, [], 0⟩] scope pos
section
variable {Y : Cx} {σ0 : L2.St} {tn : Nat → Heap → Prop} {fp : List Addr} {Pv : Nat → Hp → Prop} {Qt Qf : Hp → Prop} {g n : Nat} {it : Addr} {tg elt iter : Expr} {scope : Scope} {pos : Pos} {A : Around}
/-- asleep at the place i -/
def Slp (Y : Cx) (σ0 : L2.St) (tn : Nat → Heap → Prop) (fp : List Addr) (Pv : Nat → Hp → Prop) (g i : Nat) (s : Shared) : Prop :=
  ∃ H, Inv Y [] σ0 H s ∧ tn i s.heap ∧ (∀ b ∈ fp, H b = none) ∧ Pv i H ∧ g < s.gens.size
theorem Slp.to {i : Nat} {s s' : Shared} (h : Slp Y σ0 tn fp Pv g i s) (hh : s'.heap = s.heap) (ho : s'.os = s.os) (hb : AllBare s'.gens) (hg : g < s'.gens.size) : Slp Y σ0 tn fp Pv g i s' := by
  obtain ⟨H, I, a, b, c, _⟩ := h
  refine ⟨H, ⟨I.ok, ho.trans I.os, hb, by rw [hh]; exact I.base, by rw [hh]; exact I.loc, by rw [hh]; exact I.cell, I.free, I.freeC, by rw [hh]; exact I.pin, by rw [hh]; exact I.hok, I.len⟩, by rw [hh]; exact a, b, c, hg⟩
/-- an element is handed out: true, and it sleeps, or false -/
def GY (Y : Cx) (σ0 : L2.St) (tn : Nat → Heap → Prop) (fp : List Addr) (Pv : Nat → Hp → Prop) (Qf : Hp → Prop) (g n : Nat) (bf : Bool) : Protocol := fun m s₀ v s kap =>
  g < s.gens.size ∧ ((v = .bool (!bf) ∧ Slp Y σ0 tn fp Pv g (n - m) s ∧ ∀ s'', Slp Y σ0 tn fp Pv g (n - m) s'' → kap (.send .none) s'') ∨ (v = .bool bf ∧ ∃ σ H, Inv Y [] σ H s ∧ Qf H))
def GE0 (Y : Cx) (Qt : Hp → Prop) : Nat → Shared → Shared → Prop := fun _ _ s => ∃ σ H, Inv Y [] σ H s ∧ Qt H
theorem seg_loop {gg : TG} {te : TE} {J : It} {bf : Bool} (hA : A.over (.compLoop (GE elt tg iter scope pos) 0 (.ref it) .none Y.env) [] = Y.A) (hc : Y.calm = true) (T : Turn Y.prog Y.w Y.K tg J fp it tn)
    (hfx : ∀ b ∈ fp, b ∈ Y.ex) (hfpn : ∀ b ∈ fp, ∀ p ∈ Y.pn, p.1 ≠ b) (pg : PG Y tg gg) (pe : PE Y elt te) (hxe : Y.xe = fun _ _ => False) (hco : Y.env.scope.isCoroutine = false)
    (hw : ∀ {σ : L2.St} {H : Hp} {s : Shared}, Inv Y [] σ H s → Inv Y [] σ0 H s → True)
    (turn : ∀ i H, i ≤ n → Pv i H → (i = n ∧ J.stop i H ∧ Qt H) ∨ (i < n ∧ J.go i H ∧ ∀ x H', J.yld i H x H' → gg x σ0 H' fun σ2 H2 => (∀ (j : Nat) (v : V), σ0[j]? = some (some v) → σ2[j]? = some (some v)) ∧ te σ2 H2 fun v H3 => ∃ b, v = .bl b ∧ if b = bf then Qf H3 else Pv (i + 1) H3)) :
    ∀ (k i : Nat) (s₀ s : Shared), n - i = k → i ≤ n → Slp Y σ0 tn fp Pv g i s →
      Seg (model Y.prog Y.w) A (fun n s₀ r s₁ => r = .ok .next ∧ GE0 Y Qt n s₀ s₁) (GY Y σ0 tn fp Pv Qf g n bf) k s₀ (.compLoop (GE elt tg iter scope pos) 0 (.ref it) .none Y.env) ((model Y.prog Y.w).den (.compLoop (GE elt tg iter scope pos) 0 (.ref it) .none Y.env)) [] s := by
  have stat : ∀ {σ' : L2.St} {H' : Hp} {s' : Shared}, Inv Y [] σ' H' s' → (∀ b ∈ fp, H' b = none) → ∀ b ∈ fp, FpOk Y [] H' b := fun {σ' H' s'} I' hn b hb =>
    ⟨hn b hb, (I'.ok.exf b (hfx b hb)).1, I'.ok.exfs b (hfx b hb), .inl (hfx b hb), fun x c e => (I'.ok.exf b (hfx b hb)).2 x c e, fun p hp => hfpn b hb p (by simpa using hp)⟩
  intro k
  induction k with
  | zero =>
    intro i s₀ s hk hi hst
    obtain ⟨H, I, st, fr, pv, _⟩ := hst
    rcases turn i H hi pv with ⟨e, stop, q⟩ | ⟨lt, _⟩
    · show Seg _ A _ _ _ s₀ _ ((compTurn (GE elt tg iter scope pos) 0 (.ref it) .none Y.env).onRaise (leaving Y.env)) [] s
      rw [compTurn_gen, Sem.onRaise_eq_wrap]
      refine seg_bind_wrap (wpAny_standAt ?_)
      refine seg_bind_wrap ?_
      rw [hA]
      refine wpAny_mono (T.done Y rfl rfl rfl hc i [] s σ0 H (fun _ _ => False) I (stat I fr) st stop) (fun r s1 ⟨hr, I1⟩ => ?_) fun _ _ z => z.elim
      subst hr
      exact seg_end (.ok .next) ⟨rfl, _, _, I1, q⟩
    · omega
  | succ k ih =>
    intro i s₀ s hk hi hst
    obtain ⟨H, I, st, fr, pv, hg⟩ := hst
    rcases turn i H hi pv with ⟨e, _⟩ | ⟨lt, go, step⟩
    · omega
    · show Seg _ A _ _ _ s₀ _ ((compTurn (GE elt tg iter scope pos) 0 (.ref it) .none Y.env).onRaise (leaving Y.env)) [] s
      rw [compTurn_gen, Sem.onRaise_eq_wrap]
      refine seg_bind_wrap (wpAny_standAt ?_)
      refine seg_bind_wrap ?_
      rw [hA]
      refine wpAny_gsz (n := g + 1) hg (wpAny_mono (T.item Y rfl rfl rfl hc i [] s σ0 H (fun _ _ => False) I (stat I fr) st go) (fun r s1 ⟨u, hr, h1⟩ hg1 => ?_) fun _ _ z => z.elim)
      subst hr
      refine seg_bind_wrap ?_
      rw [hA]
      refine wpAny_gsz (n := g + 1) hg1 (wpAny_mono h1 (fun _ s2 ⟨x, H2, I2, r2, y2, st2, fr2⟩ hg2 => ?_) fun _ _ z => z.elim)
      have I2' := I2.pinned (stat I2 fr2) (T.obj _ _ st2)
      refine seg_bind_wrap ?_
      rw [hA]
      refine wpAny_gsz (n := g + 1) hg2 (wpAny_mono (pg.run _ s2 σ0 H2 x u _ I2' r2 (step x H2 y2)) (fun _ s3 ⟨σ3, H3, I3, hw3, q3⟩ hg3 => ?_) fun _ _ z => by rw [hxe] at z; exact z.elim)
      simp only [List.forIn_nil]
      refine seg_bind_wrap (wpAny_pure ?_)
      simp only [if_true]
      have hy : ∀ v, yieldOut Y.env v = yieldValue v := fun v => by simp only [yieldOut, hco, Bool.false_eq_true, if_false]
      simp only [hy]
      rw [Sem.bind_eq_wrap', Sem.bind_eq_wrap', Sem.wrap_wrap, Sem.wrap_wrap]
      refine seg_wrap ?_
      rw [hA]
      refine wpAny_gsz (n := g + 1) hg3 (wpAny_mono (pe.run _ s3 σ3 H3 _ I3 q3) (fun y s4 ⟨v, H4, I4, r4, b, hv, q4⟩ hg4 => ?_) fun _ _ z => by rw [hxe] at z; exact z.elim)
      subst hv
      obtain rfl : y = .bool b := r4
      refine seg_at (seg_yield rfl rfl rfl ⟨hg4, ?_⟩)
      have hk' : n - k = i + 1 := by omega
      by_cases hb : b = bf
      · subst hb
        rw [if_pos rfl] at q4
        exact .inr ⟨rfl, _, _, I4.unpinned, q4⟩
      · rw [if_neg hb] at q4
        have eb : b = !bf := by clear q4; revert hb; cases b <;> cases bf <;> first | exact fun _ => rfl | exact fun z => absurd rfl z
        refine .inl ⟨by rw [eb], ?_, fun s'' hs'' => ?_⟩
        · rw [hk']
          refine ⟨H4, I4.unpinned.weak ?_ hw3, T.keep _ _ _ st2 fun b hb o e => (I4.pin (b, o) (List.mem_append_right _ (List.mem_append_right _ (mem_pinsAt hb e)))).1, fun b hb => ?_, q4, hg4⟩
          · rw [I.len, I4.len]
          · obtain ⟨o, e, d⟩ := T.obj _ _ st2 b hb
            exact (I4.pin (b, o) (List.mem_append_right _ (List.mem_append_right _ (mem_pinsAt hb e)))).2.1
        · rw [hk'] at hs''
          exact seg_again rfl (ih (i + 1) s'' s'' (by omega) lt hs'')
end
end Kg
namespace Kg
open PySem PySem.Spec PyProof.Rows L2 GenW
section
variable {Y : Cx} {σ0 : L2.St} {tn : Nat → Heap → Prop} {fp : List Addr} {Pv : Nat → Hp → Prop} {Qt Qf : Hp → Prop} {g n : Nat} {it a : Addr} {go : Obj} {bf : Bool} {A B : Around}
abbrev GRn (Y : Cx) (Qt : Hp → Prop) : GenEnd := fun n s₀ r s₁ => r = .ok .next ∧ GE0 Y Qt n s₀ s₁
/-- ready to be walked on, i elements are out -/
def Aw (Y : Cx) (A : Around) (σ0 : L2.St) (tn : Nat → Heap → Prop) (fp : List Addr) (Pv : Nat → Hp → Prop) (Qt Qf : Hp → Prop) (g n : Nat) (bf : Bool) (i : Nat) (s : Shared) : Prop :=
  Slp Y σ0 tn fp Pv g i s ∧ ∃ gs, s.gens[g]? = some gs ∧ gs.Goes (model Y.prog Y.w) A (GRn Y Qt) (GY Y σ0 tn fp Pv Qf g n bf) (n - i) (.send .none) (s.setGen g .running)
theorem gen_next {i : Nat} {s : Shared} {E : Value → Shared → Prop} {Q : Option Value → Shared → Prop} (hh : A.handled = none) (hroom : A.depth < recursionLimit) (hpn : Y.pn = [(a, go)])
    (hgen : ∀ h : Heap, h.get? a = some go → h.IsGen a g) (hi : i ≤ n) (h : Aw Y A.in1 σ0 tn fp Pv Qt Qf g n bf i s)
    (hY : ∀ s', i < n → Aw Y A.in1 σ0 tn fp Pv Qt Qf g n bf (i + 1) s' → Q (some (.bool (!bf))) s') (hF : ∀ s' σ H, Inv Y [] σ H s' → Qf H → Q (some (.bool bf)) s') (hD : ∀ s' σ H, Inv Y [] σ H s' → Qt H → Q none s') :
    wpAny (model Y.prog Y.w) A (pyNext (.ref a)) Q E s := by
  have pin : ∀ {σ : L2.St} {H : Hp} {s' : Shared}, Inv Y [] σ H s' → s'.heap.get? a = some go := fun I => (I.pin (a, go) (by rw [hpn]; simp)).1
  obtain ⟨⟨H, I, st, fr, pv, hg⟩, gs, e1, goes⟩ := h
  refine wpAny_pyNext_genexpQ hh I.nolimit hroom (hgen _ (pin I)) e1 goes (fun v s1 gs' hb hy => ?_) fun s1 hp h' hk => ?_
  · obtain ⟨hg1, hy⟩ := hy
    rcases hy with ⟨rfl, sl, kap⟩ | ⟨rfl, σ2, H2, I2, q2⟩
    · have sl0 := sl
      obtain ⟨H2, I2, _⟩ := sl0
      have b2 := allBare_setGen (g := g) I2.bare hb
      have sz2 : g < (s1.setGen g gs').gens.size := by rw [setGen_size]; exact hg1
      by_cases hlt : i < n
      · have em : n - (n - i - 1) = i + 1 := by omega
        rw [em] at sl kap
        refine hY _ hlt ⟨sl.to rfl rfl b2 sz2, gs', setGen_at hg1, ?_⟩
        have eq : n - i = (n - (i + 1)) + 1 := by omega
        rw [eq] at kap
        exact kap _ (sl.to rfl rfl (allBare_setGen b2 rfl) (by rw [setGen_size, setGen_size]; exact hg1))
      · have eq : n - i = 0 := by omega
        rw [eq] at kap sl
        exact (kap _ sl).elim
    · exact hF _ σ2 H2 (inv_gens I2 (allBare_setGen I2.bare hb)) q2
  · obtain ⟨σ2, H2, I2, q2⟩ := hp
    exact hD _ σ2 H2 (inv_gens (s := { s1 with heap := h' }) (I2.kept (t' := s1.toks) hk) (allBare_setGen I2.bare rfl)) q2
theorem all_loop {R : Result → Shared → Prop} (hh : A.handled = none) (hroom : A.depth < recursionLimit) (hpn : Y.pn = [(a, go)])
    (hgen : ∀ h : Heap, h.get? a = some go → h.IsGen a g) (hF : ∀ s' σ H, Inv Y [] σ H s' → Qf H → R (.ok (.ret (.bool false))) s') (hD : ∀ s' σ H, Inv Y [] σ H s' → Qt H → R (.ok (.ret (.bool true))) s') :
    ∀ (k i : Nat) (s : Shared), n - i = k → i ≤ n → Aw Y A.in1.in1 σ0 tn fp Pv Qt Qf g n false i s → codeAny (model Y.prog Y.w) A (.builtin "all.loop" ⟨[.ref a], []⟩) R s := by
  intro k
  induction k with
  | zero =>
    intro i s hk hi h
    refine codeAny_builtin F.entry_all_loop ?_
    rw [Around.under_plainId F.plain_all_loop _]
    show wpAny _ A.in1 (pyNext (.ref a) >>= _) _ _ s
    refine wpAny_bind (gen_next (A := A.in1) hh hroom hpn hgen hi h (fun s' hlt _ => by omega) (fun s' σ H I q => ?_) fun s' σ H I q => ?_)
    · refine wpAny_bind (wpAny_holding (wpAny_truthy_bool ?_))
      refine wpAny_bind (wpAny_letGo ?_)
      simp only [Bool.false_eq_true, if_false]
      exact wpAny_bind (wpAny_rule (wpAny_pure (hF s' σ H I q)))
    · exact wpAny_bind (wpAny_rule (wpAny_pure (hD s' σ H I q)))
  | succ k ih =>
    intro i s hk hi h
    refine codeAny_builtin F.entry_all_loop ?_
    rw [Around.under_plainId F.plain_all_loop _]
    show wpAny _ A.in1 (pyNext (.ref a) >>= _) _ _ s
    refine wpAny_bind (gen_next (A := A.in1) hh hroom hpn hgen hi h (fun s' hlt aw => ?_) (fun s' σ H I q => ?_) fun s' σ H I q => ?_)
    · refine wpAny_bind (wpAny_holding (wpAny_truthy_bool ?_))
      refine wpAny_bind (wpAny_letGo ?_)
      simp only [Bool.not_false, if_true]
      exact wpAny_pure ⟨plainId_quiet F.plain_all_loop _, ih (i + 1) _ (by omega) hlt aw⟩
    · refine wpAny_bind (wpAny_holding (wpAny_truthy_bool ?_))
      refine wpAny_bind (wpAny_letGo ?_)
      simp only [Bool.false_eq_true, if_false]
      exact wpAny_bind (wpAny_rule (wpAny_pure (hF s' σ H I q)))
    · exact wpAny_bind (wpAny_rule (wpAny_pure (hD s' σ H I q)))
theorem any_loop {R : Result → Shared → Prop} (hh : A.handled = none) (hroom : A.depth < recursionLimit) (hpn : Y.pn = [(a, go)])
    (hgen : ∀ h : Heap, h.get? a = some go → h.IsGen a g) (hF : ∀ s' σ H, Inv Y [] σ H s' → Qf H → R (.ok (.ret (.bool true))) s') (hD : ∀ s' σ H, Inv Y [] σ H s' → Qt H → R (.ok (.ret (.bool false))) s') :
    ∀ (k i : Nat) (s : Shared), n - i = k → i ≤ n → Aw Y A.in1.in1 σ0 tn fp Pv Qt Qf g n true i s → codeAny (model Y.prog Y.w) A (.builtin "any.loop" ⟨[.ref a], []⟩) R s := by
  intro k
  induction k with
  | zero =>
    intro i s hk hi h
    refine codeAny_builtin F.entry_any_loop ?_
    rw [Around.under_plainId F.plain_any_loop _]
    show wpAny _ A.in1 (pyNext (.ref a) >>= _) _ _ s
    refine wpAny_bind (gen_next (A := A.in1) hh hroom hpn hgen hi h (fun s' hlt _ => by omega) (fun s' σ H I q => ?_) fun s' σ H I q => ?_)
    · refine wpAny_bind (wpAny_holding (wpAny_truthy_bool ?_))
      refine wpAny_bind (wpAny_letGo ?_)
      simp only [if_true]
      exact wpAny_bind (wpAny_rule (wpAny_pure (hF s' σ H I q)))
    · exact wpAny_bind (wpAny_rule (wpAny_pure (hD s' σ H I q)))
  | succ k ih =>
    intro i s hk hi h
    refine codeAny_builtin F.entry_any_loop ?_
    rw [Around.under_plainId F.plain_any_loop _]
    show wpAny _ A.in1 (pyNext (.ref a) >>= _) _ _ s
    refine wpAny_bind (gen_next (A := A.in1) hh hroom hpn hgen hi h (fun s' hlt aw => ?_) (fun s' σ H I q => ?_) fun s' σ H I q => ?_)
    · refine wpAny_bind (wpAny_holding (wpAny_truthy_bool ?_))
      refine wpAny_bind (wpAny_letGo ?_)
      simp only [Bool.not_true, Bool.false_eq_true, if_false]
      exact wpAny_pure ⟨plainId_quiet F.plain_any_loop _, ih (i + 1) _ (by omega) hlt aw⟩
    · refine wpAny_bind (wpAny_holding (wpAny_truthy_bool ?_))
      refine wpAny_bind (wpAny_letGo ?_)
      simp only [if_true]
      exact wpAny_bind (wpAny_rule (wpAny_pure (hF s' σ H I q)))
    · exact wpAny_bind (wpAny_rule (wpAny_pure (hD s' σ H I q)))
end
end Kg
namespace Kg
open PySem PySem.Spec PyProof.Rows L2 GenW
section
variable {Y : Cx} {σ0 : L2.St} {tn : Nat → Heap → Prop} {fp : List Addr} {Pv : Nat → Hp → Prop} {Qt Qf : Hp → Prop} {g n : Nat} {it : Addr} {tg elt iter : Expr} {scope : Scope} {pos : Pos} {A : Around}
theorem seg_start {R : GenEnd} {P : Protocol} {J : It} {k : Nat} {s₀ s : Shared} (T : Turn Y.prog Y.w Y.K tg J fp it tn) (st : tn 0 s.heap)
    (loop : Seg (model Y.prog Y.w) A R P k s₀ (.compLoop (GE elt tg iter scope pos) 0 (.ref it) .none Y.env) ((model Y.prog Y.w).den (.compLoop (GE elt tg iter scope pos) 0 (.ref it) .none Y.env)) [] s) :
    Seg (model Y.prog Y.w) A R P k s₀ (.compStart (GE elt tg iter scope pos) 0 (.ref it) .none Y.env) ((model Y.prog Y.w).den (.compStart (GE elt tg iter scope pos) 0 (.ref it) .none Y.env)) [] s := by
  show Seg _ A _ _ _ s₀ _ ((compStart (GE elt tg iter scope pos) 0 (.ref it) .none Y.env).onRaise (leaving Y.env)) [] s
  unfold compStart
  rw [Sem.onRaise_eq_wrap]
  show Seg _ A _ _ _ s₀ _ ((ask >>= _).wrap _ _ _ _) [] s
  refine seg_bind_wrap (wpAny_askSetting ?_)
  split
  · exact seg_again rfl loop
  · first
      | exact seg_bind_wrap (wpAny_rule (seg_bind_wrap (wpAny_standAt (seg_bind_wrap (T.self _ 0 _ _ _ st (seg_again rfl loop))))))
      | (refine seg_bind_wrap (wpAny_rule ?_); show Seg _ A _ _ _ s₀ _ ((standAt iter.pos >>= _).wrap _ _ _ _) [] s; exact seg_bind_wrap (wpAny_standAt (seg_bind_wrap (T.self _ 0 _ _ _ st (seg_again rfl loop)))))
end
/-- the around of a generator expression's frame -/
theorem over_comp {A : Around} {elt tg iter : Expr} {scope : Scope} {pos : Pos} {it : Value} {env : Env} : A.over (.compLoop (GE elt tg iter scope pos) 0 it .none env) [] = A.deeper env := by
  first
    | rfl
    | (obtain ⟨hd, d, fr, gs, u⟩ := A; simp [Around.over, Around.deeper, marksOver, frameCount, unitsOf, envsOf, guardsOf, pushEnvs, pushGuards, Code.envs, Code.env?, Code.isFrame, Code.guards, Code.isGuard, Code.weight, Code.frames, Code.isCreation, Code.isCaller, Code.cUnits])
section
variable {X : Cx} {pins : List (Addr × Obj)} {σ : L2.St} {H : Hp} {s : Shared}
/-- what a walk of the generator expression is wanted to bring: bf is the element that ends it -/
def Wlk (J : It) (gg : TG) (te : TE) (σ0 : L2.St) (bf : Bool) (Qt Qf : Hp → Prop) (H2 : Hp) : Prop := ∃ (n : Nat) (Pv : Nat → Hp → Prop), Pv 0 H2 ∧ ∀ i H, i ≤ n → Pv i H →
  (i = n ∧ J.stop i H ∧ Qt H) ∨ (i < n ∧ J.go i H ∧ ∀ x H', J.yld i H x H' → gg x σ0 H' fun σ2 H2 => (∀ (j : Nat) (v : V), σ0[j]? = some (some v) → σ2[j]? = some (some v)) ∧ te σ2 H2 fun v H3 => ∃ b, v = .bl b ∧ if b = bf then Qf H3 else Pv (i + 1) H3)
/-- the generator, ready to be walked -/
def Rdy (X : Cx) (pins : List (Addr × Obj)) (σ : L2.St) (bf : Bool) (Qt Qf : Hp → Prop) (a : Addr) (s5 : Shared) : Prop :=
  ∃ (Y : Cx) (σ0 : L2.St) (tn : Nat → Heap → Prop) (fp : List Addr) (Pv : Nat → Hp → Prop) (g n : Nat) (go : Obj),
    Y.prog = X.prog ∧ Y.w = X.w ∧ Y.pn = [(a, go)] ∧ (∀ h : Heap, h.get? a = some go → h.IsGen a g) ∧ Aw Y X.A.in1.in1 σ0 tn fp Pv Qt Qf g n bf 0 s5 ∧ (∀ σ' H' s', Inv Y [] σ' H' s' → Inv X pins σ H' s')
theorem gen_any {elt tg iter : Expr} {gpos : Pos} {scope : Scope} {xs : List Str} {wi : TI} {gg : TG} {te : TE} {c P : Addr} {k : Nat} {bf : Bool} {Qt Qf : Hp → Prop} {Q' : Value → Shared → Prop}
    (hr : Room (k + 1) X.A) (hc : X.calm = true) (TB : LamX.TabB X.base X.mg c P) (hcode : X.env.code = .ref c) (L : GnS X.env.scope scope xs) (hN : ((".0" : Str) :: (xs ++ X.N)).Nodup) (hi : PI X tg iter wi)
    (hg : ∀ (A : Around) (s : Shared) (H : Hp) (C : Addr) (code : Value) (fp : List Addr) (pn : List (Addr × Obj)), PG (genCx X A xs s H (gEnv X scope C code) fp pn) tg gg)
    (he : ∀ (A : Around) (s : Shared) (H : Hp) (C : Addr) (code : Value) (fp : List Addr) (pn : List (Addr × Obj)), Room k A → PE (genCx X A xs s H (gEnv X scope C code) fp pn) elt te)
    (hs : ∀ v, genFold iter X.env v = pure v) (I : Inv X pins σ H s)
    (h : wi σ H fun J H1 => GxR.TabG H1 P ∧ ∀ H2, GxR.Tabbed P H1 H2 → Wlk J gg te (blank xs σ) bf Qt Qf H2)
    (hQ : ∀ a s5, Rdy X pins σ bf Qt Qf a s5 → Q' (.ref a) s5) :
    wpAny (model X.prog X.w) X.A (eval (.GeneratorExp elt [⟨tg, iter, [], 0⟩] scope gpos) X.env) Q' X.xe s := by
  refine wpAny_GeneratorExp_make L.co (closure_ok (L.has I.ok)) L.cell L.dot L.kind hr.depth ?_ hs
  refine thn (hi.run pins s σ H _ I h) fun xv s1 hx => thn hx fun itv s2 h2 => ?_
  obtain ⟨it, fp, tn, J, H1, e, I1, T, st1, f1, ⟨ps, hP, ht⟩, wk⟩ := h2
  subst e
  have hPs : s2.heap.get? P = some { cls := .none, data := .fields ps } := I1.hok P _ hP
  have cd : PySem.W.CodeHd s2.heap c P := TB.code.keeps fun b u e => I1.bk b u e
  have sz : ∀ b ∈ fp, b < s2.heap.objs.size := fun b hb => by
    obtain ⟨o, e, _⟩ := T.obj _ _ st1 b hb
    exact Heap.lt_size e
  have fP : ∀ b ∈ fp, b ≠ P := fun b hb z => by
    have q := (f1 b hb).1
    rw [z, hP] at q
    cases q
  have cont : ∀ (code : Value) (h3 : Heap) (tk : Nat) (ps' : Array Value), Heap.ExtBut P s2.heap h3 → s2.heap.objs.size ≤ h3.objs.size → h3.get? P = some { cls := .none, data := .fields ps' } → (∃ more, ps' = ps ++ more) → TriplesOk ps'.toList →
      wpAny (model X.prog X.w) X.A (builtinsFor X.env.globals X.env.builtins) (fun bi s₄ =>
        ∀ h', h'.Ns s₄.heap.objs.size (fun y => if y = ".0" then some (.ref it) else none) → Heap.SameBut s₄.heap.objs.size (s₄.heap.push { cls := .type "frame", data := .dict #[] }) h' →
          Q' (.ref h'.objs.size) { s₄ with
            gens := s₄.gens.push (.fresh (.compStart (.GeneratorExp elt [⟨tg, iter, [], 0⟩] scope gpos) 0 (.ref it) .none (genEnv scope (cloFrom X.env.cells scope.names []) s₄.heap.objs.size code bi X.env))),
            toks := s₄.toks + 1 + 1 + 1,
            heap := h'.push { cls := .type "generator", data := .fields #[.int s₄.gens.size 0, .str "<genexpr>" (s₄.toks + 1), .str (X.env.qual ++ "<genexpr>") (s₄.toks + 1 + 1)] } }) X.xe { s2 with heap := h3, toks := tk } := by
    intro code h3 tk ps' hx hsz hP3 hmore ht3
    obtain ⟨bm, ob, e1, e2, e3, e4, e5, e6, e7, e8⟩ := TB.bm
    have keep3 : ∀ b u, b ≠ P → s2.heap.get? b = some u → h3.get? b = some u := fun b u hb e => hx b u hb e
    refine wpAny_builtinsFor (m := X.mg) (by rw [I1.ok.glob]; exact (I1.mod.glob.keeps I1.bk).extBut hx TB.gP) e1 e2 (keep3 _ _ e4 (I1.bk _ _ e5)) e6 e7 e8 ?_
    intro h' hns hsb
    obtain ⟨more, em⟩ := hmore
    -- the table has grown
    have I3 := GxR.inv_tab (more := more) (h' := h3) (g' := s2.gens) (d' := s2.drawn) (t' := tk) I1 hP keep3 (by rw [← em]; exact hP3) I1.bare
    have hT : GxR.Tabbed P H1 (upd H1 P (.tbl (ps ++ more))) := ⟨⟨ps ++ more, upd_same, by rw [← em]; exact ht3⟩, fun b hb => upd_ne hb⟩
    obtain ⟨n, Pv, p0, turn⟩ := wk _ hT
    generalize hH3 : upd H1 P (.tbl (ps ++ more)) = H3 at I3 p0 hT
    generalize hs3 : ({ s2 with heap := h3, gens := s2.gens, drawn := s2.drawn, toks := tk } : Shared) = s3 at I3
    have es3 : s3 = { s2 with heap := h3, toks := tk } := by rw [← hs3]
    have hns : h'.Ns s3.heap.objs.size (fun y => if y = ".0" then some (.ref it) else none) := by rw [← hs3]; exact hns
    have hsb : Heap.SameBut s3.heap.objs.size (s3.heap.push { cls := .type "frame", data := .dict #[] }) h' := by rw [← hs3]; exact hsb
    have hs3h : s3.heap = h3 := by rw [es3]
    have hs3g : s3.gens = s2.gens := by rw [es3]
    have st3 : tn 0 s3.heap := T.keep _ _ _ st1 fun b hb o e => by rw [hs3h]; exact keep3 b o (fP b hb) e
    have f3 : ∀ b ∈ fp, FpOk X pins H3 b ∧ b < s3.heap.objs.size := fun b hb => by
      refine ⟨⟨?_, (f1 b hb).2⟩, by rw [hs3h]; exact Nat.lt_of_lt_of_le (sz b hb) hsz⟩
      rw [← hH3, upd_ne (fP b hb)]
      exact (f1 b hb).1
    have hsz' : h'.objs.size = s3.heap.objs.size + 1 := by rw [hsb.1, Heap.size_push]
    have kp' : ∀ b o, s3.heap.get? b = some o → h'.get? b = some o := fun b o e => hsb.extBut b o (Nat.ne_of_lt (Heap.lt_size e)) (Heap.get?_push_of_some _ e)
    generalize hgo : ({ cls := .type "generator", data := .fields #[.int s3.gens.size 0, .str "<genexpr>" (s3.toks + 1), .str (X.env.qual ++ "<genexpr>") (s3.toks + 1 + 1)] } : Obj) = go
    have kp : ∀ b o, s3.heap.get? b = some o → (h'.push go).get? b = some o := fun b o e => Heap.get?_push_of_some _ (kp' b o e)
    have hba : AllBare (s3.gens.push (.fresh (.compStart (.GeneratorExp elt [⟨tg, iter, [], 0⟩] scope gpos) 0 (.ref it) .none (gEnv X scope s3.heap.objs.size code)))) := by
      rw [hs3g]; exact I1.bare.push rfl
    have hgo2 : (h'.push go).get? h'.objs.size = some go := Heap.get?_push_size _ (by rw [← hgo]; rfl)
    have dne : ∀ v, go.data ≠ .cell v := fun v z => by rw [← hgo] at z; cases z
    have I5 := gen_start (A := X.A.in1.in1.deeper (gEnv X scope s3.heap.objs.size code)) (xs := xs) (code := code) (fp := fp) (a := h'.objs.size) (go := go) (tk := s3.toks + 1 + 1 + 1) I3 L hN hr.hd (Around.frames_deeper I3.ok.frames) f3 (hns.push _) kp (by omega) hgo2 dne hba
    generalize hY : genCx X (X.A.in1.in1.deeper (gEnv X scope s3.heap.objs.size code)) xs s3 H3 (gEnv X scope s3.heap.objs.size code) fp [(h'.objs.size, go)] = Y at I5
    have rY : Room k (X.A.in1.in1.deeper (gEnv X scope s3.heap.objs.size code)) := ⟨hr.hd, by have := hr.dp; show X.A.depth + 1 + 3 * k + 5 < _; omega, by have := hr.un; show X.A.units + 1 + 1 + 3 + 16 * k + 200 < _; omega⟩
    have pgY := hg (X.A.in1.in1.deeper (gEnv X scope s3.heap.objs.size code)) s3 H3 s3.heap.objs.size code fp [(h'.objs.size, go)]
    have peY := he (X.A.in1.in1.deeper (gEnv X scope s3.heap.objs.size code)) s3 H3 s3.heap.objs.size code fp [(h'.objs.size, go)] rY
    rw [hY] at pgY peY
    have y1 : Y.prog = X.prog := by rw [← hY]; rfl
    have y2 : Y.w = X.w := by rw [← hY]; rfl
    have y3 : Y.K = X.K := by rw [← hY]; rfl
    have y4 : Y.env = gEnv X scope s3.heap.objs.size code := by rw [← hY]; rfl
    have y5 : Y.pn = [(h'.objs.size, go)] := by rw [← hY]; rfl
    have y6 : Y.ex = fp := by rw [← hY]; rfl
    have y7 : Y.xe = fun _ _ => False := by rw [← hY]; rfl
    have y8 : Y.calm = true := by rw [← hY]; rfl
    have y9 : Y.A = X.A.in1.in1.deeper (gEnv X scope s3.heap.objs.size code) := by rw [← hY]; rfl
    have gsz : ∀ {i : Nat}, i < h'.objs.size + 1 → True := fun _ => trivial
    have hpn : ∀ b ∈ fp, ∀ p ∈ Y.pn, p.1 ≠ b := fun b hb p hp => by
      rw [y5] at hp
      have hp : p = (h'.objs.size, go) := by simpa using hp
      rw [hp]
      exact fun z => absurd (f3 b hb).2 (by rw [← (show h'.objs.size = b from z), hsz']; exact Nat.not_lt.mpr (Nat.le_succ _))
    have hTY : Turn Y.prog Y.w Y.K tg J fp it tn := by rw [y1, y2, y3]; exact T
    have hgg : s3.gens.size < (s3.gens.push (.fresh (.compStart (.GeneratorExp elt [⟨tg, iter, [], 0⟩] scope gpos) 0 (.ref it) .none (gEnv X scope s3.heap.objs.size code)))).size := by rw [Array.size_push]; omega
    refine hQ _ _ ⟨Y, blank xs σ, tn, fp, Pv, s3.gens.size, n, go, y1, y2, y5, fun h e => ⟨go, _, _, e, by rw [← hgo], by rw [← hgo], by rw [← hgo]⟩, ⟨⟨H3, I5, T.keep _ _ _ st3 fun b _ o e => kp b o e, fun b hb => (f3 b hb).1.1, p0, hgg⟩, _, Array.getElem?_push_size .., rfl, ?_⟩, fun σ' H' s' I' => ?_⟩
    ·
      have sl : Slp Y (blank xs σ) tn fp Pv s3.gens.size 0 (({ s3 with gens := s3.gens.push (.fresh (.compStart (.GeneratorExp elt [⟨tg, iter, [], 0⟩] scope gpos) 0 (.ref it) .none (gEnv X scope s3.heap.objs.size code))), toks := s3.toks + 1 + 1 + 1, heap := h'.push go } : Shared).setGen s3.gens.size .running) :=
        ⟨H3, inv_gens I5 (allBare_setGen I5.bare rfl), T.keep _ _ _ st3 fun b _ o e => kp b o e, fun b hb => (f3 b hb).1.1, p0, by rw [setGen_size]; exact hgg⟩
      have sg := fun s₀ => seg_start (s₀ := s₀) hTY (T.keep _ _ _ st3 fun b _ o e => kp b o e) (seg_loop (J := J) (by rw [y9, y4]; exact over_comp (elt := elt) (tg := tg) (iter := iter) (scope := scope) (pos := gpos)) y8 hTY (fun b hb => by rw [y6]; exact hb) hpn pgY peY y7 (by rw [y4]; exact L.co) (fun _ _ => trivial) turn (n - 0) 0 s₀ _ rfl (Nat.zero_le _) sl)
      rw [y4] at sg
      exact sg _
    · rw [← hY] at I'
      exact I3.call' (ch := fp) I'.os I'.base I'.hok I'.bare fun b hb => ⟨(f3 b hb).1.2.2.2.1, (f3 b hb).1.2.1, (f3 b hb).1.2.2.2.2.1, (f3 b hb).1.2.2.2.2.2⟩
  refine ⟨I1.nolimit, ?_⟩
  cases hf : codeAmong gpos ps.toList with
  | none =>
    refine wpAny_genexprCodeX hcode (cd.code hPs ht) (cd.tab hPs) hf fun c' h' tk hx hge hlt hco' _ htab' _ => ?_
    obtain ⟨o1, vs, f1, tf, fl, tg, inF, tx, tt, op, _, _, _, _, _, _, _, _, _, htr, _⟩ := hco'
    exact cont _ h' tk _ hx (Nat.le_trans hge (Nat.le_of_lt hlt)) htab'.2 ⟨_, rfl⟩ htr
  | some cv =>
    refine wpAny_genexprCode_hit hcode (cd.code hPs ht) hf ?_
    exact cont cv s2.heap s2.toks ps (Heap.ExtBut.refl _ _) (Nat.le_refl _) hPs ⟨#[], by simp⟩ ht
end
end Kg
namespace Kg
open PySem PySem.Spec PyProof.Rows L2 GenW
/-- all(e for tg in it), any(e for tg in it): P the def's table -/
def tAllG (P : Addr) (wi : TI) (gg : TG) (te : TE) (xs : List Str) : TE := fun σ H Q => wi σ H fun J H1 => GxR.TabG H1 P ∧ ∀ H2, GxR.Tabbed P H1 H2 → Wlk J gg te (blank xs σ) false (fun H => Q (.bl true) H) (fun H => Q (.bl false) H) H2
def tAnyG (P : Addr) (wi : TI) (gg : TG) (te : TE) (xs : List Str) : TE := fun σ H Q => wi σ H fun J H1 => GxR.TabG H1 P ∧ ∀ H2, GxR.Tabbed P H1 H2 → Wlk J gg te (blank xs σ) true (fun H => Q (.bl false) H) (fun H => Q (.bl true) H) H2
section
variable {X : Cx} {elt tg iter : Expr} {p pos gpos : Pos} {scope : Scope} {xs : List Str} {wi : TI} {gg : TG} {te : TE} {c P : Addr} {k : Nat}
theorem pe_allG (hr : Room (k + 1) X.A) (hc : X.calm = true) (hgl : Gl X "all") (hm : X.mg "all" = none) (hb : bootBuiltins "all" = some (.builtin "all")) (TB : LamX.TabB X.base X.mg c P) (hcode : X.env.code = .ref c) (L : GnS X.env.scope scope xs) (hN : ((".0" : Str) :: (xs ++ X.N)).Nodup) (hi : PI X tg iter wi)
    (hg : ∀ (A : Around) (s : Shared) (H : Hp) (C : Addr) (code : Value) (fp : List Addr) (pn : List (Addr × Obj)), PG (genCx X A xs s H (gEnv X scope C code) fp pn) tg gg)
    (he : ∀ (A : Around) (s : Shared) (H : Hp) (C : Addr) (code : Value) (fp : List Addr) (pn : List (Addr × Obj)), Room k A → PE (genCx X A xs s H (gEnv X scope C code) fp pn) elt te)
    (hs : ∀ v, genFold iter X.env v = pure v)
    (hst : starEach [.GeneratorExp elt [⟨tg, iter, [], 0⟩] scope gpos] X.env = (false, eval (.GeneratorExp elt [⟨tg, iter, [], 0⟩] scope gpos) X.env) :: starEach [] X.env := by rfl) :
    PE X (.Call (.Name "all" p) [.GeneratorExp elt [⟨tg, iter, [], 0⟩] scope gpos] [] pos) (tAllG P wi gg te xs) := by
  refine ⟨fun pins s σ H Q I h => ?_⟩
  refine wpAny_Call_Name_kw (ld_blt I hgl hm hb ?_)
  refine PyProof.Rows.callWith_builtin1 ?_ hst (by rfl)
  rw [hst]
  show wpAny _ _ (spliced ((false, eval (.GeneratorExp elt [⟨tg, iter, [], 0⟩] scope gpos) X.env) :: backTo pos (starEach [] X.env))) _ _ s
  refine Calls.spliced_cons (gen_any hr hc TB hcode L hN hi hg he hs I h fun a s5 hR => ?_)
  obtain ⟨Y, σ0, tn, fp, Pv, g, n, go, y1, y2, y3, hgen, aw, back⟩ := hR
  refine Calls.spliced_nil ?_
  refine call_function_tree F.kind_all F.plain_all F.entry_all (F.args_all1 _) ?_
  unfold Builtin.«all»
  refine wpAny_bind (m := oneArg "all" _) (wpAny_pure ?_)
  have hpin : s5.heap.IsGen a g := by
    obtain ⟨⟨H5, I5, _⟩, _⟩ := aw
    exact hgen _ (I5.pin (a, go) (by rw [y3]; simp)).1
  refine wpAny_bind (wpAny_pyIter_gen hpin ?_)
  refine wpAny_pure ⟨plainId_quiet F.plain_all_loop _, ?_⟩
  rw [← y1, ← y2]
  refine all_loop (A := X.A) hr.hd hr.depth y3 hgen (fun s' σ' H' I' q => ?_) (fun s' σ' H' I' q => ?_) (n - 0) 0 s5 rfl (Nat.zero_le _) aw
  · exact ⟨.bl false, H', back _ _ _ I', rfl, q⟩
  · exact ⟨.bl true, H', back _ _ _ I', rfl, q⟩
theorem pe_anyG (hr : Room (k + 1) X.A) (hc : X.calm = true) (hgl : Gl X "any") (hm : X.mg "any" = none) (hb : bootBuiltins "any" = some (.builtin "any")) (TB : LamX.TabB X.base X.mg c P) (hcode : X.env.code = .ref c) (L : GnS X.env.scope scope xs) (hN : ((".0" : Str) :: (xs ++ X.N)).Nodup) (hi : PI X tg iter wi)
    (hg : ∀ (A : Around) (s : Shared) (H : Hp) (C : Addr) (code : Value) (fp : List Addr) (pn : List (Addr × Obj)), PG (genCx X A xs s H (gEnv X scope C code) fp pn) tg gg)
    (he : ∀ (A : Around) (s : Shared) (H : Hp) (C : Addr) (code : Value) (fp : List Addr) (pn : List (Addr × Obj)), Room k A → PE (genCx X A xs s H (gEnv X scope C code) fp pn) elt te)
    (hs : ∀ v, genFold iter X.env v = pure v)
    (hst : starEach [.GeneratorExp elt [⟨tg, iter, [], 0⟩] scope gpos] X.env = (false, eval (.GeneratorExp elt [⟨tg, iter, [], 0⟩] scope gpos) X.env) :: starEach [] X.env := by rfl) :
    PE X (.Call (.Name "any" p) [.GeneratorExp elt [⟨tg, iter, [], 0⟩] scope gpos] [] pos) (tAnyG P wi gg te xs) := by
  refine ⟨fun pins s σ H Q I h => ?_⟩
  refine wpAny_Call_Name_kw (ld_blt I hgl hm hb ?_)
  refine PyProof.Rows.callWith_builtin1 ?_ hst (by rfl)
  rw [hst]
  show wpAny _ _ (spliced ((false, eval (.GeneratorExp elt [⟨tg, iter, [], 0⟩] scope gpos) X.env) :: backTo pos (starEach [] X.env))) _ _ s
  refine Calls.spliced_cons (gen_any hr hc TB hcode L hN hi hg he hs I h fun a s5 hR => ?_)
  obtain ⟨Y, σ0, tn, fp, Pv, g, n, go, y1, y2, y3, hgen, aw, back⟩ := hR
  refine Calls.spliced_nil ?_
  refine call_function_tree F.kind_any F.plain_any F.entry_any (F.args_any1 _) ?_
  unfold Builtin.«any»
  refine wpAny_bind (m := oneArg "any" _) (wpAny_pure ?_)
  have hpin : s5.heap.IsGen a g := by
    obtain ⟨⟨H5, I5, _⟩, _⟩ := aw
    exact hgen _ (I5.pin (a, go) (by rw [y3]; simp)).1
  refine wpAny_bind (wpAny_pyIter_gen hpin ?_)
  refine wpAny_pure ⟨plainId_quiet F.plain_any_loop _, ?_⟩
  rw [← y1, ← y2]
  refine any_loop (A := X.A) hr.hd hr.depth y3 hgen (fun s' σ' H' I' q => ?_) (fun s' σ' H' I' q => ?_) (n - 0) 0 s5 rfl (Nat.zero_le _) aw
  · exact ⟨.bl true, H', back _ _ _ I', rfl, q⟩
  · exact ⟨.bl false, H', back _ _ _ I', rfl, q⟩
end
end Kg
namespace Kg
open PySem PySem.Spec PyProof.Rows L2 GenW
theorem blank_set {xs : List Str} {σ : L2.St} {i : Nat} {x : V} (hi : i < xs.length) : ∀ (j : Nat) (v : V), (blank xs σ)[j]? = some (some v) → ((blank xs σ).set i (some x))[j]? = some (some v) := fun j v h => by
  have ne : i ≠ j := fun z => by
    subst z
    unfold blank at h
    rw [List.getElem?_append_left (by simpa using hi), List.getElem?_map] at h
    cases q : xs[i]? with
    | none => rw [q] at h; cases h
    | some z => rw [q] at h; cases h
  rw [List.getElem?_set_ne ne]
  exact h
/-- a walk that keeps the heap as it is, its elements told by a test -/
theorem wlk_pure {J : It} {n : Nat} {te : TE} {x : Str} {σ : L2.St} {bf : Bool} {Qt Qf : Hp → Prop} {H2 : Hp} {xs : Nat → V} {pb : Nat → Bool} (w : Walk J n (fun H => H = H2) (fun i H v H' => H' = H ∧ v = xs i))
    (he : ∀ i, i < n → ∀ R : VK, R (.bl (pb i)) H2 → te (some (xs i) :: σ) H2 R) (ht : (∀ i, i < n → pb i = !bf) → Qt H2) (hf : ∀ i, i < n → pb i = bf → Qf H2) : Wlk J (gName 0) te (blank [x] σ) bf Qt Qf H2 := by
  refine ⟨n, fun i H => H = H2 ∧ ∀ j, j < i → pb j = !bf, ⟨rfl, fun j hj => absurd hj (Nat.not_lt_zero j)⟩, ?_⟩
  rintro i H hi ⟨rfl, hp⟩
  by_cases hlt : i < n
  · refine .inr ⟨hlt, w.goes i _ hlt rfl, fun v H' y => ?_⟩
    obtain ⟨rfl, rfl⟩ := w.yields i _ v H' hlt rfl y
    refine ⟨blank_set (by show 0 < 1; omega), he i hlt _ ⟨_, rfl, ?_⟩⟩
    by_cases h : pb i = bf
    · rw [if_pos h]
      exact hf i hlt h
    · rw [if_neg h]
      refine ⟨rfl, fun j hj => ?_⟩
      by_cases z : j = i
      · rw [z]
        revert h
        cases pb i <;> cases bf <;> first | exact fun _ => rfl | exact fun q => absurd rfl q
      · exact hp j (by omega)
  · have e : i = n := by omega
    subst e
    exact .inl ⟨rfl, w.stops _ rfl, ht fun j hj => hp j hj⟩
/-- .. over a text's signs -/
theorem wlk_str {z : Str} {te : TE} {x : Str} {σ : L2.St} {Qt Qf : Hp → Prop} {H2 : Hp} {pb : Nat → Bool} (he : ∀ c, c ∈ z.cps.toList → ∀ R : VK, R (.bl (pb c)) H2 → te (some (.str ⟨#[c]⟩) :: σ) H2 R)
    (ht : z.cps.toList.all pb = true → Qt H2) (hf : z.cps.toList.all pb = false → Qf H2) : Wlk (Its z) (gName 0) te (blank [x] σ) false Qt Qf H2 := by
  have get : ∀ i, i < z.cps.size → z.cps[i]? = some (z.cps.toList.getD i 0) := fun i hi => by
    rw [← Array.getElem?_toList, List.getD_eq_getElem?_getD, List.getElem?_eq_getElem (by simpa using hi)]
    rfl
  have mem : ∀ i, i < z.cps.size → z.cps.toList.getD i 0 ∈ z.cps.toList := fun i hi => by
    rw [List.getD_eq_getElem?_getD, List.getElem?_eq_getElem (by simpa using hi)]
    exact List.getElem_mem _
  refine wlk_pure (n := z.cps.size) (xs := fun i => .str ⟨#[z.cps.toList.getD i 0]⟩) (pb := fun i => pb (z.cps.toList.getD i 0)) (walk_str.mono (fun _ _ => trivial) fun i H v H' hi _ y => ?_) (fun i hi R r => he _ (mem i hi) R r) (fun h => ht ?_) fun i hi h => hf ?_
  · obtain ⟨e, c, e1, e2⟩ := y
    rw [get i hi] at e1
    cases e1
    exact ⟨e, e2⟩
  · rw [List.all_eq_true]
    intro c hc
    obtain ⟨i, hi, e⟩ := List.getElem_of_mem hc
    have hi' : i < z.cps.size := by simpa using hi
    have q := h i hi'
    rw [List.getD_eq_getElem?_getD, List.getElem?_eq_getElem hi] at q
    have q : pb z.cps.toList[i] = !false := q
    rw [e] at q
    exact q
  · rw [List.all_eq_false]
    exact ⟨_, mem i hi, by rw [h]; exact Bool.false_ne_true⟩
end Kg
set_option maxHeartbeats 2000000
/-! own: defs whose code object has a table (generator expressions, lambdas), by their names -/
namespace Kj
open PySem PySem.Spec PyProof.Rows L2 Kt
/-- the def x with its code object c and c's table P -/
structure TblF (K : PySem.W.Frag) (mg : Str → Option Value) (x : Str) (st : Stmt) (c P : Addr) : Prop where
  ex : ∃ (f : Addr) (oc : Value) (od : Option Addr) (kV doc pm : Value) (an : Option Addr) (ct : Value) (osl : Array (Option Value)), mg x = some (.ref f) ∧ PySem.W.keepIn K (.ref f) = true ∧
    K.lookup f = some ⟨oc, od, .func (PySem.W.fnOf x x (defArgs st) (defBody st) (defScope st) .none kV doc pm an (.ref c) ct), osl⟩ ∧ PySem.W.codeIn K (.ref c) x = true
structure Tbl (K : PySem.W.Frag) (mg : Str → Option Value) (base : Heap) (x : Str) (st : Stmt) (P : Addr) : Prop where
  ex : ∃ c, TblF K mg x st c P ∧ LamX.TabB base mg c P
section
variable {P : Program} {w : World} {K : PySem.W.Frag} {mg : Str → Option Value} {base : Heap} {x : Str} {st : Stmt} {N ps : List Str} {k : Nat} {sp : Sp} {T : Addr}
theorem Tbl.ok (D : Tbl K mg base x st T) (S : FnScope N ps (defScope st)) (hb : BindH st x ps) (len : ∀ vs H Q E, sp vs H Q E → vs.length = ps.length)
    (body : ∀ (f c : Addr) (A : Around) (outer : List Env) (s : Shared) (H : Hp) (vs : List V) (Q : VK) (E : XK), LamX.TabB base mg c T → Room k (A.deeper (envOfC x (defScope st) s.heap.objs.size f (.ref c))) → sp vs H Q E →
      ∃ t, PSs (cxOf CX0 P w K mg base N x (defScope st) f (.ref c) A outer s H E).nox (defBody st) t ∧ t { nx := fun _ H' => Q .non H', rt := Q } (start N vs) H) : Prom P w K mg base CX0 (k + 1) x ps sp := by
  obtain ⟨c, ⟨f, oc, od, kV, doc, pm, an, ct, osl, g, kp, lk, hcd⟩, TB⟩ := D.ex
  have F : Fun K x x st f (PySem.W.fnOf x x (defArgs st) (defBody st) (defScope st) .none kV doc pm an (.ref c) ct) := fun_mk lk hcd kp
  refine ⟨f, _, g, kp, F.binds hb, ?_, _, F⟩
  refine fn_of lk hcd S len fun A outer s H vs Q E hr hsp => ?_
  obtain ⟨t, h, q⟩ := body f c A outer s H vs Q E TB hr hsp
  exact ⟨t, h.nox, q⟩
theorem Tbl.okXN (D : Tbl K mg base x st T) (S : FnScope N ps (defScope st)) (hb : BindH st x ps) (len : ∀ vs H Q E, sp vs H Q E → vs.length = ps.length)
    (body : ∀ (f c : Addr) (A : Around) (outer : List Env) (s : Shared) (H : Hp) (vs : List V) (Q : VK) (E : XK), LamX.TabB base mg c T → Room k (A.deeper (envOfC x (defScope st) s.heap.objs.size f (.ref c))) → sp vs H Q E →
      ∃ t, PSs (cxOf (L2N.CX P w) P w K mg base N x (defScope st) f (.ref c) A outer s H E) (defBody st) t ∧ t { nx := fun _ H' => Q .non H', rt := Q } (L2.start N vs) H) : Prom P w K mg base (L2N.CX P w) (k + 1) x ps sp := by
  obtain ⟨c, ⟨f, oc, od, kV, doc, pm, an, ct, osl, g, kp, lk, hcd⟩, TB⟩ := D.ex
  have F : Fun K x x st f (PySem.W.fnOf x x (defArgs st) (defBody st) (defScope st) .none kV doc pm an (.ref c) ct) := fun_mk lk hcd kp
  refine ⟨f, _, g, kp, F.binds hb, ?_, _, F⟩
  exact fn_of lk hcd S len fun A outer s H vs Q E hr hsp => body f c A outer s H vs Q E TB hr hsp
theorem tblF_mk {h : Heap} {f c : Addr} {oc : Value} {od an : Option Addr} {osl : Array (Option Value)} {kV doc pm ct : Value} (X : K.In h) (G : h.Ns mainGlobals mg) (a : PySem.W.nsIn K mainGlobals x = some (some (.ref f)))
    (l : K.lookup f = some ⟨oc, od, .func (PySem.W.fnOf x x (defArgs st) (defBody st) (defScope st) .none kV doc pm an (.ref c) ct), osl⟩) (e : PySem.W.codeIn K (.ref c) x = true) (k : PySem.W.keepIn K (.ref f) = true) : TblF K mg x st c T :=
  ⟨f, oc, od, kV, doc, pm, an, ct, osl, PySem.W.mg_of X G a, k, l, e⟩
end
theorem str_mk {K : PySem.W.Frag} {h : Heap} {mg : Str → Option Value} {x z : Str} {t : Tok} (X : K.In h) (G : h.Ns mainGlobals mg) (a : PySem.W.nsIn K mainGlobals x = some (some (.str z t))) : ∃ t, mg x = some (.str z t) := ⟨t, PySem.W.mg_of X G a⟩
/-! ### tables that may grow -/
def TG (Ts : List Addr) (H : Hp) : Prop := ∀ T ∈ Ts, GxR.TabG H T
/-- all but the tables stays, the tables are there, tables stay tables -/
structure ST (Ts : List Addr) (H H' : Hp) : Prop where
  tg : TG Ts H'
  ex : LamX.ExtN H H'
  tb : ∀ b ps, H b = some (.tbl ps) → ∃ ps', H' b = some (.tbl ps')
section
variable {Ts : List Addr} {H H1 H2 : Hp} {T b : Addr} {o : HO}
theorem TG.same (t : TG Ts H) (s : Same H H1) : TG Ts H1 := fun T hT => by
  obtain ⟨ps, h1, h2⟩ := t T hT
  exact ⟨ps, s _ _ h1, h2⟩
theorem same_upd (n : H b = none) : Same H (upd H b o) := fun c u e => by
  rw [upd_ne (fun z => by rw [z, n] at e; cases e)]
  exact e
theorem TG.put (t : TG Ts H) (n : H b = none) : TG Ts (upd H b o) := t.same (same_upd n)
theorem ST.of (t : TG Ts H) (s : Same H H1) : ST Ts H H1 := ⟨t.same s, LamX.ExtN.of s, fun b ps e => ⟨ps, s b _ e⟩⟩
theorem ST.refl (t : TG Ts H) : ST Ts H H := .of t (Same.refl H)
theorem ST.trans (a : ST Ts H H1) (b : ST Ts H1 H2) : ST Ts H H2 := ⟨b.tg, a.ex.trans b.ex, fun c ps e => let ⟨ps', e'⟩ := a.tb c ps e; b.tb c ps' e'⟩
theorem ST.and (a : ST Ts H H1) (s : Same H1 H2) : ST Ts H H2 := a.trans (.of a.tg s)
theorem ST.new (a : ST Ts H H1) (n : H1 b = none) : ST Ts H (upd H1 b o) := a.and (same_upd n)
/-- an own object written: it was none before, it is no table -/
theorem ST.put (a : ST Ts H H1) (n : H b = none) (nt : ∀ ps, H1 b ≠ some (.tbl ps)) : ST Ts H (upd H1 b o) := by
  have ne : ∀ c ps, H1 c = some (.tbl ps) → c ≠ b := fun c ps e z => nt ps (by rw [← z]; exact e)
  refine ⟨fun T hT => ?_, fun c u e nu => ?_, fun c ps e => ?_⟩
  · obtain ⟨ps, h1, h2⟩ := a.tg T hT
    exact ⟨ps, by rw [upd_ne (ne T ps h1)]; exact h1, h2⟩
  · rw [upd_ne (fun z => by rw [z, n] at e; cases e)]
    exact a.ex c u e nu
  · obtain ⟨ps', e'⟩ := a.tb c ps e
    exact ⟨ps', by rw [upd_ne (ne c ps' e')]; exact e'⟩
theorem ST.tabbed (t : TG Ts H) (hT : T ∈ Ts) (g : GxR.Tabbed T H H1) : ST Ts H H1 := by
  obtain ⟨g1, g2⟩ := g
  refine ⟨fun S hS => ?_, fun c u e ne => ?_, fun c ps e => ?_⟩
  · by_cases z : S = T
    · rw [z]
      exact g1
    · obtain ⟨ps, h1, h2⟩ := t S hS
      exact ⟨ps, (g2 S z).trans h1, h2⟩
  · have hc : c ≠ T := fun z => by
      obtain ⟨ps, h1, _⟩ := t T hT
      rw [z, h1] at e
      exact ne ps (Option.some.inj e).symm
    exact (g2 c hc).trans e
  · by_cases z : c = T
    · obtain ⟨ps', h1, _⟩ := g1
      exact ⟨ps', by rw [z]; exact h1⟩
    · exact ⟨ps, (g2 c z).trans e⟩
theorem ST.tup (a : ST Ts H H1) {xs : List V} (e : H b = some (.tup xs)) : H1 b = some (.tup xs) := a.ex _ _ e fun ps z => by cases z
theorem ST.lst (a : ST Ts H H1) {xs : List V} (e : H b = some (.lst xs)) : H1 b = some (.lst xs) := a.ex _ _ e fun ps z => by cases z
theorem ST.sqL {K : PySem.W.Frag} (a : ST Ts H H1) {xs : List V} (e : SqL K H b xs) : SqL K H1 b xs := by
  rcases e with (e | ⟨o, e⟩) | e
  · exact .inl (.inl (a.lst e))
  · exact .inl (.inr ⟨o, a.ex _ _ e fun ps z => by cases z⟩)
  · exact .inr e
theorem ST.free (a : ST Ts H H1) (e : H1 b = none) : H b = none := by
  cases q : H b with
  | none => rfl
  | some u =>
    cases u with
    | tbl ps =>
      obtain ⟨ps', z⟩ := a.tb b ps q
      rw [e] at z
      cases z
    | _ =>
      have := a.ex b _ q (fun ps z => by cases z)
      rw [e] at this
      cases this
end
/-! ### the end of a law whose defs have tables -/
/-- the tables' code objects in the written part, from a hook that tells that the tables are empty -/
theorem law_endT {P : Program} {w : World} {l : PySem.W.OpenLaw} {K : PySem.W.Frag} {mg : Str → Option Value} {fa : Addr} {h : Heap} {st : Stmt} {k n : Nat} {x p : Str} {cs : List (Addr × Addr)} {sp : Sp} (hP : l.prog = P) (D : At K mg x st) (hb : BindH st x [p]) (hfa : mg x = some (.ref fa))
    (hT : ∀ q ∈ cs, h.get? q.2 = some { cls := .none, data := .fields #[] }) (nT : ∀ q ∈ cs, K.lookup q.2 = none) (C : ∀ q ∈ cs, PySem.W.CodeHd h q.1 q.2)
    (hsp : ∀ (H : Hp) (a : Addr) (ns : List Int), ns.length ≤ n → (∀ z ∈ ns, Builtin.Int.intBits z ≤ 1048576) → (∀ q ∈ cs, H q.2 = some (.tbl #[])) → SqL K H a (ns.map V.int) → sp [.ref a] H (fun v _ => v = .bl true) fun _ _ _ => False)
    (F : ∀ base : Heap, (∀ q ∈ cs, LamX.TabB base mg q.1 q.2) → Prom P w K mg base CX0 k x [p] sp) : LamX.LawAtS l w K CX0 k n p mg fa h := by
  subst hP
  obtain ⟨f, fd, F0, g⟩ := D.ex
  have e : f = fa := by
    rw [g] at hfa
    cases hfa
    rfl
  subst e
  obtain ⟨oc, od, kV, doc, pm, an, cdv, ct, osl, e1, lk, hcd⟩ := F0.ex
  refine ⟨fd, cs, sp, hT, nT, C, fun s v => .of_eq (by rw [e1]; exact hb kV doc pm an cdv ct [v] rfl), hsp, fun base _ _ TB => ?_⟩
  obtain ⟨f', fd', g', _, _, G', st', F'⟩ := (F base TB).ex
  have e2 : f' = f := by
    rw [g'] at g
    cases g
    rfl
  subst e2
  obtain ⟨_, _, _, _, _, _, _, _, _, _, lk', _⟩ := F'.ex
  have e3 : fd' = fd := by
    rw [lk] at lk'
    cases lk'
    rfl
  subst e3
  exact G'
/-- what the code's object tells of its table -/
theorem hd_tab {K : PySem.W.Frag} {c T : Addr} (e : PySem.W.codeHdIn K c T = true) : ∃ ec dd vs sl, K.lookup c = some ⟨ec, dd, .fields vs, sl⟩ ∧ vs[11]? = some (.ref T) := by
  unfold PySem.W.codeHdIn at e
  split at e
  · rename_i dd vs sl hk
    simp only [Bool.and_eq_true] at e
    obtain ⟨⟨⟨⟨⟨e1, _⟩, _⟩, _⟩, _⟩, _⟩ := e
    refine ⟨_, dd, vs, sl, hk, ?_⟩
    split at e1
    · rename_i T' h11
      rw [h11, beq_iff_eq.mp e1]
    · cases e1
  · cases e
theorem TblF.tab {K : PySem.W.Frag} {mg : Str → Option Value} {x : Str} {st : Stmt} {c T : Addr} {h : Heap} (D : TblF K mg x st c T) (O : ∀ f, mg x = some (.ref f) → LamX.OwnTab K f h) (e : PySem.W.codeHdIn K c T = true) :
    h.get? T = some { cls := .none, data := .fields #[] } := by
  obtain ⟨f, oc, od, kV, doc, pm, an, ct, osl, g, _, l, _⟩ := D.ex
  obtain ⟨ec, dd, vs, sl, k, v⟩ := hd_tab e
  exact O f g c T _ _ ec dd vs sl l rfl rfl k v
/-- the end of a law row: the tables of all defs of the text are empty when the law is called -/
theorem walk_ofTabs {l : PySem.W.OpenLaw} {n k : Nat} {q : Program} {loose : List Str} {XP : (Str → Option Value) → Heap → Prop} {YP : World → Heap → Prop} {d : DefRec} {K : Params → PySem.W.Frag} {CX : World → CXT} {x : Str}
    (hn : l.most = some n) (hn2 : n ≤ sizeLine) (hdf : d.params.defaults = []) (hr : Room k callerA) (hY : ∀ (w : World) (h : Heap), YP w h → (K w.params).In h)
    (F : ∀ (w : World) (mg : Str → Option Value) (fa : Addr) (h : Heap), (K w.params).In h → h.Ns mainGlobals mg → mg d.name = some (.ref fa) →
      (∀ (y : Str), ((recsOf q).any fun e => e.name == y) = true → ∀ f, mg y = some (.ref f) → LamX.OwnTab (K w.params) f h) → LamX.LawAtS l w (K w.params) (CX w) k n x mg fa h)
    (hCX : ∀ (w : World) (H : Hp) (s : Shared) (e : Value) (s' : Shared), CX w [] H s (fun _ _ _ => False) e s' → False) :
    PySem.W.WalkO q loose XP YP l.row.toRowW d [] (fun f vs => PySem.call f vs) := by
  refine Att.attach_callB hn hdf fun w s₀ s₁ mg mb fa o pm cd doc a vs ns G Y ho hd hcd hmg hobj hints hlen hbits hg => ?_
  have KX := hY w _ Y
  have tabs : ∀ (y : Str), ((recsOf q).any fun e => e.name == y) = true → ∀ f, mg y = some (.ref f) → LamX.OwnTab (K w.params) f s₁.heap := by
    intro y hy f hf c T o1 fd1 e dd vs1 sl k1 k2 k3 k4 k5
    obtain ⟨dL, hm, hn1⟩ := List.any_eq_true.mp hy
    obtain ⟨a', o', fd', c', T', h1, h2, h3, h4, h5, h6⟩ := G.T.tab dL hm
    rw [beq_iff_eq.mp hn1, hf] at h1
    cases h1
    have g1 := KX _ _ k1
    rw [g1] at h2
    cases h2
    rw [k2] at h3
    cases h3
    rw [k3] at h4
    cases h4
    obtain ⟨⟨oc, vc, e1, _, e3, e4⟩, hP⟩ := h6
    have g2 := KX _ _ k4
    rw [g2] at e1
    cases e1
    cases e3
    rw [k5] at e4
    cases e4
    exact hP
  obtain ⟨fd, cs, sp, hT, nT, C, hb, hsp, hF⟩ := F w mg fa _ KX G.T.g hmg tabs
  exact LamX.law_callTs KX G.T.g G.T.b G.T.builtins G.T.nolimit hg hT nT C G.T.bmain hobj hints (Nat.le_trans hlen hn2) hr hF hb (fun H hH hS => hsp H a ns hlen hbits hH hS) fun H e s' => hCX w H s₁ e s'
end Kj
set_option maxHeartbeats 2000000
/-! own: plain data and walks while tables grow -/
namespace Kj
open PySem PySem.Spec PyProof.Rows L2 Kt
mutual
theorem rep_ext {H H' : Hp} (s : LamX.ExtN H H') : ∀ (d : Dd) (v : V), Rep H d v → Rep H' d v
  | .non, v, h => by unfold Rep at h ⊢; exact h
  | .bl b, v, h => by unfold Rep at h ⊢; exact h
  | .int b, v, h => by unfold Rep at h ⊢; exact h
  | .str b, v, h => by unfold Rep at h ⊢; exact h
  | .tup ds, v, h => by
    unfold Rep at h ⊢
    obtain ⟨h1, a, xs, e, h2, h3⟩ := h
    exact ⟨h1, a, xs, e, s _ _ h2 (fun ps z => by cases z), repL_ext s ds xs h3⟩
  | .lst ds, v, h => by
    unfold Rep at h ⊢
    obtain ⟨h1, a, xs, e, h2, h3⟩ := h
    exact ⟨h1, a, xs, e, s _ _ h2 (fun ps z => by cases z), repL_ext s ds xs h3⟩
theorem repL_ext {H H' : Hp} (s : LamX.ExtN H H') : ∀ (ds : List Dd) (xs : List V), RepL H ds xs → RepL H' ds xs
  | [], xs, h => by unfold RepL at h ⊢; exact h
  | d :: ds, xs, h => by
    unfold RepL at h ⊢
    obtain ⟨v, r, e, h1, h2⟩ := h
    exact ⟨v, r, e, rep_ext s d v h1, repL_ext s ds r h2⟩
end
theorem rep_st {Ts : List Addr} {H H' : Hp} (s : ST Ts H H') {d : Dd} {v : V} (h : Rep H d v) : Rep H' d v := rep_ext s.ex d v h
theorem repL_st {Ts : List Addr} {H H' : Hp} (s : ST Ts H H') {d : List Dd} {v : List V} (h : RepL H d v) : RepL H' d v := repL_ext s.ex d v h
theorem rep_same {H H' : Hp} (s : Same H H') {d : Dd} {v : V} (h : Rep H d v) : Rep H' d v := rep_ext (LamX.ExtN.of s) d v h
theorem repL_same {H H' : Hp} (s : Same H H') {d : List Dd} {v : List V} (h : RepL H d v) : RepL H' d v := repL_ext (LamX.ExtN.of s) d v h
theorem repL_strs {H : Hp} : ∀ (zs : List Str), RepL H (zs.map Dd.str) (zs.map V.str)
  | [] => by unfold RepL; rfl
  | z :: zs => by
    show RepL H (Dd.str z :: zs.map Dd.str) (V.str z :: zs.map V.str)
    unfold RepL
    exact ⟨_, _, rfl, by unfold Rep; rfl, repL_strs zs⟩
theorem repL_at {H : Hp} {ds : List Dd} {xs : List V} {i : Nat} {v : V} (h : RepL H ds xs) (e : xs[i]? = some v) : ∃ d, ds[i]? = some d ∧ Rep H d v := by
  have hi : i < ds.length := by
    rw [← h.len]
    exact (List.getElem?_eq_some_iff.mp e).1
  obtain ⟨d, v', e1, e2, h3, _⟩ := h.at i hi
  rw [e] at e2
  cases e2
  exact ⟨d, e1, h3⟩
/-- all(..) over a tuple, its element an own call that lets tables grow -/
theorem wlk_tupS {Ts : List Addr} {K : PySem.W.Frag} {a : Addr} {xs : List V} {te : TE} {x : Str} {σ : L2.St} {Qt Qf : Hp → Prop} {H2 : Hp} {pb : Nat → Bool} (hs : H2 a = some (.tup xs)) (tg : TG Ts H2)
    (he : ∀ i v, xs[i]? = some v → ∀ H, ST Ts H2 H → ∀ R : VK, (∀ H', ST Ts H2 H' → R (.bl (pb i)) H') → te (some v :: σ) H R) (ht : ∀ H, ST Ts H2 H → (∀ i, i < xs.length → pb i = true) → Qt H)
    (hf : ∀ H, ST Ts H2 H → ∀ i, i < xs.length → pb i = false → Qf H) : Kg.Wlk (Itt K a) (gName 0) te (Kg.blank [x] σ) false Qt Qf H2 := by
  have w := @walk_tup K a xs
  refine ⟨xs.length, fun i H => ST Ts H2 H ∧ ∀ j, j < i → pb j = true, ⟨ST.refl tg, fun j hj => absurd hj (Nat.not_lt_zero j)⟩, ?_⟩
  rintro i H hi ⟨st, hp⟩
  have hq : SqT K H a xs := SqT.of (st.tup hs)
  by_cases hlt : i < xs.length
  · refine .inr ⟨hlt, w.goes i _ hlt hq, fun v H' y => ?_⟩
    have y' := w.yields i _ v H' hlt hq y
    obtain ⟨rfl, ev⟩ := y'
    refine ⟨Kg.blank_set (by show 0 < 1; omega), he i v ev _ st _ fun H3 st3 => ⟨_, rfl, ?_⟩⟩
    cases h : pb i with
    | false =>
      rw [if_pos rfl]
      exact hf H3 st3 i hlt h
    | true =>
      rw [if_neg (by simp)]
      refine ⟨st3, fun j hj => ?_⟩
      by_cases z : j = i
      · rw [z]
        exact h
      · exact hp j (by omega)
  · have e : i = xs.length := by omega
    subst e
    exact .inl ⟨rfl, w.stops _ hq, ht _ st fun j hj => hp j hj⟩
theorem call_isiK {X : Cx} {K : PySem.W.Frag} (h : X.K = K) : CallR X (.builtin "isinstance") (rIsi K) := h ▸ call_isi
theorem ix_tupK {X : Cx} {K : PySem.W.Frag} (h : X.K = K) : IxR X (rIxT K) := h ▸ ix_tup
end Kj
/-! fractions: the mathematics -/
namespace Fx
def sg (w : Int) : Int := if w < 0 then -1 else 1
def gd (p w : Int) : Int := ((Nat.gcd p.natAbs w.natAbs : Nat) : Int)
def lowP (p w : Int) : Int := sg w * p / gd p w
def lowW (p w : Int) : Int := sg w * w / gd p w
theorem abs_nat (i : Int) : (if i < 0 then -i else i) = ((i.natAbs : Nat) : Int) := by split <;> omega
/-- Euclid's pairs: a bound that falls -/
def Eu (x y i a b : Nat) : Prop := Nat.gcd a b = Nat.gcd x y ∧ (b = 0 ∨ (i = 0 ∧ b < 2 ^ 410) ∨ (1 ≤ i ∧ b < a ∧ a * b * 2 ^ (i - 1) < 2 ^ 820))
theorem eu_0 {x y : Nat} (hy : y < 2 ^ 410) : Eu x y 0 x y := ⟨rfl, .inr (.inl ⟨rfl, hy⟩)⟩
theorem eu_step {x y i a b : Nat} (h : Eu x y i a b) (hb : b ≠ 0) : Eu x y (i + 1) b (a % b) := by
  obtain ⟨hg, h⟩ := h
  have hr : a % b < b := Nat.mod_lt _ (Nat.pos_of_ne_zero hb)
  refine ⟨?_, .inr (.inr ⟨by omega, hr, ?_⟩)⟩
  · rw [← hg, Nat.gcd_comm b (a % b), ← Nat.gcd_rec, Nat.gcd_comm]
  · rw [Nat.add_sub_cancel]
    rcases h with h | ⟨hi, h⟩ | ⟨hi, hlt, h⟩
    · exact absurd h hb
    · subst hi
      rw [Nat.pow_zero, Nat.mul_one]
      have e : (2 : Nat) ^ 820 = 2 ^ 410 * 2 ^ 410 := by rw [← Nat.pow_add]
      rw [e]
      exact Nat.mul_lt_mul'' h (Nat.lt_trans hr h)
    · refine Nat.lt_of_le_of_lt ?_ h
      have h2 : 2 * (a % b) ≤ a := by
        have e := Nat.mod_add_div a b
        have d : 1 ≤ a / b := Nat.div_pos (Nat.le_of_lt hlt) (Nat.pos_of_ne_zero hb)
        have m : b ≤ b * (a / b) := Nat.le_mul_of_pos_right b d
        omega
      have e : i = (i - 1) + 1 := by omega
      rw [e, Nat.pow_succ, Nat.add_sub_cancel]
      have e2 : b * (a % b) * (2 ^ (i - 1) * 2) = 2 * (a % b) * b * 2 ^ (i - 1) := by
        rw [Nat.mul_comm (2 ^ (i - 1)) 2, ← Nat.mul_assoc, Nat.mul_comm (b * (a % b)) 2, ← Nat.mul_assoc, Nat.mul_right_comm 2 b (a % b)]
      rw [e2]
      exact Nat.mul_le_mul_right _ (Nat.mul_le_mul_right _ h2)
theorem eu_end {x y a b : Nat} (h : Eu x y 1000 a b) : b = 0 := by
  obtain ⟨hg, h⟩ := h
  rcases h with h | ⟨hi, h⟩ | ⟨hi, hlt, h⟩
  · exact h
  · omega
  · by_cases hb : b = 0
    · exact hb
    · exfalso
      have p : 1 ≤ a * b := Nat.mul_pos (by omega) (Nat.pos_of_ne_zero hb)
      have q : 2 ^ 999 ≤ a * b * 2 ^ (1000 - 1) := Nat.le_mul_of_pos_left _ p
      have r : (2 : Nat) ^ 820 < 2 ^ 999 := by decide +kernel
      omega
theorem eu_out {x y i a : Nat} (h : Eu x y i a 0) : a = Nat.gcd x y := by
  rw [← h.1, Nat.gcd_zero_right]
theorem gd_pos {p w : Int} (h : w ≠ 0) : 0 < gd p w := by
  have z : 0 < Nat.gcd p.natAbs w.natAbs := Nat.gcd_pos_of_pos_right _ (by omega)
  unfold gd
  omega
theorem gd_le {p w : Int} (h : w ≠ 0) : (gd p w).natAbs ≤ w.natAbs := Nat.le_of_dvd (by omega) (Nat.gcd_dvd_right _ _)
theorem gd_dvd_p (p w : Int) : gd p w ∣ p := Int.ofNat_dvd_left.mpr (Nat.gcd_dvd_left _ _)
theorem gd_dvd_w (p w : Int) : gd p w ∣ w := Int.ofNat_dvd_left.mpr (Nat.gcd_dvd_right _ _)
theorem sg_cases (w : Int) : (w < 0 ∧ sg w = -1) ∨ (0 ≤ w ∧ sg w = 1) := by
  unfold sg
  by_cases h : w < 0
  · exact .inl ⟨h, if_pos h⟩
  · exact .inr ⟨by omega, if_neg h⟩
/-- a fraction in lowest terms, small -/
def Fr (a b : Int) : Prop := -(10 ^ 60) ≤ a ∧ a ≤ 10 ^ 60 ∧ 1 ≤ b ∧ b ≤ 10 ^ 60 ∧ gd a b = 1
theorem gd_neg (p w : Int) : gd (-p) (-w) = gd p w := by
  unfold gd
  rw [Int.natAbs_neg, Int.natAbs_neg]
theorem div_gd {p w : Int} (hw : 0 < w) : gd (p / gd p w) (w / gd p w) = 1 := by
  have hg := gd_pos (p := p) (w := w) (by omega)
  obtain ⟨a, ha⟩ := gd_dvd_p p w
  obtain ⟨b, hb⟩ := gd_dvd_w p w
  generalize hG : gd p w = G at *
  have ea : p / G = a := by rw [ha, Int.mul_ediv_cancel_left _ (by omega)]
  have eb : w / G = b := by rw [hb, Int.mul_ediv_cancel_left _ (by omega)]
  rw [ea, eb]
  have e : gd p w = G * gd a b := by
    rw [ha, hb]
    unfold gd
    rw [Int.natAbs_mul, Int.natAbs_mul, Nat.gcd_mul_left, Int.natCast_mul]
    have : ((G.natAbs : Nat) : Int) = G := by omega
    rw [this]
  rw [hG] at e
  have e2 : G * 1 = G * gd a b := by rw [Int.mul_one]; exact e
  exact (Int.eq_of_mul_eq_mul_left (by omega) e2).symm
theorem div_le_self' {x g M : Int} (hg : 0 < g) (h1 : -M ≤ x) (h2 : x ≤ M) (hd : g ∣ x) (hM : 0 ≤ M) : -M ≤ x / g ∧ x / g ≤ M := by
  obtain ⟨a, rfl⟩ := hd
  rw [Int.mul_ediv_cancel_left _ (by omega)]
  have k : ∀ {n : Int}, 0 ≤ n → n ≤ g * n := fun {n} hn => by
    have := Int.mul_le_mul_of_nonneg_right (show (1 : Int) ≤ g by omega) hn
    rw [Int.one_mul] at this
    exact this
  by_cases ha : 0 ≤ a
  · have := k ha
    omega
  · have := k (n := -a) (by omega)
    rw [Int.mul_neg] at this
    omega
theorem low_fr {p w : Int} (hw : w ≠ 0) (p1 : -(10 ^ 60) ≤ p) (p2 : p ≤ 10 ^ 60) (w1 : -(10 ^ 60) ≤ w) (w2 : w ≤ 10 ^ 60) : Fr (lowP p w) (lowW p w) := by
  have key : ∀ {x y : Int}, 0 < y → -(10 ^ 60) ≤ x → x ≤ 10 ^ 60 → y ≤ 10 ^ 60 → Fr (x / gd x y) (y / gd x y) := fun {x y} hy h1 h2 h3 => by
    have hg := gd_pos (p := x) (w := y) (by omega)
    have q1 := div_le_self' hg h1 h2 (gd_dvd_p x y) (by decide +kernel)
    have q2 := div_le_self' hg (show -(10 ^ 60) ≤ y by omega) h3 (gd_dvd_w x y) (by decide +kernel)
    have q3 : 1 ≤ y / gd x y := by
      obtain ⟨b, hb⟩ := gd_dvd_w x y
      generalize hG : gd x y = G at *
      rw [hb, Int.mul_ediv_cancel_left _ (by omega)]
      rw [hb] at hy
      exact Int.pos_of_mul_pos_right hy (by omega) |> fun z => z
    exact ⟨q1.1, q1.2, q3, q2.2, div_gd hy⟩
  unfold lowP lowW
  rcases sg_cases w with ⟨h, e⟩ | ⟨h, e⟩
  · rw [e, ← gd_neg, Int.neg_mul, Int.neg_mul, Int.one_mul, Int.one_mul]
    exact key (by omega) (by omega) (by omega) (by omega)
  · rw [e, Int.one_mul, Int.one_mul]
    exact key (by omega) p1 p2 w2
end Fx
set_option maxHeartbeats 1000000
/-! writings of fractions: the mathematics -/
namespace Tx
open PySem PySem.Spec PySem.Builtin PySem.Builtin.Str PySem.StrLaws TL NumText Fx
def dig (c : Nat) : Bool := decide (48 ≤ c) && decide (c ≤ 57)
theorem dig_iff {c : Nat} : dig c = true ↔ 48 ≤ c ∧ c ≤ 57 := by
  unfold dig
  rw [Bool.and_eq_true, decide_eq_true_eq, decide_eq_true_eq]
def go : Nat → List Nat → Option Nat
  | n, [] => some n
  | n, c :: r => if dig c = true then go (10 * n + (c - 48)) r else none
def plain (l : List Nat) : Option Nat := if l = [] ∨ (1 < l.length ∧ l.head? = some 48) then none else go 0 l
theorem go_all : ∀ {l : List Nat} {n : Nat}, AllDigits l → go n l = some (l.foldl (fun acc c => acc * 10 + (c - 48)) n)
  | [], _, _ => rfl
  | c :: r, n, h => by
    unfold go
    rw [if_pos (dig_iff.mpr h.head), go_all h.tail, List.foldl_cons, Nat.mul_comm 10 n]
theorem go_digits : ∀ {l : List Nat} {n v : Nat}, go n l = some v → AllDigits l
  | [], _, _, _ => fun c hc => absurd hc (by simp)
  | c :: r, n, v, h => by
    unfold go at h
    split at h
    · rename_i hd
      intro d hm
      rcases List.mem_cons.mp hm with e | hm
      · rw [e]
        exact dig_iff.mp hd
      · exact go_digits h d hm
    · cases h
theorem dv_snoc (l : List Nat) (c : Nat) : digitsVal (l ++ [c]) = digitsVal l * 10 + (c - 48) := by
  unfold digitsVal
  rw [List.foldl_append]
  rfl
theorem canon : ∀ (k : Nat) (l : List Nat), l.length = k → l ≠ [] → AllDigits l → l.head? ≠ some 48 → l = numL (digitsVal l) ∧ 1 ≤ digitsVal l := by
  intro k
  induction k with
  | zero => intro l hl hne; exact absurd (List.length_eq_zero_iff.mp hl) hne
  | succ k ih =>
    intro l hl hne hd hh
    rcases List.eq_nil_or_concat l with e | ⟨l', c, e⟩
    · exact absurd e hne
    · have e : l = l' ++ [c] := by simpa using e
      subst e
      have hc : 48 ≤ c ∧ c ≤ 57 := hd c (by simp)
      rw [dv_snoc]
      by_cases h0 : l' = []
      · subst h0
        have c8 : c ≠ 48 := fun z => hh (by rw [z]; rfl)
        have e0 : digitsVal ([] : List Nat) * 10 + (c - 48) = c - 48 := by
          show 0 * 10 + (c - 48) = _
          omega
        rw [e0, numL_lt (by omega)]
        refine ⟨?_, by omega⟩
        rw [List.nil_append]
        congr 1
        omega
      · have hh' : l'.head? ≠ some 48 := fun z => hh (by
          cases l' with
          | nil => exact absurd rfl h0
          | cons x r => exact z)
        obtain ⟨e1, e2⟩ := ih l' (by simpa using hl) h0 (fun d hm => hd d (List.mem_append_left _ hm)) hh'
        refine ⟨?_, by omega⟩
        rw [numL_step (by omega)]
        have a1 : (digitsVal l' * 10 + (c - 48)) / 10 = digitsVal l' := by omega
        have a2 : (digitsVal l' * 10 + (c - 48)) % 10 = c - 48 := by omega
        rw [a1, a2, ← e1]
        congr 2
        omega
theorem numL_head : ∀ (k n : Nat), n ≤ k → 1 ≤ n → (numL n).head? ≠ some 48 := by
  intro k
  induction k with
  | zero => intro n h1 h2; omega
  | succ k ih =>
    intro n h1 h2
    by_cases h : n < 10
    · rw [numL_lt h]
      intro z
      have z : 48 + n = 48 := Option.some.inj z
      omega
    · rw [numL_step (by omega)]
      have q := ih (n / 10) (by omega) (by omega)
      intro z
      cases hq : numL (n / 10) with
      | nil => exact absurd hq (numL_ne _)
      | cons x r =>
        rw [hq] at z q
        exact q z
theorem plain_num (n : Nat) : plain (numL n) = some n := by
  unfold plain
  have h : ¬ (numL n = [] ∨ (1 < (numL n).length ∧ (numL n).head? = some 48)) := by
    rintro (h | ⟨h1, h2⟩)
    · exact numL_ne n h
    · by_cases hn : n < 10
      · rw [numL_lt hn] at h1
        simp at h1
      · exact numL_head n n (Nat.le_refl _) (by omega) h2
  rw [if_neg h, go_all (numL_digits n)]
  exact congrArg some (numL_val n)
theorem plain_of {l : List Nat} {n : Nat} (h : plain l = some n) : l = numL n := by
  unfold plain at h
  split at h
  · cases h
  · rename_i hc
    have hd := go_digits h
    rw [go_all hd] at h
    have hv : digitsVal l = n := Option.some.inj h
    have hne : l ≠ [] := fun z => hc (.inl z)
    by_cases h1 : 1 < l.length
    · obtain ⟨e, _⟩ := canon l.length l rfl hne hd (fun z => hc (.inr ⟨h1, z⟩))
      rw [hv] at e
      exact e
    · cases l with
      | nil => exact absurd rfl hne
      | cons c r =>
        cases r with
        | nil =>
          have hcd := hd c (by simp)
          have e0 : digitsVal [c] = c - 48 := by
            show 0 * 10 + (c - 48) = _
            omega
          rw [e0] at hv
          rw [numL_lt (by omega)]
          congr 1
          omega
        | cons d r => simp at h1
/-! the writing -/
def intL (a : Int) : List Nat := if a < 0 then 45 :: numL a.natAbs else numL a.natAbs
def wrL (a b : Int) : List Nat := if b = 1 then intL a else intL a ++ 47 :: intL b
theorem tl_int (a : Int) : tl (Str.ofString (toString a)) = intL a := by
  cases a with
  | ofNat n =>
    have e := tl_num n
    unfold intL
    rw [if_neg (by have : (0 : Int) ≤ Int.ofNat n := Int.natCast_nonneg n; omega)]
    exact e
  | negSucc n =>
    unfold intL
    rw [if_pos (Int.negSucc_lt_zero n)]
    have e := tl_num (n + 1)
    have e2 : toString (Int.negSucc n) = "-" ++ toString (((n + 1 : Nat) : Int)) := rfl
    rw [e2, tl_ofString, String.toList_append, List.map_append, ← tl_ofString, ← tl_ofString, e]
    rfl
theorem numL45 (n : Nat) : (numL n).head? ≠ some 45 := by
  intro z
  cases hq : numL n with
  | nil => exact absurd hq (numL_ne _)
  | cons x r =>
    rw [hq] at z
    have z : x = 45 := Option.some.inj z
    have := numL_digits n x (by rw [hq]; simp)
    omega
theorem free47 (n : Nat) : 47 ∉ numL n := numL_free (by omega)
theorem intL_pos {b : Int} (h : 0 ≤ b) : intL b = numL b.natAbs := if_neg (by omega)
theorem int47 (a : Int) : 47 ∉ intL a := by
  unfold intL
  split
  · intro h
    rcases List.mem_cons.mp h with e | h
    · cases e
    · exact free47 _ h
  · exact free47 _
theorem intL_len {a : Int} (h1 : -(10 ^ 60) ≤ a) (h2 : a ≤ 10 ^ 60) : (intL a).length ≤ 62 := by
  have z : (numL a.natAbs).length ≤ 61 := numL_len (by decide) (by
    have e : (10 : Int) ^ 60 < 10 ^ 61 := by decide +kernel
    have e2 : ((10 ^ 61 : Nat) : Int) = (10 : Int) ^ 61 := by decide +kernel
    have e3 : (a.natAbs : Int) < ((10 ^ 61 : Nat) : Int) := by omega
    exact Int.ofNat_lt.mp e3)
  unfold intL
  split
  · rw [List.length_cons]
    omega
  · omega
theorem wr_len {a b : Int} (f : Fr a b) : (wrL a b).length ≤ 130 := by
  have h1 := intL_len f.1 f.2.1
  have h2 := intL_len (a := b) (by have := f.2.2.1; omega) f.2.2.2.1
  unfold wrL
  split
  · omega
  · rw [List.length_append, List.length_cons]
    omega
/-- what stands behind the sign -/
def rsL (a b : Int) : List Nat := if b = 1 then numL a.natAbs else numL a.natAbs ++ 47 :: numL b.natAbs
theorem wr_rs {a b : Int} (hb : 1 ≤ b) : wrL a b = if a < 0 then 45 :: rsL a b else rsL a b := by
  unfold wrL rsL intL
  rw [if_neg (show ¬ b < 0 by omega)]
  by_cases h1 : b = 1
  · rw [if_pos h1, if_pos h1]
  · rw [if_neg h1, if_neg h1]
    by_cases h2 : a < 0
    · rw [if_pos h2, if_pos h2, List.cons_append]
    · rw [if_neg h2, if_neg h2]
theorem rs45 (a b : Int) : (rsL a b).head? ≠ some 45 := by
  unfold rsL
  split
  · exact numL45 _
  · intro z
    cases hq : numL a.natAbs with
    | nil => exact absurd hq (numL_ne _)
    | cons x r =>
      rw [hq] at z
      exact numL45 a.natAbs (by rw [hq]; exact z)
theorem cut47 : ∀ {p p' q q' : List Nat}, 47 ∉ p → 47 ∉ p' → p ++ 47 :: q = p' ++ 47 :: q' → p = p' ∧ q = q'
  | [], [], q, q', _, _, h => ⟨rfl, (List.cons.inj h).2⟩
  | [], x :: p', q, q', _, h2, h => by
    have z := (List.cons.inj h).1
    exact absurd (by rw [← z]; simp) h2
  | x :: p, [], q, q', h1, _, h => by
    have z := (List.cons.inj h).1
    exact absurd (by rw [z]; simp) h1
  | x :: p, y :: p', q, q', h1, h2, h => by
    obtain ⟨e1, e2⟩ := List.cons.inj h
    obtain ⟨e3, e4⟩ := cut47 (fun z => h1 (List.mem_cons_of_mem _ z)) (fun z => h2 (List.mem_cons_of_mem _ z)) e2
    exact ⟨by rw [e1, e3], e4⟩
def sgn (m : Bool) (n : Nat) : Int := if m = true then -(n : Int) else (n : Int)
theorem sgn_abs (m : Bool) (n : Nat) : (sgn m n).natAbs = n := by
  unfold sgn
  split <;> omega
/-- l is m (a minus) and r -/
structure Sg (l : List Nat) (m : Bool) (r : List Nat) : Prop where
  e : l = if m = true then 45 :: r else r
  n : m = false → r.head? ≠ some 45
theorem Sg.inv {l r : List Nat} {m : Bool} (s : Sg l m r) {a b : Int} (hb : 1 ≤ b) (h : l = wrL a b) : m = decide (a < 0) ∧ r = rsL a b := by
  rw [s.e, wr_rs hb] at h
  by_cases ha : a < 0
  · rw [if_pos ha] at h
    cases m with
    | true =>
      rw [if_pos rfl] at h
      exact ⟨(decide_eq_true ha).symm, (List.cons.inj h).2⟩
    | false =>
      rw [if_neg Bool.false_ne_true] at h
      exact absurd (by rw [h]; rfl) (s.n rfl)
  · rw [if_neg ha] at h
    cases m with
    | true =>
      rw [if_pos rfl] at h
      exact absurd (by rw [← h]; rfl) (rs45 a b)
    | false =>
      rw [if_neg Bool.false_ne_true] at h
      exact ⟨(decide_eq_false ha).symm, h⟩
def Wr (l : List Nat) : Prop := ∃ a b, Fr a b ∧ l = wrL a b
section
variable {l r p q : List Nat} {m : Bool} {n w : Nat}
theorem sgn_lt (hz : ¬ (m = true ∧ n = 0)) : (sgn m n < 0) = (m = true) := by
  unfold sgn
  cases m with
  | true => 
    simp only [if_true]
    exact propext ⟨fun _ => trivial, fun _ => by
      have : n ≠ 0 := fun z => hz ⟨rfl, z⟩
      omega⟩
  | false =>
    simp only [Bool.false_eq_true, if_false]
    exact propext ⟨fun h => by omega, fun h => by cases h⟩
theorem gd1 (a : Int) : gd a 1 = 1 := by
  unfold gd
  simp
theorem sgn_le (hn : n ≤ 10 ^ 60) : -(10 ^ 60) ≤ sgn m n ∧ sgn m n ≤ 10 ^ 60 := by
  have e : ((10 ^ 60 : Nat) : Int) = (10 : Int) ^ 60 := by decide +kernel
  have h : (n : Int) ≤ ((10 ^ 60 : Nat) : Int) := Int.ofNat_le.mpr hn
  unfold sgn
  split <;> omega
theorem yes0 (s : Sg l m r) (hp : plain r = some n) (hz : ¬ (m = true ∧ n = 0)) (hn : n ≤ 10 ^ 60) : Fr (sgn m n) 1 ∧ l = wrL (sgn m n) 1 := by
  obtain ⟨h1, h2⟩ := sgn_le (m := m) hn
  refine ⟨⟨h1, h2, by decide, by decide +kernel, gd1 _⟩, ?_⟩
  rw [s.e, wr_rs (by decide)]
  have e : rsL (sgn m n) 1 = r := by
    unfold rsL
    rw [if_pos rfl, sgn_abs]
    exact (plain_of hp).symm
  rw [e]
  simp only [sgn_lt hz]
theorem no0 (s : Sg l m r) (h47 : 47 ∉ r) (h : ∀ n, plain r = some n → (m = true ∧ n = 0) ∨ 10 ^ 60 < n) : ¬ Wr l := by
  rintro ⟨a, b, f, e⟩
  obtain ⟨e1, e2⟩ := s.inv f.2.2.1 e
  unfold rsL at e2
  split at e2
  · rename_i hb
    have hp : plain r = some a.natAbs := by rw [e2]; exact plain_num _
    rcases h _ hp with ⟨h1, h2⟩ | h1
    · rw [e1] at h1
      have := of_decide_eq_true h1
      omega
    · have e3 : ((10 ^ 60 : Nat) : Int) = (10 : Int) ^ 60 := by decide +kernel
      have h2 : ((10 ^ 60 : Nat) : Int) < (a.natAbs : Int) := Int.ofNat_lt.mpr h1
      have := f.1
      have := f.2.1
      omega
  · exact h47 (by rw [e2]; simp)
theorem yes1 (s : Sg l m (p ++ 47 :: q)) (hp : plain p = some n) (hq : plain q = some w) (hw : 2 ≤ w) (hz : ¬ (m = true ∧ n = 0)) (hn : n ≤ 10 ^ 60) (hw2 : w ≤ 10 ^ 60) (hg : Nat.gcd n w = 1) :
    Fr (sgn m n) w ∧ l = wrL (sgn m n) w := by
  obtain ⟨h1, h2⟩ := sgn_le (m := m) hn
  have e : ((10 ^ 60 : Nat) : Int) = (10 : Int) ^ 60 := by decide +kernel
  have hw3 : (w : Int) ≤ ((10 ^ 60 : Nat) : Int) := Int.ofNat_le.mpr hw2
  refine ⟨⟨h1, h2, by omega, by omega, ?_⟩, ?_⟩
  · unfold gd
    rw [sgn_abs, Int.natAbs_natCast, hg]
    rfl
  · rw [s.e, wr_rs (by omega)]
    have e : rsL (sgn m n) w = p ++ 47 :: q := by
      unfold rsL
      rw [if_neg (by omega), sgn_abs, Int.natAbs_natCast, ← plain_of hp, ← plain_of hq]
    rw [e]
    simp only [sgn_lt hz]
theorem no1 (s : Sg l m (p ++ 47 :: q)) (h47 : 47 ∉ p) (h : ∀ n w, plain p = some n → plain q = some w → w < 2 ∨ (m = true ∧ n = 0) ∨ 10 ^ 60 < n ∨ 10 ^ 60 < w ∨ Nat.gcd n w ≠ 1) : ¬ Wr l := by
  rintro ⟨a, b, f, e⟩
  obtain ⟨e1, e2⟩ := s.inv f.2.2.1 e
  have f3 := f.2.2.1
  unfold rsL at e2
  split at e2
  · exact free47 a.natAbs (by rw [← e2]; simp)
  · rename_i hb
    obtain ⟨p1, q1⟩ := cut47 h47 (free47 _) e2
    have e3 : ((10 ^ 60 : Nat) : Int) = (10 : Int) ^ 60 := by decide +kernel
    have hp : plain p = some a.natAbs := by rw [p1]; exact plain_num _
    have hq : plain q = some b.natAbs := by rw [q1]; exact plain_num _
    rcases h _ _ hp hq with h1 | ⟨h1, h2⟩ | h1 | h1 | h1
    · omega
    · rw [e1] at h1
      have := of_decide_eq_true h1
      omega
    · have h2 : ((10 ^ 60 : Nat) : Int) < (a.natAbs : Int) := Int.ofNat_lt.mpr h1
      have := f.1
      have := f.2.1
      omega
    · have h2 : ((10 ^ 60 : Nat) : Int) < (b.natAbs : Int) := Int.ofNat_lt.mpr h1
      have := f.2.2.2.1
      omega
    · have g := f.2.2.2.2
      unfold gd at g
      omega
end
/-! what the model's texts do -/
theorem find_sign (c : Nat) : Txt.find "0123456789" ⟨#[c]⟩ = if dig c = true then (c : Int) - 48 else -1 := by
  have ht : tl ("0123456789" : Str) = [48, 49, 50, 51, 52, 53, 54, 55, 56, 57] := by decide +kernel
  have hy : tl (⟨#[c]⟩ : Str) = [c] := rfl
  have at_ : ∀ i, StrLaws.At ("0123456789" : Str) ⟨#[c]⟩ ("0123456789" : Str).length i ↔ (i < 10 ∧ c = 48 + i) := fun i => by
    rw [at_iff (by rw [hy]; simp) i, ht, hy]
    unfold pre
    by_cases hi : i < 10
    · have : i = 0 ∨ i = 1 ∨ i = 2 ∨ i = 3 ∨ i = 4 ∨ i = 5 ∨ i = 6 ∨ i = 7 ∨ i = 8 ∨ i = 9 := by omega
      rcases this with rfl | rfl | rfl | rfl | rfl | rfl | rfl | rfl | rfl | rfl <;> simp <;> omega
    · rw [List.drop_of_length_le (by simp; omega)]
      simp
      omega
  rcases PyProof.Rows.find_whole "0123456789" ⟨#[c]⟩ with ⟨e, hn⟩ | ⟨i, e, hi, _⟩
  · rw [e, if_neg]
    intro h
    have h := dig_iff.mp h
    exact hn (c - 48) ((at_ _).mpr ⟨by omega, by omega⟩)
  · obtain ⟨h1, h2⟩ := (at_ i).mp hi
    rw [e, if_pos (dig_iff.mpr (by omega))]
    omega
theorem in_figs (c : Nat) : (!(Str.occurrences ("0123456789" : Str) ⟨#[c]⟩ 0 ("0123456789" : Str).length 1).isEmpty) = dig c := by
  have f := find_sign c
  unfold Txt.find at f
  cases h : Str.occurrences ("0123456789" : Str) ⟨#[c]⟩ 0 ("0123456789" : Str).length 1 with
  | nil =>
    rw [h] at f
    cases hd : dig c with
    | false => rfl
    | true =>
      have q := dig_iff.mp hd
      rw [hd, if_pos rfl] at f
      have f : (-1 : Int) = (c : Int) - 48 := f
      omega
  | cons i r =>
    rw [h] at f
    cases hd : dig c with
    | true => rfl
    | false =>
      rw [hd, if_neg Bool.false_ne_true] at f
      have f : ((i : Nat) : Int) = -1 := f
      omega
theorem find_sep (z : Str) : (Txt.find z "/" = -1 ∧ 47 ∉ tl z) ∨ ∃ p q, Txt.find z "/" = ((p.length : Nat) : Int) ∧ tl z = p ++ 47 :: q ∧ 47 ∉ p := by
  have hy : tl ("/" : Str) = [47] := by decide +kernel
  have at_ : ∀ i, StrLaws.At z "/" z.length i ↔ (tl z)[i]? = some 47 := fun i => by
    rw [at_iff (by rw [hy]; simp) i, hy]
    unfold pre
    by_cases hi : i < (tl z).length
    · rw [List.drop_eq_getElem_cons hi, List.getElem?_eq_getElem hi]
      simp
    · rw [List.drop_of_length_le (by omega), List.getElem?_eq_none (by omega)]
      simp
  rcases PyProof.Rows.find_whole z "/" with ⟨e, hn⟩ | ⟨i, e, hi, hf⟩
  · refine .inl ⟨e, fun hm => ?_⟩
    obtain ⟨i, h1, h2⟩ := List.getElem_of_mem hm
    exact hn i ((at_ i).mpr (by rw [List.getElem?_eq_getElem h1, h2]))
  · have hi := (at_ i).mp hi
    obtain ⟨h1, h2⟩ := List.getElem?_eq_some_iff.mp hi
    refine .inr ⟨(tl z).take i, (tl z).drop (i + 1), ?_, ?_, fun hm => ?_⟩
    · rw [e, List.length_take, Nat.min_eq_left (by omega)]
    · rw [← h2, ← List.drop_eq_getElem_cons h1, List.take_append_drop]
    · obtain ⟨j, h3, h4⟩ := List.getElem_of_mem hm
      rw [List.length_take] at h3
      rw [List.getElem_take] at h4
      exact hf j (by omega) ((at_ j).mpr (by rw [List.getElem?_eq_getElem (by omega), h4]))
def noMinus : List Nat → List Nat
  | 45 :: r => r
  | l => l
theorem rp_minus (z : Str) : tl (Txt.removeprefix z "-") = noMinus (tl z) := by
  have hy : tl ("-" : Str) = [45] := by decide +kernel
  have hl : ("-" : Str).length = 1 := by decide +kernel
  have hs : Str.subAt z "-" 0 = true ↔ (tl z).head? = some 45 := by
    rw [subAt_eq, hl]
    show (((tl z).drop 0).take 1 == tl ("-" : Str)) = true ↔ _
    rw [hy, List.drop_zero]
    cases tl z with
    | nil => simp
    | cons x r => simp
  unfold Txt.removeprefix Txt.affix
  by_cases h : Str.subAt z "-" 0 = true
  · rw [if_pos h]
    have h2 := hs.mp h
    cases e : tl z with
    | nil => rw [e] at h2; cases h2
    | cons x r =>
      rw [e] at h2
      have h2 : x = 45 := Option.some.inj h2
      subst h2
      have hlen : z.length = r.length + 1 := by rw [len_tl, e, List.length_cons]
      rw [hl]
      have ne : (z.length - 1 == z.length) = false := beq_eq_false_iff_ne.mpr (by omega)
      simp only [ne, Bool.false_eq_true, if_false]
      rw [tl_strSub, e]
      show ((45 :: r).drop 1).take (z.length - 1) = r
      rw [hlen]
      exact List.take_of_length_le (by simp)
  · rw [if_neg h]
    have h2 : (tl z).head? ≠ some 45 := fun q => h (hs.mpr q)
    show tl z = noMinus (tl z)
    unfold noMinus
    split
    · rename_i r e
      rw [e] at h2
      exact absurd rfl h2
    · rfl
/-! what read() looks at -/
def figs (l : List Nat) : Bool := !(l == []) && l.all dig
theorem figs_iff {l : List Nat} : figs l = true ↔ l ≠ [] ∧ AllDigits l := by
  unfold figs
  rw [Bool.and_eq_true, List.all_eq_true]
  constructor
  · rintro ⟨h1, h2⟩
    refine ⟨fun z => ?_, fun c hc => dig_iff.mp (h2 c hc)⟩
    rw [z] at h1
    cases h1
  · rintro ⟨h1, h2⟩
    refine ⟨?_, fun c hc => dig_iff.mpr (h2 c hc)⟩
    cases l with
    | nil => exact absurd rfl h1
    | cons c r => rfl
theorem figs_num (n : Nat) : figs (numL n) = true := figs_iff.mpr ⟨numL_ne n, numL_digits n⟩
theorem nm_num (n : Nat) : noMinus (numL n) = numL n := by
  have h := numL45 n
  unfold noMinus
  split
  · rename_i r e
    rw [e] at h
    exact absurd rfl h
  · rfl
theorem nm_int (a : Int) : noMinus (intL a) = numL a.natAbs := by
  unfold intL
  split
  · rfl
  · exact nm_num _
def ival : List Nat → Int
  | 45 :: r => -((digitsVal r : Nat) : Int)
  | l => ((digitsVal l : Nat) : Int)
theorem ival_nm {l : List Nat} (h : l.head? ≠ some 45) : ival l = ((digitsVal l : Nat) : Int) := by
  unfold ival
  split
  · rename_i r
    exact absurd rfl h
  · rfl
theorem ival_int (a : Int) : ival (intL a) = a := by
  unfold intL
  split
  · show -((digitsVal (numL a.natAbs) : Nat) : Int) = a
    rw [numL_val]
    omega
  · rw [ival_nm (numL45 _), numL_val]
    omega
theorem int_text {z : Str} (h : figs (noMinus (tl z)) = true) (hl : z.length ≤ 640) : intText? z = some (ival (tl z)) := by
  obtain ⟨h1, h2⟩ := figs_iff.mp h
  by_cases hm : (tl z).head? = some 45
  · cases e : tl z with
    | nil => rw [e] at hm; cases hm
    | cons x r =>
      rw [e] at hm
      have hm : x = 45 := Option.some.inj hm
      subst hm
      rw [e] at h1 h2
      exact intText_neg e h2 h1 (by omega)
  · have e : noMinus (tl z) = tl z := by
      unfold noMinus
      split
      · rename_i r e
        rw [e] at hm
        exact absurd rfl hm
      · rfl
    rw [e] at h1 h2
    rw [ival_nm hm]
    exact intText_digits h2 h1 (by omega)
theorem parts (z : Str) : ∃ pt wh : Str, (Txt.partition z "/" = (z, Str.empty, Str.empty) ∧ 47 ∉ tl z ∧ pt = z ∧ wh = "1") ∨ (Txt.partition z "/" = (pt, ("/" : Str), wh) ∧ tl z = tl pt ++ 47 :: tl wh ∧ 47 ∉ tl pt) := by
  have hy : tl ("/" : Str) = [47] := by decide +kernel
  rcases find_sep z with ⟨_, h⟩ | ⟨p, q, _, h1, h2⟩
  · exact ⟨z, "1", .inl ⟨partition_none hy h, h, rfl, rfl⟩⟩
  · refine ⟨⟨p.toArray⟩, ⟨q.toArray⟩, .inr ⟨?_, h1, h2⟩⟩
    have e : z = (⟨p.toArray⟩ : Str) ++ "/" ++ ⟨q.toArray⟩ := ext_tl (by
      rw [tl_append, tl_append, hy, h1, List.append_assoc]
      rfl)
    rw [e]
    exact partition_app hy h2
theorem parts_wr {z pt wh : Str} (h : (Txt.partition z "/" = (z, Str.empty, Str.empty) ∧ 47 ∉ tl z ∧ pt = z ∧ wh = "1") ∨ (Txt.partition z "/" = (pt, ("/" : Str), wh) ∧ tl z = tl pt ++ 47 :: tl wh ∧ 47 ∉ tl pt))
    {a b : Int} (f : Fr a b) (e : tl z = wrL a b) : tl pt = intL a ∧ tl wh = intL b := by
  rcases h with ⟨_, h1, rfl, rfl⟩ | ⟨_, h1, h2⟩
  · unfold wrL at e
    split at e
    · rename_i hb
      refine ⟨e, ?_⟩
      rw [hb]
      decide +kernel
    · exact absurd (by rw [e]; simp) h1
  · rw [h1] at e
    unfold wrL at e
    split at e
    · exact absurd (by rw [← e]; simp) (int47 a)
    · exact cut47 h2 (int47 a) e
theorem wr_inj {a b c d : Int} (f : Fr a b) (g : Fr c d) (h : wrL a b = wrL c d) : a = c ∧ b = d := by
  have s : Sg (wrL a b) (decide (a < 0)) (rsL a b) := ⟨by rw [wr_rs f.2.2.1]; simp only [decide_eq_true_eq], fun _ => rs45 a b⟩
  obtain ⟨e1, e2⟩ := s.inv g.2.2.1 h
  have e1 := decide_eq_decide.mp e1
  have b0 := f.2.2.1
  have d0 := g.2.2.1
  have fin : ∀ {x y : Int}, x.natAbs = y.natAbs → (x < 0 ↔ y < 0) → x = y := fun h1 h2 => by omega
  unfold rsL at e2
  split at e2
  · split at e2
    · exact ⟨fin (numL_inj e2) e1, by omega⟩
    · exact absurd (by rw [e2]; simp) (free47 a.natAbs)
  · split at e2
    · exact absurd (by rw [← e2]; simp) (free47 c.natAbs)
    · obtain ⟨h1, h2⟩ := cut47 (free47 _) (free47 _) e2
      exact ⟨fin (numL_inj h1) e1, fin (numL_inj h2) (by omega)⟩
end Tx
namespace K3
open PySem PySem.Spec PyProof.Rows L2 Kt
def top (i : Nat) : Stmt := PySem.Challenge.pw_docketloom_k03_names_words_and_numbers.main.body.getD i (.Pass ⟨0, 0, 0, 0⟩)
abbrev s_is_name : Stmt := top 11
abbrev N_is_name : List Str := ["value"]
theorem sc_is_name : FnScope N_is_name ["value"] (defScope s_is_name) := ⟨rfl, rfl, rfl, by decide +kernel, rfl, by decide +kernel, by decide +kernel⟩
theorem bi_is_name : BindH s_is_name "is_name" ["value"] := fun _ _ _ _ _ _ us hl => match us, hl with | [_], _ => rfl
abbrev s_is_number : Stmt := top 12
abbrev N_is_number : List Str := ["value", "least", "most"]
theorem sc_is_number : FnScope N_is_number ["value", "least", "most"] (defScope s_is_number) := ⟨rfl, rfl, rfl, by decide +kernel, rfl, by decide +kernel, by decide +kernel⟩
theorem bi_is_number : BindH s_is_number "is_number" ["value", "least", "most"] := fun _ _ _ _ _ _ us hl => match us, hl with | [_, _, _], _ => rfl
abbrev s_is_tuple : Stmt := top 13
abbrev N_is_tuple : List Str := ["value", "least", "most"]
theorem sc_is_tuple : FnScope N_is_tuple ["value", "least", "most"] (defScope s_is_tuple) := ⟨rfl, rfl, rfl, by decide +kernel, rfl, by decide +kernel, by decide +kernel⟩
theorem bi_is_tuple : BindH s_is_tuple "is_tuple" ["value", "least", "most"] := fun _ _ _ _ _ _ us hl => match us, hl with | [_, _, _], _ => rfl
abbrev s_is_ascending : Stmt := top 14
abbrev N_is_ascending : List Str := ["values"]
theorem sc_is_ascending : FnScope N_is_ascending ["values"] (defScope s_is_ascending) := ⟨rfl, rfl, rfl, by decide +kernel, rfl, by decide +kernel, by decide +kernel⟩
theorem bi_is_ascending : BindH s_is_ascending "is_ascending" ["values"] := fun _ _ _ _ _ _ us hl => match us, hl with | [_], _ => rfl
abbrev s_is_names : Stmt := top 15
abbrev N_is_names : List Str := ["value", "least", "most"]
theorem sc_is_names : FnScope N_is_names ["value", "least", "most"] (defScope s_is_names) := ⟨rfl, rfl, rfl, by decide +kernel, rfl, by decide +kernel, by decide +kernel⟩
theorem bi_is_names : BindH s_is_names "is_names" ["value", "least", "most"] := fun _ _ _ _ _ _ us hl => match us, hl with | [_, _, _], _ => rfl
abbrev s_is_figures : Stmt := top 16
abbrev N_is_figures : List Str := ["text"]
theorem sc_is_figures : FnScope N_is_figures ["text"] (defScope s_is_figures) := ⟨rfl, rfl, rfl, by decide +kernel, rfl, by decide +kernel, by decide +kernel⟩
theorem bi_is_figures : BindH s_is_figures "is_figures" ["text"] := fun _ _ _ _ _ _ us hl => match us, hl with | [_], _ => rfl
abbrev s_has_signs : Stmt := top 23
abbrev N_has_signs : List Str := ["text", "signs"]
theorem sc_has_signs : FnScope N_has_signs ["text", "signs"] (defScope s_has_signs) := ⟨rfl, rfl, rfl, by decide +kernel, rfl, by decide +kernel, by decide +kernel⟩
theorem bi_has_signs : BindH s_has_signs "has_signs" ["text", "signs"] := fun _ _ _ _ _ _ us hl => match us, hl with | [_, _], _ => rfl
abbrev s_are_sized : Stmt := top 24
abbrev N_are_sized : List Str := ["values", "value"]
theorem sc_are_sized : FnScope N_are_sized ["values"] (defScope s_are_sized) := ⟨rfl, rfl, rfl, by decide +kernel, rfl, by decide +kernel, by decide +kernel⟩
theorem bi_are_sized : BindH s_are_sized "are_sized" ["values"] := fun _ _ _ _ _ _ us hl => match us, hl with | [_], _ => rfl
abbrev s_are_words : Stmt := top 25
abbrev N_are_words : List Str := ["values"]
theorem sc_are_words : FnScope N_are_words ["values"] (defScope s_are_words) := ⟨rfl, rfl, rfl, by decide +kernel, rfl, by decide +kernel, by decide +kernel⟩
theorem bi_are_words : BindH s_are_words "are_words" ["values"] := fun _ _ _ _ _ _ us hl => match us, hl with | [_], _ => rfl
abbrev s_is_word : Stmt := top 26
abbrev N_is_word : List Str := ["value"]
theorem sc_is_word : FnScope N_is_word ["value"] (defScope s_is_word) := ⟨rfl, rfl, rfl, by decide +kernel, rfl, by decide +kernel, by decide +kernel⟩
theorem bi_is_word : BindH s_is_word "is_word" ["value"] := fun _ _ _ _ _ _ us hl => match us, hl with | [_], _ => rfl
abbrev s_line_of : Stmt := top 27
abbrev N_line_of : List Str := ["words"]
theorem sc_line_of : FnScope N_line_of ["words"] (defScope s_line_of) := ⟨rfl, rfl, rfl, by decide +kernel, rfl, by decide +kernel, by decide +kernel⟩
theorem bi_line_of : BindH s_line_of "line_of" ["words"] := fun _ _ _ _ _ _ us hl => match us, hl with | [_], _ => rfl
abbrev s_words_of : Stmt := top 28
abbrev N_words_of : List Str := ["line", "words"]
theorem sc_words_of : FnScope N_words_of ["line"] (defScope s_words_of) := ⟨rfl, rfl, rfl, by decide +kernel, rfl, by decide +kernel, by decide +kernel⟩
theorem bi_words_of : BindH s_words_of "words_of" ["line"] := fun _ _ _ _ _ _ us hl => match us, hl with | [_], _ => rfl
abbrev s_number_word : Stmt := top 29
abbrev N_number_word : List Str := ["number"]
theorem sc_number_word : FnScope N_number_word ["number"] (defScope s_number_word) := ⟨rfl, rfl, rfl, by decide +kernel, rfl, by decide +kernel, by decide +kernel⟩
theorem bi_number_word : BindH s_number_word "number_word" ["number"] := fun _ _ _ _ _ _ us hl => match us, hl with | [_], _ => rfl
abbrev s_number_of : Stmt := top 30
abbrev N_number_of : List Str := ["word", "figures", "number"]
theorem sc_number_of : FnScope N_number_of ["word"] (defScope s_number_of) := ⟨rfl, rfl, rfl, by decide +kernel, rfl, by decide +kernel, by decide +kernel⟩
theorem bi_number_of : BindH s_number_of "number_of" ["word"] := fun _ _ _ _ _ _ us hl => match us, hl with | [_], _ => rfl
abbrev s__law_open : Stmt := top 32
abbrev N__law_open : List Str := ["script", "cells", "cell"]
theorem sc__law_open : FnScope N__law_open ["script"] (defScope s__law_open) := ⟨rfl, rfl, rfl, by decide +kernel, rfl, by decide +kernel, by decide +kernel⟩
theorem bi__law_open : BindH s__law_open "_law_open" ["script"] := fun _ _ _ _ _ _ us hl => match us, hl with | [_], _ => rfl
abbrev s__law_mixed : Stmt := top 33
abbrev N__law_mixed : List Str := ["cell", "turn", "number"]
theorem sc__law_mixed : FnScope N__law_mixed ["cell", "turn"] (defScope s__law_mixed) := ⟨rfl, rfl, rfl, by decide +kernel, rfl, by decide +kernel, by decide +kernel⟩
theorem bi__law_mixed : BindH s__law_mixed "_law_mixed" ["cell", "turn"] := fun _ _ _ _ _ _ us hl => match us, hl with | [_, _], _ => rfl
abbrev s__law_draw : Stmt := top 34
abbrev N__law_draw : List Str := ["draws", "size", "turn", "left", "cells", "cell"]
theorem sc__law_draw : FnScope N__law_draw ["draws", "size"] (defScope s__law_draw) := ⟨rfl, rfl, rfl, by decide +kernel, rfl, by decide +kernel, by decide +kernel⟩
theorem bi__law_draw : BindH s__law_draw "_law_draw" ["draws", "size"] := fun _ _ _ _ _ _ us hl => match us, hl with | [_, _], _ => rfl
abbrev s__law_wide : Stmt := top 35
abbrev N__law_wide : List Str := ["draws", "size", "number", "k"]
theorem sc__law_wide : FnScope N__law_wide ["draws", "size"] (defScope s__law_wide) := ⟨rfl, rfl, rfl, by decide +kernel, rfl, by decide +kernel, by decide +kernel⟩
theorem bi__law_wide : BindH s__law_wide "_law_wide" ["draws", "size"] := fun _ _ _ _ _ _ us hl => match us, hl with | [_, _], _ => rfl
abbrev s__law_told : Stmt := top 36
abbrev N__law_told : List Str := ["error", "kinds", "names", "name", "true"]
theorem sc__law_told : FnScope N__law_told ["error"] (defScope s__law_told) := ⟨rfl, rfl, rfl, by decide +kernel, rfl, by decide +kernel, by decide +kernel⟩
theorem bi__law_told : BindH s__law_told "_law_told" ["error"] := fun _ _ _ _ _ _ us hl => match us, hl with | [_], _ => rfl
abbrev s__law_text : Stmt := top 37
abbrev N__law_text : List Str := ["draws", "most", "letters", "signs", "kind", "text", "k", "at"]
theorem sc__law_text : FnScope N__law_text ["draws", "most"] (defScope s__law_text) := ⟨rfl, rfl, rfl, by decide +kernel, rfl, by decide +kernel, by decide +kernel⟩
theorem bi__law_text : BindH s__law_text "_law_text" ["draws", "most"] := fun _ _ _ _ _ _ us hl => match us, hl with | [_, _], _ => rfl
abbrev s__law_of : Stmt := top 38
abbrev N__law_of : List Str := ["text", "signs", "least", "most", "sign"]
theorem sc__law_of : FnScope N__law_of ["text", "signs", "least", "most"] (defScope s__law_of) := ⟨rfl, rfl, rfl, by decide +kernel, rfl, by decide +kernel, by decide +kernel⟩
theorem bi__law_of : BindH s__law_of "_law_of" ["text", "signs", "least", "most"] := fun _ _ _ _ _ _ us hl => match us, hl with | [_, _, _, _], _ => rfl
abbrev s__law_names : Stmt := top 39
abbrev N__law_names : List Str := ["texts", "letters", "k"]
theorem sc__law_names : FnScope N__law_names ["texts"] (defScope s__law_names) := ⟨rfl, rfl, rfl, by decide +kernel, rfl, by decide +kernel, by decide +kernel⟩
theorem bi__law_names : BindH s__law_names "_law_names" ["texts"] := fun _ _ _ _ _ _ us hl => match us, hl with | [_], _ => rfl
abbrev s__law_same : Stmt := top 40
abbrev N__law_same : List Str := ["told", "due"]
theorem sc__law_same : FnScope N__law_same ["told", "due"] (defScope s__law_same) := ⟨rfl, rfl, rfl, by decide +kernel, rfl, by decide +kernel, by decide +kernel⟩
theorem bi__law_same : BindH s__law_same "_law_same" ["told", "due"] := fun _ _ _ _ _ _ us hl => match us, hl with | [_, _], _ => rfl
abbrev s__law_line : Stmt := top 41
abbrev N__law_line : List Str := ["words", "good", "handed", "line", "error"]
theorem sc__law_line : FnScope N__law_line ["words", "good"] (defScope s__law_line) := ⟨rfl, rfl, rfl, by decide +kernel, rfl, by decide +kernel, by decide +kernel⟩
theorem bi__law_line : BindH s__law_line "_law_line" ["words", "good"] := fun _ _ _ _ _ _ us hl => match us, hl with | [_, _], _ => rfl
abbrev s__law_read : Stmt := top 42
abbrev N__law_read : List Str := ["text", "words", "signs", "good", "value", "error", "word"]
theorem sc__law_read : FnScope N__law_read ["text"] (defScope s__law_read) := ⟨rfl, rfl, rfl, by decide +kernel, rfl, by decide +kernel, by decide +kernel⟩
theorem bi__law_read : BindH s__law_read "_law_read" ["text"] := fun _ _ _ _ _ _ us hl => match us, hl with | [_], _ => rfl
abbrev s__law_numbers : Stmt := top 43
abbrev N__law_numbers : List Str := ["number", "figures", "word", "told", "error", "back"]
theorem sc__law_numbers : FnScope N__law_numbers ["number"] (defScope s__law_numbers) := ⟨rfl, rfl, rfl, by decide +kernel, rfl, by decide +kernel, by decide +kernel⟩
theorem bi__law_numbers : BindH s__law_numbers "_law_numbers" ["number"] := fun _ _ _ _ _ _ us hl => match us, hl with | [_], _ => rfl
abbrev s__law_number : Stmt := top 44
abbrev N__law_number : List Str := ["word", "figures", "good", "value", "error"]
theorem sc__law_number : FnScope N__law_number ["word"] (defScope s__law_number) := ⟨rfl, rfl, rfl, by decide +kernel, rfl, by decide +kernel, by decide +kernel⟩
theorem bi__law_number : BindH s__law_number "_law_number" ["word"] := fun _ _ _ _ _ _ us hl => match us, hl with | [_], _ => rfl
abbrev s_law : Stmt := top 45
abbrev N_law : List Str := ["script", "draws", "signs", "turn", "texts", "words", "text", "least", "row", "good", "word", "number", "one", "at", "value", "k"]
theorem sc_law : FnScope N_law ["script"] (defScope s_law) := ⟨rfl, rfl, rfl, by decide +kernel, rfl, by decide +kernel, by decide +kernel⟩
theorem bi_law : BindH s_law "law" ["script"] := fun _ _ _ _ _ _ us hl => match us, hl with | [_], _ => rfl
structure Txt (K : PySem.W.Frag) (mg : Str → Option Value) (X_OutOfRange : Addr) (X_Malformed : Addr) (X_NotThere : Addr) (X_Refused : Addr) (X_TooMuch : Addr) : Prop where
  b_type : mg "type" = none
  b_str : mg "str" = none
  b_len : mg "len" = none
  b_all : mg "all" = none
  b_int : mg "int" = none
  b_tuple : mg "tuple" = none
  b_range : mg "range" = none
  b_abs : mg "abs" = none
  b_isinstance : mg "isinstance" = none
  b_ValueError : mg "ValueError" = none
  b_list : mg "list" = none
  b_bool : mg "bool" = none
  b_sorted : mg "sorted" = none
  d_is_name : At K mg "is_name" s_is_name
  d_is_number : At K mg "is_number" s_is_number
  d_is_tuple : At K mg "is_tuple" s_is_tuple
  d_is_ascending : At K mg "is_ascending" s_is_ascending
  d_is_names : At K mg "is_names" s_is_names
  d_is_figures : At K mg "is_figures" s_is_figures
  d_has_signs : At K mg "has_signs" s_has_signs
  d_are_sized : At K mg "are_sized" s_are_sized
  d_are_words : At K mg "are_words" s_are_words
  d_is_word : At K mg "is_word" s_is_word
  d_line_of : At K mg "line_of" s_line_of
  d_words_of : At K mg "words_of" s_words_of
  d_number_word : At K mg "number_word" s_number_word
  d_number_of : At K mg "number_of" s_number_of
  d__law_open : At K mg "_law_open" s__law_open
  d__law_mixed : At K mg "_law_mixed" s__law_mixed
  d__law_draw : At K mg "_law_draw" s__law_draw
  d__law_wide : At K mg "_law_wide" s__law_wide
  d__law_told : At K mg "_law_told" s__law_told
  d__law_text : At K mg "_law_text" s__law_text
  d__law_of : At K mg "_law_of" s__law_of
  d__law_names : At K mg "_law_names" s__law_names
  d__law_same : At K mg "_law_same" s__law_same
  d__law_line : At K mg "_law_line" s__law_line
  d__law_read : At K mg "_law_read" s__law_read
  d__law_numbers : At K mg "_law_numbers" s__law_numbers
  d__law_number : At K mg "_law_number" s__law_number
  d_law : At K mg "law" s_law
  e_OutOfRange : ExcAt K mg "OutOfRange" X_OutOfRange
  e_Malformed : ExcAt K mg "Malformed" X_Malformed
  e_NotThere : ExcAt K mg "NotThere" X_NotThere
  e_Refused : ExcAt K mg "Refused" X_Refused
  e_TooMuch : ExcAt K mg "TooMuch" X_TooMuch
  g_DE : ∃ DE : Addr, ExcAt K mg "DocketError" DE ∧ PySem.W.subIn K (.ref X_OutOfRange) (.ref DE) = some true
  g_kit : PySem.W.kitOne K (.ref X_OutOfRange) (.ref X_Malformed) = some false ∧ PySem.W.kitOne K (.ref X_OutOfRange) (.ref X_NotThere) = some false ∧ PySem.W.kitOne K (.ref X_OutOfRange) (.ref X_Refused) = some false ∧ PySem.W.kitOne K (.ref X_OutOfRange) (.ref X_TooMuch) = some false ∧ PySem.W.kitOne K (.ref X_Malformed) (.ref X_OutOfRange) = some false ∧ PySem.W.kitOne K (.ref X_Malformed) (.ref X_NotThere) = some false ∧ PySem.W.kitOne K (.ref X_Malformed) (.ref X_Refused) = some false ∧ PySem.W.kitOne K (.ref X_Malformed) (.ref X_TooMuch) = some false ∧ PySem.W.kitOne K (.ref X_NotThere) (.ref X_OutOfRange) = some false ∧ PySem.W.kitOne K (.ref X_NotThere) (.ref X_Malformed) = some false ∧ PySem.W.kitOne K (.ref X_NotThere) (.ref X_Refused) = some false ∧ PySem.W.kitOne K (.ref X_NotThere) (.ref X_TooMuch) = some false ∧ PySem.W.kitOne K (.ref X_Refused) (.ref X_OutOfRange) = some false ∧ PySem.W.kitOne K (.ref X_Refused) (.ref X_Malformed) = some false ∧ PySem.W.kitOne K (.ref X_Refused) (.ref X_NotThere) = some false ∧ PySem.W.kitOne K (.ref X_Refused) (.ref X_TooMuch) = some false ∧ PySem.W.kitOne K (.ref X_TooMuch) (.ref X_OutOfRange) = some false ∧ PySem.W.kitOne K (.ref X_TooMuch) (.ref X_Malformed) = some false ∧ PySem.W.kitOne K (.ref X_TooMuch) (.ref X_NotThere) = some false ∧ PySem.W.kitOne K (.ref X_TooMuch) (.ref X_Refused) = some false ∧ PySem.W.kitOne K (.ref X_OutOfRange) (.type "ValueError") = some true ∧ PySem.W.kitOne K (.ref X_Malformed) (.type "ValueError") = some true ∧ PySem.W.kitOne K (.ref X_NotThere) (.type "ValueError") = some true ∧ PySem.W.kitOne K (.ref X_Refused) (.type "ValueError") = some true ∧ PySem.W.kitOne K (.ref X_TooMuch) (.type "ValueError") = some true
  g_DX : ∀ DE : Addr, mg "DocketError" = some (.ref DE) → PySem.W.subIn K (.ref X_OutOfRange) (.ref DE) = some true ∧ PySem.W.subIn K (.ref X_Malformed) (.ref DE) = some true ∧ PySem.W.subIn K (.ref X_NotThere) (.ref DE) = some true ∧ PySem.W.subIn K (.ref X_Refused) (.ref DE) = some true ∧ PySem.W.subIn K (.ref X_TooMuch) (.ref DE) = some true
  g_LETTERS : ∃ t, mg "LETTERS" = some (.str "abcdefghijklmnopqrstuvwxyz" t)
  g_FIGURES : ∃ t, mg "FIGURES" = some (.str "0123456789" t)
  g_LONGEST_NAME : ∃ t, mg "LONGEST_NAME" = some (.int 16 t)
  g_WORD_SIGNS : ∃ t, mg "WORD_SIGNS" = some (.str "abcdefghijklmnopqrstuvwxyz0123456789-/.,:+=#_" t)
  g_LONGEST_WORD : ∃ t, mg "LONGEST_WORD" = some (.int 40 t)
  g_MOST_WORDS : ∃ t, mg "MOST_WORDS" = some (.int 20 t)
  g_MOST_FIGURES : ∃ t, mg "MOST_FIGURES" = some (.int 20 t)
  g_FIRST_TOO_LONG : ∃ t, mg "FIRST_TOO_LONG" = some (.int (10 ^ 20) t)
theorem same_new {H : Hp} {p : Addr} {o : HO} (h : H p = none) : Same H (upd H p o) := fun b u e => by
  rw [upd_ne (fun z => by rw [z, h] at e; cases e)]
  exact e
theorem same_put {H H' : Hp} {p : Addr} {o : HO} (s : Same H H') (h : H p = none) : Same H (upd H' p o) := fun b u e => by
  rw [upd_ne (fun z => by rw [z, h] at e; cases e)]
  exact s b u e
theorem i_inj (a b : Int) : (V.int a = V.int b) = (a = b) := propext ⟨fun h => V.int.inj h, fun h => by rw [h]⟩
/-- all but what stands at l stays -/
def But (l : Addr) (H H' : Hp) : Prop := ∀ b o, b ≠ l → H b = some o → H' b = some o
theorem But.refl (l : Addr) (H : Hp) : But l H H := fun _ _ _ e => e
theorem But.trans {l : Addr} {H H1 H2 : Hp} (a : But l H H1) (b : But l H1 H2) : But l H H2 := fun c o n e => b c o n (a c o n e)
theorem But.of {l : Addr} {H H1 : Hp} (a : Same H H1) : But l H H1 := fun c o _ e => a c o e
theorem map_get {ns : List Int} {i : Nat} {x : V} (h : (ns.map V.int)[i]? = some x) : ∃ n : Int, ns[i]? = some n ∧ x = .int n := by
  rw [List.getElem?_map] at h
  cases e : ns[i]? with
  | none =>
    rw [e] at h
    cases h
  | some n =>
    rw [e] at h
    exact ⟨n, rfl, (Option.some.inj h).symm⟩
theorem ints_add {zs : List Int} (v : Int) : zs.map V.int ++ [V.int v] = (zs ++ [v]).map V.int := by
  rw [List.map_append]
  rfl
end K3
set_option maxHeartbeats 2000000
/-! own: texts of given signs -/
namespace Tw
open PySem PySem.Spec PyProof.Rows L2 Kt TL
def LET : Str := "abcdefghijklmnopqrstuvwxyz"
def WS : Str := "abcdefghijklmnopqrstuvwxyz0123456789-/.,:+=#_"
/-- all signs of the text are of s -/
def allin (s z : Str) : Bool := (tl z).all fun c => decide (c ∈ tl s)
/-- a text of signs of s, from a to b of them -/
def ofS (s : Str) (a b : Int) (z : Str) : Bool := decide (a ≤ (z.length : Int)) && decide ((z.length : Int) ≤ b) && allin s z
theorem in_sign (s : Str) (c : Nat) : (!(Builtin.Str.occurrences s ⟨#[c]⟩ 0 s.length 1).isEmpty) = decide (c ∈ tl s) := StrLaws.found_one s c
theorem takeWhile_len_le {g : Nat → Bool} {l : List Nat} : (l.takeWhile g).length ≤ l.length := by
  induction l with
  | nil => exact Nat.le_refl _
  | cons c r ih =>
    rw [List.takeWhile_cons]
    split
    · simp only [List.length_cons]
      omega
    · simp
theorem tw_stop {g : Nat → Bool} {c : Nat} (hc : g c = false) : ∀ (p : List Nat), ((p ++ [c]).takeWhile g).length ≤ p.length := by
  intro p
  induction p with
  | nil => rw [List.nil_append, List.takeWhile_cons, hc]; simp
  | cons a r ih =>
    rw [List.cons_append, List.takeWhile_cons]
    split
    · simp only [List.length_cons]
      omega
    · simp
theorem tw_drop {g : Nat → Bool} : ∀ (l : List Nat), (l.all g = true ∧ (l.takeWhile g).length = l.length) ∨ (l.all g = false ∧ ∃ c r, l.drop (l.takeWhile g).length = c :: r ∧ g c = false) := by
  intro l
  induction l with
  | nil => exact .inl ⟨rfl, rfl⟩
  | cons a r ih =>
    rw [List.takeWhile_cons, List.all_cons]
    cases ha : g a with
    | true =>
      rw [if_pos rfl, List.length_cons, List.drop_succ_cons, Bool.true_and]
      rcases ih with ⟨h1, h2⟩ | ⟨h1, h2⟩
      · exact .inl ⟨h1, by rw [h2, List.length_cons]⟩
      · exact .inr ⟨h1, h2⟩
    | false =>
      exact .inr ⟨rfl, a, r, rfl, ha⟩
theorem strip_all (z s : Str) : decide (V.str (Txt.stripChars z s) = V.str "") = allin s z := by
  have hg : (fun c => s.cps.contains c) = fun c => decide (c ∈ tl s) := by
    funext c
    rw [Bool.eq_iff_iff, decide_eq_true_eq]
    exact Array.contains_iff.trans (by simp [tl])
  have he : tl ("" : Str) = [] := by decide +kernel
  have e : tl (Txt.stripChars z s) = [] ↔ allin s z = true := by
    show tl (Txt.stripBy (fun c => s.cps.contains c) true true z) = [] ↔ _
    rw [hg, PySem.W.stripBy_eq]
    generalize hgg : (fun c => decide (c ∈ tl s)) = g
    unfold PySem.W.stripped allin
    rw [hgg]
    simp only [if_true]
    rw [tl_strSub, len_tl]
    rcases tw_drop (g := g) (tl z) with ⟨h1, h2⟩ | ⟨h1, c, r, h2, h3⟩
    · show List.take _ (List.drop (List.takeWhile g (tl z)).length (tl z)) = [] ↔ _
      rw [h2, List.drop_length, List.take_nil, h1]
      simp
    · show List.take _ (List.drop (List.takeWhile g (tl z)).length (tl z)) = [] ↔ _
      have hl : (tl z).length = (List.takeWhile g (tl z)).length + (r.length + 1) := by
        have := congrArg List.length h2
        rw [List.length_drop, List.length_cons] at this
        have h4 := takeWhile_len_le (g := g) (l := tl z)
        omega
      have hs := tw_stop h3 r.reverse
      rw [h2, h1]
      have e3 : (c :: r).reverse = r.reverse ++ [c] := List.reverse_cons
      rw [List.length_reverse] at hs
      constructor
      · intro h
        exfalso
        have z1 := congrArg List.length h
        rw [List.length_take, List.length_cons, List.length_nil] at z1
        have z2 : (List.takeWhile g (c :: r).reverse).length ≤ r.length := by
          rw [e3]
          exact hs
        have z3 : min ((tl z).length - (List.takeWhile g (c :: r).reverse).length - (List.takeWhile g (tl z)).length) (r.length + 1) = 0 := z1
        omega
      · intro h
        cases h
  rw [Bool.eq_iff_iff, decide_eq_true_eq, ← e]
  exact ⟨fun h => by rw [V.str.inj h, he], fun h => by rw [TL.ext_tl (h.trans he.symm)]⟩
theorem allin_join (s : Str) : ∀ (zs : List Str), allin s (Txt.join "" zs) = zs.all (allin s) := by
  intro zs
  unfold allin
  rw [TL.join_eq, TL.tl_join]
  have he : tl ("" : Str) = [] := by decide +kernel
  rw [he]
  have : ∀ ls : List (List Nat), joinL [] ls = ls.flatten := by
    intro ls
    induction ls with
    | nil => rfl
    | cons a r ih =>
      cases r with
      | nil => simp [joinL]
      | cons b r => 
        rw [List.flatten_cons, ← ih]
        simp [joinL]
  rw [this, List.all_flatten, List.all_map]
  rfl
end Tw
set_option maxHeartbeats 2000000
/-! own: plain data compared -/
namespace Kj
open PySem PySem.Spec PyProof.Rows L2 Kt
mutual
def pyD : Dd → PyData
  | .non => .none
  | .bl b => .bool b
  | .int i => .int i
  | .str s => .str s
  | .tup ds => .tuple (pyDs ds)
  | .lst ds => .list (pyDs ds)
def pyDs : List Dd → List PyData
  | [] => []
  | d :: ds => pyD d :: pyDs ds
end
mutual
theorem rep_dp {K : PySem.W.Frag} {H : Hp} : ∀ (d : Dd) (v : V), Rep H d v → Dp K H v (pyD d)
  | .non, v, h => by unfold Rep at h; subst h; unfold pyD; exact .non
  | .bl b, v, h => by unfold Rep at h; subst h; unfold pyD; exact .bl b
  | .int b, v, h => by unfold Rep at h; subst h; unfold pyD; exact .int b
  | .str b, v, h => by unfold Rep at h; subst h; unfold pyD; exact .str b
  | .tup ds, v, h => by
    unfold Rep at h
    obtain ⟨h1, a, xs, e, h2, h3⟩ := h
    subst e
    unfold pyD
    exact .tup (SqT.of h2) (repL_dp ds xs h3)
  | .lst ds, v, h => by
    unfold Rep at h
    obtain ⟨h1, a, xs, e, h2, h3⟩ := h
    subst e
    unfold pyD
    exact .lst (SqL.of h2) (repL_dp ds xs h3)
theorem repL_dp {K : PySem.W.Frag} {H : Hp} : ∀ (ds : List Dd) (xs : List V), RepL H ds xs → DpAll K H xs (pyDs ds)
  | [], xs, h => by unfold RepL at h; subst h; unfold pyDs; exact .nil
  | d :: ds, xs, h => by
    unfold RepL at h
    obtain ⟨v, r, e, h1, h2⟩ := h
    subst e
    unfold pyDs
    exact .cons (rep_dp d v h1) (repL_dp ds r h2)
end
/-- a list of such data can be compared -/
def cmpD (ds : List Dd) : Prop := SeqAt.shaped (.list (pyDs ds)) = true
theorem cmp_refl {ds : List Dd} (h : cmpD ds) : PyData.eqv (.list (pyDs ds)) (.list (pyDs ds)) = true := SeqAt.eqv_refl _ (SeqAt.canLay_of_shaped h)
def ok3 (z : Str) : Prop := ∀ c ∈ TL.tl z, c < 1114112
theorem ok3_strOk {z : Str} (h : ok3 z) : PyData.strOk z = true := by
  unfold PyData.strOk
  rw [← Array.all_toList, List.all_eq_true]
  intro c hc
  exact decide_eq_true (h c hc)
theorem ok3_app {x y : Str} (h : ok3 x) (g : ok3 y) : ok3 (x ++ y) := fun c hc => by
  rw [TL.tl_append, List.mem_append] at hc
  exact hc.elim (h c) (g c)
theorem ok3_one {c : Nat} (h : c < 1114112) : ok3 ⟨#[c]⟩ := fun d hd => by
  rw [show TL.tl (⟨#[c]⟩ : Str) = [c] from rfl, List.mem_singleton] at hd
  rw [hd]
  exact h
theorem ok3_cut {z : Str} (h : ok3 z) (lo hi : Option Int) : ok3 (cutS z lo hi) := fun c hc => by
  have hc : c ∈ List.take (HT.sIx z.length z.length hi - HT.sIx z.length 0 lo) (List.drop (HT.sIx z.length 0 lo) z.cps.toList) := hc
  exact h c (List.mem_of_mem_drop (List.mem_of_mem_take hc))
theorem split_mem (z s : Str) : ∀ y ∈ Txt.split z s, ∀ c ∈ TL.tl y, c ∈ TL.tl z := fun y hy c hc => by
  unfold Txt.split at hy
  split at hy
  · rw [List.mem_singleton] at hy
    rw [hy] at hc
    exact hc
  · split at hy
    · rw [List.mem_singleton] at hy
      rw [hy] at hc
      exact hc
    · unfold Builtin.Str.partsBetween at hy
      rw [List.mem_map] at hy
      obtain ⟨⟨i, j⟩, _, rfl⟩ := hy
      have hc : c ∈ TL.tl (Builtin.Str.strSub z i j) := hc
      rw [TL.tl_strSub] at hc
      exact List.mem_of_mem_drop (List.mem_of_mem_take hc)
theorem ok3_split {z : Str} (h : ok3 z) (s : Str) : ∀ y ∈ Txt.split z s, ok3 y := fun y hy c hc => h c (split_mem z s y hy c hc)
theorem ok3_join {g : Str} (hg : ok3 g) {zs : List Str} (h : ∀ z ∈ zs, ok3 z) : ok3 (Txt.join g zs) := fun c hc => by
  rw [TL.join_eq, TL.tl_join] at hc
  have key : ∀ ls : List (List Nat), (∀ l ∈ ls, ∀ c ∈ l, c < 1114112) → ∀ c ∈ TL.joinL (TL.tl g) ls, c < 1114112 := by
    intro ls
    induction ls with
    | nil => intro _ c hc; cases hc
    | cons a r ih =>
      intro hl c hc
      cases r with
      | nil => exact hl a List.mem_cons_self c (by simpa [TL.joinL] using hc)
      | cons b r =>
        have hc : c ∈ a ++ (TL.tl g ++ TL.joinL (TL.tl g) (b :: r)) := by simpa [TL.joinL] using hc
        rw [List.mem_append, List.mem_append] at hc
        rcases hc with hc | hc | hc
        · exact hl a List.mem_cons_self c hc
        · exact hg c hc
        · exact ih (fun l hm => hl l (List.mem_cons_of_mem _ hm)) c hc
  refine key _ (fun l hm c hc => ?_) c hc
  obtain ⟨z, hz, rfl⟩ := List.mem_map.mp hm
  exact h z hz c hc
theorem cmp_strs {zs : List Str} (h : ∀ z ∈ zs, ok3 z) : cmpD (zs.map Dd.str) := by
  have e : pyDs (zs.map Dd.str) = zs.map PyData.str := by
    clear h
    induction zs with
    | nil => rfl
    | cons z r ih =>
      show pyDs (Dd.str z :: r.map Dd.str) = _
      unfold pyDs pyD
      rw [ih]
      rfl
  unfold cmpD
  rw [e]
  unfold SeqAt.shaped
  rw [Bool.and_eq_true, decide_eq_true_eq, PyData.canLay0.eq_5]
  have key : PyData.canLayAll0 (zs.map PyData.str) = true ∧ PyData.depthAll (zs.map PyData.str) = 0 := by
    clear e
    induction zs with
    | nil => exact ⟨rfl, rfl⟩
    | cons z r ih =>
      obtain ⟨i1, i2⟩ := ih (fun y hy => h y (List.mem_cons_of_mem _ hy))
      rw [List.map_cons, PyData.canLayAll0.eq_2, PyData.depthAll.eq_2, i1, i2, PyData.canLay0.eq_4, ok3_strOk (h z List.mem_cons_self)]
      exact ⟨rfl, rfl⟩
  refine ⟨key.1, ?_⟩
  have : PyData.depth (.list (zs.map PyData.str)) = PyData.depthAll (zs.map PyData.str) + 1 := by
    rw [PyData.depth.eq_def]
  rw [this, key.2]
  decide
end Kj
namespace K3
open PySem PySem.Spec PyProof.Rows L2 Kt
local macro_rules | `(tactic| walk_at "go") => `(tactic| repeat (first
  | refine ⟨_, rfl, ?_⟩
  | refine ⟨_, _, rfl, rfl, (by show (0 : Int) < _; decide), ?_⟩
  | refine ⟨_, _, rfl, rfl, (show CDiv _ _ from ⟨by decide, by decide⟩), ?_⟩
  | refine ⟨_, _, rfl, rfl, (show CPow _ _ from ⟨by decide, by decide, by decide⟩), ?_⟩
  | refine ⟨_, _, rfl, rfl, (show CMul _ _ from .inr ⟨by decide, by decide⟩), ?_⟩
  | refine ⟨_, _, rfl, rfl, (show CMul _ _ from .inl ⟨by decide, by decide⟩), ?_⟩
  | refine ⟨_, _, rfl, rfl, (by show (0 : Int) ≤ _; decide), ?_⟩
  | refine ⟨_, _, rfl, rfl, ?_⟩
  | refine .inl ⟨_, rfl, ?_⟩
  | refine ⟨(rfl : scal _ _ = true), ?_⟩))
section
variable {P : Program} {w : World} {K : PySem.W.Frag} {mg : Str → Option Value} {base : Heap} {OR MA NT RE TM : Addr}
theorem pack {H : Hp} {L : Addr} {o : HO} (n : H L = none) : ∃ H5, upd H L o = H5 ∧ Same H H5 ∧ H5 L = some o := ⟨_, rfl, same_new n, upd_same⟩
def nmOf (bs : List (Str × Bool)) : List Str := (bs.filter (·.2)).map (·.1)
def bs5 (b1 b2 b3 b4 b5 : Bool) : List (Str × Bool) := [("OutOfRange", b1), ("Malformed", b2), ("NotThere", b3), ("Refused", b4), ("TooMuch", b5)]
def spTold (K : PySem.W.Frag) (OR MA NT RE TM : Addr) : Addr → Value → Option Addr → Sp := fun a cls d vs H Q _ => vs = [.ref a] ∧ ∃ (D : Addr) (b1 b2 b3 b4 b5 : Bool) (nm : Str), cls = .ref D ∧ d = none ∧ ExcC K D ∧
  PySem.W.kitOne K (.ref D) (.ref OR) = some b1 ∧ PySem.W.kitOne K (.ref D) (.ref MA) = some b2 ∧ PySem.W.kitOne K (.ref D) (.ref NT) = some b3 ∧ PySem.W.kitOne K (.ref D) (.ref RE) = some b4 ∧ PySem.W.kitOne K (.ref D) (.ref TM) = some b5 ∧
  PySem.W.kitOne K (.ref D) (.type "ValueError") = some true ∧ nmOf (bs5 b1 b2 b3 b4 b5) = [nm] ∧ ∀ H', Same H H' → Q (.str nm) H'
theorem ok_law_told (T : Txt K mg OR MA NT RE TM) : Kh.PromE P w K mg base 1 "_law_told" ["error"] (Kh.byP (spTold K OR MA NT RE TM)) := by
  have nd := sc__law_told.nd
  refine Kh.okE T.d__law_told sc__law_told bi__law_told (fun p vs H Q E h => ?_) (fun f cdv A outer s H vs Q E p hc hf hr h => ?_)
  · obtain ⟨rfl, _⟩ := h
    rfl
  · obtain ⟨rfl, D, b1, b2, b3, b4, b5, nm, e1, e2, C, k1, k2, k3, k4, k5, kV, hnm, q⟩ := h
    have hz : Zc (.ref D) none p.2 := ⟨e1, e2⟩
    have is : ∀ {c : Addr} {b : Bool} {H : Hp} {Q : VK}, PySem.W.kitOne K (.ref D) (.ref c) = some b → Q (.bl b) H → Kh.rIsP K p [.ref p.1, .ref c] H Q := fun k q => ⟨D, hz, hf, C, _, _, _, rfl, fun u r => r, k, q⟩
    refine ⟨_, (pss_cons (ps_set (i := 1) nd rfl (Or.inl rfl) (pe_lst (pa_cons (pe_tup (pa_cons pe_str (pa_cons (pe_callB (Kh.call_isP List.mem_cons_self) (by rfl) T.b_isinstance (by decide +kernel) (pa_cons (pv 0) (pa_cons (pe_glob (v := .ref OR) rfl T.e_OutOfRange.g rfl) pa_nil))) pa_nil))) (pa_cons (pe_tup (pa_cons pe_str (pa_cons (pe_callB (Kh.call_isP List.mem_cons_self) (by rfl) T.b_isinstance (by decide +kernel) (pa_cons (pv 0) (pa_cons (pe_glob (v := .ref MA) rfl T.e_Malformed.g rfl) pa_nil))) pa_nil))) (pa_cons (pe_tup (pa_cons pe_str (pa_cons (pe_callB (Kh.call_isP List.mem_cons_self) (by rfl) T.b_isinstance (by decide +kernel) (pa_cons (pv 0) (pa_cons (pe_glob (v := .ref NT) rfl T.e_NotThere.g rfl) pa_nil))) pa_nil))) (pa_cons (pe_tup (pa_cons pe_str (pa_cons (pe_callB (Kh.call_isP List.mem_cons_self) (by rfl) T.b_isinstance (by decide +kernel) (pa_cons (pv 0) (pa_cons (pe_glob (v := .ref RE) rfl T.e_Refused.g rfl) pa_nil))) pa_nil))) (pa_cons (pe_tup (pa_cons pe_str (pa_cons (pe_callB (Kh.call_isP List.mem_cons_self) (by rfl) T.b_isinstance (by decide +kernel) (pa_cons (pv 0) (pa_cons (pe_glob (v := .ref TM) rfl T.e_TooMuch.g rfl) pa_nil))) pa_nil))) pa_nil)))))))
    (pss_cons (Kh.ps_setLcH (i := 2) (own := [("name", 3), ("true", 4)]) (g := gTup K 2 (gCons (gName 3) (gCons (gName 4) (gNil)))) hc nd rfl rfl (sw_true rfl rfl rfl (by decide +kernel)) (Kh.pi_listH (pv 1)) (blkOk_by (own := [("name", 3), ("true", 4)]) (N := N__law_told) (sc := defScope s__law_told) (by decide +kernel)) (fun _ _ _ _ _ => (Kh.pg_tupH (show L2H.HotC _ from hc) (pgs_cons (pg_name (i := 3) nd rfl (Or.inl rfl)) (pgs_cons (pg_name (i := 4) nd rfl (Or.inl rfl)) pgs_nil)))) (fun _ _ _ _ _ => (pts_one (pt_val (pv 4)))) (fun _ _ _ _ _ => (pv 3)))
    (pss_cons (ps_if (PW.pt (pw_or (pt_cmpR op_ne (pe_callB call_len_seq (by rfl) T.b_len (by decide +kernel) (pa_cons (pv 2) pa_nil)) pe_int (nomark _)) (pw_or1 (pt_not (pt_val (pe_callB (Kh.call_isP List.mem_cons_self) (by rfl) T.b_isinstance (by decide +kernel) (pa_cons (pv 0) (pa_cons (pe_bltn (v := .ty "ValueError") (by rfl) T.b_ValueError L2.boot_ValueError rfl) pa_nil)))))))) (pss_one (ps_ret pe_str)) pss_nil)
    (pss_one (ps_ret (pe_ix ix_list (pv 2) pe_int (fun _ _ => rfl))))))), ?_⟩
    -- the five pairs
    refine ⟨_, rfl, is k1 ⟨by show 2 ≤ sizeLine; decide, fun p1 n1 => ?_⟩⟩
    refine ⟨_, rfl, is k2 ⟨by show 2 ≤ sizeLine; decide, fun p2 n2 => ?_⟩⟩
    refine ⟨_, rfl, is k3 ⟨by show 2 ≤ sizeLine; decide, fun p3 n3 => ?_⟩⟩
    refine ⟨_, rfl, is k4 ⟨by show 2 ≤ sizeLine; decide, fun p4 n4 => ?_⟩⟩
    refine ⟨_, rfl, is k5 ⟨by show 2 ≤ sizeLine; decide, fun p5 n5 => ?_⟩⟩
    refine ⟨by show 5 ≤ sizeLine; decide, fun L nL => ?_⟩
    have s1 := same_new (o := HO.tup [V.str "OutOfRange", V.bl b1]) n1
    have s2 := same_new (o := HO.tup [V.str "Malformed", V.bl b2]) n2
    have s3 := same_new (o := HO.tup [V.str "NotThere", V.bl b3]) n3
    have s4 := same_new (o := HO.tup [V.str "Refused", V.bl b4]) n4
    have s5 := same_new (o := HO.tup [V.str "TooMuch", V.bl b5]) n5
    obtain ⟨H5, hH5, s6, tL⟩ := pack (o := HO.lst [V.ref p1, V.ref p2, V.ref p3, V.ref p4, V.ref p5]) nL
    have t1 := (s2.trans (s3.trans (s4.trans (s5.trans s6)))) p1 _ upd_same
    have t2 := (s3.trans (s4.trans (s5.trans s6))) p2 _ upd_same
    have t3 := (s4.trans (s5.trans s6)) p3 _ upd_same
    have t4 := (s5.trans s6) p4 _ upd_same
    have t5 := s6 p5 _ upd_same
    have sA := s1.trans (s2.trans (s3.trans (s4.trans (s5.trans s6))))
    obtain ⟨ps, hps⟩ : ∃ ps : List (Addr × Str × Bool), ps = [(p1, ("OutOfRange" : Str), b1), (p2, ("Malformed" : Str), b2), (p3, ("NotThere" : Str), b3), (p4, ("Refused" : Str), b4), (p5, ("TooMuch" : Str), b5)] := ⟨_, rfl⟩
    have tps : H5 L = some (.lst (ps.map fun t => V.ref t.1)) := by rw [tL, hps] <;> rfl
    have hT : ∀ t ∈ ps, H5 t.1 = some (.tup [.str t.2.1, .bl t.2.2]) := by
      intro t ht
      rw [hps] at ht
      rcases List.mem_cons.mp ht with e | ht
      · subst e; exact t1
      rcases List.mem_cons.mp ht with e | ht
      · subst e; exact t2
      rcases List.mem_cons.mp ht with e | ht
      · subst e; exact t3
      rcases List.mem_cons.mp ht with e | ht
      · subst e; exact t4
      rcases List.mem_cons.mp ht with e | ht
      · subst e; exact t5
      cases ht
    have hlen : ps.length = 5 := by rw [hps] <;> rfl
    have hall : nmOf (ps.map (·.2)) = [nm] := by rw [hps]; exact hnm
    have hle : ∀ i, (nmOf ((ps.take i).map (·.2))).length < sizeLine := fun i => by
      refine Nat.lt_of_le_of_lt (m := 5) ?_ (by decide)
      unfold nmOf
      rw [List.length_map]
      refine Nat.le_trans (List.length_filter_le _ _) ?_
      rw [List.length_map, List.length_take]
      omega
    rw [hH5]
    refine ⟨_, rfl, L, rfl, ⟨_, SqL.of tL⟩, fun DL nD => lc_list (K := K) (a := L) (xs := ps.map fun t => V.ref t.1) (fun i H' => Same H5 H' ∧ H' DL = some (.lst ((nmOf ((ps.take i).map (·.2))).map V.str)))
      ⟨same_new nD, upd_same⟩ (fun i H' _ ⟨s, _⟩ => s.seq (SqL.of tps)) ?_ ?_⟩
    · rintro i x H' hi ⟨s, hD⟩
      rw [List.getElem?_map] at hi
      cases ht : ps[i]? with
      | none =>
        rw [ht] at hi
        cases hi
      | some t =>
        rw [ht] at hi
        obtain rfl := (Option.some.inj hi).symm
        have hm := hT t (List.mem_of_getElem? ht)
        have take : (ps.take (i + 1)).map (·.2) = (ps.take i).map (·.2) ++ [t.2] := by rw [List.take_succ, ht, List.map_append] <;> rfl
        refine ⟨t.1, _, rfl, SqT.of (s _ _ hm), rfl, _, _, rfl, _, _, rfl, rfl, rfl, ?_⟩
        refine ⟨_, rfl, t.2.2, rfl, ?_⟩
        cases hb : t.2.2 with
        | true =>
          refine iteT ⟨_, rfl, _, hD, by rw [List.length_map]; exact hle i, ?_⟩
          refine ⟨same_put s nD, ?_⟩
          rw [upd_same, take]
          unfold nmOf
          rw [List.filter_append, List.map_append, List.map_append]
          have e : List.filter (fun x => x.2) [t.2] = [t.2] := by rw [List.filter_cons, if_pos hb] <;> rfl
          rw [e] <;> rfl
        | false =>
          refine iteF ⟨s, ?_⟩
          rw [hD, take]
          unfold nmOf
          rw [List.filter_append]
          have e : List.filter (fun x => x.2) [t.2] = [] := by rw [List.filter_cons, if_neg (by rw [hb]; exact Bool.false_ne_true)] <;> rfl
          rw [e, List.append_nil]
    · rintro H' ⟨s, hD⟩
      rw [List.length_map, List.take_length, hall] at hD
      refine ⟨_, rfl, DL, _, rfl, .inl (SqL.of hD), rfl, _, rfl, ?_⟩
      refine iteF ⟨_, rfl, D, hz, hf, C, _, _, _, rfl, fun u r => r, kV, ?_⟩
      refine ⟨true, rfl, iteF ?_⟩
      exact ⟨_, rfl, DL, _, 0, V.str nm, rfl, rfl, SqL.of hD, rfl, q _ (sA.trans s)⟩
end
end K3
namespace K3
open PySem PySem.Spec PyProof.Rows L2 Kt
theorem c18 {i j : Int} (h : 0 < j) (h2 : j ≤ 10 ^ 60) : CDivW i j := wide_div (b := 300) h (by
  have e : (10 : Int) ^ 60 < 2 ^ 300 := by decide +kernel
  have e2 : (j.natAbs : Int) < ((2 ^ 300 : Nat) : Int) := by
    have e3 : ((2 ^ 300 : Nat) : Int) = (2 : Int) ^ 300 := by decide +kernel
    omega
  exact Int.ofNat_lt.mp e2) (by decide) (by decide)
local macro_rules | `(tactic| walk_at "go") => `(tactic| repeat (first
  | refine ⟨_, rfl, ?_⟩
  | refine ⟨_, _, rfl, rfl, (by show (0 : Int) < _; decide), ?_⟩
  | refine ⟨_, _, rfl, rfl, (show CDiv _ _ from ⟨by decide, by decide⟩), ?_⟩
  | refine ⟨_, _, rfl, rfl, (show CPow _ _ from ⟨by decide, by decide, by decide⟩), ?_⟩
  | refine ⟨_, _, rfl, rfl, (show CMul _ _ from .inr ⟨by decide, by decide⟩), ?_⟩
  | refine ⟨_, _, rfl, rfl, (show CMul _ _ from .inl ⟨by decide, by decide⟩), ?_⟩
  | refine ⟨_, _, rfl, rfl, (by show (0 : Int) ≤ _; decide), ?_⟩
  | refine ⟨_, _, rfl, rfl, ?_⟩
  | refine .inl ⟨_, rfl, ?_⟩
  | refine ⟨(rfl : scal _ _ = true), ?_⟩))
theorem cut63 {ns : List Int} (h : ns.length ≤ 63) : cutV (ns.map V.int) none (some 63) = ns.map V.int := by
  unfold cutV
  have e1 : HT.sIx (ns.map V.int).length 0 none = 0 := rfl
  have e2 : HT.sIx (ns.map V.int).length (ns.map V.int).length (some 63) = ns.length := by
    have z := HT.sIx_nat (ns.map V.int).length (ns.map V.int).length 63
    have z2 : HT.sIx (ns.map V.int).length (ns.map V.int).length (some 63) = min 63 (ns.map V.int).length := z
    rw [z2, List.length_map]
    omega
  rw [e1, e2, List.drop_zero]
  exact List.take_of_length_le (by rw [List.length_map]; omega)
theorem at_mod (cs : List Int) (t : Int) (h : 0 < cs.length) : ∃ z : Int, atI (cs.map V.int) (t % ((cs.map V.int).length : Int)) = some (V.int z) := by
  have p : (0 : Int) < ((cs.map V.int).length : Int) := by rw [List.length_map]; omega
  have a0 := Int.emod_nonneg t (Int.ne_of_gt p)
  have a1 := Int.emod_lt_of_pos t p
  generalize t % ((cs.map V.int).length : Int) = i at a0 a1
  rw [List.length_map] at a1
  obtain ⟨n, rfl⟩ : ∃ n : Nat, i = (n : Int) := ⟨i.toNat, by omega⟩
  have hi : n < cs.length := by omega
  refine ⟨cs[n], ?_⟩
  exact atI_nat (by rw [List.getElem?_map, List.getElem?_eq_getElem hi]; rfl)
/-- the law's state of draws at p -/
def Drs (H : Hp) (p : Addr) : Prop := ∃ (t l : Int) (c : Addr) (cs : List Int), H p = some (.lst [.int t, .int l, .ref c]) ∧ c ≠ p ∧ H c = some (.lst (cs.map V.int)) ∧ 0 < cs.length ∧ cs.length ≤ 64
theorem Drs.same {H H' : Hp} {p : Addr} (d : Drs H p) (s : Same H H') : Drs H' p := by
  obtain ⟨t, l, c, cs, h1, h2, h3, h4, h5⟩ := d
  exact ⟨t, l, c, cs, s _ _ h1, h2, s _ _ h3, h4, h5⟩
section
variable {P : Program} {w : World} {K : PySem.W.Frag} {mg : Str → Option Value} {base : Heap} {OR MA NT RE TM : Addr}
theorem ok_law_open (T : Txt K mg OR MA NT RE TM) : Prom P w K mg base CX0 1 "_law_open" ["script"] (fun vs H Q _ => ∃ (a : Addr) (ns : List Int), vs = [.ref a] ∧ SqL K H a (ns.map V.int) ∧ ns.length ≤ 63 ∧ ∀ p H', Same H H' → H p = none → Drs H' p → Q (.ref p) H') := by
  have nd := sc__law_open.nd
  refine T.d__law_open.ok sc__law_open bi__law_open (fun vs H Q E h => ?_) (fun f cdv A outer s H vs Q E hr h => ?_)
  · obtain ⟨a, ns, rfl, _⟩ := h
    rfl
  · obtain ⟨a, ns, rfl, hS, hlen, q⟩ := h
    refine ⟨_, (pss_cons (ps_setLc (i := 1) (own := [("cell", 2)]) (g := gName 2) (by rfl) nd rfl rfl (sw_true rfl rfl rfl (by decide +kernel)) (pi_list (pe_slice sl_list (pv 0) po_none (po_some pe_int))) (blkOk_by (own := [("cell", 2)]) (N := N__law_open) (sc := defScope s__law_open) (by decide +kernel)) (fun _ _ _ _ _ => (pg_name (i := 2) nd rfl (Or.inl rfl))) (fun _ _ _ _ _ => pts_nil) (fun _ _ _ _ _ => (pe_callB call_abs (by rfl) T.b_abs (by decide +kernel) (pa_cons (pe_callTy call_int1 (by rfl) T.b_int (by decide +kernel) (pa_cons (pv 2) pa_nil)) pa_nil))))
    (pss_one (ps_ret (pe_lst (pa_cons pe_int (pa_cons pe_int (pa_cons (pe_op op_cat (pv 1) (pe_lst (pa_cons pe_int pa_nil))) pa_nil))))))), ?_⟩
    refine ⟨_, rfl, 63, rfl, a, _, rfl, hS, fun p hp => ?_⟩
    rw [cut63 hlen]
    refine ⟨p, rfl, ⟨_, SqL.of upd_same⟩, fun D nD => lc_list (K := K) (a := p) (xs := ns.map V.int) (fun i H' => Same (upd H p (.lst (ns.map V.int))) H' ∧ ∃ cs : List Int, cs.length ≤ i ∧ H' D = some (.lst (cs.map V.int)))
      ⟨same_new nD, [], Nat.le_refl _, upd_same⟩ (fun i H' _ ⟨s, _⟩ => s.seq (SqL.of upd_same)) ?_ ?_⟩
    · rintro i x H' hi ⟨s, cs, hl, hD⟩
      obtain ⟨n, hn, rfl⟩ := map_get hi
      have hi2 : i < ns.length := (List.getElem?_eq_some_iff.mp hn).1
      refine ⟨rfl, lcy ?_⟩
      refine ⟨_, rfl, .inl ⟨_, rfl, _, rfl, ?_⟩⟩
      refine ⟨_, hD, Nat.lt_of_le_of_lt (m := 63) (by rw [List.length_map]; omega) (by decide), same_put s nD, ?_⟩
      rw [ints_add]
      exact ⟨_, by rw [List.length_append]; show cs.length + 1 ≤ i + 1; omega, upd_same⟩
    · rintro H' ⟨s, cs, hl, hD⟩
      rw [List.length_map] at hl
      refine ⟨_, rfl, by show 1 ≤ sizeLine; decide, fun Z nZ => ?_⟩
      have hD1 := same_new (o := HO.lst [V.int 0]) nZ D _ hD
      refine ⟨D, Z, _, _, rfl, rfl, hD1, upd_same, Nat.le_trans (m := 64) (by rw [List.length_map]; show cs.length + 1 ≤ 64; omega) (by decide), fun p2 n2 => ?_⟩
      refine ⟨by show 3 ≤ sizeLine; decide, fun p3 n3 => ?_⟩
      have sA := (((same_new (o := HO.lst (ns.map V.int)) hp).trans s).trans (same_new nZ)).trans (same_new (o := HO.lst (cs.map V.int ++ [V.int 0])) n2)
      have ne : p2 ≠ p3 := fun e => by
        rw [e, upd_same] at n3
        cases n3
      refine q p3 _ (sA.trans (same_new n3)) (sA.free n3) ⟨0, 0, p2, cs ++ [0], upd_same, ne, ?_, by rw [List.length_append]; show 0 < cs.length + 1; omega, by rw [List.length_append]; show cs.length + 1 ≤ 64; omega⟩
      rw [upd_ne ne, upd_same, List.map_append]
      rfl
theorem ok_law_mixed (T : Txt K mg OR MA NT RE TM) : Prom P w K mg base CX0 1 "_law_mixed" ["cell", "turn"] (fun vs H Q _ => ∃ c t : Int, vs = [.int c, .int t] ∧ ∀ r, Q (.int r) H) := by
  have nd := sc__law_mixed.nd
  refine T.d__law_mixed.ok sc__law_mixed bi__law_mixed (fun vs H Q E h => ?_) (fun f cdv A outer s H vs Q E hr h => ?_)
  · obtain ⟨c, t, rfl, _⟩ := h
    rfl
  · obtain ⟨c, t, rfl, q⟩ := h
    refine ⟨_, (pss_cons (ps_set (i := 2) nd rfl (Or.inl rfl) (pe_op op_mod (pe_op op_add (pe_op op_add (pe_op op_mul (pe_op op_mod (pv 0) (pe_op op_sub (pe_op op_pow pe_int pe_int) pe_int)) pe_int) (pe_op op_mul (pv 1) pe_int)) pe_int) (pe_op op_pow pe_int pe_int)))
    (pss_cons (ps_set (i := 2) nd rfl (Or.inl rfl) (pe_op op_mod (pe_op op_mul (pe_op op_xor (pv 2) (pe_op op_shr (pv 2) pe_int)) pe_int) (pe_op op_pow pe_int pe_int)))
    (pss_one (ps_ret (pe_op op_mod (pe_op op_mul (pe_op op_xor (pv 2) (pe_op op_shr (pv 2) pe_int)) pe_int) (pe_op op_pow pe_int pe_int)))))), ?_⟩
    walk_at "go"
    exact q _
def spDraw : Sp := fun vs H Q _ => ∃ (p : Addr) (b : Int), vs = [.ref p, .int b] ∧ 0 < b ∧ b ≤ 10 ^ 60 ∧ Drs H p ∧ ∀ (r : Int) (H' : Hp), 0 ≤ r → r < b → But p H H' → Drs H' p → Q (.int r) H'
theorem ok_law_draw (T : Txt K mg OR MA NT RE TM) : Prom P w K mg base CX0 2 "_law_draw" ["draws", "size"] spDraw := by
  have nd := sc__law_draw.nd
  have pr__law_mixed := ok_law_mixed (P := P) (w := w) (base := base) T
  refine T.d__law_draw.ok sc__law_draw bi__law_draw (fun vs H Q E h => ?_) (fun f cdv A outer s H vs Q E hr h => ?_)
  · obtain ⟨p, b, rfl, _⟩ := h
    rfl
  · obtain ⟨p, b, rfl, b0, b1, ⟨t, l, c, cs, h1, h2, h3, h4, h5⟩, q⟩ := h
    refine ⟨_, (pss_cons (ps_asg (pv 0) (pg_lst rfl (pgs_cons (pg_name (i := 2) nd rfl (Or.inl rfl)) (pgs_cons (pg_name (i := 3) nd rfl (Or.inl rfl)) (pgs_cons (pg_name (i := 4) nd rfl (Or.inl rfl)) pgs_nil)))))
    (Evl.pss_cut (ps_if (pt_cmpR op_lt (pv 3) (pv 1) (nomark _)) (pss_cons (ps_set (i := 5) nd rfl (Or.inl rfl) (pe_ix ix_list (pv 4) (pe_op op_mod (pv 2) (pe_callB call_len_seq (by rfl) T.b_len (by decide +kernel) (pa_cons (pv 4) pa_nil))) (fun _ _ => rfl)))
    (pss_cons (ps_set (i := 3) nd rfl (Or.inl rfl) (pe_ifExp (PW.pt (pw_and (pt_cmpR op_lt (pv 2) (pe_callB call_len_seq (by rfl) T.b_len (by decide +kernel) (pa_cons (pv 4) pa_nil)) (nomark _)) (pw_and1 (pt_cmpR op_ge (pv 5) (pe_op op_pow pe_int pe_int) (nomark _))))) (pv 5) (pcall hr pr__law_mixed (pa_cons (pv 5) (pa_cons (pv 2) pa_nil)))))
    (pss_one (ps_set (i := 2) nd rfl (Or.inl rfl) (pe_op op_add (pv 2) pe_int))))) pss_nil)
    (pss_cons (ps_asg (pv 2) (pg_sub (pv 0) pe_int set_list))
    (pss_cons (ps_asg (pe_op op_fdivW (pv 3) (pv 1)) (pg_sub (pv 0) pe_int set_list))
    (pss_one (ps_ret (pe_op op_mod (pv 3) (pv 1)))))))), ?_⟩
    refine ⟨_, rfl, p, _, rfl, SqL.of h1, rfl, _, _, rfl, _, _, rfl, _, _, rfl, rfl, ?_⟩
    refine ⟨fun σ2 H2 => ∃ (t' l' : Int) (v5 : Option V), σ2 = [some (.ref p), some (.int b), some (.int t'), some (.int l'), some (.ref c), v5] ∧ H2 = H, ?_, ?_⟩
    · walk_at "go"
      refine ite2 (fun _ => ?_) (fun _ => ⟨_, _, _, rfl, rfl⟩)
      obtain ⟨z, hz⟩ := at_mod cs t h4
      refine ⟨_, rfl, _, rfl, _, rfl, c, _, rfl, .inl (SqL.of h3), _, _, rfl, rfl, by rw [List.length_map]; omega, c, _, _, _, rfl, rfl, SqL.of h3, hz, ?_⟩
      refine ⟨_, rfl, _, rfl, c, _, rfl, .inl (SqL.of h3), _, _, rfl, rfl, _, rfl, ?_⟩
      refine ite2 (fun _ => ?_) (fun _ => iteF ⟨_, rfl, _, rfl, z, t, rfl, fun r => ⟨_, rfl, _, _, rfl, rfl, _, _, _, rfl, rfl⟩⟩)
      refine ⟨_, rfl, _, _, rfl, rfl, (show CPow _ _ from ⟨by decide, by decide, by decide⟩), _, _, rfl, rfl, _, rfl, ?_⟩
      exact ite2 (fun _ => ⟨_, rfl, _, rfl, _, _, rfl, rfl, _, _, _, rfl, rfl⟩) (fun _ => ⟨_, rfl, _, rfl, z, t, rfl, fun r => ⟨_, rfl, _, _, rfl, rfl, _, _, _, rfl, rfl⟩⟩)
    · rintro σ2 H2 ⟨t', l', v5, rfl, rfl⟩
      refine ⟨_, rfl, _, rfl, p, _, 0, 0, rfl, rfl, h1, rfl, ?_⟩
      refine ⟨_, rfl, _, rfl, _, _, rfl, rfl, c18 b0 b1, _, rfl, p, _, 1, 1, rfl, rfl, upd_same, rfl, ?_⟩
      refine ⟨_, rfl, _, rfl, _, _, rfl, rfl, b0, ?_⟩
      refine q _ _ (Int.emod_nonneg _ (by omega)) (Int.emod_lt_of_pos _ b0) (fun o u ne e => ?_) ⟨t', l' / b, c, cs, upd_same, h2, ?_, h4, h5⟩
      · rw [upd_ne ne, upd_ne ne]
        exact e
      · rw [upd_ne h2, upd_ne h2]
        exact h3
end
end K3
namespace K3
open PySem PySem.Spec PyProof.Rows L2 Kt Fx
local macro_rules | `(tactic| walk_at "go") => `(tactic| repeat (first
  | refine ⟨_, rfl, ?_⟩
  | refine ⟨_, _, rfl, rfl, (by show (0 : Int) < _; decide), ?_⟩
  | refine ⟨_, _, rfl, rfl, (show CDiv _ _ from ⟨by decide, by decide⟩), ?_⟩
  | refine ⟨_, _, rfl, rfl, (show CPow _ _ from ⟨by decide, by decide, by decide⟩), ?_⟩
  | refine ⟨_, _, rfl, rfl, (show CMul _ _ from .inr ⟨by decide, by decide⟩), ?_⟩
  | refine ⟨_, _, rfl, rfl, (show CMul _ _ from .inl ⟨by decide, by decide⟩), ?_⟩
  | refine ⟨_, _, rfl, rfl, (by show (0 : Int) ≤ _; decide), ?_⟩
  | refine ⟨_, _, rfl, rfl, ?_⟩
  | refine .inl ⟨_, rfl, ?_⟩
  | refine ⟨(rfl : scal _ _ = true), ?_⟩))
section
variable {P : Program} {w : World} {K : PySem.W.Frag} {mg : Str → Option Value} {base : Heap} {OR MA NT RE TM : Addr}
theorem ok_law_wide (T : Txt K mg OR MA NT RE TM) : Prom P w K mg base CX0 3 "_law_wide" ["draws", "size"] spDraw := by
  have nd := sc__law_wide.nd
  have pr__law_draw := ok_law_draw (P := P) (w := w) (base := base) T
  refine T.d__law_wide.ok sc__law_wide bi__law_wide (fun vs H Q E h => ?_) (fun f cdv A outer s H vs Q E hr h => ?_)
  · obtain ⟨p, b, rfl, _⟩ := h
    rfl
  · obtain ⟨p, b, rfl, b0, b1, d, q⟩ := h
    refine ⟨_, (pss_cons (ps_set (i := 2) nd rfl (Or.inl rfl) pe_int)
    (pss_cons (ps_for PassesOwn.never rfl (pi_range1 (by rfl) T.b_range (pa_cons pe_int pa_nil)) (pg_name (i := 3) nd rfl (Or.inl rfl)) (pss_one (ps_set (i := 2) nd rfl (Or.inl rfl) (pe_op op_add (pe_op op_mul (pv 2) (pe_op op_pow pe_int pe_int)) (pcall hr pr__law_draw (pa_cons (pv 0) (pa_cons (pe_op op_pow pe_int pe_int) pa_nil)))))))
    (pss_one (ps_ret (pe_op op_mod (pv 2) (pv 1)))))), ?_⟩
    refine ⟨4, rfl, by decide, by decide, for_range (n := 4) (fun i σ' H' => ∃ (n : Int) (v3 : Option V), σ' = [some (.ref p), some (.int b), some (.int n), v3] ∧ But p H H' ∧ Drs H' p) ⟨0, none, rfl, But.refl p H, d⟩ ?_ ?_⟩
    · rintro i σ' H' hi ⟨n, v3, rfl, bt, d'⟩
      refine ⟨_, rfl, _, _, rfl, rfl, (show CPow _ _ from ⟨by decide, by decide, by decide⟩), _, _, rfl, rfl, (show CMul _ _ from .inr ⟨by decide +kernel, by decide +kernel⟩), ?_⟩
      refine ⟨_, rfl, _, _, rfl, rfl, (show CPow _ _ from ⟨by decide, by decide, by decide⟩), p, _, rfl, by decide +kernel, by decide +kernel, d', fun r H2 r0 r1 bt2 d2 => ?_⟩
      exact ⟨_, _, rfl, rfl, _, _, rfl, bt.trans bt2, d2⟩
    · rintro σ' H' ⟨n, v3, rfl, bt, d'⟩
      exact ⟨_, rfl, _, rfl, _, _, rfl, rfl, b0, q _ _ (Int.emod_nonneg _ (by omega)) (Int.emod_lt_of_pos _ b0) bt d'⟩
def spLowest : Sp := fun vs H Q _ => ∃ a b : Int, vs = [.int a, .int b] ∧ b ≠ 0 ∧ b.natAbs < 2 ^ 410 ∧ ∀ p H', Same H H' → H p = none → H' p = some (.tup [.int (lowP a b), .int (lowW a b)]) → Q (.ref p) H'
end
end K3
namespace Fx
theorem fd_0 {a b x : Int} (h : 0 ≤ b) (b0 : b ≠ 0) : x.fdiv (gd a b) = sg b * x / gd a b := by
  have g := gd_pos (p := a) b0
  rcases sg_cases b with ⟨h2, _⟩ | ⟨_, e⟩
  · omega
  · rw [e, Int.one_mul, Int.fdiv_eq_ediv_of_nonneg x (by omega)]
theorem fd_1 {a b x : Int} (h : b < 0) (d : gd a b ∣ x) : x.fdiv (-gd a b) = sg b * x / gd a b := by
  rcases sg_cases b with ⟨_, e⟩ | ⟨h2, _⟩
  · rw [e, Int.fdiv_eq_ediv_of_dvd (Int.neg_dvd.mpr d), Int.ediv_neg, Int.neg_mul, Int.one_mul, Int.neg_ediv_of_dvd d]
  · omega
theorem nb {a : Int} (h1 : -(10 ^ 60) ≤ a) (h2 : a ≤ 10 ^ 60) : a.natAbs < 2 ^ 200 := by
  have e : (10 : Int) ^ 60 < 2 ^ 200 := by decide +kernel
  have e3 : ((2 ^ 200 : Nat) : Int) = (2 : Int) ^ 200 := by decide +kernel
  omega
theorem Fr.na {a b : Int} (f : Fr a b) : a.natAbs < 2 ^ 200 := nb f.1 f.2.1
theorem Fr.nb {a b : Int} (f : Fr a b) : b.natAbs < 2 ^ 200 := by
  have h := f.2.2.1
  have e : (0 : Int) < 10 ^ 60 := by decide +kernel
  exact Fx.nb (by omega) f.2.2.2.1
theorem Fr.b0 {a b : Int} (f : Fr a b) : b ≠ 0 := by have := f.2.2.1; omega
theorem up410 {x : Nat} (h : x < 2 ^ (200 + 200)) : x < 2 ^ 410 := Nat.lt_trans h (by decide +kernel)
end Fx
namespace K3
open PySem PySem.Spec PyProof.Rows L2 Kt Fx
def CDivNW (_ j : Int) : Prop := j ≠ 0 ∧ j.natAbs.log2 < 9000
theorem op_fdivNW {X : Cx} : OpR X (binaryOp .FloorDiv) (rI CDivNW fun i j => .int (i.fdiv j)) := opI fun _ _ _ _ _ _ _ hc q => floordiv_int hc.1 q (.inl (PyProof.noPylong_of_log2 hc.2))
section
variable {P : Program} {w : World} {K : PySem.W.Frag} {mg : Str → Option Value} {base : Heap} {OR MA NT RE TM : Addr}
def spMade (OR : Addr) : Sp := fun vs H Q E => ∃ a b : Int, vs = [.int a, .int b] ∧ b.natAbs < 2 ^ 410 ∧ (b = 0 → E (.ref OR) none H) ∧ (b ≠ 0 → ∀ p H', Same H H' → H p = none → H' p = some (.tup [.int (lowP a b), .int (lowW a b)]) → Q (.ref p) H')
/-- two fractions -/
def Two (H : Hp) (p q : Addr) (a b c d : Int) : Prop := H p = some (.tup [.int a, .int b]) ∧ H q = some (.tup [.int c, .int d]) ∧ Fr a b ∧ Fr c d
def spTwo (fP fW : Int → Int → Int → Int → Int) : Sp := fun vs H Q _ => ∃ (p q : Addr) (a b c d : Int), vs = [.ref p, .ref q] ∧ Two H p q a b c d ∧ ∀ r H', Same H H' → H r = none → H' r = some (.tup [.int (lowP (fP a b c d) (fW a b c d)), .int (lowW (fP a b c d) (fW a b c d))]) → Q (.ref r) H'
theorem mw {a b : Int} (h1 : a.natAbs < 2 ^ 200) (h2 : b.natAbs < 2 ^ 200) : CMulW a b := wide_mul h1 h2 (by decide) (by decide) (by decide)
end
end K3
namespace Kt
open PySem PySem.Spec PyProof.Rows L2
theorem Rep.tyb {K : PySem.W.Frag} {H : Hp} {d : Dd} {v : V} (h : Rep H d v) : TyB K H v d.ty := by
  cases d with
  | non => unfold Rep at h; subst h; exact .non
  | bl b => unfold Rep at h; subst h; exact .bl b
  | int i => unfold Rep at h; subst h; exact .int i
  | str s => unfold Rep at h; subst h; exact .str s
  | tup ds => unfold Rep at h; obtain ⟨_, a, xs, rfl, e, _⟩ := h; exact .tup (SqT.of e)
  | lst ds => unfold Rep at h; obtain ⟨_, a, xs, rfl, e, _⟩ := h; exact .lst (SqL.of e)
end Kt
namespace K3
open PySem PySem.Spec PyProof.Rows L2 Kt Fx
def isNd : Dd → Int → Int → Bool
  | .int n, a, b => decide (a ≤ n) && decide (n ≤ b)
  | _, _, _ => false
def isTp : Dd → Int → Int → Bool
  | .tup ds, a, b => decide (a ≤ (ds.length : Int)) && decide ((ds.length : Int) ≤ b)
  | _, _, _ => false
def gOne : Dd → Dd → Bool
  | .int a, .int b => decide (gd a b = 1)
  | _, _ => false
def isFr : Dd → Bool
  | .tup [x, y] => isNd x (-(10 ^ 60)) (10 ^ 60) && (isNd y 1 (10 ^ 60) && gOne x y)
  | _ => false
theorem two_of {ds : List Dd} (h : isTp (.tup ds) 2 2 = true) : ∃ x y, ds = [x, y] := by
  have h : (decide ((2 : Int) ≤ (ds.length : Int)) && decide ((ds.length : Int) ≤ 2)) = true := h
  rw [Bool.and_eq_true, decide_eq_true_eq, decide_eq_true_eq] at h
  match ds, h with
  | [x, y], _ => exact ⟨x, y, rfl⟩
  | [], h => exact absurd h.1 (by decide)
  | [_], h =>
    have z := h.1
    simp only [List.length_cons, List.length_nil] at z
    omega
  | _ :: _ :: _ :: r, h =>
    have z := h.2
    simp only [List.length_cons] at z
    omega
theorem isFr_not {d : Dd} (h : isTp d 2 2 = false) : isFr d = false := by
  unfold isFr
  split
  · rename_i x y
    have z : isTp (.tup [x, y]) 2 2 = (decide ((2 : Int) ≤ 2) && decide ((2 : Int) ≤ 2)) := rfl
    rw [z] at h
    exact absurd h (by decide)
  · rfl
theorem nd_int {d : Dd} {a b : Int} (h : isNd d a b = true) : ∃ n, d = .int n := by
  cases d with
  | int n => exact ⟨n, rfl⟩
  | _ => cases h
section
variable {P : Program} {w : World} {K : PySem.W.Frag} {mg : Str → Option Value} {base : Heap} {OR MA NT RE TM : Addr}
theorem ok_is_number (T : Txt K mg OR MA NT RE TM) : Prom P w K mg base CX0 1 "is_number" ["value", "least", "most"] (fun vs H Q _ => ∃ (v : V) (d : Dd) (a b : Int), vs = [v, .int a, .int b] ∧ Rep H d v ∧ Q (.bl (isNd d a b)) H) := by
  have nd := sc_is_number.nd
  refine T.d_is_number.ok sc_is_number bi_is_number (fun vs H Q E h => ?_) (fun f cdv A outer s H vs Q E hr h => ?_)
  · obtain ⟨v, d, a, b, rfl, _⟩ := h
    rfl
  · obtain ⟨v, d, a, b, rfl, r, q⟩ := h
    refine ⟨_, (pss_one (ps_ret (pe_and (pe_cmpR op_isTyB (pe_callTy call_type1 (by rfl) T.b_type (by decide +kernel) (pa_cons (pv 0) pa_nil)) (pe_bltn (v := .ty "int") (by rfl) T.b_int PyProof.Rows.boot_int rfl) (nomark _)) (pe_one (pe_chain op_le op_le (pv 1) (pv 0) (pv 2)))))), ?_⟩
    refine ⟨v, rfl, v, d.ty, rfl, r.tyb, _, _, rfl, rfl, _, rfl, ?_⟩
    cases d with
    | int n =>
      unfold Rep at r
      subst r
      refine iteT ?_
      refine ⟨_, rfl, _, rfl, _, _, rfl, rfl, _, rfl, ?_⟩
      have e : isNd (.int n) a b = (decide (a ≤ n) && decide (n ≤ b)) := rfl
      rw [e] at q
      cases c : decide (a ≤ n) with
      | true =>
        rw [c, Bool.true_and] at q
        exact iteT ⟨_, rfl, _, _, rfl, rfl, q⟩
      | false =>
        rw [c, Bool.false_and] at q
        exact iteF q
    | _ => exact iteF q
theorem ok_is_tuple (T : Txt K mg OR MA NT RE TM) : Prom P w K mg base CX0 1 "is_tuple" ["value", "least", "most"] (fun vs H Q _ => ∃ (v : V) (d : Dd) (a b : Int), vs = [v, .int a, .int b] ∧ Rep H d v ∧ Q (.bl (isTp d a b)) H) := by
  have nd := sc_is_tuple.nd
  refine T.d_is_tuple.ok sc_is_tuple bi_is_tuple (fun vs H Q E h => ?_) (fun f cdv A outer s H vs Q E hr h => ?_)
  · obtain ⟨v, d, a, b, rfl, _⟩ := h
    rfl
  · obtain ⟨v, d, a, b, rfl, r, q⟩ := h
    refine ⟨_, (pss_one (ps_ret (pe_and (pe_cmpR op_isTyB (pe_callTy call_type1 (by rfl) T.b_type (by decide +kernel) (pa_cons (pv 0) pa_nil)) (pe_bltn (v := .ty "tuple") (by rfl) T.b_tuple PyProof.Rows.boot_tuple rfl) (nomark _)) (pe_one (pe_chain op_le op_le (pv 1) (pe_callB call_len_seq (by rfl) T.b_len (by decide +kernel) (pa_cons (pv 0) pa_nil)) (pv 2)))))), ?_⟩
    refine ⟨v, rfl, v, d.ty, rfl, r.tyb, _, _, rfl, rfl, _, rfl, ?_⟩
    cases d with
    | tup ds =>
      unfold Rep at r
      obtain ⟨hw, p, xs, rfl, hp, hl⟩ := r
      refine iteT ?_
      have e : isTp (.tup ds) a b = (decide (a ≤ (ds.length : Int)) && decide ((ds.length : Int) ≤ b)) := rfl
      rw [e, ← hl.len] at q
      refine ⟨_, rfl, _, rfl, p, xs, rfl, .inr (SqT.of hp), _, _, rfl, rfl, _, rfl, ?_⟩
      cases c : decide (a ≤ (xs.length : Int)) with
      | true =>
        rw [c, Bool.true_and] at q
        exact iteT ⟨_, rfl, _, _, rfl, rfl, q⟩
      | false =>
        rw [c, Bool.false_and] at q
        exact iteF q
    | _ => exact iteF q
theorem kit_int_bool {K : PySem.W.Frag} : PySem.W.kitOne K (.type "int") (.type "bool") = some false := kit_bool (K := K) (.int 0)
theorem kit_int_int {K : PySem.W.Frag} : PySem.W.kitOne K (.type "int") (.type "int") = some true := kit_int (K := K) (.int 0)
theorem kit_tup_tup {K : PySem.W.Frag} : PySem.W.kitOne K (.type "tuple") (.type "tuple") = some true := kit_tuple (K := K) (.tup [])
end
end K3
namespace K3
open PySem PySem.Spec PyProof.Rows L2 Kt Fx Tx Kj Tw
/-- a name -/
def nm (z : Str) : Bool := ofS LET 1 16 z
def nmD : Dd → Bool
  | .str z => nm z
  | _ => false
def ltS (x y : Str) : Bool := decide (x.cps.toList < y.cps.toList)
/-- ascending texts -/
def asc : List Str → Bool
  | x :: y :: r => ltS x y && asc (y :: r)
  | _ => true
def strsD : List Dd → List Str
  | .str z :: r => z :: strsD r
  | _ => []
def nmsD : Dd → Int → Int → Bool
  | .tup ds, a, b => decide (a ≤ (ds.length : Int)) && decide ((ds.length : Int) ≤ b) && (ds.all nmD && asc (strsD ds))
  | _, _, _ => false
theorem asc_iff : ∀ {zs : List Str}, asc zs = true ↔ ∀ i, (h : i + 1 < zs.length) → ltS zs[i] zs[i + 1] = true := by
  intro zs
  induction zs with
  | nil => exact ⟨fun _ i h => absurd h (Nat.not_lt_zero _), fun _ => rfl⟩
  | cons x r ih =>
    cases r with
    | nil => exact ⟨fun _ i h => absurd h (by simp), fun _ => rfl⟩
    | cons y r =>
      unfold asc
      rw [Bool.and_eq_true, ih]
      constructor
      · rintro ⟨h1, h2⟩ i h
        cases i with
        | zero => exact h1
        | succ i => exact h2 i (by simpa using h)
      · intro h
        exact ⟨h 0 (by simp), fun i hi => h (i + 1) (by simpa using hi)⟩
theorem strsD_map (zs : List Str) : strsD (zs.map Dd.str) = zs := by
  induction zs with
  | nil => rfl
  | cons z r ih => 
    show z :: strsD (r.map Dd.str) = _
    rw [ih]
theorem nmD_all {ds : List Dd} (h : ds.all nmD = true) : ds = (strsD ds).map Dd.str := by
  induction ds with
  | nil => rfl
  | cons d r ih =>
    rw [List.all_cons, Bool.and_eq_true] at h
    cases d with
    | str z => 
      show Dd.str z :: r = Dd.str z :: (strsD r).map Dd.str
      rw [← ih h.2]
    | _ => exact absurd h.1 Bool.false_ne_true
theorem repL_vals {H : Hp} : ∀ {zs : List Str} {xs : List V}, RepL H (zs.map Dd.str) xs → xs = zs.map V.str := by
  intro zs
  induction zs with
  | nil => 
    intro xs h
    unfold RepL at h
    exact h
  | cons z r ih =>
    intro xs h
    have h : RepL H (Dd.str z :: r.map Dd.str) xs := h
    unfold RepL at h
    obtain ⟨v, r', rfl, h1, h2⟩ := h
    unfold Rep at h1
    rw [h1, ih h2]
    rfl
section
variable {P : Program} {w : World} {K : PySem.W.Frag} {mg : Str → Option Value} {base : Heap} {OR MA NT RE TM FT NM AS NS : Addr} {Ts : List Addr}
def spD (Ts : List Addr) (f : Dd → Bool) : Sp := fun vs H Q _ => ∃ (v : V) (d : Dd), vs = [v] ∧ Rep H d v ∧ (∀ z, d = .str z → z.length ≤ sizeLine) ∧ TG Ts H ∧ ∀ H', ST Ts H H' → Q (.bl (f d)) H'
theorem ok_is_figures (T : Txt K mg OR MA NT RE TM) (B : Tbl K mg base "is_figures" s_is_figures FT) (hT : FT ∈ Ts) : Prom P w K mg base CX0 2 "is_figures" ["text"] (fun vs H Q _ => ∃ z : Str, vs = [.str z] ∧ TG Ts H ∧ ∀ H', ST Ts H H' → Q (.bl (figs (TL.tl z))) H') := by
  have nd := sc_is_figures.nd
  obtain ⟨tF, gF⟩ := T.g_FIGURES
  have nd2 : ((["sign"] : List Str) ++ N_is_figures).Nodup := by decide
  refine B.ok sc_is_figures bi_is_figures (fun vs H Q E h => ?_) (fun f c A outer s H vs Q E TB hr h => ?_)
  · obtain ⟨z, rfl, _⟩ := h
    rfl
  · obtain ⟨z, rfl, tg, q⟩ := h
    refine ⟨_, (pss_one (ps_ret (pe_and (pe_cmpR op_ne (pv 0) pe_str (nomark _)) (pe_one (Kg.pe_allG (xs := ["sign"]) hr rfl (by rfl) T.b_all (by rfl) TB rfl (show Kg.GnS (defScope s_is_figures) _ _ from Kg.gnS_by (by decide +kernel)) (show (((".0" : Str)) :: ((["sign"] : List Str) ++ N_is_figures)).Nodup by decide +kernel) (pi_str (pv 0)) (fun _ _ _ _ _ _ _ => (pg_name (i := 0) nd2 rfl (Or.inl rfl))) (fun _ _ _ _ _ _ _ hr => (pe_cmpR op_in_str (pv 0) (pe_glob (v := .str "0123456789") rfl gF ⟨_, rfl⟩) (by rfl))) (fun _ => rfl)))))), ?_⟩
    refine ⟨_, rfl, ?_⟩
    refine ⟨rfl, !(decide (V.str z = V.str "")), rfl, ?_⟩
    have e0 : decide (V.str z = V.str "") = (TL.tl z == []) := by
      have he : TL.tl ("" : Str) = [] := by decide +kernel
      rw [Bool.eq_iff_iff, decide_eq_true_eq, beq_iff_eq]
      exact ⟨fun h => by rw [V.str.inj h, he], fun h => by rw [TL.ext_tl (h.trans he.symm)]⟩
    rw [e0]
    have hST : ∀ H2, GxR.Tabbed FT H H2 → ST Ts H H2 := fun H2 g => ST.tabbed tg hT g
    cases hz : (TL.tl z == []) with
    | true =>
      rw [Bool.not_true, if_neg Bool.false_ne_true]
      have q := q H (ST.refl tg)
      unfold figs at q
      rw [hz] at q
      exact q
    | false =>
      rw [Bool.not_false, if_pos rfl]
      have e1 : ∀ H2, ST Ts H H2 → Q (.bl ((TL.tl z).all dig)) H2 := fun H2 st => by
        have q := q H2 st
        unfold figs at q
        rw [hz] at q
        exact q
      refine ⟨_, rfl, z, rfl, tg FT hT, fun H2 g => ?_⟩
      refine Kg.wlk_str (pb := dig) (fun c _ R r => ⟨_, rfl, _, _, rfl, rfl, ?_⟩) (fun h => ?_) fun h => ?_
      · rw [in_figs]
        exact r
      · have q := e1 H2 (hST H2 g)
        rw [h] at q
        exact q
      · have q := e1 H2 (hST H2 g)
        rw [h] at q
        exact q
theorem ok_is_name (T : Txt K mg OR MA NT RE TM) (B : Tbl K mg base "is_name" s_is_name NM) (hT : NM ∈ Ts) : Prom P w K mg base CX0 2 "is_name" ["value"] (spD Ts nmD) := by
  have nd := sc_is_name.nd
  obtain ⟨tF, gF⟩ := T.g_LETTERS
  obtain ⟨tL, gL⟩ := T.g_LONGEST_NAME
  have nd2 : ((["sign"] : List Str) ++ N_is_name).Nodup := by decide
  refine B.ok sc_is_name bi_is_name (fun vs H Q E h => ?_) (fun f c A outer s H vs Q E TB hr h => ?_)
  · obtain ⟨v, d, rfl, _⟩ := h
    rfl
  · obtain ⟨v, d, rfl, r, zl, tg, q⟩ := h
    refine ⟨_, (pss_cons (ps_if (PW.pt (pw_or (pt_cmpR op_notTyB (pe_callTy call_type1 (by rfl) T.b_type (by decide +kernel) (pa_cons (pv 0) pa_nil)) (pe_bltn (v := .ty "str") (by rfl) T.b_str PyProof.Rows.boot_str rfl) (nomark _)) (pw_or1 (pt_not (pt_chain op_le op_le pe_int (pe_callB call_len_str (by rfl) T.b_len (by decide +kernel) (pa_cons (pv 0) pa_nil)) (pe_glob (v := .int 16) rfl gL ⟨_, rfl⟩)))))) (pss_one (ps_ret pe_bl)) pss_nil)
    (pss_one (ps_ret (Kg.pe_allG (xs := ["sign"]) hr rfl (by rfl) T.b_all (by rfl) TB rfl (show Kg.GnS (defScope s_is_name) _ _ from Kg.gnS_by (by decide +kernel)) (show (((".0" : Str)) :: ((["sign"] : List Str) ++ N_is_name)).Nodup by decide +kernel) (pi_str (pv 0)) (fun _ _ _ _ _ _ _ => (pg_name (i := 0) nd2 rfl (Or.inl rfl))) (fun _ _ _ _ _ _ _ hr => (pe_cmpR op_in_str (pv 0) (pe_glob (v := .str LET) rfl gF ⟨_, rfl⟩) (by rfl))) (fun _ => rfl))))), ?_⟩
    refine ⟨v, rfl, v, d.ty, rfl, r.tyb, _, _, rfl, rfl, _, rfl, ?_⟩
    cases d with
    | str z =>
      unfold Rep at r
      subst r
      have hz := zl z rfl
      have q : ∀ H', ST Ts H H' → Q (.bl (nm z)) H' := q
      refine iteF ⟨_, rfl, _, rfl, hz, _, _, rfl, rfl, _, rfl, ?_⟩
      have e0 : nm z = (decide (1 ≤ (z.length : Int)) && decide ((z.length : Int) ≤ 16) && allin LET z) := rfl
      rw [e0] at q
      cases c1 : decide ((1 : Int) ≤ (z.length : Int)) with
      | false =>
        rw [c1] at q
        exact iteF ⟨_, rfl, iteT (q _ (ST.refl tg))⟩
      | true =>
        rw [c1, Bool.true_and] at q
        refine iteT ⟨_, _, rfl, rfl, _, rfl, ?_⟩
        cases c2 : decide ((z.length : Int) ≤ 16) with
        | false =>
          rw [c2] at q
          exact iteT (q _ (ST.refl tg))
        | true =>
          rw [c2, Bool.true_and] at q
          refine iteF ?_
          refine ⟨_, rfl, z, rfl, tg NM hT, fun H2 g => ?_⟩
          refine Kg.wlk_str (pb := fun c => decide (c ∈ TL.tl LET)) (fun c _ R r => ⟨_, rfl, _, _, rfl, rfl, ?_⟩) (fun h => ?_) fun h => ?_
          · rw [in_sign]
            exact r
          · have q := q H2 (ST.tabbed tg hT g)
            unfold allin at q
            rw [h] at q
            exact q
          · have q := q H2 (ST.tabbed tg hT g)
            unfold allin at q
            rw [h] at q
            exact q
    | _ => exact iteT (q _ (ST.refl tg))
theorem ok_is_ascending (T : Txt K mg OR MA NT RE TM) (B : Tbl K mg base "is_ascending" s_is_ascending AS) (hT : AS ∈ Ts) : Prom P w K mg base CX0 2 "is_ascending" ["values"] (fun vs H Q _ => ∃ (p : Addr) (zs : List Str), vs = [.ref p] ∧ H p = some (.tup (zs.map V.str)) ∧ zs.length ≤ 1000000 ∧ TG Ts H ∧ ∀ H', ST Ts H H' → Q (.bl (asc zs)) H') := by
  have nd := sc_is_ascending.nd
  have nd2 : ((["at"] : List Str) ++ N_is_ascending).Nodup := by decide
  refine B.ok sc_is_ascending bi_is_ascending (fun vs H Q E h => ?_) (fun f c A outer s H vs Q E TB hr h => ?_)
  · obtain ⟨p, zs, rfl, _⟩ := h
    rfl
  · obtain ⟨p, zs, rfl, hp, hl, tg, q⟩ := h
    refine ⟨_, (pss_one (ps_ret (Kg.pe_allG (xs := ["at"]) hr rfl (by rfl) T.b_all (by rfl) TB rfl (show Kg.GnS (defScope s_is_ascending) _ _ from Kg.gnS_by (by decide +kernel)) (show (((".0" : Str)) :: ((["at"] : List Str) ++ N_is_ascending)).Nodup by decide +kernel) (pi_range2 (by rfl) T.b_range (pa_cons pe_int (pa_cons (pe_callB call_len_seq (by rfl) T.b_len (by decide +kernel) (pa_cons (pv 0) pa_nil)) pa_nil))) (fun _ _ _ _ _ _ _ => (pg_name (i := 0) nd2 rfl (Or.inl rfl))) (fun _ _ _ _ _ _ _ hr => (pe_cmpR op_lt_str (pe_ix (Kj.ix_tupK (K := K) rfl) (pv 1) (pe_op op_sub (pv 0) pe_int) (fun _ _ => rfl)) (pe_ix (Kj.ix_tupK (K := K) rfl) (pv 1) (pv 0) (fun _ _ => rfl)) (nomark _))) (fun _ => rfl)))), ?_⟩
    have hlen : (zs.map V.str).length = zs.length := List.length_map ..
    refine ⟨_, rfl, p, _, rfl, .inr (SqT.of hp), ?_⟩
    rw [hlen]
    refine ⟨_, _, rfl, by omega, tg AS hT, fun H2 g => ?_⟩
    have hST := ST.tabbed tg hT g
    have hp2 := SqT.of (K := K) (hST.tup hp)
    have q := q H2 hST
    refine Kg.wlk_pure (n := ((zs.length : Int) - 1).toNat) (xs := fun i => .int (1 + (i : Int))) (pb := fun i => if h : i + 1 < zs.length then ltS zs[i] zs[i + 1] else true) ?_ (fun i hi R r => ?_) (fun h => ?_) fun i hi h => ?_
    · refine walk_range.mono (fun _ _ => trivial) fun i H v H' hi _ y => y
    · have hi1 : i + 1 < zs.length := by omega
      rw [dif_pos hi1] at r
      have e1 : (zs.map V.str)[i]? = some (.str zs[i]) := by rw [List.getElem?_map, List.getElem?_eq_getElem (by omega)]; rfl
      have e2 : (zs.map V.str)[i + 1]? = some (.str zs[i + 1]) := by rw [List.getElem?_map, List.getElem?_eq_getElem hi1]; rfl
      have a1 : atI (zs.map V.str) (1 + (i : Int) - 1) = some (.str zs[i]) := by
        have e : (1 + (i : Int) - 1) = (i : Int) := by omega
        rw [e]
        exact atI_nat e1
      have a2 : atI (zs.map V.str) (1 + (i : Int)) = some (.str zs[i + 1]) := by
        have e : (1 + (i : Int)) = ((i + 1 : Nat) : Int) := by omega
        rw [e]
        exact atI_nat e2
      exact ⟨_, rfl, _, rfl, _, _, rfl, rfl, p, _, _, _, rfl, rfl, hp2, a1, _, rfl, _, rfl, p, _, _, _, rfl, rfl, hp2, a2, _, _, rfl, rfl, r⟩
    · have e : asc zs = true := asc_iff.mpr fun i hi => by
        have := h i (by omega)
        rw [dif_pos hi] at this
        exact this
      rw [e] at q
      exact q
    · have e : asc zs = false := by
        cases c : asc zs with
        | false => rfl
        | true =>
          have := asc_iff.mp c i (by omega)
          rw [dif_pos (show i + 1 < zs.length by omega)] at h
          rw [h] at this
          cases this
      rw [e] at q
      exact q
theorem ok_is_names (T : Txt K mg OR MA NT RE TM) (B : Tbl K mg base "is_names" s_is_names NS) (BA : Tbl K mg base "is_ascending" s_is_ascending AS) (BN : Tbl K mg base "is_name" s_is_name NM) (hT : NS ∈ Ts) (hA : AS ∈ Ts) (hN : NM ∈ Ts) :
    Prom P w K mg base CX0 4 "is_names" ["value", "least", "most"] (fun vs H Q _ => ∃ (v : V) (d : Dd) (a b : Int), vs = [v, .int a, .int b] ∧ Rep H d v ∧ (∀ ds, d = .tup ds → ∀ z, Dd.str z ∈ ds → z.length ≤ sizeLine) ∧ TG Ts H ∧ ∀ H', ST Ts H H' → Q (.bl (nmsD d a b)) H') := by
  have nd := sc_is_names.nd
  have pr_is_tuple := ok_is_tuple (P := P) (w := w) (base := base) T
  have pr_is_name := ok_is_name (P := P) (w := w) (base := base) (Ts := Ts) T BN hN
  have pr_is_ascending := ok_is_ascending (P := P) (w := w) (base := base) (Ts := Ts) T BA hA
  have nd2 : ((["item"] : List Str) ++ N_is_names).Nodup := by decide
  refine B.ok sc_is_names bi_is_names (fun vs H Q E h => ?_) (fun f c A outer s H vs Q E TB hr h => ?_)
  · obtain ⟨v, d, a, b, rfl, _⟩ := h
    rfl
  · obtain ⟨v, d, a, b, rfl, r, zl, tg, q⟩ := h
    refine ⟨_, (pss_cons (ps_if (pt_not (pt_val (pcall hr pr_is_tuple (pa_cons (pv 0) (pa_cons (pv 1) (pa_cons (pv 2) pa_nil)))))) (pss_one (ps_ret pe_bl)) pss_nil)
    (pss_one (ps_ret (pe_and (Kg.pe_allG (xs := ["item"]) hr rfl (by rfl) T.b_all (by rfl) TB rfl (show Kg.GnS (defScope s_is_names) _ _ from Kg.gnS_by (by decide +kernel)) (show (((".0" : Str)) :: ((["item"] : List Str) ++ N_is_names)).Nodup by decide +kernel) (pi_tup (pv 0)) (fun _ _ _ _ _ _ _ => (pg_name (i := 0) nd2 rfl (Or.inl rfl))) (fun _ _ _ _ _ _ _ hr => (pcall hr pr_is_name (pa_cons (pv 0) pa_nil))) (fun _ => rfl)) (pe_one (pcall hr pr_is_ascending (pa_cons (pv 0) pa_nil))))))), ?_⟩
    refine ⟨v, rfl, _, rfl, _, rfl, v, d, a, b, rfl, r, ?_⟩
    cases d with
    | tup ds =>
      have r0 := r
      unfold Rep at r
      obtain ⟨hw, p, xs, rfl, hp, hl⟩ := r
      have e : nmsD (.tup ds) a b = (isTp (.tup ds) a b && (ds.all nmD && asc (strsD ds))) := rfl
      rw [e] at q
      cases c1 : isTp (.tup ds) a b with
      | false =>
        rw [c1] at q
        exact ⟨_, rfl, iteT (q _ (ST.refl tg))⟩
      | true =>
        rw [c1, Bool.true_and] at q
        refine ⟨_, rfl, iteF ?_⟩
        refine ⟨_, rfl, p, rfl, ⟨_, SqT.of hp⟩, tg NS hT, fun H2 g => ?_⟩
        have st2 := ST.tabbed tg hT g
        have hl2 := repL_st st2 hl
        refine wlk_tupS (Ts := Ts) (xs := xs) (pb := fun i => match ds[i]? with | some d => nmD d | none => true) (st2.tup hp) st2.tg (fun i v ev H3 st R rr => ?_) (fun H3 st h => ?_) fun H3 st i hi h => ?_
        · obtain ⟨d', ed, rd⟩ := repL_at hl2 ev
          refine ⟨v, rfl, v, d', rfl, rep_st st rd, fun z hz => zl ds rfl z ?_, st.tg, fun H' st' => ?_⟩
          · rw [← hz]
            exact List.mem_of_getElem? ed
          · have := rr H' (st.trans st')
            rw [ed] at this
            exact this
        · have ha : ds.all nmD = true := by
            rw [List.all_eq_true]
            intro d' hd
            obtain ⟨i, hi, e⟩ := List.getElem_of_mem hd
            have := h i (by rw [hl.len]; exact hi)
            rw [List.getElem?_eq_getElem hi, e] at this
            exact this
          rw [ha, Bool.true_and] at q
          have ed := nmD_all ha
          rw [ed] at hl
          have ex := repL_vals hl
          have hle : (strsD ds).length = ds.length := by
            have := congrArg List.length ed
            rw [List.length_map] at this
            exact this.symm
          have st4 := st2.trans st
          refine ⟨true, rfl, iteT ⟨_, rfl, p, strsD ds, rfl, ?_, by omega, st4.tg, fun H' st' => q _ (st4.trans st')⟩⟩
          rw [← ex]
          exact st4.tup hp
        · have ha : ds.all nmD = false := by
            rw [List.all_eq_false]
            have hi' : i < ds.length := by rw [← hl.len]; exact hi
            rw [List.getElem?_eq_getElem hi'] at h
            exact ⟨_, List.getElem_mem hi', by rw [show nmD ds[i] = false from h]; exact Bool.false_ne_true⟩
          rw [ha] at q
          exact ⟨false, rfl, iteF (q _ (st2.trans st))⟩
    | _ => exact ⟨_, rfl, iteT (q _ (ST.refl tg))⟩
end
end K3
namespace K3
open PySem PySem.Spec PyProof.Rows L2 Kt Fx Tx Kj Tw
/-- a word -/
def wd (z : Str) : Bool := ofS WS 1 40 z
def szD : Dd → Bool
  | .str z => decide (1 ≤ (z.length : Int)) && decide ((z.length : Int) ≤ 40)
  | _ => false
def wdD : Dd → Bool
  | .str z => wd z
  | _ => false
def szsD (ds : List Dd) : Bool := decide (1 ≤ (ds.length : Int)) && decide ((ds.length : Int) ≤ 20) && ds.all szD
def wdsD (ds : List Dd) : Bool := decide (1 ≤ (ds.length : Int)) && decide ((ds.length : Int) ≤ 20) && ds.all wdD
theorem wdD_eq (d : Dd) : wdD d = (szD d && match d with | .str z => allin WS z | _ => true) := by
  cases d with
  | str z => rfl
  | _ => rfl
theorem szD_all {ds : List Dd} (h : ds.all szD = true) : ds = (strsD ds).map Dd.str := by
  induction ds with
  | nil => rfl
  | cons d r ih =>
    rw [List.all_cons, Bool.and_eq_true] at h
    cases d with
    | str z => 
      show Dd.str z :: r = Dd.str z :: (strsD r).map Dd.str
      rw [← ih h.2]
    | _ => exact absurd h.1 Bool.false_ne_true
theorem wds_szs {ds : List Dd} (h : szsD ds = true) : wdsD ds = (strsD ds).all (allin WS) := by
  unfold szsD at h
  unfold wdsD
  rw [Bool.and_eq_true] at h
  rw [h.1, Bool.true_and]
  have e := szD_all h.2
  have h2 := h.2
  rw [e] at h2 ⊢
  rw [strsD_map, List.all_map, Bool.eq_iff_iff, List.all_eq_true, List.all_eq_true]
  rw [List.all_map, List.all_eq_true] at h2
  constructor
  · intro g z hz
    have := g z hz
    have t : wd z = true := this
    unfold wd ofS at t
    rw [Bool.and_eq_true] at t
    exact t.2
  · intro g z hz
    show wd z = true
    unfold wd ofS
    rw [Bool.and_eq_true]
    exact ⟨h2 z hz, g z hz⟩
theorem wds_not {ds : List Dd} (h : szsD ds = false) : wdsD ds = false := by
  cases c : wdsD ds with
  | false => rfl
  | true =>
    unfold wdsD at c
    unfold szsD at h
    rw [Bool.and_eq_true] at c
    rw [c.1, Bool.true_and] at h
    rw [List.all_eq_false] at h
    obtain ⟨d, hd, hn⟩ := h
    have := List.all_eq_true.mp c.2 d hd
    rw [wdD_eq, Bool.and_eq_true] at this
    exact absurd this.1 hn
theorem sz_len {ds : List Dd} (h : szsD ds = true) : (strsD ds).length ≤ 20 ∧ ∀ z ∈ strsD ds, z.length ≤ 40 := by
  unfold szsD at h
  rw [Bool.and_eq_true, Bool.and_eq_true, decide_eq_true_eq, decide_eq_true_eq] at h
  have e := szD_all h.2
  have h2 := h.2
  rw [e, List.all_map, List.all_eq_true] at h2
  have hl := congrArg List.length e
  rw [List.length_map] at hl
  refine ⟨by omega, fun z hz => ?_⟩
  have t : (decide (1 ≤ (z.length : Int)) && decide ((z.length : Int) ≤ 40)) = true := h2 z hz
  rw [Bool.and_eq_true, decide_eq_true_eq, decide_eq_true_eq] at t
  omega
section
variable {P : Program} {w : World} {K : PySem.W.Frag} {mg : Str → Option Value} {base : Heap} {OR MA NT RE TM FT NM AS NS : Addr} {Ts : List Addr}
theorem ok_has_signs (T : Txt K mg OR MA NT RE TM) : Prom P w K mg base CX0 1 "has_signs" ["text", "signs"] (fun vs H Q _ => ∃ z s : Str, vs = [.str z, .str s] ∧ z.length ≤ sizeLine ∧ Q (.bl (allin s z)) H) := by
  have nd := sc_has_signs.nd
  refine T.d_has_signs.ok sc_has_signs bi_has_signs (fun vs H Q E h => ?_) (fun f cdv A outer s H vs Q E hr h => ?_)
  · obtain ⟨z, y, rfl, _⟩ := h
    rfl
  · obtain ⟨z, y, rfl, hz, q⟩ := h
    refine ⟨_, (pss_one (ps_ret (pe_cmpR op_eq (pe_m1 PySem.F.slot_str_strip PySem.F.type_str_strip mt_stripChars (pv 0) (pv 1)) pe_str (nomark _)))), ?_⟩
    have e := strip_all z y
    refine ⟨_, rfl, ⟨_, rfl⟩, _, rfl, z, y, rfl, rfl, hz, ?_⟩
    rw [← e] at q
    exact ⟨rfl, q⟩
def spDs (f : List Dd → Bool) : Sp := fun vs H Q _ => ∃ (p : Addr) (ds : List Dd) (xs : List V), vs = [.ref p] ∧ H p = some (.lst xs) ∧ RepL H ds xs ∧ (∀ z, Dd.str z ∈ ds → z.length ≤ sizeLine) ∧ Q (.bl (f ds)) H
theorem ok_are_sized (T : Txt K mg OR MA NT RE TM) : Prom P w K mg base CX0 1 "are_sized" ["values"] (spDs szsD) := by
  have nd := sc_are_sized.nd
  obtain ⟨tW, gW⟩ := T.g_MOST_WORDS
  obtain ⟨tL, gL⟩ := T.g_LONGEST_WORD
  refine T.d_are_sized.ok sc_are_sized bi_are_sized (fun vs H Q E h => ?_) (fun f cdv A outer s H vs Q E hr h => ?_)
  · obtain ⟨p, ds, xs, rfl, _⟩ := h
    rfl
  · obtain ⟨p, ds, xs, rfl, hp, hl, zl, q⟩ := h
    refine ⟨_, (pss_cons (ps_if (pt_not (pt_chain op_le op_le pe_int (pe_callB call_len_seq (by rfl) T.b_len (by decide +kernel) (pa_cons (pv 0) pa_nil)) (pe_glob (v := .int 20) rfl gW ⟨_, rfl⟩))) (pss_one (ps_ret pe_bl)) pss_nil)
    (pss_cons (ps_for PassesOwn.never rfl (pi_list (pv 0)) (pg_name (i := 1) nd rfl (Or.inl rfl)) (pss_one (ps_if (PW.pt (pw_or (pt_cmpR op_notTyB (pe_callTy call_type1 (by rfl) T.b_type (by decide +kernel) (pa_cons (pv 1) pa_nil)) (pe_bltn (v := .ty "str") (by rfl) T.b_str PyProof.Rows.boot_str rfl) (nomark _)) (pw_or1 (pt_not (pt_chain op_le op_le pe_int (pe_callB call_len_str (by rfl) T.b_len (by decide +kernel) (pa_cons (pv 1) pa_nil)) (pe_glob (v := .int 40) rfl gL ⟨_, rfl⟩)))))) (pss_one (ps_ret pe_bl)) pss_nil)))
    (pss_one (ps_ret pe_bl)))), ?_⟩
    have e0 : szsD ds = (decide (1 ≤ (xs.length : Int)) && decide ((xs.length : Int) ≤ 20) && ds.all szD) := by
      rw [hl.len]
      rfl
    rw [e0] at q
    refine ⟨_, rfl, p, xs, rfl, .inl (SqL.of hp), _, _, rfl, rfl, _, rfl, ?_⟩
    cases c1 : decide ((1 : Int) ≤ (xs.length : Int)) with
    | false =>
      rw [c1] at q
      exact iteF ⟨_, rfl, iteT q⟩
    | true =>
      rw [c1, Bool.true_and] at q
      refine iteT ⟨_, _, rfl, rfl, _, rfl, ?_⟩
      cases c2 : decide ((xs.length : Int) ≤ 20) with
      | false =>
        rw [c2] at q
        exact iteT q
      | true =>
        rw [c2, Bool.true_and] at q
        refine iteF ?_
        refine ⟨_, rfl, p, rfl, ⟨_, SqL.of hp⟩, for_list (xs := xs) (fun i σ' H' => (∃ u, σ' = [some (.ref p), u]) ∧ H' = H ∧ ∀ j d, j < i → ds[j]? = some d → szD d = true) ⟨⟨_, rfl⟩, rfl, fun j d hj => absurd hj (Nat.not_lt_zero j)⟩ ?_ ?_ ?_⟩
        · rintro i σ' H' hi ⟨_, rfl, _⟩
          exact SqL.of hp
        · rintro i x σ' H' ev ⟨⟨u, rfl⟩, rfl, hj⟩
          obtain ⟨d, ed, rd⟩ := repL_at hl ev
          have hq : szD d = false → Q (.bl false) H' := fun h => by
            have ha : ds.all szD = false := by
              rw [List.all_eq_false]
              exact ⟨d, List.mem_of_getElem? ed, by rw [h]; exact Bool.false_ne_true⟩
            rw [ha] at q
            exact q
          have hk : szD d = true → ∀ j d', j < i + 1 → ds[j]? = some d' → szD d' = true := fun h j d' h1 h2 => by
            by_cases z : j = i
            · rw [z, ed] at h2
              cases h2
              exact h
            · exact hj j d' (by omega) h2
          refine ⟨_, rfl, x, d.ty, rfl, rd.tyb, _, _, rfl, rfl, _, rfl, ?_⟩
          cases d with
          | str z =>
            unfold Rep at rd
            subst rd
            have hz := zl z (List.mem_of_getElem? ed)
            have e1 : szD (.str z) = (decide (1 ≤ (z.length : Int)) && decide ((z.length : Int) ≤ 40)) := rfl
            rw [e1] at hq hk
            refine iteF ⟨_, rfl, _, rfl, hz, _, _, rfl, rfl, _, rfl, ?_⟩
            cases c3 : decide ((1 : Int) ≤ (z.length : Int)) with
            | false =>
              rw [c3] at hq
              exact iteF ⟨_, rfl, iteT (hq rfl)⟩
            | true =>
              rw [c3] at hq hk
              refine iteT ⟨_, _, rfl, rfl, _, rfl, ?_⟩
              cases c4 : decide ((z.length : Int) ≤ 40) with
              | false =>
                rw [c4] at hq
                exact iteT (hq rfl)
              | true =>
                rw [c4] at hk
                exact iteF ⟨⟨_, rfl⟩, rfl, hk rfl⟩
          | _ => exact iteT (hq rfl)
        · rintro σ' H' ⟨⟨u, rfl⟩, rfl, hj⟩
          have ha : ds.all szD = true := by
            rw [List.all_eq_true]
            intro d hd
            obtain ⟨i, hi, e⟩ := List.getElem_of_mem hd
            exact hj i d (by rw [hl.len]; exact hi) (by rw [List.getElem?_eq_getElem hi, e])
          rw [ha] at q
          exact q
theorem sum_len {zs : List Str} {b : Nat} (h : ∀ z ∈ zs, z.length ≤ b) : (zs.map (·.length)).sum ≤ zs.length * b := StrLaws.sumLen_le zs h
theorem join_len {zs : List Str} {b : Nat} (g : Str) (h : ∀ z ∈ zs, z.length ≤ b) : (Txt.join g zs).length ≤ zs.length * b + zs.length * g.length := by
  have := StrLaws.join_length_le g zs
  rw [← TL.join_eq] at this
  have := sum_len h
  omega
theorem ok_are_words (T : Txt K mg OR MA NT RE TM) : Prom P w K mg base CX0 2 "are_words" ["values"] (spDs wdsD) := by
  have nd := sc_are_words.nd
  obtain ⟨tW, gW⟩ := T.g_WORD_SIGNS
  have pr_are_sized := ok_are_sized (P := P) (w := w) (base := base) T
  have pr_has_signs := ok_has_signs (P := P) (w := w) (base := base) T
  refine T.d_are_words.ok sc_are_words bi_are_words (fun vs H Q E h => ?_) (fun f cdv A outer s H vs Q E hr h => ?_)
  · obtain ⟨p, ds, xs, rfl, _⟩ := h
    rfl
  · obtain ⟨p, ds, xs, rfl, hp, hl, zl, q⟩ := h
    refine ⟨_, (pss_one (ps_ret (pe_and (pcall hr pr_are_sized (pa_cons (pv 0) pa_nil)) (pe_one (pcall hr pr_has_signs (pa_cons (pe_m1 PySem.F.slot_str_join PySem.F.type_str_join mt_join pe_str (pv 0)) (pa_cons (pe_glob (v := .str WS) rfl gW ⟨_, rfl⟩) pa_nil))))))), ?_⟩
    refine ⟨_, rfl, p, ds, xs, rfl, hp, hl, zl, ?_⟩
    cases c1 : szsD ds with
    | false =>
      rw [wds_not c1] at q
      exact ⟨_, rfl, iteF q⟩
    | true =>
      rw [wds_szs c1] at q
      have e := szD_all (show ds.all szD = true by
        unfold szsD at c1
        rw [Bool.and_eq_true] at c1
        exact c1.2)
      rw [e] at hl
      have ex := repL_vals hl
      obtain ⟨l1, l2⟩ := sz_len c1
      have s1 := sum_len l2
      have s2 := join_len "" l2
      have e0 : ("" : Str).length = 0 := by decide +kernel
      have s3 : (strsD ds).length * ("" : Str).length = 0 := by rw [e0, Nat.mul_zero]
      have big : (1000 : Nat) ≤ sizeLine := by decide
      rw [← allin_join] at q
      refine ⟨_, rfl, iteT ⟨⟨_, rfl⟩, _, rfl, _, p, strsD ds, rfl, rfl, .inl (SqL.of (by rw [← ex]; exact hp)), by omega, _, _, rfl, by omega, q⟩⟩
theorem ok_is_word (T : Txt K mg OR MA NT RE TM) : Prom P w K mg base CX0 3 "is_word" ["value"] (fun vs H Q _ => ∃ (v : V) (d : Dd), vs = [v] ∧ Rep H d v ∧ (∀ z, d = .str z → z.length ≤ sizeLine) ∧ ∀ H', Same H H' → Q (.bl (wdD d)) H') := by
  have nd := sc_is_word.nd
  have pr_are_words := ok_are_words (P := P) (w := w) (base := base) T
  refine T.d_is_word.ok sc_is_word bi_is_word (fun vs H Q E h => ?_) (fun f cdv A outer s H vs Q E hr h => ?_)
  · obtain ⟨v, d, rfl, _⟩ := h
    rfl
  · obtain ⟨v, d, rfl, r, zl, q⟩ := h
    refine ⟨_, (pss_one (ps_ret (pcall hr pr_are_words (pa_cons (pe_lst (pa_cons (pv 0) pa_nil)) pa_nil)))), ?_⟩
    refine ⟨v, rfl, by show 1 ≤ sizeLine; decide, fun L nL => ?_⟩
    have st : Same H (upd H L (HO.lst [v])) := same_new nL
    have e : wdsD [d] = wdD d := by
      unfold wdsD
      simp
    have q := q _ st
    rw [← e] at q
    refine ⟨L, [d], [v], rfl, upd_same, ?_, fun z hz => zl z ?_, q⟩
    · unfold RepL
      refine ⟨v, [], rfl, rep_same st r, ?_⟩
      unfold RepL
      rfl
    · rw [List.mem_singleton] at hz
      exact hz.symm
end
end K3
namespace Tw
open PySem PySem.Spec PyProof.Rows L2 Kt TL Tx
theorem numL_ge : ∀ (k n : Nat), 10 ^ k ≤ n → k < (numL n).length := by
  intro k
  induction k with
  | zero =>
    intro n _
    have := numL_ne n
    cases h : numL n with
    | nil => exact absurd h this
    | cons a r => simp
  | succ k ih =>
    intro n h
    have h10 : 10 ≤ n := by
      have : 10 ^ 1 ≤ 10 ^ (k + 1) := Nat.pow_le_pow_right (by decide) (by omega)
      omega
    rw [numL_step h10, List.length_append]
    have : 10 ^ k ≤ n / 10 := by
      rw [Nat.le_div_iff_mul_le (by decide)]
      rw [Nat.pow_succ] at h
      exact h
    have := ih _ this
    simp only [List.length_cons, List.length_nil]
    omega
theorem dv_lt : ∀ (l : List Nat) (n : Nat), (∀ c ∈ l, 48 ≤ c ∧ c ≤ 57) → l.foldl (fun acc c => acc * 10 + (c - 48)) n < (n + 1) * 10 ^ l.length := by
  intro l
  induction l with
  | nil => intro n _; simp
  | cons c r ih =>
    intro n h
    have hc := h c List.mem_cons_self
    have := ih (n * 10 + (c - 48)) (fun d hd => h d (List.mem_cons_of_mem _ hd))
    rw [List.foldl_cons, List.length_cons]
    refine Nat.lt_of_lt_of_le this ?_
    rw [Nat.pow_succ, Nat.mul_comm (10 ^ r.length) 10, ← Nat.mul_assoc]
    exact Nat.mul_le_mul_right _ (by omega)
theorem ival_abs (l : List Nat) : (ival l).natAbs = NumText.digitsVal (noMinus l) := by
  unfold ival noMinus
  split
  · rw [Int.natAbs_neg]
    rfl
  · rename_i h
    exact Int.natAbs_natCast _
theorem ival_lt {l : List Nat} (h : figs (noMinus l) = true) (hl : (noMinus l).length ≤ 20) : (ival l).natAbs < 10 ^ 20 := by
  rw [ival_abs]
  have := dv_lt (noMinus l) 0 (fun c hc => (figs_iff.mp h).2 c hc)
  rw [Nat.zero_add, Nat.one_mul] at this
  exact Nat.lt_of_lt_of_le this (Nat.pow_le_pow_right (by decide) hl)
/-- the text of an integer of up to 20 figures -/
def NW (l : List Nat) : Prop := ∃ n : Int, n.natAbs < 10 ^ 20 ∧ l = intL n
end Tw
namespace K3
open PySem PySem.Spec PyProof.Rows L2 Kt Fx Tx Kj Tw
section
variable {P : Program} {w : World} {K : PySem.W.Frag} {mg : Str → Option Value} {base : Heap} {OR MA NT RE TM FT NM AS NS : Addr} {Ts : List Addr}
theorem ok_line_of (T : Txt K mg OR MA NT RE TM) : Prom P w K mg base (L2N.CX P w) 3 "line_of" ["words"] (fun vs H Q E => ∃ (p : Addr) (ds : List Dd) (xs : List V), vs = [.ref p] ∧ H p = some (.lst xs) ∧ RepL H ds xs ∧ (∀ z, Dd.str z ∈ ds → z.length ≤ sizeLine) ∧
    (wdsD ds = true → Q (.str (Txt.join " " (strsD ds))) H) ∧ (wdsD ds = false → E (.ref MA) none H)) := by
  have nd := sc_line_of.nd
  have pr_are_words := ok_are_words (P := P) (w := w) (base := base) T
  refine Kh.okXN T.d_line_of sc_line_of bi_line_of (fun vs H Q E h => ?_) (fun f cdv A outer s H vs Q E hr h => ?_)
  · obtain ⟨p, ds, xs, rfl, _⟩ := h
    rfl
  · obtain ⟨p, ds, xs, rfl, hp, hl, zl, q1, q2⟩ := h
    refine ⟨_, (pss_cons (ps_if (pt_not (pt_val (pcall hr pr_are_words (pa_cons (pv 0) pa_nil)))) (pss_one (L2N.ps_raise rfl (L2N.takes_of rfl rfl rfl rfl) (L2N.pmk_own PySem.F.excBase_ValueError T.e_Malformed.x T.e_Malformed.g T.e_Malformed.k (raises_own T.e_Malformed.b T.e_Malformed.t) rfl))) pss_nil)
    (pss_one (ps_ret (pe_m1 PySem.F.slot_str_join PySem.F.type_str_join mt_join pe_str (pv 0))))), ?_⟩
    refine ⟨_, rfl, p, ds, xs, rfl, hp, hl, zl, ?_⟩
    cases c : wdsD ds with
    | false => exact ⟨_, rfl, iteT (q2 c)⟩
    | true =>
      have c1 : szsD ds = true := by
        cases c1 : szsD ds with
        | true => rfl
        | false =>
          rw [wds_not c1] at c
          cases c
      have e := szD_all (show ds.all szD = true by
        unfold szsD at c1
        rw [Bool.and_eq_true] at c1
        exact c1.2)
      rw [e] at hl
      have ex := repL_vals hl
      obtain ⟨l1, l2⟩ := sz_len c1
      have s1 := sum_len l2
      have e0 : (" " : Str).length = 1 := by decide +kernel
      have s3 : (strsD ds).length * (" " : Str).length = (strsD ds).length := by rw [e0, Nat.mul_one]
      exact ⟨_, rfl, iteF ⟨⟨_, rfl⟩, _, rfl, _, p, strsD ds, rfl, rfl, .inl (SqL.of (by rw [← ex]; exact hp)), by omega, q1 c⟩⟩
theorem split_len (z s : Str) : ∀ y ∈ Txt.split z s, y.length ≤ z.length := fun y hy => by
  unfold Txt.split at hy
  split at hy
  · rw [List.mem_singleton] at hy
    rw [hy]
    exact Nat.le_refl _
  · split at hy
    · rw [List.mem_singleton] at hy
      rw [hy]
      exact Nat.le_refl _
    · unfold Builtin.Str.partsBetween at hy
      rw [List.mem_map] at hy
      obtain ⟨⟨i, j⟩, _, rfl⟩ := hy
      show (Builtin.Str.strSub z i j).length ≤ _
      rw [TL.len_tl, TL.tl_strSub, TL.len_tl, List.length_take, List.length_drop]
      omega
theorem ok_words_of (T : Txt K mg OR MA NT RE TM) : Prom P w K mg base (L2N.CX P w) 3 "words_of" ["line"] (fun vs H Q E => ∃ z : Str, vs = [.str z] ∧ z.length ≤ 10000 ∧
    (wdsD ((Txt.split z " ").map Dd.str) = true → ∀ p H', Same H H' → H p = none → H' p = some (.lst ((Txt.split z " ").map V.str)) → Q (.ref p) H') ∧ (wdsD ((Txt.split z " ").map Dd.str) = false → ∀ H', Same H H' → E (.ref MA) none H')) := by
  have nd := sc_words_of.nd
  have pr_are_words := ok_are_words (P := P) (w := w) (base := base) T
  refine Kh.okXN T.d_words_of sc_words_of bi_words_of (fun vs H Q E h => ?_) (fun f cdv A outer s H vs Q E hr h => ?_)
  · obtain ⟨z, rfl, _⟩ := h
    rfl
  · obtain ⟨z, rfl, hz, q1, q2⟩ := h
    refine ⟨_, (pss_cons (ps_set (i := 1) nd rfl (Or.inl rfl) (pe_m1 PySem.F.slot_str_split PySem.F.type_str_split mt_split (pv 0) pe_str))
    (pss_cons (ps_if (pt_not (pt_val (pcall hr pr_are_words (pa_cons (pv 1) pa_nil)))) (pss_one (L2N.ps_raise rfl (L2N.takes_of rfl rfl rfl rfl) (L2N.pmk_own PySem.F.excBase_ValueError T.e_Malformed.x T.e_Malformed.g T.e_Malformed.k (raises_own T.e_Malformed.b T.e_Malformed.t) rfl))) pss_nil)
    (pss_one (ps_ret (pv 1))))), ?_⟩
    have big : (1000000 : Nat) ≤ sizeLine := by decide
    refine ⟨_, rfl, ⟨_, rfl⟩, _, _, rfl, rfl, by decide +kernel, by omega, fun L nL => ?_⟩
    have st := same_new (o := HO.lst ((Txt.split z " ").map V.str)) nL
    have hL : upd H L (HO.lst ((Txt.split z " ").map V.str)) L = some (.lst ((Txt.split z " ").map V.str)) := upd_same
    generalize upd H L (HO.lst ((Txt.split z " ").map V.str)) = H1 at st hL
    refine ⟨_, rfl, L, (Txt.split z " ").map Dd.str, _, rfl, hL, repL_strs _, fun y hy => ?_, ?_⟩
    · obtain ⟨y', hy', e⟩ := List.mem_map.mp hy
      cases e
      have := split_len z " " y hy'
      omega
    cases c : wdsD ((Txt.split z " ").map Dd.str) with
    | false => exact ⟨_, rfl, iteT (q2 c _ st)⟩
    | true => exact ⟨_, rfl, iteF ⟨_, rfl, q1 c _ _ st nL hL⟩⟩
theorem lg25 {a : Int} (h : a.natAbs < 10 ^ 100) : a.natAbs.log2 < 1920 := by
  by_cases h0 : a.natAbs = 0
  · rw [h0]
    decide
  · rw [Nat.log2_lt h0]
    exact Nat.lt_trans h (by decide +kernel)
theorem ok_number_word (T : Txt K mg OR MA NT RE TM) : Prom P w K mg base (L2N.CX P w) 2 "number_word" ["number"] (fun vs H Q E => ∃ n : Int, vs = [.int n] ∧ n.natAbs < 10 ^ 100 ∧ (n.natAbs < 10 ^ 20 → Q (.str (Str.ofString (toString n))) H) ∧ (10 ^ 20 ≤ n.natAbs → E (.ref OR) none H)) := by
  have nd := sc_number_word.nd
  obtain ⟨tL, gL⟩ := T.g_FIRST_TOO_LONG
  refine Kh.okXN T.d_number_word sc_number_word bi_number_word (fun vs H Q E h => ?_) (fun f cdv A outer s H vs Q E hr h => ?_)
  · obtain ⟨n, rfl, _⟩ := h
    rfl
  · obtain ⟨n, rfl, hn, q1, q2⟩ := h
    refine ⟨_, (pss_cons (ps_if (pt_cmpR op_ge (pe_callB call_abs (by rfl) T.b_abs (by decide +kernel) (pa_cons (pv 0) pa_nil)) (pe_glob (v := .int (10 ^ 20)) rfl gL ⟨_, rfl⟩) (nomark _)) (pss_one (L2N.ps_raise rfl (L2N.takes_of rfl rfl rfl rfl) (L2N.pmk_own PySem.F.excBase_ValueError T.e_OutOfRange.x T.e_OutOfRange.g T.e_OutOfRange.k (raises_own T.e_OutOfRange.b T.e_OutOfRange.t) rfl))) pss_nil)
    (pss_one (ps_ret (pe_callTy call_str_int (by rfl) T.b_str (by decide +kernel) (pa_cons (pv 0) pa_nil))))), ?_⟩
    refine ⟨_, rfl, n, rfl, _, _, rfl, rfl, _, rfl, ?_⟩
    have e20 : ((10 ^ 20 : Nat) : Int) = (10 : Int) ^ 20 := by decide +kernel
    rw [show (if n < 0 then -n else n) = (n.natAbs : Int) by split <;> omega]
    by_cases h : 10 ^ 20 ≤ n.natAbs
    · rw [show decide (_ ≤ _) = true from decide_eq_true (show (10 : Int) ^ 20 ≤ (n.natAbs : Int) by omega)]
      exact iteT (q2 h)
    · rw [show decide (_ ≤ _) = false from decide_eq_false (show ¬ (10 : Int) ^ 20 ≤ (n.natAbs : Int) by omega)]
      exact iteF ⟨_, rfl, n, rfl, lg25 hn, q1 (by omega)⟩
theorem ok_number_of (T : Txt K mg OR MA NT RE TM) (B : Tbl K mg base "is_figures" s_is_figures FT) (hT : FT ∈ Ts) : Prom P w K mg base (L2N.CX P w) 3 "number_of" ["word"] (fun vs H Q E => ∃ z : Str, vs = [.str z] ∧ z.length ≤ 500 ∧ TG Ts H ∧
    (∀ n : Int, n.natAbs < 10 ^ 20 → TL.tl z = intL n → ∀ H', ST Ts H H' → Q (.int n) H') ∧ (¬ NW (TL.tl z) → ∀ H', ST Ts H H' → E (.ref MA) none H')) := by
  have nd := sc_number_of.nd
  have pr_is_figures := ok_is_figures (P := P) (w := w) (base := base) (Ts := Ts) T B hT
  obtain ⟨tL, gL⟩ := T.g_MOST_FIGURES
  refine Kh.okXN T.d_number_of sc_number_of bi_number_of (fun vs H Q E h => ?_) (fun f cdv A outer s H vs Q E hr h => ?_)
  · obtain ⟨z, rfl, _⟩ := h
    rfl
  · obtain ⟨z, rfl, hz, tg, q1, q2⟩ := h
    refine ⟨_, (pss_cons (ps_set (i := 1) nd rfl (Or.inl rfl) (pe_m1 PySem.F.slot_str_removeprefix PySem.F.type_str_removeprefix mt_removeprefix (pv 0) pe_str))
    (pss_cons (ps_if (PW.pt (pw_or (pt_cmpR op_gt (pe_callB call_len_str (by rfl) T.b_len (by decide +kernel) (pa_cons (pv 1) pa_nil)) (pe_glob (v := .int 20) rfl gL ⟨_, rfl⟩) (nomark _)) (pw_or1 (pt_not (pt_val (pcall hr pr_is_figures (pa_cons (pv 1) pa_nil))))))) (pss_one (L2N.ps_raise rfl (L2N.takes_of rfl rfl rfl rfl) (L2N.pmk_own PySem.F.excBase_ValueError T.e_Malformed.x T.e_Malformed.g T.e_Malformed.k (raises_own T.e_Malformed.b T.e_Malformed.t) rfl))) pss_nil)
    (pss_cons (ps_set (i := 2) nd rfl (Or.inl rfl) (pe_callTy call_int_str (by rfl) T.b_int (by decide +kernel) (pa_cons (pv 0) pa_nil)))
    (pss_cons (ps_if (pt_cmpR op_ne (pe_callTy call_str_int (by rfl) T.b_str (by decide +kernel) (pa_cons (pv 2) pa_nil)) (pv 0) (nomark _)) (pss_one (L2N.ps_raise rfl (L2N.takes_of rfl rfl rfl rfl) (L2N.pmk_own PySem.F.excBase_ValueError T.e_Malformed.x T.e_Malformed.g T.e_Malformed.k (raises_own T.e_Malformed.b T.e_Malformed.t) rfl))) pss_nil)
    (pss_one (ps_ret (pv 2))))))), ?_⟩
    have big : (1000 : Nat) ≤ sizeLine := by decide
    refine ⟨_, rfl, ⟨z, rfl⟩, z, "-", rfl, rfl, by omega, ?_⟩
    have er := rp_minus z
    generalize Txt.removeprefix z "-" = fg at er
    have hfl : fg.length ≤ z.length := by
      rw [TL.len_tl, TL.len_tl z, er]
      unfold noMinus
      split
      · rename_i r e
        rw [e, List.length_cons]
        omega
      · exact Nat.le_refl _
    have inv : ∀ {n : Int}, n.natAbs < 10 ^ 20 → TL.tl z = intL n → TL.tl fg = TL.numL n.natAbs ∧ fg.length ≤ 20 := fun {n} h e => by
      rw [e, nm_int] at er
      refine ⟨er, ?_⟩
      rw [TL.len_tl, er]
      exact TL.numL_len (by decide) h
    refine ⟨_, rfl, fg, rfl, by omega, _, _, rfl, rfl, _, rfl, ?_⟩
    by_cases h20 : (20 : Int) < (fg.length : Int)
    · rw [decide_eq_true h20]
      refine iteT (iteT (q2 (fun ⟨n, h1, h2⟩ => ?_) _ (ST.refl tg)))
      have := (inv h1 h2).2
      omega
    · rw [decide_eq_false h20]
      refine iteF ⟨_, rfl, fg, rfl, tg, fun H1 st1 => ⟨_, rfl, ?_⟩⟩
      cases hb : figs (TL.tl fg) with
      | false =>
        refine iteT (q2 (fun ⟨n, h1, h2⟩ => ?_) _ st1)
        rw [(inv h1 h2).1, figs_num] at hb
        cases hb
      | true =>
        refine iteF ?_
        have hb' := hb
        rw [er] at hb'
        refine ⟨_, rfl, z, _, rfl, int_text hb' (by omega), by omega, ?_⟩
        generalize hm : ival (TL.tl z) = m
        have hm20 : m.natAbs < 10 ^ 20 := by
          rw [← hm]
          refine ival_lt hb' ?_
          rw [← er, ← TL.len_tl]
          omega
        have e100 : (10 : Nat) ^ 20 < 10 ^ 100 := by decide +kernel
        refine ⟨_, rfl, m, rfl, lg25 (by omega), _, rfl, rfl, !(decide (V.str (Str.ofString (toString m)) = V.str z)), rfl, ?_⟩
        have em : TL.tl (Str.ofString (toString m)) = intL m := tl_int m
        by_cases hq : TL.tl z = intL m
        · rw [decide_eq_true (show V.str (Str.ofString (toString m)) = V.str z from congrArg V.str (TL.ext_tl (em.trans hq.symm)))]
          exact iteF ⟨_, rfl, q1 m hm20 hq _ st1⟩
        · rw [decide_eq_false (show ¬ V.str (Str.ofString (toString m)) = V.str z from fun e => hq (by rw [← V.str.inj e]; exact em))]
          refine iteT (q2 (fun ⟨n, h1, h2⟩ => hq ?_) _ st1)
          rw [h2, ival_int] at hm
          rw [← hm]
          exact h2
end
end K3
set_option maxHeartbeats 2000000
namespace Tw
open PySem PySem.Spec PyProof.Rows L2 Kt TL Tx
def FIG : Str := "0123456789"
theorem fig_mem (c : Nat) : decide (c ∈ tl FIG) = dig c := by
  rw [← in_sign]
  exact in_figs c
theorem allin_fig (z : Str) : allin FIG z = (tl z).all dig := by
  unfold allin
  congr 1
  funext c
  exact fig_mem c
/-- what the law takes for a number's text: l the text, f its figures -/
def gdN (l f : List Nat) : Bool := (decide (1 ≤ (f.length : Int)) && decide ((f.length : Int) ≤ 20) && f.all dig) && ((decide ((f.length : Int) = 1) || !decide (f.head? = some 48)) && !decide (l = [45, 48]))
theorem gdN_iff (l : List Nat) : gdN l (noMinus l) = true ↔ NW l := by
  unfold gdN
  simp only [Bool.and_eq_true, Bool.or_eq_true, decide_eq_true_eq, Bool.not_eq_true', decide_eq_false_iff_not]
  constructor
  · rintro ⟨⟨⟨h1, h2⟩, h3⟩, h4, h5⟩
    have hd : figs (noMinus l) = true := by
      unfold figs
      rw [h3, Bool.and_true]
      cases e : noMinus l with
      | nil => rw [e] at h1; exact absurd h1 (by simp)
      | cons a r => rfl
    have hv : ∃ v, noMinus l = numL v := by
      have hp : Tx.plain (noMinus l) = some (NumText.digitsVal (noMinus l)) := by
        unfold Tx.plain
        rw [if_neg (fun q => by
          rcases q with q | ⟨q1, q2⟩
          · rw [q] at h1
            exact absurd h1 (by simp)
          · rcases h4 with h4 | h4
            · omega
            · exact h4 q2)]
        exact go_all (figs_iff.mp hd).2
      exact ⟨_, plain_of hp⟩
    obtain ⟨v, ev⟩ := hv
    have hv20 : v < 10 ^ 20 := by
      by_cases h : v < 10 ^ 20
      · exact h
      · have := numL_ge 20 v (by omega)
        rw [← ev] at this
        omega
    by_cases hm : ∃ r, l = 45 :: r
    · obtain ⟨r, rfl⟩ := hm
      have er : r = numL v := ev
      have v0 : v ≠ 0 := fun z => by
        rw [z] at er
        have : numL 0 = [48] := by decide +kernel
        rw [er, this] at h5
        exact h5 rfl
      refine ⟨-(v : Int), by omega, ?_⟩
      unfold intL
      rw [if_pos (by omega), er]
      congr 2
      omega
    · have en : noMinus l = l := by
        unfold noMinus
        split
        · rename_i r
          exact absurd ⟨r, rfl⟩ hm
        · rfl
      refine ⟨(v : Int), by omega, ?_⟩
      unfold intL
      rw [if_neg (by omega), ← en, ev]
      congr 1
  · rintro ⟨n, h1, rfl⟩
    rw [nm_int]
    have l20 := numL_len (n := n.natAbs) (k := 20) (by decide) h1
    have lne := numL_ne n.natAbs
    have hf := figs_num n.natAbs
    have hf2 : (numL n.natAbs).all dig = true := by
      unfold figs at hf
      rw [Bool.and_eq_true] at hf
      exact hf.2
    have l1 : 1 ≤ (numL n.natAbs).length := by
      cases e : numL n.natAbs with
      | nil => exact absurd e lne
      | cons a r => simp
    refine ⟨⟨⟨by omega, by omega⟩, hf2⟩, ?_, fun e => ?_⟩
    · by_cases h0 : n.natAbs = 0
      · left
        rw [h0]
        decide +kernel
      · right
        exact numL_head n.natAbs n.natAbs (Nat.le_refl _) (by omega)
    · unfold intL at e
      split at e
      · rename_i hn
        have e := (List.cons.inj e).2
        have e2 : numL 0 = [48] := by decide +kernel
        have := numL_inj (e.trans e2.symm)
        omega
      · have := numL45 n.natAbs
        rw [e] at this
        exact this rfl
theorem split_ne (z s : Str) : Txt.split z s ≠ [] := by
  unfold Txt.split
  split
  · exact fun h => nomatch h
  · split
    · exact fun h => nomatch h
    · rw [StrLaws.partsBetween_eq]
      obtain ⟨p, r, e⟩ := StrLaws.partsFrom_ne z s.length 0 (Builtin.Str.occurrences z s 0 z.length (z.length + 1))
      rw [e]
      exact fun h => nomatch h
end Tw
namespace K3
open PySem PySem.Spec PyProof.Rows L2 Kt Fx Tx Kj Tw
section
variable {P : Program} {w : World} {K : PySem.W.Frag} {mg : Str → Option Value} {base : Heap} {OR MA NT RE TM FT NM AS NS : Addr} {Ts : List Addr}
theorem cut_take (z : Str) (k : Nat) : TL.tl (cutS z none (some (k : Int))) = (TL.tl z).take k := by
  have e1 : HT.sIx z.length 0 none = 0 := rfl
  have e2 : HT.sIx z.length z.length (some (k : Int)) = min k z.length := HT.sIx_nat _ _ k
  show (((TL.tl z).drop (HT.sIx z.length 0 none)).take (HT.sIx z.length z.length (some (k : Int)) - HT.sIx z.length 0 none)) = _
  rw [e1, e2, List.drop_zero, Nat.sub_zero, TL.len_tl, List.take_eq_take_iff]
  omega
theorem cut_drop (z : Str) (k : Nat) : TL.tl (cutS z (some (k : Int)) none) = (TL.tl z).drop k := by
  have e1 : HT.sIx z.length z.length none = z.length := rfl
  have e2 : HT.sIx z.length 0 (some (k : Int)) = min k z.length := HT.sIx_nat _ _ k
  show (((TL.tl z).drop (HT.sIx z.length 0 (some (k : Int)))).take (HT.sIx z.length z.length none - HT.sIx z.length 0 (some (k : Int)))) = _
  rw [e1, e2, TL.len_tl]
  by_cases h : k ≤ (TL.tl z).length
  · rw [Nat.min_eq_left h]
    exact List.take_of_length_le (by rw [List.length_drop]; omega)
  · rw [Nat.min_eq_right (by omega), List.drop_of_length_le (show (TL.tl z).length ≤ (TL.tl z).length by omega), List.drop_of_length_le (show (TL.tl z).length ≤ k by omega)]
    simp
def ov : Option Nat → V
  | some n => .int (n : Int)
  | none => .non
theorem get_str (z : Str) {r : Int} (h0 : 0 ≤ r) (h1 : r < (z.length : Int)) : ∃ c, atI z.cps.toList r = some c ∧ c ∈ TL.tl z := by
  obtain ⟨n, rfl⟩ : ∃ n : Nat, r = (n : Int) := ⟨r.toNat, by omega⟩
  have hl := TL.len_tl z
  have hn : n < z.cps.toList.length := by
    show n < (TL.tl z).length
    omega
  exact ⟨_, atI_nat (List.getElem?_eq_getElem hn), List.getElem_mem hn⟩
theorem ok_law_text (T : Txt K mg OR MA NT RE TM) : Prom P w K mg base CX0 3 "_law_text" ["draws", "most"] (fun vs H Q _ => ∃ (d : Addr) (b : Int), vs = [.ref d, .int b] ∧ 1 ≤ b ∧ b ≤ 50 ∧ Drs H d ∧ ∀ (z : Str) (H' : Hp), z.length ≤ 120 → ok3 z → But d H H' → Drs H' d → Q (.str z) H') := by
  have nd := sc__law_text.nd
  have pr__law_draw := ok_law_draw (P := P) (w := w) (base := base) T
  refine T.d__law_text.ok sc__law_text bi__law_text (fun vs H Q E h => ?_) (fun f cdv A outer s H vs Q E hr h => ?_)
  · obtain ⟨d, b, rfl, _⟩ := h
    rfl
  · obtain ⟨d, b, rfl, b0, b1, hd, q⟩ := h
    refine ⟨_, (pss_cons (ps_set (i := 2) nd rfl (Or.inl rfl) pe_str)
    (pss_cons (ps_set (i := 3) nd rfl (Or.inl rfl) (pe_op op_add_str (pv 2) pe_str))
    (pss_cons (ps_set (i := 4) nd rfl (Or.inl rfl) (pcall hr pr__law_draw (pa_cons (pv 0) (pa_cons pe_int pa_nil))))
    (pss_cons (ps_set (i := 5) nd rfl (Or.inl rfl) pe_str)
    (pss_cons (ps_for PassesOwn.never rfl (pi_range1 (by rfl) T.b_range (pa_cons (pe_ix ix_list (pe_lst (pa_cons (pcall hr pr__law_draw (pa_cons (pv 0) (pa_cons (pe_op op_add (pv 1) pe_int) pa_nil))) (pa_cons (pv 1) (pa_cons pe_int (pa_cons (pcall hr pr__law_draw (pa_cons (pv 0) (pa_cons pe_int pa_nil))) pa_nil))))) (pcall hr pr__law_draw (pa_cons (pv 0) (pa_cons pe_int pa_nil))) (fun _ _ => rfl)) pa_nil)) (pg_name (i := 6) nd rfl (Or.inl rfl)) (pss_one (ps_set (i := 5) nd rfl (Or.inl rfl) (pe_op op_add_str (pv 5) (pe_ifExp (pt_cmpR op_lt (pv 4) pe_int (nomark _)) (pe_ix ix_str (pv 2) (pcall hr pr__law_draw (pa_cons (pv 0) (pa_cons pe_int pa_nil))) (fun _ _ => rfl)) (pe_ix ix_str (pv 3) (pcall hr pr__law_draw (pa_cons (pv 0) (pa_cons pe_int pa_nil))) (fun _ _ => rfl)))))))
    (Evl.pss_cut (ps_if (PW.pt (pw_and (pt_cmpR op_in_seq (pv 4) (pe_tup (pa_cons pe_int (pa_cons pe_int pa_nil))) (by rfl)) (pw_and1 (pt_cmpR op_eq (pcall hr pr__law_draw (pa_cons (pv 0) (pa_cons pe_int pa_nil))) pe_int (nomark _))))) (pss_cons (ps_set (i := 7) nd rfl (Or.inl rfl) (pcall hr pr__law_draw (pa_cons (pv 0) (pa_cons (pe_op op_add (pe_callB call_len_str (by rfl) T.b_len (by decide +kernel) (pa_cons (pv 5) pa_nil)) pe_int) pa_nil))))
    (pss_one (ps_set (i := 5) nd rfl (Or.inl rfl) (pe_op op_add_str (pe_op op_add_str (pe_slice sl_str (pv 5) po_none (po_some (pv 7))) (pe_ix ix_str pe_str (pcall hr pr__law_draw (pa_cons (pv 0) (pa_cons pe_int pa_nil))) (fun _ _ => rfl))) (pe_slice sl_str (pv 5) (po_some (pv 7)) po_none))))) pss_nil)
    (pss_one (ps_ret (pv 5))))))))), ?_⟩
    have big : (100000 : Nat) ≤ sizeLine := by decide
    have eS : ("abcdefghijklmnopqrstuvwxyz" : Str) ++ ("0123456789-/.,:+=#_" : Str) = WS := TL.ext_tl (by rw [TL.tl_append]; decide +kernel)
    refine ⟨_, rfl, _, _, rfl, rfl, by decide +kernel, ?_⟩
    rw [eS]
    refine ⟨_, rfl, d, 4, rfl, by decide, by decide +kernel, hd, fun k H1 k0 k1 bt1 d1 => ?_⟩
    have e60 : (60 : Int) ≤ 10 ^ 60 := by decide +kernel
    have e121 : (121 : Int) ≤ 10 ^ 60 := by decide +kernel
    refine ⟨_, rfl, _, rfl, _, _, rfl, rfl, d, _, rfl, by omega, by omega, d1, fun r1 H2 r10 r11 bt2 d2 => ⟨_, rfl, _, rfl, d, 4, rfl, by decide, by decide +kernel, d2, fun r2 H3 r20 r21 bt3 d3 => ⟨by show 4 ≤ sizeLine; decide, fun L nL => ?_⟩⟩⟩
    have s4 := same_new (o := HO.lst [V.int r1, V.int b, V.int 1, V.int r2]) nL
    have hL : upd H3 L (HO.lst [V.int r1, V.int b, V.int 1, V.int r2]) L = some (.lst [V.int r1, V.int b, V.int 1, V.int r2]) := upd_same
    generalize upd H3 L (HO.lst [V.int r1, V.int b, V.int 1, V.int r2]) = H4 at s4 hL
    have d4 := d3.same s4
    have neL : L ≠ d := fun z => by
      obtain ⟨_, _, _, _, h1, _⟩ := d3
      rw [z, h1] at nL
      cases nL
    have bt4 := ((bt1.trans bt2).trans bt3).trans (But.of s4)
    refine ⟨_, rfl, d, 4, rfl, by decide, by decide +kernel, d4, fun r3 H5 r30 r31 bt5 d5 => ?_⟩
    have hL5 := bt5 L _ neL hL
    have hw : ∃ m : Int, atI [V.int r1, V.int b, V.int 1, V.int r2] r3 = some (.int m) ∧ 0 ≤ m ∧ m ≤ 50 := by
      have h4 : r3 = 0 ∨ r3 = 1 ∨ r3 = 2 ∨ r3 = 3 := by omega
      rcases h4 with rfl | rfl | rfl | rfl <;> exact ⟨_, rfl, by omega, by omega⟩
    obtain ⟨m, hm, m0, m1⟩ := hw
    have o0 : ok3 "" := by
      intro c hc
      rw [show TL.tl ("" : Str) = [] by decide +kernel] at hc
      cases hc
    have oL : ∀ c ∈ TL.tl LET, c < 1114112 := by decide +kernel
    have oW : ∀ c ∈ TL.tl WS, c < 1114112 := by decide +kernel
    have oA : ∀ c ∈ TL.tl "AZ !~@`{;*9_", c < 1114112 := by decide +kernel
    have lW : WS.length = 45 := by decide +kernel
    refine ⟨L, _, _, _, rfl, rfl, SqL.of hL5, hm, _, rfl, by omega, by omega, for_range (n := m.toNat) (fun i σ' H' => ∃ (z : Str) (v6 : Option V), σ' = [some (.ref d), some (.int b), some (.str LET), some (.str WS), some (.int k), some (.str z), v6, none] ∧ z.length = i ∧ ok3 z ∧ But d H H' ∧ Drs H' d)
      ⟨"", none, rfl, rfl, o0, bt4.trans bt5, d5⟩ ?_ ?_⟩
    · rintro i σ' H' hi ⟨z, v6, rfl, hz, oz, bt6, d6⟩
      have fin : ∀ (s : Str) (r : Int) (H7 : Hp), 0 ≤ r → r < (s.length : Int) → But d H' H7 → Drs H7 d → ∀ R : VK, (∀ c, R (.str ⟨#[c]⟩) H7) → True := fun _ _ _ _ _ _ _ _ _ => trivial
      refine ⟨_, rfl, _, rfl, _, _, rfl, rfl, decide (k < 2), rfl, ?_⟩
      have la : ∀ c : Nat, (z ++ (⟨#[c]⟩ : Str)).length = i + 1 := fun c => by
        rw [TL.len_tl, TL.tl_append, List.length_append, ← TL.len_tl, hz]
        rfl
      have l1 : ∀ c : Nat, (⟨#[c]⟩ : Str).length = 1 := fun c => rfl
      refine ite2 (fun _ => ?_) (fun _ => ?_)
      · refine ⟨_, rfl, _, rfl, d, 26, rfl, by decide, by decide +kernel, d6, fun r H7 q0 q1 bt7 d7 => ?_⟩
        obtain ⟨c, hc, hm⟩ := get_str LET q0 (show r < (LET.length : Int) from q1)
        exact ⟨_, r, c, rfl, rfl, by decide +kernel, hc, _, _, rfl, rfl, by rw [l1]; omega, z ++ (⟨#[c]⟩ : Str), _, rfl, la c, ok3_app oz (ok3_one (oL c hm)), bt6.trans bt7, d7⟩
      · refine ⟨_, rfl, _, rfl, d, 45, rfl, by decide, by decide +kernel, d6, fun r H7 q0 q1 bt7 d7 => ?_⟩
        obtain ⟨c, hc, hm⟩ := get_str WS q0 (show r < (WS.length : Int) from q1)
        exact ⟨_, r, c, rfl, rfl, by decide +kernel, hc, _, _, rfl, rfl, by rw [l1]; omega, z ++ (⟨#[c]⟩ : Str), _, rfl, la c, ok3_app oz (ok3_one (oW c hm)), bt6.trans bt7, d7⟩
    · rintro σ' H' ⟨z, v6, rfl, hz, oz, bt6, d6⟩
      have hz50 : z.length ≤ 50 := by omega
      refine ⟨fun σ2 H2 => ∃ (z : Str) (v6 v7 : Option V), σ2 = [some (.ref d), some (.int b), some (.str LET), some (.str WS), some (.int k), some (.str z), v6, v7] ∧ z.length ≤ 120 ∧ ok3 z ∧ But d H H2 ∧ Drs H2 d, ?_, ?_⟩
      · refine ⟨_, rfl, by show 2 ≤ sizeLine; decide, fun Tp nT => ?_⟩
        have s7 := same_new (o := HO.tup [V.int 1, V.int 3]) nT
        have hTp : upd H' Tp (HO.tup [V.int 1, V.int 3]) Tp = some (.tup [V.int 1, V.int 3]) := upd_same
        generalize upd H' Tp (HO.tup [V.int 1, V.int 3]) = H7 at s7 hTp
        have d7 := d6.same s7
        have bt7 := bt6.trans (But.of s7)
        have skip : ∀ H8, But d H H8 → Drs H8 d → ∃ (z' : Str) (v6' v7' : Option V), [some (V.ref d), some (.int b), some (.str LET), some (.str WS), some (.int k), some (.str z), v6, none] = [some (.ref d), some (.int b), some (.str LET), some (.str WS), some (.int k), some (.str z'), v6', v7'] ∧ z'.length ≤ 120 ∧ ok3 z' ∧ But d H H8 ∧ Drs H8 d := fun H8 b8 d8 => ⟨z, v6, none, rfl, by omega, oz, b8, d8⟩
        refine ⟨Tp, _, rfl, .inr (SqT.of hTp), rfl, rfl, _, rfl, ?_⟩
        refine ite2 (fun _ => ?_) (fun _ => iteF (skip _ bt7 d7))
        refine ⟨_, rfl, d, 2, rfl, by decide, by decide +kernel, d7, fun r H8 q0 q1 bt8 d8 => ⟨rfl, _, rfl, ?_⟩⟩
        have bt9 := bt7.trans bt8
        refine ite2 (fun _ => ?_) (fun _ => skip _ bt9 d8)
        refine ⟨_, rfl, _, rfl, z, rfl, by omega, _, _, rfl, rfl, d, _, rfl, by omega, by omega, d8, fun at_ H9 t0 t1 bt10 d9 => ?_⟩
        have c1 := cutS_length z none (some at_)
        have c2 := cutS_length z (some at_) none
        refine ⟨_, rfl, _, rfl, at_, rfl, z, rfl, by omega, _, rfl, d, 12, rfl, by decide, by decide +kernel, d9, fun r5 H10 u0 u1 bt11 d10 => ?_⟩
        have l12 : ("AZ !~@`{;*9_" : Str).length = 12 := by decide +kernel
        obtain ⟨c, hc, hm⟩ := get_str "AZ !~@`{;*9_" u0 (show r5 < (("AZ !~@`{;*9_" : Str).length : Int) by omega)
        have l1 : (⟨#[c]⟩ : Str).length = 1 := rfl
        have la : (cutS z none (some at_) ++ (⟨#[c]⟩ : Str)).length ≤ 51 := by
          rw [TL.len_tl, TL.tl_append, List.length_append, ← TL.len_tl, ← TL.len_tl, l1]
          omega
        have lb : (cutS z none (some at_) ++ (⟨#[c]⟩ : Str) ++ cutS z (some at_) none).length ≤ 101 := by
          rw [TL.len_tl, TL.tl_append, List.length_append, ← TL.len_tl, ← TL.len_tl]
          omega
        exact ⟨_, r5, c, rfl, rfl, by decide +kernel, hc, _, _, rfl, rfl, by rw [l1]; omega, _, rfl, _, rfl, at_, rfl, z, rfl, by omega, _, _, rfl, rfl, by omega, _, v6, _, rfl, by omega, ok3_app (ok3_app (ok3_cut oz _ _) (ok3_one (oA c hm))) (ok3_cut oz _ _), (bt9.trans bt10).trans bt11, d10⟩
      · rintro σ2 H2 ⟨z2, v6', v7, rfl, hz2, oz2, bt7, d7⟩
        exact ⟨_, rfl, q z2 _ hz2 oz2 bt7 d7⟩
theorem ok_law_of (T : Txt K mg OR MA NT RE TM) : Prom P w K mg base CX0 1 "_law_of" ["text", "signs", "least", "most"] (fun vs H Q _ => ∃ (z s : Str) (a b : Int), vs = [.str z, .str s, .int a, .int b] ∧ z.length ≤ sizeLine ∧ Q (.bl (ofS s a b z)) H) := by
  have nd := sc__law_of.nd
  refine T.d__law_of.ok sc__law_of bi__law_of (fun vs H Q E h => ?_) (fun f cdv A outer s H vs Q E hr h => ?_)
  · obtain ⟨z, y, a, b, rfl, _⟩ := h
    rfl
  · obtain ⟨z, y, a, b, rfl, hz, q⟩ := h
    refine ⟨_, (pss_cons (ps_if (pt_not (pt_chain op_le op_le (pv 2) (pe_callB call_len_str (by rfl) T.b_len (by decide +kernel) (pa_cons (pv 0) pa_nil)) (pv 3))) (pss_one (ps_ret pe_bl)) pss_nil)
    (pss_cons (ps_for PassesOwn.never rfl (pi_str (pv 0)) (pg_name (i := 4) nd rfl (Or.inl rfl)) (pss_one (ps_if (pt_cmpR op_notIn_str (pv 4) (pv 1) (by rfl)) (pss_one (ps_ret pe_bl)) pss_nil)))
    (pss_one (ps_ret pe_bl)))), ?_⟩
    unfold ofS at q
    refine ⟨_, rfl, _, rfl, z, rfl, hz, _, _, rfl, rfl, _, rfl, ?_⟩
    cases c1 : decide (a ≤ (z.length : Int)) with
    | false =>
      rw [c1] at q
      exact iteF ⟨_, rfl, iteT q⟩
    | true =>
      rw [c1, Bool.true_and] at q
      refine iteT ⟨_, rfl, _, _, rfl, rfl, _, rfl, ?_⟩
      cases c2 : decide ((z.length : Int) ≤ b) with
      | false =>
        rw [c2] at q
        exact iteT q
      | true =>
        rw [c2, Bool.true_and] at q
        refine iteF ?_
        refine ⟨_, rfl, z, rfl, ?_⟩
        refine for_it (walk_str (z := z)) (fun i σ' H' => ∃ v4 : Option V, σ' = [some (.str z), some (.str y), some (.int a), some (.int b), v4] ∧ H' = H ∧ ((TL.tl z).take i).all (fun c => decide (c ∈ TL.tl y)) = true) ⟨none, rfl, rfl, rfl⟩ (fun _ _ _ _ _ => trivial) ?_ ?_
        · rintro i x σ' H' H'' hi ⟨v4, rfl, rfl, e⟩ ⟨rfl, c, hc, rfl⟩
          have hlt : i < (TL.tl z).length := by simpa using hi
          have hc2 : (TL.tl z)[i] = c := by
            have q := hc
            rw [← Array.getElem?_toList, List.getElem?_eq_getElem hlt] at q
            exact Option.some.inj q
          refine ⟨_, rfl, _, rfl, _, _, rfl, rfl, _, rfl, ?_⟩
          rw [in_sign]
          cases hd : decide (c ∈ TL.tl y) with
          | false =>
            have ha : allin y z = false := by
              unfold allin
              rw [List.all_eq_false]
              exact ⟨c, by rw [← hc2]; exact List.getElem_mem hlt, by rw [hd]; exact Bool.false_ne_true⟩
            rw [ha] at q
            exact iteT q
          | true =>
            refine iteF ⟨_, rfl, rfl, ?_⟩
            rw [List.take_succ_eq_append_getElem hlt, List.all_append, e, hc2]
            simp only [List.all_cons, List.all_nil, hd]
            rfl
        · rintro σ' H' ⟨v4, rfl, rfl, e⟩
          have ha : allin y z = true := by
            unfold allin
            rw [List.take_of_length_le (by simp)] at e
            exact e
          rw [ha] at q
          exact q
theorem ok_law_names (T : Txt K mg OR MA NT RE TM) : Prom P w K mg base CX0 2 "_law_names" ["texts"] (fun vs H Q _ => ∃ (p : Addr) (zs : List Str), vs = [.ref p] ∧ H p = some (.lst (zs.map V.str)) ∧ zs.length ≤ 1000 ∧ (∀ z ∈ zs, z.length ≤ sizeLine) ∧ Q (.bl (zs.all nm && asc zs)) H) := by
  have nd := sc__law_names.nd
  have pr__law_of := ok_law_of (P := P) (w := w) (base := base) T
  refine T.d__law_names.ok sc__law_names bi__law_names (fun vs H Q E h => ?_) (fun f cdv A outer s H vs Q E hr h => ?_)
  · obtain ⟨p, zs, rfl, _⟩ := h
    rfl
  · obtain ⟨p, zs, rfl, hp, hl, zl, q⟩ := h
    refine ⟨_, (pss_cons (ps_set (i := 1) nd rfl (Or.inl rfl) pe_str)
    (pss_cons (ps_for PassesOwn.never rfl (pi_range1 (by rfl) T.b_range (pa_cons (pe_callB call_len_seq (by rfl) T.b_len (by decide +kernel) (pa_cons (pv 0) pa_nil)) pa_nil)) (pg_name (i := 2) nd rfl (Or.inl rfl)) (pss_one (ps_if (PW.pt (pw_or (pt_not (pt_val (pcall hr pr__law_of (pa_cons (pe_ix ix_list (pv 0) (pv 2) (fun _ _ => rfl)) (pa_cons (pv 1) (pa_cons pe_int (pa_cons pe_int pa_nil))))))) (pw_or1 (PW.pt (pw_and (pt_cmpR op_gt (pv 2) pe_int (nomark _)) (pw_and1 (pt_cmpR op_ge_str (pe_ix ix_list (pv 0) (pe_op op_sub (pv 2) pe_int) (fun _ _ => rfl)) (pe_ix ix_list (pv 0) (pv 2) (fun _ _ => rfl)) (nomark _)))))))) (pss_one (ps_ret pe_bl)) pss_nil)))
    (pss_one (ps_ret pe_bl)))), ?_⟩
    have hlen : (zs.map V.str).length = zs.length := List.length_map ..
    refine ⟨_, rfl, p, _, rfl, .inl (SqL.of hp), ?_⟩
    rw [hlen]
    have hat : ∀ (i : Nat) (h : i < zs.length), atI (zs.map V.str) (i : Int) = some (.str zs[i]) := fun i h => by
      refine atI_nat ?_
      rw [List.getElem?_map, List.getElem?_eq_getElem h]
      rfl
    refine ⟨_, rfl, by omega, by omega, for_range (n := (zs.length : Int).toNat) (fun i σ' H' => (∃ v2, σ' = [some (.ref p), some (.str LET), v2]) ∧ H' = H ∧ (∀ j (h : j < zs.length), j < i → nm zs[j] = true) ∧ ∀ j (h : j + 1 < zs.length), j + 1 < i → ltS zs[j] zs[j + 1] = true)
      ⟨⟨_, rfl⟩, rfl, fun j _ h => absurd h (Nat.not_lt_zero j), fun j _ h => absurd h (Nat.not_lt_zero _)⟩ ?_ ?_⟩
    · rintro i σ' H' hi ⟨⟨v2, rfl⟩, rfl, h1, h2⟩
      have hi' : i < zs.length := by omega
      have ei : (0 + (i : Int)) = (i : Int) := by omega
      rw [ei]
      refine ⟨_, rfl, _, rfl, p, _, _, _, rfl, rfl, SqL.of hp, hat i hi', _, rfl, zs[i], LET, 1, 16, rfl, zl _ (List.getElem_mem hi'), ?_⟩
      have e0 : ofS LET 1 16 zs[i] = nm zs[i] := rfl
      rw [e0]
      have hbad : nm zs[i] = false → Q (.bl false) H' := fun h => by
        have ha : zs.all nm = false := by
          rw [List.all_eq_false]
          exact ⟨_, List.getElem_mem hi', by rw [h]; exact Bool.false_ne_true⟩
        rw [ha] at q
        exact q
      cases c1 : nm zs[i] with
      | false => exact ⟨_, rfl, iteT (iteT (hbad c1))⟩
      | true =>
        have hk1 : ∀ j (h : j < zs.length), j < i + 1 → nm zs[j] = true := fun j h hj => by
          by_cases z : j = i
          · subst z
            exact c1
          · exact h1 j h (by omega)
        refine ⟨_, rfl, iteF ⟨_, rfl, _, _, rfl, rfl, _, rfl, ?_⟩⟩
        by_cases h0 : (0 : Int) < (i : Int)
        · rw [decide_eq_true h0]
          have e1 : ((i : Int) - 1) = ((i - 1 : Nat) : Int) := by omega
          have hi1 : i - 1 < zs.length := by omega
          have ha := hat (i - 1) hi1
          rw [← e1] at ha
          refine iteT ⟨_, rfl, _, rfl, _, _, rfl, rfl, p, _, _, _, rfl, rfl, SqL.of hp, ha, _, rfl, _, rfl, p, _, _, _, rfl, rfl, SqL.of hp, hat i hi', _, _, rfl, rfl, _, rfl, ?_⟩
          show (_ : Prop)
          cases c2 : ltS zs[i - 1] zs[i] with
          | true =>
            have c2' : decide (zs[i - 1].cps.toList < zs[i].cps.toList) = true := c2
            rw [c2']
            refine iteF ⟨⟨_, rfl⟩, rfl, hk1, fun j h hj => ?_⟩
            by_cases z : j + 1 = i
            · subst z
              exact c2
            · exact h2 j h (by omega)
          | false =>
            have c2' : decide (zs[i - 1].cps.toList < zs[i].cps.toList) = false := c2
            rw [c2']
            have ha : asc zs = false := by
              cases c : asc zs with
              | false => rfl
              | true =>
                have := asc_iff.mp c (i - 1) (by omega)
                have e9 : i - 1 + 1 = i := by omega
                simp only [e9] at this
                rw [c2] at this
                cases this
            rw [ha, Bool.and_false] at q
            exact iteT q
        · rw [decide_eq_false h0]
          exact iteF (iteF ⟨⟨_, rfl⟩, rfl, hk1, fun j h hj => absurd hj (by omega)⟩)
    · rintro σ' H' ⟨⟨v2, rfl⟩, rfl, h1, h2⟩
      have ha : zs.all nm = true := by
        rw [List.all_eq_true]
        intro z hz
        obtain ⟨i, hi, e⟩ := List.getElem_of_mem hz
        rw [← e]
        exact h1 i hi (by omega)
      have hb : asc zs = true := asc_iff.mpr fun i hi => h2 i hi (by omega)
      rw [ha, hb] at q
      exact q
theorem ok_law_same (T : Txt K mg OR MA NT RE TM) : Prom P w K mg base CX0 1 "_law_same" ["told", "due"] (fun vs H Q _ => ∃ a b : Bool, vs = [.bl a, .bl b] ∧ Q (.bl (a == b)) H) := by
  have nd := sc__law_same.nd
  refine T.d__law_same.ok sc__law_same bi__law_same (fun vs H Q E h => ?_) (fun f cdv A outer s H vs Q E hr h => ?_)
  · obtain ⟨a, b, rfl, _⟩ := h
    rfl
  · obtain ⟨a, b, rfl, q⟩ := h
    refine ⟨_, (pss_one (ps_ret (pe_ifExp (pt_val (pv 1)) (pe_cmpR op_isBl (pv 0) pe_bl (nomark _)) (pe_cmpR op_isBl (pv 0) pe_bl (nomark _))))), ?_⟩
    refine ⟨_, rfl, b, rfl, ?_⟩
    cases b with
    | true => exact iteT ⟨_, rfl, _, _, rfl, rfl, by cases a <;> exact q⟩
    | false => exact iteF ⟨_, rfl, _, _, rfl, rfl, by cases a <;> exact q⟩
end
end K3
namespace K3
open PySem PySem.Spec PyProof.Rows L2 Kt Fx Tx Kj Tw
section
variable {P : Program} {w : World} {K : PySem.W.Frag} {mg : Str → Option Value} {base : Heap} {OR MA NT RE TM FT NM AS NS : Addr} {Ts : List Addr}
theorem kit_str_str {K : PySem.W.Frag} : PySem.W.kitOne K (.type "str") (.type "str") = some true := kit_str (K := K) (.str "")
theorem kit_lst_lst {K : PySem.W.Frag} : PySem.W.kitOne K (.type "list") (.type "list") = some true := kit_list (K := K) (.lst [])
theorem ok_law_line (T : Txt K mg OR MA NT RE TM) : Prom P w K mg base CX0 4 "_law_line" ["words", "good"] (fun vs H Q _ => ∃ (p : Addr) (ds : List Dd) (xs : List V), vs = [.ref p, .bl (wdsD ds)] ∧ H p = some (.lst xs) ∧ RepL H ds xs ∧ (∀ z, Dd.str z ∈ ds → z.length ≤ sizeLine) ∧ cmpD ds ∧ ∀ H', Same H H' → Q (.bl true) H') := by
  have nd := sc__law_line.nd
  have pr_line_of := ok_line_of (P := P) (w := w) (base := base) T
  have pr_words_of := ok_words_of (P := P) (w := w) (base := base) T
  have pr__law_told := ok_law_told (P := P) (w := w) (base := base) T
  obtain ⟨DE, eD, up⟩ := T.g_DE
  have kit := T.g_kit
  refine T.d__law_line.ok sc__law_line bi__law_line (fun vs H Q E h => ?_) (fun f cdv A outer s H vs Q E hr h => ?_)
  · obtain ⟨p, ds, xs, rfl, _⟩ := h
    rfl
  · obtain ⟨p, ds, xs, rfl, hp, hl, zl, hc, q⟩ := h
    refine ⟨_, (pss_cons (ps_set (i := 2) nd rfl (Or.inl rfl) (pe_callTy call_list_of (by rfl) T.b_list (by decide +kernel) (pa_cons (pv 0) pa_nil)))
    (pss_cons (L2N.ps_try_as (i := 4) (ts := (fun a cls d => tRet (tAndV (tNotV (tVar 1)) (tAndV (tOp rEq (tCallS (spTold K OR MA NT RE TM a cls d) (fun _ => E0) (tCons (tVar 4) tNil)) (tC (.str "Malformed"))) (tOp (rEqD K) (tVar 2) (tVar 0)))))) rfl rfl nd rfl rfl ⟨rfl, by decide, .inl eD.g⟩ (Wout := fun _ _ _ _ => False) Kh.takesN0 (fun W pn xe tk _ => (pss_one (ps_set (i := 3) nd rfl (Or.inl rfl) (Kh.pcallXN hr pr_line_of tk (by exact (pa_cons (pv 2) pa_nil)))))) (fun a oe cls d pn hz hf => (pss_one (ps_ret (pe_and (pe_not (pv 1)) (pe_and (pe_cmpR op_eq (Kh.pcallS hz hf hr pr__law_told (pa_cons (pv 4) pa_nil)) pe_str (nomark _)) (pe_one (pe_cmpR (op_eqD hr.units) (pv 2) (pv 0) (nomark _)))))))))
    (pss_cons (ps_if (PW.pt (pw_or (pt_not (pt_val (pv 1))) (pw_or (pt_not (pt_val (pe_callB call_isi (by rfl) T.b_isinstance (by decide +kernel) (pa_cons (pv 3) (pa_cons (pe_bltn (v := .ty "str") (by rfl) T.b_str PyProof.Rows.boot_str rfl) pa_nil))))) (pw_or (pt_cmpR op_ne (pv 3) (pe_m1 PySem.F.slot_str_join PySem.F.type_str_join mt_join pe_str (pv 0)) (nomark _)) (pw_or1 (pt_cmpR (op_neD hr.units) (pv 2) (pv 0) (nomark _))))))) (pss_one (ps_ret pe_bl)) pss_nil)
    (pss_one (ps_ret (pe_and (pe_callB call_isi (by rfl) T.b_isinstance (by decide +kernel) (pa_cons (Kh.pcallNN hr pr_words_of (pa_cons (pv 3) pa_nil)) (pa_cons (pe_bltn (v := .ty "list") (by rfl) T.b_list PyProof.Rows.boot_list rfl) pa_nil))) (pe_one (pe_cmpR (op_eqD hr.units) (Kh.pcallNN hr pr_words_of (pa_cons (pv 3) pa_nil)) (pv 0) (nomark _))))))))), ?_⟩
    have up2 : PySem.W.exmOne K (.ref MA) (.ref DE) = some true := exm_up eD (T.g_DX DE eD.g).2.1
    obtain ⟨_, _, _, _, j1, j2, j3, j4, _, _, _, _, _, _, _, _, _, _, _, _, _, v2, _, _, _⟩ := kit
    have big : (100000 : Nat) ≤ sizeLine := by decide
    refine ⟨_, rfl, p, xs, rfl, .inl (SqL.of hp), fun L nL => ?_⟩
    have s1 := same_new (o := HO.lst xs) nL
    have hL : upd H L (HO.lst xs) L = some (.lst xs) := upd_same
    generalize upd H L (HO.lst xs) = H1 at s1 hL
    have hp1 := s1 _ _ hp
    have hl1 := repL_same s1 hl
    have dL : Dp K H1 (.ref L) (.list (pyDs ds)) := .lst (SqL.of hL) (repL_dp ds xs hl1)
    have dp : Dp K H1 (.ref p) (.list (pyDs ds)) := .lst (SqL.of hp1) (repL_dp ds xs hl1)
    refine ⟨_, rfl, L, ds, xs, rfl, hL, hl1, zl, fun hw => ?_, fun hw => ?_⟩
    · have c1 : szsD ds = true := by
        cases c1 : szsD ds with
        | true => rfl
        | false =>
          rw [wds_not c1] at hw
          cases hw
      have ea : ds.all szD = true := by
        unfold szsD at c1
        rw [Bool.and_eq_true] at c1
        exact c1.2
      have e := szD_all ea
      have hlx := hl1
      rw [e] at hlx
      have ex := repL_vals hlx
      obtain ⟨l1, l2⟩ := sz_len c1
      have jl := join_len " " l2
      have e0 : (" " : Str).length = 1 := by decide +kernel
      have s3 : (strsD ds).length * (" " : Str).length = (strsD ds).length := by rw [e0, Nat.mul_one]
      have su := sum_len l2
      have zne : strsD ds ≠ [] := fun h => by
        unfold szsD at c1
        rw [e, h] at c1
        exact absurd c1 (by decide)
      have h32 : ∀ y ∈ strsD ds, (32 : Nat) ∉ TL.tl y := fun y hy h => by
        rw [wds_szs c1, List.all_eq_true] at hw
        have := hw y hy
        unfold allin at this
        rw [List.all_eq_true] at this
        exact absurd (of_decide_eq_true (this 32 h)) (by decide +kernel)
      have sj : Txt.split (Txt.join " " (strsD ds)) " " = strsD ds := TL.split_join (y := " ") (s := 32) (S := []) (by decide +kernel) (by decide +kernel) zne h32
      have hpj : H1 p = some (.lst ((strsD ds).map V.str)) := by rw [← ex]; exact hp1
      have hwj : wdsD ((strsD ds).map Dd.str) = true := by rw [← e]; exact hw
      have jl2 : (Txt.join " " (strsD ds)).length ≤ 10000 := by omega
      generalize hj : Txt.join " " (strsD ds) = j at sj jl2
      refine ⟨_, rfl, wdsD ds, rfl, ?_⟩
      rw [hw]
      refine iteF ?_
      refine ⟨_, rfl, ⟨_, _, _, _, _, rfl, .ty _, .base (.str j), kit_str_str, ?_⟩⟩
      refine ⟨true, rfl, iteF ?_⟩
      refine ⟨_, rfl, ⟨_, rfl⟩, _, rfl, _, p, strsD ds, rfl, rfl, .inl (SqL.of hpj), by omega, rfl, !(decide (V.str j = V.str (Txt.join " " (strsD ds)))), rfl, ?_⟩
      rw [hj, decide_eq_true rfl]
      refine iteF ⟨_, rfl, _, rfl, _, _, dL, dp, hc, hc, _, rfl, ?_⟩
      rw [cmp_refl hc]
      refine iteF ?_
      rw [← sj] at hwj
      refine ⟨_, rfl, j, rfl, jl2, fun _ p2 H2 s2 n2 hp2 => ?_, fun h => by rw [hwj] at h; cases h⟩
      refine ⟨_, _, _, _, _, rfl, .ty _, .base (.lst hp2), kit_lst_lst, ?_⟩
      refine ⟨true, rfl, iteT ?_⟩
      refine ⟨_, rfl, j, rfl, jl2, fun _ p3 H3 s3 n3 hp3 => ?_, fun h => by rw [hwj] at h; cases h⟩
      rw [sj] at hp3
      have s23 := s2.trans s3
      have d3 : Dp K H3 (.ref p3) (.list (pyDs ds)) := .lst (SqL.of hp3) (by
        have := repL_dp (K := K) (H := H3) ((strsD ds).map Dd.str) _ (repL_strs _)
        rw [← e] at this
        exact this)
      have dp3 : Dp K H3 (.ref p) (.list (pyDs ds)) := .lst (SqL.of (s23 _ _ hp1)) (repL_dp ds xs (repL_same s23 hl1))
      refine ⟨_, rfl, _, _, d3, dp3, hc, hc, ?_⟩
      rw [cmp_refl hc]
      exact q _ (s1.trans s23)
    · refine ⟨true, up2, fun _ e he => ?_, fun z => nomatch z⟩
      refine ⟨_, rfl, wdsD ds, rfl, ?_⟩
      rw [hw]
      refine ⟨_, rfl, iteT ?_⟩
      refine ⟨_, rfl, rfl, MA, false, true, false, false, false, "Malformed", rfl, rfl, T.e_Malformed.c, j1, kit_self MA, j2, j3, j4, v2, rfl, fun H' s' => ?_⟩
      refine ⟨rfl, ?_⟩
      rw [decide_eq_true rfl]
      have dL2 : Dp K H' (.ref L) (.list (pyDs ds)) := .lst (SqL.of (s' _ _ hL)) (repL_dp ds xs (repL_same s' hl1))
      have dp2 : Dp K H' (.ref p) (.list (pyDs ds)) := .lst (SqL.of (s' _ _ hp1)) (repL_dp ds xs (repL_same s' hl1))
      refine ⟨true, rfl, iteT ⟨_, rfl, _, rfl, _, _, dL2, dp2, hc, hc, ?_⟩⟩
      rw [cmp_refl hc]
      exact q _ (s1.trans s')
theorem flat_bls (bs : List Bool) : (bs.map V.bl).all flatV = true := by
  rw [List.all_map]
  exact List.all_eq_true.mpr fun b _ => rfl
theorem inV_bls (bs : List Bool) : (!inV (.bl false) (bs.map V.bl)) = bs.all id := by
  unfold inV
  rw [List.any_map]
  induction bs with
  | nil => rfl
  | cons b r ih =>
    rw [List.any_cons, List.all_cons, Bool.not_or, ih]
    cases b <;> rfl
theorem ok_law_read (T : Txt K mg OR MA NT RE TM) : Prom P w K mg base CX0 4 "_law_read" ["text"] (fun vs H Q _ => ∃ z : Str, vs = [.str z] ∧ z.length ≤ 10000 ∧ ok3 z ∧ ∀ H', Same H H' → Q (.bl true) H') := by
  have nd := sc__law_read.nd
  have pr_words_of := ok_words_of (P := P) (w := w) (base := base) T
  have pr__law_of := ok_law_of (P := P) (w := w) (base := base) T
  have pr__law_told := ok_law_told (P := P) (w := w) (base := base) T
  obtain ⟨DE, eD, up⟩ := T.g_DE
  have kit := T.g_kit
  refine T.d__law_read.ok sc__law_read bi__law_read (fun vs H Q E h => ?_) (fun f cdv A outer s H vs Q E hr h => ?_)
  · obtain ⟨z, rfl, _⟩ := h
    rfl
  · obtain ⟨z, rfl, hl, oz, q⟩ := h
    refine ⟨_, (pss_cons (ps_set (i := 1) nd rfl (Or.inl rfl) (pe_m1 PySem.F.slot_str_split PySem.F.type_str_split mt_split (pv 0) pe_str))
    (pss_cons (ps_set (i := 2) nd rfl (Or.inr rfl) pe_str)
    (Evl.pss_cut (ps_set (i := 3) nd rfl (Or.inl rfl) (pe_and (pe_cmpR op_le (pe_callB call_len_seq (by rfl) T.b_len (by decide +kernel) (pa_cons (pv 1) pa_nil)) pe_int (nomark _)) (pe_one (pe_cmpR op_notIn_seq pe_bl (pe_lc (own := [("word", 6)]) (g := gName 6) (by rfl) nd (pi_list (pv 1)) (blkOk_by (own := [("word", 6)]) (N := N__law_read) (sc := defScope s__law_read) (by decide +kernel)) (fun _ _ _ _ _ => (pg_name (i := 6) nd rfl (Or.inl rfl))) (fun _ _ _ _ _ => pts_nil) (fun _ _ _ _ _ => (pcall hr pr__law_of (pa_cons (pv 6) (pa_cons (pv 2) (pa_cons pe_int (pa_cons pe_int pa_nil))))))) (by rfl)))))
    (pss_cons (L2N.ps_try_as (i := 5) (ts := (fun a cls d => tRet (tAndV (tNotV (tVar 3)) (tOp rEq (tCallS (spTold K OR MA NT RE TM a cls d) (fun _ => E0) (tCons (tVar 5) tNil)) (tC (.str "Malformed")))))) rfl rfl nd rfl rfl ⟨rfl, by decide, .inl eD.g⟩ (Wout := fun _ _ _ _ => False) Kh.takesN0 (fun W pn xe tk _ => (pss_one (ps_set (i := 4) nd rfl (Or.inl rfl) (Kh.pcallXN hr pr_words_of tk (by exact (pa_cons (pv 0) pa_nil)))))) (fun a oe cls d pn hz hf => (pss_one (ps_ret (pe_and (pe_not (pv 3)) (pe_one (pe_cmpR op_eq (Kh.pcallS hz hf hr pr__law_told (pa_cons (pv 5) pa_nil)) pe_str (nomark _))))))))
    (pss_one (ps_ret (pe_and (pv 3) (pe_and (pe_callB call_isi (by rfl) T.b_isinstance (by decide +kernel) (pa_cons (pv 4) (pa_cons (pe_bltn (v := .ty "list") (by rfl) T.b_list PyProof.Rows.boot_list rfl) pa_nil))) (pe_one (pe_cmpR (op_eqD hr.units) (pv 4) (pv 1) (nomark _))))))))))), ?_⟩
    have up2 : PySem.W.exmOne K (.ref MA) (.ref DE) = some true := exm_up eD (T.g_DX DE eD.g).2.1
    obtain ⟨_, _, _, _, j1, j2, j3, j4, _, _, _, _, _, _, _, _, _, _, _, _, _, v2, _, _, _⟩ := kit
    have big : (1000000 : Nat) ≤ sizeLine := by decide
    have slen := split_len z " "
    have sok := ok3_split oz " "
    have sne := split_ne z " "
    refine ⟨_, rfl, ⟨_, rfl⟩, _, _, rfl, rfl, by decide +kernel, by omega, fun L nL => ?_⟩
    generalize hzs : Txt.split z " " = zs at slen sok sne
    have s1 := same_new (o := HO.lst (zs.map V.str)) nL
    have hL : upd H L (HO.lst (zs.map V.str)) L = some (.lst (zs.map V.str)) := upd_same
    generalize upd H L (HO.lst (zs.map V.str)) = H1 at s1 hL
    have n1 : 1 ≤ zs.length := by
      cases zs with
      | nil => exact absurd rfl sne
      | cons a r => simp
    have hlen : (zs.map V.str).length = zs.length := List.length_map ..
    have ew : wdsD (zs.map Dd.str) = (decide ((zs.length : Int) ≤ 20) && zs.all wd) := by
      unfold wdsD
      rw [List.length_map, decide_eq_true (show (1 : Int) ≤ (zs.length : Int) by omega), Bool.true_and, List.all_map]
      rfl
    refine ⟨fun σ2 H2 => ∃ v6 : Option V, σ2 = [some (.str z), some (.ref L), some (.str WS), some (.bl (wdsD (zs.map Dd.str))), none, none, v6] ∧ Same H1 H2, ?_, ?_⟩
    · refine ⟨_, rfl, L, _, rfl, .inl (SqL.of hL), ?_⟩
      rw [hlen]
      refine ⟨_, _, rfl, rfl, ?_⟩
      rw [ew]
      refine ⟨decide ((zs.length : Int) ≤ 20), rfl, ?_⟩
      show (_ : Prop)
      cases c1 : decide ((zs.length : Int) ≤ 20) with
      | false =>
        have c1' := of_decide_eq_false c1
        rw [if_neg Bool.false_ne_true]
        refine ⟨none, ?_, Same.refl _⟩
        show _ = [_, _, _, some (V.bl false), _, _, _]
        rw [← c1]
        rfl
      | true =>
        refine iteT ?_
        refine ⟨_, rfl, L, rfl, ⟨_, SqL.of hL⟩, fun D nD => lc_list (K := K) (a := L) (xs := zs.map V.str) (fun i H' => Same H1 H' ∧ H' D = some (.lst (((zs.take i).map wd).map V.bl)))
          ⟨same_new nD, upd_same⟩ (fun i H' _ ⟨s, _⟩ => SqL.of (s _ _ hL)) ?_ ?_⟩
        · rintro i x H' hi ⟨sD, hD⟩
          rw [List.getElem?_map] at hi
          cases ht : zs[i]? with
          | none => rw [ht] at hi; cases hi
          | some y =>
            rw [ht] at hi
            obtain rfl := (Option.some.inj hi).symm
            have hy := List.mem_of_getElem? ht
            have hyl := slen y hy
            have hil : i < zs.length := (List.getElem?_eq_some_iff.mp ht).1
            have c1' := of_decide_eq_true c1
            refine ⟨rfl, lcy ⟨_, rfl, _, rfl, y, WS, 1, 40, rfl, by omega, _, hD, by rw [List.length_map, List.length_map, List.length_take]; omega, ?_⟩⟩
            refine ⟨same_put sD nD, ?_⟩
            rw [upd_same, List.take_succ, ht, List.map_append, List.map_append]
            rfl
        · rintro H' ⟨sD, hD⟩
          rw [List.take_of_length_le (by rw [hlen]; exact Nat.le_refl _)] at hD
          refine ⟨D, _, rfl, .inl (SqL.of hD), rfl, flat_bls _, ?_⟩
          have e : (if true = true then !inV (V.bl false) ((zs.map wd).map V.bl) else inV (V.bl false) ((zs.map wd).map V.bl)) = (true && zs.all wd) := by
            rw [if_pos rfl, inV_bls, List.all_map]
            rfl
          rw [e]
          exact ⟨_, rfl, sD⟩
    · rintro σ2 H2 ⟨v6, rfl, s2⟩
      have hL2 := s2 _ _ hL
      refine ⟨_, rfl, z, rfl, hl, fun hw p H3 s3 np hp => ?_, fun hw H3 s3 => ?_⟩
      · rw [hzs] at hw hp
        have hc := cmp_strs sok
        refine ⟨_, rfl, _, rfl, ?_⟩
        rw [hw]
        refine iteT ?_
        refine ⟨_, rfl, ⟨_, _, _, _, _, rfl, .ty _, .base (.lst hp), kit_lst_lst, ?_⟩⟩
        refine ⟨true, rfl, iteT ?_⟩
        have hL3 := s3 _ _ hL2
        have d1 : Dp K H3 (.ref p) (.list (pyDs (zs.map Dd.str))) := .lst (SqL.of hp) (repL_dp _ _ (repL_strs zs))
        have d2 : Dp K H3 (.ref L) (.list (pyDs (zs.map Dd.str))) := .lst (SqL.of hL3) (repL_dp _ _ (repL_strs zs))
        refine ⟨_, rfl, _, rfl, _, _, d1, d2, hc, hc, ?_⟩
        rw [cmp_refl hc]
        exact q _ ((s1.trans s2).trans s3)
      · rw [hzs] at hw
        refine ⟨true, up2, fun _ e he => ?_, fun z => nomatch z⟩
        refine ⟨_, rfl, _, rfl, ?_⟩
        rw [hw]
        refine ⟨_, rfl, iteT ?_⟩
        refine ⟨_, rfl, rfl, MA, false, true, false, false, false, "Malformed", rfl, rfl, T.e_Malformed.c, j1, kit_self MA, j2, j3, j4, v2, rfl, fun H' s' => ?_⟩
        refine ⟨rfl, ?_⟩
        show Q (.bl (decide (V.str "Malformed" = V.str "Malformed"))) H'
        rw [decide_eq_true rfl]
        exact q _ (((s1.trans s2).trans s3).trans s')
theorem ok_law_numbers (T : Txt K mg OR MA NT RE TM) (B : Tbl K mg base "is_figures" s_is_figures FT) (hT : FT ∈ Ts) : Prom P w K mg base CX0 4 "_law_numbers" ["number"] (fun vs H Q _ => ∃ n : Int, vs = [.int n] ∧ n.natAbs < 10 ^ 30 ∧ TG Ts H ∧ ∀ H', ST Ts H H' → Q (.bl true) H') := by
  have nd := sc__law_numbers.nd
  have pr_number_word := ok_number_word (P := P) (w := w) (base := base) T
  have pr_number_of := ok_number_of (P := P) (w := w) (base := base) (Ts := Ts) T B hT
  have pr__law_told := ok_law_told (P := P) (w := w) (base := base) T
  obtain ⟨DE, eD, up⟩ := T.g_DE
  have kit := T.g_kit
  refine T.d__law_numbers.ok sc__law_numbers bi__law_numbers (fun vs H Q E h => ?_) (fun f cdv A outer s H vs Q E hr h => ?_)
  · obtain ⟨n, rfl, _⟩ := h
    rfl
  · obtain ⟨n, rfl, hn, tg, q⟩ := h
    refine ⟨_, (pss_cons (ps_set (i := 1) nd rfl (Or.inl rfl) (pe_joined1 (pe_fmt (pe_callB call_abs (by rfl) T.b_abs (by decide +kernel) (pa_cons (pv 0) pa_nil)))))
    (Evl.pss_cut (ps_set (i := 2) nd rfl (Or.inl rfl) (pe_ifExp (pt_cmpR op_lt (pv 0) pe_int (nomark _)) (pe_op op_add_str pe_str (pv 1)) (pv 1)))
    (pss_cons (L2N.ps_try_as (i := 4) (ts := (fun a cls d => tRet (tAndV (tOp (rI0 fun i j => V.bl (decide (j < i))) (tCB (fun xs H Q => ∃ z : Str, xs = [V.str z] ∧ z.length ≤ sizeLine ∧ Q (V.int z.length) H) (tCons (tVar 1) tNil)) (tC (.int 20))) (tOp rEq (tCallS (spTold K OR MA NT RE TM a cls d) (fun _ => E0) (tCons (tVar 4) tNil)) (tC (.str "OutOfRange")))))) rfl rfl nd rfl rfl ⟨rfl, by decide, .inl eD.g⟩ (Wout := fun _ _ _ _ => False) Kh.takesN0 (fun W pn xe tk _ => (pss_cons (ps_set (i := 3) nd rfl (Or.inl rfl) (Kh.pcallXN hr pr_number_word tk (by exact (pa_cons (pv 0) pa_nil))))
    (pss_one (ps_if (PW.pt (pw_or (pt_cmpR op_gt (pe_callB call_len_str (by rfl) T.b_len (by decide +kernel) (pa_cons (pv 1) pa_nil)) pe_int (nomark _)) (pw_or (pt_not (pt_val (pe_callB (Kj.call_isiK (K := K) rfl) (by rfl) T.b_isinstance (by decide +kernel) (pa_cons (pv 3) (pa_cons (pe_bltn (v := .ty "str") (by rfl) T.b_str PyProof.Rows.boot_str rfl) pa_nil))))) (pw_or1 (pt_cmpR op_ne (pv 3) (pv 2) (nomark _)))))) (pss_one (ps_ret pe_bl)) pss_nil)))) (fun a oe cls d pn hz hf => (pss_one (ps_ret (pe_and (pe_cmpR op_gt (pe_callB call_len_str (by rfl) T.b_len (by decide +kernel) (pa_cons (pv 1) pa_nil)) pe_int (nomark _)) (pe_one (pe_cmpR op_eq (Kh.pcallS hz hf hr pr__law_told (pa_cons (pv 4) pa_nil)) pe_str (nomark _))))))))
    (pss_cons (ps_set (i := 5) nd rfl (Or.inl rfl) (Kh.pcallNN hr pr_number_of (pa_cons (pv 3) pa_nil)))
    (pss_one (ps_ret (pe_and (pe_callB call_isi (by rfl) T.b_isinstance (by decide +kernel) (pa_cons (pv 5) (pa_cons (pe_bltn (v := .ty "int") (by rfl) T.b_int PyProof.Rows.boot_int rfl) pa_nil))) (pe_and (pe_not (pe_callB call_isi (by rfl) T.b_isinstance (by decide +kernel) (pa_cons (pv 5) (pa_cons (pe_bltn (v := .ty "bool") (by rfl) T.b_bool PyProof.Rows.boot_bool rfl) pa_nil)))) (pe_one (pe_cmpR op_eq (pv 5) (pv 0) (nomark _))))))))))), ?_⟩
    have up2 : PySem.W.exmOne K (.ref OR) (.ref DE) = some true := exm_up eD (T.g_DX DE eD.g).1
    obtain ⟨j1, j2, j3, j4, _, _, _, _, _, _, _, _, _, _, _, _, _, _, _, _, v1, _, _, _, _⟩ := kit
    have big : (100000 : Nat) ≤ sizeLine := by decide
    have e30 : (10 : Nat) ^ 30 < 10 ^ 100 := by decide +kernel
    refine ⟨_, rfl, n, rfl, ?_⟩
    rw [show (if n < 0 then -n else n) = (n.natAbs : Int) by split <;> omega]
    have tf : TL.tl (Str.ofString (toString (n.natAbs : Int))) = TL.numL n.natAbs := by
      rw [tl_int, intL_pos (by omega)]
      rfl
    have tw : TL.tl (Str.ofString (toString n)) = intL n := tl_int n
    have lf : (TL.numL n.natAbs).length ≤ 30 := TL.numL_len (by decide) hn
    refine .inr ⟨_, rfl, lg25 (by rw [Int.natAbs_natCast]; omega), ?_⟩
    generalize hfs : Str.ofString (toString (n.natAbs : Int)) = fs at tf
    generalize hws : Str.ofString (toString n) = ws at tw
    have lfs : fs.length ≤ 30 := by
      rw [TL.len_tl, tf]
      exact lf
    have lws : ws.length ≤ 31 := by
      rw [TL.len_tl, tw]
      unfold intL
      split
      · rw [List.length_cons]
        omega
      · omega
    refine ⟨fun σ2 H2 => σ2 = [some (.int n), some (.str fs), some (.str ws), none, none, none] ∧ H2 = H, ?_, ?_⟩
    · refine ⟨_, rfl, _, _, rfl, rfl, decide (n < 0), rfl, ?_⟩
      have h45 : TL.tl ("-" : Str) = [45] := by decide +kernel
      have l45 : ("-" : Str).length = 1 := by decide +kernel
      refine ite2 (fun h => ?_) (fun h => ?_)
      · have h := of_decide_eq_true h
        refine ⟨_, rfl, _, _, rfl, rfl, by rw [l45]; omega, ?_, rfl⟩
        have e : ("-" : Str) ++ fs = ws := TL.ext_tl (by
          rw [TL.tl_append, h45, tf, tw]
          unfold intL
          rw [if_pos h]
          rfl)
        rw [← e]
        rfl
      · have h : ¬ n < 0 := fun z => h (decide_eq_true z)
        refine ⟨_, rfl, ?_, rfl⟩
        have e : fs = ws := TL.ext_tl (by
          rw [tf, tw]
          unfold intL
          rw [if_neg h])
        rw [← e]
        rfl
    · rintro σ2 H2 ⟨rfl, rfl⟩
      refine ⟨_, rfl, n, rfl, by omega, fun h20 => ?_, fun h20 => ?_⟩
      · rw [hws]
        have lf20 : fs.length ≤ 20 := by
          rw [TL.len_tl, tf]
          exact TL.numL_len (by decide) h20
        refine ⟨_, rfl, fs, rfl, by omega, _, _, rfl, rfl, _, rfl, ?_⟩
        rw [decide_eq_false (show ¬ (20 : Int) < (fs.length : Int) by omega)]
        refine iteF ?_
        refine ⟨_, rfl, ⟨_, _, _, _, _, rfl, .ty _, .base (.str ws), kit_str_str, ?_⟩⟩
        refine ⟨true, rfl, iteF ?_⟩
        refine ⟨_, rfl, _, rfl, rfl, !(decide (V.str ws = V.str ws)), rfl, ?_⟩
        rw [decide_eq_true rfl]
        refine iteF ?_
        refine ⟨_, rfl, ws, rfl, by omega, tg, fun m hm e H3 st => ?_, fun nw => absurd ⟨n, h20, tw⟩ nw⟩
        have em : n = m := by
          have := ival_int n
          rw [← tw, e, ival_int] at this
          exact this.symm
        subst em
        refine ⟨_, rfl, ⟨_, _, _, _, _, rfl, .ty _, .base (.int n), kit_int_int, ?_⟩⟩
        refine ⟨true, rfl, iteT ?_⟩
        refine ⟨_, rfl, ⟨_, _, _, _, _, rfl, .ty _, .base (.int n), kit_int_bool, ?_⟩⟩
        refine ⟨false, rfl, true, rfl, iteT ?_⟩
        refine ⟨_, rfl, _, rfl, rfl, ?_⟩
        rw [decide_eq_true rfl]
        exact q _ st
      · have lf20 : 20 < fs.length := by
          rw [TL.len_tl, tf]
          exact numL_ge 20 _ h20
        refine ⟨true, up2, fun _ e he => ?_, fun z => nomatch z⟩
        refine ⟨_, rfl, fs, rfl, by omega, _, _, rfl, rfl, decide ((20 : Int) < (fs.length : Int)), rfl, ?_⟩
        rw [decide_eq_true (show (20 : Int) < (fs.length : Int) by omega)]
        refine iteT ?_
        refine ⟨_, rfl, rfl, OR, true, false, false, false, false, "OutOfRange", rfl, rfl, T.e_OutOfRange.c, kit_self OR, j1, j2, j3, j4, v1, rfl, fun H' s' => ?_⟩
        refine ⟨rfl, ?_⟩
        show Q (.bl (decide (V.str "OutOfRange" = V.str "OutOfRange"))) H'
        rw [decide_eq_true rfl]
        exact q _ (.of tg s')
theorem ok_law_number (T : Txt K mg OR MA NT RE TM) (B : Tbl K mg base "is_figures" s_is_figures FT) (hT : FT ∈ Ts) : Prom P w K mg base CX0 4 "_law_number" ["word"] (fun vs H Q _ => ∃ z : Str, vs = [.str z] ∧ z.length ≤ 300 ∧ TG Ts H ∧ ∀ H', ST Ts H H' → Q (.bl true) H') := by
  have nd := sc__law_number.nd
  have pr__law_of := ok_law_of (P := P) (w := w) (base := base) T
  have pr_number_of := ok_number_of (P := P) (w := w) (base := base) (Ts := Ts) T B hT
  have pr__law_told := ok_law_told (P := P) (w := w) (base := base) T
  obtain ⟨DE, eD, up⟩ := T.g_DE
  have kit := T.g_kit
  refine T.d__law_number.ok sc__law_number bi__law_number (fun vs H Q E h => ?_) (fun f cdv A outer s H vs Q E hr h => ?_)
  · obtain ⟨z, rfl, _⟩ := h
    rfl
  · obtain ⟨z, rfl, hz, tg, q⟩ := h
    refine ⟨_, (Evl.pss_cut (ps_set (i := 1) nd rfl (Or.inl rfl) (pe_ifExp (pt_cmpR op_eq (pe_slice sl_str (pv 0) po_none (po_some pe_int)) pe_str (nomark _)) (pe_slice sl_str (pv 0) (po_some pe_int) po_none) (pv 0)))
    (Evl.pss_cut (ps_set (i := 2) nd rfl (Or.inl rfl) (pe_and (pcall hr pr__law_of (pa_cons (pv 1) (pa_cons pe_str (pa_cons pe_int (pa_cons pe_int pa_nil))))) (pe_and (pe_or (pe_cmpR op_eq (pe_callB call_len_str (by rfl) T.b_len (by decide +kernel) (pa_cons (pv 1) pa_nil)) pe_int (nomark _)) (pe_one (pe_cmpR op_ne (pe_ix ix_str (pv 1) pe_int (fun _ _ => rfl)) pe_str (nomark _)))) (pe_one (pe_cmpR op_ne (pv 0) pe_str (nomark _))))))
    (pss_cons (L2N.ps_try_as (i := 4) (ts := (fun a cls d => tRet (tAndV (tNotV (tVar 2)) (tOp rEq (tCallS (spTold K OR MA NT RE TM a cls d) (fun _ => E0) (tCons (tVar 4) tNil)) (tC (.str "Malformed")))))) rfl rfl nd rfl rfl ⟨rfl, by decide, .inl eD.g⟩ (Wout := fun _ _ _ _ => False) Kh.takesN0 (fun W pn xe tk _ => (pss_one (ps_set (i := 3) nd rfl (Or.inl rfl) (Kh.pcallXN hr pr_number_of tk (by exact (pa_cons (pv 0) pa_nil)))))) (fun a oe cls d pn hz hf => (pss_one (ps_ret (pe_and (pe_not (pv 2)) (pe_one (pe_cmpR op_eq (Kh.pcallS hz hf hr pr__law_told (pa_cons (pv 4) pa_nil)) pe_str (nomark _))))))))
    (pss_one (ps_ret (pe_and (pv 2) (pe_and (pe_callB call_isi (by rfl) T.b_isinstance (by decide +kernel) (pa_cons (pv 3) (pa_cons (pe_bltn (v := .ty "int") (by rfl) T.b_int PyProof.Rows.boot_int rfl) pa_nil))) (pe_and (pe_not (pe_callB call_isi (by rfl) T.b_isinstance (by decide +kernel) (pa_cons (pv 3) (pa_cons (pe_bltn (v := .ty "bool") (by rfl) T.b_bool PyProof.Rows.boot_bool rfl) pa_nil)))) (pe_one (pe_cmpR op_eq (pe_joined1 (pe_fmt (pv 3))) (pv 0) (nomark _))))))))))), ?_⟩
    have up2 : PySem.W.exmOne K (.ref MA) (.ref DE) = some true := exm_up eD (T.g_DX DE eD.g).2.1
    obtain ⟨_, _, _, _, j1, j2, j3, j4, _, _, _, _, _, _, _, _, _, _, _, _, _, v2, _, _, _⟩ := kit
    have big : (100000 : Nat) ≤ sizeLine := by decide
    have h45 : TL.tl ("-" : Str) = [45] := by decide +kernel
    have ht : TL.tl (cutS z none (some 1)) = (TL.tl z).take 1 := cut_take z 1
    have hd : TL.tl (cutS z (some 1) none) = (TL.tl z).drop 1 := cut_drop z 1
    refine ⟨fun σ2 H2 => ∃ fg : Str, σ2 = [some (.str z), some (.str fg), none, none, none] ∧ H2 = H ∧ TL.tl fg = noMinus (TL.tl z) ∧ fg.length ≤ z.length, ?_, ?_⟩
    · refine ⟨_, rfl, 1, rfl, z, rfl, by omega, rfl, decide (V.str (cutS z none (some 1)) = V.str "-"), rfl, ?_⟩
      refine ite2 (fun h => ?_) (fun h => ?_)
      · have h := congrArg TL.tl (V.str.inj (of_decide_eq_true h))
        rw [ht, h45] at h
        refine ⟨_, rfl, 1, rfl, z, rfl, by omega, _, rfl, rfl, ?_, cutS_length z _ _⟩
        rw [hd]
        cases e : TL.tl z with
        | nil => rw [e] at h; cases h
        | cons x r =>
          rw [e] at h
          have hx : x = 45 := (List.cons.inj h).1
          rw [hx]
          rfl
      · refine ⟨_, rfl, z, rfl, rfl, ?_, Nat.le_refl _⟩
        unfold noMinus
        split
        · rename_i r e
          exact absurd (decide_eq_true (congrArg V.str (TL.ext_tl (by rw [ht, h45, e]; rfl)))) h
        · rfl
    · rintro σ2 H2 ⟨fg, rfl, rfl, tfg, lfg⟩
      refine ⟨fun σ3 H3 => σ3 = [some (.str z), some (.str fg), some (.bl (gdN (TL.tl z) (TL.tl fg))), none, none] ∧ H3 = H2, ?_, ?_⟩
      · refine ⟨_, rfl, fg, FIG, 1, 20, rfl, by omega, ?_⟩
        have e0 : ofS FIG 1 20 fg = (decide (1 ≤ ((TL.tl fg).length : Int)) && decide (((TL.tl fg).length : Int) ≤ 20) && (TL.tl fg).all dig) := by
          unfold ofS
          rw [allin_fig, TL.len_tl]
        have eg : gdN (TL.tl z) (TL.tl fg) = (ofS FIG 1 20 fg && ((decide (((TL.tl fg).length : Int) = 1) || !decide ((TL.tl fg).head? = some 48)) && !decide (TL.tl z = [45, 48]))) := by
          rw [e0]
          rfl
        rw [eg]
        refine ⟨_, rfl, ?_⟩
        cases c1 : ofS FIG 1 20 fg with
        | false =>
          exact iteF ⟨rfl, rfl⟩
        | true =>
          refine iteT ?_
          have hne : 1 ≤ fg.length := by
            unfold ofS at c1
            rw [Bool.and_eq_true, Bool.and_eq_true, decide_eq_true_eq, decide_eq_true_eq] at c1
            omega
          have q1 : decide (V.int (fg.length : Int) = V.int 1) = decide (((TL.tl fg).length : Int) = 1) := by
            rw [TL.len_tl]
            exact decide_eq_decide.mpr ⟨fun h => V.int.inj h, fun h => by rw [h]⟩
          have h0 : TL.tl ("-0" : Str) = [45, 48] := by decide +kernel
          have q3 : decide (V.str z = V.str "-0") = decide (TL.tl z = [45, 48]) := decide_eq_decide.mpr ⟨fun h => by rw [V.str.inj h, h0], fun h => congrArg V.str (TL.ext_tl (h.trans h0.symm))⟩
          have hc : ∃ c, (TL.tl fg).head? = some c ∧ atI fg.cps.toList 0 = some c := by
            cases e : TL.tl fg with
            | nil =>
              rw [TL.len_tl, e] at hne
              exact absurd hne (by decide)
            | cons c r => exact ⟨c, rfl, atI_nat (j := 0) (by show (TL.tl fg)[0]? = _; rw [e]; rfl)⟩
          obtain ⟨c, hc1, hc2⟩ := hc
          have h48 : TL.tl ("0" : Str) = [48] := by decide +kernel
          have q2 : decide (V.str ⟨#[c]⟩ = V.str "0") = decide ((TL.tl fg).head? = some 48) := decide_eq_decide.mpr ⟨fun h => by
            have h := congrArg TL.tl (V.str.inj h)
            rw [h48] at h
            rw [hc1, (List.cons.inj h).1], fun h => by
            rw [hc1] at h
            rw [Option.some.inj h]
            exact congrArg V.str (TL.ext_tl h48.symm)⟩
          refine ⟨_, rfl, fg, rfl, by omega, rfl, decide (V.int (fg.length : Int) = V.int 1), rfl, ?_⟩
          rw [q1]
          cases b1 : decide (((TL.tl fg).length : Int) = 1) with
          | true =>
            refine iteT ⟨_, rfl, iteT ⟨_, rfl, rfl, ?_⟩⟩
            rw [q3]
            exact ⟨rfl, rfl⟩
          | false =>
            refine iteF ⟨_, rfl, fg, 0, c, rfl, rfl, by omega, hc2, rfl, !(decide (V.str ⟨#[c]⟩ = V.str "0")), rfl, ?_⟩
            rw [q2]
            cases b2 : decide ((TL.tl fg).head? = some 48) with
            | true => exact iteF ⟨rfl, rfl⟩
            | false =>
              refine iteT ⟨_, rfl, rfl, ?_⟩
              rw [q3]
              exact ⟨rfl, rfl⟩
      · rintro σ3 H3 ⟨rfl, rfl⟩
        have gi := gdN_iff (TL.tl z)
        rw [← tfg] at gi
        refine ⟨_, rfl, z, rfl, by omega, tg, fun n hn e H4 st => ?_, fun nw H4 st => ?_⟩
        · have g1 := gi.mpr ⟨n, hn, e⟩
          refine ⟨_, rfl, _, rfl, ?_⟩
          rw [g1]
          refine iteT ?_
          refine ⟨_, rfl, ⟨_, _, _, _, _, rfl, .ty _, .base (.int n), kit_int_int, ?_⟩⟩
          refine ⟨true, rfl, iteT ?_⟩
          refine ⟨_, rfl, ⟨_, _, _, _, _, rfl, .ty _, .base (.int n), kit_int_bool, ?_⟩⟩
          refine ⟨false, rfl, true, rfl, iteT ?_⟩
          have e100 : (10 : Nat) ^ 20 < 10 ^ 100 := by decide +kernel
          have ez : Str.ofString (toString n) = z := TL.ext_tl (by rw [tl_int, e])
          refine ⟨_, rfl, .inr ⟨n, rfl, lg25 (by omega), _, rfl, rfl, ?_⟩⟩
          rw [ez, decide_eq_true rfl]
          exact q _ st
        · have g0 : gdN (TL.tl z) (TL.tl fg) = false := by
            cases c : gdN (TL.tl z) (TL.tl fg) with
            | false => rfl
            | true => exact absurd (gi.mp c) nw
          refine ⟨true, up2, fun _ e he => ?_, fun z => nomatch z⟩
          refine ⟨_, rfl, _, rfl, ?_⟩
          rw [g0]
          refine ⟨_, rfl, iteT ?_⟩
          refine ⟨_, rfl, rfl, MA, false, true, false, false, false, "Malformed", rfl, rfl, T.e_Malformed.c, j1, kit_self MA, j2, j3, j4, v2, rfl, fun H' s' => ?_⟩
          refine ⟨rfl, ?_⟩
          show Q (.bl (decide (V.str "Malformed" = V.str "Malformed"))) H'
          rw [decide_eq_true rfl]
          exact q _ (st.and s')
end
end K3
namespace K3
open PySem PySem.Spec PyProof.Rows L2 Kt Fx Tx Kj Tw
section
variable {P : Program} {w : World} {K : PySem.W.Frag} {mg : Str → Option Value} {base : Heap} {OR MA NT RE TM FT NM AS NS : Addr} {Ts : List Addr}
theorem TG.but {Ts : List Addr} {H H1 : Hp} {d : Addr} (t : TG Ts H) (hd : Drs H d) (b : But d H H1) : TG Ts H1 := fun T hT => by
  obtain ⟨ps, h1, h2⟩ := t T hT
  refine ⟨ps, b T _ (fun z => ?_) h1, h2⟩
  obtain ⟨_, _, _, _, h, _⟩ := hd
  rw [z, h] at h1
  cases h1
theorem Drs.st {Ts : List Addr} {H H1 : Hp} {d : Addr} (hd : Drs H d) (s : ST Ts H H1) : Drs H1 d := by
  obtain ⟨t, l, c, cs, h1, h2, h3, h4, h5⟩ := hd
  exact ⟨t, l, c, cs, s.lst h1, h2, s.lst h3, h4, h5⟩
theorem Drs.none {H : Hp} {d D : Addr} (hd : Drs H d) (n : H D = none) : D ≠ d := fun z => by
  obtain ⟨_, _, _, _, h1, _⟩ := hd
  rw [z, h1] at n
  cases n
/-- what the law's turn keeps: the draws, the tables, all lists and tuples but the draws -/
structure Kp (d : Addr) (Ts : List Addr) (H H' : Hp) : Prop where
  drs : Drs H' d
  tg : TG Ts H'
  ls : ∀ b xs, b ≠ d → H b = some (.lst xs) → H' b = some (.lst xs)
  nn : ∀ b, H' b = none → H b = none
theorem Kp.refl {d : Addr} {H : Hp} (hd : Drs H d) (t : TG Ts H) : Kp d Ts H H := ⟨hd, t, fun _ _ _ e => e, fun _ e => e⟩
theorem Kp.trans {d : Addr} {H H1 H2 : Hp} (a : Kp d Ts H H1) (b : Kp d Ts H1 H2) : Kp d Ts H H2 := ⟨b.drs, b.tg, fun c xs ne e => b.ls c xs ne (a.ls c xs ne e), fun c e => a.nn c (b.nn c e)⟩
theorem same_none {H H1 : Hp} {b : Addr} (s : Same H H1) (e : H1 b = none) : H b = none := by
  cases q : H b with
  | none => rfl
  | some o =>
    rw [s b o q] at e
    cases e
theorem Kp.same {d : Addr} {H H1 H2 : Hp} (a : Kp d Ts H H1) (s : Same H1 H2) : Kp d Ts H H2 := a.trans ⟨a.drs.same s, a.tg.same s, fun _ _ _ e => s _ _ e, fun _ e => same_none s e⟩
theorem Kp.st {d : Addr} {H H1 H2 : Hp} (a : Kp d Ts H H1) (s : ST Ts H1 H2) : Kp d Ts H H2 := a.trans ⟨a.drs.st s, s.tg, fun _ _ _ e => s.lst e, fun _ e => s.free e⟩
theorem Kp.but {d : Addr} {H H1 H2 : Hp} (a : Kp d Ts H H1) (s : But d H1 H2) (h : Drs H2 d) : Kp d Ts H H2 := a.trans ⟨h, TG.but a.tg a.drs s, fun b xs ne e => s b _ ne e, fun b e => by
  cases q : H1 b with
  | none => rfl
  | some o =>
    by_cases z : b = d
    · obtain ⟨_, _, _, _, h1, _⟩ := h
      rw [z, h1] at e
      cases e
    · rw [s b o z q] at e
      cases e⟩
/-- an own list of texts is written -/
theorem Kp.put {d D : Addr} {H H1 : Hp} {zs : List Str} {o : HO} (a : Kp d Ts H H1) (n : H D = none) (ne : D ≠ d) (hD : H1 D = some (.lst (zs.map V.str))) : Kp d Ts H (upd H1 D o) := by
  obtain ⟨⟨t, l, c, cs, h1, h2, h3, h4, h5⟩, tg, kl, kn⟩ := a
  have nc : c ≠ D := fun z => by
    rw [z, hD] at h3
    have e := HO.lst.inj (Option.some.inj h3)
    cases cs with
    | nil => exact absurd h4 (by simp)
    | cons x r =>
      cases zs with
      | nil => cases e
      | cons y s => cases (List.cons.inj e).1
  refine ⟨⟨t, l, c, cs, ?_, h2, ?_, h4, h5⟩, fun T hT => ?_, fun b xs nb e => ?_, fun b e => ?_⟩
  · rw [upd_ne (Ne.symm ne)]
    exact h1
  · rw [upd_ne nc]
    exact h3
  · obtain ⟨ps, g1, g2⟩ := tg T hT
    refine ⟨ps, ?_, g2⟩
    rw [upd_ne (fun z => by rw [z, hD] at g1; cases g1)]
    exact g1
  · rw [upd_ne (fun z => by rw [z, n] at e; cases e)]
    exact kl b xs nb e
  · by_cases z : b = D
    · rw [z]
      exact n
    · rw [upd_ne z] at e
      exact kn b e
def GoodS (zs : List Str) : Prop := ∀ z ∈ zs, z.length ≤ 120 ∧ ok3 z
theorem GoodS.snoc {zs : List Str} {z : Str} (h : GoodS zs) (h1 : z.length ≤ 120) (h2 : ok3 z) : GoodS (zs ++ [z]) := fun y hy => by
  rw [List.mem_append, List.mem_singleton] at hy
  rcases hy with hy | rfl
  · exact h y hy
  · exact ⟨h1, h2⟩
theorem GoodS.app {zs ys : List Str} (h : GoodS zs) (g : GoodS ys) : GoodS (zs ++ ys) := fun y hy => by
  rw [List.mem_append] at hy
  exact hy.elim (h y) (g y)
theorem GoodS.perm {zs ys : List Str} (h : GoodS zs) (g : ys.Perm zs) : GoodS ys := fun y hy => h y (g.mem_iff.mp hy)
theorem cutV_strs (zs : List Str) (lo hi : Option Int) : ∃ c : List Str, cutV (zs.map V.str) lo hi = c.map V.str ∧ (∀ z ∈ c, z ∈ zs) ∧ c.length ≤ zs.length := by
  unfold cutV
  rw [← List.map_drop, ← List.map_take]
  refine ⟨_, rfl, fun z hz => List.mem_of_mem_drop (List.mem_of_mem_take hz), ?_⟩
  rw [List.length_take, List.length_drop]
  omega
theorem names_eq (zs : List Str) (m : Int) : nmsD (.tup (zs.map Dd.str)) m (m + 3) = ((zs.all nm && asc zs) && (decide (m ≤ (zs.length : Int)) && decide ((zs.length : Int) ≤ m + 3))) := by
  show (decide (m ≤ (((zs.map Dd.str).length : Nat) : Int)) && decide ((((zs.map Dd.str).length : Nat) : Int) ≤ m + 3) && ((zs.map Dd.str).all nmD && asc (strsD (zs.map Dd.str)))) = _
  rw [List.length_map, strsD_map, List.all_map, Bool.and_comm]
  rfl
theorem slen (x y : Str) : (x ++ y).length = x.length + y.length := by
  rw [TL.len_tl, TL.tl_append, List.length_append, ← TL.len_tl, ← TL.len_tl]
def spLaw (K : PySem.W.Frag) (Ts : List Addr) : Sp := fun vs H Q _ => ∃ (a : Addr) (ns : List Int), vs = [.ref a] ∧ SqL K H a (ns.map V.int) ∧ ns.length ≤ 63 ∧ TG Ts H ∧ ∀ H', Q (.bl true) H'
theorem ok_law (T : Txt K mg OR MA NT RE TM) (BF : Tbl K mg base "is_figures" s_is_figures FT) (BN : Tbl K mg base "is_name" s_is_name NM) (BA : Tbl K mg base "is_ascending" s_is_ascending AS) (BS : Tbl K mg base "is_names" s_is_names NS)
    (hF : FT ∈ Ts) (hN : NM ∈ Ts) (hA : AS ∈ Ts) (hS : NS ∈ Ts) : Prom P w K mg base CX0 5 "law" ["script"] (spLaw K Ts) := by
  have nd := sc_law.nd
  have pr__law_open := ok_law_open (P := P) (w := w) (base := base) T
  have pr__law_draw := ok_law_draw (P := P) (w := w) (base := base) T
  have pr__law_wide := ok_law_wide (P := P) (w := w) (base := base) T
  have pr__law_text := ok_law_text (P := P) (w := w) (base := base) T
  have pr__law_of := ok_law_of (P := P) (w := w) (base := base) T
  have pr__law_names := ok_law_names (P := P) (w := w) (base := base) T
  have pr__law_same := ok_law_same (P := P) (w := w) (base := base) T
  have pr__law_line := ok_law_line (P := P) (w := w) (base := base) T
  have pr__law_read := ok_law_read (P := P) (w := w) (base := base) T
  have pr__law_numbers := ok_law_numbers (P := P) (w := w) (base := base) (Ts := Ts) T BF hF
  have pr__law_number := ok_law_number (P := P) (w := w) (base := base) (Ts := Ts) T BF hF
  have pr_is_name := ok_is_name (P := P) (w := w) (base := base) (Ts := Ts) T BN hN
  have pr_is_names := ok_is_names (P := P) (w := w) (base := base) (Ts := Ts) T BS BA BN hS hA hN
  have pr_is_word := ok_is_word (P := P) (w := w) (base := base) T
  have pr_is_number := ok_is_number (P := P) (w := w) (base := base) T
  refine T.d_law.ok sc_law bi_law (fun vs H Q E h => ?_) (fun f cdv A outer s H vs Q E hr h => ?_)
  · obtain ⟨a, ns, rfl, _⟩ := h
    rfl
  · obtain ⟨a, ns, rfl, hSq, hlen, tg, q⟩ := h
    refine ⟨_, (pss_cons (ps_set (i := 1) nd rfl (Or.inr rfl) (pcall hr pr__law_open (pa_cons (pv 0) pa_nil)))
    (pss_cons (ps_set (i := 2) nd rfl (Or.inr rfl) pe_str)
    (Evl.pss_cut (ps_for PassesOwn.never rfl (pi_range1 (by rfl) T.b_range (pa_cons (pe_op op_add pe_int (pcall hr pr__law_draw (pa_cons (pv 1) (pa_cons pe_int pa_nil)))) pa_nil)) (pg_name (i := 3) nd rfl (Or.inl rfl)) (Evl.pss_cut (ps_setLc (i := 4) (own := [("k", 15)]) (g := gName 15) (by rfl) nd rfl rfl (sw_true rfl rfl rfl (by decide +kernel)) (pi_range1 (by rfl) T.b_range (pa_cons (pcall hr pr__law_draw (pa_cons (pv 1) (pa_cons pe_int pa_nil))) pa_nil)) (blkOk_by (own := [("k", 15)]) (N := N_law) (sc := defScope s_law) (by decide +kernel)) (fun _ _ _ _ _ => (pg_name (i := 15) nd rfl (Or.inl rfl))) (fun _ _ _ _ _ => pts_nil) (fun _ _ _ _ _ => (pcall hr pr__law_text (pa_cons (pv 1) (pa_cons pe_int pa_nil)))))
    (Evl.pss_cut (ps_setLc (i := 5) (own := [("k", 15)]) (g := gName 15) (by rfl) nd rfl rfl (sw_true rfl rfl rfl (by decide +kernel)) (pi_range1 (by rfl) T.b_range (pa_cons (pe_ix ix_list (pe_lst (pa_cons (pcall hr pr__law_draw (pa_cons (pv 1) (pa_cons pe_int pa_nil))) (pa_cons (pe_op op_add pe_int (pcall hr pr__law_draw (pa_cons (pv 1) (pa_cons pe_int pa_nil)))) pa_nil))) (pcall hr pr__law_draw (pa_cons (pv 1) (pa_cons pe_int pa_nil))) (fun _ _ => rfl)) pa_nil)) (blkOk_by (own := [("k", 15)]) (N := N_law) (sc := defScope s_law) (by decide +kernel)) (fun _ _ _ _ _ => (pg_name (i := 15) nd rfl (Or.inl rfl))) (fun _ _ _ _ _ => pts_nil) (fun _ _ _ _ _ => (pcall hr pr__law_text (pa_cons (pv 1) (pa_cons pe_int pa_nil)))))
    (Evl.pss_cut (ps_for PassesOwn.never rfl (pi_list (pe_op op_cat (pv 4) (pv 5))) (pg_name (i := 6) nd rfl (Or.inl rfl)) (pss_cons (ps_if (pt_not (pt_val (pcall hr pr__law_same (pa_cons (pcall hr pr_is_name (pa_cons (pv 6) pa_nil)) (pa_cons (pcall hr pr__law_of (pa_cons (pv 6) (pa_cons (pe_slice sl_str (pv 2) po_none (po_some pe_int)) (pa_cons pe_int (pa_cons pe_int pa_nil))))) pa_nil))))) (pss_one (ps_ret pe_bl)) pss_nil)
    (pss_one (ps_if (pt_not (pt_val (pcall hr pr__law_same (pa_cons (pcall hr pr_is_word (pa_cons (pv 6) pa_nil)) (pa_cons (pcall hr pr__law_of (pa_cons (pv 6) (pa_cons (pv 2) (pa_cons pe_int (pa_cons pe_int pa_nil))))) pa_nil))))) (pss_one (ps_ret pe_bl)) pss_nil))))
    (pss_cons (ps_set (i := 7) nd rfl (Or.inl rfl) (pcall hr pr__law_draw (pa_cons (pv 1) (pa_cons pe_int pa_nil))))
    (Evl.pss_cut (ps_for PassesOwn.never rfl (pi_list (pe_lst (pa_cons (pv 4) (pa_cons (pe_callB cr_sortedS (by rfl) T.b_sorted (by decide +kernel) (pa_cons (pv 4) pa_nil)) (pa_cons (pe_callB cr_sortedS (by rfl) T.b_sorted (by decide +kernel) (pa_cons (pe_op op_cat (pv 4) (pe_slice sl_list (pv 4) po_none (po_some pe_int))) pa_nil)) (pa_cons (pv 5) pa_nil)))))) (pg_name (i := 8) nd rfl (Or.inl rfl)) (Evl.pss_cut (ps_set (i := 9) nd rfl (Or.inl rfl) (pe_and (pcall hr pr__law_names (pa_cons (pv 8) pa_nil)) (pe_one (pe_chain op_le op_le (pv 7) (pe_callB call_len_seq (by rfl) T.b_len (by decide +kernel) (pa_cons (pv 8) pa_nil)) (pe_op op_add (pv 7) pe_int)))))
    (pss_one (ps_if (PW.pt (pw_or (pt_not (pt_val (pcall hr pr__law_same (pa_cons (pcall hr pr_is_names (pa_cons (pe_callTy call_tuple_of (by rfl) T.b_tuple (by decide +kernel) (pa_cons (pv 8) pa_nil)) (pa_cons (pv 7) (pa_cons (pe_op op_add (pv 7) pe_int) pa_nil)))) (pa_cons (pv 9) pa_nil))))) (pw_or1 (pt_cmpR op_notBl (pcall hr pr_is_names (pa_cons (pv 8) (pa_cons pe_int (pa_cons pe_int pa_nil)))) pe_bl (nomark _))))) (pss_one (ps_ret pe_bl)) pss_nil))))
    (Evl.pss_cut (ps_set (i := 9) nd rfl (Or.inl rfl) (pe_and (pe_chain op_le op_le pe_int (pe_callB call_len_seq (by rfl) T.b_len (by decide +kernel) (pa_cons (pv 5) pa_nil)) pe_int) (pe_one (pe_cmpR op_notIn_seq pe_bl (pe_lc (own := [("word", 10)]) (g := gName 10) (by rfl) nd (pi_list (pv 5)) (blkOk_by (own := [("word", 10)]) (N := N_law) (sc := defScope s_law) (by decide +kernel)) (fun _ _ _ _ _ => (pg_name (i := 10) nd rfl (Or.inl rfl))) (fun _ _ _ _ _ => pts_nil) (fun _ _ _ _ _ => (pcall hr pr__law_of (pa_cons (pv 10) (pa_cons (pv 2) (pa_cons pe_int (pa_cons pe_int pa_nil))))))) (by rfl)))))
    (Evl.pss_cut (ps_if (PW.pt (pw_or (pt_not (pt_val (pcall hr pr__law_line (pa_cons (pv 5) (pa_cons (pv 9) pa_nil))))) (pw_or (pt_not (pt_val (pcall hr pr__law_read (pa_cons (pe_m1 PySem.F.slot_str_join PySem.F.type_str_join mt_join pe_str (pv 5)) pa_nil)))) (pw_or1 (pt_not (pt_val (pcall hr pr__law_read (pa_cons (pcall hr pr__law_text (pa_cons (pv 1) (pa_cons pe_int pa_nil))) pa_nil)))))))) (pss_one (ps_ret pe_bl)) pss_nil)
    (pss_cons (ps_set (i := 11) nd rfl (Or.inl rfl) (pcall hr pr__law_wide (pa_cons (pv 1) (pa_cons (pe_ix ix_list (pe_lst (pa_cons pe_int (pa_cons pe_int (pa_cons (pe_op op_pow pe_int pe_int) (pa_cons (pe_op op_pow pe_int pe_int) pa_nil))))) (pcall hr pr__law_draw (pa_cons (pv 1) (pa_cons pe_int pa_nil))) (fun _ _ => rfl)) pa_nil))))
    (Evl.pss_cut (ps_for PassesOwn.never rfl (pi_list (pe_lst (pa_cons (pv 11) (pa_cons (pe_un un_neg (pv 11)) (pa_cons (pe_op op_sub (pe_op op_pow pe_int pe_int) pe_int) (pa_cons (pe_op op_pow pe_int pe_int) (pa_cons (pe_op op_sub pe_int (pe_op op_pow pe_int pe_int)) (pa_cons (pe_un un_neg (pe_op op_pow pe_int pe_int)) (pa_cons pe_int pa_nil))))))))) (pg_name (i := 12) nd rfl (Or.inl rfl)) (pss_one (ps_if (PW.pt (pw_or (pt_not (pt_val (pcall hr pr__law_numbers (pa_cons (pv 12) pa_nil)))) (pw_or1 (pt_not (pt_val (pcall hr pr__law_same (pa_cons (pcall hr pr_is_number (pa_cons (pv 12) (pa_cons (pe_un un_neg pe_int) (pa_cons (pv 11) pa_nil)))) (pa_cons (pe_chain op_le op_le (pe_un un_neg pe_int) (pv 12) (pv 11)) pa_nil)))))))) (pss_one (ps_ret pe_bl)) pss_nil)))
    (pss_cons (ps_set (i := 10) nd rfl (Or.inl rfl) (pe_joined1 (pe_fmt (pv 11))))
    (pss_cons (ps_set (i := 13) nd rfl (Or.inl rfl) (pcall hr pr__law_draw (pa_cons (pv 1) (pa_cons (pe_op op_add (pe_callB call_len_str (by rfl) T.b_len (by decide +kernel) (pa_cons (pv 10) pa_nil)) pe_int) pa_nil))))
    (pss_one (ps_for PassesOwn.never rfl (pi_list (pe_lst (pa_cons (pv 10) (pa_cons (pe_op op_add_str pe_str (pv 10)) (pa_cons (pe_op op_add_str pe_str (pv 10)) (pa_cons (pe_op op_add_str (pe_op op_add_str (pe_slice sl_str (pv 10) po_none (po_some (pv 13))) (pe_ix ix_str pe_str (pcall hr pr__law_draw (pa_cons (pv 1) (pa_cons pe_int pa_nil))) (fun _ _ => rfl))) (pe_slice sl_str (pv 10) (po_some (pv 13)) po_none)) (pa_cons (pe_op op_add_str (pe_slice sl_str (pv 10) po_none (po_some (pv 13))) (pe_slice sl_str (pv 10) (po_some (pe_op op_add (pv 13) pe_int)) po_none)) (pa_cons (pe_op op_add_str (pv 10) pe_str) (pa_cons (pe_op op_add_str pe_str (pv 10)) (pa_cons pe_str (pa_cons pe_str pa_nil))))))))))) (pg_name (i := 12) nd rfl (Or.inl rfl)) (pss_one (ps_if (pt_not (pt_val (pcall hr pr__law_number (pa_cons (pv 12) pa_nil)))) (pss_one (ps_ret pe_bl)) pss_nil))))))))))))))))
    (Evl.pss_cut (ps_for PassesOwn.never rfl (pi_list (pe_lst (pa_cons pe_non (pa_cons pe_bl (pa_cons pe_int (pa_cons (pe_tup (pa_cons pe_str pa_nil)) (pa_cons (pe_lst (pa_cons pe_str pa_nil)) (pa_cons (pe_tup (pa_cons pe_str (pa_cons pe_int pa_nil))) pa_nil)))))))) (pg_name (i := 14) nd rfl (Or.inl rfl)) (pss_one (ps_if (PW.pt (pw_or (pt_cmpR op_notBl (pcall hr pr_is_name (pa_cons (pv 14) pa_nil)) pe_bl (nomark _)) (pw_or (pt_cmpR op_notBl (pcall hr pr_is_word (pa_cons (pv 14) pa_nil)) pe_bl (nomark _)) (pw_or1 (pt_cmpR op_notBl (pcall hr pr_is_names (pa_cons (pv 14) (pa_cons pe_int (pa_cons pe_int pa_nil)))) pe_bl (nomark _)))))) (pss_one (ps_ret pe_bl)) pss_nil)))
    (Evl.pss_cut (ps_for PassesOwn.never rfl (pi_list (pe_lst (pa_cons (pe_lst (pa_cons pe_str (pa_cons pe_non pa_nil))) (pa_cons (pe_lst (pa_cons pe_int pa_nil)) (pa_cons (pe_lst (pa_cons (pe_tup (pa_cons pe_str pa_nil)) pa_nil)) (pa_cons (pe_lst (pa_cons (pe_lst (pa_cons pe_str pa_nil)) pa_nil)) (pa_cons (pe_lst (pa_cons pe_str (pa_cons pe_bl pa_nil))) pa_nil))))))) (pg_name (i := 5) nd rfl (Or.inl rfl)) (pss_one (ps_if (pt_not (pt_val (pcall hr pr__law_line (pa_cons (pv 5) (pa_cons pe_bl pa_nil))))) (pss_one (ps_ret pe_bl)) pss_nil)))
    (pss_one (ps_ret (pe_and (pe_cmpR op_isBl (pcall hr pr_is_number (pa_cons pe_bl (pa_cons pe_int (pa_cons pe_int pa_nil)))) pe_bl (nomark _)) (pe_and (pe_cmpR op_isBl (pcall hr pr_is_number (pa_cons pe_str (pa_cons pe_int (pa_cons pe_int pa_nil)))) pe_bl (nomark _)) (pe_one (pe_cmpR op_isBl (pcall hr pr_is_number (pa_cons pe_non (pa_cons pe_int (pa_cons pe_int pa_nil)))) pe_bl (nomark _)))))))))))), ?_⟩
    refine ⟨_, rfl, a, ns, rfl, hSq, hlen, fun d H1 s1 n1 d1 => ?_⟩
    have tg1 := tg.same s1
    refine ⟨fun σ2 H2 => (∃ v3 v4 v5 v6 v7 v8 v9 v10 v11 v12 v13 v14 v15 : Option V, σ2 = [some (.ref a), some (.ref d), some (.str WS), v3, v4, v5, v6, v7, v8, v9, v10, v11, v12, v13, v14, v15]) ∧ Drs H2 d ∧ TG Ts H2, ?_, ?_⟩
    · refine ⟨_, rfl, d, 3, rfl, by decide, by decide +kernel, d1, fun r0 H2 r00 r01 bt2 d2 => ⟨_, _, rfl, rfl, _, rfl, by omega, by omega, for_range (n := (1 + r0).toNat) (fun i σ' H' => (∃ v3 v4 v5 v6 v7 v8 v9 v10 v11 v12 v13 v14 v15 : Option V, σ' = [some (.ref a), some (.ref d), some (.str WS), v3, v4, v5, v6, v7, v8, v9, v10, v11, v12, v13, v14, v15]) ∧ Drs H' d ∧ TG Ts H')
        ⟨⟨none, none, none, none, none, none, none, none, none, none, none, none, none, rfl⟩, d2, TG.but tg1 d1 bt2⟩ ?_ ?_⟩⟩
      · rintro i σ' H' hi ⟨⟨v3, v4, v5, v6, v7, v8, v9, v10, v11, v12, v13, v14, v15, rfl⟩, dH, tgH⟩
        have k0 := Kp.refl dH tgH
        refine ⟨fun σ2 H2 => ∃ (A1 : Addr) (zs1 : List Str), σ2 = [some (.ref a), some (.ref d), some (.str WS), some (.int (0 + (i : Int))), some (.ref A1), v5, v6, v7, v8, v9, v10, v11, v12, v13, v14, v15] ∧ Kp d Ts H' H2 ∧ A1 ≠ d ∧ H2 A1 = some (.lst (zs1.map V.str)) ∧ GoodS zs1 ∧ zs1.length ≤ 4, ?_, ?_⟩
        · refine ⟨_, rfl, d, 5, rfl, by decide, by decide +kernel, dH, fun r1 H2 r10 r11 bt2 d2 => ?_⟩
          have k2 := k0.but bt2 d2
          refine ⟨_, rfl, by omega, by omega, fun D nD => lc_range (lo := 0) (n := r1.toNat) (fun i H' => Kp d Ts H2 H' ∧ ∃ zs : List Str, H' D = some (.lst (zs.map V.str)) ∧ zs.length = i ∧ GoodS zs)
            ⟨(Kp.refl d2 k2.tg).same (same_new nD), [], upd_same, rfl, fun z hz => nomatch hz⟩ ?_ ?_⟩
          · rintro i H3 hi ⟨k3, zs, hD, hl, hg⟩
            have nDd := d2.none nD
            refine ⟨rfl, lcy ⟨_, rfl, d, 18, rfl, by decide, by decide, k3.drs, fun z H4 hz oz bt4 d4 => ?_⟩⟩
            have hD4 := bt4 D _ nDd hD
            refine ⟨_, hD4, by rw [List.length_map]; exact Nat.lt_of_le_of_lt (show zs.length ≤ 5 by omega) (by decide), ?_⟩
            exact ⟨(k3.but bt4 d4).put nD nDd hD4, zs ++ [z], by rw [upd_same, List.map_append]; rfl, by rw [List.length_append, hl]; rfl, hg.snoc hz oz⟩
          · rintro H3 ⟨k3, zs, hD, hl, hg⟩
            exact ⟨D, zs, rfl, k2.trans k3, d2.none nD, hD, hg, by omega⟩
        · rintro σ2 H2 ⟨A1, zs1, rfl, k2, ne1, hA1, g1, l1⟩
          refine ⟨fun σ3 H3 => ∃ (A2 : Addr) (zs2 : List Str), σ3 = [some (.ref a), some (.ref d), some (.str WS), some (.int (0 + (i : Int))), some (.ref A1), some (.ref A2), v6, v7, v8, v9, v10, v11, v12, v13, v14, v15] ∧ Kp d Ts H2 H3 ∧ A2 ≠ d ∧ H3 A2 = some (.lst (zs2.map V.str)) ∧ GoodS zs2 ∧ zs2.length ≤ 22, ?_, ?_⟩
          · refine ⟨_, rfl, d, 4, rfl, by decide, by decide +kernel, k2.drs, fun r1 H3 r10 r11 bt3 d3 => ⟨_, rfl, d, 22, rfl, by decide, by decide +kernel, d3, fun r2 H4 r20 r21 bt4 d4 => ⟨_, _, rfl, rfl, by show 2 ≤ sizeLine; decide, fun L nL => ?_⟩⟩⟩
            have s5 := same_new (o := HO.lst [V.int r1, V.int (1 + r2)]) nL
            have hL : upd H4 L (HO.lst [V.int r1, V.int (1 + r2)]) L = some (.lst [V.int r1, V.int (1 + r2)]) := upd_same
            generalize upd H4 L (HO.lst [V.int r1, V.int (1 + r2)]) = H5 at s5 hL
            have k5 := (((Kp.refl k2.drs k2.tg).but bt3 d3).but bt4 d4).same s5
            refine ⟨_, rfl, d, 2, rfl, by decide, by decide +kernel, k5.drs, fun r3 H6 r30 r31 bt6 d6 => ?_⟩
            have hL6 := bt6 L _ (d4.none nL) hL
            have hw : ∃ m : Int, atI [V.int r1, V.int (1 + r2)] r3 = some (.int m) ∧ 0 ≤ m ∧ m ≤ 22 := by
              have h4 : r3 = 0 ∨ r3 = 1 := by omega
              rcases h4 with rfl | rfl <;> exact ⟨_, rfl, by omega, by omega⟩
            obtain ⟨m, hm, m0, m1⟩ := hw
            have k6 := k5.but bt6 d6
            refine ⟨L, _, _, _, rfl, rfl, SqL.of hL6, hm, _, rfl, by omega, by omega, fun D nD => lc_range (lo := 0) (n := m.toNat) (fun i H' => Kp d Ts H6 H' ∧ ∃ zs : List Str, H' D = some (.lst (zs.map V.str)) ∧ zs.length = i ∧ GoodS zs)
              ⟨(Kp.refl d6 k6.tg).same (same_new nD), [], upd_same, rfl, fun z hz => nomatch hz⟩ ?_ ?_⟩
            · rintro i H7 hi ⟨k7, zs, hD, hl, hg⟩
              have nDd := d6.none nD
              refine ⟨rfl, lcy ⟨_, rfl, d, 42, rfl, by decide, by decide, k7.drs, fun z H8 hz oz bt8 d8 => ?_⟩⟩
              have hD8 := bt8 D _ nDd hD
              refine ⟨_, hD8, by rw [List.length_map]; exact Nat.lt_of_le_of_lt (show zs.length ≤ 22 by omega) (by decide), ?_⟩
              exact ⟨(k7.but bt8 d8).put nD nDd hD8, zs ++ [z], by rw [upd_same, List.map_append]; rfl, by rw [List.length_append, hl]; rfl, hg.snoc hz oz⟩
            · rintro H7 ⟨k7, zs, hD, hl, hg⟩
              exact ⟨D, zs, rfl, k6.trans k7, d6.none nD, hD, hg, by omega⟩
          · rintro σ3 H3 ⟨A2, zs2, rfl, k3, ne2, hA2, g2, l2⟩
            have hA1 := k3.ls _ _ ne1 hA1
            have k3 := k2.trans k3
            have big : (100000 : Nat) ≤ sizeLine := by decide
            have ll1 : (zs1.map V.str).length = zs1.length := List.length_map ..
            have ll2 : (zs2.map V.str).length = zs2.length := List.length_map ..
            refine ⟨fun σ4 H4 => ∃ v6 : Option V, σ4 = [some (.ref a), some (.ref d), some (.str WS), some (.int (0 + (i : Int))), some (.ref A1), some (.ref A2), v6, v7, v8, v9, v10, v11, v12, v13, v14, v15] ∧ Kp d Ts H3 H4, ?_, ?_⟩
            · refine ⟨_, rfl, _, rfl, A1, A2, _, _, rfl, rfl, hA1, hA2, by rw [ll1, ll2]; omega, fun A3 n3 => ?_⟩
              rw [← List.map_append]
              have s4 := same_new (o := HO.lst ((zs1 ++ zs2).map V.str)) n3
              have hA3 : upd H3 A3 (HO.lst ((zs1 ++ zs2).map V.str)) A3 = some (.lst ((zs1 ++ zs2).map V.str)) := upd_same
              generalize upd H3 A3 (HO.lst ((zs1 ++ zs2).map V.str)) = H4 at s4 hA3
              have k4 := (Kp.refl k3.drs k3.tg).same s4
              have ne3 := k3.drs.none n3
              have g3 := g1.app g2
              refine ⟨A3, rfl, ⟨_, SqL.of hA3⟩, for_list (xs := (zs1 ++ zs2).map V.str) (fun j σ' H' => (∃ v6 : Option V, σ' = [some (.ref a), some (.ref d), some (.str WS), some (.int (0 + (i : Int))), some (.ref A1), some (.ref A2), v6, v7, v8, v9, v10, v11, v12, v13, v14, v15]) ∧ Kp d Ts H4 H')
                ⟨⟨_, rfl⟩, Kp.refl k4.drs k4.tg⟩ (fun _ _ H' _ ⟨_, k⟩ => SqL.of (k.ls _ _ ne3 hA3)) ?_ ?_⟩
              · rintro j x σ' H' hi ⟨⟨v6, rfl⟩, k5⟩
                rw [List.getElem?_map] at hi
                cases ht : (zs1 ++ zs2)[j]? with
                | none => rw [ht] at hi; cases hi
                | some z =>
                  rw [ht] at hi
                  obtain rfl := (Option.some.inj hi).symm
                  obtain ⟨hz, oz⟩ := g3 z (List.mem_of_getElem? ht)
                  have rz : ∀ H, Rep H (.str z) (.str z) := fun H => by
                    unfold Rep
                    rfl
                  have zl : ∀ y, Dd.str z = .str y → y.length ≤ sizeLine := fun y e => by
                    cases e
                    omega
                  have eL : cutS WS none (some 26) = LET := TL.ext_tl (by
                    have := cut_take WS 26
                    rw [show TL.tl (cutS WS none (some 26)) = _ from this]
                    decide +kernel)
                  refine ⟨_, rfl, .str z, .str z, rfl, rz _, zl, k5.tg, fun H5 s5 => ⟨_, rfl, _, rfl, 26, rfl, WS, rfl, by decide +kernel, z, _, 1, 16, rfl, by omega, _, _, rfl, ?_⟩⟩
                  rw [eL, show (nmD (.str z) == ofS LET 1 16 z) = true from beq_self_eq_true _]
                  refine ⟨_, rfl, iteF ?_⟩
                  have k6 := k5.st s5
                  refine ⟨_, rfl, .str z, .str z, rfl, rz _, zl, fun H6 s6 => ⟨_, rfl, _, rfl, z, WS, 1, 40, rfl, by omega, _, _, rfl, ?_⟩⟩
                  rw [show (wdD (.str z) == ofS WS 1 40 z) = true from beq_self_eq_true _]
                  exact ⟨_, rfl, iteF ⟨⟨_, rfl⟩, k6.same s6⟩⟩
              · rintro σ' H' ⟨⟨v6, rfl⟩, k5⟩
                exact ⟨v6, rfl, k4.trans k5⟩
            · rintro σ4 H4 ⟨v6, rfl, k4⟩
              have hA1 := k4.ls _ _ ne1 hA1
              have hA2 := k4.ls _ _ ne2 hA2
              have k4 := k3.trans k4
              refine ⟨_, rfl, d, 4, rfl, by decide, by decide +kernel, k4.drs, fun m H5 m0 m1 bt5 d5 => ?_⟩
              have hA1 := bt5 _ _ ne1 hA1
              have hA2 := bt5 _ _ ne2 hA2
              have k5 := k4.but bt5 d5
              refine ⟨fun σ6 H6 => ∃ v6 v8 v9 : Option V, σ6 = [some (.ref a), some (.ref d), some (.str WS), some (.int (0 + (i : Int))), some (.ref A1), some (.ref A2), v6, some (.int m), v8, v9, v10, v11, v12, v13, v14, v15] ∧ Kp d Ts H5 H6, ?_, ?_⟩
              · obtain ⟨c1, ec1, mc1, lc1⟩ := cutV_strs zs1 none (some 1)
                have gc1 : GoodS c1 := fun z hz => g1 z (mc1 z hz)
                refine ⟨_, rfl, _, rfl, A1, zs1, rfl, SqL.of hA1, by omega, fun ys1 p1 pm1 sd1 np1 => ?_⟩
                have s6 := same_new (o := HO.lst (ys1.map V.str)) np1
                have hp1 : upd H5 p1 (HO.lst (ys1.map V.str)) p1 = some (.lst (ys1.map V.str)) := upd_same
                generalize upd H5 p1 (HO.lst (ys1.map V.str)) = H6 at s6 hp1
                refine ⟨_, rfl, _, rfl, 1, rfl, A1, _, rfl, SqL.of (s6 _ _ hA1), fun p2 np2 => ?_⟩
                rw [ec1]
                have s7 := same_new (o := HO.lst (c1.map V.str)) np2
                have hp2 : upd H6 p2 (HO.lst (c1.map V.str)) p2 = some (.lst (c1.map V.str)) := upd_same
                generalize upd H6 p2 (HO.lst (c1.map V.str)) = H7 at s7 hp2
                refine ⟨A1, p2, _, _, rfl, rfl, s7 _ _ (s6 _ _ hA1), hp2, by rw [ll1, List.length_map]; omega, fun p3 np3 => ?_⟩
                rw [← List.map_append]
                have s8 := same_new (o := HO.lst ((zs1 ++ c1).map V.str)) np3
                have hp3 : upd H7 p3 (HO.lst ((zs1 ++ c1).map V.str)) p3 = some (.lst ((zs1 ++ c1).map V.str)) := upd_same
                generalize upd H7 p3 (HO.lst ((zs1 ++ c1).map V.str)) = H8 at s8 hp3
                refine ⟨p3, zs1 ++ c1, rfl, SqL.of hp3, by rw [List.length_append]; omega, fun ys3 p4 pm3 sd3 np4 => ?_⟩
                have s9 := same_new (o := HO.lst (ys3.map V.str)) np4
                have hp4 : upd H8 p4 (HO.lst (ys3.map V.str)) p4 = some (.lst (ys3.map V.str)) := upd_same
                generalize upd H8 p4 (HO.lst (ys3.map V.str)) = H9 at s9 hp4
                refine ⟨_, rfl, by show 4 ≤ sizeLine; decide, fun L nL => ?_⟩
                have sA := same_new (o := HO.lst [V.ref A1, V.ref p1, V.ref p4, V.ref A2]) nL
                have hL : upd H9 L (HO.lst [V.ref A1, V.ref p1, V.ref p4, V.ref A2]) L = some (.lst [V.ref A1, V.ref p1, V.ref p4, V.ref A2]) := upd_same
                generalize upd H9 L (HO.lst [V.ref A1, V.ref p1, V.ref p4, V.ref A2]) = HA at sA hL
                have s79 := (s7.trans s8).trans s9
                have s5A := (s6.trans s79).trans sA
                have kA := (Kp.refl k5.drs k5.tg).same s5A
                have neL : L ≠ d := (d5.same (s6.trans s79)).none nL
                have nep1 : p1 ≠ d := d5.none np1
                have nep4 : p4 ≠ d := (d5.same (s6.trans (s7.trans s8))).none np4
                have rows : ∀ (j : Nat) (x : V), [V.ref A1, V.ref p1, V.ref p4, V.ref A2][j]? = some x → ∃ (A : Addr) (zs : List Str), x = .ref A ∧ A ≠ d ∧ HA A = some (.lst (zs.map V.str)) ∧ GoodS zs ∧ zs.length ≤ 30 := fun j x hj => by
                  match j, hj with
                  | 0, hj => exact ⟨A1, zs1, (Option.some.inj hj).symm, ne1, s5A _ _ hA1, g1, by omega⟩
                  | 1, hj => exact ⟨p1, ys1, (Option.some.inj hj).symm, nep1, sA _ _ (s79 _ _ hp1), g1.perm pm1, by rw [pm1.length_eq]; omega⟩
                  | 2, hj => exact ⟨p4, ys3, (Option.some.inj hj).symm, nep4, sA _ _ hp4, (g1.app gc1).perm pm3, by rw [pm3.length_eq, List.length_append]; omega⟩
                  | 3, hj => exact ⟨A2, zs2, (Option.some.inj hj).symm, ne2, s5A _ _ hA2, g2, by omega⟩
                  | _ + 4, hj => cases hj
                refine ⟨L, rfl, ⟨_, SqL.of hL⟩, for_list (xs := [V.ref A1, V.ref p1, V.ref p4, V.ref A2]) (fun j σ' H' => (∃ v6 v8 v9 : Option V, σ' = [some (.ref a), some (.ref d), some (.str WS), some (.int (0 + (i : Int))), some (.ref A1), some (.ref A2), v6, some (.int m), v8, v9, v10, v11, v12, v13, v14, v15]) ∧ Kp d Ts HA H')
                  ⟨⟨_, _, _, rfl⟩, Kp.refl kA.drs kA.tg⟩ (fun _ _ H' _ ⟨_, k⟩ => SqL.of (k.ls _ _ neL hL)) ?_ ?_⟩
                · rintro j x σ' H' hj ⟨⟨v6, v8, v9, rfl⟩, kB⟩
                  obtain ⟨A, zs, rfl, neA, hA, gA, lA⟩ := rows j x hj
                  have hA := kB.ls _ _ neA hA
                  have llz : (zs.map V.str).length = zs.length := List.length_map ..
                  have zl : ∀ z ∈ zs, z.length ≤ sizeLine := fun z hz => by
                    have := (gA z hz).1
                    omega
                  have zl2 : ∀ z, Dd.str z ∈ zs.map Dd.str → z.length ≤ sizeLine := fun z hz => by
                    obtain ⟨y, hy, e⟩ := List.mem_map.mp hz
                    cases e
                    exact zl _ hy
                  refine ⟨fun σ7 H7 => σ7 = [some (.ref a), some (.ref d), some (.str WS), some (.int (0 + (i : Int))), some (.ref A1), some (.ref A2), v6, some (.int m), some (.ref A), some (.bl ((zs.all nm && asc zs) && (decide (m ≤ (zs.length : Int)) && decide ((zs.length : Int) ≤ m + 3)))), v10, v11, v12, v13, v14, v15] ∧ H7 = H', ?_, ?_⟩
                  · refine ⟨_, rfl, A, zs, rfl, hA, by omega, zl, ⟨_, rfl, ?_⟩⟩
                    cases b1 : (zs.all nm && asc zs) with
                    | false => exact iteF ⟨rfl, rfl⟩
                    | true =>
                      refine iteT ?_
                      refine ⟨_, rfl, _, rfl, A, _, rfl, .inl (SqL.of hA), ?_⟩
                      rw [llz]
                      refine ⟨_, _, rfl, rfl, decide (m ≤ (zs.length : Int)), rfl, ?_⟩
                      cases b2 : decide (m ≤ (zs.length : Int)) with
                      | false => exact iteF ⟨rfl, rfl⟩
                      | true =>
                        refine iteT ⟨_, rfl, _, _, rfl, rfl, _, _, rfl, rfl, ?_⟩
                        exact ⟨rfl, rfl⟩
                  · rintro σ7 H7 ⟨rfl, rfl⟩
                    refine ⟨_, rfl, A, _, rfl, .inl ⟨SqL.of hA, fun Tp nTp => ?_⟩⟩
                    have sT := same_new (o := HO.tup (zs.map V.str)) nTp
                    have hTp : upd H7 Tp (HO.tup (zs.map V.str)) Tp = some (.tup (zs.map V.str)) := upd_same
                    generalize upd H7 Tp (HO.tup (zs.map V.str)) = H8' at sT hTp
                    have kC := kB.same sT
                    refine ⟨_, rfl, _, rfl, _, _, rfl, rfl, .ref Tp, .tup (zs.map Dd.str), m, m + 3, rfl, ?_, fun ds e => by cases e; exact zl2, kC.tg, fun H9' st9 => ⟨_, rfl, _, _, rfl, ?_⟩⟩
                    · unfold Rep
                      exact ⟨by rw [List.length_map]; omega, Tp, _, rfl, hTp, repL_strs zs⟩
                    rw [names_eq, beq_self_eq_true]
                    have kD := kC.st st9
                    have hA9 := st9.lst (sT _ _ hA)
                    refine ⟨_, rfl, iteF ⟨_, rfl, .ref A, .lst (zs.map Dd.str), 0, 30, rfl, ?_, fun ds e => (nomatch e), kD.tg, fun HE stE => ⟨_, _, rfl, rfl, _, rfl, iteF ⟨⟨_, _, _, rfl⟩, kD.st stE⟩⟩⟩⟩
                    unfold Rep
                    exact ⟨by rw [List.length_map]; omega, A, _, rfl, hA9, repL_strs zs⟩
                · rintro σ' H' ⟨⟨v6, v8, v9, rfl⟩, kB⟩
                  exact ⟨v6, v8, v9, rfl, kA.trans kB⟩
              · rintro σ6 H6 ⟨v6, v8, v9, rfl, k6⟩
                have hA2 := k6.ls _ _ ne2 hA2
                have k6 := k5.trans k6
                have zl2 : ∀ z ∈ zs2, z.length ≤ 120 := fun z hz => (g2 z hz).1
                have ew : wdsD (zs2.map Dd.str) = ((decide ((1 : Int) ≤ (zs2.length : Int)) && decide ((zs2.length : Int) ≤ 20)) && zs2.all wd) := by
                  unfold wdsD
                  rw [List.length_map, List.all_map]
                  rfl
                refine ⟨fun σ7 H7 => ∃ v6 v8 : Option V, σ7 = [some (.ref a), some (.ref d), some (.str WS), some (.int (0 + (i : Int))), some (.ref A1), some (.ref A2), v6, some (.int m), v8, some (.bl (wdsD (zs2.map Dd.str))), v10, v11, v12, v13, v14, v15] ∧ Same H6 H7, ?_, ?_⟩
                · rw [ew]
                  refine ⟨_, rfl, A2, _, rfl, .inl (SqL.of hA2), ?_⟩
                  rw [ll2]
                  refine ⟨_, _, rfl, rfl, decide ((1 : Int) ≤ (zs2.length : Int)), rfl, ?_⟩
                  cases b1 : decide ((1 : Int) ≤ (zs2.length : Int)) with
                  | false => exact iteF ⟨_, rfl, iteF ⟨v6, v8, rfl, Same.refl _⟩⟩
                  | true =>
                    refine iteT ⟨_, _, rfl, rfl, decide ((zs2.length : Int) ≤ 20), rfl, ?_⟩
                    cases b2 : decide ((zs2.length : Int) ≤ 20) with
                    | false => exact iteF ⟨v6, v8, rfl, Same.refl _⟩
                    | true =>
                      refine iteT ?_
                      refine ⟨_, rfl, A2, rfl, ⟨_, SqL.of hA2⟩, fun D nD => lc_list (K := K) (a := A2) (xs := zs2.map V.str) (fun i H' => Same H6 H' ∧ H' D = some (.lst (((zs2.take i).map wd).map V.bl)))
                        ⟨same_new nD, upd_same⟩ (fun i H' _ ⟨s, _⟩ => SqL.of (s _ _ hA2)) ?_ ?_⟩
                      · rintro i x H' hi ⟨sD, hD⟩
                        rw [List.getElem?_map] at hi
                        cases ht : zs2[i]? with
                        | none => rw [ht] at hi; cases hi
                        | some y =>
                          rw [ht] at hi
                          obtain rfl := (Option.some.inj hi).symm
                          have hy := zl2 y (List.mem_of_getElem? ht)
                          refine ⟨rfl, lcy ⟨_, rfl, _, rfl, y, WS, 1, 40, rfl, by omega, _, hD, by rw [List.length_map, List.length_map, List.length_take]; omega, ?_⟩⟩
                          refine ⟨same_put sD nD, ?_⟩
                          rw [upd_same, List.take_succ, ht, List.map_append, List.map_append]
                          rfl
                      · rintro H' ⟨sD, hD⟩
                        rw [List.take_of_length_le (by rw [ll2]; exact Nat.le_refl _)] at hD
                        refine ⟨D, _, rfl, .inl (SqL.of hD), rfl, flat_bls _, ?_⟩
                        have e : (if true = true then !inV (V.bl false) ((zs2.map wd).map V.bl) else inV (V.bl false) ((zs2.map wd).map V.bl)) = ((true && true) && zs2.all wd) := by
                          rw [if_pos rfl, inV_bls, List.all_map]
                          rfl
                        rw [e]
                        exact ⟨v6, v8, rfl, sD⟩
                · rintro σ7 H7 ⟨v6, v8, rfl, s7⟩
                  have hA2 := s7 _ _ hA2
                  have k7 := k6.same s7
                  have o2 : ∀ z ∈ zs2, ok3 z := fun z hz => (g2 z hz).2
                  refine ⟨fun σ8 H8 => σ8 = [some (.ref a), some (.ref d), some (.str WS), some (.int (0 + (i : Int))), some (.ref A1), some (.ref A2), v6, some (.int m), v8, some (.bl (wdsD (zs2.map Dd.str))), v10, v11, v12, v13, v14, v15] ∧ Kp d Ts H7 H8, ?_, ?_⟩
                  · have jl := join_len " " zl2
                    have e0 : (" " : Str).length = 1 := by decide +kernel
                    have s3 : zs2.length * (" " : Str).length = zs2.length := by rw [e0, Nat.mul_one]
                    have su := sum_len zl2
                    have osp : ok3 " " := fun c hc => by
                      rw [show TL.tl (" " : Str) = [32] by decide +kernel, List.mem_singleton] at hc
                      omega
                    refine ⟨_, rfl, _, rfl, A2, zs2.map Dd.str, _, rfl, hA2, repL_strs zs2, fun z hz => ?_, cmp_strs o2, fun H8 s8 => ⟨_, rfl, iteF ?_⟩⟩
                    · obtain ⟨y, hy, e⟩ := List.mem_map.mp hz
                      cases e
                      have := zl2 _ hy
                      omega
                    refine ⟨⟨_, rfl⟩, _, rfl, _, A2, zs2, rfl, rfl, .inl (SqL.of (s8 _ _ hA2)), by omega, Txt.join " " zs2, rfl, by omega, ok3_join osp o2, fun H9 s9 => ⟨_, rfl, iteF ?_⟩⟩
                    have k9 := ((Kp.refl k7.drs k7.tg).same s8).same s9
                    refine ⟨_, rfl, d, 44, rfl, by decide, by decide, k9.drs, fun z H10 hz oz bt10 d10 => ⟨z, rfl, by omega, oz, fun H11 s11 => ⟨_, rfl, iteF ⟨rfl, (k9.but bt10 d10).same s11⟩⟩⟩⟩
                  · rintro σ8 H8 ⟨rfl, k8⟩
                    have k8 := k7.trans k8
                    have cp20 : CPow 10 20 := ⟨by decide, by decide, by decide⟩
                    have cp22 : CPow 10 22 := ⟨by decide, by decide, by decide⟩
                    have e22 : (10 : Int) ^ (22 : Int).toNat = 10 ^ 22 := rfl
                    have e20 : (10 : Int) ^ (20 : Int).toNat = 10 ^ 20 := rfl
                    refine ⟨_, rfl, _, _, rfl, rfl, cp20, _, _, rfl, rfl, cp22, by show 4 ≤ sizeLine; decide, fun L nL => ?_⟩
                    have s9 := same_new (o := HO.lst [V.int 10, V.int 1000, V.int (10 ^ 20), V.int (10 ^ 22)]) nL
                    have hL : upd H8 L (HO.lst [V.int 10, V.int 1000, V.int (10 ^ 20), V.int (10 ^ 22)]) L = some (.lst [V.int 10, V.int 1000, V.int (10 ^ 20), V.int (10 ^ 22)]) := upd_same
                    have k9 := k8.same s9
                    have neL := k8.drs.none nL
                    refine ⟨_, rfl, d, 4, rfl, by decide, by decide +kernel, k9.drs, fun r9 H10 r90 r91 bt10 d10 => ?_⟩
                    have hL10 := bt10 L _ neL hL
                    have k10 := k9.but bt10 d10
                    have hw : ∃ sz : Int, atI [V.int 10, V.int 1000, V.int (10 ^ 20), V.int (10 ^ 22)] r9 = some (.int sz) ∧ 0 < sz ∧ sz ≤ 10 ^ 22 := by
                      have h4 : r9 = 0 ∨ r9 = 1 ∨ r9 = 2 ∨ r9 = 3 := by omega
                      rcases h4 with rfl | rfl | rfl | rfl <;> exact ⟨_, rfl, by decide +kernel, by decide +kernel⟩
                    obtain ⟨sz, hsz, sz0, sz1⟩ := hw
                    have e2260 : (10 : Int) ^ 22 ≤ 10 ^ 60 := by decide +kernel
                    refine ⟨L, _, _, _, rfl, rfl, SqL.of hL10, hsz, d, sz, rfl, sz0, Int.le_trans sz1 e2260, d10, fun n H11 n0 n1 bt11 d11 => ?_⟩
                    have k11 := k10.but bt11 d11
                    have hn22 : n < 10 ^ 22 := Int.lt_of_lt_of_le n1 sz1
                    have e30 : (10 : Int) ^ 30 = 100000000 * 10 ^ 22 := by decide +kernel
                    have e230 : (100 : Int) * 10 ^ 20 = 10 ^ 22 := by decide +kernel
                    have p20 : (0 : Int) < 10 ^ 20 := by decide +kernel
                    have nl : ∀ k : Int, -(10 ^ 22) ≤ k → k ≤ 10 ^ 22 → k.natAbs < 10 ^ 30 := fun k h1 h2 => by
                      have e : ((10 ^ 30 : Nat) : Int) = (10 : Int) ^ 30 := by decide +kernel
                      have : ((k.natAbs : Nat) : Int) < ((10 ^ 30 : Nat) : Int) := by
                        rw [e, e30]
                        omega
                      exact Int.ofNat_lt.mp this
                    refine ⟨fun σC HC => ∃ v12 : Option V, σC = [some (.ref a), some (.ref d), some (.str WS), some (.int (0 + (i : Int))), some (.ref A1), some (.ref A2), v6, some (.int m), v8, some (.bl (wdsD (zs2.map Dd.str))), v10, some (.int n), v12, v13, v14, v15] ∧ Kp d Ts H11 HC, ?_, ?_⟩
                    · refine ⟨_, rfl, _, rfl, n, rfl, _, _, rfl, rfl, cp20, _, _, rfl, rfl, _, _, rfl, rfl, cp20, _, _, rfl, rfl, cp20, _, _, rfl, rfl, _, _, rfl, rfl, cp20, _, rfl, by show 7 ≤ sizeLine; decide, fun L2 nL2 => ?_⟩
                      have sC := same_new (o := HO.lst [V.int n, V.int (-n), V.int (10 ^ 20 - 1), V.int (10 ^ 20), V.int (1 - 10 ^ 20), V.int (-10 ^ 20), V.int 0]) nL2
                      have hL2 : upd H11 L2 (HO.lst [V.int n, V.int (-n), V.int (10 ^ 20 - 1), V.int (10 ^ 20), V.int (1 - 10 ^ 20), V.int (-10 ^ 20), V.int 0]) L2 = some (.lst [V.int n, V.int (-n), V.int (10 ^ 20 - 1), V.int (10 ^ 20), V.int (1 - 10 ^ 20), V.int (-10 ^ 20), V.int 0]) := upd_same
                      have kC := (Kp.refl k11.drs k11.tg).same sC
                      have neL2 := d11.none nL2
                      have ones : ∀ (j : Nat) (x : V), [V.int n, V.int (-n), V.int (10 ^ 20 - 1), V.int (10 ^ 20), V.int (1 - 10 ^ 20), V.int (-10 ^ 20), V.int 0][j]? = some x → ∃ k : Int, x = .int k ∧ k.natAbs < 10 ^ 30 := fun j x hj => by
                        match j, hj with
                        | 0, hj => exact ⟨_, (Option.some.inj hj).symm, nl _ (by omega) (by omega)⟩
                        | 1, hj => exact ⟨_, (Option.some.inj hj).symm, nl _ (by omega) (by omega)⟩
                        | 2, hj => exact ⟨_, (Option.some.inj hj).symm, nl _ (by omega) (by omega)⟩
                        | 3, hj => exact ⟨_, (Option.some.inj hj).symm, nl _ (by omega) (by omega)⟩
                        | 4, hj => exact ⟨_, (Option.some.inj hj).symm, nl _ (by omega) (by omega)⟩
                        | 5, hj => exact ⟨_, (Option.some.inj hj).symm, nl _ (by omega) (by omega)⟩
                        | 6, hj => exact ⟨_, (Option.some.inj hj).symm, nl _ (by omega) (by omega)⟩
                        | _ + 7, hj => cases hj
                      refine ⟨L2, rfl, ⟨_, SqL.of hL2⟩, for_list (xs := [V.int n, V.int (-n), V.int (10 ^ 20 - 1), V.int (10 ^ 20), V.int (1 - 10 ^ 20), V.int (-10 ^ 20), V.int 0]) (fun j σ' H' => (∃ v12 : Option V, σ' = [some (.ref a), some (.ref d), some (.str WS), some (.int (0 + (i : Int))), some (.ref A1), some (.ref A2), v6, some (.int m), v8, some (.bl (wdsD (zs2.map Dd.str))), v10, some (.int n), v12, v13, v14, v15]) ∧ Kp d Ts (upd H11 L2 (HO.lst [V.int n, V.int (-n), V.int (10 ^ 20 - 1), V.int (10 ^ 20), V.int (1 - 10 ^ 20), V.int (-10 ^ 20), V.int 0])) H')
                        ⟨⟨_, rfl⟩, Kp.refl kC.drs kC.tg⟩ (fun _ _ H' _ ⟨_, k⟩ => SqL.of (k.ls _ _ neL2 hL2)) ?_ ?_⟩
                      · rintro j x σ' H' hj ⟨⟨v12, rfl⟩, kD⟩
                        obtain ⟨k, rfl, hk⟩ := ones j x hj
                        refine ⟨_, rfl, k, rfl, hk, kD.tg, fun HE stE => ⟨_, rfl, iteF ?_⟩⟩
                        have kE := kD.st stE
                        refine ⟨_, rfl, 5, rfl, _, rfl, .int k, .int k, -5, n, rfl, by unfold Rep; rfl, 5, rfl, _, rfl, _, _, rfl, rfl, decide (-5 ≤ k), rfl, ?_⟩
                        have ei : isNd (.int k) (-5) n = (decide (-5 ≤ k) && decide (k ≤ n)) := rfl
                        rw [ei]
                        cases b1 : decide (-5 ≤ k) with
                        | false => exact iteF ⟨_, _, rfl, _, rfl, iteF ⟨⟨_, rfl⟩, kE⟩⟩
                        | true =>
                          refine iteT ⟨_, rfl, _, _, rfl, rfl, _, _, rfl, ?_⟩
                          rw [Bool.true_and, beq_self_eq_true]
                          exact ⟨_, rfl, iteF ⟨⟨_, rfl⟩, kE⟩⟩
                      · rintro σ' H' ⟨⟨v12, rfl⟩, kD⟩
                        exact ⟨v12, rfl, kC.trans kD⟩
                    · rintro σC HC ⟨v12, rfl, kC⟩
                      have kC := k11.trans kC
                      refine ⟨_, rfl, .inr ⟨n, rfl, lg25 (Nat.lt_trans (nl n (by omega) (by omega)) (by decide +kernel)), ?_⟩⟩
                      have tw : TL.tl (Str.ofString (toString n)) = intL n := tl_int n
                      generalize Str.ofString (toString n) = ws at tw
                      have lws : ws.length ≤ 22 := by
                        rw [TL.len_tl, tw, intL_pos n0]
                        refine TL.numL_len (by decide) ?_
                        have e : ((10 ^ 22 : Nat) : Int) = (10 : Int) ^ 22 := by decide +kernel
                        have : ((n.natAbs : Nat) : Int) < ((10 ^ 22 : Nat) : Int) := by
                          rw [e]
                          omega
                        exact Int.ofNat_lt.mp this
                      have e100 : (100 : Int) ≤ 10 ^ 60 := by decide +kernel
                      refine ⟨_, rfl, _, rfl, ws, rfl, by omega, _, _, rfl, rfl, d, _, rfl, by omega, by omega, kC.drs, fun at_ HD t0 t1 btD dD => ?_⟩
                      have kD := kC.but btD dD
                      have l45 : ("-" : Str).length = 1 := by decide +kernel
                      have l48 : ("0" : Str).length = 1 := by decide +kernel
                      have l43 : ("+" : Str).length = 1 := by decide +kernel
                      have l32 : (" " : Str).length = 1 := by decide +kernel
                      have lm0 : ("-0" : Str).length = 2 := by decide +kernel
                      have le0 : ("" : Str).length = 0 := by decide +kernel
                      have q1 := cutS_length ws none (some at_)
                      have q2 := cutS_length ws (some at_) none
                      have q3 := cutS_length ws (some (at_ + 1)) none
                      refine ⟨_, rfl, _, rfl, _, _, rfl, rfl, by omega, _, rfl, _, _, rfl, rfl, by omega, _, rfl, _, rfl, at_, rfl, ws, rfl, by omega, _, rfl, d, 16, rfl, by decide, by decide +kernel, dD, fun r HE u0 u1 btE dE => ?_⟩
                      have kE := kD.but btE dE
                      have l16 : ("0123456789-+ ./a" : Str).length = 16 := by decide +kernel
                      obtain ⟨c, hc, _⟩ := get_str "0123456789-+ ./a" u0 (show r < (("0123456789-+ ./a" : Str).length : Int) by omega)
                      have lc : (⟨#[c]⟩ : Str).length = 1 := rfl
                      have lx : (cutS ws none (some at_) ++ (⟨#[c]⟩ : Str)).length ≤ 23 := by
                        rw [slen]
                        omega
                      refine ⟨_, r, c, rfl, rfl, by decide +kernel, hc, _, _, rfl, rfl, by rw [lc]; omega, _, rfl, _, rfl, at_, rfl, ws, rfl, by omega, _, _, rfl, rfl, by omega, ?_⟩
                      refine ⟨_, rfl, _, rfl, at_, rfl, ws, rfl, by omega, _, rfl, _, rfl, _, _, rfl, rfl, at_ + 1, rfl, ws, rfl, by omega, _, _, rfl, rfl, by omega, ?_⟩
                      refine ⟨_, rfl, _, _, rfl, rfl, by omega, _, rfl, _, _, rfl, rfl, by omega, by show 9 ≤ sizeLine; decide, fun L3 nL3 => ?_⟩
                      have sF : Same HE (upd HE L3 (HO.lst [V.str ws, V.str ("-" ++ ws), V.str ("0" ++ ws), V.str (cutS ws none (some at_) ++ (⟨#[c]⟩ : Str) ++ cutS ws (some at_) none), V.str (cutS ws none (some at_) ++ cutS ws (some (at_ + 1)) none), V.str (ws ++ " "), V.str ("+" ++ ws), V.str "-0", V.str ""])) := same_new nL3
                      have hL3 : (upd HE L3 (HO.lst [V.str ws, V.str ("-" ++ ws), V.str ("0" ++ ws), V.str (cutS ws none (some at_) ++ (⟨#[c]⟩ : Str) ++ cutS ws (some at_) none), V.str (cutS ws none (some at_) ++ cutS ws (some (at_ + 1)) none), V.str (ws ++ " "), V.str ("+" ++ ws), V.str "-0", V.str ""])) L3 = some (.lst [V.str ws, V.str ("-" ++ ws), V.str ("0" ++ ws), V.str (cutS ws none (some at_) ++ (⟨#[c]⟩ : Str) ++ cutS ws (some at_) none), V.str (cutS ws none (some at_) ++ cutS ws (some (at_ + 1)) none), V.str (ws ++ " "), V.str ("+" ++ ws), V.str "-0", V.str ""]) := upd_same
                      have kF := (Kp.refl kE.drs kE.tg).same sF
                      have neL3 := dE.none nL3
                      have ones : ∀ (j : Nat) (x : V), [V.str ws, V.str ("-" ++ ws), V.str ("0" ++ ws), V.str (cutS ws none (some at_) ++ (⟨#[c]⟩ : Str) ++ cutS ws (some at_) none), V.str (cutS ws none (some at_) ++ cutS ws (some (at_ + 1)) none), V.str (ws ++ " "), V.str ("+" ++ ws), V.str "-0", V.str ""][j]? = some x → ∃ s : Str, x = .str s ∧ s.length ≤ 300 := fun j x hj => by
                        match j, hj with
                        | 0, hj => exact ⟨_, (Option.some.inj hj).symm, by omega⟩
                        | 1, hj => exact ⟨_, (Option.some.inj hj).symm, by rw [slen]; omega⟩
                        | 2, hj => exact ⟨_, (Option.some.inj hj).symm, by rw [slen]; omega⟩
                        | 3, hj => exact ⟨_, (Option.some.inj hj).symm, by rw [slen]; omega⟩
                        | 4, hj => exact ⟨_, (Option.some.inj hj).symm, by rw [slen]; omega⟩
                        | 5, hj => exact ⟨_, (Option.some.inj hj).symm, by rw [slen]; omega⟩
                        | 6, hj => exact ⟨_, (Option.some.inj hj).symm, by rw [slen]; omega⟩
                        | 7, hj => exact ⟨_, (Option.some.inj hj).symm, by omega⟩
                        | 8, hj => exact ⟨_, (Option.some.inj hj).symm, by omega⟩
                        | _ + 9, hj => cases hj
                      refine ⟨L3, rfl, ⟨_, SqL.of hL3⟩, for_list (xs := [V.str ws, V.str ("-" ++ ws), V.str ("0" ++ ws), V.str (cutS ws none (some at_) ++ (⟨#[c]⟩ : Str) ++ cutS ws (some at_) none), V.str (cutS ws none (some at_) ++ cutS ws (some (at_ + 1)) none), V.str (ws ++ " "), V.str ("+" ++ ws), V.str "-0", V.str ""]) (fun j σ' H' => (∃ v12 : Option V, σ' = [some (.ref a), some (.ref d), some (.str WS), some (.int (0 + (i : Int))), some (.ref A1), some (.ref A2), v6, some (.int m), v8, some (.bl (wdsD (zs2.map Dd.str))), some (.str ws), some (.int n), v12, some (.int at_), v14, v15]) ∧ Kp d Ts (upd HE L3 (HO.lst [V.str ws, V.str ("-" ++ ws), V.str ("0" ++ ws), V.str (cutS ws none (some at_) ++ (⟨#[c]⟩ : Str) ++ cutS ws (some at_) none), V.str (cutS ws none (some at_) ++ cutS ws (some (at_ + 1)) none), V.str (ws ++ " "), V.str ("+" ++ ws), V.str "-0", V.str ""])) H')
                        ⟨⟨_, rfl⟩, Kp.refl kF.drs kF.tg⟩ (fun _ _ H' _ ⟨_, k⟩ => SqL.of (k.ls _ _ neL3 hL3)) ?_ ?_⟩
                      · rintro j x σ' H' hj ⟨⟨v12, rfl⟩, kG⟩
                        obtain ⟨s, rfl, hs⟩ := ones j x hj
                        exact ⟨_, rfl, s, rfl, hs, kG.tg, fun HG stG => ⟨_, rfl, iteF ⟨⟨_, rfl⟩, kG.st stG⟩⟩⟩
                      · rintro σ' H' ⟨⟨v12, rfl⟩, kG⟩
                        exact ⟨⟨_, _, _, _, _, _, _, _, _, _, _, _, _, rfl⟩, kG.drs, kG.tg⟩
      · rintro σ' H' ⟨⟨v3, v4, v5, v6, v7, v8, v9, v10, v11, v12, v13, v14, v15, rfl⟩, dH, tgH⟩
        exact ⟨⟨v3, v4, v5, v6, v7, v8, v9, v10, v11, v12, v13, v14, v15, rfl⟩, dH, tgH⟩
    · rintro σ2 H2 ⟨⟨v3, v4, v5, v6, v7, v8, v9, v10, v11, v12, v13, v14, v15, rfl⟩, dH, tgH⟩
      have la : ("a" : Str).length = 1 := by decide +kernel
      have l1 : 1 ≤ sizeLine := by decide
      refine ⟨fun σ3 H3 => (∃ v14 : Option V, σ3 = [some (.ref a), some (.ref d), some (.str WS), v3, v4, v5, v6, v7, v8, v9, v10, v11, v12, v13, v14, v15]), ?_, ?_⟩
      · refine ⟨l1, fun p1 np1 => ?_⟩
        have s3 := same_new (o := HO.tup [V.str "a"]) np1
        have hp1 : upd H2 p1 (HO.tup [V.str "a"]) p1 = some (.tup [V.str "a"]) := upd_same
        generalize upd H2 p1 (HO.tup [V.str "a"]) = H3 at s3 hp1
        refine ⟨l1, fun p2 np2 => ?_⟩
        have s4 := same_new (o := HO.lst [V.str "a"]) np2
        have hp2 : upd H3 p2 (HO.lst [V.str "a"]) p2 = some (.lst [V.str "a"]) := upd_same
        generalize upd H3 p2 (HO.lst [V.str "a"]) = H4 at s4 hp2
        refine ⟨by show 2 ≤ sizeLine; decide, fun p3 np3 => ?_⟩
        have s5 := same_new (o := HO.tup [V.str "a", V.int 1]) np3
        have hp3 : upd H4 p3 (HO.tup [V.str "a", V.int 1]) p3 = some (.tup [V.str "a", V.int 1]) := upd_same
        generalize upd H4 p3 (HO.tup [V.str "a", V.int 1]) = H5 at s5 hp3
        refine ⟨by show 6 ≤ sizeLine; decide, fun L nL => ?_⟩
        have s6 := same_new (o := HO.lst [V.non, V.bl true, V.int 7, V.ref p1, V.ref p2, V.ref p3]) nL
        have hL : upd H5 L (HO.lst [V.non, V.bl true, V.int 7, V.ref p1, V.ref p2, V.ref p3]) L = some (.lst [V.non, V.bl true, V.int 7, V.ref p1, V.ref p2, V.ref p3]) := upd_same
        generalize upd H5 L (HO.lst [V.non, V.bl true, V.int 7, V.ref p1, V.ref p2, V.ref p3]) = H6 at s6 hL
        have tg6 := tgH.same (((s3.trans s4).trans s5).trans s6)
        have vals : ∀ (j : Nat) (x : V), [V.non, V.bl true, V.int 7, V.ref p1, V.ref p2, V.ref p3][j]? = some x → ∃ e : Dd, Rep H6 e x ∧ nmD e = false ∧ wdD e = false ∧ nmsD e 2 3 = false ∧ (∀ z, e = .str z → z.length ≤ sizeLine) ∧ (∀ ds, e = .tup ds → ∀ z, Dd.str z ∈ ds → z.length ≤ sizeLine) := fun j x hj => by
          match j, hj with
          | 0, hj => exact ⟨.non, by rw [← Option.some.inj hj]; unfold Rep; rfl, rfl, rfl, rfl, fun _ e => (nomatch e), fun _ e => (nomatch e)⟩
          | 1, hj => exact ⟨.bl true, by rw [← Option.some.inj hj]; unfold Rep; rfl, rfl, rfl, rfl, fun _ e => (nomatch e), fun _ e => (nomatch e)⟩
          | 2, hj => exact ⟨.int 7, by rw [← Option.some.inj hj]; unfold Rep; rfl, rfl, rfl, rfl, fun _ e => (nomatch e), fun _ e => (nomatch e)⟩
          | 3, hj =>
            refine ⟨.tup ["a"|>Dd.str], ?_, rfl, rfl, by decide +kernel, fun _ e => (nomatch e), fun ds e z hz => ?_⟩
            · rw [← Option.some.inj hj]
              unfold Rep
              exact ⟨by decide, p1, _, rfl, s6 _ _ (s5 _ _ (s4 _ _ hp1)), repL_strs ["a"]⟩
            · cases e
              rw [List.mem_singleton] at hz
              cases hz
              rw [la]
              exact l1
          | 4, hj =>
            refine ⟨.lst ["a"|>Dd.str], ?_, rfl, rfl, rfl, fun _ e => (nomatch e), fun _ e => (nomatch e)⟩
            rw [← Option.some.inj hj]
            unfold Rep
            exact ⟨by decide, p2, _, rfl, s6 _ _ (s5 _ _ hp2), repL_strs ["a"]⟩
          | 5, hj =>
            refine ⟨.tup [.str "a", .int 1], ?_, rfl, rfl, by decide +kernel, fun _ e => (nomatch e), fun ds e z hz => ?_⟩
            · rw [← Option.some.inj hj]
              unfold Rep
              refine ⟨by decide, p3, _, rfl, s6 _ _ hp3, ?_⟩
              unfold RepL
              refine ⟨_, _, rfl, by unfold Rep; rfl, ?_⟩
              unfold RepL
              refine ⟨_, _, rfl, by unfold Rep; rfl, ?_⟩
              unfold RepL
              rfl
            · cases e
              simp only [List.mem_cons, List.not_mem_nil, or_false] at hz
              rcases hz with hz | hz
              · cases hz
                rw [la]
                exact l1
              · cases hz
          | _ + 6, hj => cases hj
        refine ⟨L, rfl, ⟨_, SqL.of hL⟩, for_list (xs := [V.non, V.bl true, V.int 7, V.ref p1, V.ref p2, V.ref p3]) (fun j σ' H' => (∃ v14 : Option V, σ' = [some (.ref a), some (.ref d), some (.str WS), v3, v4, v5, v6, v7, v8, v9, v10, v11, v12, v13, v14, v15]) ∧ ST Ts H6 H')
          ⟨⟨_, rfl⟩, ST.refl tg6⟩ (fun _ _ H' _ ⟨_, st⟩ => SqL.of (st.lst hL)) ?_ ?_⟩
        · rintro j x σ' H' hj ⟨⟨v14, rfl⟩, st⟩
          obtain ⟨e, re, b1, b2, b3, z1, z2⟩ := vals j x hj
          refine ⟨_, rfl, x, e, rfl, rep_st st re, z1, st.tg, fun H7 st7 => ?_⟩
          rw [b1]
          refine ⟨_, _, rfl, rfl, _, rfl, iteF ?_⟩
          have stA := st.trans st7
          refine ⟨_, rfl, x, e, rfl, rep_st stA re, z1, fun H8 s8 => ?_⟩
          rw [b2]
          refine ⟨_, _, rfl, rfl, _, rfl, iteF ?_⟩
          have stB := stA.and s8
          refine ⟨_, rfl, x, e, 2, 3, rfl, rep_st stB re, z2, stB.tg, fun H9 st9 => ?_⟩
          rw [b3]
          exact ⟨_, _, rfl, rfl, _, rfl, iteF ⟨⟨_, rfl⟩, stB.trans st9⟩⟩
        · rintro σ' H' ⟨h, _⟩
          exact h
      · rintro σ3 H3 ⟨v14, rfl⟩
        have two : 2 ≤ sizeLine := by decide
        refine ⟨fun σ4 H4 => (∃ v5 v14 : Option V, σ4 = [some (.ref a), some (.ref d), some (.str WS), v3, v4, v5, v6, v7, v8, v9, v10, v11, v12, v13, v14, v15]), ?_, ?_⟩
        · refine ⟨two, fun p1 np1 => ?_⟩
          have s4 := same_new (o := HO.lst [V.str "a", V.non]) np1
          have hp1 : upd H3 p1 (HO.lst [V.str "a", V.non]) p1 = some (.lst [V.str "a", V.non]) := upd_same
          generalize upd H3 p1 (HO.lst [V.str "a", V.non]) = H4 at s4 hp1
          refine ⟨l1, fun p2 np2 => ?_⟩
          have s5 := same_new (o := HO.lst [V.int 7]) np2
          have hp2 : upd H4 p2 (HO.lst [V.int 7]) p2 = some (.lst [V.int 7]) := upd_same
          generalize upd H4 p2 (HO.lst [V.int 7]) = H5 at s5 hp2
          refine ⟨l1, fun t3 nt3 => ?_⟩
          have s6 := same_new (o := HO.tup [V.str "a"]) nt3
          have ht3 : upd H5 t3 (HO.tup [V.str "a"]) t3 = some (.tup [V.str "a"]) := upd_same
          generalize upd H5 t3 (HO.tup [V.str "a"]) = H6 at s6 ht3
          refine ⟨l1, fun p3 np3 => ?_⟩
          have s7 := same_new (o := HO.lst [V.ref t3]) np3
          have hp3 : upd H6 p3 (HO.lst [V.ref t3]) p3 = some (.lst [V.ref t3]) := upd_same
          generalize upd H6 p3 (HO.lst [V.ref t3]) = H7 at s7 hp3
          refine ⟨l1, fun t4 nt4 => ?_⟩
          have s8 := same_new (o := HO.lst [V.str "a"]) nt4
          have ht4 : upd H7 t4 (HO.lst [V.str "a"]) t4 = some (.lst [V.str "a"]) := upd_same
          generalize upd H7 t4 (HO.lst [V.str "a"]) = H8 at s8 ht4
          refine ⟨l1, fun p4 np4 => ?_⟩
          have s9 := same_new (o := HO.lst [V.ref t4]) np4
          have hp4 : upd H8 p4 (HO.lst [V.ref t4]) p4 = some (.lst [V.ref t4]) := upd_same
          generalize upd H8 p4 (HO.lst [V.ref t4]) = H9 at s9 hp4
          refine ⟨two, fun p5 np5 => ?_⟩
          have s10 := same_new (o := HO.lst [V.str "a", V.bl true]) np5
          have hp5 : upd H9 p5 (HO.lst [V.str "a", V.bl true]) p5 = some (.lst [V.str "a", V.bl true]) := upd_same
          generalize upd H9 p5 (HO.lst [V.str "a", V.bl true]) = H10 at s10 hp5
          refine ⟨by show 5 ≤ sizeLine; decide, fun L nL => ?_⟩
          have s11 := same_new (o := HO.lst [V.ref p1, V.ref p2, V.ref p3, V.ref p4, V.ref p5]) nL
          have hL : upd H10 L (HO.lst [V.ref p1, V.ref p2, V.ref p3, V.ref p4, V.ref p5]) L = some (.lst [V.ref p1, V.ref p2, V.ref p3, V.ref p4, V.ref p5]) := upd_same
          generalize upd H10 L (HO.lst [V.ref p1, V.ref p2, V.ref p3, V.ref p4, V.ref p5]) = HF at s11 hL
          have sB := s10.trans s11
          have s9B := s9.trans sB
          have s7B := (s8.trans s9B)
          have rs : ∀ (x : Dd) (v : V) (r : List Dd) (rv : List V), Rep HF x v → RepL HF r rv → RepL HF (x :: r) (v :: rv) := fun x v r rv h1 h2 => by
            unfold RepL
            exact ⟨v, rv, rfl, h1, h2⟩
          have rn : RepL HF [] [] := by
            unfold RepL
            rfl
          have ra : Rep HF (.str "a") (.str "a") := by
            unfold Rep
            rfl
          have sl : ∀ (x : Dd), x = .str "a" ∨ (∀ z, x ≠ .str z) → ∀ z, x = .str z → z.length ≤ sizeLine := fun x h z e => by
            rcases h with h | h
            · rw [h] at e
              cases e
              rw [la]
              exact l1
            · exact absurd e (h z)
          have lists : ∀ (j : Nat) (x : V), [V.ref p1, V.ref p2, V.ref p3, V.ref p4, V.ref p5][j]? = some x → ∃ (p : Addr) (ds : List Dd) (xs : List V), x = .ref p ∧ HF p = some (.lst xs) ∧ RepL HF ds xs ∧ wdsD ds = false ∧ cmpD ds ∧ (∀ z, Dd.str z ∈ ds → z.length ≤ sizeLine) := fun j x hj => by
            match j, hj with
            | 0, hj =>
              refine ⟨p1, [.str "a", .non], _, (Option.some.inj hj).symm, s7B _ _ (s7 _ _ (s6 _ _ (s5 _ _ hp1))), rs _ _ _ _ ra (rs _ _ _ _ (by unfold Rep; rfl) rn), by decide +kernel, by unfold cmpD; decide +kernel, fun z hz => ?_⟩
              simp only [List.mem_cons, List.not_mem_nil, or_false] at hz
              rcases hz with hz | hz
              · exact sl _ (.inl rfl) z hz.symm
              · cases hz
            | 1, hj =>
              refine ⟨p2, [.int 7], _, (Option.some.inj hj).symm, s7B _ _ (s7 _ _ (s6 _ _ hp2)), rs _ _ _ _ (by unfold Rep; rfl) rn, by decide +kernel, by unfold cmpD; decide +kernel, fun z hz => ?_⟩
              rw [List.mem_singleton] at hz
              cases hz
            | 2, hj =>
              refine ⟨p3, [.tup [.str "a"]], _, (Option.some.inj hj).symm, s7B _ _ hp3, rs _ _ _ _ ?_ rn, by decide +kernel, by unfold cmpD; decide +kernel, fun z hz => ?_⟩
              · unfold Rep
                exact ⟨by decide, t3, _, rfl, s7B _ _ (s7 _ _ ht3), rs _ _ _ _ ra rn⟩
              · rw [List.mem_singleton] at hz
                cases hz
            | 3, hj =>
              refine ⟨p4, [.lst [.str "a"]], _, (Option.some.inj hj).symm, sB _ _ hp4, rs _ _ _ _ ?_ rn, by decide +kernel, by unfold cmpD; decide +kernel, fun z hz => ?_⟩
              · unfold Rep
                exact ⟨by decide, t4, _, rfl, s9B _ _ ht4, rs _ _ _ _ ra rn⟩
              · rw [List.mem_singleton] at hz
                cases hz
            | 4, hj =>
              refine ⟨p5, [.str "a", .bl true], _, (Option.some.inj hj).symm, s11 _ _ hp5, rs _ _ _ _ ra (rs _ _ _ _ (by unfold Rep; rfl) rn), by decide +kernel, by unfold cmpD; decide +kernel, fun z hz => ?_⟩
              simp only [List.mem_cons, List.not_mem_nil, or_false] at hz
              rcases hz with hz | hz
              · exact sl _ (.inl rfl) z hz.symm
              · cases hz
            | _ + 5, hj => cases hj
          refine ⟨L, rfl, ⟨_, SqL.of hL⟩, for_list (xs := [V.ref p1, V.ref p2, V.ref p3, V.ref p4, V.ref p5]) (fun j σ' H' => (∃ v5 v14 : Option V, σ' = [some (.ref a), some (.ref d), some (.str WS), v3, v4, v5, v6, v7, v8, v9, v10, v11, v12, v13, v14, v15]) ∧ Same HF H')
            ⟨⟨_, _, rfl⟩, Same.refl _⟩ (fun _ _ H' _ ⟨_, s⟩ => SqL.of (s _ _ hL)) ?_ ?_⟩
          · rintro j x σ' H' hj ⟨⟨v5, v14, rfl⟩, sH⟩
            obtain ⟨p, ds, xs, rfl, hp, rp, hw, hc, zl⟩ := lists j x hj
            exact ⟨_, rfl, p, ds, xs, by rw [hw]; rfl, sH _ _ hp, repL_same sH rp, zl, hc, fun H7 s7 => ⟨_, rfl, iteF ⟨⟨_, _, rfl⟩, sH.trans s7⟩⟩⟩
          · rintro σ' H' ⟨h, _⟩
            exact h
        · rintro σ4 H4 ⟨v5, v14, rfl⟩
          refine ⟨.bl true, .bl true, 0, 1, rfl, by unfold Rep; rfl, _, _, rfl, rfl, true, rfl, iteT ?_⟩
          refine ⟨.str "1", .str "1", 0, 5, rfl, by unfold Rep; rfl, _, _, rfl, rfl, true, rfl, iteT ?_⟩
          exact ⟨.non, .non, 0, 5, rfl, by unfold Rep; rfl, _, _, rfl, rfl, q _⟩
end
end K3
namespace K3
open PySem L2 Kt
theorem walk {l : PySem.W.OpenLaw} {q : Program} {loose : List Str} {XP : (Str → Option Value) → Heap → Prop} {YP : World → Heap → Prop} {d : DefRec} {K : Params → PySem.W.Frag} (hn : l.most = some 63) (hdf : d.params.defaults = [])
    (hY : ∀ (w : World) (h : Heap), YP w h → (K w.params).In h)
    (F : ∀ (w : World) (mg : Str → Option Value) (fa : Addr) (h : Heap), (K w.params).In h → h.Ns mainGlobals mg → mg d.name = some (.ref fa) →
      (∀ (y : Str), ((PyProof.Rows.recsOf q).any fun e => e.name == y) = true → ∀ f, mg y = some (.ref f) → LamX.OwnTab (K w.params) f h) → LamX.LawAtS l w (K w.params) CX0 5 63 "script" mg fa h) :
    PySem.W.WalkO q loose XP YP l.row.toRowW d [] (fun f vs => PySem.call f vs) :=
  Kj.walk_ofTabs (n := 63) (k := 5) (x := "script") (CX := fun _ => CX0) hn (by decide) hdf ⟨rfl, by decide, by decide⟩ hY F fun _ _ _ _ _ z => z
end K3
open PySem PySem.W PyProof.Rows
set_option maxRecDepth 100000 in
set_option maxHeartbeats 0 in
theorem PySem.Challenge.cw_docketloom_k03_names_words_and_numbers_holds : PySem.Challenge.rw_docketloom_k03_names_words_and_numbers.Holds := by
  w_on; o_law; k_head; (case hw => w_witness2)
  k_fill
  refine K3.walk (l := PySem.Challenge.rw_docketloom_k03_names_words_and_numbers) rfl rfl (fun w h Y => PySem.W.kIn_of Y) ?F
  case F =>
    intro w mg fa h KX G hmg hO
    have A_is_name : Kt.At (Kt.kOf KX) mg "is_name" K3.s_is_name := by
      unfold Kt.kOf
      refine' Kt.at_mk KX G ?a ?l ?c ?k
      (case a => k_is); (case l => k_is); (case c => k_is); (case k => k_is)
    have A_is_number : Kt.At (Kt.kOf KX) mg "is_number" K3.s_is_number := by
      unfold Kt.kOf
      refine' Kt.at_mk KX G ?a ?l ?c ?k
      (case a => k_is); (case l => k_is); (case c => k_is); (case k => k_is)
    have A_is_tuple : Kt.At (Kt.kOf KX) mg "is_tuple" K3.s_is_tuple := by
      unfold Kt.kOf
      refine' Kt.at_mk KX G ?a ?l ?c ?k
      (case a => k_is); (case l => k_is); (case c => k_is); (case k => k_is)
    have A_is_ascending : Kt.At (Kt.kOf KX) mg "is_ascending" K3.s_is_ascending := by
      unfold Kt.kOf
      refine' Kt.at_mk KX G ?a ?l ?c ?k
      (case a => k_is); (case l => k_is); (case c => k_is); (case k => k_is)
    have A_is_names : Kt.At (Kt.kOf KX) mg "is_names" K3.s_is_names := by
      unfold Kt.kOf
      refine' Kt.at_mk KX G ?a ?l ?c ?k
      (case a => k_is); (case l => k_is); (case c => k_is); (case k => k_is)
    have A_is_figures : Kt.At (Kt.kOf KX) mg "is_figures" K3.s_is_figures := by
      unfold Kt.kOf
      refine' Kt.at_mk KX G ?a ?l ?c ?k
      (case a => k_is); (case l => k_is); (case c => k_is); (case k => k_is)
    have A_has_signs : Kt.At (Kt.kOf KX) mg "has_signs" K3.s_has_signs := by
      unfold Kt.kOf
      refine' Kt.at_mk KX G ?a ?l ?c ?k
      (case a => k_is); (case l => k_is); (case c => k_is); (case k => k_is)
    have A_are_sized : Kt.At (Kt.kOf KX) mg "are_sized" K3.s_are_sized := by
      unfold Kt.kOf
      refine' Kt.at_mk KX G ?a ?l ?c ?k
      (case a => k_is); (case l => k_is); (case c => k_is); (case k => k_is)
    have A_are_words : Kt.At (Kt.kOf KX) mg "are_words" K3.s_are_words := by
      unfold Kt.kOf
      refine' Kt.at_mk KX G ?a ?l ?c ?k
      (case a => k_is); (case l => k_is); (case c => k_is); (case k => k_is)
    have A_is_word : Kt.At (Kt.kOf KX) mg "is_word" K3.s_is_word := by
      unfold Kt.kOf
      refine' Kt.at_mk KX G ?a ?l ?c ?k
      (case a => k_is); (case l => k_is); (case c => k_is); (case k => k_is)
    have A_line_of : Kt.At (Kt.kOf KX) mg "line_of" K3.s_line_of := by
      unfold Kt.kOf
      refine' Kt.at_mk KX G ?a ?l ?c ?k
      (case a => k_is); (case l => k_is); (case c => k_is); (case k => k_is)
    have A_words_of : Kt.At (Kt.kOf KX) mg "words_of" K3.s_words_of := by
      unfold Kt.kOf
      refine' Kt.at_mk KX G ?a ?l ?c ?k
      (case a => k_is); (case l => k_is); (case c => k_is); (case k => k_is)
    have A_number_word : Kt.At (Kt.kOf KX) mg "number_word" K3.s_number_word := by
      unfold Kt.kOf
      refine' Kt.at_mk KX G ?a ?l ?c ?k
      (case a => k_is); (case l => k_is); (case c => k_is); (case k => k_is)
    have A_number_of : Kt.At (Kt.kOf KX) mg "number_of" K3.s_number_of := by
      unfold Kt.kOf
      refine' Kt.at_mk KX G ?a ?l ?c ?k
      (case a => k_is); (case l => k_is); (case c => k_is); (case k => k_is)
    have A__law_open : Kt.At (Kt.kOf KX) mg "_law_open" K3.s__law_open := by
      unfold Kt.kOf
      refine' Kt.at_mk KX G ?a ?l ?c ?k
      (case a => k_is); (case l => k_is); (case c => k_is); (case k => k_is)
    have A__law_mixed : Kt.At (Kt.kOf KX) mg "_law_mixed" K3.s__law_mixed := by
      unfold Kt.kOf
      refine' Kt.at_mk KX G ?a ?l ?c ?k
      (case a => k_is); (case l => k_is); (case c => k_is); (case k => k_is)
    have A__law_draw : Kt.At (Kt.kOf KX) mg "_law_draw" K3.s__law_draw := by
      unfold Kt.kOf
      refine' Kt.at_mk KX G ?a ?l ?c ?k
      (case a => k_is); (case l => k_is); (case c => k_is); (case k => k_is)
    have A__law_wide : Kt.At (Kt.kOf KX) mg "_law_wide" K3.s__law_wide := by
      unfold Kt.kOf
      refine' Kt.at_mk KX G ?a ?l ?c ?k
      (case a => k_is); (case l => k_is); (case c => k_is); (case k => k_is)
    have A__law_told : Kt.At (Kt.kOf KX) mg "_law_told" K3.s__law_told := by
      unfold Kt.kOf
      refine' Kt.at_mk KX G ?a ?l ?c ?k
      (case a => k_is); (case l => k_is); (case c => k_is); (case k => k_is)
    have A__law_text : Kt.At (Kt.kOf KX) mg "_law_text" K3.s__law_text := by
      unfold Kt.kOf
      refine' Kt.at_mk KX G ?a ?l ?c ?k
      (case a => k_is); (case l => k_is); (case c => k_is); (case k => k_is)
    have A__law_of : Kt.At (Kt.kOf KX) mg "_law_of" K3.s__law_of := by
      unfold Kt.kOf
      refine' Kt.at_mk KX G ?a ?l ?c ?k
      (case a => k_is); (case l => k_is); (case c => k_is); (case k => k_is)
    have A__law_names : Kt.At (Kt.kOf KX) mg "_law_names" K3.s__law_names := by
      unfold Kt.kOf
      refine' Kt.at_mk KX G ?a ?l ?c ?k
      (case a => k_is); (case l => k_is); (case c => k_is); (case k => k_is)
    have A__law_same : Kt.At (Kt.kOf KX) mg "_law_same" K3.s__law_same := by
      unfold Kt.kOf
      refine' Kt.at_mk KX G ?a ?l ?c ?k
      (case a => k_is); (case l => k_is); (case c => k_is); (case k => k_is)
    have A__law_line : Kt.At (Kt.kOf KX) mg "_law_line" K3.s__law_line := by
      unfold Kt.kOf
      refine' Kt.at_mk KX G ?a ?l ?c ?k
      (case a => k_is); (case l => k_is); (case c => k_is); (case k => k_is)
    have A__law_read : Kt.At (Kt.kOf KX) mg "_law_read" K3.s__law_read := by
      unfold Kt.kOf
      refine' Kt.at_mk KX G ?a ?l ?c ?k
      (case a => k_is); (case l => k_is); (case c => k_is); (case k => k_is)
    have A__law_numbers : Kt.At (Kt.kOf KX) mg "_law_numbers" K3.s__law_numbers := by
      unfold Kt.kOf
      refine' Kt.at_mk KX G ?a ?l ?c ?k
      (case a => k_is); (case l => k_is); (case c => k_is); (case k => k_is)
    have A__law_number : Kt.At (Kt.kOf KX) mg "_law_number" K3.s__law_number := by
      unfold Kt.kOf
      refine' Kt.at_mk KX G ?a ?l ?c ?k
      (case a => k_is); (case l => k_is); (case c => k_is); (case k => k_is)
    have A_law : Kt.At (Kt.kOf KX) mg "law" K3.s_law := by
      unfold Kt.kOf
      refine' Kt.at_mk KX G ?a ?l ?c ?k
      (case a => k_is); (case l => k_is); (case c => k_is); (case k => k_is)
    have eE : ∃ OR, Kt.ExcAt (Kt.kOf KX) mg "OutOfRange" OR ∧ ∃ MA, Kt.ExcAt (Kt.kOf KX) mg "Malformed" MA ∧ ∃ NT, Kt.ExcAt (Kt.kOf KX) mg "NotThere" NT ∧ ∃ RE, Kt.ExcAt (Kt.kOf KX) mg "Refused" RE ∧ ∃ TM, Kt.ExcAt (Kt.kOf KX) mg "TooMuch" TM ∧ ∃ DE, Kt.ExcAt (Kt.kOf KX) mg "DocketError" DE ∧ PySem.W.subIn (Kt.kOf KX) (.ref OR) (.ref DE) = some true ∧ PySem.W.subIn (Kt.kOf KX) (.ref MA) (.ref DE) = some true ∧ PySem.W.subIn (Kt.kOf KX) (.ref NT) (.ref DE) = some true ∧ PySem.W.subIn (Kt.kOf KX) (.ref RE) (.ref DE) = some true ∧ PySem.W.subIn (Kt.kOf KX) (.ref TM) (.ref DE) = some true ∧ PySem.W.kitOne (Kt.kOf KX) (.ref OR) (.ref MA) = some false ∧ PySem.W.kitOne (Kt.kOf KX) (.ref OR) (.ref NT) = some false ∧ PySem.W.kitOne (Kt.kOf KX) (.ref OR) (.ref RE) = some false ∧ PySem.W.kitOne (Kt.kOf KX) (.ref OR) (.ref TM) = some false ∧ PySem.W.kitOne (Kt.kOf KX) (.ref MA) (.ref OR) = some false ∧ PySem.W.kitOne (Kt.kOf KX) (.ref MA) (.ref NT) = some false ∧ PySem.W.kitOne (Kt.kOf KX) (.ref MA) (.ref RE) = some false ∧ PySem.W.kitOne (Kt.kOf KX) (.ref MA) (.ref TM) = some false ∧ PySem.W.kitOne (Kt.kOf KX) (.ref NT) (.ref OR) = some false ∧ PySem.W.kitOne (Kt.kOf KX) (.ref NT) (.ref MA) = some false ∧ PySem.W.kitOne (Kt.kOf KX) (.ref NT) (.ref RE) = some false ∧ PySem.W.kitOne (Kt.kOf KX) (.ref NT) (.ref TM) = some false ∧ PySem.W.kitOne (Kt.kOf KX) (.ref RE) (.ref OR) = some false ∧ PySem.W.kitOne (Kt.kOf KX) (.ref RE) (.ref MA) = some false ∧ PySem.W.kitOne (Kt.kOf KX) (.ref RE) (.ref NT) = some false ∧ PySem.W.kitOne (Kt.kOf KX) (.ref RE) (.ref TM) = some false ∧ PySem.W.kitOne (Kt.kOf KX) (.ref TM) (.ref OR) = some false ∧ PySem.W.kitOne (Kt.kOf KX) (.ref TM) (.ref MA) = some false ∧ PySem.W.kitOne (Kt.kOf KX) (.ref TM) (.ref NT) = some false ∧ PySem.W.kitOne (Kt.kOf KX) (.ref TM) (.ref RE) = some false ∧ PySem.W.kitOne (Kt.kOf KX) (.ref OR) (.type "ValueError") = some true ∧ PySem.W.kitOne (Kt.kOf KX) (.ref MA) (.type "ValueError") = some true ∧ PySem.W.kitOne (Kt.kOf KX) (.ref NT) (.type "ValueError") = some true ∧ PySem.W.kitOne (Kt.kOf KX) (.ref RE) (.type "ValueError") = some true ∧ PySem.W.kitOne (Kt.kOf KX) (.ref TM) (.type "ValueError") = some true := by
      unfold Kt.kOf
      refine' Kt.ex_mk ⟨Kt.exc_mk KX G ?a0 ?q0 ?k0 ?b0 ?t0 ?g0_0 ?g0_1 ?g0_2 ?g0_3 ?g0_4 ?g0_5 ?g0_6, Kt.ex_mk ⟨Kt.exc_mk KX G ?a1 ?q1 ?k1 ?b1 ?t1 ?g1_0 ?g1_1 ?g1_2 ?g1_3 ?g1_4 ?g1_5 ?g1_6, Kt.ex_mk ⟨Kt.exc_mk KX G ?a2 ?q2 ?k2 ?b2 ?t2 ?g2_0 ?g2_1 ?g2_2 ?g2_3 ?g2_4 ?g2_5 ?g2_6, Kt.ex_mk ⟨Kt.exc_mk KX G ?a3 ?q3 ?k3 ?b3 ?t3 ?g3_0 ?g3_1 ?g3_2 ?g3_3 ?g3_4 ?g3_5 ?g3_6, Kt.ex_mk ⟨Kt.exc_mk KX G ?a4 ?q4 ?k4 ?b4 ?t4 ?g4_0 ?g4_1 ?g4_2 ?g4_3 ?g4_4 ?g4_5 ?g4_6, Kt.ex_mk ⟨Kt.exc_mk KX G ?a5 ?q5 ?k5 ?b5 ?t5 ?g5_0 ?g5_1 ?g5_2 ?g5_3 ?g5_4 ?g5_5 ?g5_6, ⟨?up0, ?up1, ?up2, ?up3, ?up4, ?kt0, ?kt1, ?kt2, ?kt3, ?kt4, ?kt5, ?kt6, ?kt7, ?kt8, ?kt9, ?kt10, ?kt11, ?kt12, ?kt13, ?kt14, ?kt15, ?kt16, ?kt17, ?kt18, ?kt19, ?kt20, ?kt21, ?kt22, ?kt23, ?kt24⟩⟩⟩⟩⟩⟩⟩
      (case a0 => k_is); (case a1 => k_is); (case a2 => k_is); (case a3 => k_is); (case a4 => k_is); (case a5 => k_is)
      (case q0 => k_exc); (case k0 => k_is); (case b0 => k_is); (case t0 => k_is); (case g0_0 => k_is); (case g0_1 => k_is); (case g0_2 => k_is); (case g0_3 => k_is); (case g0_4 => k_is); (case g0_5 => k_is); (case g0_6 => k_is)
      (case q1 => k_exc); (case k1 => k_is); (case b1 => k_is); (case t1 => k_is); (case g1_0 => k_is); (case g1_1 => k_is); (case g1_2 => k_is); (case g1_3 => k_is); (case g1_4 => k_is); (case g1_5 => k_is); (case g1_6 => k_is)
      (case q2 => k_exc); (case k2 => k_is); (case b2 => k_is); (case t2 => k_is); (case g2_0 => k_is); (case g2_1 => k_is); (case g2_2 => k_is); (case g2_3 => k_is); (case g2_4 => k_is); (case g2_5 => k_is); (case g2_6 => k_is)
      (case q3 => k_exc); (case k3 => k_is); (case b3 => k_is); (case t3 => k_is); (case g3_0 => k_is); (case g3_1 => k_is); (case g3_2 => k_is); (case g3_3 => k_is); (case g3_4 => k_is); (case g3_5 => k_is); (case g3_6 => k_is)
      (case q4 => k_exc); (case k4 => k_is); (case b4 => k_is); (case t4 => k_is); (case g4_0 => k_is); (case g4_1 => k_is); (case g4_2 => k_is); (case g4_3 => k_is); (case g4_4 => k_is); (case g4_5 => k_is); (case g4_6 => k_is)
      (case q5 => k_exc); (case k5 => k_is); (case b5 => k_is); (case t5 => k_is); (case g5_0 => k_is); (case g5_1 => k_is); (case g5_2 => k_is); (case g5_3 => k_is); (case g5_4 => k_is); (case g5_5 => k_is); (case g5_6 => k_is)
      (case up0 => k_is)
      (case up1 => k_is)
      (case up2 => k_is)
      (case up3 => k_is)
      (case up4 => k_is)
      (case kt0 => first | kit_is | k_is)
      (case kt1 => first | kit_is | k_is)
      (case kt2 => first | kit_is | k_is)
      (case kt3 => first | kit_is | k_is)
      (case kt4 => first | kit_is | k_is)
      (case kt5 => first | kit_is | k_is)
      (case kt6 => first | kit_is | k_is)
      (case kt7 => first | kit_is | k_is)
      (case kt8 => first | kit_is | k_is)
      (case kt9 => first | kit_is | k_is)
      (case kt10 => first | kit_is | k_is)
      (case kt11 => first | kit_is | k_is)
      (case kt12 => first | kit_is | k_is)
      (case kt13 => first | kit_is | k_is)
      (case kt14 => first | kit_is | k_is)
      (case kt15 => first | kit_is | k_is)
      (case kt16 => first | kit_is | k_is)
      (case kt17 => first | kit_is | k_is)
      (case kt18 => first | kit_is | k_is)
      (case kt19 => first | kit_is | k_is)
      (case kt20 => first | kit_is | k_is)
      (case kt21 => first | kit_is | k_is)
      (case kt22 => first | kit_is | k_is)
      (case kt23 => first | kit_is | k_is)
      (case kt24 => first | kit_is | k_is)
    obtain ⟨OR, eOR, MA, eMA, NT, eNT, RE, eRE, TM, eTM, DE, eD, up, up1, up2, up3, up4, kit⟩ := eE
    have dx : ∀ D : Addr, mg "DocketError" = some (.ref D) → PySem.W.subIn (Kt.kOf KX) (.ref OR) (.ref D) = some true ∧ PySem.W.subIn (Kt.kOf KX) (.ref MA) (.ref D) = some true ∧ PySem.W.subIn (Kt.kOf KX) (.ref NT) (.ref D) = some true ∧ PySem.W.subIn (Kt.kOf KX) (.ref RE) (.ref D) = some true ∧ PySem.W.subIn (Kt.kOf KX) (.ref TM) (.ref D) = some true := fun D h => by
      rw [eD.g] at h
      cases h
      exact ⟨up, up1, up2, up3, up4⟩
    have g_LETTERS : ∃ t, mg "LETTERS" = some (.str "abcdefghijklmnopqrstuvwxyz" t) := by
      refine' Kj.str_mk KX G ?a
      (case a => k_is)
    have g_FIGURES : ∃ t, mg "FIGURES" = some (.str "0123456789" t) := by
      refine' Kj.str_mk KX G ?a
      (case a => k_is)
    have g_LONGEST_NAME : ∃ t, mg "LONGEST_NAME" = some (.int 16 t) := by
      refine' Kt.int_mk KX G ?a
      (case a => k_is)
    have g_WORD_SIGNS : ∃ t, mg "WORD_SIGNS" = some (.str "abcdefghijklmnopqrstuvwxyz0123456789-/.,:+=#_" t) := by
      refine' Kj.str_mk KX G ?a
      (case a => k_is)
    have g_LONGEST_WORD : ∃ t, mg "LONGEST_WORD" = some (.int 40 t) := by
      refine' Kt.int_mk KX G ?a
      (case a => k_is)
    have g_MOST_WORDS : ∃ t, mg "MOST_WORDS" = some (.int 20 t) := by
      refine' Kt.int_mk KX G ?a
      (case a => k_is)
    have g_MOST_FIGURES : ∃ t, mg "MOST_FIGURES" = some (.int 20 t) := by
      refine' Kt.int_mk KX G ?a
      (case a => k_is)
    have g_FIRST_TOO_LONG : ∃ t, mg "FIRST_TOO_LONG" = some (.int (10 ^ 20) t) := by
      refine' Kt.int_mk KX G ?a
      (case a => k_is)
    have b_type : mg "type" = none := by
      refine' PySem.W.mg_none_of KX G ?a
      (case a => k_is)
    have b_str : mg "str" = none := by
      refine' PySem.W.mg_none_of KX G ?a
      (case a => k_is)
    have b_len : mg "len" = none := by
      refine' PySem.W.mg_none_of KX G ?a
      (case a => k_is)
    have b_all : mg "all" = none := by
      refine' PySem.W.mg_none_of KX G ?a
      (case a => k_is)
    have b_int : mg "int" = none := by
      refine' PySem.W.mg_none_of KX G ?a
      (case a => k_is)
    have b_tuple : mg "tuple" = none := by
      refine' PySem.W.mg_none_of KX G ?a
      (case a => k_is)
    have b_range : mg "range" = none := by
      refine' PySem.W.mg_none_of KX G ?a
      (case a => k_is)
    have b_abs : mg "abs" = none := by
      refine' PySem.W.mg_none_of KX G ?a
      (case a => k_is)
    have b_isinstance : mg "isinstance" = none := by
      refine' PySem.W.mg_none_of KX G ?a
      (case a => k_is)
    have b_ValueError : mg "ValueError" = none := by
      refine' PySem.W.mg_none_of KX G ?a
      (case a => k_is)
    have b_list : mg "list" = none := by
      refine' PySem.W.mg_none_of KX G ?a
      (case a => k_is)
    have b_bool : mg "bool" = none := by
      refine' PySem.W.mg_none_of KX G ?a
      (case a => k_is)
    have b_sorted : mg "sorted" = none := by
      refine' PySem.W.mg_none_of KX G ?a
      (case a => k_is)
    have T : K3.Txt (Kt.kOf KX) mg OR MA NT RE TM := by
      exact ⟨b_type, b_str, b_len, b_all, b_int, b_tuple, b_range, b_abs, b_isinstance, b_ValueError, b_list, b_bool, b_sorted, A_is_name, A_is_number, A_is_tuple, A_is_ascending, A_is_names, A_is_figures, A_has_signs, A_are_sized, A_are_words, A_is_word, A_line_of, A_words_of, A_number_word, A_number_of, A__law_open, A__law_mixed, A__law_draw, A__law_wide, A__law_told, A__law_text, A__law_of, A__law_names, A__law_same, A__law_line, A__law_read, A__law_numbers, A__law_number, A_law, eOR, eMA, eNT, eRE, eTM, ⟨DE, eD, up⟩, kit, dx, g_LETTERS, g_FIGURES, g_LONGEST_NAME, g_WORD_SIGNS, g_LONGEST_WORD, g_MOST_WORDS, g_MOST_FIGURES, g_FIRST_TOO_LONG⟩
    have B_is_figures : Kj.TblF (Kt.kOf KX) mg "is_figures" K3.s_is_figures 128 124 := by
      unfold Kt.kOf
      refine' Kj.tblF_mk KX G ?a ?l ?e ?k
      (case a => k_is); (case l => k_is); (case e => k_is); (case k => k_is)
    have B_is_name : Kj.TblF (Kt.kOf KX) mg "is_name" K3.s_is_name 93 89 := by
      unfold Kt.kOf
      refine' Kj.tblF_mk KX G ?a ?l ?e ?k
      (case a => k_is); (case l => k_is); (case e => k_is); (case k => k_is)
    have B_is_ascending : Kj.TblF (Kt.kOf KX) mg "is_ascending" K3.s_is_ascending 114 110 := by
      unfold Kt.kOf
      refine' Kj.tblF_mk KX G ?a ?l ?e ?k
      (case a => k_is); (case l => k_is); (case e => k_is); (case k => k_is)
    have B_is_names : Kj.TblF (Kt.kOf KX) mg "is_names" K3.s_is_names 121 117 := by
      unfold Kt.kOf
      refine' Kj.tblF_mk KX G ?a ?l ?e ?k
      (case a => k_is); (case l => k_is); (case e => k_is); (case k => k_is)
    have hT : ∀ q ∈ ([(128, 124), (93, 89), (114, 110), (121, 117)] : List (PySem.Addr × PySem.Addr)), h.get? q.2 = some { cls := .none, data := .fields #[] } := (List.forall_mem_cons.mpr ⟨Kj.TblF.tab B_is_figures (hO _ (by decide +kernel)) (by kernel_rfl), (List.forall_mem_cons.mpr ⟨Kj.TblF.tab B_is_name (hO _ (by decide +kernel)) (by kernel_rfl), (List.forall_mem_cons.mpr ⟨Kj.TblF.tab B_is_ascending (hO _ (by decide +kernel)) (by kernel_rfl), (List.forall_mem_cons.mpr ⟨Kj.TblF.tab B_is_names (hO _ (by decide +kernel)) (by kernel_rfl), (fun _ h => nomatch h)⟩)⟩)⟩)⟩)
    have nT : ∀ q ∈ ([(128, 124), (93, 89), (114, 110), (121, 117)] : List (PySem.Addr × PySem.Addr)), List.lookup q.2 (Kt.kOf KX) = none := by
      unfold Kt.kOf
      exact (List.forall_mem_cons.mpr ⟨by kernel_rfl, (List.forall_mem_cons.mpr ⟨by kernel_rfl, (List.forall_mem_cons.mpr ⟨by kernel_rfl, (List.forall_mem_cons.mpr ⟨by kernel_rfl, (fun _ h => nomatch h)⟩)⟩)⟩)⟩)
    have C : ∀ q ∈ ([(128, 124), (93, 89), (114, 110), (121, 117)] : List (PySem.Addr × PySem.Addr)), PySem.W.CodeHd h q.1 q.2 := (List.forall_mem_cons.mpr ⟨PySem.W.codeHd_of_K (c := 128) (P := 124) KX (by kernel_rfl), (List.forall_mem_cons.mpr ⟨PySem.W.codeHd_of_K (c := 93) (P := 89) KX (by kernel_rfl), (List.forall_mem_cons.mpr ⟨PySem.W.codeHd_of_K (c := 114) (P := 110) KX (by kernel_rfl), (List.forall_mem_cons.mpr ⟨PySem.W.codeHd_of_K (c := 121) (P := 117) KX (by kernel_rfl), (fun _ h => nomatch h)⟩)⟩)⟩)⟩)
    refine Kj.law_endT (cs := [(128, 124), (93, 89), (114, 110), (121, 117)]) (sp := K3.spLaw (Kt.kOf KX) [124, 89, 110, 117]) rfl T.d_law K3.bi_law hmg hT nT C (fun H a ns hl hb ht hS => ?_) (fun base TB => ?_)
    · exact ⟨a, ns, rfl, hS, hl, (List.forall_mem_cons.mpr ⟨⟨#[], ht (128, 124) (by simp), trivial⟩, (List.forall_mem_cons.mpr ⟨⟨#[], ht (93, 89) (by simp), trivial⟩, (List.forall_mem_cons.mpr ⟨⟨#[], ht (114, 110) (by simp), trivial⟩, (List.forall_mem_cons.mpr ⟨⟨#[], ht (121, 117) (by simp), trivial⟩, (fun _ h => nomatch h)⟩)⟩)⟩)⟩), fun _ => rfl⟩
    · exact K3.ok_law (base := base) (Ts := [124, 89, 110, 117]) T ⟨⟨128, B_is_figures, TB (128, 124) (by simp)⟩⟩ ⟨⟨93, B_is_name, TB (93, 89) (by simp)⟩⟩ ⟨⟨114, B_is_ascending, TB (114, 110) (by simp)⟩⟩ ⟨⟨121, B_is_names, TB (121, 117) (by simp)⟩⟩ (by simp) (by simp) (by simp) (by simp)
