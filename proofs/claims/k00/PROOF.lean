import PyProof.Rows.All
import Wide.All
import OpenK.AllK
import Wide.FinOn
import HandS.ForMost
import HandS.Wide
import HandS.Rev
import HandS.Ends
import HandS.ExcValue
import HandS.ForExc
import HandS.WideMore
import HandS.More
import HandS.Style
import HandS.IsInst
import HandS.ExcIs
import HandS.TryMany
import HandS.NoneIn
import HandS.EndBits
import HandS.Flow
import HandS.Conv
import HandS.Evl
import PyProof.Seq
import PyProof.Rows.TupIter
import HandS.Base
import HandS.Call
import HandS.Comp
import HandS.Exc
import HandS.ExcOwn
import HandS.ExcCtx
import HandS.Hot
import HandS.HotCalls
import HandS.Gcd
import HandS.TryOnly
import HandS.ExcBuiltin
import PySem.Challenge.RW_docketloom_k00_fractions
set_option Elab.async false
set_option linter.all false
set_option maxRecDepth 100000
set_option maxHeartbeats 4000000
/-! list(reversed(xs)): a new list -/
namespace Rx
open PySem PySem.Spec PyProof.Rows L2 RT
section
variable {prog : Program} {w : World} {A : Around} {E : Value → Shared → Prop} {s : Shared}
theorem grow_rev {G : Result → Shared → Prop} {r l : Addr} {zs : Array Value} (hn0 : A.handled = none) (hr : s.heap.IsRevIter r l ((zs.size : Int) - 1)) (hL : s.heap.IsList l zs) (hd : l ≠ r) (hz : zs.size ≤ sizeLine)
    (D : Addr) (out : Value) (c₀ : Nat) (hD : s.heap.get? D = some { cls := .type "list", data := .seq #[] c₀ }) (hDl : D ≠ l)
    (fin : ∀ g tk acc c1, (∀ b o, b ≠ D → b ≠ r → s.heap.get? b = some o → g.get? b = some o) → g.get? D = some { cls := .type "list", dict := none, data := .seq acc c1, slots := #[] } →
      ItemsOf (fun i v => zs[zs.size - 1 - i]? = some v) acc zs.size → G (.ok (.ret out)) { s with heap := g, toks := tk }) :
    wpAny (model prog w) A.in1 (Builtin.List.listExtendWith (.ref D) (.ref r) out)
      (fun z t => match z with | .done f => G (.ok f) t | .again c => c.quiet = true ∧ codeAny (model prog w) A c G t) (fun e t => G (.error e) t) s := by
  have V := (Walks.listRev (prog := prog) (w := w) (A := A.in1) hn0 r l hd zs).toS
  have hDr : D ≠ r := fun q => by
    obtain ⟨o, ho, hc, _⟩ := id hr
    rw [q, ho] at hD
    rw [Option.some.inj hD] at hc
    simp at hc
  have hout : D ∉ [r, l] := by
    intro hm
    rcases List.mem_cons.mp hm with q | q
    · exact hDr q
    · exact hDl (List.mem_singleton.mp q)
  have hT : s.TypeIs (.ref r) "list_reverseiterator" := hr.typeIs
  have hsame : Builtin.List.listSameRef (.ref D) (.ref r) = false := by simp [Builtin.List.listSameRef, hDr]
  unfold Builtin.List.listExtendWith
  refine wpAny_bind (wpAny_typeOf hT ?_)
  rw [if_neg (by rw [hsame]; decide)]
  refine wpAny_bind (wpAny_pyIter_revIter hr ?_)
  refine wpAny_bind (wpAny_holding ?_)
  unfold Builtin.List.listLengthHint
  refine wpAny_bind (wpAny_specialOf hT nolen_lri ?_)
  show wpAny _ A.in1 (specialOf (Value.ref r) (Str.ofString "__length_hint__") >>= _) _ _ s
  refine wpAny_bind (wpAny_specialOf hT hint_lri ?_)
  generalize hq : ("list_reverseiterator.__length_hint__" : String) = nm
  wp_delta
  rw [show splitId nm = some ("list_reverseiterator", "__length_hint__") from by subst hq; decide +kernel]
  subst hq
  refine wpAny_bind (wpAny_isInstance (b := true) hT (by rw [isSubtype_type]; kernel_rfl) ?_)
  refine wpAny_pure ?_
  rw [if_neg (by decide)]
  have z0 : ((zs.size : Nat) : Int) - 1 - ((0 : Nat) : Int) = (zs.size : Int) - 1 := by omega
  refine wpAny_pure ⟨plainId_quiet F.plain_extend_loop _, codeAny_extend_loopS V hz D hout out zs.size 0 _ _ _ rfl (Nat.zero_le _) ⟨Nat.zero_le _, by rw [z0]; exact hr, hL⟩ hD (ItemsOf.nil _) fun t acc c1 mv hD1 hacc => ?_⟩
  rw [Moved.eq_with mv]
  refine fin t.heap t.toks acc c1 (fun b o hb hbr e => mv.heap b o (fun hm => ?_) e) hD1 hacc
  rcases List.mem_cons.mp hm with q | q
  · exact hb q
  · exact hbr (List.mem_singleton.mp q)
theorem fill_rev {G : Result → Shared → Prop} {r l : Addr} {zs : Array Value} (hn0 : A.handled = none) (hr : s.heap.IsRevIter r l ((zs.size : Int) - 1)) (hL : s.heap.IsList l zs) (hd : l ≠ r) (hz : zs.size ≤ sizeLine)
    (D : Addr) (hD : s.heap.get? D = some { cls := .type "list", data := .seq #[] }) (hDl : D ≠ l) (hDr : D ≠ r)
    (fin : ∀ g tk acc c1, (∀ b o, b ≠ D → b ≠ r → s.heap.get? b = some o → g.get? b = some o) → g.get? D = some { cls := .type "list", dict := none, data := .seq acc c1, slots := #[] } →
      ItemsOf (fun i v => zs[zs.size - 1 - i]? = some v) acc zs.size → G (.ok (.ret .none)) { s with heap := g, toks := tk }) :
    wpAny (model prog w) A.in1 (Builtin.«list.__init__» ⟨[.ref D, .ref r], []⟩)
      (fun z t => match z with | .done f => G (.ok f) t | .again c => c.quiet = true ∧ codeAny (model prog w) A c G t) (fun e t => G (.error e) t) s := by
  show wpAny _ _ (do
    let was ← Builtin.List.listItems (.ref D)
    Builtin.List.listUpdate (.ref D) (fun _ => #[])
    letGo was.toList.reverse
    Builtin.List.listExtendWith (.ref D) (.ref r) .none) _ _ s
  refine wpAny_bind ?_
  unfold Builtin.List.listItems
  refine wpAny_bind (wpAny_seqItems hD rfl (wpAny_pure ?_))
  show wpAny _ _ (updateSeq D (fun _ => #[]) >>= fun _ => letGo (#[] : Array Value).toList.reverse >>= fun _ =>
    Builtin.List.listExtendWith (.ref D) (.ref r) .none) _ _ s
  refine wpAny_bind (wpAny_updateSeq hD rfl ?_)
  have hD2 := Heap.get?_update_self (Obj.mapSeq (fun _ => (#[] : Array Value))) hD rfl
  have kp : ∀ b o, b ≠ D → s.heap.get? b = some o → (s.heap.update D (Obj.mapSeq fun _ => (#[] : Array Value))).get? b = some o := fun b o hb e =>
    (Heap.get?_update_other _ _ (Ne.symm hb)).trans e
  refine wpAny_bind (wpAny_letGo ?_)
  refine grow_rev hn0 (hr.at fun o e => kp r o hDr.symm e) (hL.at fun o e => kp l o hDl.symm e) hd hz D .none _ hD2 hDl fun g tk acc c1 hk hD1 hacc => ?_
  exact fin g tk acc c1 (fun b o hb hbr e => hk b o hb hbr (kp b o hb e)) hD1 hacc
theorem call_list_rev {Q : Value → Shared → Prop} {r l : Addr} {zs : Array Value} (hn0 : A.handled = none) (hr : s.heap.IsRevIter r l ((zs.size : Int) - 1)) (hL : s.heap.IsList l zs) (hd : l ≠ r) (hz : zs.size ≤ sizeLine)
    (fin : ∀ g tk acc c1, (∀ b o, b ≠ r → s.heap.get? b = some o → g.get? b = some o) → g.get? s.heap.objs.size = some { cls := .type "list", dict := none, data := .seq acc c1, slots := #[] } →
      ItemsOf (fun i v => zs[zs.size - 1 - i]? = some v) acc zs.size → Q (.ref s.heap.objs.size) { s with heap := g, toks := tk }) :
    wpAny (model prog w) A (call (.type "list") [.ref r]) Q E s := by
  refine callType_codes (Q₁ := fun ob t => ob = .ref s.heap.objs.size ∧ t = { s with heap := s.heap.push { cls := .type "list", data := .seq #[] } }) F.called_list (F.typeCall_list_1 _) F.entry_list_init
    (code_list_new _ ⟨rfl, rfl⟩) fun ob t ht => ?_
  obtain ⟨rfl, rfl⟩ := ht
  obtain ⟨o1, ho1, _⟩ := id hr
  obtain ⟨o2, ho2, _⟩ := id hL
  have hD : (s.heap.push { cls := .type "list", data := .seq #[] }).get? s.heap.objs.size = some { cls := .type "list", data := .seq #[] } := Heap.get?_push_size _ rfl
  refine ⟨⟨_, hD, rfl⟩, F.args_list_init_2 _ _, fill_rev (A := A.in1) hn0 (hr.at fun o e => Heap.get?_push_of_some _ e) (hL.push _) hd hz _ hD (Nat.ne_of_gt (Heap.lt_size ho2)) (Nat.ne_of_gt (Heap.lt_size ho1)) fun g tk acc c1 hk hD1 hacc => ?_⟩
  exact ⟨rfl, fin g tk acc c1 (fun b o hbr e => hk b o (Nat.ne_of_lt (Heap.lt_size e)) hbr (Heap.get?_push_of_some _ e)) hD1 hacc⟩
end
/-- list(reversed(x)), x a list: what is wanted -/
def tLR (K : PySem.W.Frag) (te : TE) : TE := fun σ H Q => te σ H fun v H1 => ∃ (a : Addr) (xs : List V), v = .ref a ∧ SqL K H1 a xs ∧ ∀ q, H1 q = none → Q (.ref q) (upd H1 q (.lst xs.reverse))
section
variable {X : Cx}
theorem pe_listRev {e : Expr} {te : TE} {p p2 pos pos2 : Pos} (hc : X.calm = true) (hg : Gl X "list") (hm : X.mg "list" = none) (hg2 : Gl X "reversed") (hm2 : X.mg "reversed" = none) (he : PE X e te)
    (hs : starEach [e] X.env = (false, eval e X.env) :: starEach [] X.env := by rfl)
    (hs2 : starEach [.Call (.Name "reversed" p2) [e] [] pos2] X.env = (false, eval (.Call (.Name "reversed" p2) [e] [] pos2) X.env) :: starEach [] X.env := by rfl) :
    PE X (.Call (.Name "list" p) [.Call (.Name "reversed" p2) [e] [] pos2] [] pos) (tLR X.K te) := by
  refine ⟨fun pins s σ H Q I h => ?_⟩
  refine Call_ (ld_blt I hg hm PyProof.Rows.boot_list (PyProof.Rows.callWith_type1 (args_cons (Call_ (ld_blt I hg2 hm2 PyProof.Rows.boot_reversed
    (PyProof.Rows.callWith_type1 (args_cons (thn (he.run pins s σ H _ I h) fun u s1 ⟨v, H1, I1, r1, q1⟩ => args_nil ?_) hs) hs rfl))) hs2) hs2 rfl))
  obtain ⟨a, xs, ev, hq, q⟩ := q1
  subst ev
  obtain rfl : u = Value.ref a := r1
  obtain ⟨its, rv, pl, hz⟩ := I1.list hq
  refine call_reversed_list pl.isList (args_nil ?_)
  have k0 : ∀ b o, s1.heap.get? b = some o → (s1.heap.push (revObj a ((its.toArray.size : Int) - 1))).get? b = some o := fun b o e => Heap.get?_push_of_some _ e
  have J : Inv X pins σ H1 { s1 with heap := s1.heap.push (revObj a ((its.toArray.size : Int) - 1)) } := I1.kept (t' := s1.toks) k0
  obtain ⟨f0, f1, f2, f3, f4, f5⟩ := I1.fpOk (H' := H1) (b := s1.heap.objs.size) (Nat.le_refl _) (I1.hok.fresh (Nat.le_refl _))
  have hl := pl.isList
  obtain ⟨ol, hol, _⟩ := id hl
  have hne : a ≠ s1.heap.objs.size := Nat.ne_of_lt (Heap.lt_size hol)
  have hn : its.toArray.size ≤ sizeLine := by
    rw [List.size_toArray, ← rv.length]
    exact hz
  refine call_list_rev (s := { s1 with heap := s1.heap.push (revObj a ((its.toArray.size : Int) - 1)) }) (I1.ok.hd hc) ⟨_, Heap.get?_push_size _ rfl, rfl, rfl⟩ (hl.push _) hne hn fun g tk acc c1 hk hg1 hi => ?_
  obtain ⟨g2, e1, e2⟩ := restrict g fun b => decide (b ≠ (s1.heap.push (revObj a ((its.toArray.size : Int) - 1))).objs.size)
  have eD := e2 _ (decide_eq_false fun z => z rfl)
  have up : ∀ b o, g2.get? b = some o → g.get? b = some o := fun b o e => by
    by_cases q : b = (s1.heap.push (revObj a ((its.toArray.size : Int) - 1))).objs.size
    · rw [q, eD] at e
      cases e
    · rw [← e1 b (decide_eq_true q)]
      exact e
  have I3 : Inv X pins σ H1 { s1 with heap := g2, toks := tk } := J.turned (t' := tk) (fun b o hb e => by
    rw [e1 b (decide_eq_true (Nat.ne_of_lt (Heap.lt_size e)))]
    exact hk b o hb e) f0 f1 f3 f4 f5
  have hfree : H1 (s1.heap.push (revObj a ((its.toArray.size : Int) - 1))).objs.size = none := J.hok.fresh (Nat.le_refl _)
  exact ⟨.ref _, upd H1 _ (.lst xs.reverse), I3.laidN (t' := tk) up eD hfree (show ObjOk X.prog X.w _ _ _ (.lst xs.reverse) from ⟨by rw [List.length_reverse]; exact hz, acc.toList, c1, vals_rev rv hi, by rw [Array.toArray_toList]; exact hg1⟩), rfl, q _ hfree⟩
end
end Rx
/-! a def by its name, its promise by its name -/
namespace Kt
open PySem PySem.Spec PyProof.Rows L2
structure At (K : PySem.W.Frag) (mg : Str → Option Value) (x : Str) (st : Stmt) : Prop where
  ex : ∃ f fd, Fun K x x st f fd ∧ mg x = some (.ref f)
structure Prom (P : Program) (w : World) (K : PySem.W.Frag) (mg : Str → Option Value) (base : Heap) (CX : CXT) (k : Nat) (x : Str) (ps : List Str) (sp : Sp) : Prop where
  ex : ∃ f fd, mg x = some (.ref f) ∧ PySem.W.keepIn K (.ref f) = true ∧ Binds K fd ps [] ∧ FnOk P w K mg base CX k f fd ps sp ∧ ∃ st, Fun K x x st f fd
structure ExcAt (K : PySem.W.Frag) (mg : Str → Option Value) (x : Str) (C : Addr) : Prop where
  g : mg x = some (.ref C)
  x : PySem.W.excIn K C [.type "ValueError", .type "Exception", .type "BaseException", .type "object"] "ValueError.__new__" = true
  k : PySem.W.keepIn K (.ref C) = true
  b : PySem.W.subIn K (.ref C) (.type "BaseException") = some true
  t : PySem.W.typeIn K (.ref C) = some (.type "type")
  c : ExcC K C
section
variable {P : Program} {w : World} {K : PySem.W.Frag} {mg : Str → Option Value} {base : Heap} {x : Str} {st : Stmt} {N ps : List Str} {k : Nat} {sp : Sp}
abbrev BindH (st : Stmt) (x : Str) (ps : List Str) : Prop := ∀ (kV doc pm : Value) (an : Option Addr) (cdv ct : Value) (us : List Value), us.length = ps.length → bindArgs (PySem.W.fnOf x x (defArgs st) (defBody st) (defScope st) .none kV doc pm an cdv ct) ⟨us, []⟩ = pure (ps.zip us)
theorem At.ok (D : At K mg x st) (S : FnScope N ps (defScope st)) (hb : BindH st x ps) (len : ∀ vs H Q E, sp vs H Q E → vs.length = ps.length)
    (body : ∀ (f : Addr) (cdv : Value) (A : Around) (outer : List Env) (s : Shared) (H : Hp) (vs : List V) (Q : VK) (E : XK), Room k (A.deeper (envOfC x (defScope st) s.heap.objs.size f cdv)) → sp vs H Q E →
      ∃ t, PSs (cxOf CX0 P w K mg base N x (defScope st) f cdv A outer s H E).nox (defBody st) t ∧ t { nx := fun _ H' => Q .non H', rt := Q } (start N vs) H) : Prom P w K mg base CX0 (k + 1) x ps sp := by
  obtain ⟨f, fd, F, g⟩ := D.ex
  exact ⟨f, fd, g, F.kp, F.binds hb, F.ok S len (body f), _, F⟩
theorem At.okX (D : At K mg x st) (S : FnScope N ps (defScope st)) (hb : BindH st x ps) (len : ∀ vs H Q E, sp vs H Q E → vs.length = ps.length)
    (body : ∀ (f : Addr) (cdv : Value) (A : Around) (outer : List Env) (s : Shared) (H : Hp) (vs : List V) (Q : VK) (E : XK), Room k (A.deeper (envOfC x (defScope st) s.heap.objs.size f cdv)) → sp vs H Q E →
      ∃ t, PSs (cxOf (L2.CX P w) P w K mg base N x (defScope st) f cdv A outer s H E) (defBody st) t ∧ t { nx := fun _ H' => Q .non H', rt := Q } (start N vs) H) : Prom P w K mg base (L2.CX P w) (k + 1) x ps sp := by
  obtain ⟨f, fd, F, g⟩ := D.ex
  exact ⟨f, fd, g, F.kp, F.binds hb, F.okX S len (body f), _, F⟩
theorem at_mk {h : Heap} {f : Addr} {oc : Value} {od an : Option Addr} {osl : Array (Option Value)} {kV doc pm cdv ct : Value} (X : K.In h) (G : h.Ns mainGlobals mg) (a : PySem.W.nsIn K mainGlobals x = some (some (.ref f)))
    (l : K.lookup f = some ⟨oc, od, .func (PySem.W.fnOf x x (defArgs st) (defBody st) (defScope st) .none kV doc pm an cdv ct), osl⟩) (c : PySem.W.codeIn K cdv x = true) (k : PySem.W.keepIn K (.ref f) = true) : At K mg x st :=
  ⟨f, _, fun_mk l c k, PySem.W.mg_of X G a⟩
end
section
variable {X : Cx} {CX : CXT} {j k : Nat} {x : Str} {ps : List Str} {sp : Sp} {E : XK} {W : WX} {p pos : Pos} {e : Expr} {es : List Expr} {t : TA}
/-- a call of a def that raises nothing -/
theorem pcall (hr : Room k X.A) (F : Prom X.prog X.w X.K X.mg X.base CX0 j x ps sp) (ha : PA X (e :: es) t) (hg : Gl X x := by rfl) (hj : j ≤ k := by decide) (hdb : (x == ("__debug__" : Str)) = false := by decide)
    (he : starEach (e :: es) X.env = (false, eval e X.env) :: starEach es X.env := by rfl) (hpl : (backTo pos (starEach es X.env)).any (·.1) = false := by rfl) : PE X (.Call (.Name x p) (e :: es) [] pos) (tCall sp [] E0 t) := by
  obtain ⟨f, fd, g, kp, b, G, _⟩ := F.ex
  exact pe_call G (hr.mono hj) hg g kp b .nil pass0 ha hdb he hpl
/-- a call of a def that may raise, here it does not -/
theorem pcallN (hr : Room k X.A) (F : Prom X.prog X.w X.K X.mg X.base (L2.CX X.prog X.w) j x ps sp) (ha : PA X (e :: es) t) (hg : Gl X x := by rfl) (hj : j ≤ k := by decide) (hdb : (x == ("__debug__" : Str)) = false := by decide)
    (he : starEach (e :: es) X.env = (false, eval e X.env) :: starEach es X.env := by rfl) (hpl : (backTo pos (starEach es X.env)).any (·.1) = false := by rfl) : PE X (.Call (.Name x p) (e :: es) [] pos) (tCall sp [] E0 t) := by
  obtain ⟨f, fd, g, kp, b, G, _⟩ := F.ex
  exact pe_call G (hr.mono hj) hg g kp b .nil passL ha hdb he hpl
/-- a call of a def that may raise, within a def that may, or in a try: what is raised is wished at the slots -/
theorem pcallX (hr : Room k X.A) (F : Prom X.prog X.w X.K X.mg X.base (L2.CX X.prog X.w) j x ps sp) (tk : Takes X W) (ha : PA X (e :: es) t) (hg : Gl X x := by rfl) (hj : j ≤ k := by decide) (hdb : (x == ("__debug__" : Str)) = false := by decide)
    (he : starEach (e :: es) X.env = (false, eval e X.env) :: starEach es X.env := by rfl) (hpl : (backTo pos (starEach es X.env)).any (·.1) = false := by rfl) : PE X (.Call (.Name x p) (e :: es) [] pos) (tCallS sp (WE W) t) := by
  obtain ⟨f, fd, g, kp, b, G, _⟩ := F.ex
  exact pe_callS G (hr.mono hj) hg g kp b (fun σ => passAt tk σ) ha hdb he hpl
end
theorem pe_gi {X : Cx} {x : Str} {n : Int} {t : Tok} {pos : Pos} (hm : X.mg x = some (.int n t)) (hg : Gl X x := by rfl) (hdb : (x == ("__debug__" : Str)) = false := by decide) : PE X (.Name x pos) (tC (.int n)) := pe_glob (hd := hdb) hg hm ⟨_, rfl⟩
/-- what a def of one's own frame lets out -/
abbrev wOut (E : XK) : WX := fun cls d _ H => E cls d H
end Kt
namespace Kt
open PySem PySem.Spec PyProof.Rows L2
/-- a promise that is never asked -/
theorem At.never {P : Program} {w : World} {K : PySem.W.Frag} {mg : Str → Option Value} {base : Heap} {x : Str} {st : Stmt} {ps : List Str} {CX : CXT} (D : At K mg x st) (hb : BindH st x ps) : Prom P w K mg base CX 0 x ps (fun _ _ _ _ => False) := by
  obtain ⟨f, fd, F, g⟩ := D.ex
  exact ⟨f, fd, g, F.kp, F.binds hb, ⟨fun _ _ _ _ z => z.elim, fun _ _ _ _ _ _ _ _ _ _ _ _ _ z => z.elim⟩, _, F⟩
/-- a turn of a comprehension without a test -/
theorem lcy {σ : L2.St} {H : Hp} {A B : Bool → Hp → Prop} (h : A true H) : tYes σ H fun b H3 => if b = true then A b H3 else B b H3 := by
  show (if true = true then A true H else B true H)
  rw [if_pos rfl]
  exact h
/-- a comprehension over a range with a step -/
theorem lc_rngC {lo c : Int} {n : Nat} {g : TG} {tt : TT} {te : TE} {vs : List Nat} {σ : L2.St} {H1 : Hp} {D : Addr} {Qd : Hp → Prop} (Pv : Nat → Hp → Prop) (start : Pv 0 (upd H1 D (.lst [])))
    (turn : ∀ i H, i < n → Pv i H → g (.int (lo + (i : Nat) * c)) (wipe σ vs) H fun σ2 H2 => wipe σ2 vs = wipe σ vs ∧ tt σ2 H2 fun b H3 =>
      if b = true then te σ2 H3 fun y H4 => ∃ acc, H4 D = some (.lst acc) ∧ acc.length < sizeLine ∧ Pv (i + 1) (upd H4 D (.lst (acc ++ [y]))) else Pv (i + 1) H3) (fin : ∀ H, Pv n H → Qd H) :
    ∃ W : Nat → Nat → Hp → Prop, (∃ m, W 0 m (upd H1 D (.lst []))) ∧ ∀ i m H, W i m H →
      ((Itc lo c n).stop i H ∧ Qd H) ∨ ((Itc lo c n).go i H ∧ ∃ Nx : Hp → Prop, (∀ H', Nx H' → ∃ m', m' < m ∧ W (i + 1) m' H') ∧ ∀ x H', (Itc lo c n).yld i H x H' → g x (wipe σ vs) H' fun σ2 H2 => wipe σ2 vs = wipe σ vs ∧ tt σ2 H2 fun b H3 =>
        if b = true then te σ2 H3 fun y H4 => ∃ acc, H4 D = some (.lst acc) ∧ acc.length < sizeLine ∧ Nx (upd H4 D (.lst (acc ++ [y]))) else Nx H3) := by
  refine ⟨fun j k G => k = n - j ∧ j ≤ n ∧ Pv j G, ⟨n, by simp, Nat.zero_le _, start⟩, ?_⟩
  rintro j k G ⟨rfl, hj, pj⟩
  by_cases lt : j < n
  · refine .inr ⟨lt, Pv (j + 1), fun G' p' => ⟨n - (j + 1), by omega, rfl, lt, p'⟩, fun v G' yy => ?_⟩
    obtain ⟨e1, e2⟩ := yy
    subst e1 e2
    exact turn j _ lt pj
  · have ej : j = n := by omega
    subst ej
    exact .inl ⟨Nat.le_refl _, fin G pj⟩
/-- range(0, y, c) -/
theorem rgc {y c : Int} (h0 : 0 ≤ y) (h1 : y < 2 ^ 40) (c1 : 1 ≤ c) (c2 : c < 1000000000) : RgC 0 y c ((y + c - 1) / c).toNat := by
  have q := rangeSize_pos (len := y) (c := c) c1 h0
  have z : 0 ≤ (y + c - 1) / c := Int.ediv_nonneg (by omega) (by omega)
  have z2 : (y + c - 1) / c ≤ y + c - 1 := Int.ediv_le_self c (by omega)
  refine ⟨by omega, by omega, ?_, by rw [q]; omega⟩
  unfold Builtin.Range.small
  rw [q]
  simp only [Builtin.Range.rangeFitsLong, Bool.and_eq_true, Bool.or_eq_true, decide_eq_true_eq, beq_iff_eq]
  generalize (y + c - 1) / c = d at z z2
  rw [if_pos (show c > 0 by omega)]
  exact ⟨by omega, .inr (by rw [Bool.and_eq_true, decide_eq_true_eq, decide_eq_true_eq]; omega)⟩
/-! plain data -/
inductive Dd where
  | non | bl (b : Bool) | int (i : Int) | str (s : Str) | tup (xs : List Dd) | lst (xs : List Dd)
mutual
def Rep (H : Hp) : Dd → V → Prop
  | .non, v => v = .non
  | .bl b, v => v = .bl b
  | .int i, v => v = .int i
  | .str s, v => v = .str s
  | .tup ds, v => ds.length ≤ 1000000 ∧ ∃ a xs, v = .ref a ∧ H a = some (.tup xs) ∧ RepL H ds xs
  | .lst ds, v => ds.length ≤ 1000000 ∧ ∃ a xs, v = .ref a ∧ H a = some (.lst xs) ∧ RepL H ds xs
def RepL (H : Hp) : List Dd → List V → Prop
  | [], xs => xs = []
  | d :: ds, xs => ∃ v r, xs = v :: r ∧ Rep H d v ∧ RepL H ds r
end
mutual
def dep : Dd → Nat
  | .tup ds => depL ds + 1
  | .lst ds => depL ds + 1
  | _ => 0
def depL : List Dd → Nat
  | [] => 0
  | d :: ds => max (dep d) (depL ds)
end
theorem RepL.len {H : Hp} : ∀ {ds : List Dd} {xs : List V}, RepL H ds xs → xs.length = ds.length
  | [], xs, h => by
    unfold RepL at h
    subst h
    rfl
  | d :: ds, xs, h => by
    unfold RepL at h
    obtain ⟨v, r, rfl, _, h2⟩ := h
    rw [List.length_cons, List.length_cons, RepL.len h2]
theorem RepL.at {H : Hp} : ∀ {ds : List Dd} {xs : List V} (i : Nat), RepL H ds xs → i < ds.length → ∃ d v, ds[i]? = some d ∧ xs[i]? = some v ∧ Rep H d v ∧ dep d ≤ depL ds
  | [], _, _, _, hi => absurd hi (Nat.not_lt_zero _)
  | d :: ds, xs, i, h, hi => by
    unfold RepL at h
    obtain ⟨v, r, rfl, h1, h2⟩ := h
    cases i with
    | zero => exact ⟨d, v, rfl, rfl, h1, by unfold depL; exact Nat.le_max_left _ _⟩
    | succ i =>
      obtain ⟨d', v', e1, e2, h3, h4⟩ := RepL.at i h2 (by rw [List.length_cons] at hi; omega)
      exact ⟨d', v', e1, e2, h3, by unfold depL; exact Nat.le_trans h4 (Nat.le_max_right _ _)⟩
def Dd.ty : Dd → String
  | .non => "NoneType"
  | .bl _ => "bool"
  | .int _ => "int"
  | .str _ => "str"
  | .tup _ => "tuple"
  | .lst _ => "list"
def Dd.isTup : Dd → Bool
  | .tup _ => true
  | _ => false
def Dd.isLst : Dd → Bool
  | .lst _ => true
  | _ => false
def Dd.isBl : Dd → Bool
  | .bl _ => true
  | _ => false
def Dd.isInt : Dd → Bool
  | .bl _ => true
  | .int _ => true
  | _ => false
def Dd.isStr : Dd → Bool
  | .str _ => true
  | _ => false
theorem Rep.tyx {K : PySem.W.Frag} {H : Hp} {d : Dd} {v : V} (h : Rep H d v) : TyX K H v (.type d.ty) := by
  cases d with
  | non => unfold Rep at h; subst h; exact .base .non
  | bl b => unfold Rep at h; subst h; exact .base (.bl b)
  | int i => unfold Rep at h; subst h; exact .base (.int i)
  | str s => unfold Rep at h; subst h; exact .base (.str s)
  | tup ds => unfold Rep at h; obtain ⟨_, a, xs, rfl, e, _⟩ := h; exact .base (.tup e)
  | lst ds => unfold Rep at h; obtain ⟨_, a, xs, rfl, e, _⟩ := h; exact .base (.lst e)
theorem kit_tuple {K : PySem.W.Frag} (d : Dd) : PySem.W.kitOne K (.type d.ty) (.type "tuple") = some d.isTup := match d with
  | .non => kit_ty (show kitB "NoneType" "tuple" = some false by decide +kernel)
  | .bl _ => kit_ty (show kitB "bool" "tuple" = some false by decide +kernel)
  | .int _ => kit_ty (show kitB "int" "tuple" = some false by decide +kernel)
  | .str _ => kit_ty (show kitB "str" "tuple" = some false by decide +kernel)
  | .tup _ => kit_ty (show kitB "tuple" "tuple" = some true by decide +kernel)
  | .lst _ => kit_ty (show kitB "list" "tuple" = some false by decide +kernel)
theorem kit_list {K : PySem.W.Frag} (d : Dd) : PySem.W.kitOne K (.type d.ty) (.type "list") = some d.isLst := match d with
  | .non => kit_ty (show kitB "NoneType" "list" = some false by decide +kernel)
  | .bl _ => kit_ty (show kitB "bool" "list" = some false by decide +kernel)
  | .int _ => kit_ty (show kitB "int" "list" = some false by decide +kernel)
  | .str _ => kit_ty (show kitB "str" "list" = some false by decide +kernel)
  | .tup _ => kit_ty (show kitB "tuple" "list" = some false by decide +kernel)
  | .lst _ => kit_ty (show kitB "list" "list" = some true by decide +kernel)
theorem kit_bool {K : PySem.W.Frag} (d : Dd) : PySem.W.kitOne K (.type d.ty) (.type "bool") = some d.isBl := match d with
  | .non => kit_ty (show kitB "NoneType" "bool" = some false by decide +kernel)
  | .bl _ => kit_ty (show kitB "bool" "bool" = some true by decide +kernel)
  | .int _ => kit_ty (show kitB "int" "bool" = some false by decide +kernel)
  | .str _ => kit_ty (show kitB "str" "bool" = some false by decide +kernel)
  | .tup _ => kit_ty (show kitB "tuple" "bool" = some false by decide +kernel)
  | .lst _ => kit_ty (show kitB "list" "bool" = some false by decide +kernel)
theorem kit_int {K : PySem.W.Frag} (d : Dd) : PySem.W.kitOne K (.type d.ty) (.type "int") = some d.isInt := match d with
  | .non => kit_ty (show kitB "NoneType" "int" = some false by decide +kernel)
  | .bl _ => kit_ty (show kitB "bool" "int" = some true by decide +kernel)
  | .int _ => kit_ty (show kitB "int" "int" = some true by decide +kernel)
  | .str _ => kit_ty (show kitB "str" "int" = some false by decide +kernel)
  | .tup _ => kit_ty (show kitB "tuple" "int" = some false by decide +kernel)
  | .lst _ => kit_ty (show kitB "list" "int" = some false by decide +kernel)
theorem kit_str {K : PySem.W.Frag} (d : Dd) : PySem.W.kitOne K (.type d.ty) (.type "str") = some d.isStr := match d with
  | .non => kit_ty (show kitB "NoneType" "str" = some false by decide +kernel)
  | .bl _ => kit_ty (show kitB "bool" "str" = some false by decide +kernel)
  | .int _ => kit_ty (show kitB "int" "str" = some false by decide +kernel)
  | .str _ => kit_ty (show kitB "str" "str" = some true by decide +kernel)
  | .tup _ => kit_ty (show kitB "tuple" "str" = some false by decide +kernel)
  | .lst _ => kit_ty (show kitB "list" "str" = some false by decide +kernel)
/-- isinstance(e, c), e the error that the suite holds; its class is told by the reading -/
def rIsG (K : PySem.W.Frag) (cls : Value) (d : Option Addr) (a : Addr) : List V → Hp → VK → Prop := fun xs H Q => ∃ (D : Addr), cls = .ref D ∧ d = none ∧ ExcC K D ∧ rIsE K D a xs H Q
theorem call_isG {X : Cx} {a : Addr} {cls : Value} {d : Option Addr} {oe : Obj} {pn : List (Addr × Obj)} (hz : Zc cls d oe) (hf : ∃ vs, oe.data = .fields vs) : CallR (X.suite a ((a, oe) :: pn)) (.builtin "isinstance") (rIsG X.K cls d a) := by
  intro pins s σ H xs us Q I r h
  obtain ⟨D, rfl, rfl, C, h⟩ := h
  exact call_isE C hz hf pins s σ H xs us Q I r h
theorem kit_self {K : PySem.W.Frag} (D : Addr) : PySem.W.kitOne K (.ref D) (.ref D) = some true := by
  unfold PySem.W.kitOne
  rw [if_pos (by simp)]
/-- except C, the error's class D below it -/
theorem exm_up {K : PySem.W.Frag} {C D : Addr} {mg : Str → Option Value} {x : Str} (c : ExcAt K mg x C) (h : PySem.W.subIn K (.ref D) (.ref C) = some true) : PySem.W.exmOne K (.ref D) (.ref C) = some true :=
  PySem.W.exm_ref c.b c.c.hd c.t h
/-- a law's own promise, over every base -/
theorem law_end {P : Program} {w : World} {K : PySem.W.Frag} {mg : Str → Option Value} {fa : Addr} {st : Stmt} {k : Nat} {sp : Sp} {x p : Str} (D : At K mg x st) (hb : BindH st x [p]) (hfa : mg x = some (.ref fa))
    (F : ∀ base : Heap, Prom P w K mg base CX0 k x [p] sp) :
    ∃ fd : FuncData, (∀ (s : Shared) (v : Value), BindsTo s fd ⟨[v], []⟩ [(p, v)]) ∧ ∀ base : Heap, K.In base → base.Ns mainGlobals mg → FnOk P w K mg base CX0 k fa fd [p] sp := by
  obtain ⟨f, fd, F0, g⟩ := D.ex
  have e : f = fa := by
    rw [g] at hfa
    cases hfa
    rfl
  subst e
  obtain ⟨oc, od, kV, doc, pm, an, cdv, ct, osl, e1, lk, hcd⟩ := F0.ex
  refine ⟨fd, fun s v => .of_eq (by rw [e1]; exact hb kV doc pm an cdv ct [v] rfl), fun base _ _ => ?_⟩
  obtain ⟨f', fd', g', _, _, G', st', F'⟩ := (F base).ex
  have e2 : f' = f := by
    rw [g'] at g
    cases g
    rfl
  subst e2
  obtain ⟨_, _, _, _, _, _, _, _, _, _, lk', _⟩ := F'.ex
  have e3 : fd' = fd := by
    rw [lk] at lk'
    cases lk'
    rfl
  subst e3
  exact G'
theorem tup_mk {K : PySem.W.Frag} {a : Addr} {od : Option Addr} {its : Array Value} {n : Nat} {sl : Array (Option Value)} {xs : List V} (l : K.lookup a = some ⟨.type "tuple", od, .seq its n, sl⟩) (hz : its.size ≤ sizeLine) (v : Vals xs its.toList) (H : Hp) : SqT K H a xs :=
  .inr ⟨_, its, n, l, rfl, rfl, hz, v⟩
theorem exc_mk {K : PySem.W.Frag} {h : Heap} {mg : Str → Option Value} {x : Str} {C : Addr} (X : K.In h) (G : h.Ns mainGlobals mg) (a : PySem.W.nsIn K mainGlobals x = some (some (.ref C)))
    (q : PySem.W.excIn K C [.type "ValueError", .type "Exception", .type "BaseException", .type "object"] "ValueError.__new__" = true) (k : PySem.W.keepIn K (.ref C) = true) (b : PySem.W.subIn K (.ref C) (.type "BaseException") = some true) (t : PySem.W.typeIn K (.ref C) = some (.type "type"))
    (hg : PySem.W.findIn K (.ref C) "__getattribute__" = some (some (.builtin "BaseException.__getattribute__"))) (hk : PySem.W.findIn K (.ref C) "__getattr__" = some none) (hd : PySem.W.hasDictIn K C = true)
    (ha : PySem.W.findIn K (.ref C) "__class__" = some (some (.builtin "object.__class__"))) (hn : PySem.W.specialIn K (.builtin "object.__class__") "__get__" = some (some (.builtin "getset_descriptor.__get__")))
    (ht : PySem.W.takesIn K (.builtin "object.__class__") = some true) (hm : PySem.W.mroIn K C (.type "object") = some true) : ExcAt K mg x C :=
  ⟨PySem.W.mg_of X G a, q, k, b, t, ⟨hg, hk, b, hd, ha, hn, ht, hm⟩⟩
/-- the written part that a fact speaks of -/
abbrev kOf {K : PySem.W.Frag} {h : Heap} (_ : K.In h) : PySem.W.Frag := K
theorem int_mk {K : PySem.W.Frag} {h : Heap} {mg : Str → Option Value} {x : Str} {n : Int} {t : Tok} (X : K.In h) (G : h.Ns mainGlobals mg) (a : PySem.W.nsIn K mainGlobals x = some (some (.int n t))) : ∃ t, mg x = some (.int n t) := ⟨t, PySem.W.mg_of X G a⟩
theorem tupg_mk {K : PySem.W.Frag} {h : Heap} {mg : Str → Option Value} {x : Str} {a : Addr} {od : Option Addr} {its : Array Value} {n : Nat} {sl : Array (Option Value)} {xs : List V} (X : K.In h) (G : h.Ns mainGlobals mg)
    (e : PySem.W.nsIn K mainGlobals x = some (some (.ref a))) (l : K.lookup a = some ⟨.type "tuple", od, .seq its n, sl⟩) (hz : its.size ≤ sizeLine) (v : Vals xs its.toList) : ∃ a, mg x = some (.ref a) ∧ ∀ H, SqT K H a xs :=
  ⟨a, PySem.W.mg_of X G e, fun H => tup_mk l hz v H⟩
theorem ex_mk {α : Type} {R : α → Prop} {a : α} (h : R a) : ∃ a, R a := ⟨a, h⟩
end Kt
/-! while an error is handled: the end of a list's walk, a tuple unpacked, a comprehension over a list -/
namespace Kh
open PySem PySem.Spec PyProof.Rows L2 L2H HotX
section
variable {prog : Program} {w : World} {A : Around} {E : Value → Shared → Prop} {s : Shared}
theorem list_end_hot {it l x1 : Addr} {i : Nat} {items : Array Value} {Q : Option Value → Shared → Prop} (hot : HotAt A x1 s.heap) (hne : x1 ≠ it)
    (hit : s.heap.IsListIter it l i) (hl : s.heap.IsList l items) (hx : items[i]? = none)
    (hQ : ∀ h', Heap.ExtBut it s.heap h' → Q none { s with heap := h' }) : wpAny (model prog w) A (pyNext (.ref it)) Q E s := by
  obtain ⟨o, ho, hc, hd⟩ := id hit
  obtain ⟨ol, hol, _, nl, hdl⟩ := hl
  obtain ⟨hh, o1, vs1, h1, d1, c1⟩ := hot
  unfold pyNext
  refine wpAny_bind (wpAny_attempt (wpAny_callSpecial?_slot (name := Str.ofString "__next__") hit.typeIs slot_listiter_next
    (wpAny_call_entry slot_listiter_next hit.typeIs entry_listiter_next ?_ (args_listiter_next _))))
  show wpAny _ _ (field (.ref it) 0 >>= _) _ _ s
  refine wpAny_bind (wpAny_field ho hd (x := .ref l) rfl ?_)
  show wpAny _ _ (if (Value.ref l == Value.none) = true then _ else _) _ _ s
  rw [if_neg (show ¬ ((Value.ref l == Value.none) = true) from Bool.false_ne_true)]
  show wpAny _ _ (field (.ref it) 1 >>= _) _ _ s
  refine wpAny_bind (wpAny_field ho hd (x := .int i 0) rfl ?_)
  show wpAny _ _ (seqItems? (.ref l) >>= _) _ _ s
  refine wpAny_bind (wpAny_seqItems hol hdl ?_)
  simp only [Int.toNat_natCast, hx]
  refine wpAny_bind (wpAny_rule (wpAny_bind (wpAny_setField ho hd (by simp) ?_)))
  show wpAny _ _ (newExc (.type "StopIteration") [] >>= _) _ _ _
  refine wpAny_bind ?_
  simp only [newExc, newTuple]
  refine wpAny_bind (wpAny_newObj_type ?_ (by size_fits))
  refine wpAny_bind (m := firstArgMember _ _) (wpAny_of_eq (a := Value.none) (by first | rfl | (simp only [firstArgMember]; rfl)) ?_)
  refine wpAny_newObj_type ?_ (by size_fits)
  have h1' := (Heap.SameBut.update s.heap it (Obj.mapFields fun x => x.setIfInBounds 0 Value.none)).extBut x1 o1 hne h1
  refine raiseNew_hot ⟨hh, o1, vs1, Heap.get?_push_of_some _ (Heap.get?_push_of_some _ h1'), d1, c1⟩ (Nat.ne_of_lt (Heap.lt_size (Heap.get?_push_of_some _ h1'))) (Heap.get?_push_size _ rfl) rfl (by first | (simp; done) | (simp; omega) | (simp only [Array.size_append]; simp; omega)) ?_
  refine wpAny_bind (wpAny_isInstance (T := "StopIteration") (b := true) ⟨_, Heap.get?_update_self _ (Heap.get?_push_size _ rfl) rfl, rfl⟩ isSubtype_stop ?_)
  refine wpAny_pure (hQ _ fun b o hb e => ?_)
  have e' := (Heap.SameBut.update s.heap it (Obj.mapFields fun x => x.setIfInBounds 0 Value.none)).extBut b o hb e
  rw [Heap.get?_update_other _ _ (Nat.ne_of_gt (Heap.lt_size (Heap.get?_push_of_some _ e')))]
  exact Heap.get?_push_of_some _ (Heap.get?_push_of_some _ e')
theorem tuple_end_hot {it t x1 : Addr} {i : Nat} {items : Array Value} {Q : Option Value → Shared → Prop} (hot : HotAt A x1 s.heap) (hne : x1 ≠ it)
    (hit : IsTupIter s.heap it t i) (ht : IsTup s.heap t items) (hx : items[i]? = none)
    (hQ : ∀ h', Heap.ExtBut it s.heap h' → Q none { s with heap := h' }) : wpAny (model prog w) A (pyNext (.ref it)) Q E s := by
  obtain ⟨o, ho, hc, hd⟩ := id hit
  obtain ⟨ol, hol, _, nl, hdl⟩ := ht
  obtain ⟨hh, o1, vs1, h1, d1, c1⟩ := hot
  unfold pyNext
  refine wpAny_bind (wpAny_attempt (wpAny_callSpecial?_slot (name := Str.ofString "__next__") hit.typeIs slot_tupleiter_next
    (wpAny_call_entry slot_tupleiter_next hit.typeIs entry_tupleiter_next ?_ (args_tupleiter_next _))))
  show wpAny _ _ (field (.ref it) 0 >>= _) _ _ s
  refine wpAny_bind (wpAny_field ho hd (x := .ref t) rfl ?_)
  show wpAny _ _ (if (Value.ref t == Value.none) = true then _ else _) _ _ s
  rw [if_neg (show ¬ ((Value.ref t == Value.none) = true) from Bool.false_ne_true)]
  show wpAny _ _ (field (.ref it) 1 >>= _) _ _ s
  refine wpAny_bind (wpAny_field ho hd (x := .int i 0) rfl ?_)
  show wpAny _ _ (seqItems? (.ref t) >>= _) _ _ s
  refine wpAny_bind (wpAny_seqItems hol hdl ?_)
  simp only [Int.toNat_natCast, hx]
  refine wpAny_bind (wpAny_rule (wpAny_bind (wpAny_setField ho hd (by simp) ?_)))
  show wpAny _ _ (newExc (.type "StopIteration") [] >>= _) _ _ _
  refine wpAny_bind ?_
  simp only [newExc, newTuple]
  refine wpAny_bind (wpAny_newObj_type ?_ (by size_fits))
  refine wpAny_bind (m := firstArgMember _ _) (wpAny_of_eq (a := Value.none) (by first | rfl | (simp only [firstArgMember]; rfl)) ?_)
  refine wpAny_newObj_type ?_ (by size_fits)
  have h1' := (Heap.SameBut.update s.heap it (Obj.mapFields fun x => x.setIfInBounds 0 Value.none)).extBut x1 o1 hne h1
  refine raiseNew_hot ⟨hh, o1, vs1, Heap.get?_push_of_some _ (Heap.get?_push_of_some _ h1'), d1, c1⟩ (Nat.ne_of_lt (Heap.lt_size (Heap.get?_push_of_some _ h1'))) (Heap.get?_push_size _ rfl) rfl (by first | (simp; done) | (simp; omega) | (simp only [Array.size_append]; simp; omega)) ?_
  refine wpAny_bind (wpAny_isInstance (T := "StopIteration") (b := true) ⟨_, Heap.get?_update_self _ (Heap.get?_push_size _ rfl) rfl, rfl⟩ isSubtype_stop ?_)
  refine wpAny_pure (hQ _ fun b o hb e => ?_)
  have e' := (Heap.SameBut.update s.heap it (Obj.mapFields fun x => x.setIfInBounds 0 Value.none)).extBut b o hb e
  rw [Heap.get?_update_other _ _ (Nat.ne_of_gt (Heap.lt_size (Heap.get?_push_of_some _ e')))]
  exact Heap.get?_push_of_some _ (Heap.get?_push_of_some _ e')
theorem HotAt.ext {x1 b : Addr} {h h' : Heap} (hot : HotAt A x1 h) (hne : x1 ≠ b) (k : Heap.ExtBut b h h') : HotAt A x1 h' := by
  obtain ⟨hh, o1, vs1, h1, d1, c1⟩ := hot
  exact ⟨hh, o1, vs1, k x1 o1 hne h1, d1, c1⟩
theorem HotAt.lt {x1 : Addr} {h : Heap} (hot : HotAt A x1 h) : x1 < h.objs.size := by
  obtain ⟨hh, o1, vs1, h1, d1, c1⟩ := hot
  exact Heap.lt_size h1
theorem HotAt.push {x1 : Addr} {h : Heap} {o : Obj} (hot : HotAt A x1 h) : HotAt A x1 (h.push o) := by
  obtain ⟨hh, o1, vs1, h1, d1, c1⟩ := hot
  exact ⟨hh, o1, vs1, Heap.get?_push_of_some _ h1, d1, c1⟩
theorem unpackItems_hot {t x1 : Addr} {items : Array Value} {Q : List Value → Shared → Prop} (hot : HotAt A x1 s.heap) (ht : IsTup s.heap t items)
    (hQ : ∀ h', Heap.ExtBut s.heap.objs.size s.heap h' → Q items.toList { s with heap := h' }) : wpAny (model prog w) A (unpackItems (.ref t) items.size none) Q E s := by
  have hlt : t ≠ s.heap.objs.size := by obtain ⟨o, ho, _⟩ := ht; exact Nat.ne_of_lt (Heap.lt_size ho)
  have hx1 : x1 ≠ s.heap.objs.size := Nat.ne_of_lt (HotAt.lt hot)
  unfold unpackItems
  refine wpAny_bind ?_
  · unfold notIterableAtAll
    refine wpAny_bind (wpAny_specialOf ht.typeIs slot_tuple_iter.lookup ?_)
    refine wpAny_pure ?_
    simp only [Bool.false_eq_true, if_false]
    refine wpAny_bind (wpAny_holding (iter_tuple ht ?_))
    refine wpAny_bind (wpAny_holding (draw_tuple hlt items.size 0 _ _ ⟨_, Heap.get?_push_size _ rfl, rfl, rfl⟩ (ht.push _) (by omega) fun h₁ hit₁ hs₁ => ?_))
    have hall : List.take items.size (List.drop 0 items.toList) = items.toList := by
      rw [List.drop_zero]; exact List.take_of_length_le (by simp)
    rw [hall]
    rw [if_neg (by simp)]
    have ht₁ : IsTup h₁ t items := (ht.push _).extBut hs₁.extBut hlt
    refine wpAny_bind (wpAny_holding (tuple_end_hot (s := { s with heap := h₁ }) (x1 := x1) (HotAt.ext (HotAt.push hot) hx1 hs₁.extBut) hx1 hit₁ ht₁ (by simp) fun h₂ he₂ => ?_))
    simp only [Option.isSome_none, Bool.false_eq_true, if_false]
    refine wpAny_pure (hQ h₂ fun b o hb e => he₂ b o hb (hs₁.extBut b o hb (Heap.get?_push_of_some _ e)))
theorem assign_tup_hot {env : Env} {elts : List Expr} {k} {pos : Pos} {t x1 : Addr} {items : Array Value} {Q : Unit → Shared → Prop} (hot : HotAt A x1 s.heap) (ht : IsTup s.heap t items)
    (hn : (assignEach elts env).length = items.size) (hstar : (assignEach elts env).findIdx? (·.1) = none)
    (h : ∀ h', Heap.ExtBut s.heap.objs.size s.heap h' → wpAny (model prog w) A (assignInOrder ((assignEach elts env).map (·.2)) items.toList) Q E { s with heap := h' }) :
    wpAny (model prog w) A (assign (.Tuple elts k pos) env (.ref t)) Q E s := by
  rw [assign_Tuple]
  refine wpAny_bind (wpAny_standAt ?_)
  unfold unpack
  rw [hn, hstar]
  exact wpAny_bind (wpAny_holding (unpackItems_hot hot ht h))
end
/-- (a, b, ..) = a tuple of that length -/
theorem pg_tupH {X : Cx} {pos : Pos} {es : List Expr} {k : Nat} {t : TGs} {n : Nat} (hc : HotC X) (h : PGs X es t)
    (hn : (assignEach es X.env).length = n := by rfl) (hst : (assignEach es X.env).findIdx? (·.1) = none := by rfl) : PG X (.Tuple es k pos) (gTup X.K n t) := by
  refine ⟨fun pins s σ H v u Q I r hw => ?_⟩
  obtain ⟨a, xs, e1, hq, hl, hw⟩ := hw
  subst e1
  cases r
  obtain ⟨its, rv, ht, hz⟩ := I.tuple hq
  obtain ⟨x1, hot⟩ := hc.at I
  refine assign_tup_hot hot ht (by simp [hn, ← hl, rv.length]) hst fun h' hx => ?_
  have I1 : Inv X pins σ H { s with heap := h' } := I.kept (t' := s.toks) fun b o e => hx b o (Nat.ne_of_lt (Heap.lt_size e)) e
  exact h.run pins _ σ H xs _ Q I1 (by simpa using rv) hw
/-- the walk of a list -/
theorem turn_listH {P : Program} {w : World} {K : PySem.W.Frag} {tg : Expr} (a it : Addr) : TurnH P w K tg (Itl K a) [it] it (fun i h => h.IsListIter it a i) where
  mem := by simp
  obj := (turn_list (P := P) (w := w) (K := K) (tg := tg) a it).obj
  keep := (turn_list (P := P) (w := w) (K := K) (tg := tg) a it).keep
  item := by
    intro X hP hw hK hc i pins s σ H E I hf st hg
    subst hP hw hK
    obtain ⟨xs, x, hq, hx⟩ := hg
    obtain ⟨its, rv, p, hz⟩ := I.list hq
    obtain ⟨u, hu, ru⟩ := rv.get hx
    obtain ⟨f0, f1, f2, f3, f4, f5⟩ := hf it (by simp)
    refine wpAny_pyNext_list_item st p.isList (x := u) (by simpa using hu) fun h' st' sb => ?_
    have I1 : Inv X pins σ H { s with heap := h' } := I.turned (t' := s.toks) (fun b o hb e => (sb.2 b hb).trans e) f0 f1 f3 f4 f5
    obtain ⟨o, e, c, d⟩ := id st'
    exact ⟨u, rfl, go_of (s := { s with heap := h' }) e c d (by decide) ⟨x, H, I1, ru, ⟨rfl, fun ys hy => by rw [I.list_inj hy hq]; exact hx⟩, st', fun b hb => (hf b hb).1⟩⟩
  done := by
    intro X hP hw hK hc i pins s σ H E I hf st hg
    subst hP hw hK
    obtain ⟨xs, hq, hx⟩ := hg
    obtain ⟨its, rv, p, hz⟩ := I.list hq
    obtain ⟨f0, f1, f2, f3, f4, f5⟩ := hf it (by simp)
    have hl := rv.length
    obtain ⟨q, ⟨hh, v1, e1, c1⟩, hqp⟩ := hc
    have hot : HotAt X.A q.1 s.heap := ⟨hh, q.2, v1, (I.pin q (List.mem_append_left _ hqp)).1, e1, c1⟩
    exact list_end_hot hot (f5 q (List.mem_append_left _ hqp)) st p.isList (by simp; omega) fun h' eb => ⟨rfl, I.turned (t' := s.toks) (fun b o hb e => eb b o hb e) f0 f1 f3 f4 f5⟩
  self := fun _ _ _ _ _ st h => wpAny_pyIter_listiter st h
theorem pi_listH {X : Cx} {tg : Expr} {l : Expr} {tl : TE} (hl : PE X l tl) : PIH X tg l (iList X.K tl) := by
  refine ⟨fun pins s σ H R I h => ?_⟩
  refine thn (hl.run pins s σ H _ I h) fun v s1 ⟨x, H1, I1, r1, q1⟩ => ?_
  obtain ⟨a, e, ⟨xs, hq⟩, q⟩ := q1
  subst e
  cases r1
  obtain ⟨its, rv, p, hz⟩ := I1.list hq
  refine wpAny_pyIter_list p.isList ?_
  refine ⟨s1.heap.objs.size, [s1.heap.objs.size], _, _, H1, rfl, I1.kept (t' := s1.toks) fun b o e => Heap.get?_push_of_some _ e, turn_listH a _, ⟨_, Heap.get?_push_size _ rfl, rfl, rfl⟩, fun b hb => ?_, q⟩
  have e : b = s1.heap.objs.size := by simpa using hb
  subst e
  exact I1.fpOk (Nat.le_refl _) (I1.hok.fresh (Nat.le_refl _))
end Kh
/-! a list comprehension while an error is handled: its block bears the def's pins -/
namespace Kh
open PySem PySem.Spec PyProof.Rows L2 L2H HotX
theorem rep {X : Cx} {σ : L2.St} {H : Hp} {s : Shared} {pn' : List (Addr × Obj)} (I : Inv X [] σ H s)
    (h : ∀ p ∈ pn', s.heap.get? p.1 = some p.2 ∧ H p.1 = none ∧ p.1 ≠ X.env.locals ∧ p.1 ∉ X.fs ∧ ∀ v, p.2.data ≠ .cell v) : Inv { X with pn := pn' } [] σ H s :=
  ⟨⟨I.ok.mod, I.ok.kind, I.ok.glob, I.ok.blt, I.ok.above, I.ok.inj, I.ok.has, I.ok.cab, I.ok.hd, I.ok.frames, I.ok.stk, I.ok.exf, I.ok.bs, I.ok.bsz, I.ok.noex, I.ok.exfs, I.ok.funs, I.ok.frf⟩,
    I.os, I.bare, I.base, I.loc, I.cell, I.free, I.freeC, fun p hp => h p (by simpa using (show p ∈ pn' ++ [] from hp)), I.hok, I.len⟩
abbrev blkH (X : Cx) (s : Shared) (H : Hp) (scope : Scope) (cenv : Env) (fp : List Addr) : Cx := { X.blk s H scope cenv fp with pn := X.pn }
section
variable {X : Cx}
theorem lc_coreH {pins : List (Addr × Obj)} {s : Shared} {σ : L2.St} {H : Hp} {Q : VK} {elt tg iter : Expr} {ifs : List Expr} {scope : Scope} {own : List (Str × Nat)} {pos pos' : Pos} {wi : TI} {g : TG} {tt : TT} {te : TE} {use : Option (Value → Sem Unit)} {Qf : Value → Shared → Prop}
    (hc : HotC X) (hN : X.N.Nodup) (I : Inv X pins σ H s) (hi : PIH X tg iter wi) (ok : BlkOk X.N X.env.scope scope own)
    (hg : ∀ (s : Shared) (H : Hp) (C : Addr) (cl : List (Str × Addr)) (fp : List Addr), PG (blkH X s H scope (compEnvC scope cl C X.env) fp) tg g) (ht : ∀ (s : Shared) (H : Hp) (C : Addr) (cl : List (Str × Addr)) (fp : List Addr), PTs (blkH X s H scope (compEnvC scope cl C X.env) fp) ifs tt)
    (he : ∀ (s : Shared) (H : Hp) (C : Addr) (cl : List (Str × Addr)) (fp : List Addr), PE (blkH X s H scope (compEnvC scope cl C X.env) fp) elt te) (hs : ∀ x, foldedSetIterable iter X.env x = pure x)
    (h : tLc wi g tt te (own.map (·.2)) σ H Q)
    (hRR : ∀ D C s' m H', Inv X pins σ H' s' → Q (.ref D) H' → s'.heap.Ns C m → FpOk X pins H' C → compPost (model X.prog X.w) X.A X.xe use Qf (.ref D) C (.ok .next) s') :
    wpAny (model X.prog X.w) X.A (comprehension (.ListComp elt [⟨tg, iter, ifs, 0⟩] scope pos) scope X.env pos' (newList []) false (eval iter X.env) use) Qf X.xe s := by
  have hfree : ∀ y ∈ scope.names, y.2 = .free → ∃ c, X.env.cells.lookup y.1 = some c := fun y hy e => (ok.free y hy e).elim (fun k => I.ok.has _ (.inl k)) fun k => I.ok.has _ (.inr k)
  refine wpAny_comprehension_free (use := use) rfl hs (closure_ok hfree) ok.kind (fun y hy e => by rw [ok.uniq y hy, e])
    (thn (hi.run pins s σ H _ I h) fun xv s1 hx => thn hx fun itv s2 h2 => ?_)
  obtain ⟨it, fp, tn, J, H2, e, I2, T, st2, f2, q⟩ := h2
  subst e
  refine wpAny_newObj_type (newEnv_comp ?_) (by show 0 ≤ sizeLine; decide)
  generalize hD : s2.heap.objs.size = D
  obtain ⟨W, ⟨m0, w0⟩, turn⟩ := q D (I2.hok.fresh (Nat.le_of_eq hD))
  generalize hs3 : ({ s2 with heap := s2.heap.push { cls := .type "list", data := .seq ([] : List Value).toArray } } : Shared) = s3
  have h3 : s3.heap = s2.heap.push { cls := .type "list", data := .seq ([] : List Value).toArray } := by rw [← hs3]
  have I3 : Inv X pins σ (upd H2 D (.lst [])) s3 := by
    rw [← hs3]
    refine I2.laid (t' := s2.toks) (fun b o e => Heap.get?_push_of_some _ e) (Nat.le_of_eq hD) ⟨Nat.zero_le _, [], 0, .nil, ?_⟩
    rw [← hD]
    exact Heap.get?_push_size _ rfl
  have sz : ∀ b ∈ fp, b < s2.heap.objs.size := fun b hb => let ⟨o, e, _⟩ := T.obj _ _ st2 b hb; Heap.lt_size e
  have f3 : ∀ b ∈ fp, FpOk X pins (upd H2 D (.lst [])) b ∧ b < s3.heap.objs.size := fun b hb => by
    have hlt := sz b hb
    refine ⟨⟨?_, (f2 b hb).2⟩, by rw [h3, Heap.size_push]; exact Nat.lt_succ_of_lt hlt⟩
    rw [upd_ne (by rw [← hD]; exact Nat.ne_of_lt hlt)]
    exact (f2 b hb).1
  have st3 : tn 0 s3.heap := T.keep _ _ _ st2 fun b _ o e => by rw [h3]; exact Heap.get?_push_of_some _ e
  have I4 := block_start I3 ok hN f3
  have pg := hg s3 (upd H2 D (.lst [])) s3.heap.objs.size (cellsFrom (s3.heap.objs.size + 1) scope.names (cloFrom X.env.cells scope.names [])) fp
  have pt := ht s3 (upd H2 D (.lst [])) s3.heap.objs.size (cellsFrom (s3.heap.objs.size + 1) scope.names (cloFrom X.env.cells scope.names [])) fp
  have pe := he s3 (upd H2 D (.lst [])) s3.heap.objs.size (cellsFrom (s3.heap.objs.size + 1) scope.names (cloFrom X.env.cells scope.names [])) fp
  show codeAny _ _ (.compStart (.ListComp elt [⟨tg, iter, ifs, 0⟩] scope pos) 0 (.ref it) (.ref D) (compEnvC scope (cellsFrom (s3.heap.objs.size + 1) scope.names (cloFrom X.env.cells scope.names [])) s3.heap.objs.size X.env)) (compPost (model X.prog X.w) X.A X.xe use Qf (.ref D) s3.heap.objs.size) { s3 with heap := pushCells (s3.heap.push { cls := .type "dict", data := .dict #[] }) scope.names }
  have nfp : ∀ b ∈ fp, (upd H2 D (.lst [])) b = none := fun b hb => (f3 b hb).1.1
  generalize hce : compEnvC scope (cellsFrom (s3.heap.objs.size + 1) scope.names (cloFrom X.env.cells scope.names [])) s3.heap.objs.size X.env = ce at I4 pg pt pe ⊢
  have cL : ce.locals = s3.heap.objs.size := by subst hce; rfl
  generalize hH3 : upd H2 D (.lst []) = H3 at I3 I4 pg pt pe w0 nfp f3
  have kp : ∀ b o, s3.heap.get? b = some o → (pushCells (s3.heap.push { cls := .type "dict", data := .dict #[] }) scope.names).get? b = some o := fun b o e => pushCells_keeps _ _ _ _ (Heap.get?_push_of_some _ e)
  generalize hs4 : ({ s3 with heap := pushCells (s3.heap.push { cls := .type "dict", data := .dict #[] }) scope.names } : Shared) = s4 at I4 ⊢
  have kp4 : ∀ b o, s3.heap.get? b = some o → s4.heap.get? b = some o := by rw [← hs4]; exact kp
  have st4 : tn 0 s4.heap := T.keep _ _ _ st3 fun b _ o e => kp4 b o e
  -- the def's pins, in the block
  have I4 : Inv (blkH X s3 H3 scope ce fp) [] (wipe σ (own.map (·.2))) H3 s4 := rep I4 fun p hp => by
    have P := I3.pin p (List.mem_append_left _ hp)
    refine ⟨kp4 _ _ P.1, P.2.1, ?_, fun hm => (List.mem_cons.mp (I3.stkSub p.1 hm)).elim P.2.2.1 P.2.2.2.1, P.2.2.2.2⟩
    show p.1 ≠ ce.locals
    rw [cL]
    exact Nat.ne_of_lt (Heap.lt_size P.1)
  have hcB : HotC (blkH X s3 H3 scope ce fp) := hc
  have stat : ∀ {σ' : L2.St} {H' : Hp} {s' : Shared}, Inv (blkH X s3 H3 scope ce fp) [] σ' H' s' → (∀ b ∈ fp, H' b = none) → ∀ b ∈ fp, FpOk (blkH X s3 H3 scope ce fp) [] H' b := fun {σ' H' s'} I' hn b hb =>
    ⟨hn b hb, (I'.ok.exf b hb).1, I'.ok.exfs b hb, .inl hb, fun x c e => (I'.ok.exf b hb).2 x c e, fun p hp => (f3 b hb).1.2.2.2.2.2 p (List.mem_append_left _ (by simpa using (show p ∈ X.pn ++ [] from hp)))⟩
  have loop : codeAny (model X.prog X.w) X.A (.compLoop (.ListComp elt [⟨tg, iter, ifs, 0⟩] scope pos) 0 (.ref it) (.ref D) ce) (compPost (model X.prog X.w) X.A X.xe use Qf (.ref D) s3.heap.objs.size) s4 := by
    refine compLoop_any (fun n s' => ∃ i H', Inv (blkH X s3 H3 scope ce fp) [] (wipe σ (own.map (·.2))) H' s' ∧ tn i s'.heap ∧ (∀ b ∈ fp, H' b = none) ∧ W i n H') ?_ m0 ⟨0, H3, I4, st4, nfp, w0⟩
    rintro n s5 ⟨i, H5, I5, st5, n5, w5⟩
    rcases turn i n H5 w5 with ⟨stop, qq⟩ | ⟨go, Nx, hNx, step⟩
    · refine thnF (T.done (blkH X s3 H3 scope ce fp) rfl rfl rfl hcB i [] s5 _ H5 (fun _ _ => False) I5 (stat I5 n5) st5 stop) fun r s6 ⟨hr, I6⟩ => ?_
      subst hr
      have I7 : Inv X pins σ H5 s6 := I3.call' (ch := fp) I6.os I6.base I6.hok I6.bare fun b hb => ⟨(f3 b hb).1.2.2.2.1, (f3 b hb).1.2.1, (f3 b hb).1.2.2.2.2.1, (f3 b hb).1.2.2.2.2.2⟩
      have nC : H5 s3.heap.objs.size = none := by
        have z : H5 ce.locals = none := I6.free
        rw [cL] at z
        exact z
      obtain ⟨m, hn, _⟩ := I6.loc
      have hn : s6.heap.Ns ce.locals m := hn
      rw [cL] at hn
      exact hRR D s3.heap.objs.size s6 m H5 I7 qq hn (I3.fpOk (Nat.le_refl _) nC)
    · refine thnF (T.item (blkH X s3 H3 scope ce fp) rfl rfl rfl hcB i [] s5 _ H5 (fun _ _ => False) I5 (stat I5 n5) st5 go) fun r s6 ⟨u, hr, h6⟩ => ?_
      subst hr
      refine thnF h6 fun _ s7 ⟨x, H7, I7, r7, y7, st7, n7⟩ => ?_
      have I7' := I7.pinned (stat I7 n7) (T.obj _ _ st7)
      refine thnF (pg.run _ s7 _ H7 x u _ I7' r7 (step x H7 y7)) fun _ s8 ⟨σ8, H8, I8, hw8, q8⟩ => ?_
      refine thnF (pt.run _ s8 σ8 H8 _ I8 q8) fun b s9 ⟨H9, I9, q9⟩ => ?_
      have fin : ∀ {s' : Shared} {H' : Hp}, Inv (blkH X s3 H3 scope ce fp) ([] ++ pinsAt fp s7.heap) σ8 H' s' → Nx H' → ∃ m, m < n ∧ ∃ i H', Inv (blkH X s3 H3 scope ce fp) [] (wipe σ (own.map (·.2))) H' s' ∧ tn i s'.heap ∧ (∀ b ∈ fp, H' b = none) ∧ W i m H' := fun {s' H'} I' nx => by
        obtain ⟨m', hm, w'⟩ := hNx H' nx
        have pin' : ∀ b ∈ fp, ∀ o, s7.heap.get? b = some o → s'.heap.get? b = some o ∧ H' b = none := fun b hb o e =>
          let z := I'.pin (b, o) (List.mem_append_right _ (List.mem_append_right _ (mem_pinsAt hb e)))
          ⟨z.1, z.2.1⟩
        have hl : (wipe σ (own.map (·.2))).length = σ8.length := by rw [← hw8, wipe_length]
        refine ⟨m', hm, i + 1, H', (I'.unpinned (pins := [])).weak hl (fun j v e => ?_), T.keep _ _ _ st7 fun b hb o e => (pin' b hb o e).1, fun b hb => ?_, w'⟩
        · rw [← hw8] at e
          exact (wipe_some e).1
        · obtain ⟨o, e, _⟩ := T.obj _ _ st7 b hb
          exact (pin' b hb o e).2
      cases b with
      | false =>
        simp only [Bool.false_eq_true, if_false] at q9 ⊢
        exact fin I9 q9
      | true =>
        simp only [if_true] at q9 ⊢
        refine thnF (pe.run _ s9 σ8 H9 _ I9 q9) fun z s10 ⟨yv, H10, I10, r10, acc, hD10, hz10, nx⟩ => ?_
        exact app_ok (X := blkH X s3 H3 scope ce fp) I10 hD10 hz10 r10 fun s11 I11 => fin I11 nx
  exact codeAny_compStart_list loop (T.self X.A 0 _ _ _ st4 loop)
theorem pe_lcH {elt tg iter : Expr} {ifs : List Expr} {scope : Scope} {own : List (Str × Nat)} {pos : Pos} {wi : TI} {g : TG} {tt : TT} {te : TE} (hc : HotC X) (hN : X.N.Nodup) (hi : PIH X tg iter wi) (ok : BlkOk X.N X.env.scope scope own)
    (hg : ∀ (s : Shared) (H : Hp) (C : Addr) (cl : List (Str × Addr)) (fp : List Addr), PG (blkH X s H scope (compEnvC scope cl C X.env) fp) tg g) (ht : ∀ (s : Shared) (H : Hp) (C : Addr) (cl : List (Str × Addr)) (fp : List Addr), PTs (blkH X s H scope (compEnvC scope cl C X.env) fp) ifs tt)
    (he : ∀ (s : Shared) (H : Hp) (C : Addr) (cl : List (Str × Addr)) (fp : List Addr), PE (blkH X s H scope (compEnvC scope cl C X.env) fp) elt te) (hs : ∀ x, foldedSetIterable iter X.env x = pure x := by intro _; rfl) :
    PE X (.ListComp elt [⟨tg, iter, ifs, 0⟩] scope pos) (tLc wi g tt te (own.map (·.2))) := by
  refine ⟨fun pins s σ H Q I h => ?_⟩
  rw [eval_ListComp]
  refine lc_coreH hc hN I hi ok hg ht he hs h fun D C s' m H' I' q hn f => ⟨m, hn, fun h'' sb => ?_⟩
  obtain ⟨f0, f1, f2, f3, f4, f5⟩ := f
  exact ⟨.ref D, H', I'.turned (t' := s'.toks) (fun b o hb e => (sb.2 b hb).trans e) f0 f1 f3 f4 f5, rfl, q⟩
theorem ps_setLcH {i : Nat} {y : Str} {py : Pos} {elt tg iter : Expr} {ifs : List Expr} {scope : Scope} {own : List (Str × Nat)} {pos spos : Pos} {wi : TI} {g : TG} {tt : TT} {te : TE} (hc : HotC X) (hN : X.N.Nodup) (hy : X.N[i]? = some y) (hyl : X.env.scope.names.lookup y = some .local)
    (hsw : swapsWith (.ListComp elt [⟨tg, iter, ifs, 0⟩] scope pos) (some (.Name y py)) spos.line X.env = pure true) (hi : PIH X tg iter wi) (ok : BlkOk X.N X.env.scope scope own)
    (hg : ∀ (s : Shared) (H : Hp) (C : Addr) (cl : List (Str × Addr)) (fp : List Addr), PG (blkH X s H scope (compEnvC scope cl C X.env) fp) tg g) (ht : ∀ (s : Shared) (H : Hp) (C : Addr) (cl : List (Str × Addr)) (fp : List Addr), PTs (blkH X s H scope (compEnvC scope cl C X.env) fp) ifs tt)
    (he : ∀ (s : Shared) (H : Hp) (C : Addr) (cl : List (Str × Addr)) (fp : List Addr), PE (blkH X s H scope (compEnvC scope cl C X.env) fp) elt te) (hs : ∀ x, foldedSetIterable iter X.env x = pure x := by intro _; rfl) :
    PS X (.Assign [.Name y py] (.ListComp elt [⟨tg, iter, ifs, 0⟩] scope pos) spos) (tAsg (tLc wi g tt te (own.map (·.2))) (gName i)) := by
  refine ⟨fun pins s σ H D I h => ?_⟩
  rw [exec_Assign_Name_used _ _ _ _ hsw]
  refine wpAny_bind (wpAny_standAt (wpAny_bind ?_))
  show wpAny _ X.A (do let _ ← comprehension (.ListComp elt [⟨tg, iter, ifs, 0⟩] scope pos) scope X.env (firstIterPos [⟨tg, iter, ifs, 0⟩] pos) (newList []) false (eval iter X.env) (some (assign (.Name y py) X.env))) _ _ s
  have h : tLc wi g tt te (own.map (·.2)) σ H (fun x H1 => gName i x σ H1 D.nx) := h
  refine wpAny_bind (thn (lc_coreH (Qf := fun _ s' => SP X pins D .next s') hc hN I hi ok hg ht he hs h fun L C s' m H' I' q hn f => ?_) fun _ s' hq => wpAny_pure (wpAny_pure hq))
  show wpAny _ _ (assign (.Name y py) X.env (.ref L)) _ _ _
  refine wpAny_assign_Name (store_ok2 (v := V.ref L) I' hN hy (.inl hyl) rfl (fun s2 I2 ⟨a, sb, ha⟩ => ?_) (.inr hyl))
  obtain ⟨f0, f1, f2, f3, f4, f5⟩ := f
  have haC : C ≠ a := by
    rcases ha with z | z
    · rw [z]; exact f1
    · exact fun e => f4 y a z e.symm
  refine ⟨m, hn.sameBut sb haC, fun h3 sb3 => ?_⟩
  exact ⟨_, H', I2.turned (t' := s2.toks) (fun b o hb e => (sb3.2 b hb).trans e) f0 f1 f3 f4 f5, q⟩
end
end Kh
/-! a def that is called with the handled error, within an except suite: its promise speaks of that error -/
namespace Kh
open PySem PySem.Spec PyProof.Rows L2 L2H HotX Kt
abbrev SpE := Addr × Obj → Sp
structure FnE (P : Program) (w : World) (K : PySem.W.Frag) (mg : Str → Option Value) (base : Heap) (k : Nat) (f : Addr) (fd : FuncData) (ps : List Str) (sp : SpE) : Prop where
  len : ∀ p vs H Q E, sp p vs H Q E → vs.length = ps.length
  run : ∀ (A : Around) (outer : List Env) (s : Shared) (H : Hp) (args : Args) (us : List Value) (vs : List V) (Q : VK) (E : XK) (p : Addr × Obj), RoomH k A → Hot1 A p → PinOk outer H s p → Env0 P w K mg base A outer s H → BindsTo s fd args (ps.zip us) → Vals vs us → sp p vs H Q E →
    codeAny (model P w) A (.call (.ref f) args) (CR CX0 outer P w H s Q E) s
section
variable {P : Program} {w : World} {K : PySem.W.Frag} {mg : Str → Option Value} {base : Heap} {k : Nat} {x : Str} {st : Stmt} {N ps : List Str} {sp : SpE}
/-- for one error at a time it is a promise of the library's kind -/
theorem fnE_of {f : Addr} {fd : FuncData} (F : Fun K x x st f fd) (S : FnScope N ps (defScope st)) (len : ∀ p vs H Q E, sp p vs H Q E → vs.length = ps.length)
    (hbody : ∀ (cdv : Value) (A : Around) (outer : List Env) (s : Shared) (H : Hp) (vs : List V) (Q : VK) (E : XK) (p : Addr × Obj), Hot1 A p → RoomH k (A.deeper (envOfC x (defScope st) s.heap.objs.size f cdv)) → sp p vs H Q E →
      ∃ t, PSs (cxH CX0 P w K mg base N x (defScope st) f cdv A outer s H E p).nox (defBody st) t ∧ t { nx := fun _ H' => Q .non H', rt := Q } (L2.start N vs) H) :
    FnE P w K mg base (k + 1) f fd ps sp := by
  obtain ⟨oc, od, kV, doc, pm, an, cdv, ct, osl, rfl, lk, hcd⟩ := F.ex
  refine ⟨len, fun A outer s H args us vs Q E p hr hot hpin e0 hb r hsp => ?_⟩
  have hl := len p _ _ _ _ hsp
  have KX : K.In s.heap := e0.mod.kin.keeps fun b o e => (e0.bs b o e).1
  have lim : s.heap.NoLimit := e0.mod.nolimit.keeps fun b o e => (e0.bs b o e).1
  have hkind : ∀ y ∈ ps.zip us, (defScope st).names.lookup y.1 = some .local ∨ ((defScope st).names.lookup y.1 = some .cell ∧ ((cellsFrom (s.heap.objs.size + 1) (defScope st).names []).lookup y.1).isSome = true) := fun ⟨n, v⟩ hy =>
    (S.par n (List.of_mem_zip hy).1).elim .inl fun q => .inr ⟨q, PySem.W.cellsFrom_some _ _ _ (.inl q)⟩
  refine codeAny_call_function hr.depth (KX _ _ lk) rfl S.co S.gen rfl (PySem.W.codeRec_of KX hcd) (hb _ _ _ _ ?_)
  refine wpAny_newFunctionEnv_cells S.kind hkind fun env he s1 xx => ?_
  subst he
  refine ⟨lim.keeps xx.toInCall.keep, codeAny_func ?_⟩
  obtain ⟨t, ht, hq⟩ := hbody cdv A outer s H vs Q E p hot (hr.deeper _) hsp
  have I : Inv (cxH CX0 P w K mg base N x (defScope st) f cdv A outer s H E p) [] (L2.start N vs) H s1 := inv_startH S hpin e0 hl r xx
  refine wpAny_mono (ht.nox.run [] s1 (L2.start N vs) H _ I hq) (fun fl s' hs => ?_) fun e s' hs => hs
  have fin : ∀ {σ' : L2.St} {H' : Hp} {v : V} {u : Value}, Inv (cxH CX0 P w K mg base N x (defScope st) f cdv A outer s H E p) [] σ' H' s' → RelV v u → Q v H' → CE outer P w H s Q u s' :=
    fun {σ' H' v u} J rv q => ⟨v, H', J.os, J.bare, J.base, J.hok, rv, q⟩
  cases fl with
  | ret u =>
    obtain ⟨v, σ', H', J, rv, q⟩ := hs
    exact fin J rv q
  | next =>
    obtain ⟨σ', H', J, q⟩ := hs
    exact fin (v := V.non) (u := Value.none) J rfl q
  | brk =>
    obtain ⟨_, _, _, q⟩ := hs
    exact False.elim q
  | cont =>
    obtain ⟨_, _, _, q⟩ := hs
    exact False.elim q
structure PromE (P : Program) (w : World) (K : PySem.W.Frag) (mg : Str → Option Value) (base : Heap) (k : Nat) (x : Str) (ps : List Str) (sp : SpE) : Prop where
  ex : ∃ f fd, mg x = some (.ref f) ∧ PySem.W.keepIn K (.ref f) = true ∧ Binds K fd ps [] ∧ FnE P w K mg base k f fd ps sp
theorem okE (D : At K mg x st) (S : FnScope N ps (defScope st)) (hb : BindH st x ps) (len : ∀ p vs H Q E, sp p vs H Q E → vs.length = ps.length)
    (body : ∀ (f : Addr) (cdv : Value) (A : Around) (outer : List Env) (s : Shared) (H : Hp) (vs : List V) (Q : VK) (E : XK) (p : Addr × Obj), HotC (cxH CX0 P w K mg base N x (defScope st) f cdv A outer s H E p).nox → (∃ vs : Array Value, p.2.data = .fields vs) → RoomH k (A.deeper (envOfC x (defScope st) s.heap.objs.size f cdv)) → sp p vs H Q E →
      ∃ t, PSs (cxH CX0 P w K mg base N x (defScope st) f cdv A outer s H E p).nox (defBody st) t ∧ t { nx := fun _ H' => Q .non H', rt := Q } (L2.start N vs) H) : PromE P w K mg base (k + 1) x ps sp := by
  obtain ⟨f, fd, F, g⟩ := D.ex
  exact ⟨f, fd, g, F.kp, F.binds hb, fnE_of F S len fun cdv A outer s H vs Q E p hot hr h => body f cdv A outer s H vs Q E p ⟨p, hot, List.mem_cons_self⟩ (let ⟨vs, e, _⟩ := hot.2; ⟨vs, e⟩) hr h⟩
end
section
variable {X : Cx} {j k : Nat} {x : Str} {ps : List Str} {sp : SpE} {p : Addr × Obj} {q pos : Pos} {e : Expr} {es : List Expr} {t : TA}
/-- the call, the error p handled -/
theorem pcallE (hr : RoomH k X.A) (F : PromE X.prog X.w X.K X.mg X.base j x ps sp) (hot : Hot1 X.A p) (hp : p ∈ X.pn) (ha : PA X (e :: es) t) (hg : Gl X x := by rfl) (hj : j ≤ k := by decide) (hdb : (x == ("__debug__" : Str)) = false := by decide)
    (he : starEach (e :: es) X.env = (false, eval e X.env) :: starEach es X.env := by rfl) (hpl : (backTo pos (starEach es X.env)).any (·.1) = false := by rfl) : PE X (.Call (.Name x q) (e :: es) [] pos) (tCallS (sp p) (fun _ => E0) t) := by
  obtain ⟨f, fd, g, kp, b, G⟩ := F.ex
  refine ⟨fun pins s σ H Q I h => ?_⟩
  refine wpAny_Call_Name_kw (ld_glob I hg g ?_ hdb)
  refine PySem.W.callWith_K (h₀ := X.base) I.ok.mod.kin kp (thn (ha.run pos pins s σ H _ I h) fun us s1 ⟨vs, H1, I1, r, q⟩ => ⟨I1.kIn, ?_⟩) he hpl
  have hl : us.length = ps.length := by rw [← r.length]; exact G.len _ _ _ _ _ q
  have bb := b s1 us I1.kIn (by rw [List.append_nil]; exact hl)
  rw [List.append_nil] at bb
  have P1 := I1.pin p (List.mem_append_left _ hp)
  have hpin : PinOk X.stack H1 s1 p := ⟨P1.1, P1.2.1, fun hm => (List.mem_cons.mp (I1.stkSub p.1 hm)).elim P1.2.2.1 P1.2.2.2.1, P1.2.2.2.2⟩
  refine wpAny_call (codeAny_mono (G.run X.A X.stack s1 H1 ⟨us, []⟩ us vs Q E0 p (hr.mono hj) hot hpin I1.env0 bb r q) fun r s' hq => ?_)
  cases r with
  | error e => exact False.elim hq
  | ok fl =>
    cases fl with
    | ret u => exact I1.after hq
    | next => exact False.elim hq
    | brk => exact False.elim hq
    | cont => exact False.elim hq
end
/-- isinstance(e, c), e the error that is handled: its class is told by the promise -/
def rIsP (K : PySem.W.Frag) (p : Addr × Obj) : List V → Hp → VK → Prop := fun xs H Q => ∃ D : Addr, Zc (.ref D) none p.2 ∧ (∃ vs, p.2.data = .fields vs) ∧ ExcC K D ∧ rIsE K D p.1 xs H Q
theorem call_isP {X : Cx} {p : Addr × Obj} (hp : p ∈ X.pn) : CallR X (.builtin "isinstance") (rIsP X.K p) := by
  intro pins s σ H xs us Q I r h
  obtain ⟨D, hz, hf, C, c, cv, b, rfl, hcv, e, q⟩ := h
  cases r with
  | cons rx rr =>
    cases rr with
    | cons rt rr =>
      cases rr
      cases rx
      have ec := hcv _ rt
      subst ec
      have hget := (I.pin p (List.mem_append_left _ hp)).1
      obtain ⟨vs, hv⟩ := hf
      obtain ⟨a, oc, od, oda, osl⟩ := p
      obtain ⟨h1, h2⟩ := hz
      dsimp only at h1 h2 hv hget
      subst h1 h2 hv
      have J : PySem.W.InstAt s.heap a ⟨.ref D, none, .fields vs, osl⟩ D none := ⟨hget, rfl, rfl, trivial⟩
      exact PySem.W.kia_one (PySem.W.handS_kitx_exc C.hg C.hk C.hs C.hd C.ha C.hn C.ht C.hm) I.kIn J e (fun z => nomatch z) fun tk => ⟨.bl b, H, I.kept (t' := tk) fun _ _ z => z, rfl, q⟩
/-- within the suite of an error whose context is None -/
theorem hot_suite {X : Cx} {a : Addr} {oe : Obj} {cls : Value} {d : Option Addr} (hz : L2N.Zn cls d oe) (hf : ∃ vs, oe.data = .fields vs) : Hot1 (X.A.mark (some (.ref a))) (a, oe) :=
  ⟨rfl, let ⟨vs, e⟩ := hf; ⟨vs, e, hz.2.2 vs e⟩⟩
theorem roomH_suite {k : Nat} {A : Around} {v : Option Value} (r : Room k A) : RoomH k (A.mark v) := ⟨r.dp, r.un⟩
/-- .. by the error's place, class and dict alone -/
abbrev byP (sp : Addr → Value → Option Addr → Sp) : SpE := fun p => sp p.1 p.2.cls p.2.dict
theorem pcallS {X : Cx} {a : Addr} {oe : Obj} {cls : Value} {d : Option Addr} {pn : List (Addr × Obj)} {j k : Nat} {x : Str} {ps : List Str} {sp : Addr → Value → Option Addr → Sp} {q pos : Pos} {e : Expr} {es : List Expr} {t : TA}
    (hz : L2N.Zn cls d oe) (hf : ∃ vs, oe.data = .fields vs) (hr : Room k X.A) (F : PromE X.prog X.w X.K X.mg X.base j x ps (byP sp)) (ha : PA (X.suite a ((a, oe) :: pn)) (e :: es) t) (hg : Gl (X.suite a ((a, oe) :: pn)) x := by rfl) (hj : j ≤ k := by decide) (hdb : (x == ("__debug__" : Str)) = false := by decide)
    (he : starEach (e :: es) X.env = (false, eval e X.env) :: starEach es X.env := by rfl) (hpl : (backTo pos (starEach es X.env)).any (·.1) = false := by rfl) : PE (X.suite a ((a, oe) :: pn)) (.Call (.Name x q) (e :: es) [] pos) (tCallS (sp a cls d) (fun _ => E0) t) := by
  have e1 := hz.1
  have e2 := hz.2.1
  have r := pcallE (X := X.suite a ((a, oe) :: pn)) (q := q) (pos := pos) (roomH_suite hr) F (hot_suite hz hf) List.mem_cons_self ha hg hj hdb he hpl
  unfold byP at r
  dsimp only at r
  rw [e1, e2] at r
  exact r
/-! errors whose context is None: a def that may raise one, its call -/
theorem takesN0 {X : Cx} : L2N.Takes X (fun _ _ _ _ => False) := fun _ _ ⟨_, _, _, _, _, _, _, _, _, _, _, _, _, _, _, _, w⟩ => w.elim
theorem okXN {P : Program} {w : World} {K : PySem.W.Frag} {mg : Str → Option Value} {base : Heap} {x : Str} {st : Stmt} {N ps : List Str} {k : Nat} {sp : Sp} (D : At K mg x st) (S : FnScope N ps (defScope st)) (hb : BindH st x ps) (len : ∀ vs H Q E, sp vs H Q E → vs.length = ps.length)
    (body : ∀ (f : Addr) (cdv : Value) (A : Around) (outer : List Env) (s : Shared) (H : Hp) (vs : List V) (Q : VK) (E : XK), Room k (A.deeper (envOfC x (defScope st) s.heap.objs.size f cdv)) → sp vs H Q E →
      ∃ t, PSs (cxOf (L2N.CX P w) P w K mg base N x (defScope st) f cdv A outer s H E) (defBody st) t ∧ t { nx := fun _ H' => Q .non H', rt := Q } (L2.start N vs) H) : Prom P w K mg base (L2N.CX P w) (k + 1) x ps sp := by
  obtain ⟨f, fd, F, g⟩ := D.ex
  refine ⟨f, fd, g, F.kp, F.binds hb, ?_, _, F⟩
  obtain ⟨oc, od, kV, doc, pm, an, cdv, ct, osl, rfl, lk, hcd⟩ := F.ex
  exact fn_of lk hcd S len fun A outer s H vs Q E hr hsp => body f cdv A outer s H vs Q E hr hsp
section
variable {X : Cx} {j k : Nat} {x : Str} {ps : List Str} {sp : Sp} {W : WX} {p pos : Pos} {e : Expr} {es : List Expr} {t : TA}
theorem pcallXN (hr : Room k X.A) (F : Prom X.prog X.w X.K X.mg X.base (L2N.CX X.prog X.w) j x ps sp) (tk : L2N.Takes X W) (ha : PA X (e :: es) t) (hg : Gl X x := by rfl) (hj : j ≤ k := by decide) (hdb : (x == ("__debug__" : Str)) = false := by decide)
    (he : starEach (e :: es) X.env = (false, eval e X.env) :: starEach es X.env := by rfl) (hpl : (backTo pos (starEach es X.env)).any (·.1) = false := by rfl) : PE X (.Call (.Name x p) (e :: es) [] pos) (tCallS sp (WE W) t) := by
  obtain ⟨f, fd, g, kp, b, G, _⟩ := F.ex
  exact pe_callS G (hr.mono hj) hg g kp b (fun σ => L2N.passAt tk σ) ha hdb he hpl
/-- a call of a def that may raise, here it does not -/
theorem passLN : Passes (L2N.CX X.prog X.w) X E0 := fun _ _ _ _ _ _ _ ⟨_, _, _, _, _, _, _, _, _, _, _, _, z⟩ => z.elim
theorem pcallNN (hr : Room k X.A) (F : Prom X.prog X.w X.K X.mg X.base (L2N.CX X.prog X.w) j x ps sp) (ha : PA X (e :: es) t) (hg : Gl X x := by rfl) (hj : j ≤ k := by decide) (hdb : (x == ("__debug__" : Str)) = false := by decide)
    (he : starEach (e :: es) X.env = (false, eval e X.env) :: starEach es X.env := by rfl) (hpl : (backTo pos (starEach es X.env)).any (·.1) = false := by rfl) : PE X (.Call (.Name x p) (e :: es) [] pos) (tCall sp [] E0 t) := by
  obtain ⟨f, fd, g, kp, b, G, _⟩ := F.ex
  exact pe_call G (hr.mono hj) hg g kp b .nil passLN ha hdb he hpl
end
end Kh
namespace K0
open PySem PySem.Spec PyProof.Rows L2 Kt
def top (i : Nat) : Stmt := PySem.Challenge.pw_docketloom_k00_fractions.main.body.getD i (.Pass ⟨0, 0, 0, 0⟩)
abbrev s_is_number : Stmt := top 9
abbrev N_is_number : List Str := ["value", "least", "most"]
theorem sc_is_number : FnScope N_is_number ["value", "least", "most"] (defScope s_is_number) := ⟨rfl, rfl, rfl, by decide +kernel, rfl, by decide +kernel, by decide +kernel⟩
theorem bi_is_number : BindH s_is_number "is_number" ["value", "least", "most"] := fun _ _ _ _ _ _ us hl => match us, hl with | [_, _, _], _ => rfl
abbrev s_is_tuple : Stmt := top 10
abbrev N_is_tuple : List Str := ["value", "least", "most"]
theorem sc_is_tuple : FnScope N_is_tuple ["value", "least", "most"] (defScope s_is_tuple) := ⟨rfl, rfl, rfl, by decide +kernel, rfl, by decide +kernel, by decide +kernel⟩
theorem bi_is_tuple : BindH s_is_tuple "is_tuple" ["value", "least", "most"] := fun _ _ _ _ _ _ us hl => match us, hl with | [_, _, _], _ => rfl
abbrev s_is_fraction : Stmt := top 13
abbrev N_is_fraction : List Str := ["value", "part", "whole"]
theorem sc_is_fraction : FnScope N_is_fraction ["value"] (defScope s_is_fraction) := ⟨rfl, rfl, rfl, by decide +kernel, rfl, by decide +kernel, by decide +kernel⟩
theorem bi_is_fraction : BindH s_is_fraction "is_fraction" ["value"] := fun _ _ _ _ _ _ us hl => match us, hl with | [_], _ => rfl
abbrev s_lowest : Stmt := top 14
abbrev N_lowest : List Str := ["part", "whole", "common"]
theorem sc_lowest : FnScope N_lowest ["part", "whole"] (defScope s_lowest) := ⟨rfl, rfl, rfl, by decide +kernel, rfl, by decide +kernel, by decide +kernel⟩
theorem bi_lowest : BindH s_lowest "lowest" ["part", "whole"] := fun _ _ _ _ _ _ us hl => match us, hl with | [_, _], _ => rfl
abbrev s_made : Stmt := top 15
abbrev N_made : List Str := ["part", "whole"]
theorem sc_made : FnScope N_made ["part", "whole"] (defScope s_made) := ⟨rfl, rfl, rfl, by decide +kernel, rfl, by decide +kernel, by decide +kernel⟩
theorem bi_made : BindH s_made "made" ["part", "whole"] := fun _ _ _ _ _ _ us hl => match us, hl with | [_, _], _ => rfl
abbrev s_plus : Stmt := top 16
abbrev N_plus : List Str := ["one", "other"]
theorem sc_plus : FnScope N_plus ["one", "other"] (defScope s_plus) := ⟨rfl, rfl, rfl, by decide +kernel, rfl, by decide +kernel, by decide +kernel⟩
theorem bi_plus : BindH s_plus "plus" ["one", "other"] := fun _ _ _ _ _ _ us hl => match us, hl with | [_, _], _ => rfl
abbrev s_minus : Stmt := top 17
abbrev N_minus : List Str := ["one", "other"]
theorem sc_minus : FnScope N_minus ["one", "other"] (defScope s_minus) := ⟨rfl, rfl, rfl, by decide +kernel, rfl, by decide +kernel, by decide +kernel⟩
theorem bi_minus : BindH s_minus "minus" ["one", "other"] := fun _ _ _ _ _ _ us hl => match us, hl with | [_, _], _ => rfl
abbrev s_times : Stmt := top 18
abbrev N_times : List Str := ["one", "other"]
theorem sc_times : FnScope N_times ["one", "other"] (defScope s_times) := ⟨rfl, rfl, rfl, by decide +kernel, rfl, by decide +kernel, by decide +kernel⟩
theorem bi_times : BindH s_times "times" ["one", "other"] := fun _ _ _ _ _ _ us hl => match us, hl with | [_, _], _ => rfl
abbrev s_through : Stmt := top 19
abbrev N_through : List Str := ["one", "other"]
theorem sc_through : FnScope N_through ["one", "other"] (defScope s_through) := ⟨rfl, rfl, rfl, by decide +kernel, rfl, by decide +kernel, by decide +kernel⟩
theorem bi_through : BindH s_through "through" ["one", "other"] := fun _ _ _ _ _ _ us hl => match us, hl with | [_, _], _ => rfl
abbrev s_less : Stmt := top 20
abbrev N_less : List Str := ["one", "other"]
theorem sc_less : FnScope N_less ["one", "other"] (defScope s_less) := ⟨rfl, rfl, rfl, by decide +kernel, rfl, by decide +kernel, by decide +kernel⟩
theorem bi_less : BindH s_less "less" ["one", "other"] := fun _ _ _ _ _ _ us hl => match us, hl with | [_, _], _ => rfl
abbrev s__law_open : Stmt := top 22
abbrev N__law_open : List Str := ["script", "cells", "cell"]
theorem sc__law_open : FnScope N__law_open ["script"] (defScope s__law_open) := ⟨rfl, rfl, rfl, by decide +kernel, rfl, by decide +kernel, by decide +kernel⟩
theorem bi__law_open : BindH s__law_open "_law_open" ["script"] := fun _ _ _ _ _ _ us hl => match us, hl with | [_], _ => rfl
abbrev s__law_mixed : Stmt := top 23
abbrev N__law_mixed : List Str := ["cell", "turn", "number"]
theorem sc__law_mixed : FnScope N__law_mixed ["cell", "turn"] (defScope s__law_mixed) := ⟨rfl, rfl, rfl, by decide +kernel, rfl, by decide +kernel, by decide +kernel⟩
theorem bi__law_mixed : BindH s__law_mixed "_law_mixed" ["cell", "turn"] := fun _ _ _ _ _ _ us hl => match us, hl with | [_, _], _ => rfl
abbrev s__law_draw : Stmt := top 24
abbrev N__law_draw : List Str := ["draws", "size", "turn", "left", "cells", "cell"]
theorem sc__law_draw : FnScope N__law_draw ["draws", "size"] (defScope s__law_draw) := ⟨rfl, rfl, rfl, by decide +kernel, rfl, by decide +kernel, by decide +kernel⟩
theorem bi__law_draw : BindH s__law_draw "_law_draw" ["draws", "size"] := fun _ _ _ _ _ _ us hl => match us, hl with | [_, _], _ => rfl
abbrev s__law_wide : Stmt := top 25
abbrev N__law_wide : List Str := ["draws", "size", "number", "k"]
theorem sc__law_wide : FnScope N__law_wide ["draws", "size"] (defScope s__law_wide) := ⟨rfl, rfl, rfl, by decide +kernel, rfl, by decide +kernel, by decide +kernel⟩
theorem bi__law_wide : BindH s__law_wide "_law_wide" ["draws", "size"] := fun _ _ _ _ _ _ us hl => match us, hl with | [_, _], _ => rfl
abbrev s__law_told : Stmt := top 26
abbrev N__law_told : List Str := ["error", "kinds", "names", "name", "true"]
theorem sc__law_told : FnScope N__law_told ["error"] (defScope s__law_told) := ⟨rfl, rfl, rfl, by decide +kernel, rfl, by decide +kernel, by decide +kernel⟩
theorem bi__law_told : BindH s__law_told "_law_told" ["error"] := fun _ _ _ _ _ _ us hl => match us, hl with | [_], _ => rfl
abbrev s__law_number : Stmt := top 27
abbrev N__law_number : List Str := ["draws", "kind", "size", "number"]
theorem sc__law_number : FnScope N__law_number ["draws"] (defScope s__law_number) := ⟨rfl, rfl, rfl, by decide +kernel, rfl, by decide +kernel, by decide +kernel⟩
theorem bi__law_number : BindH s__law_number "_law_number" ["draws"] := fun _ _ _ _ _ _ us hl => match us, hl with | [_], _ => rfl
abbrev s__law_lowest : Stmt := top 28
abbrev N__law_lowest : List Str := ["part", "whole", "one", "other", "k", "rest", "sign"]
theorem sc__law_lowest : FnScope N__law_lowest ["part", "whole"] (defScope s__law_lowest) := ⟨rfl, rfl, rfl, by decide +kernel, rfl, by decide +kernel, by decide +kernel⟩
theorem bi__law_lowest : BindH s__law_lowest "_law_lowest" ["part", "whole"] := fun _ _ _ _ _ _ us hl => match us, hl with | [_, _], _ => rfl
abbrev s__law_is : Stmt := top 29
abbrev N__law_is : List Str := ["value", "due", "one"]
theorem sc__law_is : FnScope N__law_is ["value", "due"] (defScope s__law_is) := ⟨rfl, rfl, rfl, by decide +kernel, rfl, by decide +kernel, by decide +kernel⟩
theorem bi__law_is : BindH s__law_is "_law_is" ["value", "due"] := fun _ _ _ _ _ _ us hl => match us, hl with | [_, _], _ => rfl
abbrev s__law_made : Stmt := top 30
abbrev N__law_made : List Str := ["part", "whole", "value", "error"]
theorem sc__law_made : FnScope N__law_made ["part", "whole"] (defScope s__law_made) := ⟨rfl, rfl, rfl, by decide +kernel, rfl, by decide +kernel, by decide +kernel⟩
theorem bi__law_made : BindH s__law_made "_law_made" ["part", "whole"] := fun _ _ _ _ _ _ us hl => match us, hl with | [_, _], _ => rfl
abbrev s__law_through : Stmt := top 31
abbrev N__law_through : List Str := ["one", "other", "value", "error"]
theorem sc__law_through : FnScope N__law_through ["one", "other"] (defScope s__law_through) := ⟨rfl, rfl, rfl, by decide +kernel, rfl, by decide +kernel, by decide +kernel⟩
theorem bi__law_through : BindH s__law_through "_law_through" ["one", "other"] := fun _ _ _ _ _ _ us hl => match us, hl with | [_, _], _ => rfl
abbrev s__law_sums : Stmt := top 32
abbrev N__law_sums : List Str := ["one", "other", "a", "b", "c", "d", "told"]
theorem sc__law_sums : FnScope N__law_sums ["one", "other"] (defScope s__law_sums) := ⟨rfl, rfl, rfl, by decide +kernel, rfl, by decide +kernel, by decide +kernel⟩
theorem bi__law_sums : BindH s__law_sums "_law_sums" ["one", "other"] := fun _ _ _ _ _ _ us hl => match us, hl with | [_, _], _ => rfl
abbrev s__law_kinds : Stmt := top 33
abbrev N__law_kinds : List Str := ["one", "part", "whole", "wrong", "value"]
theorem sc__law_kinds : FnScope N__law_kinds ["one"] (defScope s__law_kinds) := ⟨rfl, rfl, rfl, by decide +kernel, rfl, by decide +kernel, by decide +kernel⟩
theorem bi__law_kinds : BindH s__law_kinds "_law_kinds" ["one"] := fun _ _ _ _ _ _ us hl => match us, hl with | [_], _ => rfl
abbrev s_law : Stmt := top 34
abbrev N_law : List Str := ["script", "draws", "turn", "rows", "k", "part", "whole", "one"]
theorem sc_law : FnScope N_law ["script"] (defScope s_law) := ⟨rfl, rfl, rfl, by decide +kernel, rfl, by decide +kernel, by decide +kernel⟩
theorem bi_law : BindH s_law "law" ["script"] := fun _ _ _ _ _ _ us hl => match us, hl with | [_], _ => rfl
structure Txt (K : PySem.W.Frag) (mg : Str → Option Value) (X_OutOfRange : Addr) (X_Malformed : Addr) (X_NotThere : Addr) (X_Refused : Addr) (X_TooMuch : Addr) : Prop where
  b_type : mg "type" = none
  b_int : mg "int" = none
  b_tuple : mg "tuple" = none
  b_len : mg "len" = none
  b_range : mg "range" = none
  b_isinstance : mg "isinstance" = none
  b_ValueError : mg "ValueError" = none
  b_abs : mg "abs" = none
  b_bool : mg "bool" = none
  d_is_number : At K mg "is_number" s_is_number
  d_is_tuple : At K mg "is_tuple" s_is_tuple
  d_is_fraction : At K mg "is_fraction" s_is_fraction
  d_lowest : At K mg "lowest" s_lowest
  d_made : At K mg "made" s_made
  d_plus : At K mg "plus" s_plus
  d_minus : At K mg "minus" s_minus
  d_times : At K mg "times" s_times
  d_through : At K mg "through" s_through
  d_less : At K mg "less" s_less
  d__law_open : At K mg "_law_open" s__law_open
  d__law_mixed : At K mg "_law_mixed" s__law_mixed
  d__law_draw : At K mg "_law_draw" s__law_draw
  d__law_wide : At K mg "_law_wide" s__law_wide
  d__law_told : At K mg "_law_told" s__law_told
  d__law_number : At K mg "_law_number" s__law_number
  d__law_lowest : At K mg "_law_lowest" s__law_lowest
  d__law_is : At K mg "_law_is" s__law_is
  d__law_made : At K mg "_law_made" s__law_made
  d__law_through : At K mg "_law_through" s__law_through
  d__law_sums : At K mg "_law_sums" s__law_sums
  d__law_kinds : At K mg "_law_kinds" s__law_kinds
  d_law : At K mg "law" s_law
  e_OutOfRange : ExcAt K mg "OutOfRange" X_OutOfRange
  e_Malformed : ExcAt K mg "Malformed" X_Malformed
  e_NotThere : ExcAt K mg "NotThere" X_NotThere
  e_Refused : ExcAt K mg "Refused" X_Refused
  e_TooMuch : ExcAt K mg "TooMuch" X_TooMuch
  g_DE : ∃ DE : Addr, ExcAt K mg "DocketError" DE ∧ PySem.W.subIn K (.ref X_OutOfRange) (.ref DE) = some true
  g_kit : PySem.W.kitOne K (.ref X_OutOfRange) (.ref X_Malformed) = some false ∧ PySem.W.kitOne K (.ref X_OutOfRange) (.ref X_NotThere) = some false ∧ PySem.W.kitOne K (.ref X_OutOfRange) (.ref X_Refused) = some false ∧ PySem.W.kitOne K (.ref X_OutOfRange) (.ref X_TooMuch) = some false ∧ PySem.W.kitOne K (.ref X_Malformed) (.ref X_OutOfRange) = some false ∧ PySem.W.kitOne K (.ref X_Malformed) (.ref X_NotThere) = some false ∧ PySem.W.kitOne K (.ref X_Malformed) (.ref X_Refused) = some false ∧ PySem.W.kitOne K (.ref X_Malformed) (.ref X_TooMuch) = some false ∧ PySem.W.kitOne K (.ref X_NotThere) (.ref X_OutOfRange) = some false ∧ PySem.W.kitOne K (.ref X_NotThere) (.ref X_Malformed) = some false ∧ PySem.W.kitOne K (.ref X_NotThere) (.ref X_Refused) = some false ∧ PySem.W.kitOne K (.ref X_NotThere) (.ref X_TooMuch) = some false ∧ PySem.W.kitOne K (.ref X_Refused) (.ref X_OutOfRange) = some false ∧ PySem.W.kitOne K (.ref X_Refused) (.ref X_Malformed) = some false ∧ PySem.W.kitOne K (.ref X_Refused) (.ref X_NotThere) = some false ∧ PySem.W.kitOne K (.ref X_Refused) (.ref X_TooMuch) = some false ∧ PySem.W.kitOne K (.ref X_TooMuch) (.ref X_OutOfRange) = some false ∧ PySem.W.kitOne K (.ref X_TooMuch) (.ref X_Malformed) = some false ∧ PySem.W.kitOne K (.ref X_TooMuch) (.ref X_NotThere) = some false ∧ PySem.W.kitOne K (.ref X_TooMuch) (.ref X_Refused) = some false ∧ PySem.W.kitOne K (.ref X_OutOfRange) (.type "ValueError") = some true ∧ PySem.W.kitOne K (.ref X_Malformed) (.type "ValueError") = some true ∧ PySem.W.kitOne K (.ref X_NotThere) (.type "ValueError") = some true ∧ PySem.W.kitOne K (.ref X_Refused) (.type "ValueError") = some true ∧ PySem.W.kitOne K (.ref X_TooMuch) (.type "ValueError") = some true
  g_gcd : mg "gcd" = some (.builtin "math.gcd")
  g_GREATEST : ∃ t, mg "GREATEST" = some (.int (10 ^ 60) t)
theorem same_new {H : Hp} {p : Addr} {o : HO} (h : H p = none) : Same H (upd H p o) := fun b u e => by
  rw [upd_ne (fun z => by rw [z, h] at e; cases e)]
  exact e
theorem same_put {H H' : Hp} {p : Addr} {o : HO} (s : Same H H') (h : H p = none) : Same H (upd H' p o) := fun b u e => by
  rw [upd_ne (fun z => by rw [z, h] at e; cases e)]
  exact s b u e
theorem i_inj (a b : Int) : (V.int a = V.int b) = (a = b) := propext ⟨fun h => V.int.inj h, fun h => by rw [h]⟩
/-- all but what stands at l stays -/
def But (l : Addr) (H H' : Hp) : Prop := ∀ b o, b ≠ l → H b = some o → H' b = some o
theorem But.refl (l : Addr) (H : Hp) : But l H H := fun _ _ _ e => e
theorem But.trans {l : Addr} {H H1 H2 : Hp} (a : But l H H1) (b : But l H1 H2) : But l H H2 := fun c o n e => b c o n (a c o n e)
theorem But.of {l : Addr} {H H1 : Hp} (a : Same H H1) : But l H H1 := fun c o _ e => a c o e
theorem map_get {ns : List Int} {i : Nat} {x : V} (h : (ns.map V.int)[i]? = some x) : ∃ n : Int, ns[i]? = some n ∧ x = .int n := by
  rw [List.getElem?_map] at h
  cases e : ns[i]? with
  | none =>
    rw [e] at h
    cases h
  | some n =>
    rw [e] at h
    exact ⟨n, rfl, (Option.some.inj h).symm⟩
theorem ints_add {zs : List Int} (v : Int) : zs.map V.int ++ [V.int v] = (zs ++ [v]).map V.int := by
  rw [List.map_append]
  rfl
end K0
namespace K0
open PySem PySem.Spec PyProof.Rows L2 Kt
local macro_rules | `(tactic| walk_at "go") => `(tactic| repeat (first
  | refine ⟨_, rfl, ?_⟩
  | refine ⟨_, _, rfl, rfl, (by show (0 : Int) < _; decide), ?_⟩
  | refine ⟨_, _, rfl, rfl, (show CDiv _ _ from ⟨by decide, by decide⟩), ?_⟩
  | refine ⟨_, _, rfl, rfl, (show CPow _ _ from ⟨by decide, by decide, by decide⟩), ?_⟩
  | refine ⟨_, _, rfl, rfl, (show CMul _ _ from .inr ⟨by decide, by decide⟩), ?_⟩
  | refine ⟨_, _, rfl, rfl, (show CMul _ _ from .inl ⟨by decide, by decide⟩), ?_⟩
  | refine ⟨_, _, rfl, rfl, (by show (0 : Int) ≤ _; decide), ?_⟩
  | refine ⟨_, _, rfl, rfl, ?_⟩
  | refine .inl ⟨_, rfl, ?_⟩
  | refine ⟨(rfl : scal _ _ = true), ?_⟩))
section
variable {P : Program} {w : World} {K : PySem.W.Frag} {mg : Str → Option Value} {base : Heap} {OR MA NT RE TM : Addr}
theorem pack {H : Hp} {L : Addr} {o : HO} (n : H L = none) : ∃ H5, upd H L o = H5 ∧ Same H H5 ∧ H5 L = some o := ⟨_, rfl, same_new n, upd_same⟩
def nmOf (bs : List (Str × Bool)) : List Str := (bs.filter (·.2)).map (·.1)
def bs5 (b1 b2 b3 b4 b5 : Bool) : List (Str × Bool) := [("OutOfRange", b1), ("Malformed", b2), ("NotThere", b3), ("Refused", b4), ("TooMuch", b5)]
def spTold (K : PySem.W.Frag) (OR MA NT RE TM : Addr) : Addr → Value → Option Addr → Sp := fun a cls d vs H Q _ => vs = [.ref a] ∧ ∃ (D : Addr) (b1 b2 b3 b4 b5 : Bool) (nm : Str), cls = .ref D ∧ d = none ∧ ExcC K D ∧
  PySem.W.kitOne K (.ref D) (.ref OR) = some b1 ∧ PySem.W.kitOne K (.ref D) (.ref MA) = some b2 ∧ PySem.W.kitOne K (.ref D) (.ref NT) = some b3 ∧ PySem.W.kitOne K (.ref D) (.ref RE) = some b4 ∧ PySem.W.kitOne K (.ref D) (.ref TM) = some b5 ∧
  PySem.W.kitOne K (.ref D) (.type "ValueError") = some true ∧ nmOf (bs5 b1 b2 b3 b4 b5) = [nm] ∧ ∀ H', Same H H' → Q (.str nm) H'
theorem ok_law_told (T : Txt K mg OR MA NT RE TM) : Kh.PromE P w K mg base 1 "_law_told" ["error"] (Kh.byP (spTold K OR MA NT RE TM)) := by
  have nd := sc__law_told.nd
  refine Kh.okE T.d__law_told sc__law_told bi__law_told (fun p vs H Q E h => ?_) (fun f cdv A outer s H vs Q E p hc hf hr h => ?_)
  · obtain ⟨rfl, _⟩ := h
    rfl
  · obtain ⟨rfl, D, b1, b2, b3, b4, b5, nm, e1, e2, C, k1, k2, k3, k4, k5, kV, hnm, q⟩ := h
    have hz : Zc (.ref D) none p.2 := ⟨e1, e2⟩
    have is : ∀ {c : Addr} {b : Bool} {H : Hp} {Q : VK}, PySem.W.kitOne K (.ref D) (.ref c) = some b → Q (.bl b) H → Kh.rIsP K p [.ref p.1, .ref c] H Q := fun k q => ⟨D, hz, hf, C, _, _, _, rfl, fun u r => r, k, q⟩
    refine ⟨_, (pss_cons (ps_set (i := 1) nd rfl (Or.inl rfl) (pe_lst (pa_cons (pe_tup (pa_cons pe_str (pa_cons (pe_callB (Kh.call_isP List.mem_cons_self) (by rfl) T.b_isinstance (by decide +kernel) (pa_cons (pv 0) (pa_cons (pe_glob (v := .ref OR) rfl T.e_OutOfRange.g rfl) pa_nil))) pa_nil))) (pa_cons (pe_tup (pa_cons pe_str (pa_cons (pe_callB (Kh.call_isP List.mem_cons_self) (by rfl) T.b_isinstance (by decide +kernel) (pa_cons (pv 0) (pa_cons (pe_glob (v := .ref MA) rfl T.e_Malformed.g rfl) pa_nil))) pa_nil))) (pa_cons (pe_tup (pa_cons pe_str (pa_cons (pe_callB (Kh.call_isP List.mem_cons_self) (by rfl) T.b_isinstance (by decide +kernel) (pa_cons (pv 0) (pa_cons (pe_glob (v := .ref NT) rfl T.e_NotThere.g rfl) pa_nil))) pa_nil))) (pa_cons (pe_tup (pa_cons pe_str (pa_cons (pe_callB (Kh.call_isP List.mem_cons_self) (by rfl) T.b_isinstance (by decide +kernel) (pa_cons (pv 0) (pa_cons (pe_glob (v := .ref RE) rfl T.e_Refused.g rfl) pa_nil))) pa_nil))) (pa_cons (pe_tup (pa_cons pe_str (pa_cons (pe_callB (Kh.call_isP List.mem_cons_self) (by rfl) T.b_isinstance (by decide +kernel) (pa_cons (pv 0) (pa_cons (pe_glob (v := .ref TM) rfl T.e_TooMuch.g rfl) pa_nil))) pa_nil))) pa_nil)))))))
    (pss_cons (Kh.ps_setLcH (i := 2) (own := [("name", 3), ("true", 4)]) (g := gTup K 2 (gCons (gName 3) (gCons (gName 4) (gNil)))) hc nd rfl rfl (sw_true rfl rfl rfl (by decide +kernel)) (Kh.pi_listH (pv 1)) (blkOk_by (own := [("name", 3), ("true", 4)]) (N := N__law_told) (sc := defScope s__law_told) (by decide +kernel)) (fun _ _ _ _ _ => (Kh.pg_tupH (show L2H.HotC _ from hc) (pgs_cons (pg_name (i := 3) nd rfl (Or.inl rfl)) (pgs_cons (pg_name (i := 4) nd rfl (Or.inl rfl)) pgs_nil)))) (fun _ _ _ _ _ => (pts_one (pt_val (pv 4)))) (fun _ _ _ _ _ => (pv 3)))
    (pss_cons (ps_if (PW.pt (pw_or (pt_cmpR op_ne (pe_callB call_len_seq (by rfl) T.b_len (by decide +kernel) (pa_cons (pv 2) pa_nil)) pe_int (nomark _)) (pw_or1 (pt_not (pt_val (pe_callB (Kh.call_isP List.mem_cons_self) (by rfl) T.b_isinstance (by decide +kernel) (pa_cons (pv 0) (pa_cons (pe_bltn (v := .ty "ValueError") (by rfl) T.b_ValueError L2.boot_ValueError rfl) pa_nil)))))))) (pss_one (ps_ret pe_str)) pss_nil)
    (pss_one (ps_ret (pe_ix ix_list (pv 2) pe_int (fun _ _ => rfl))))))), ?_⟩
    -- the five pairs
    refine ⟨_, rfl, is k1 ⟨by show 2 ≤ sizeLine; decide, fun p1 n1 => ?_⟩⟩
    refine ⟨_, rfl, is k2 ⟨by show 2 ≤ sizeLine; decide, fun p2 n2 => ?_⟩⟩
    refine ⟨_, rfl, is k3 ⟨by show 2 ≤ sizeLine; decide, fun p3 n3 => ?_⟩⟩
    refine ⟨_, rfl, is k4 ⟨by show 2 ≤ sizeLine; decide, fun p4 n4 => ?_⟩⟩
    refine ⟨_, rfl, is k5 ⟨by show 2 ≤ sizeLine; decide, fun p5 n5 => ?_⟩⟩
    refine ⟨by show 5 ≤ sizeLine; decide, fun L nL => ?_⟩
    have s1 := same_new (o := HO.tup [V.str "OutOfRange", V.bl b1]) n1
    have s2 := same_new (o := HO.tup [V.str "Malformed", V.bl b2]) n2
    have s3 := same_new (o := HO.tup [V.str "NotThere", V.bl b3]) n3
    have s4 := same_new (o := HO.tup [V.str "Refused", V.bl b4]) n4
    have s5 := same_new (o := HO.tup [V.str "TooMuch", V.bl b5]) n5
    obtain ⟨H5, hH5, s6, tL⟩ := pack (o := HO.lst [V.ref p1, V.ref p2, V.ref p3, V.ref p4, V.ref p5]) nL
    have t1 := (s2.trans (s3.trans (s4.trans (s5.trans s6)))) p1 _ upd_same
    have t2 := (s3.trans (s4.trans (s5.trans s6))) p2 _ upd_same
    have t3 := (s4.trans (s5.trans s6)) p3 _ upd_same
    have t4 := (s5.trans s6) p4 _ upd_same
    have t5 := s6 p5 _ upd_same
    have sA := s1.trans (s2.trans (s3.trans (s4.trans (s5.trans s6))))
    obtain ⟨ps, hps⟩ : ∃ ps : List (Addr × Str × Bool), ps = [(p1, ("OutOfRange" : Str), b1), (p2, ("Malformed" : Str), b2), (p3, ("NotThere" : Str), b3), (p4, ("Refused" : Str), b4), (p5, ("TooMuch" : Str), b5)] := ⟨_, rfl⟩
    have tps : H5 L = some (.lst (ps.map fun t => V.ref t.1)) := by rw [tL, hps] <;> rfl
    have hT : ∀ t ∈ ps, H5 t.1 = some (.tup [.str t.2.1, .bl t.2.2]) := by
      intro t ht
      rw [hps] at ht
      rcases List.mem_cons.mp ht with e | ht
      · subst e; exact t1
      rcases List.mem_cons.mp ht with e | ht
      · subst e; exact t2
      rcases List.mem_cons.mp ht with e | ht
      · subst e; exact t3
      rcases List.mem_cons.mp ht with e | ht
      · subst e; exact t4
      rcases List.mem_cons.mp ht with e | ht
      · subst e; exact t5
      cases ht
    have hlen : ps.length = 5 := by rw [hps] <;> rfl
    have hall : nmOf (ps.map (·.2)) = [nm] := by rw [hps]; exact hnm
    have hle : ∀ i, (nmOf ((ps.take i).map (·.2))).length < sizeLine := fun i => by
      refine Nat.lt_of_le_of_lt (m := 5) ?_ (by decide)
      unfold nmOf
      rw [List.length_map]
      refine Nat.le_trans (List.length_filter_le _ _) ?_
      rw [List.length_map, List.length_take]
      omega
    rw [hH5]
    refine ⟨_, rfl, L, rfl, ⟨_, SqL.of tL⟩, fun DL nD => lc_list (K := K) (a := L) (xs := ps.map fun t => V.ref t.1) (fun i H' => Same H5 H' ∧ H' DL = some (.lst ((nmOf ((ps.take i).map (·.2))).map V.str)))
      ⟨same_new nD, upd_same⟩ (fun i H' _ ⟨s, _⟩ => s.seq (SqL.of tps)) ?_ ?_⟩
    · rintro i x H' hi ⟨s, hD⟩
      rw [List.getElem?_map] at hi
      cases ht : ps[i]? with
      | none =>
        rw [ht] at hi
        cases hi
      | some t =>
        rw [ht] at hi
        obtain rfl := (Option.some.inj hi).symm
        have hm := hT t (List.mem_of_getElem? ht)
        have take : (ps.take (i + 1)).map (·.2) = (ps.take i).map (·.2) ++ [t.2] := by rw [List.take_succ, ht, List.map_append] <;> rfl
        refine ⟨t.1, _, rfl, SqT.of (s _ _ hm), rfl, _, _, rfl, _, _, rfl, rfl, rfl, ?_⟩
        refine ⟨_, rfl, t.2.2, rfl, ?_⟩
        cases hb : t.2.2 with
        | true =>
          refine iteT ⟨_, rfl, _, hD, by rw [List.length_map]; exact hle i, ?_⟩
          refine ⟨same_put s nD, ?_⟩
          rw [upd_same, take]
          unfold nmOf
          rw [List.filter_append, List.map_append, List.map_append]
          have e : List.filter (fun x => x.2) [t.2] = [t.2] := by rw [List.filter_cons, if_pos hb] <;> rfl
          rw [e] <;> rfl
        | false =>
          refine iteF ⟨s, ?_⟩
          rw [hD, take]
          unfold nmOf
          rw [List.filter_append]
          have e : List.filter (fun x => x.2) [t.2] = [] := by rw [List.filter_cons, if_neg (by rw [hb]; exact Bool.false_ne_true)] <;> rfl
          rw [e, List.append_nil]
    · rintro H' ⟨s, hD⟩
      rw [List.length_map, List.take_length, hall] at hD
      refine ⟨_, rfl, DL, _, rfl, .inl (SqL.of hD), rfl, _, rfl, ?_⟩
      refine iteF ⟨_, rfl, D, hz, hf, C, _, _, _, rfl, fun u r => r, kV, ?_⟩
      refine ⟨true, rfl, iteF ?_⟩
      exact ⟨_, rfl, DL, _, 0, V.str nm, rfl, rfl, SqL.of hD, rfl, q _ (sA.trans s)⟩
end
end K0
namespace K0
open PySem PySem.Spec PyProof.Rows L2 Kt
theorem c18 {i j : Int} (h : 0 < j) (h2 : j ≤ 10 ^ 60) : CDivW i j := wide_div (b := 300) h (by
  have e : (10 : Int) ^ 60 < 2 ^ 300 := by decide +kernel
  have e2 : (j.natAbs : Int) < ((2 ^ 300 : Nat) : Int) := by
    have e3 : ((2 ^ 300 : Nat) : Int) = (2 : Int) ^ 300 := by decide +kernel
    omega
  exact Int.ofNat_lt.mp e2) (by decide) (by decide)
local macro_rules | `(tactic| walk_at "go") => `(tactic| repeat (first
  | refine ⟨_, rfl, ?_⟩
  | refine ⟨_, _, rfl, rfl, (by show (0 : Int) < _; decide), ?_⟩
  | refine ⟨_, _, rfl, rfl, (show CDiv _ _ from ⟨by decide, by decide⟩), ?_⟩
  | refine ⟨_, _, rfl, rfl, (show CPow _ _ from ⟨by decide, by decide, by decide⟩), ?_⟩
  | refine ⟨_, _, rfl, rfl, (show CMul _ _ from .inr ⟨by decide, by decide⟩), ?_⟩
  | refine ⟨_, _, rfl, rfl, (show CMul _ _ from .inl ⟨by decide, by decide⟩), ?_⟩
  | refine ⟨_, _, rfl, rfl, (by show (0 : Int) ≤ _; decide), ?_⟩
  | refine ⟨_, _, rfl, rfl, ?_⟩
  | refine .inl ⟨_, rfl, ?_⟩
  | refine ⟨(rfl : scal _ _ = true), ?_⟩))
theorem cut63 {ns : List Int} (h : ns.length ≤ 63) : cutV (ns.map V.int) none (some 63) = ns.map V.int := by
  unfold cutV
  have e1 : HT.sIx (ns.map V.int).length 0 none = 0 := rfl
  have e2 : HT.sIx (ns.map V.int).length (ns.map V.int).length (some 63) = ns.length := by
    have z := HT.sIx_nat (ns.map V.int).length (ns.map V.int).length 63
    have z2 : HT.sIx (ns.map V.int).length (ns.map V.int).length (some 63) = min 63 (ns.map V.int).length := z
    rw [z2, List.length_map]
    omega
  rw [e1, e2, List.drop_zero]
  exact List.take_of_length_le (by rw [List.length_map]; omega)
theorem at_mod (cs : List Int) (t : Int) (h : 0 < cs.length) : ∃ z : Int, atI (cs.map V.int) (t % ((cs.map V.int).length : Int)) = some (V.int z) := by
  have p : (0 : Int) < ((cs.map V.int).length : Int) := by rw [List.length_map]; omega
  have a0 := Int.emod_nonneg t (Int.ne_of_gt p)
  have a1 := Int.emod_lt_of_pos t p
  generalize t % ((cs.map V.int).length : Int) = i at a0 a1
  rw [List.length_map] at a1
  obtain ⟨n, rfl⟩ : ∃ n : Nat, i = (n : Int) := ⟨i.toNat, by omega⟩
  have hi : n < cs.length := by omega
  refine ⟨cs[n], ?_⟩
  exact atI_nat (by rw [List.getElem?_map, List.getElem?_eq_getElem hi]; rfl)
/-- the law's state of draws at p -/
def Drs (H : Hp) (p : Addr) : Prop := ∃ (t l : Int) (c : Addr) (cs : List Int), H p = some (.lst [.int t, .int l, .ref c]) ∧ c ≠ p ∧ H c = some (.lst (cs.map V.int)) ∧ 0 < cs.length ∧ cs.length ≤ 64
theorem Drs.same {H H' : Hp} {p : Addr} (d : Drs H p) (s : Same H H') : Drs H' p := by
  obtain ⟨t, l, c, cs, h1, h2, h3, h4, h5⟩ := d
  exact ⟨t, l, c, cs, s _ _ h1, h2, s _ _ h3, h4, h5⟩
section
variable {P : Program} {w : World} {K : PySem.W.Frag} {mg : Str → Option Value} {base : Heap} {OR MA NT RE TM : Addr}
theorem ok_law_open (T : Txt K mg OR MA NT RE TM) : Prom P w K mg base CX0 1 "_law_open" ["script"] (fun vs H Q _ => ∃ (a : Addr) (ns : List Int), vs = [.ref a] ∧ SqL K H a (ns.map V.int) ∧ ns.length ≤ 63 ∧ ∀ p H', Same H H' → H p = none → Drs H' p → Q (.ref p) H') := by
  have nd := sc__law_open.nd
  refine T.d__law_open.ok sc__law_open bi__law_open (fun vs H Q E h => ?_) (fun f cdv A outer s H vs Q E hr h => ?_)
  · obtain ⟨a, ns, rfl, _⟩ := h
    rfl
  · obtain ⟨a, ns, rfl, hS, hlen, q⟩ := h
    refine ⟨_, (pss_cons (ps_setLc (i := 1) (own := [("cell", 2)]) (g := gName 2) (by rfl) nd rfl rfl (sw_true rfl rfl rfl (by decide +kernel)) (pi_list (pe_slice sl_list (pv 0) po_none (po_some pe_int))) (blkOk_by (own := [("cell", 2)]) (N := N__law_open) (sc := defScope s__law_open) (by decide +kernel)) (fun _ _ _ _ _ => (pg_name (i := 2) nd rfl (Or.inl rfl))) (fun _ _ _ _ _ => pts_nil) (fun _ _ _ _ _ => (pe_callB call_abs (by rfl) T.b_abs (by decide +kernel) (pa_cons (pe_callTy call_int1 (by rfl) T.b_int (by decide +kernel) (pa_cons (pv 2) pa_nil)) pa_nil))))
    (pss_one (ps_ret (pe_lst (pa_cons pe_int (pa_cons pe_int (pa_cons (pe_op op_cat (pv 1) (pe_lst (pa_cons pe_int pa_nil))) pa_nil))))))), ?_⟩
    refine ⟨_, rfl, 63, rfl, a, _, rfl, hS, fun p hp => ?_⟩
    rw [cut63 hlen]
    refine ⟨p, rfl, ⟨_, SqL.of upd_same⟩, fun D nD => lc_list (K := K) (a := p) (xs := ns.map V.int) (fun i H' => Same (upd H p (.lst (ns.map V.int))) H' ∧ ∃ cs : List Int, cs.length ≤ i ∧ H' D = some (.lst (cs.map V.int)))
      ⟨same_new nD, [], Nat.le_refl _, upd_same⟩ (fun i H' _ ⟨s, _⟩ => s.seq (SqL.of upd_same)) ?_ ?_⟩
    · rintro i x H' hi ⟨s, cs, hl, hD⟩
      obtain ⟨n, hn, rfl⟩ := map_get hi
      have hi2 : i < ns.length := (List.getElem?_eq_some_iff.mp hn).1
      refine ⟨rfl, lcy ?_⟩
      refine ⟨_, rfl, .inl ⟨_, rfl, _, rfl, ?_⟩⟩
      refine ⟨_, hD, Nat.lt_of_le_of_lt (m := 63) (by rw [List.length_map]; omega) (by decide), same_put s nD, ?_⟩
      rw [ints_add]
      exact ⟨_, by rw [List.length_append]; show cs.length + 1 ≤ i + 1; omega, upd_same⟩
    · rintro H' ⟨s, cs, hl, hD⟩
      rw [List.length_map] at hl
      refine ⟨_, rfl, by show 1 ≤ sizeLine; decide, fun Z nZ => ?_⟩
      have hD1 := same_new (o := HO.lst [V.int 0]) nZ D _ hD
      refine ⟨D, Z, _, _, rfl, rfl, hD1, upd_same, Nat.le_trans (m := 64) (by rw [List.length_map]; show cs.length + 1 ≤ 64; omega) (by decide), fun p2 n2 => ?_⟩
      refine ⟨by show 3 ≤ sizeLine; decide, fun p3 n3 => ?_⟩
      have sA := (((same_new (o := HO.lst (ns.map V.int)) hp).trans s).trans (same_new nZ)).trans (same_new (o := HO.lst (cs.map V.int ++ [V.int 0])) n2)
      have ne : p2 ≠ p3 := fun e => by
        rw [e, upd_same] at n3
        cases n3
      refine q p3 _ (sA.trans (same_new n3)) (sA.free n3) ⟨0, 0, p2, cs ++ [0], upd_same, ne, ?_, by rw [List.length_append]; show 0 < cs.length + 1; omega, by rw [List.length_append]; show cs.length + 1 ≤ 64; omega⟩
      rw [upd_ne ne, upd_same, List.map_append]
      rfl
theorem ok_law_mixed (T : Txt K mg OR MA NT RE TM) : Prom P w K mg base CX0 1 "_law_mixed" ["cell", "turn"] (fun vs H Q _ => ∃ c t : Int, vs = [.int c, .int t] ∧ ∀ r, Q (.int r) H) := by
  have nd := sc__law_mixed.nd
  refine T.d__law_mixed.ok sc__law_mixed bi__law_mixed (fun vs H Q E h => ?_) (fun f cdv A outer s H vs Q E hr h => ?_)
  · obtain ⟨c, t, rfl, _⟩ := h
    rfl
  · obtain ⟨c, t, rfl, q⟩ := h
    refine ⟨_, (pss_cons (ps_set (i := 2) nd rfl (Or.inl rfl) (pe_op op_mod (pe_op op_add (pe_op op_add (pe_op op_mul (pe_op op_mod (pv 0) (pe_op op_sub (pe_op op_pow pe_int pe_int) pe_int)) pe_int) (pe_op op_mul (pv 1) pe_int)) pe_int) (pe_op op_pow pe_int pe_int)))
    (pss_cons (ps_set (i := 2) nd rfl (Or.inl rfl) (pe_op op_mod (pe_op op_mul (pe_op op_xor (pv 2) (pe_op op_shr (pv 2) pe_int)) pe_int) (pe_op op_pow pe_int pe_int)))
    (pss_one (ps_ret (pe_op op_mod (pe_op op_mul (pe_op op_xor (pv 2) (pe_op op_shr (pv 2) pe_int)) pe_int) (pe_op op_pow pe_int pe_int)))))), ?_⟩
    walk_at "go"
    exact q _
def spDraw : Sp := fun vs H Q _ => ∃ (p : Addr) (b : Int), vs = [.ref p, .int b] ∧ 0 < b ∧ b ≤ 10 ^ 60 ∧ Drs H p ∧ ∀ (r : Int) (H' : Hp), 0 ≤ r → r < b → But p H H' → Drs H' p → Q (.int r) H'
theorem ok_law_draw (T : Txt K mg OR MA NT RE TM) : Prom P w K mg base CX0 2 "_law_draw" ["draws", "size"] spDraw := by
  have nd := sc__law_draw.nd
  have pr__law_mixed := ok_law_mixed (P := P) (w := w) (base := base) T
  refine T.d__law_draw.ok sc__law_draw bi__law_draw (fun vs H Q E h => ?_) (fun f cdv A outer s H vs Q E hr h => ?_)
  · obtain ⟨p, b, rfl, _⟩ := h
    rfl
  · obtain ⟨p, b, rfl, b0, b1, ⟨t, l, c, cs, h1, h2, h3, h4, h5⟩, q⟩ := h
    refine ⟨_, (pss_cons (ps_asg (pv 0) (pg_lst rfl (pgs_cons (pg_name (i := 2) nd rfl (Or.inl rfl)) (pgs_cons (pg_name (i := 3) nd rfl (Or.inl rfl)) (pgs_cons (pg_name (i := 4) nd rfl (Or.inl rfl)) pgs_nil)))))
    (Evl.pss_cut (ps_if (pt_cmpR op_lt (pv 3) (pv 1) (nomark _)) (pss_cons (ps_set (i := 5) nd rfl (Or.inl rfl) (pe_ix ix_list (pv 4) (pe_op op_mod (pv 2) (pe_callB call_len_seq (by rfl) T.b_len (by decide +kernel) (pa_cons (pv 4) pa_nil))) (fun _ _ => rfl)))
    (pss_cons (ps_set (i := 3) nd rfl (Or.inl rfl) (pe_ifExp (PW.pt (pw_and (pt_cmpR op_lt (pv 2) (pe_callB call_len_seq (by rfl) T.b_len (by decide +kernel) (pa_cons (pv 4) pa_nil)) (nomark _)) (pw_and1 (pt_cmpR op_ge (pv 5) (pe_op op_pow pe_int pe_int) (nomark _))))) (pv 5) (pcall hr pr__law_mixed (pa_cons (pv 5) (pa_cons (pv 2) pa_nil)))))
    (pss_one (ps_set (i := 2) nd rfl (Or.inl rfl) (pe_op op_add (pv 2) pe_int))))) pss_nil)
    (pss_cons (ps_asg (pv 2) (pg_sub (pv 0) pe_int set_list))
    (pss_cons (ps_asg (pe_op op_fdivW (pv 3) (pv 1)) (pg_sub (pv 0) pe_int set_list))
    (pss_one (ps_ret (pe_op op_mod (pv 3) (pv 1)))))))), ?_⟩
    refine ⟨_, rfl, p, _, rfl, SqL.of h1, rfl, _, _, rfl, _, _, rfl, _, _, rfl, rfl, ?_⟩
    refine ⟨fun σ2 H2 => ∃ (t' l' : Int) (v5 : Option V), σ2 = [some (.ref p), some (.int b), some (.int t'), some (.int l'), some (.ref c), v5] ∧ H2 = H, ?_, ?_⟩
    · walk_at "go"
      refine ite2 (fun _ => ?_) (fun _ => ⟨_, _, _, rfl, rfl⟩)
      obtain ⟨z, hz⟩ := at_mod cs t h4
      refine ⟨_, rfl, _, rfl, _, rfl, c, _, rfl, .inl (SqL.of h3), _, _, rfl, rfl, by rw [List.length_map]; omega, c, _, _, _, rfl, rfl, SqL.of h3, hz, ?_⟩
      refine ⟨_, rfl, _, rfl, c, _, rfl, .inl (SqL.of h3), _, _, rfl, rfl, _, rfl, ?_⟩
      refine ite2 (fun _ => ?_) (fun _ => iteF ⟨_, rfl, _, rfl, z, t, rfl, fun r => ⟨_, rfl, _, _, rfl, rfl, _, _, _, rfl, rfl⟩⟩)
      refine ⟨_, rfl, _, _, rfl, rfl, (show CPow _ _ from ⟨by decide, by decide, by decide⟩), _, _, rfl, rfl, _, rfl, ?_⟩
      exact ite2 (fun _ => ⟨_, rfl, _, rfl, _, _, rfl, rfl, _, _, _, rfl, rfl⟩) (fun _ => ⟨_, rfl, _, rfl, z, t, rfl, fun r => ⟨_, rfl, _, _, rfl, rfl, _, _, _, rfl, rfl⟩⟩)
    · rintro σ2 H2 ⟨t', l', v5, rfl, rfl⟩
      refine ⟨_, rfl, _, rfl, p, _, 0, 0, rfl, rfl, h1, rfl, ?_⟩
      refine ⟨_, rfl, _, rfl, _, _, rfl, rfl, c18 b0 b1, _, rfl, p, _, 1, 1, rfl, rfl, upd_same, rfl, ?_⟩
      refine ⟨_, rfl, _, rfl, _, _, rfl, rfl, b0, ?_⟩
      refine q _ _ (Int.emod_nonneg _ (by omega)) (Int.emod_lt_of_pos _ b0) (fun o u ne e => ?_) ⟨t', l' / b, c, cs, upd_same, h2, ?_, h4, h5⟩
      · rw [upd_ne ne, upd_ne ne]
        exact e
      · rw [upd_ne h2, upd_ne h2]
        exact h3
end
end K0
/-! fractions: the mathematics -/
namespace Fx
def sg (w : Int) : Int := if w < 0 then -1 else 1
def gd (p w : Int) : Int := ((Nat.gcd p.natAbs w.natAbs : Nat) : Int)
def lowP (p w : Int) : Int := sg w * p / gd p w
def lowW (p w : Int) : Int := sg w * w / gd p w
theorem abs_nat (i : Int) : (if i < 0 then -i else i) = ((i.natAbs : Nat) : Int) := by split <;> omega
/-- Euclid's pairs: a bound that falls -/
def Eu (x y i a b : Nat) : Prop := Nat.gcd a b = Nat.gcd x y ∧ (b = 0 ∨ (i = 0 ∧ b < 2 ^ 410) ∨ (1 ≤ i ∧ b < a ∧ a * b * 2 ^ (i - 1) < 2 ^ 820))
theorem eu_0 {x y : Nat} (hy : y < 2 ^ 410) : Eu x y 0 x y := ⟨rfl, .inr (.inl ⟨rfl, hy⟩)⟩
theorem eu_step {x y i a b : Nat} (h : Eu x y i a b) (hb : b ≠ 0) : Eu x y (i + 1) b (a % b) := by
  obtain ⟨hg, h⟩ := h
  have hr : a % b < b := Nat.mod_lt _ (Nat.pos_of_ne_zero hb)
  refine ⟨?_, .inr (.inr ⟨by omega, hr, ?_⟩)⟩
  · rw [← hg, Nat.gcd_comm b (a % b), ← Nat.gcd_rec, Nat.gcd_comm]
  · rw [Nat.add_sub_cancel]
    rcases h with h | ⟨hi, h⟩ | ⟨hi, hlt, h⟩
    · exact absurd h hb
    · subst hi
      rw [Nat.pow_zero, Nat.mul_one]
      have e : (2 : Nat) ^ 820 = 2 ^ 410 * 2 ^ 410 := by rw [← Nat.pow_add]
      rw [e]
      exact Nat.mul_lt_mul'' h (Nat.lt_trans hr h)
    · refine Nat.lt_of_le_of_lt ?_ h
      have h2 : 2 * (a % b) ≤ a := by
        have e := Nat.mod_add_div a b
        have d : 1 ≤ a / b := Nat.div_pos (Nat.le_of_lt hlt) (Nat.pos_of_ne_zero hb)
        have m : b ≤ b * (a / b) := Nat.le_mul_of_pos_right b d
        omega
      have e : i = (i - 1) + 1 := by omega
      rw [e, Nat.pow_succ, Nat.add_sub_cancel]
      have e2 : b * (a % b) * (2 ^ (i - 1) * 2) = 2 * (a % b) * b * 2 ^ (i - 1) := by
        rw [Nat.mul_comm (2 ^ (i - 1)) 2, ← Nat.mul_assoc, Nat.mul_comm (b * (a % b)) 2, ← Nat.mul_assoc, Nat.mul_right_comm 2 b (a % b)]
      rw [e2]
      exact Nat.mul_le_mul_right _ (Nat.mul_le_mul_right _ h2)
theorem eu_end {x y a b : Nat} (h : Eu x y 1000 a b) : b = 0 := by
  obtain ⟨hg, h⟩ := h
  rcases h with h | ⟨hi, h⟩ | ⟨hi, hlt, h⟩
  · exact h
  · omega
  · by_cases hb : b = 0
    · exact hb
    · exfalso
      have p : 1 ≤ a * b := Nat.mul_pos (by omega) (Nat.pos_of_ne_zero hb)
      have q : 2 ^ 999 ≤ a * b * 2 ^ (1000 - 1) := Nat.le_mul_of_pos_left _ p
      have r : (2 : Nat) ^ 820 < 2 ^ 999 := by decide +kernel
      omega
theorem eu_out {x y i a : Nat} (h : Eu x y i a 0) : a = Nat.gcd x y := by
  rw [← h.1, Nat.gcd_zero_right]
theorem gd_pos {p w : Int} (h : w ≠ 0) : 0 < gd p w := by
  have z : 0 < Nat.gcd p.natAbs w.natAbs := Nat.gcd_pos_of_pos_right _ (by omega)
  unfold gd
  omega
theorem gd_le {p w : Int} (h : w ≠ 0) : (gd p w).natAbs ≤ w.natAbs := Nat.le_of_dvd (by omega) (Nat.gcd_dvd_right _ _)
theorem gd_dvd_p (p w : Int) : gd p w ∣ p := Int.ofNat_dvd_left.mpr (Nat.gcd_dvd_left _ _)
theorem gd_dvd_w (p w : Int) : gd p w ∣ w := Int.ofNat_dvd_left.mpr (Nat.gcd_dvd_right _ _)
theorem sg_cases (w : Int) : (w < 0 ∧ sg w = -1) ∨ (0 ≤ w ∧ sg w = 1) := by
  unfold sg
  by_cases h : w < 0
  · exact .inl ⟨h, if_pos h⟩
  · exact .inr ⟨by omega, if_neg h⟩
/-- a fraction in lowest terms, small -/
def Fr (a b : Int) : Prop := -(10 ^ 60) ≤ a ∧ a ≤ 10 ^ 60 ∧ 1 ≤ b ∧ b ≤ 10 ^ 60 ∧ gd a b = 1
theorem gd_neg (p w : Int) : gd (-p) (-w) = gd p w := by
  unfold gd
  rw [Int.natAbs_neg, Int.natAbs_neg]
theorem div_gd {p w : Int} (hw : 0 < w) : gd (p / gd p w) (w / gd p w) = 1 := by
  have hg := gd_pos (p := p) (w := w) (by omega)
  obtain ⟨a, ha⟩ := gd_dvd_p p w
  obtain ⟨b, hb⟩ := gd_dvd_w p w
  generalize hG : gd p w = G at *
  have ea : p / G = a := by rw [ha, Int.mul_ediv_cancel_left _ (by omega)]
  have eb : w / G = b := by rw [hb, Int.mul_ediv_cancel_left _ (by omega)]
  rw [ea, eb]
  have e : gd p w = G * gd a b := by
    rw [ha, hb]
    unfold gd
    rw [Int.natAbs_mul, Int.natAbs_mul, Nat.gcd_mul_left, Int.natCast_mul]
    have : ((G.natAbs : Nat) : Int) = G := by omega
    rw [this]
  rw [hG] at e
  have e2 : G * 1 = G * gd a b := by rw [Int.mul_one]; exact e
  exact (Int.eq_of_mul_eq_mul_left (by omega) e2).symm
theorem div_le_self' {x g M : Int} (hg : 0 < g) (h1 : -M ≤ x) (h2 : x ≤ M) (hd : g ∣ x) (hM : 0 ≤ M) : -M ≤ x / g ∧ x / g ≤ M := by
  obtain ⟨a, rfl⟩ := hd
  rw [Int.mul_ediv_cancel_left _ (by omega)]
  have k : ∀ {n : Int}, 0 ≤ n → n ≤ g * n := fun {n} hn => by
    have := Int.mul_le_mul_of_nonneg_right (show (1 : Int) ≤ g by omega) hn
    rw [Int.one_mul] at this
    exact this
  by_cases ha : 0 ≤ a
  · have := k ha
    omega
  · have := k (n := -a) (by omega)
    rw [Int.mul_neg] at this
    omega
theorem low_fr {p w : Int} (hw : w ≠ 0) (p1 : -(10 ^ 60) ≤ p) (p2 : p ≤ 10 ^ 60) (w1 : -(10 ^ 60) ≤ w) (w2 : w ≤ 10 ^ 60) : Fr (lowP p w) (lowW p w) := by
  have key : ∀ {x y : Int}, 0 < y → -(10 ^ 60) ≤ x → x ≤ 10 ^ 60 → y ≤ 10 ^ 60 → Fr (x / gd x y) (y / gd x y) := fun {x y} hy h1 h2 h3 => by
    have hg := gd_pos (p := x) (w := y) (by omega)
    have q1 := div_le_self' hg h1 h2 (gd_dvd_p x y) (by decide +kernel)
    have q2 := div_le_self' hg (show -(10 ^ 60) ≤ y by omega) h3 (gd_dvd_w x y) (by decide +kernel)
    have q3 : 1 ≤ y / gd x y := by
      obtain ⟨b, hb⟩ := gd_dvd_w x y
      generalize hG : gd x y = G at *
      rw [hb, Int.mul_ediv_cancel_left _ (by omega)]
      rw [hb] at hy
      exact Int.pos_of_mul_pos_right hy (by omega) |> fun z => z
    exact ⟨q1.1, q1.2, q3, q2.2, div_gd hy⟩
  unfold lowP lowW
  rcases sg_cases w with ⟨h, e⟩ | ⟨h, e⟩
  · rw [e, ← gd_neg, Int.neg_mul, Int.neg_mul, Int.one_mul, Int.one_mul]
    exact key (by omega) (by omega) (by omega) (by omega)
  · rw [e, Int.one_mul, Int.one_mul]
    exact key (by omega) p1 p2 w2
end Fx
namespace K0
open PySem PySem.Spec PyProof.Rows L2 Kt Fx
local macro_rules | `(tactic| walk_at "go") => `(tactic| repeat (first
  | refine ⟨_, rfl, ?_⟩
  | refine ⟨_, _, rfl, rfl, (by show (0 : Int) < _; decide), ?_⟩
  | refine ⟨_, _, rfl, rfl, (show CDiv _ _ from ⟨by decide, by decide⟩), ?_⟩
  | refine ⟨_, _, rfl, rfl, (show CPow _ _ from ⟨by decide, by decide, by decide⟩), ?_⟩
  | refine ⟨_, _, rfl, rfl, (show CMul _ _ from .inr ⟨by decide, by decide⟩), ?_⟩
  | refine ⟨_, _, rfl, rfl, (show CMul _ _ from .inl ⟨by decide, by decide⟩), ?_⟩
  | refine ⟨_, _, rfl, rfl, (by show (0 : Int) ≤ _; decide), ?_⟩
  | refine ⟨_, _, rfl, rfl, ?_⟩
  | refine .inl ⟨_, rfl, ?_⟩
  | refine ⟨(rfl : scal _ _ = true), ?_⟩))
section
variable {P : Program} {w : World} {K : PySem.W.Frag} {mg : Str → Option Value} {base : Heap} {OR MA NT RE TM : Addr}
theorem ok_law_wide (T : Txt K mg OR MA NT RE TM) : Prom P w K mg base CX0 3 "_law_wide" ["draws", "size"] spDraw := by
  have nd := sc__law_wide.nd
  have pr__law_draw := ok_law_draw (P := P) (w := w) (base := base) T
  refine T.d__law_wide.ok sc__law_wide bi__law_wide (fun vs H Q E h => ?_) (fun f cdv A outer s H vs Q E hr h => ?_)
  · obtain ⟨p, b, rfl, _⟩ := h
    rfl
  · obtain ⟨p, b, rfl, b0, b1, d, q⟩ := h
    refine ⟨_, (pss_cons (ps_set (i := 2) nd rfl (Or.inl rfl) pe_int)
    (pss_cons (ps_for PassesOwn.never rfl (pi_range1 (by rfl) T.b_range (pa_cons pe_int pa_nil)) (pg_name (i := 3) nd rfl (Or.inl rfl)) (pss_one (ps_set (i := 2) nd rfl (Or.inl rfl) (pe_op op_add (pe_op op_mul (pv 2) (pe_op op_pow pe_int pe_int)) (pcall hr pr__law_draw (pa_cons (pv 0) (pa_cons (pe_op op_pow pe_int pe_int) pa_nil)))))))
    (pss_one (ps_ret (pe_op op_mod (pv 2) (pv 1)))))), ?_⟩
    refine ⟨4, rfl, by decide, by decide, for_range (n := 4) (fun i σ' H' => ∃ (n : Int) (v3 : Option V), σ' = [some (.ref p), some (.int b), some (.int n), v3] ∧ But p H H' ∧ Drs H' p) ⟨0, none, rfl, But.refl p H, d⟩ ?_ ?_⟩
    · rintro i σ' H' hi ⟨n, v3, rfl, bt, d'⟩
      refine ⟨_, rfl, _, _, rfl, rfl, (show CPow _ _ from ⟨by decide, by decide, by decide⟩), _, _, rfl, rfl, (show CMul _ _ from .inr ⟨by decide +kernel, by decide +kernel⟩), ?_⟩
      refine ⟨_, rfl, _, _, rfl, rfl, (show CPow _ _ from ⟨by decide, by decide, by decide⟩), p, _, rfl, by decide +kernel, by decide +kernel, d', fun r H2 r0 r1 bt2 d2 => ?_⟩
      exact ⟨_, _, rfl, rfl, _, _, rfl, bt.trans bt2, d2⟩
    · rintro σ' H' ⟨n, v3, rfl, bt, d'⟩
      exact ⟨_, rfl, _, rfl, _, _, rfl, rfl, b0, q _ _ (Int.emod_nonneg _ (by omega)) (Int.emod_lt_of_pos _ b0) bt d'⟩
def spLowest : Sp := fun vs H Q _ => ∃ a b : Int, vs = [.int a, .int b] ∧ b ≠ 0 ∧ b.natAbs < 2 ^ 410 ∧ ∀ p H', Same H H' → H p = none → H' p = some (.tup [.int (lowP a b), .int (lowW a b)]) → Q (.ref p) H'
theorem ok_law_lowest (T : Txt K mg OR MA NT RE TM) : Prom P w K mg base CX0 1 "_law_lowest" ["part", "whole"] spLowest := by
  have nd := sc__law_lowest.nd
  refine T.d__law_lowest.ok sc__law_lowest bi__law_lowest (fun vs H Q E h => ?_) (fun f cdv A outer s H vs Q E hr h => ?_)
  · obtain ⟨a, b, rfl, _⟩ := h
    rfl
  · obtain ⟨a, b, rfl, b0, b1, q⟩ := h
    refine ⟨_, (pss_cons (ps_set (i := 2) nd rfl (Or.inl rfl) (pe_callB call_abs (by rfl) T.b_abs (by decide +kernel) (pa_cons (pv 0) pa_nil)))
    (pss_cons (ps_set (i := 3) nd rfl (Or.inl rfl) (pe_callB call_abs (by rfl) T.b_abs (by decide +kernel) (pa_cons (pv 1) pa_nil)))
    (Evl.pss_cut (ps_for PassesOwn.never rfl (pi_range1 (by rfl) T.b_range (pa_cons pe_int pa_nil)) (pg_name (i := 4) nd rfl (Or.inl rfl)) (pss_cons (ps_if (pt_cmpR op_eq (pv 3) pe_int (nomark _)) (pss_one ps_break) pss_nil)
    (pss_cons (ps_set (i := 5) nd rfl (Or.inl rfl) (pe_op op_mod (pv 2) (pv 3)))
    (pss_cons (ps_set (i := 2) nd rfl (Or.inl rfl) (pv 3))
    (pss_one (ps_set (i := 3) nd rfl (Or.inl rfl) (pv 5)))))))
    (pss_cons (ps_set (i := 6) nd rfl (Or.inl rfl) (pe_ifExp (pt_cmpR op_lt (pv 1) pe_int (nomark _)) (pe_un un_neg pe_int) pe_int))
    (pss_one (ps_ret (pe_tup (pa_cons (pe_op op_fdivW (pe_op op_mul (pv 6) (pv 0)) (pv 2)) (pa_cons (pe_op op_fdivW (pe_op op_mul (pv 6) (pv 1)) (pv 2)) pa_nil))))))))), ?_⟩
    refine ⟨_, rfl, _, rfl, ?_⟩
    rw [abs_nat]
    refine ⟨_, rfl, _, rfl, ?_⟩
    rw [abs_nat]
    refine ⟨fun σ2 H2 => ∃ v4 v5 : Option V, σ2 = [some (.int a), some (.int b), some (.int (gd a b)), some (.int 0), v4, v5, none] ∧ H2 = H, ?_, ?_⟩
    · refine ⟨1000, rfl, by decide, by decide, for_range (n := 1000) (fun i σ' H' => ∃ (x y : Nat) (v4 v5 : Option V), σ' = [some (.int a), some (.int b), some (.int (x : Int)), some (.int (y : Int)), v4, v5, none] ∧ H' = H ∧ Eu a.natAbs b.natAbs i x y)
        ⟨_, _, none, none, rfl, rfl, eu_0 b1⟩ ?_ ?_⟩
      · rintro i σ' H' hi ⟨x, y, v4, v5, rfl, rfl, e⟩
        refine ⟨_, rfl, rfl, _, rfl, ?_⟩
        by_cases hy : y = 0
        · subst hy
          refine iteT ?_
          rw [eu_out e]
          exact ⟨_, _, rfl, rfl⟩
        · have z : decide (V.int (y : Int) = V.int 0) = false := decide_eq_false fun z => hy (by have := V.int.inj z; omega)
          rw [z]
          refine iteF ?_
          refine ⟨_, rfl, _, rfl, _, _, rfl, rfl, by show (0 : Int) < (y : Int); omega, ?_⟩
          refine ⟨_, rfl, _, rfl, ?_⟩
          exact ⟨y, x % y, _, _, rfl, rfl, eu_step e hy⟩
      · rintro σ' H' ⟨x, y, v4, v5, rfl, rfl, e⟩
        have z := eu_end e
        subst z
        rw [eu_out e]
        exact ⟨_, _, rfl, rfl⟩
    · rintro σ' H' ⟨v4, v5, rfl, rfl⟩
      have g0 := gd_pos (p := a) b0
      have cd : ∀ i : Int, CDivW i (gd a b) := fun i => wide_div (b := 410) g0 (Nat.lt_of_le_of_lt (gd_le b0) b1) (by decide) (by decide)
      have cm : ∀ s i : Int, s = sg b → CMul s i := fun s i z => .inl (by rw [z]; rcases sg_cases b with ⟨_, e⟩ | ⟨_, e⟩ <;> rw [e] <;> exact ⟨by decide, by decide⟩)
      rcases sg_cases b with ⟨hb, e⟩ | ⟨hb, e⟩
      · refine ⟨_, rfl, _, _, rfl, rfl, _, rfl, ?_⟩
        rw [decide_eq_true hb]
        refine iteT ⟨1, rfl, ?_⟩
        refine ⟨_, rfl, _, rfl, _, _, rfl, rfl, cm _ _ e.symm, _, rfl, _, _, rfl, rfl, cd _, ?_⟩
        refine ⟨_, rfl, _, rfl, _, _, rfl, rfl, cm _ _ e.symm, _, rfl, _, _, rfl, rfl, cd _, ?_⟩
        exact ⟨by show 2 ≤ sizeLine; decide, fun p hp => q p _ (same_new hp) hp (by rw [upd_same]; unfold lowP lowW; rw [e] <;> rfl)⟩
      · refine ⟨_, rfl, _, _, rfl, rfl, _, rfl, ?_⟩
        rw [decide_eq_false (show ¬ b < 0 by omega)]
        refine iteF ?_
        refine ⟨_, rfl, _, rfl, _, _, rfl, rfl, cm _ _ e.symm, _, rfl, _, _, rfl, rfl, cd _, ?_⟩
        refine ⟨_, rfl, _, rfl, _, _, rfl, rfl, cm _ _ e.symm, _, rfl, _, _, rfl, rfl, cd _, ?_⟩
        exact ⟨by show 2 ≤ sizeLine; decide, fun p hp => q p _ (same_new hp) hp (by rw [upd_same]; unfold lowP lowW; rw [e] <;> rfl)⟩
theorem ok_law_number (T : Txt K mg OR MA NT RE TM) : Prom P w K mg base CX0 4 "_law_number" ["draws"] (fun vs H Q _ => ∃ p : Addr, vs = [.ref p] ∧ Drs H p ∧ ∀ (n : Int) (H' : Hp), -(10 ^ 60) ≤ n → n ≤ 10 ^ 60 → But p H H' → Drs H' p → Q (.int n) H') := by
  have nd := sc__law_number.nd
  have pr__law_draw := ok_law_draw (P := P) (w := w) (base := base) T
  have pr__law_wide := ok_law_wide (P := P) (w := w) (base := base) T
  refine T.d__law_number.ok sc__law_number bi__law_number (fun vs H Q E h => ?_) (fun f cdv A outer s H vs Q E hr h => ?_)
  · obtain ⟨p, rfl, _⟩ := h
    rfl
  · obtain ⟨p, rfl, d, q⟩ := h
    refine ⟨_, (pss_cons (ps_set (i := 1) nd rfl (Or.inl rfl) (pcall hr pr__law_draw (pa_cons (pv 0) (pa_cons pe_int pa_nil))))
    (Evl.pss_cut (ps_set (i := 2) nd rfl (Or.inl rfl) (pe_ix ix_list (pe_lst (pa_cons pe_int (pa_cons pe_int (pa_cons (pe_op op_pow pe_int pe_int) (pa_cons (pe_op op_pow pe_int pe_int) pa_nil))))) (pv 1) (fun _ _ => rfl)))
    (Evl.pss_cut (ps_set (i := 3) nd rfl (Or.inl rfl) (pe_ifExp (pt_cmpR op_eq (pv 1) pe_int (nomark _)) (pcall hr pr__law_wide (pa_cons (pv 0) (pa_cons (pv 2) pa_nil))) (pcall hr pr__law_draw (pa_cons (pv 0) (pa_cons (pv 2) pa_nil)))))
    (Evl.pss_cut (ps_if (PW.pt (pw_and (pt_cmpR op_eq (pv 1) pe_int (nomark _)) (pw_and1 (pt_cmpR op_eq (pcall hr pr__law_draw (pa_cons (pv 0) (pa_cons pe_int pa_nil))) pe_int (nomark _))))) (pss_one (ps_set (i := 3) nd rfl (Or.inl rfl) (pe_op op_sub (pe_op op_pow pe_int pe_int) (pe_op op_mod (pv 3) pe_int)))) pss_nil)
    (pss_one (ps_ret (pe_ifExp (pt_cmpR op_eq (pcall hr pr__law_draw (pa_cons (pv 0) (pa_cons pe_int pa_nil))) pe_int (nomark _)) (pe_un un_neg (pv 3)) (pv 3)))))))), ?_⟩
    refine ⟨_, rfl, p, 4, rfl, by decide, by decide +kernel, d, fun k H1 k0 k1 bt1 d1 => ?_⟩
    refine ⟨fun σ2 H2 => ∃ z : Int, σ2 = [some (.ref p), some (.int k), some (.int z), none] ∧ 0 < z ∧ z ≤ 10 ^ 60 ∧ But p H H2 ∧ Drs H2 p, ?_, ?_⟩
    · refine ⟨_, _, rfl, rfl, (show CPow _ _ from ⟨by decide, by decide, by decide⟩), _, _, rfl, rfl, (show CPow _ _ from ⟨by decide, by decide, by decide⟩), by show 4 ≤ sizeLine; decide, fun L nL => ?_⟩
      have d2 := d1.same (same_new (o := HO.lst [V.int 7, V.int 7, V.int (10 ^ 6), V.int (10 ^ 60)]) nL)
      have b2 := bt1.trans (But.of (l := p) (same_new (o := HO.lst [V.int 7, V.int 7, V.int (10 ^ 6), V.int (10 ^ 60)]) nL))
      have h4 : k = 0 ∨ k = 1 ∨ k = 2 ∨ k = 3 := by omega
      rcases h4 with rfl | rfl | rfl | rfl <;> exact ⟨_, rfl, L, _, _, _, rfl, rfl, SqL.of upd_same, rfl, _, rfl, by decide +kernel, by decide +kernel, b2, d2⟩
    · rintro σ2 H2 ⟨z, rfl, z0, z1, bt2, d2⟩
      refine ⟨fun σ3 H3 => ∃ n : Int, σ3 = [some (.ref p), some (.int k), some (.int z), some (.int n)] ∧ 0 ≤ n ∧ n ≤ 10 ^ 60 ∧ But p H H3 ∧ Drs H3 p, ?_, ?_⟩
      · refine ⟨_, rfl, rfl, _, rfl, ?_⟩
        refine ite2 (fun _ => ?_) (fun _ => ?_)
        · exact ⟨_, rfl, _, rfl, p, z, rfl, z0, z1, d2, fun r H3 r0 r1 bt3 d3 => ⟨r, rfl, r0, by omega, bt2.trans bt3, d3⟩⟩
        · exact ⟨_, rfl, _, rfl, p, z, rfl, z0, z1, d2, fun r H3 r0 r1 bt3 d3 => ⟨r, rfl, r0, by omega, bt2.trans bt3, d3⟩⟩
      · rintro σ3 H3 ⟨n, rfl, n0, n1, bt3, d3⟩
        refine ⟨fun σ4 H4 => ∃ n : Int, σ4 = [some (.ref p), some (.int k), some (.int z), some (.int n)] ∧ 0 ≤ n ∧ n ≤ 10 ^ 60 ∧ But p H H4 ∧ Drs H4 p, ?_, ?_⟩
        · refine ⟨_, rfl, rfl, _, rfl, ?_⟩
          refine ite2 (fun _ => ?_) (fun _ => iteF ⟨n, rfl, n0, n1, bt3, d3⟩)
          refine ⟨_, rfl, p, 3, rfl, by decide, by decide +kernel, d3, fun r H4 r0 r1 bt4 d4 => ?_⟩
          refine ⟨rfl, _, rfl, ?_⟩
          refine ite2 (fun _ => ?_) (fun _ => ⟨n, rfl, n0, n1, bt3.trans bt4, d4⟩)
          refine ⟨_, _, rfl, rfl, (show CPow _ _ from ⟨by decide, by decide, by decide⟩), _, rfl, _, _, rfl, rfl, (by show (0 : Int) < 5; decide), _, _, rfl, rfl, ?_⟩
          have m0 := Int.emod_nonneg n (show (5 : Int) ≠ 0 by decide)
          have m1 := Int.emod_lt_of_pos n (show (0 : Int) < 5 by decide)
          have e : ((10 : Int) ^ (60 : Int).toNat) = 10 ^ 60 := rfl
          have big : (5 : Int) ≤ 10 ^ 60 := by decide +kernel
          exact ⟨_, rfl, by rw [e]; omega, by rw [e]; omega, bt3.trans bt4, d4⟩
        · rintro σ4 H4 ⟨n, rfl, n0, n1, bt4, d4⟩
          refine ⟨_, rfl, p, 2, rfl, by decide, by decide +kernel, d4, fun r H5 r0 r1 bt5 d5 => ?_⟩
          refine ⟨rfl, _, rfl, ?_⟩
          refine ite2 (fun _ => ?_) (fun _ => ?_)
          · exact ⟨_, rfl, _, rfl, q _ _ (by omega) (by omega) (bt4.trans bt5) d5⟩
          · exact ⟨_, rfl, q _ _ (by omega) (by omega) (bt4.trans bt5) d5⟩
end
end K0
namespace Fx
theorem fd_0 {a b x : Int} (h : 0 ≤ b) (b0 : b ≠ 0) : x.fdiv (gd a b) = sg b * x / gd a b := by
  have g := gd_pos (p := a) b0
  rcases sg_cases b with ⟨h2, _⟩ | ⟨_, e⟩
  · omega
  · rw [e, Int.one_mul, Int.fdiv_eq_ediv_of_nonneg x (by omega)]
theorem fd_1 {a b x : Int} (h : b < 0) (d : gd a b ∣ x) : x.fdiv (-gd a b) = sg b * x / gd a b := by
  rcases sg_cases b with ⟨_, e⟩ | ⟨h2, _⟩
  · rw [e, Int.fdiv_eq_ediv_of_dvd (Int.neg_dvd.mpr d), Int.ediv_neg, Int.neg_mul, Int.one_mul, Int.neg_ediv_of_dvd d]
  · omega
theorem nb {a : Int} (h1 : -(10 ^ 60) ≤ a) (h2 : a ≤ 10 ^ 60) : a.natAbs < 2 ^ 200 := by
  have e : (10 : Int) ^ 60 < 2 ^ 200 := by decide +kernel
  have e3 : ((2 ^ 200 : Nat) : Int) = (2 : Int) ^ 200 := by decide +kernel
  omega
theorem Fr.na {a b : Int} (f : Fr a b) : a.natAbs < 2 ^ 200 := nb f.1 f.2.1
theorem Fr.nb {a b : Int} (f : Fr a b) : b.natAbs < 2 ^ 200 := by
  have h := f.2.2.1
  have e : (0 : Int) < 10 ^ 60 := by decide +kernel
  exact Fx.nb (by omega) f.2.2.2.1
theorem Fr.b0 {a b : Int} (f : Fr a b) : b ≠ 0 := by have := f.2.2.1; omega
theorem up410 {x : Nat} (h : x < 2 ^ (200 + 200)) : x < 2 ^ 410 := Nat.lt_trans h (by decide +kernel)
end Fx
namespace K0
open PySem PySem.Spec PyProof.Rows L2 Kt Fx
def CDivNW (_ j : Int) : Prop := j ≠ 0 ∧ j.natAbs.log2 < 9000
theorem op_fdivNW {X : Cx} : OpR X (binaryOp .FloorDiv) (rI CDivNW fun i j => .int (i.fdiv j)) := opI fun _ _ _ _ _ _ _ hc q => floordiv_int hc.1 q (.inl (PyProof.noPylong_of_log2 hc.2))
section
variable {P : Program} {w : World} {K : PySem.W.Frag} {mg : Str → Option Value} {base : Heap} {OR MA NT RE TM : Addr}
theorem ok_lowest (T : Txt K mg OR MA NT RE TM) : Prom P w K mg base CX0 1 "lowest" ["part", "whole"] spLowest := by
  have nd := sc_lowest.nd
  refine T.d_lowest.ok sc_lowest bi_lowest (fun vs H Q E h => ?_) (fun f cdv A outer s H vs Q E hr h => ?_)
  · obtain ⟨a, b, rfl, _⟩ := h
    rfl
  · obtain ⟨a, b, rfl, b0, b1, q⟩ := h
    refine ⟨_, (pss_cons (ps_set (i := 2) nd rfl (Or.inl rfl) (pe_callBfun cr_gcd (by rfl) T.g_gcd (pa_cons (pv 0) (pa_cons (pv 1) pa_nil))))
    (pss_cons (ps_if (pt_cmpR op_lt (pv 1) pe_int (nomark _)) (pss_one (ps_set (i := 2) nd rfl (Or.inl rfl) (pe_un un_neg (pv 2)))) pss_nil)
    (pss_one (ps_ret (pe_tup (pa_cons (pe_op op_fdivNW (pv 0) (pv 2)) (pa_cons (pe_op op_fdivNW (pv 1) (pv 2)) pa_nil))))))), ?_⟩
    have g0 := gd_pos (p := a) b0
    have lg : (gd a b).natAbs.log2 < 9000 := (wide_div (i := 0) (b := 410) g0 (Nat.lt_of_le_of_lt (gd_le b0) b1) (by decide) (by decide)).2
    refine ⟨_, rfl, _, rfl, a, b, rfl, ?_⟩
    refine ⟨_, rfl, _, _, rfl, rfl, _, rfl, ?_⟩
    refine ite2 (fun h => ?_) (fun h => ?_)
    · have h := of_decide_eq_true h
      refine ⟨_, rfl, _, rfl, ?_⟩
      have c : ∀ i, CDivNW i (-gd a b) := fun _ => ⟨by omega, by rw [Int.natAbs_neg]; exact lg⟩
      refine ⟨_, rfl, _, rfl, _, _, rfl, rfl, c _, _, rfl, _, rfl, _, _, rfl, rfl, c _, ?_⟩
      refine ⟨by show 2 ≤ sizeLine; decide, fun p hp => q p _ (same_new hp) hp ?_⟩
      rw [upd_same]
      unfold lowP lowW
      rw [← fd_1 h (gd_dvd_p a b), ← fd_1 h (gd_dvd_w a b)]
      rfl
    · have h : ¬ b < 0 := fun z => h (decide_eq_true z)
      have c : ∀ i, CDivNW i (gd a b) := fun _ => ⟨by omega, lg⟩
      refine ⟨_, rfl, _, rfl, _, _, rfl, rfl, c _, _, rfl, _, rfl, _, _, rfl, rfl, c _, ?_⟩
      refine ⟨by show 2 ≤ sizeLine; decide, fun p hp => q p _ (same_new hp) hp ?_⟩
      rw [upd_same]
      unfold lowP lowW
      rw [← fd_0 (by omega) b0, ← fd_0 (by omega) b0]
      rfl
def spMade (OR : Addr) : Sp := fun vs H Q E => ∃ a b : Int, vs = [.int a, .int b] ∧ b.natAbs < 2 ^ 410 ∧ (b = 0 → E (.ref OR) none H) ∧ (b ≠ 0 → ∀ p H', Same H H' → H p = none → H' p = some (.tup [.int (lowP a b), .int (lowW a b)]) → Q (.ref p) H')
theorem ok_made (T : Txt K mg OR MA NT RE TM) : Prom P w K mg base (L2N.CX P w) 2 "made" ["part", "whole"] (spMade OR) := by
  have nd := sc_made.nd
  have pr_lowest := ok_lowest (P := P) (w := w) (base := base) T
  refine Kh.okXN T.d_made sc_made bi_made (fun vs H Q E h => ?_) (fun f cdv A outer s H vs Q E hr h => ?_)
  · obtain ⟨a, b, rfl, _⟩ := h
    rfl
  · obtain ⟨a, b, rfl, b1, q1, q2⟩ := h
    refine ⟨_, (pss_cons (ps_if (pt_cmpR op_eq (pv 1) pe_int (nomark _)) (pss_one (L2N.ps_raise rfl (L2N.takes_of rfl rfl rfl rfl) (L2N.pmk_own PySem.F.excBase_ValueError T.e_OutOfRange.x T.e_OutOfRange.g T.e_OutOfRange.k (raises_own T.e_OutOfRange.b T.e_OutOfRange.t) rfl))) pss_nil)
    (pss_one (ps_ret (pcall hr pr_lowest (pa_cons (pv 0) (pa_cons (pv 1) pa_nil)))))), ?_⟩
    refine ⟨_, rfl, rfl, _, rfl, ?_⟩
    refine ite2 (fun h => ?_) (fun h => ?_)
    · exact q1 (V.int.inj (of_decide_eq_true h))
    · have h : b ≠ 0 := fun z => h (decide_eq_true (by rw [z]))
      exact ⟨_, rfl, _, rfl, a, b, rfl, h, b1, q2 h⟩
/-- two fractions -/
def Two (H : Hp) (p q : Addr) (a b c d : Int) : Prop := H p = some (.tup [.int a, .int b]) ∧ H q = some (.tup [.int c, .int d]) ∧ Fr a b ∧ Fr c d
def spTwo (fP fW : Int → Int → Int → Int → Int) : Sp := fun vs H Q _ => ∃ (p q : Addr) (a b c d : Int), vs = [.ref p, .ref q] ∧ Two H p q a b c d ∧ ∀ r H', Same H H' → H r = none → H' r = some (.tup [.int (lowP (fP a b c d) (fW a b c d)), .int (lowW (fP a b c d) (fW a b c d))]) → Q (.ref r) H'
theorem mw {a b : Int} (h1 : a.natAbs < 2 ^ 200) (h2 : b.natAbs < 2 ^ 200) : CMulW a b := wide_mul h1 h2 (by decide) (by decide) (by decide)
theorem ok_times (T : Txt K mg OR MA NT RE TM) : Prom P w K mg base CX0 2 "times" ["one", "other"] (spTwo (fun a _ c _ => a * c) (fun _ b _ d => b * d)) := by
  have nd := sc_times.nd
  have pr_lowest := ok_lowest (P := P) (w := w) (base := base) T
  refine T.d_times.ok sc_times bi_times (fun vs H Q E h => ?_) (fun f cdv A outer s H vs Q E hr h => ?_)
  · obtain ⟨p, q, a, b, c, d, rfl, _⟩ := h
    rfl
  · obtain ⟨p, q, a, b, c, d, rfl, ⟨hp, hq, f1, f2⟩, k⟩ := h
    refine ⟨_, (pss_one (ps_ret (pcall hr pr_lowest (pa_cons (pe_op op_mulW (pe_ix ix_tup (pv 0) pe_int (fun _ _ => rfl)) (pe_ix ix_tup (pv 1) pe_int (fun _ _ => rfl))) (pa_cons (pe_op op_mulW (pe_ix ix_tup (pv 0) pe_int (fun _ _ => rfl)) (pe_ix ix_tup (pv 1) pe_int (fun _ _ => rfl))) pa_nil))))), ?_⟩
    refine ⟨_, rfl, p, _, 0, _, rfl, rfl, SqT.of hp, rfl, _, rfl, q, _, 0, _, rfl, rfl, SqT.of hq, rfl, _, _, rfl, rfl, mw f1.na f2.na, ?_⟩
    refine ⟨_, rfl, p, _, 1, _, rfl, rfl, SqT.of hp, rfl, _, rfl, q, _, 1, _, rfl, rfl, SqT.of hq, rfl, _, _, rfl, rfl, mw f1.nb f2.nb, ?_⟩
    exact ⟨_, _, rfl, Int.mul_ne_zero f1.b0 f2.b0, up410 (wide_lt f1.nb f2.nb), k⟩
theorem ok_plus (T : Txt K mg OR MA NT RE TM) : Prom P w K mg base CX0 2 "plus" ["one", "other"] (spTwo (fun a b c d => a * d + c * b) (fun _ b _ d => b * d)) := by
  have nd := sc_plus.nd
  have pr_lowest := ok_lowest (P := P) (w := w) (base := base) T
  refine T.d_plus.ok sc_plus bi_plus (fun vs H Q E h => ?_) (fun f cdv A outer s H vs Q E hr h => ?_)
  · obtain ⟨p, q, a, b, c, d, rfl, _⟩ := h
    rfl
  · obtain ⟨p, q, a, b, c, d, rfl, ⟨hp, hq, f1, f2⟩, k⟩ := h
    refine ⟨_, (pss_one (ps_ret (pcall hr pr_lowest (pa_cons (pe_op op_add (pe_op op_mulW (pe_ix ix_tup (pv 0) pe_int (fun _ _ => rfl)) (pe_ix ix_tup (pv 1) pe_int (fun _ _ => rfl))) (pe_op op_mulW (pe_ix ix_tup (pv 1) pe_int (fun _ _ => rfl)) (pe_ix ix_tup (pv 0) pe_int (fun _ _ => rfl)))) (pa_cons (pe_op op_mulW (pe_ix ix_tup (pv 0) pe_int (fun _ _ => rfl)) (pe_ix ix_tup (pv 1) pe_int (fun _ _ => rfl))) pa_nil))))), ?_⟩
    refine ⟨_, rfl, p, _, 0, _, rfl, rfl, SqT.of hp, rfl, _, rfl, q, _, 1, _, rfl, rfl, SqT.of hq, rfl, _, _, rfl, rfl, mw f1.na f2.nb, ?_⟩
    refine ⟨_, rfl, q, _, 0, _, rfl, rfl, SqT.of hq, rfl, _, rfl, p, _, 1, _, rfl, rfl, SqT.of hp, rfl, _, _, rfl, rfl, mw f2.na f1.nb, ?_⟩
    refine ⟨_, _, rfl, rfl, ?_⟩
    refine ⟨_, rfl, p, _, 1, _, rfl, rfl, SqT.of hp, rfl, _, rfl, q, _, 1, _, rfl, rfl, SqT.of hq, rfl, _, _, rfl, rfl, mw f1.nb f2.nb, ?_⟩
    exact ⟨_, _, rfl, Int.mul_ne_zero f1.b0 f2.b0, up410 (wide_lt f1.nb f2.nb), k⟩
theorem ok_minus (T : Txt K mg OR MA NT RE TM) : Prom P w K mg base CX0 2 "minus" ["one", "other"] (spTwo (fun a b c d => a * d - c * b) (fun _ b _ d => b * d)) := by
  have nd := sc_minus.nd
  have pr_lowest := ok_lowest (P := P) (w := w) (base := base) T
  refine T.d_minus.ok sc_minus bi_minus (fun vs H Q E h => ?_) (fun f cdv A outer s H vs Q E hr h => ?_)
  · obtain ⟨p, q, a, b, c, d, rfl, _⟩ := h
    rfl
  · obtain ⟨p, q, a, b, c, d, rfl, ⟨hp, hq, f1, f2⟩, k⟩ := h
    refine ⟨_, (pss_one (ps_ret (pcall hr pr_lowest (pa_cons (pe_op op_sub (pe_op op_mulW (pe_ix ix_tup (pv 0) pe_int (fun _ _ => rfl)) (pe_ix ix_tup (pv 1) pe_int (fun _ _ => rfl))) (pe_op op_mulW (pe_ix ix_tup (pv 1) pe_int (fun _ _ => rfl)) (pe_ix ix_tup (pv 0) pe_int (fun _ _ => rfl)))) (pa_cons (pe_op op_mulW (pe_ix ix_tup (pv 0) pe_int (fun _ _ => rfl)) (pe_ix ix_tup (pv 1) pe_int (fun _ _ => rfl))) pa_nil))))), ?_⟩
    refine ⟨_, rfl, p, _, 0, _, rfl, rfl, SqT.of hp, rfl, _, rfl, q, _, 1, _, rfl, rfl, SqT.of hq, rfl, _, _, rfl, rfl, mw f1.na f2.nb, ?_⟩
    refine ⟨_, rfl, q, _, 0, _, rfl, rfl, SqT.of hq, rfl, _, rfl, p, _, 1, _, rfl, rfl, SqT.of hp, rfl, _, _, rfl, rfl, mw f2.na f1.nb, ?_⟩
    refine ⟨_, _, rfl, rfl, ?_⟩
    refine ⟨_, rfl, p, _, 1, _, rfl, rfl, SqT.of hp, rfl, _, rfl, q, _, 1, _, rfl, rfl, SqT.of hq, rfl, _, _, rfl, rfl, mw f1.nb f2.nb, ?_⟩
    exact ⟨_, _, rfl, Int.mul_ne_zero f1.b0 f2.b0, up410 (wide_lt f1.nb f2.nb), k⟩
theorem ok_less (T : Txt K mg OR MA NT RE TM) : Prom P w K mg base CX0 1 "less" ["one", "other"] (fun vs H Q _ => ∃ (p q : Addr) (a b c d : Int), vs = [.ref p, .ref q] ∧ Two H p q a b c d ∧ Q (.bl (decide (a * d < c * b))) H) := by
  have nd := sc_less.nd
  refine T.d_less.ok sc_less bi_less (fun vs H Q E h => ?_) (fun f cdv A outer s H vs Q E hr h => ?_)
  · obtain ⟨p, q, a, b, c, d, rfl, _⟩ := h
    rfl
  · obtain ⟨p, q, a, b, c, d, rfl, ⟨hp, hq, f1, f2⟩, k⟩ := h
    refine ⟨_, (pss_one (ps_ret (pe_cmpR op_lt (pe_op op_mulW (pe_ix ix_tup (pv 0) pe_int (fun _ _ => rfl)) (pe_ix ix_tup (pv 1) pe_int (fun _ _ => rfl))) (pe_op op_mulW (pe_ix ix_tup (pv 1) pe_int (fun _ _ => rfl)) (pe_ix ix_tup (pv 0) pe_int (fun _ _ => rfl))) (nomark _)))), ?_⟩
    refine ⟨_, rfl, p, _, 0, _, rfl, rfl, SqT.of hp, rfl, _, rfl, q, _, 1, _, rfl, rfl, SqT.of hq, rfl, _, _, rfl, rfl, mw f1.na f2.nb, ?_⟩
    refine ⟨_, rfl, q, _, 0, _, rfl, rfl, SqT.of hq, rfl, _, rfl, p, _, 1, _, rfl, rfl, SqT.of hp, rfl, _, _, rfl, rfl, mw f2.na f1.nb, ?_⟩
    exact ⟨_, _, rfl, rfl, k⟩
theorem ok_through (T : Txt K mg OR MA NT RE TM) : Prom P w K mg base (L2N.CX P w) 2 "through" ["one", "other"] (fun vs H Q E => ∃ (p q : Addr) (a b c d : Int), vs = [.ref p, .ref q] ∧ Two H p q a b c d ∧ (c = 0 → E (.ref OR) none H) ∧
    (c ≠ 0 → ∀ r H', Same H H' → H r = none → H' r = some (.tup [.int (lowP (a * d) (b * c)), .int (lowW (a * d) (b * c))]) → Q (.ref r) H')) := by
  have nd := sc_through.nd
  have pr_lowest := ok_lowest (P := P) (w := w) (base := base) T
  refine Kh.okXN T.d_through sc_through bi_through (fun vs H Q E h => ?_) (fun f cdv A outer s H vs Q E hr h => ?_)
  · obtain ⟨p, q, a, b, c, d, rfl, _⟩ := h
    rfl
  · obtain ⟨p, q, a, b, c, d, rfl, ⟨hp, hq, f1, f2⟩, k1, k2⟩ := h
    refine ⟨_, (pss_cons (ps_if (pt_cmpR op_eq (pe_ix ix_tup (pv 1) pe_int (fun _ _ => rfl)) pe_int (nomark _)) (pss_one (L2N.ps_raise rfl (L2N.takes_of rfl rfl rfl rfl) (L2N.pmk_own PySem.F.excBase_ValueError T.e_OutOfRange.x T.e_OutOfRange.g T.e_OutOfRange.k (raises_own T.e_OutOfRange.b T.e_OutOfRange.t) rfl))) pss_nil)
    (pss_one (ps_ret (pcall hr pr_lowest (pa_cons (pe_op op_mulW (pe_ix ix_tup (pv 0) pe_int (fun _ _ => rfl)) (pe_ix ix_tup (pv 1) pe_int (fun _ _ => rfl))) (pa_cons (pe_op op_mulW (pe_ix ix_tup (pv 0) pe_int (fun _ _ => rfl)) (pe_ix ix_tup (pv 1) pe_int (fun _ _ => rfl))) pa_nil)))))), ?_⟩
    refine ⟨_, rfl, q, _, 0, _, rfl, rfl, SqT.of hq, rfl, rfl, _, rfl, ?_⟩
    refine ite2 (fun h => ?_) (fun h => ?_)
    · exact k1 (V.int.inj (of_decide_eq_true h))
    · have h : c ≠ 0 := fun z => h (decide_eq_true (by rw [z]))
      refine ⟨_, rfl, p, _, 0, _, rfl, rfl, SqT.of hp, rfl, _, rfl, q, _, 1, _, rfl, rfl, SqT.of hq, rfl, _, _, rfl, rfl, mw f1.na f2.nb, ?_⟩
      refine ⟨_, rfl, p, _, 1, _, rfl, rfl, SqT.of hp, rfl, _, rfl, q, _, 0, _, rfl, rfl, SqT.of hq, rfl, _, _, rfl, rfl, mw f1.nb f2.na, ?_⟩
      exact ⟨_, _, rfl, Int.mul_ne_zero f1.b0 h, up410 (wide_lt f1.nb f2.na), k2 h⟩
end
end K0
namespace Kt
open PySem PySem.Spec PyProof.Rows L2
theorem Rep.tyb {K : PySem.W.Frag} {H : Hp} {d : Dd} {v : V} (h : Rep H d v) : TyB K H v d.ty := by
  cases d with
  | non => unfold Rep at h; subst h; exact .non
  | bl b => unfold Rep at h; subst h; exact .bl b
  | int i => unfold Rep at h; subst h; exact .int i
  | str s => unfold Rep at h; subst h; exact .str s
  | tup ds => unfold Rep at h; obtain ⟨_, a, xs, rfl, e, _⟩ := h; exact .tup (SqT.of e)
  | lst ds => unfold Rep at h; obtain ⟨_, a, xs, rfl, e, _⟩ := h; exact .lst (SqL.of e)
end Kt
namespace K0
open PySem PySem.Spec PyProof.Rows L2 Kt Fx
def isNd : Dd → Int → Int → Bool
  | .int n, a, b => decide (a ≤ n) && decide (n ≤ b)
  | _, _, _ => false
def isTp : Dd → Int → Int → Bool
  | .tup ds, a, b => decide (a ≤ (ds.length : Int)) && decide ((ds.length : Int) ≤ b)
  | _, _, _ => false
def gOne : Dd → Dd → Bool
  | .int a, .int b => decide (gd a b = 1)
  | _, _ => false
def isFr : Dd → Bool
  | .tup [x, y] => isNd x (-(10 ^ 60)) (10 ^ 60) && (isNd y 1 (10 ^ 60) && gOne x y)
  | _ => false
theorem two_of {ds : List Dd} (h : isTp (.tup ds) 2 2 = true) : ∃ x y, ds = [x, y] := by
  have h : (decide ((2 : Int) ≤ (ds.length : Int)) && decide ((ds.length : Int) ≤ 2)) = true := h
  rw [Bool.and_eq_true, decide_eq_true_eq, decide_eq_true_eq] at h
  match ds, h with
  | [x, y], _ => exact ⟨x, y, rfl⟩
  | [], h => exact absurd h.1 (by decide)
  | [_], h =>
    have z := h.1
    simp only [List.length_cons, List.length_nil] at z
    omega
  | _ :: _ :: _ :: r, h =>
    have z := h.2
    simp only [List.length_cons] at z
    omega
theorem isFr_not {d : Dd} (h : isTp d 2 2 = false) : isFr d = false := by
  unfold isFr
  split
  · rename_i x y
    have z : isTp (.tup [x, y]) 2 2 = (decide ((2 : Int) ≤ 2) && decide ((2 : Int) ≤ 2)) := rfl
    rw [z] at h
    exact absurd h (by decide)
  · rfl
theorem nd_int {d : Dd} {a b : Int} (h : isNd d a b = true) : ∃ n, d = .int n := by
  cases d with
  | int n => exact ⟨n, rfl⟩
  | _ => cases h
section
variable {P : Program} {w : World} {K : PySem.W.Frag} {mg : Str → Option Value} {base : Heap} {OR MA NT RE TM : Addr}
theorem ok_is_number (T : Txt K mg OR MA NT RE TM) : Prom P w K mg base CX0 1 "is_number" ["value", "least", "most"] (fun vs H Q _ => ∃ (v : V) (d : Dd) (a b : Int), vs = [v, .int a, .int b] ∧ Rep H d v ∧ Q (.bl (isNd d a b)) H) := by
  have nd := sc_is_number.nd
  refine T.d_is_number.ok sc_is_number bi_is_number (fun vs H Q E h => ?_) (fun f cdv A outer s H vs Q E hr h => ?_)
  · obtain ⟨v, d, a, b, rfl, _⟩ := h
    rfl
  · obtain ⟨v, d, a, b, rfl, r, q⟩ := h
    refine ⟨_, (pss_one (ps_ret (pe_and (pe_cmpR op_isTyB (pe_callTy call_type1 (by rfl) T.b_type (by decide +kernel) (pa_cons (pv 0) pa_nil)) (pe_bltn (v := .ty "int") (by rfl) T.b_int PyProof.Rows.boot_int rfl) (nomark _)) (pe_one (pe_chain op_le op_le (pv 1) (pv 0) (pv 2)))))), ?_⟩
    refine ⟨v, rfl, v, d.ty, rfl, r.tyb, _, _, rfl, rfl, _, rfl, ?_⟩
    cases d with
    | int n =>
      unfold Rep at r
      subst r
      refine iteT ?_
      refine ⟨_, rfl, _, rfl, _, _, rfl, rfl, _, rfl, ?_⟩
      have e : isNd (.int n) a b = (decide (a ≤ n) && decide (n ≤ b)) := rfl
      rw [e] at q
      cases c : decide (a ≤ n) with
      | true =>
        rw [c, Bool.true_and] at q
        exact iteT ⟨_, rfl, _, _, rfl, rfl, q⟩
      | false =>
        rw [c, Bool.false_and] at q
        exact iteF q
    | _ => exact iteF q
theorem ok_is_tuple (T : Txt K mg OR MA NT RE TM) : Prom P w K mg base CX0 1 "is_tuple" ["value", "least", "most"] (fun vs H Q _ => ∃ (v : V) (d : Dd) (a b : Int), vs = [v, .int a, .int b] ∧ Rep H d v ∧ Q (.bl (isTp d a b)) H) := by
  have nd := sc_is_tuple.nd
  refine T.d_is_tuple.ok sc_is_tuple bi_is_tuple (fun vs H Q E h => ?_) (fun f cdv A outer s H vs Q E hr h => ?_)
  · obtain ⟨v, d, a, b, rfl, _⟩ := h
    rfl
  · obtain ⟨v, d, a, b, rfl, r, q⟩ := h
    refine ⟨_, (pss_one (ps_ret (pe_and (pe_cmpR op_isTyB (pe_callTy call_type1 (by rfl) T.b_type (by decide +kernel) (pa_cons (pv 0) pa_nil)) (pe_bltn (v := .ty "tuple") (by rfl) T.b_tuple PyProof.Rows.boot_tuple rfl) (nomark _)) (pe_one (pe_chain op_le op_le (pv 1) (pe_callB call_len_seq (by rfl) T.b_len (by decide +kernel) (pa_cons (pv 0) pa_nil)) (pv 2)))))), ?_⟩
    refine ⟨v, rfl, v, d.ty, rfl, r.tyb, _, _, rfl, rfl, _, rfl, ?_⟩
    cases d with
    | tup ds =>
      unfold Rep at r
      obtain ⟨hw, p, xs, rfl, hp, hl⟩ := r
      refine iteT ?_
      have e : isTp (.tup ds) a b = (decide (a ≤ (ds.length : Int)) && decide ((ds.length : Int) ≤ b)) := rfl
      rw [e, ← hl.len] at q
      refine ⟨_, rfl, _, rfl, p, xs, rfl, .inr (SqT.of hp), _, _, rfl, rfl, _, rfl, ?_⟩
      cases c : decide (a ≤ (xs.length : Int)) with
      | true =>
        rw [c, Bool.true_and] at q
        exact iteT ⟨_, rfl, _, _, rfl, rfl, q⟩
      | false =>
        rw [c, Bool.false_and] at q
        exact iteF q
    | _ => exact iteF q
theorem ok_is_fraction (T : Txt K mg OR MA NT RE TM) : Prom P w K mg base CX0 2 "is_fraction" ["value"] (fun vs H Q _ => ∃ (v : V) (d : Dd), vs = [v] ∧ Rep H d v ∧ Q (.bl (isFr d)) H) := by
  have nd := sc_is_fraction.nd
  have pr_is_number := ok_is_number (P := P) (w := w) (base := base) T
  have pr_is_tuple := ok_is_tuple (P := P) (w := w) (base := base) T
  obtain ⟨tG, gG⟩ := T.g_GREATEST
  refine T.d_is_fraction.ok sc_is_fraction bi_is_fraction (fun vs H Q E h => ?_) (fun f cdv A outer s H vs Q E hr h => ?_)
  · obtain ⟨v, d, rfl, _⟩ := h
    rfl
  · obtain ⟨v, d, rfl, r, q⟩ := h
    refine ⟨_, (pss_cons (ps_if (pt_not (pt_val (pcall hr pr_is_tuple (pa_cons (pv 0) (pa_cons pe_int (pa_cons pe_int pa_nil)))))) (pss_one (ps_ret pe_bl)) pss_nil)
    (pss_cons (ps_asg (pv 0) (pg_tup rfl (pgs_cons (pg_name (i := 1) nd rfl (Or.inl rfl)) (pgs_cons (pg_name (i := 2) nd rfl (Or.inl rfl)) pgs_nil))))
    (pss_cons (ps_if (PW.pt (pw_or (pt_not (pt_val (pcall hr pr_is_number (pa_cons (pv 1) (pa_cons (pe_un un_neg (pe_gi gG)) (pa_cons (pe_gi gG) pa_nil)))))) (pw_or1 (pt_not (pt_val (pcall hr pr_is_number (pa_cons (pv 2) (pa_cons pe_int (pa_cons (pe_gi gG) pa_nil))))))))) (pss_one (ps_ret pe_bl)) pss_nil)
    (pss_one (ps_ret (pe_cmpR op_eq (pe_callBfun cr_gcd (by rfl) T.g_gcd (pa_cons (pv 1) (pa_cons (pv 2) pa_nil))) pe_int (nomark _))))))), ?_⟩
    refine ⟨_, rfl, v, d, 2, 2, rfl, r, _, rfl, ?_⟩
    cases hT : isTp d 2 2 with
    | false =>
      rw [isFr_not hT] at q
      exact iteT q
    | true =>
      refine iteF ?_
      cases d with
      | tup ds =>
        obtain ⟨x, y, rfl⟩ := two_of hT
        unfold Rep at r
        obtain ⟨hw, p, xs, rfl, hp, hl⟩ := r
        unfold RepL at hl
        obtain ⟨vx, r1, rfl, hx, hl⟩ := hl
        unfold RepL at hl
        obtain ⟨vy, r2, rfl, hy, hl⟩ := hl
        unfold RepL at hl
        subst hl
        refine ⟨_, rfl, p, _, rfl, SqT.of hp, rfl, _, _, rfl, _, _, rfl, rfl, ?_⟩
        have e : isFr (.tup [x, y]) = (isNd x (-(10 ^ 60)) (10 ^ 60) && (isNd y 1 (10 ^ 60) && gOne x y)) := rfl
        rw [e] at q
        refine ⟨_, rfl, _, rfl, vx, x, _, _, rfl, hx, _, rfl, ?_⟩
        cases c1 : isNd x (-(10 ^ 60)) (10 ^ 60) with
        | false =>
          rw [c1, Bool.false_and] at q
          exact iteT (iteT q)
        | true =>
          rw [c1, Bool.true_and] at q
          refine iteF ⟨_, rfl, vy, y, 1, _, rfl, hy, _, rfl, ?_⟩
          cases c2 : isNd y 1 (10 ^ 60) with
          | false =>
            rw [c2, Bool.false_and] at q
            exact iteT q
          | true =>
            rw [c2, Bool.true_and] at q
            refine iteF ?_
            obtain ⟨n, rfl⟩ := nd_int c1
            obtain ⟨m, rfl⟩ := nd_int c2
            unfold Rep at hx hy
            subst hx hy
            refine ⟨_, rfl, _, rfl, n, m, rfl, rfl, ?_⟩
            have z : gOne (.int n) (.int m) = decide (V.int ((Nat.gcd n.natAbs m.natAbs : Nat) : Int) = V.int 1) := by
              show decide (gd n m = 1) = _
              unfold gd
              exact decide_eq_decide.mpr ⟨fun h => by rw [h], fun h => V.int.inj h⟩
            rw [z] at q
            exact q
      | _ => cases hT
theorem kit_int_bool {K : PySem.W.Frag} : PySem.W.kitOne K (.type "int") (.type "bool") = some false := kit_bool (K := K) (.int 0)
theorem kit_int_int {K : PySem.W.Frag} : PySem.W.kitOne K (.type "int") (.type "int") = some true := kit_int (K := K) (.int 0)
theorem kit_tup_tup {K : PySem.W.Frag} : PySem.W.kitOne K (.type "tuple") (.type "tuple") = some true := kit_tuple (K := K) (.tup [])
theorem ok_law_is (T : Txt K mg OR MA NT RE TM) : Prom P w K mg base CX0 1 "_law_is" ["value", "due"] (fun vs H Q _ => ∃ (p q : Addr) (a b : Int), vs = [.ref p, .ref q] ∧ H p = some (.tup [.int a, .int b]) ∧ H q = some (.tup [.int a, .int b]) ∧ Q (.bl true) H) := by
  have nd := sc__law_is.nd
  refine T.d__law_is.ok sc__law_is bi__law_is (fun vs H Q E h => ?_) (fun f cdv A outer s H vs Q E hr h => ?_)
  · obtain ⟨p, q, a, b, rfl, _⟩ := h
    rfl
  · obtain ⟨p, q, a, b, rfl, hp, hq, k⟩ := h
    refine ⟨_, (pss_cons (ps_if (PW.pt (pw_or (pt_not (pt_val (pe_callB call_isi (by rfl) T.b_isinstance (by decide +kernel) (pa_cons (pv 0) (pa_cons (pe_bltn (v := .ty "tuple") (by rfl) T.b_tuple PyProof.Rows.boot_tuple rfl) pa_nil))))) (pw_or1 (pt_cmpR op_ne (pe_callB call_len_seq (by rfl) T.b_len (by decide +kernel) (pa_cons (pv 0) pa_nil)) pe_int (nomark _))))) (pss_one (ps_ret pe_bl)) pss_nil)
    (pss_cons (ps_for PassesOwn.never rfl (pi_tup (pv 0)) (pg_name (i := 2) nd rfl (Or.inl rfl)) (pss_one (ps_if (PW.pt (pw_or (pt_not (pt_val (pe_callB call_isi (by rfl) T.b_isinstance (by decide +kernel) (pa_cons (pv 2) (pa_cons (pe_bltn (v := .ty "int") (by rfl) T.b_int PyProof.Rows.boot_int rfl) pa_nil))))) (pw_or1 (pt_val (pe_callB call_isi (by rfl) T.b_isinstance (by decide +kernel) (pa_cons (pv 2) (pa_cons (pe_bltn (v := .ty "bool") (by rfl) T.b_bool PyProof.Rows.boot_bool rfl) pa_nil))))))) (pss_one (ps_ret pe_bl)) pss_nil)))
    (pss_one (ps_ret (pe_and (pe_cmpR op_eq (pe_ix ix_tup (pv 0) pe_int (fun _ _ => rfl)) (pe_ix ix_tup (pv 1) pe_int (fun _ _ => rfl)) (nomark _)) (pe_one (pe_cmpR op_eq (pe_ix ix_tup (pv 0) pe_int (fun _ _ => rfl)) (pe_ix ix_tup (pv 1) pe_int (fun _ _ => rfl)) (nomark _)))))))), ?_⟩
    refine ⟨_, rfl, ⟨_, _, _, _, _, rfl, .ty _, .base (.tup hp), kit_tup_tup, ?_⟩⟩
    refine ⟨true, rfl, iteF ?_⟩
    refine ⟨_, rfl, p, _, rfl, .inr (SqT.of hp), rfl, _, rfl, iteF ?_⟩
    refine ⟨_, rfl, p, rfl, ⟨_, SqT.of hp⟩, for_tup (K := K) (a := p) (xs := [V.int a, V.int b]) (fun i σ' H' => ∃ v2 : Option V, σ' = [some (.ref p), some (.ref q), v2] ∧ H' = H) ⟨none, rfl, rfl⟩ (fun i σ' H' _ ⟨_, _, e⟩ => by rw [e]; exact SqT.of hp) ?_ ?_⟩
    · rintro i x σ' H' hi ⟨v2, rfl, rfl⟩
      have hx : ∃ n : Int, x = .int n := by
        match i, hi with
        | 0, hi => exact ⟨a, (Option.some.inj hi).symm⟩
        | 1, hi => exact ⟨b, (Option.some.inj hi).symm⟩
        | _ + 2, hi => cases hi
      obtain ⟨n, rfl⟩ := hx
      refine ⟨_, rfl, ⟨_, _, _, _, _, rfl, .ty _, .base (.int n), kit_int_int, ?_⟩⟩
      refine ⟨true, rfl, iteF ?_⟩
      refine ⟨_, rfl, ⟨_, _, _, _, _, rfl, .ty _, .base (.int n), kit_int_bool, ?_⟩⟩
      exact ⟨false, rfl, iteF ⟨_, rfl, rfl⟩⟩
    · rintro σ' H' ⟨v2, rfl, rfl⟩
      refine ⟨_, rfl, p, _, 0, _, rfl, rfl, SqT.of hp, rfl, _, rfl, q, _, 0, _, rfl, rfl, SqT.of hq, rfl, rfl, ?_⟩
      refine ⟨decide (V.int a = V.int a), rfl, ?_⟩
      rw [decide_eq_true rfl]
      refine iteT ?_
      refine ⟨_, rfl, p, _, 1, _, rfl, rfl, SqT.of hp, rfl, _, rfl, q, _, 1, _, rfl, rfl, SqT.of hq, rfl, rfl, ?_⟩
      show Q (.bl (decide (V.int b = V.int b))) H'
      rw [decide_eq_true rfl]
      exact k
end
end K0
namespace K0
open PySem PySem.Spec PyProof.Rows L2 Kt Fx
section
variable {P : Program} {w : World} {K : PySem.W.Frag} {mg : Str → Option Value} {base : Heap} {OR MA NT RE TM : Addr}
theorem dec_str (x : Str) : decide (V.str x = V.str x) = true := decide_eq_true rfl
theorem dec_int (x : Int) : decide (V.int x = V.int x) = true := decide_eq_true rfl
theorem ok_law_made (T : Txt K mg OR MA NT RE TM) : Prom P w K mg base CX0 4 "_law_made" ["part", "whole"] (fun vs H Q _ => ∃ a b : Int, vs = [.int a, .int b] ∧ b.natAbs < 2 ^ 410 ∧ ∀ H', Same H H' → Q (.bl true) H') := by
  have nd := sc__law_made.nd
  have pr_made := ok_made (P := P) (w := w) (base := base) T
  have pr__law_told := ok_law_told (P := P) (w := w) (base := base) T
  have pr__law_is := ok_law_is (P := P) (w := w) (base := base) T
  have pr__law_lowest := ok_law_lowest (P := P) (w := w) (base := base) T
  obtain ⟨DE, eD, up⟩ := T.g_DE
  obtain ⟨k1, k2, k3, k4, _, _, _, _, _, _, _, _, _, _, _, _, _, _, _, _, v1, _⟩ := T.g_kit
  refine T.d__law_made.ok sc__law_made bi__law_made (fun vs H Q E h => ?_) (fun f cdv A outer s H vs Q E hr h => ?_)
  · obtain ⟨a, b, rfl, _⟩ := h
    rfl
  · obtain ⟨a, b, rfl, b1, q⟩ := h
    refine ⟨_, (pss_cons (L2N.ps_try_as (i := 3) (ts := (fun a cls d => tRet (tAndV (tOp rEq (tVar 1) (tC (.int 0))) (tOp rEq (tCallS (spTold K OR MA NT RE TM a cls d) (fun _ => E0) (tCons (tVar 3) tNil)) (tC (.str "OutOfRange")))))) rfl rfl nd rfl rfl ⟨rfl, by decide, .inl eD.g⟩ (Wout := fun _ _ _ _ => False) Kh.takesN0 (fun W pn xe tk _ => (pss_one (ps_set (i := 2) nd rfl (Or.inl rfl) (Kh.pcallXN hr pr_made tk (by exact (pa_cons (pv 0) (pa_cons (pv 1) pa_nil))))))) (fun a oe cls d pn hz hf => (pss_one (ps_ret (pe_and (pe_cmpR op_eq (pv 1) pe_int (nomark _)) (pe_one (pe_cmpR op_eq (Kh.pcallS hz hf hr pr__law_told (pa_cons (pv 3) pa_nil)) pe_str (nomark _))))))))
    (pss_one (ps_ret (pe_and (pe_cmpR op_ne (pv 1) pe_int (nomark _)) (pe_one (pcall hr pr__law_is (pa_cons (pv 2) (pa_cons (pcall hr pr__law_lowest (pa_cons (pv 0) (pa_cons (pv 1) pa_nil))) pa_nil)))))))), ?_⟩
    have up2 : PySem.W.exmOne K (.ref OR) (.ref DE) = some true := exm_up eD up
    refine ⟨_, rfl, _, rfl, a, b, rfl, b1, fun h => ?_, fun h p H1 s1 np hp => ?_⟩
    · subst h
      refine ⟨true, up2, fun _ e he => ?_, fun z => nomatch z⟩
      refine ⟨_, rfl, rfl, decide (V.int 0 = V.int 0), rfl, ?_⟩
      rw [dec_int]
      refine iteT ?_
      refine ⟨_, rfl, rfl, OR, true, false, false, false, false, "OutOfRange", rfl, rfl, T.e_OutOfRange.c, kit_self OR, k1, k2, k3, k4, v1, rfl, fun H' s' => ?_⟩
      refine ⟨rfl, ?_⟩
      show Q (.bl (decide (V.str "OutOfRange" = V.str "OutOfRange"))) H'
      rw [dec_str]
      exact q _ s'
    · refine ⟨_, rfl, rfl, (!decide (V.int b = V.int 0)), rfl, ?_⟩
      rw [decide_eq_false (show ¬ V.int b = V.int 0 from fun z => h (V.int.inj z))]
      refine iteT ?_
      refine ⟨_, rfl, _, rfl, _, rfl, a, b, rfl, h, b1, fun r H2 s2 nr hr2 => ?_⟩
      exact ⟨p, r, _, _, rfl, s2 _ _ hp, hr2, q _ (s1.trans s2)⟩
theorem ok_law_through (T : Txt K mg OR MA NT RE TM) : Prom P w K mg base CX0 4 "_law_through" ["one", "other"] (fun vs H Q _ => ∃ (p q : Addr) (a b c d : Int), vs = [.ref p, .ref q] ∧ Two H p q a b c d ∧ ∀ H', Same H H' → Q (.bl true) H') := by
  have nd := sc__law_through.nd
  have pr_through := ok_through (P := P) (w := w) (base := base) T
  have pr__law_told := ok_law_told (P := P) (w := w) (base := base) T
  have pr__law_is := ok_law_is (P := P) (w := w) (base := base) T
  have pr__law_lowest := ok_law_lowest (P := P) (w := w) (base := base) T
  obtain ⟨DE, eD, up⟩ := T.g_DE
  obtain ⟨k1, k2, k3, k4, _, _, _, _, _, _, _, _, _, _, _, _, _, _, _, _, v1, _⟩ := T.g_kit
  refine T.d__law_through.ok sc__law_through bi__law_through (fun vs H Q E h => ?_) (fun f cdv A outer s H vs Q E hr h => ?_)
  · obtain ⟨p, q, a, b, c, d, rfl, _⟩ := h
    rfl
  · obtain ⟨p, q, a, b, c, d, rfl, tw, k⟩ := h
    obtain ⟨hp, hq, f1, f2⟩ := id tw
    refine ⟨_, (pss_cons (L2N.ps_try_as (i := 3) (ts := (fun a cls d => tRet (tAndV (tOp rEq (tOp (rIxT K) (tVar 1) (tC (.int 0))) (tC (.int 0))) (tOp rEq (tCallS (spTold K OR MA NT RE TM a cls d) (fun _ => E0) (tCons (tVar 3) tNil)) (tC (.str "OutOfRange")))))) rfl rfl nd rfl rfl ⟨rfl, by decide, .inl eD.g⟩ (Wout := fun _ _ _ _ => False) Kh.takesN0 (fun W pn xe tk _ => (pss_one (ps_set (i := 2) nd rfl (Or.inl rfl) (Kh.pcallXN hr pr_through tk (by exact (pa_cons (pv 0) (pa_cons (pv 1) pa_nil))))))) (fun a oe cls d pn hz hf => (pss_one (ps_ret (pe_and (pe_cmpR op_eq (pe_ix ix_tup (pv 1) pe_int (fun _ _ => rfl)) pe_int (nomark _)) (pe_one (pe_cmpR op_eq (Kh.pcallS hz hf hr pr__law_told (pa_cons (pv 3) pa_nil)) pe_str (nomark _))))))))
    (pss_one (ps_ret (pe_and (pe_cmpR op_ne (pe_ix ix_tup (pv 1) pe_int (fun _ _ => rfl)) pe_int (nomark _)) (pe_one (pcall hr pr__law_is (pa_cons (pv 2) (pa_cons (pcall hr pr__law_lowest (pa_cons (pe_op op_mulW (pe_ix ix_tup (pv 0) pe_int (fun _ _ => rfl)) (pe_ix ix_tup (pv 1) pe_int (fun _ _ => rfl))) (pa_cons (pe_op op_mulW (pe_ix ix_tup (pv 0) pe_int (fun _ _ => rfl)) (pe_ix ix_tup (pv 1) pe_int (fun _ _ => rfl))) pa_nil))) pa_nil)))))))), ?_⟩
    have up2 : PySem.W.exmOne K (.ref OR) (.ref DE) = some true := exm_up eD up
    refine ⟨_, rfl, _, rfl, p, q, a, b, c, d, rfl, tw, fun h => ?_, fun h r H1 s1 nr hr1 => ?_⟩
    · subst h
      refine ⟨true, up2, fun _ e he => ?_, fun z => nomatch z⟩
      refine ⟨_, rfl, q, _, 0, _, rfl, rfl, SqT.of hq, rfl, rfl, decide (V.int 0 = V.int 0), rfl, ?_⟩
      rw [dec_int]
      refine iteT ?_
      refine ⟨_, rfl, rfl, OR, true, false, false, false, false, "OutOfRange", rfl, rfl, T.e_OutOfRange.c, kit_self OR, k1, k2, k3, k4, v1, rfl, fun H' s' => ?_⟩
      refine ⟨rfl, ?_⟩
      show Q (.bl (decide (V.str "OutOfRange" = V.str "OutOfRange"))) H'
      rw [dec_str]
      exact k _ s'
    · refine ⟨_, rfl, q, _, 0, _, rfl, rfl, SqT.of (s1 _ _ hq), rfl, rfl, (!decide (V.int c = V.int 0)), rfl, ?_⟩
      rw [decide_eq_false (show ¬ V.int c = V.int 0 from fun z => h (V.int.inj z))]
      refine iteT ?_
      refine ⟨_, rfl, ?_⟩
      refine ⟨_, rfl, p, _, 0, _, rfl, rfl, SqT.of (s1 _ _ hp), rfl, _, rfl, q, _, 1, _, rfl, rfl, SqT.of (s1 _ _ hq), rfl, _, _, rfl, rfl, mw f1.na f2.nb, ?_⟩
      refine ⟨_, rfl, p, _, 1, _, rfl, rfl, SqT.of (s1 _ _ hp), rfl, _, rfl, q, _, 0, _, rfl, rfl, SqT.of (s1 _ _ hq), rfl, _, _, rfl, rfl, mw f1.nb f2.na, ?_⟩
      refine ⟨_, _, rfl, Int.mul_ne_zero f1.b0 h, up410 (wide_lt f1.nb f2.na), fun r2 H2 s2 nr2 hr2 => ?_⟩
      exact ⟨r, r2, _, _, rfl, s2 _ _ hr1, hr2, k _ (s1.trans s2)⟩
end
end K0
namespace K0
open PySem PySem.Spec PyProof.Rows L2 Kt Fx
section
variable {P : Program} {w : World} {K : PySem.W.Frag} {mg : Str → Option Value} {base : Heap} {OR MA NT RE TM : Addr}
theorem Two.same {H H' : Hp} {p q : Addr} {a b c d : Int} (t : Two H p q a b c d) (s : Same H H') : Two H' p q a b c d := ⟨s _ _ t.1, s _ _ t.2.1, t.2.2⟩
theorem ok_law_sums (T : Txt K mg OR MA NT RE TM) : Prom P w K mg base CX0 5 "_law_sums" ["one", "other"] (fun vs H Q _ => ∃ (p q : Addr) (a b c d : Int), vs = [.ref p, .ref q] ∧ Two H p q a b c d ∧ ∀ H', Same H H' → Q (.bl true) H') := by
  have nd := sc__law_sums.nd
  have pr_plus := ok_plus (P := P) (w := w) (base := base) T
  have pr_minus := ok_minus (P := P) (w := w) (base := base) T
  have pr_times := ok_times (P := P) (w := w) (base := base) T
  have pr_less := ok_less (P := P) (w := w) (base := base) T
  have pr__law_through := ok_law_through (P := P) (w := w) (base := base) T
  have pr__law_is := ok_law_is (P := P) (w := w) (base := base) T
  have pr__law_lowest := ok_law_lowest (P := P) (w := w) (base := base) T
  refine T.d__law_sums.ok sc__law_sums bi__law_sums (fun vs H Q E h => ?_) (fun f cdv A outer s H vs Q E hr h => ?_)
  · obtain ⟨p, q, a, b, c, d, rfl, _⟩ := h
    rfl
  · obtain ⟨p, q, a, b, c, d, rfl, tw, k⟩ := h
    obtain ⟨hp, hq, f1, f2⟩ := id tw
    refine ⟨_, (pss_cons (ps_asg (pv 0) (pg_tup rfl (pgs_cons (pg_name (i := 2) nd rfl (Or.inl rfl)) (pgs_cons (pg_name (i := 3) nd rfl (Or.inl rfl)) pgs_nil))))
    (pss_cons (ps_asg (pv 1) (pg_tup rfl (pgs_cons (pg_name (i := 4) nd rfl (Or.inl rfl)) (pgs_cons (pg_name (i := 5) nd rfl (Or.inl rfl)) pgs_nil))))
    (pss_cons (ps_if (pt_not (pt_val (pcall hr pr__law_is (pa_cons (pcall hr pr_plus (pa_cons (pv 0) (pa_cons (pv 1) pa_nil))) (pa_cons (pcall hr pr__law_lowest (pa_cons (pe_op op_add (pe_op op_mulW (pv 2) (pv 5)) (pe_op op_mulW (pv 4) (pv 3))) (pa_cons (pe_op op_mulW (pv 3) (pv 5)) pa_nil))) pa_nil))))) (pss_one (ps_ret pe_bl)) pss_nil)
    (pss_cons (ps_if (pt_not (pt_val (pcall hr pr__law_is (pa_cons (pcall hr pr_minus (pa_cons (pv 0) (pa_cons (pv 1) pa_nil))) (pa_cons (pcall hr pr__law_lowest (pa_cons (pe_op op_sub (pe_op op_mulW (pv 2) (pv 5)) (pe_op op_mulW (pv 4) (pv 3))) (pa_cons (pe_op op_mulW (pv 3) (pv 5)) pa_nil))) pa_nil))))) (pss_one (ps_ret pe_bl)) pss_nil)
    (pss_cons (ps_if (pt_not (pt_val (pcall hr pr__law_is (pa_cons (pcall hr pr_times (pa_cons (pv 0) (pa_cons (pv 1) pa_nil))) (pa_cons (pcall hr pr__law_lowest (pa_cons (pe_op op_mulW (pv 2) (pv 4)) (pa_cons (pe_op op_mulW (pv 3) (pv 5)) pa_nil))) pa_nil))))) (pss_one (ps_ret pe_bl)) pss_nil)
    (pss_cons (ps_set (i := 6) nd rfl (Or.inl rfl) (pcall hr pr_less (pa_cons (pv 0) (pa_cons (pv 1) pa_nil))))
    (Evl.pss_cut (ps_if (PW.pt (pw_or (PW.pt (pw_and (pt_cmpR op_lt (pe_op op_mulW (pv 2) (pv 5)) (pe_op op_mulW (pv 4) (pv 3)) (nomark _)) (pw_and1 (pt_cmpR op_notBl (pv 6) pe_bl (nomark _))))) (pw_or1 (PW.pt (pw_and (pt_cmpR op_ge (pe_op op_mulW (pv 2) (pv 5)) (pe_op op_mulW (pv 4) (pv 3)) (nomark _)) (pw_and1 (pt_cmpR op_notBl (pv 6) pe_bl (nomark _)))))))) (pss_one (ps_ret pe_bl)) pss_nil)
    (pss_one (ps_ret (pcall hr pr__law_through (pa_cons (pv 0) (pa_cons (pv 1) pa_nil)))))))))))), ?_⟩
    refine ⟨_, rfl, p, _, rfl, SqT.of hp, rfl, _, _, rfl, _, _, rfl, rfl, ?_⟩
    refine ⟨_, rfl, q, _, rfl, SqT.of hq, rfl, _, _, rfl, _, _, rfl, rfl, ?_⟩
    have bd0 := Int.mul_ne_zero f1.b0 f2.b0
    have bd1 := up410 (wide_lt f1.nb f2.nb)
    -- plus
    refine ⟨_, rfl, _, rfl, p, q, a, b, c, d, rfl, tw, fun r1 H1 s1 n1 h1 => ?_⟩
    refine ⟨_, rfl, _, rfl, _, _, rfl, rfl, mw f1.na f2.nb, _, rfl, _, rfl, _, _, rfl, rfl, mw f2.na f1.nb, _, _, rfl, rfl, ?_⟩
    refine ⟨_, rfl, _, rfl, _, _, rfl, rfl, mw f1.nb f2.nb, ?_⟩
    refine ⟨_, _, rfl, bd0, bd1, fun r2 H2 s2 n2 h2 => ?_⟩
    refine ⟨r1, r2, _, _, rfl, s2 _ _ h1, h2, _, rfl, iteF ?_⟩
    -- minus
    have sA := s1.trans s2
    refine ⟨_, rfl, _, rfl, p, q, a, b, c, d, rfl, tw.same sA, fun r3 H3 s3 n3 h3 => ?_⟩
    refine ⟨_, rfl, _, rfl, _, _, rfl, rfl, mw f1.na f2.nb, _, rfl, _, rfl, _, _, rfl, rfl, mw f2.na f1.nb, _, _, rfl, rfl, ?_⟩
    refine ⟨_, rfl, _, rfl, _, _, rfl, rfl, mw f1.nb f2.nb, ?_⟩
    refine ⟨_, _, rfl, bd0, bd1, fun r4 H4 s4 n4 h4 => ?_⟩
    refine ⟨r3, r4, _, _, rfl, s4 _ _ h3, h4, _, rfl, iteF ?_⟩
    have sB := sA.trans (s3.trans s4)
    -- times
    refine ⟨_, rfl, _, rfl, p, q, a, b, c, d, rfl, tw.same sB, fun r5 H5 s5 n5 h5 => ?_⟩
    refine ⟨_, rfl, _, rfl, _, _, rfl, rfl, mw f1.na f2.na, ?_⟩
    refine ⟨_, rfl, _, rfl, _, _, rfl, rfl, mw f1.nb f2.nb, ?_⟩
    refine ⟨_, _, rfl, bd0, bd1, fun r6 H6 s6 n6 h6 => ?_⟩
    refine ⟨r5, r6, _, _, rfl, s6 _ _ h5, h6, _, rfl, iteF ?_⟩
    have sC := sB.trans (s5.trans s6)
    -- less
    refine ⟨_, rfl, _, rfl, p, q, a, b, c, d, rfl, tw.same sC, ?_⟩
    refine ⟨fun σ2 H2 => ∃ z, σ2 = [some (.ref p), some (.ref q), some (.int a), some (.int b), some (.int c), some (.int d), z] ∧ H2 = H6, ?_, ?_⟩
    · refine ⟨_, rfl, _, rfl, _, _, rfl, rfl, mw f1.na f2.nb, ?_⟩
      refine ⟨_, rfl, _, rfl, _, _, rfl, rfl, mw f2.na f1.nb, _, _, rfl, rfl, _, rfl, ?_⟩
      by_cases hlt : a * d < c * b
      · rw [decide_eq_true hlt]
        refine iteT ⟨_, rfl, true, true, rfl, rfl, _, rfl, iteF ?_⟩
        refine ⟨_, rfl, _, rfl, _, _, rfl, rfl, mw f1.na f2.nb, ?_⟩
        refine ⟨_, rfl, _, rfl, _, _, rfl, rfl, mw f2.na f1.nb, _, _, rfl, rfl, _, rfl, ?_⟩
        rw [decide_eq_false (show ¬ c * b ≤ a * d by omega)]
        exact iteF (iteF ⟨_, rfl, rfl⟩)
      · rw [decide_eq_false hlt]
        refine iteF ?_
        refine ⟨_, rfl, _, rfl, _, _, rfl, rfl, mw f1.na f2.nb, ?_⟩
        refine ⟨_, rfl, _, rfl, _, _, rfl, rfl, mw f2.na f1.nb, _, _, rfl, rfl, _, rfl, ?_⟩
        rw [decide_eq_true (show c * b ≤ a * d by omega)]
        refine iteT ⟨_, rfl, false, false, rfl, rfl, _, rfl, ?_⟩
        exact iteF ⟨_, rfl, rfl⟩
    · rintro σ2 H2 ⟨z, rfl, rfl⟩
      exact ⟨_, rfl, _, rfl, p, q, a, b, c, d, rfl, tw.same sC, fun H' s' => k _ (sC.trans s')⟩
theorem rep_int {H : Hp} (n : Int) : Rep H (.int n) (.int n) := by
  unfold Rep
  rfl
theorem rep_bl {H : Hp} (b : Bool) : Rep H (.bl b) (.bl b) := by
  unfold Rep
  rfl
theorem rep_str {H : Hp} (x : Str) : Rep H (.str x) (.str x) := by
  unfold Rep
  rfl
theorem rep_non {H : Hp} : Rep H .non .non := by
  unfold Rep
  rfl
theorem rep_tup2 {H : Hp} {p : Addr} {x y : V} {dx dy : Dd} (h : H p = some (.tup [x, y])) (hx : Rep H dx x) (hy : Rep H dy y) : Rep H (.tup [dx, dy]) (.ref p) := by
  unfold Rep
  refine ⟨by simp, p, _, rfl, h, ?_⟩
  unfold RepL
  refine ⟨_, _, rfl, hx, ?_⟩
  unfold RepL
  refine ⟨_, _, rfl, hy, ?_⟩
  unfold RepL
  rfl
theorem rep_tup1 {H : Hp} {p : Addr} {x : V} {dx : Dd} (h : H p = some (.tup [x])) (hx : Rep H dx x) : Rep H (.tup [dx]) (.ref p) := by
  unfold Rep
  refine ⟨by simp, p, _, rfl, h, ?_⟩
  unfold RepL
  refine ⟨_, _, rfl, hx, ?_⟩
  unfold RepL
  rfl
theorem rep_tup3 {H : Hp} {p : Addr} {x y z : V} {dx dy dz : Dd} (h : H p = some (.tup [x, y, z])) (hx : Rep H dx x) (hy : Rep H dy y) (hz : Rep H dz z) : Rep H (.tup [dx, dy, dz]) (.ref p) := by
  unfold Rep
  refine ⟨by simp, p, _, rfl, h, ?_⟩
  unfold RepL
  refine ⟨_, _, rfl, hx, ?_⟩
  unfold RepL
  refine ⟨_, _, rfl, hy, ?_⟩
  unfold RepL
  refine ⟨_, _, rfl, hz, ?_⟩
  unfold RepL
  rfl
theorem rep_lst2 {H : Hp} {p : Addr} {x y : V} {dx dy : Dd} (h : H p = some (.lst [x, y])) (hx : Rep H dx x) (hy : Rep H dy y) : Rep H (.lst [dx, dy]) (.ref p) := by
  unfold Rep
  refine ⟨by simp, p, _, rfl, h, ?_⟩
  unfold RepL
  refine ⟨_, _, rfl, hx, ?_⟩
  unfold RepL
  refine ⟨_, _, rfl, hy, ?_⟩
  unfold RepL
  rfl
theorem isFr_2 (x y : Dd) : isFr (.tup [x, y]) = (isNd x (-(10 ^ 60)) (10 ^ 60) && (isNd y 1 (10 ^ 60) && gOne x y)) := rfl
theorem nd_i (n a b : Int) : isNd (.int n) a b = (decide (a ≤ n) && decide (n ≤ b)) := rfl
theorem fr_yes {a b : Int} (f : Fr a b) : isFr (.tup [.int a, .int b]) = true := by
  rw [isFr_2, nd_i, nd_i]
  show (_ && (_ && decide (gd a b = 1))) = true
  rw [decide_eq_true f.1, decide_eq_true f.2.1, decide_eq_true f.2.2.1, decide_eq_true f.2.2.2.1, decide_eq_true f.2.2.2.2]
  rfl
theorem fr_dbl {a b : Int} (f : Fr a b) : isFr (.tup [.int (2 * a), .int (2 * b)]) = false := by
  rw [isFr_2]
  have e : gd (2 * a) (2 * b) = 2 * gd a b := by
    unfold gd
    rw [Int.natAbs_mul, Int.natAbs_mul, show (2 : Int).natAbs = 2 from rfl, Nat.gcd_mul_left, Int.natCast_mul]
    rfl
  have z : gOne (.int (2 * a)) (.int (2 * b)) = false := by
    show decide (gd (2 * a) (2 * b) = 1) = false
    rw [e, f.2.2.2.2]
    decide
  rw [z, Bool.and_false, Bool.and_false]
theorem fr_low {a b : Int} (h : b < 1) : isFr (.tup [.int a, .int b]) = false := by
  rw [isFr_2, nd_i b, decide_eq_false (show ¬ 1 ≤ b by omega), Bool.false_and, Bool.false_and, Bool.and_false]
theorem fr_hi {a b : Int} (h : 10 ^ 60 < b) : isFr (.tup [.int a, .int b]) = false := by
  rw [isFr_2, nd_i b, decide_eq_false (show ¬ b ≤ 10 ^ 60 by omega), Bool.and_false, Bool.false_and, Bool.and_false]
theorem fr_ahi {a b : Int} (h : 10 ^ 60 < a) : isFr (.tup [.int a, .int b]) = false := by
  rw [isFr_2, nd_i a, decide_eq_false (show ¬ a ≤ 10 ^ 60 by omega), Bool.and_false, Bool.false_and]
theorem fr_alo {a b : Int} (h : a < -(10 ^ 60)) : isFr (.tup [.int a, .int b]) = false := by
  rw [isFr_2, nd_i a, decide_eq_false (show ¬ -(10 ^ 60) ≤ a by omega), Bool.false_and, Bool.false_and]
theorem fr_bl2 {a : Dd} {k : Bool} : isFr (.tup [a, .bl k]) = false := by
  rw [isFr_2]
  show (_ && (false && _)) = false
  rw [Bool.false_and, Bool.and_false]
end
end K0
namespace K0
open PySem PySem.Spec PyProof.Rows L2 Kt Fx
section
variable {P : Program} {w : World} {K : PySem.W.Frag} {mg : Str → Option Value} {base : Heap} {OR MA NT RE TM : Addr}
theorem cp : CPow 10 60 := ⟨by decide, by decide, by decide⟩
theorem fr_t1 : Fr (10 ^ 60) 1 := ⟨by decide +kernel, by decide +kernel, by decide +kernel, by decide +kernel, by decide +kernel⟩
theorem fr_t2 : Fr (-1) (10 ^ 60) := ⟨by decide +kernel, by decide +kernel, by decide +kernel, by decide +kernel, by decide +kernel⟩
theorem ok_law_kinds (T : Txt K mg OR MA NT RE TM) : Prom P w K mg base CX0 3 "_law_kinds" ["one"] (fun vs H Q _ => ∃ (p : Addr) (a b : Int), vs = [.ref p] ∧ H p = some (.tup [.int a, .int b]) ∧ Fr a b ∧ ∀ H', Same H H' → Q (.bl true) H') := by
  have nd := sc__law_kinds.nd
  have pr_is_fraction := ok_is_fraction (P := P) (w := w) (base := base) T
  refine T.d__law_kinds.ok sc__law_kinds bi__law_kinds (fun vs H Q E h => ?_) (fun f cdv A outer s H vs Q E hr h => ?_)
  · obtain ⟨p, a, b, rfl, _⟩ := h
    rfl
  · obtain ⟨p, a, b, rfl, hp, fr, k⟩ := h
    refine ⟨_, (pss_cons (ps_asg (pv 0) (pg_tup rfl (pgs_cons (pg_name (i := 1) nd rfl (Or.inl rfl)) (pgs_cons (pg_name (i := 2) nd rfl (Or.inl rfl)) pgs_nil))))
    (pss_cons (ps_set (i := 3) nd rfl (Or.inl rfl) (pe_lst (pa_cons (pe_tup (pa_cons (pe_op op_mul pe_int (pv 1)) (pa_cons (pe_op op_mul pe_int (pv 2)) pa_nil))) (pa_cons (pe_tup (pa_cons (pv 1) (pa_cons (pe_un un_neg (pv 2)) pa_nil))) (pa_cons (pe_tup (pa_cons (pv 1) (pa_cons pe_int pa_nil))) (pa_cons (pe_lst (pa_cons (pv 1) (pa_cons (pv 2) pa_nil))) (pa_cons (pe_tup (pa_cons (pv 1) pa_nil)) (pa_cons (pe_tup (pa_cons (pv 1) (pa_cons (pv 2) (pa_cons pe_int pa_nil)))) (pa_cons (pv 1) (pa_cons pe_non (pa_cons (pe_tup (pa_cons pe_bl (pa_cons (pv 2) pa_nil))) (pa_cons (pe_tup (pa_cons (pv 1) (pa_cons pe_bl pa_nil))) (pa_cons (pe_tup (pa_cons (pe_op op_add (pe_op op_pow pe_int pe_int) pe_int) (pa_cons pe_int pa_nil))) (pa_cons (pe_tup (pa_cons (pe_op op_sub (pe_un un_neg (pe_op op_pow pe_int pe_int)) pe_int) (pa_cons pe_int pa_nil))) (pa_cons (pe_tup (pa_cons pe_int (pa_cons (pe_op op_add (pe_op op_pow pe_int pe_int) pe_int) pa_nil))) (pa_cons (pe_tup (pa_cons pe_str (pa_cons pe_int pa_nil))) (pa_cons pe_str pa_nil)))))))))))))))))
    (pss_cons (ps_for PassesOwn.never rfl (pi_list (pv 3)) (pg_name (i := 4) nd rfl (Or.inl rfl)) (pss_one (ps_if (pt_cmpR op_notBl (pcall hr pr_is_fraction (pa_cons (pv 4) pa_nil)) pe_bl (nomark _)) (pss_one (ps_ret pe_bl)) pss_nil)))
    (pss_one (ps_ret (pe_and (pe_cmpR op_isBl (pcall hr pr_is_fraction (pa_cons (pe_tup (pa_cons (pe_op op_pow pe_int pe_int) (pa_cons pe_int pa_nil))) pa_nil)) pe_bl (nomark _)) (pe_one (pe_cmpR op_isBl (pcall hr pr_is_fraction (pa_cons (pe_tup (pa_cons (pe_un un_neg pe_int) (pa_cons (pe_op op_pow pe_int pe_int) pa_nil))) pa_nil)) pe_bl (nomark _))))))))), ?_⟩
    have b0 := fr.2.2.1
    refine ⟨_, rfl, p, _, rfl, SqT.of hp, rfl, _, _, rfl, _, _, rfl, rfl, ?_⟩
    refine ⟨_, rfl, _, _, rfl, rfl, (show CMul _ _ from .inl ⟨by decide, by decide⟩), _, rfl, _, _, rfl, rfl, (show CMul _ _ from .inl ⟨by decide, by decide⟩), by show 2 ≤ sizeLine; decide, fun p1 n1 => ?_⟩
    obtain ⟨H1, e1, s1, t1⟩ := pack (o := HO.tup [V.int (2 * a), V.int (2 * b)]) n1
    rw [e1]
    refine ⟨_, rfl, _, rfl, _, rfl, by show 2 ≤ sizeLine; decide, fun p2 n2 => ?_⟩
    obtain ⟨H2, e2, s2, t2⟩ := pack (o := HO.tup [V.int a, V.int (-b)]) n2
    rw [e2]
    refine ⟨_, rfl, by show 2 ≤ sizeLine; decide, fun p3 n3 => ?_⟩
    obtain ⟨H3, e3, s3, t3⟩ := pack (o := HO.tup [V.int a, V.int 0]) n3
    rw [e3]
    refine ⟨_, rfl, _, rfl, by show 2 ≤ sizeLine; decide, fun p4 n4 => ?_⟩
    obtain ⟨H4, e4, s4, t4⟩ := pack (o := HO.lst [V.int a, V.int b]) n4
    rw [e4]
    refine ⟨_, rfl, by show 1 ≤ sizeLine; decide, fun p5 n5 => ?_⟩
    obtain ⟨H5, e5, s5, t5⟩ := pack (o := HO.tup [V.int a]) n5
    rw [e5]
    refine ⟨_, rfl, _, rfl, by show 3 ≤ sizeLine; decide, fun p6 n6 => ?_⟩
    obtain ⟨H6, e6, s6, t6⟩ := pack (o := HO.tup [V.int a, V.int b, V.int 1]) n6
    rw [e6]
    refine ⟨_, rfl, _, rfl, by show 2 ≤ sizeLine; decide, fun p9 n9 => ?_⟩
    obtain ⟨H9, e9, s9, t9⟩ := pack (o := HO.tup [V.bl true, V.int b]) n9
    rw [e9]
    refine ⟨_, rfl, by show 2 ≤ sizeLine; decide, fun p10 n10 => ?_⟩
    obtain ⟨H10, e10, s10, t10⟩ := pack (o := HO.tup [V.int a, V.bl true]) n10
    rw [e10]
    refine ⟨_, _, rfl, rfl, cp, _, _, rfl, rfl, by show 2 ≤ sizeLine; decide, fun p11 n11 => ?_⟩
    obtain ⟨H11, e11, s11, t11⟩ := pack (o := HO.tup [V.int (10 ^ (60 : Int).toNat + 1), V.int 1]) n11
    rw [e11]
    refine ⟨_, _, rfl, rfl, cp, _, rfl, _, _, rfl, rfl, by show 2 ≤ sizeLine; decide, fun p12 n12 => ?_⟩
    obtain ⟨H12, e12, s12, t12⟩ := pack (o := HO.tup [V.int (-(10 ^ (60 : Int).toNat) - 1), V.int 1]) n12
    rw [e12]
    refine ⟨_, _, rfl, rfl, cp, _, _, rfl, rfl, by show 2 ≤ sizeLine; decide, fun p13 n13 => ?_⟩
    obtain ⟨H13, e13, s13, t13⟩ := pack (o := HO.tup [V.int 1, V.int (10 ^ (60 : Int).toNat + 1)]) n13
    rw [e13]
    refine ⟨by show 2 ≤ sizeLine; decide, fun p14 n14 => ?_⟩
    obtain ⟨H14, e14, s14, t14⟩ := pack (o := HO.tup [V.str "1", V.int 2]) n14
    rw [e14]
    refine ⟨by show 15 ≤ sizeLine; decide, fun L nL => ?_⟩
    obtain ⟨HL, eL, sL, tL⟩ := pack (o := HO.lst [V.ref p1, V.ref p2, V.ref p3, V.ref p4, V.ref p5, V.ref p6, V.int a, V.non, V.ref p9, V.ref p10, V.ref p11, V.ref p12, V.ref p13, V.ref p14, V.str "1/2"]) nL
    rw [eL]
    have u14 := s14.trans sL
    have u13 := s13.trans u14
    have u12 := s12.trans u13
    have u11 := s11.trans u12
    have u10 := s10.trans u11
    have u9 := s9.trans u10
    have u6 := s6.trans u9
    have u5 := s5.trans u6
    have u4 := s4.trans u5
    have u3 := s3.trans u4
    have u2 := s2.trans u3
    have u1 := s1.trans u2
    obtain ⟨xs, hxs⟩ : ∃ xs : List V, xs = [V.ref p1, V.ref p2, V.ref p3, V.ref p4, V.ref p5, V.ref p6, V.int a, V.non, V.ref p9, V.ref p10, V.ref p11, V.ref p12, V.ref p13, V.ref p14, V.str "1/2"] := ⟨_, rfl⟩
    rw [← hxs] at tL
    have all : ∀ x ∈ xs, ∃ d, Rep HL d x ∧ isFr d = false := by
      intro x hx
      rw [hxs] at hx
      have st : ∀ {y : V} {ys : List V} {R : Prop}, x ∈ y :: ys → (x = y → R) → (x ∈ ys → R) → R := fun h f g => (List.mem_cons.mp h).elim f g
      refine st hx (fun e => ?_) fun hx => ?_
      · subst e; exact ⟨_, rep_tup2 (u2 _ _ t1) (rep_int _) (rep_int _), fr_dbl fr⟩
      refine st hx (fun e => ?_) fun hx => ?_
      · subst e; exact ⟨_, rep_tup2 (u3 _ _ t2) (rep_int _) (rep_int _), fr_low (by omega)⟩
      refine st hx (fun e => ?_) fun hx => ?_
      · subst e; exact ⟨_, rep_tup2 (u4 _ _ t3) (rep_int _) (rep_int _), fr_low (by decide)⟩
      refine st hx (fun e => ?_) fun hx => ?_
      · subst e; exact ⟨_, rep_lst2 (u5 _ _ t4) (rep_int _) (rep_int _), rfl⟩
      refine st hx (fun e => ?_) fun hx => ?_
      · subst e; exact ⟨_, rep_tup1 (u6 _ _ t5) (rep_int _), rfl⟩
      refine st hx (fun e => ?_) fun hx => ?_
      · subst e; exact ⟨_, rep_tup3 (u9 _ _ t6) (rep_int _) (rep_int _) (rep_int _), rfl⟩
      refine st hx (fun e => ?_) fun hx => ?_
      · subst e; exact ⟨_, rep_int _, rfl⟩
      refine st hx (fun e => ?_) fun hx => ?_
      · subst e; exact ⟨_, rep_non, rfl⟩
      refine st hx (fun e => ?_) fun hx => ?_
      · subst e; exact ⟨_, rep_tup2 (u10 _ _ t9) (rep_bl _) (rep_int _), rfl⟩
      refine st hx (fun e => ?_) fun hx => ?_
      · subst e; exact ⟨_, rep_tup2 (u11 _ _ t10) (rep_int _) (rep_bl _), fr_bl2⟩
      refine st hx (fun e => ?_) fun hx => ?_
      · subst e; exact ⟨_, rep_tup2 (u12 _ _ t11) (rep_int _) (rep_int _), fr_ahi (by decide +kernel)⟩
      refine st hx (fun e => ?_) fun hx => ?_
      · subst e; exact ⟨_, rep_tup2 (u13 _ _ t12) (rep_int _) (rep_int _), fr_alo (by decide +kernel)⟩
      refine st hx (fun e => ?_) fun hx => ?_
      · subst e; exact ⟨_, rep_tup2 (u14 _ _ t13) (rep_int _) (rep_int _), fr_hi (by decide +kernel)⟩
      refine st hx (fun e => ?_) fun hx => ?_
      · subst e; exact ⟨_, rep_tup2 (sL _ _ t14) (rep_str _) (rep_int _), rfl⟩
      refine st hx (fun e => ?_) fun hx => ?_
      · subst e; exact ⟨_, rep_str _, rfl⟩
      cases hx
    refine ⟨_, rfl, L, rfl, ⟨_, SqL.of tL⟩, for_list (K := K) (a := L) (xs := xs) (fun i σ' H' => ∃ v4 : Option V, σ' = [some (.ref p), some (.int a), some (.int b), some (.ref L), v4] ∧ H' = HL) ⟨none, rfl, rfl⟩ (fun i σ' H' _ ⟨_, _, e⟩ => by rw [e]; exact SqL.of tL) ?_ ?_⟩
    · rintro i x σ' H' hi ⟨v4, rfl, rfl⟩
      obtain ⟨d, hd, hf⟩ := all x (List.mem_of_getElem? hi)
      refine ⟨_, rfl, x, d, rfl, hd, isFr d, false, rfl, rfl, _, rfl, ?_⟩
      rw [hf]
      exact iteF ⟨_, rfl, rfl⟩
    · rintro σ' H' ⟨v4, rfl, rfl⟩
      refine ⟨_, _, rfl, rfl, cp, by show 2 ≤ sizeLine; decide, fun p16 n16 => ?_⟩
      refine ⟨_, .tup [.int (10 ^ 60), .int 1], rfl, rep_tup2 upd_same (rep_int _) (rep_int _), isFr (.tup [.int (10 ^ 60), .int 1]), true, rfl, rfl, decide (isFr (.tup [.int (10 ^ 60), .int 1]) = true), rfl, ?_⟩
      rw [fr_yes fr_t1]
      refine iteT ?_
      refine ⟨_, rfl, _, _, rfl, rfl, cp, by show 2 ≤ sizeLine; decide, fun p17 n17 => ?_⟩
      refine ⟨_, .tup [.int (-1), .int (10 ^ 60)], rfl, rep_tup2 upd_same (rep_int _) (rep_int _), isFr (.tup [.int (-1), .int (10 ^ 60)]), true, rfl, rfl, ?_⟩
      have e : decide (isFr (.tup [.int (-1), .int (10 ^ 60)]) = true) = true := decide_eq_true (fr_yes fr_t2)
      show Q (.bl (decide (isFr (.tup [.int (-1), .int (10 ^ 60)]) = true))) _
      rw [e]
      exact k _ ((u1.trans (same_new n16)).trans (same_new n17))
end
end K0
namespace K0
open PySem PySem.Spec PyProof.Rows L2 Kt Fx
/-- the law's rows: fractions at R -/
def Rws (H : Hp) (R : Addr) (n : Nat) : Prop := ∃ rs : List (Addr × Int × Int), rs.length = n ∧ H R = some (.lst (rs.map fun t => V.ref t.1)) ∧ ∀ t ∈ rs, H t.1 = some (.tup [.int t.2.1, .int t.2.2]) ∧ Fr t.2.1 t.2.2
theorem Rws.same {H H' : Hp} {R : Addr} {n : Nat} (r : Rws H R n) (s : Same H H') : Rws H' R n := by
  obtain ⟨rs, h1, h2, h3⟩ := r
  exact ⟨rs, h1, s _ _ h2, fun t ht => ⟨s _ _ (h3 t ht).1, (h3 t ht).2⟩⟩
theorem Rws.but {H H' : Hp} {R p : Addr} {n : Nat} (r : Rws H R n) (d : Drs H p) (ne : R ≠ p) (s : But p H H') : Rws H' R n := by
  obtain ⟨rs, h1, h2, h3⟩ := r
  obtain ⟨_, _, _, _, hp, _⟩ := d
  refine ⟨rs, h1, s _ _ ne h2, fun t ht => ⟨s _ _ (fun e => ?_) (h3 t ht).1, (h3 t ht).2⟩⟩
  have z := (h3 t ht).1
  rw [e, hp] at z
  cases z
/-- writing the rows leaves the draws -/
theorem Drs.put {H : Hp} {p R : Addr} {n : Nat} {o : HO} (d : Drs H p) (r : Rws H R n) (ne : R ≠ p) : Drs (upd H R o) p := by
  obtain ⟨t, l, c, cs, h1, h2, h3, h4, h5⟩ := d
  obtain ⟨rs, _, hR, _⟩ := r
  have nc : c ≠ R := fun e => by
    rw [e, hR] at h3
    have z := HO.lst.inj (Option.some.inj h3)
    cases cs with
    | nil => exact absurd h4 (Nat.lt_irrefl _)
    | cons x xs =>
      cases rs with
      | nil => cases z
      | cons y ys => cases z
  exact ⟨t, l, c, cs, by rw [upd_ne (Ne.symm ne)]; exact h1, h2, by rw [upd_ne nc]; exact h3, h4, h5⟩
section
variable {P : Program} {w : World} {K : PySem.W.Frag} {mg : Str → Option Value} {base : Heap} {OR MA NT RE TM : Addr}
def spLaw (K : PySem.W.Frag) : Sp := fun vs H Q _ => ∃ (a : Addr) (ns : List Int), vs = [.ref a] ∧ SqL K H a (ns.map V.int) ∧ ns.length ≤ 63 ∧ ∀ H', Q (.bl true) H'
theorem n410 {m : Int} (h1 : -(10 ^ 60) ≤ m) (h2 : m ≤ 10 ^ 60) : m.natAbs < 2 ^ 410 := Nat.lt_trans (Fx.nb h1 h2) (by decide +kernel)
theorem ok_law (T : Txt K mg OR MA NT RE TM) : Prom P w K mg base CX0 7 "law" ["script"] (spLaw K) := by
  have nd := sc_law.nd
  have pr__law_open := ok_law_open (P := P) (w := w) (base := base) T
  have pr__law_draw := ok_law_draw (P := P) (w := w) (base := base) T
  have pr__law_number := ok_law_number (P := P) (w := w) (base := base) T
  have pr__law_made := ok_law_made (P := P) (w := w) (base := base) T
  have pr__law_lowest := ok_law_lowest (P := P) (w := w) (base := base) T
  have pr_is_fraction := ok_is_fraction (P := P) (w := w) (base := base) T
  have pr__law_kinds := ok_law_kinds (P := P) (w := w) (base := base) T
  have pr__law_sums := ok_law_sums (P := P) (w := w) (base := base) T
  refine T.d_law.ok sc_law bi_law (fun vs H Q E h => ?_) (fun f cdv A outer s H vs Q E hr h => ?_)
  · obtain ⟨a, ns, rfl, _⟩ := h
    rfl
  · obtain ⟨a, ns, rfl, hS, hlen, q⟩ := h
    refine ⟨_, (pss_cons (ps_set (i := 1) nd rfl (Or.inl rfl) (pcall hr pr__law_open (pa_cons (pv 0) pa_nil)))
    (pss_cons (ps_for PassesOwn.never rfl (pi_range1 (by rfl) T.b_range (pa_cons (pe_op op_add pe_int (pcall hr pr__law_draw (pa_cons (pv 1) (pa_cons pe_int pa_nil)))) pa_nil)) (pg_name (i := 2) nd rfl (Or.inl rfl)) (pss_cons (ps_set (i := 3) nd rfl (Or.inl rfl) (pe_lst pa_nil))
    (Evl.pss_cut (ps_for PassesOwn.never rfl (pi_range1 (by rfl) T.b_range (pa_cons pe_int pa_nil)) (pg_name (i := 4) nd rfl (Or.inl rfl)) (pss_cons (ps_set (i := 5) nd rfl (Or.inl rfl) (pcall hr pr__law_number (pa_cons (pv 1) pa_nil)))
    (pss_cons (ps_set (i := 6) nd rfl (Or.inl rfl) (pcall hr pr__law_number (pa_cons (pv 1) pa_nil)))
    (pss_cons (ps_if (pt_not (pt_val (pcall hr pr__law_made (pa_cons (pv 5) (pa_cons (pv 6) pa_nil))))) (pss_one (ps_ret pe_bl)) pss_nil)
    (Evl.pss_cut (ps_if (pt_cmpR op_eq (pv 6) pe_int (nomark _)) (pss_one (ps_set (i := 6) nd rfl (Or.inl rfl) pe_int)) pss_nil)
    (pss_one (ps_expr (pe_bm PySem.F.plainAttrs_list PySem.F.slot_list_append PySem.F.type_list_append mt_append (pv 3) (pa_cons (pcall hr pr__law_lowest (pa_cons (pv 5) (pa_cons (pv 6) pa_nil))) pa_nil)))))))))
    (Evl.pss_cut (ps_if (pt_cmpR op_eq (pcall hr pr__law_draw (pa_cons (pv 1) (pa_cons pe_int pa_nil))) pe_int (nomark _)) (pss_one (ps_asg (pe_ix ix_list (pv 3) pe_int (fun _ _ => rfl)) (pg_sub (pv 3) pe_int set_list))) pss_nil)
    (Evl.pss_cut (ps_for PassesOwn.never rfl (pi_list (pv 3)) (pg_name (i := 7) nd rfl (Or.inl rfl)) (pss_one (ps_if (PW.pt (pw_or (pt_cmpR op_notBl (pcall hr pr_is_fraction (pa_cons (pv 7) pa_nil)) pe_bl (nomark _)) (pw_or1 (pt_not (pt_val (pcall hr pr__law_kinds (pa_cons (pv 7) pa_nil))))))) (pss_one (ps_ret pe_bl)) pss_nil)))
    (pss_one (ps_if (PW.pt (pw_or (pt_not (pt_val (pcall hr pr__law_sums (pa_cons (pe_ix ix_list (pv 3) pe_int (fun _ _ => rfl)) (pa_cons (pe_ix ix_list (pv 3) pe_int (fun _ _ => rfl)) pa_nil))))) (pw_or (pt_not (pt_val (pcall hr pr__law_sums (pa_cons (pe_ix ix_list (pv 3) pe_int (fun _ _ => rfl)) (pa_cons (pe_ix ix_list (pv 3) pe_int (fun _ _ => rfl)) pa_nil))))) (pw_or1 (pt_not (pt_val (pcall hr pr__law_sums (pa_cons (pe_ix ix_list (pv 3) pe_int (fun _ _ => rfl)) (pa_cons (pe_tup (pa_cons pe_int (pa_cons pe_int pa_nil))) pa_nil))))))))) (pss_one (ps_ret pe_bl)) pss_nil)))))))
    (pss_one (ps_ret pe_bl)))), ?_⟩
    refine ⟨_, rfl, a, ns, rfl, hS, hlen, fun p H1 s1 n1 d1 => ?_⟩
    refine ⟨_, rfl, p, 3, rfl, by decide, by decide +kernel, d1, fun r H2 r0 r1 b2 d2 => ?_⟩
    refine ⟨_, _, rfl, rfl, _, rfl, by omega, by omega, for_range (n := (1 + r).toNat) (fun i σ' H' => ∃ v2 v3 v4 v5 v6 v7 : Option V, σ' = [some (.ref a), some (.ref p), v2, v3, v4, v5, v6, v7] ∧ Drs H' p)
      ⟨none, none, none, none, none, none, rfl, d2⟩ ?_ ?_⟩
    · rintro i σ' H' hi ⟨v2, v3, v4, v5, v6, v7, rfl, d⟩
      refine ⟨Nat.zero_le _, fun R nR => ?_⟩
      have neR : R ≠ p := fun e => by
        obtain ⟨_, _, _, _, h, _⟩ := d
        rw [← e, nR] at h
        cases h
      have dR := d.same (same_new (o := HO.lst []) nR)
      refine ⟨fun σ2 H2 => ∃ v4 v5 v6 : Option V, σ2 = [some (.ref a), some (.ref p), some (.int (0 + (i : Int))), some (.ref R), v4, v5, v6, v7] ∧ Drs H2 p ∧ Rws H2 R 2, ?_, ?_⟩
      · refine ⟨2, rfl, by decide, by decide, for_range (n := 2) (fun j σ2 H2 => ∃ v4 v5 v6 : Option V, σ2 = [some (.ref a), some (.ref p), some (.int (0 + (i : Int))), some (.ref R), v4, v5, v6, v7] ∧ Drs H2 p ∧ Rws H2 R j)
          ⟨v4, v5, v6, rfl, dR, [], rfl, upd_same, fun t ht => nomatch ht⟩ ?_ (fun σ2 H2 h => h)⟩
        rintro j σ2 H2 hj ⟨v4, v5, v6, rfl, d2, rw2⟩
        refine ⟨_, rfl, p, rfl, d2, fun x H3 x1 x2 b3 d3 => ?_⟩
        refine ⟨_, rfl, p, rfl, d3, fun y H4 y1 y2 b4 d4 => ?_⟩
        have rw4 := (rw2.but d2 neR b3).but d3 neR b4
        refine ⟨_, rfl, _, rfl, x, y, rfl, n410 y1 y2, fun H5 s5 => ⟨_, rfl, iteF ?_⟩⟩
        refine ⟨fun σ3 H6 => ∃ z : Int, σ3 = [some (.ref a), some (.ref p), some (.int (0 + (i : Int))), some (.ref R), some (.int (0 + (j : Int))), some (.int x), some (.int z), v7] ∧ H6 = H5 ∧ z ≠ 0 ∧ -(10 ^ 60) ≤ z ∧ z ≤ 10 ^ 60, ?_, ?_⟩
        · refine ⟨_, rfl, rfl, _, rfl, ?_⟩
          refine ite2 (fun _ => ?_) (fun h => ?_)
          · exact ⟨1, rfl, rfl, by decide, by decide +kernel, by decide +kernel⟩
          · exact ⟨y, rfl, rfl, fun z => h (decide_eq_true (by rw [z])), y1, y2⟩
        · rintro σ3 H6 ⟨z, rfl, rfl, z0, z1, z2⟩
          obtain ⟨rs, hl, hR, hT⟩ := id (rw4.same s5)
          refine ⟨_, rfl, .inl ⟨rfl, _, SqL.of hR⟩, ?_⟩
          refine ⟨_, rfl, _, rfl, x, z, rfl, z0, n410 z1 z2, fun t H7 s7 nt ht => ?_⟩
          refine ⟨_, _, _, rfl, rfl, s7 _ _ hR, by rw [List.length_map, hl]; exact Nat.lt_of_lt_of_le hj (by decide), ?_⟩
          have rw7 := (rw4.same s5).same s7
          have d7 := (d4.same s5).same s7
          have fr := low_fr z0 x1 x2 z1 z2
          refine ⟨_, _, _, rfl, d7.put rw7 neR, rs ++ [(t, lowP x z, lowW x z)], by rw [List.length_append, hl] <;> rfl, by rw [upd_same, List.map_append] <;> rfl, fun u hu => ?_⟩
          have keep : ∀ {b : Addr} {o : HO}, H7 b = some o → (∀ l, o ≠ .lst l) → (upd H7 R (.lst (rs.map (fun t => V.ref t.1) ++ [V.ref t]))) b = some o := fun {b o} h no => by
            rw [upd_ne (fun e => by rw [e, s7 _ _ hR] at h; exact no _ (Option.some.inj h).symm)]
            exact h
          rcases List.mem_append.mp hu with hu | hu
          · exact ⟨keep (s7 _ _ (hT u hu).1) (fun l e => by cases e), (hT u hu).2⟩
          · obtain rfl := List.mem_singleton.mp hu
            exact ⟨keep ht (fun l e => by cases e), fr⟩
      · rintro σ2 H2 ⟨v4, v5, v6, rfl, d2, rw2⟩
        refine ⟨fun σ3 H3 => ∃ v4 v5 v6 : Option V, σ3 = [some (.ref a), some (.ref p), some (.int (0 + (i : Int))), some (.ref R), v4, v5, v6, v7] ∧ Drs H3 p ∧ Rws H3 R 2, ?_, ?_⟩
        · refine ⟨_, rfl, p, 5, rfl, by decide, by decide +kernel, d2, fun x H3 x0 x1 b3 d3 => ?_⟩
          have rw3 := rw2.but d2 neR b3
          refine ⟨rfl, _, rfl, ?_⟩
          refine ite2 (fun _ => ?_) (fun _ => ⟨_, _, _, rfl, d3, rw3⟩)
          obtain ⟨rs, hl, hR, hT⟩ := id rw3
          match rs, hl, hR, hT with
          | [t0, t1], _, hR, hT =>
            refine ⟨_, rfl, R, _, 0, _, rfl, rfl, SqL.of hR, rfl, ?_⟩
            refine ⟨_, rfl, R, _, 1, 1, rfl, rfl, hR, rfl, ?_⟩
            have keep : ∀ {b : Addr} {o : HO}, H3 b = some o → (∀ l, o ≠ .lst l) → (upd H3 R (.lst [V.ref t0.1, V.ref t0.1])) b = some o := fun {b o} h no => by
              rw [upd_ne (fun e => by rw [e, hR] at h; exact no _ (Option.some.inj h).symm)]
              exact h
            refine ⟨_, _, _, rfl, d3.put rw3 neR, [t0, t0], rfl, upd_same, fun u hu => ?_⟩
            have e : u = t0 := by
              rcases List.mem_cons.mp hu with e | hu
              · exact e
              · exact List.mem_singleton.mp hu
            subst e
            have z := hT u List.mem_cons_self
            exact ⟨keep z.1 (fun l e => by cases e), z.2⟩
        · rintro σ3 H3 ⟨v4, v5, v6, rfl, d3, rw3⟩
          obtain ⟨rs, hl, hR, hT⟩ := id rw3
          match rs, hl, hR, hT with
          | [t0, t1], _, hR, hT =>
            have z0 := hT t0 List.mem_cons_self
            have z1 := hT t1 (List.mem_cons_of_mem _ List.mem_cons_self)
            refine ⟨fun σ4 H4 => ∃ v7 : Option V, σ4 = [some (.ref a), some (.ref p), some (.int (0 + (i : Int))), some (.ref R), v4, v5, v6, v7] ∧ Same H3 H4, ?_, ?_⟩
            · refine ⟨_, rfl, R, rfl, ⟨_, SqL.of hR⟩, for_list (K := K) (a := R) (xs := [V.ref t0.1, V.ref t1.1]) (fun j σ' H' => ∃ v7 : Option V, σ' = [some (.ref a), some (.ref p), some (.int (0 + (i : Int))), some (.ref R), v4, v5, v6, v7] ∧ Same H3 H')
                ⟨v7, rfl, Same.refl H3⟩ (fun j σ' H' _ ⟨_, _, s⟩ => s.seq (SqL.of hR)) ?_ (fun σ' H' h => h)⟩
              rintro j x σ' H' hj ⟨v7, rfl, s⟩
              have hx : ∃ t : Addr × Int × Int, x = .ref t.1 ∧ H3 t.1 = some (.tup [.int t.2.1, .int t.2.2]) ∧ Fr t.2.1 t.2.2 := by
                match j, hj with
                | 0, hj => exact ⟨t0, (Option.some.inj hj).symm, z0⟩
                | 1, hj => exact ⟨t1, (Option.some.inj hj).symm, z1⟩
                | _ + 2, hj => cases hj
              obtain ⟨t, rfl, ht, fr⟩ := hx
              refine ⟨_, rfl, .ref t.1, .tup [.int t.2.1, .int t.2.2], rfl, rep_tup2 (s _ _ ht) (rep_int _) (rep_int _), isFr (.tup [.int t.2.1, .int t.2.2]), true, rfl, rfl, _, rfl, ?_⟩
              rw [fr_yes fr]
              refine iteF ?_
              exact ⟨_, rfl, t.1, _, _, rfl, s _ _ ht, fr, fun H5 s5 => ⟨_, rfl, iteF ⟨_, rfl, s.trans s5⟩⟩⟩
            · rintro σ4 H4 ⟨v7, rfl, s4⟩
              refine ⟨_, rfl, R, _, 0, _, rfl, rfl, SqL.of (s4 _ _ hR), rfl, _, rfl, R, _, 1, _, rfl, rfl, SqL.of (s4 _ _ hR), rfl, ?_⟩
              refine ⟨t0.1, t1.1, _, _, _, _, rfl, ⟨s4 _ _ z0.1, s4 _ _ z1.1, z0.2, z1.2⟩, fun H5 s5 => ⟨_, rfl, iteF ?_⟩⟩
              have u5 := s4.trans s5
              refine ⟨_, rfl, R, _, 1, _, rfl, rfl, SqL.of (u5 _ _ hR), rfl, _, rfl, R, _, 0, _, rfl, rfl, SqL.of (u5 _ _ hR), rfl, ?_⟩
              refine ⟨t1.1, t0.1, _, _, _, _, rfl, ⟨u5 _ _ z1.1, u5 _ _ z0.1, z1.2, z0.2⟩, fun H6 s6 => ⟨_, rfl, iteF ?_⟩⟩
              have u6 := u5.trans s6
              refine ⟨_, rfl, R, _, 0, _, rfl, rfl, SqL.of (u6 _ _ hR), rfl, by show 2 ≤ sizeLine; decide, fun Z nZ => ?_⟩
              have sZ := same_new (o := HO.tup [V.int 0, V.int 1]) nZ
              refine ⟨t0.1, Z, _, _, 0, 1, rfl, ⟨sZ _ _ (u6 _ _ z0.1), upd_same, z0.2, ⟨by decide +kernel, by decide +kernel, by decide +kernel, by decide +kernel, by decide +kernel⟩⟩, fun H7 s7 => ⟨_, rfl, iteF ?_⟩⟩
              exact ⟨_, _, _, _, _, _, rfl, d3.same ((u6.trans sZ).trans s7)⟩
    · rintro σ' H' ⟨v2, v3, v4, v5, v6, v7, rfl, d⟩
      exact q _
end
end K0
namespace K0
open PySem L2 Kt
theorem walk {l : PySem.W.OpenLaw} {q : Program} {loose : List Str} {XP : (Str → Option Value) → Heap → Prop} {YP : World → Heap → Prop} {d : DefRec} {K : Params → PySem.W.Frag} (hn : l.most = some 63) (hdf : d.params.defaults = [])
    (hY : ∀ (w : World) (h : Heap), YP w h → (K w.params).In h)
    (F : ∀ (w : World) (mg : Str → Option Value) (fa : Addr) (h : Heap), (K w.params).In h → h.Ns mainGlobals mg → mg d.name = some (.ref fa) →
      ∃ fd : FuncData, (∀ (s : Shared) (u : Value), BindsTo s fd ⟨[u], []⟩ [("script", u)]) ∧ ∀ base : Heap, (K w.params).In base → base.Ns mainGlobals mg → FnOk l.prog w (K w.params) mg base CX0 7 fa fd ["script"] (spLaw (K w.params))) :
    PySem.W.WalkO q loose XP YP l.row.toRowW d [] (fun f vs => PySem.call f vs) :=
  L2.walk_of (n := 63) (k := 7) (x := "script") (CX := fun _ => CX0) (sp := fun w => spLaw (K w.params)) hn (by decide) hdf ⟨rfl, by decide, by decide⟩ hY F (fun _ _ a ns hl _ hS => ⟨a, ns, rfl, hS, hl, fun _ => rfl⟩) fun _ _ _ _ _ z => z
end K0
open PySem PySem.W PyProof.Rows
set_option maxRecDepth 100000 in
set_option maxHeartbeats 0 in
theorem PySem.Challenge.cw_docketloom_k00_fractions_holds : PySem.Challenge.rw_docketloom_k00_fractions.Holds := by
  w_on; o_law; k_head; (case hw => w_witness2)
  k_fill
  refine K0.walk (l := PySem.Challenge.rw_docketloom_k00_fractions) rfl rfl (fun w h Y => PySem.W.kIn_of Y) ?F
  case F =>
    intro w mg fa h KX G hmg
    have A_is_number : Kt.At (Kt.kOf KX) mg "is_number" K0.s_is_number := by
      unfold Kt.kOf
      refine' Kt.at_mk KX G ?a ?l ?c ?k
      (case a => k_is); (case l => k_is); (case c => k_is); (case k => k_is)
    have A_is_tuple : Kt.At (Kt.kOf KX) mg "is_tuple" K0.s_is_tuple := by
      unfold Kt.kOf
      refine' Kt.at_mk KX G ?a ?l ?c ?k
      (case a => k_is); (case l => k_is); (case c => k_is); (case k => k_is)
    have A_is_fraction : Kt.At (Kt.kOf KX) mg "is_fraction" K0.s_is_fraction := by
      unfold Kt.kOf
      refine' Kt.at_mk KX G ?a ?l ?c ?k
      (case a => k_is); (case l => k_is); (case c => k_is); (case k => k_is)
    have A_lowest : Kt.At (Kt.kOf KX) mg "lowest" K0.s_lowest := by
      unfold Kt.kOf
      refine' Kt.at_mk KX G ?a ?l ?c ?k
      (case a => k_is); (case l => k_is); (case c => k_is); (case k => k_is)
    have A_made : Kt.At (Kt.kOf KX) mg "made" K0.s_made := by
      unfold Kt.kOf
      refine' Kt.at_mk KX G ?a ?l ?c ?k
      (case a => k_is); (case l => k_is); (case c => k_is); (case k => k_is)
    have A_plus : Kt.At (Kt.kOf KX) mg "plus" K0.s_plus := by
      unfold Kt.kOf
      refine' Kt.at_mk KX G ?a ?l ?c ?k
      (case a => k_is); (case l => k_is); (case c => k_is); (case k => k_is)
    have A_minus : Kt.At (Kt.kOf KX) mg "minus" K0.s_minus := by
      unfold Kt.kOf
      refine' Kt.at_mk KX G ?a ?l ?c ?k
      (case a => k_is); (case l => k_is); (case c => k_is); (case k => k_is)
    have A_times : Kt.At (Kt.kOf KX) mg "times" K0.s_times := by
      unfold Kt.kOf
      refine' Kt.at_mk KX G ?a ?l ?c ?k
      (case a => k_is); (case l => k_is); (case c => k_is); (case k => k_is)
    have A_through : Kt.At (Kt.kOf KX) mg "through" K0.s_through := by
      unfold Kt.kOf
      refine' Kt.at_mk KX G ?a ?l ?c ?k
      (case a => k_is); (case l => k_is); (case c => k_is); (case k => k_is)
    have A_less : Kt.At (Kt.kOf KX) mg "less" K0.s_less := by
      unfold Kt.kOf
      refine' Kt.at_mk KX G ?a ?l ?c ?k
      (case a => k_is); (case l => k_is); (case c => k_is); (case k => k_is)
    have A__law_open : Kt.At (Kt.kOf KX) mg "_law_open" K0.s__law_open := by
      unfold Kt.kOf
      refine' Kt.at_mk KX G ?a ?l ?c ?k
      (case a => k_is); (case l => k_is); (case c => k_is); (case k => k_is)
    have A__law_mixed : Kt.At (Kt.kOf KX) mg "_law_mixed" K0.s__law_mixed := by
      unfold Kt.kOf
      refine' Kt.at_mk KX G ?a ?l ?c ?k
      (case a => k_is); (case l => k_is); (case c => k_is); (case k => k_is)
    have A__law_draw : Kt.At (Kt.kOf KX) mg "_law_draw" K0.s__law_draw := by
      unfold Kt.kOf
      refine' Kt.at_mk KX G ?a ?l ?c ?k
      (case a => k_is); (case l => k_is); (case c => k_is); (case k => k_is)
    have A__law_wide : Kt.At (Kt.kOf KX) mg "_law_wide" K0.s__law_wide := by
      unfold Kt.kOf
      refine' Kt.at_mk KX G ?a ?l ?c ?k
      (case a => k_is); (case l => k_is); (case c => k_is); (case k => k_is)
    have A__law_told : Kt.At (Kt.kOf KX) mg "_law_told" K0.s__law_told := by
      unfold Kt.kOf
      refine' Kt.at_mk KX G ?a ?l ?c ?k
      (case a => k_is); (case l => k_is); (case c => k_is); (case k => k_is)
    have A__law_number : Kt.At (Kt.kOf KX) mg "_law_number" K0.s__law_number := by
      unfold Kt.kOf
      refine' Kt.at_mk KX G ?a ?l ?c ?k
      (case a => k_is); (case l => k_is); (case c => k_is); (case k => k_is)
    have A__law_lowest : Kt.At (Kt.kOf KX) mg "_law_lowest" K0.s__law_lowest := by
      unfold Kt.kOf
      refine' Kt.at_mk KX G ?a ?l ?c ?k
      (case a => k_is); (case l => k_is); (case c => k_is); (case k => k_is)
    have A__law_is : Kt.At (Kt.kOf KX) mg "_law_is" K0.s__law_is := by
      unfold Kt.kOf
      refine' Kt.at_mk KX G ?a ?l ?c ?k
      (case a => k_is); (case l => k_is); (case c => k_is); (case k => k_is)
    have A__law_made : Kt.At (Kt.kOf KX) mg "_law_made" K0.s__law_made := by
      unfold Kt.kOf
      refine' Kt.at_mk KX G ?a ?l ?c ?k
      (case a => k_is); (case l => k_is); (case c => k_is); (case k => k_is)
    have A__law_through : Kt.At (Kt.kOf KX) mg "_law_through" K0.s__law_through := by
      unfold Kt.kOf
      refine' Kt.at_mk KX G ?a ?l ?c ?k
      (case a => k_is); (case l => k_is); (case c => k_is); (case k => k_is)
    have A__law_sums : Kt.At (Kt.kOf KX) mg "_law_sums" K0.s__law_sums := by
      unfold Kt.kOf
      refine' Kt.at_mk KX G ?a ?l ?c ?k
      (case a => k_is); (case l => k_is); (case c => k_is); (case k => k_is)
    have A__law_kinds : Kt.At (Kt.kOf KX) mg "_law_kinds" K0.s__law_kinds := by
      unfold Kt.kOf
      refine' Kt.at_mk KX G ?a ?l ?c ?k
      (case a => k_is); (case l => k_is); (case c => k_is); (case k => k_is)
    have A_law : Kt.At (Kt.kOf KX) mg "law" K0.s_law := by
      unfold Kt.kOf
      refine' Kt.at_mk KX G ?a ?l ?c ?k
      (case a => k_is); (case l => k_is); (case c => k_is); (case k => k_is)
    have eE : ∃ OR, Kt.ExcAt (Kt.kOf KX) mg "OutOfRange" OR ∧ ∃ MA, Kt.ExcAt (Kt.kOf KX) mg "Malformed" MA ∧ ∃ NT, Kt.ExcAt (Kt.kOf KX) mg "NotThere" NT ∧ ∃ RE, Kt.ExcAt (Kt.kOf KX) mg "Refused" RE ∧ ∃ TM, Kt.ExcAt (Kt.kOf KX) mg "TooMuch" TM ∧ ∃ DE, Kt.ExcAt (Kt.kOf KX) mg "DocketError" DE ∧ PySem.W.subIn (Kt.kOf KX) (.ref OR) (.ref DE) = some true ∧ PySem.W.kitOne (Kt.kOf KX) (.ref OR) (.ref MA) = some false ∧ PySem.W.kitOne (Kt.kOf KX) (.ref OR) (.ref NT) = some false ∧ PySem.W.kitOne (Kt.kOf KX) (.ref OR) (.ref RE) = some false ∧ PySem.W.kitOne (Kt.kOf KX) (.ref OR) (.ref TM) = some false ∧ PySem.W.kitOne (Kt.kOf KX) (.ref MA) (.ref OR) = some false ∧ PySem.W.kitOne (Kt.kOf KX) (.ref MA) (.ref NT) = some false ∧ PySem.W.kitOne (Kt.kOf KX) (.ref MA) (.ref RE) = some false ∧ PySem.W.kitOne (Kt.kOf KX) (.ref MA) (.ref TM) = some false ∧ PySem.W.kitOne (Kt.kOf KX) (.ref NT) (.ref OR) = some false ∧ PySem.W.kitOne (Kt.kOf KX) (.ref NT) (.ref MA) = some false ∧ PySem.W.kitOne (Kt.kOf KX) (.ref NT) (.ref RE) = some false ∧ PySem.W.kitOne (Kt.kOf KX) (.ref NT) (.ref TM) = some false ∧ PySem.W.kitOne (Kt.kOf KX) (.ref RE) (.ref OR) = some false ∧ PySem.W.kitOne (Kt.kOf KX) (.ref RE) (.ref MA) = some false ∧ PySem.W.kitOne (Kt.kOf KX) (.ref RE) (.ref NT) = some false ∧ PySem.W.kitOne (Kt.kOf KX) (.ref RE) (.ref TM) = some false ∧ PySem.W.kitOne (Kt.kOf KX) (.ref TM) (.ref OR) = some false ∧ PySem.W.kitOne (Kt.kOf KX) (.ref TM) (.ref MA) = some false ∧ PySem.W.kitOne (Kt.kOf KX) (.ref TM) (.ref NT) = some false ∧ PySem.W.kitOne (Kt.kOf KX) (.ref TM) (.ref RE) = some false ∧ PySem.W.kitOne (Kt.kOf KX) (.ref OR) (.type "ValueError") = some true ∧ PySem.W.kitOne (Kt.kOf KX) (.ref MA) (.type "ValueError") = some true ∧ PySem.W.kitOne (Kt.kOf KX) (.ref NT) (.type "ValueError") = some true ∧ PySem.W.kitOne (Kt.kOf KX) (.ref RE) (.type "ValueError") = some true ∧ PySem.W.kitOne (Kt.kOf KX) (.ref TM) (.type "ValueError") = some true := by
      unfold Kt.kOf
      refine' Kt.ex_mk ⟨Kt.exc_mk KX G ?a0 ?q0 ?k0 ?b0 ?t0 ?g0_0 ?g0_1 ?g0_2 ?g0_3 ?g0_4 ?g0_5 ?g0_6, Kt.ex_mk ⟨Kt.exc_mk KX G ?a1 ?q1 ?k1 ?b1 ?t1 ?g1_0 ?g1_1 ?g1_2 ?g1_3 ?g1_4 ?g1_5 ?g1_6, Kt.ex_mk ⟨Kt.exc_mk KX G ?a2 ?q2 ?k2 ?b2 ?t2 ?g2_0 ?g2_1 ?g2_2 ?g2_3 ?g2_4 ?g2_5 ?g2_6, Kt.ex_mk ⟨Kt.exc_mk KX G ?a3 ?q3 ?k3 ?b3 ?t3 ?g3_0 ?g3_1 ?g3_2 ?g3_3 ?g3_4 ?g3_5 ?g3_6, Kt.ex_mk ⟨Kt.exc_mk KX G ?a4 ?q4 ?k4 ?b4 ?t4 ?g4_0 ?g4_1 ?g4_2 ?g4_3 ?g4_4 ?g4_5 ?g4_6, Kt.ex_mk ⟨Kt.exc_mk KX G ?a5 ?q5 ?k5 ?b5 ?t5 ?g5_0 ?g5_1 ?g5_2 ?g5_3 ?g5_4 ?g5_5 ?g5_6, ⟨?up, ?kt0, ?kt1, ?kt2, ?kt3, ?kt4, ?kt5, ?kt6, ?kt7, ?kt8, ?kt9, ?kt10, ?kt11, ?kt12, ?kt13, ?kt14, ?kt15, ?kt16, ?kt17, ?kt18, ?kt19, ?kt20, ?kt21, ?kt22, ?kt23, ?kt24⟩⟩⟩⟩⟩⟩⟩
      (case a0 => k_is); (case a1 => k_is); (case a2 => k_is); (case a3 => k_is); (case a4 => k_is); (case a5 => k_is)
      (case q0 => k_exc); (case k0 => k_is); (case b0 => k_is); (case t0 => k_is); (case g0_0 => k_is); (case g0_1 => k_is); (case g0_2 => k_is); (case g0_3 => k_is); (case g0_4 => k_is); (case g0_5 => k_is); (case g0_6 => k_is)
      (case q1 => k_exc); (case k1 => k_is); (case b1 => k_is); (case t1 => k_is); (case g1_0 => k_is); (case g1_1 => k_is); (case g1_2 => k_is); (case g1_3 => k_is); (case g1_4 => k_is); (case g1_5 => k_is); (case g1_6 => k_is)
      (case q2 => k_exc); (case k2 => k_is); (case b2 => k_is); (case t2 => k_is); (case g2_0 => k_is); (case g2_1 => k_is); (case g2_2 => k_is); (case g2_3 => k_is); (case g2_4 => k_is); (case g2_5 => k_is); (case g2_6 => k_is)
      (case q3 => k_exc); (case k3 => k_is); (case b3 => k_is); (case t3 => k_is); (case g3_0 => k_is); (case g3_1 => k_is); (case g3_2 => k_is); (case g3_3 => k_is); (case g3_4 => k_is); (case g3_5 => k_is); (case g3_6 => k_is)
      (case q4 => k_exc); (case k4 => k_is); (case b4 => k_is); (case t4 => k_is); (case g4_0 => k_is); (case g4_1 => k_is); (case g4_2 => k_is); (case g4_3 => k_is); (case g4_4 => k_is); (case g4_5 => k_is); (case g4_6 => k_is)
      (case q5 => k_exc); (case k5 => k_is); (case b5 => k_is); (case t5 => k_is); (case g5_0 => k_is); (case g5_1 => k_is); (case g5_2 => k_is); (case g5_3 => k_is); (case g5_4 => k_is); (case g5_5 => k_is); (case g5_6 => k_is)
      (case up => k_is)
      (case kt0 => first | kit_is | k_is)
      (case kt1 => first | kit_is | k_is)
      (case kt2 => first | kit_is | k_is)
      (case kt3 => first | kit_is | k_is)
      (case kt4 => first | kit_is | k_is)
      (case kt5 => first | kit_is | k_is)
      (case kt6 => first | kit_is | k_is)
      (case kt7 => first | kit_is | k_is)
      (case kt8 => first | kit_is | k_is)
      (case kt9 => first | kit_is | k_is)
      (case kt10 => first | kit_is | k_is)
      (case kt11 => first | kit_is | k_is)
      (case kt12 => first | kit_is | k_is)
      (case kt13 => first | kit_is | k_is)
      (case kt14 => first | kit_is | k_is)
      (case kt15 => first | kit_is | k_is)
      (case kt16 => first | kit_is | k_is)
      (case kt17 => first | kit_is | k_is)
      (case kt18 => first | kit_is | k_is)
      (case kt19 => first | kit_is | k_is)
      (case kt20 => first | kit_is | k_is)
      (case kt21 => first | kit_is | k_is)
      (case kt22 => first | kit_is | k_is)
      (case kt23 => first | kit_is | k_is)
      (case kt24 => first | kit_is | k_is)
    obtain ⟨OR, eOR, MA, eMA, NT, eNT, RE, eRE, TM, eTM, DE, eD, up, kit⟩ := eE
    have g_gcd : mg "gcd" = some (.builtin "math.gcd") := by
      refine' PySem.W.mg_of KX G ?a
      (case a => k_is)
    have g_GREATEST : ∃ t, mg "GREATEST" = some (.int (10 ^ 60) t) := by
      refine' Kt.int_mk KX G ?a
      (case a => k_is)
    have b_type : mg "type" = none := by
      refine' PySem.W.mg_none_of KX G ?a
      (case a => k_is)
    have b_int : mg "int" = none := by
      refine' PySem.W.mg_none_of KX G ?a
      (case a => k_is)
    have b_tuple : mg "tuple" = none := by
      refine' PySem.W.mg_none_of KX G ?a
      (case a => k_is)
    have b_len : mg "len" = none := by
      refine' PySem.W.mg_none_of KX G ?a
      (case a => k_is)
    have b_range : mg "range" = none := by
      refine' PySem.W.mg_none_of KX G ?a
      (case a => k_is)
    have b_isinstance : mg "isinstance" = none := by
      refine' PySem.W.mg_none_of KX G ?a
      (case a => k_is)
    have b_ValueError : mg "ValueError" = none := by
      refine' PySem.W.mg_none_of KX G ?a
      (case a => k_is)
    have b_abs : mg "abs" = none := by
      refine' PySem.W.mg_none_of KX G ?a
      (case a => k_is)
    have b_bool : mg "bool" = none := by
      refine' PySem.W.mg_none_of KX G ?a
      (case a => k_is)
    have T : K0.Txt (Kt.kOf KX) mg OR MA NT RE TM := by
      exact ⟨b_type, b_int, b_tuple, b_len, b_range, b_isinstance, b_ValueError, b_abs, b_bool, A_is_number, A_is_tuple, A_is_fraction, A_lowest, A_made, A_plus, A_minus, A_times, A_through, A_less, A__law_open, A__law_mixed, A__law_draw, A__law_wide, A__law_told, A__law_number, A__law_lowest, A__law_is, A__law_made, A__law_through, A__law_sums, A__law_kinds, A_law, eOR, eMA, eNT, eRE, eTM, ⟨DE, eD, up⟩, kit, g_gcd, g_GREATEST⟩
    exact Kt.law_end T.d_law K0.bi_law hmg fun base => K0.ok_law (base := base) T
