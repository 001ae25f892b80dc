import PyProof.Rows.All
import Wide.All
import OpenK.AllK
import Wide.FinOn
import HandS.ForMost
import HandS.Wide
import HandS.Rev
import HandS.Ends
import HandS.ExcValue
import HandS.ForExc
import HandS.WideMore
import HandS.More
import HandS.Style
import HandS.IsInst
import HandS.ExcIs
import HandS.TryMany
import HandS.NoneIn
import HandS.EndBits
import HandS.Flow
import HandS.Conv
import HandS.Evl
import PyProof.Seq
import PyProof.Rows.TupIter
import HandS.Base
import HandS.Call
import HandS.Comp
import HandS.Exc
import HandS.ExcOwn
import HandS.ExcCtx
import HandS.Hot
import HandS.HotCalls
import HandS.GenList
import HandS.AnyAll
import HandS.Walk
import HandS.EndTab
import KE.KNestM
import HandS.EndOwn
import HandS.TupAny
import HandS.Sort
import HandS.SortInts
import HandS.Lambda
import HandS.Zip
import HandS.Gcd
import KE.OsSort
import HandS.TryOnly
import PyProof.StrBlock2
import KE.GoesEnum
import KE.GoesZip
import KE.GoesMore
import HandS.List
import KE.KSortKey
import HandS.SortOrd
import HandS.SortKw
import HandS.SortRule
import HandS.Dict
import HandS.DictComp
import KE.SortData
import HandS.ExcBuiltin
import PySem.Challenge.RW_docketloom_k52_greatest_burdens
set_option Elab.async false
set_option linter.all false
set_option maxRecDepth 100000
set_option maxHeartbeats 4000000
/-! list(reversed(xs)): a new list -/
namespace Rx
open PySem PySem.Spec PyProof.Rows L2 RT
section
variable {prog : Program} {w : World} {A : Around} {E : Value → Shared → Prop} {s : Shared}
theorem grow_rev {G : Result → Shared → Prop} {r l : Addr} {zs : Array Value} (hn0 : A.handled = none) (hr : s.heap.IsRevIter r l ((zs.size : Int) - 1)) (hL : s.heap.IsList l zs) (hd : l ≠ r) (hz : zs.size ≤ sizeLine)
    (D : Addr) (out : Value) (c₀ : Nat) (hD : s.heap.get? D = some { cls := .type "list", data := .seq #[] c₀ }) (hDl : D ≠ l)
    (fin : ∀ g tk acc c1, (∀ b o, b ≠ D → b ≠ r → s.heap.get? b = some o → g.get? b = some o) → g.get? D = some { cls := .type "list", dict := none, data := .seq acc c1, slots := #[] } →
      ItemsOf (fun i v => zs[zs.size - 1 - i]? = some v) acc zs.size → G (.ok (.ret out)) { s with heap := g, toks := tk }) :
    wpAny (model prog w) A.in1 (Builtin.List.listExtendWith (.ref D) (.ref r) out)
      (fun z t => match z with | .done f => G (.ok f) t | .again c => c.quiet = true ∧ codeAny (model prog w) A c G t) (fun e t => G (.error e) t) s := by
  have V := (Walks.listRev (prog := prog) (w := w) (A := A.in1) hn0 r l hd zs).toS
  have hDr : D ≠ r := fun q => by
    obtain ⟨o, ho, hc, _⟩ := id hr
    rw [q, ho] at hD
    rw [Option.some.inj hD] at hc
    simp at hc
  have hout : D ∉ [r, l] := by
    intro hm
    rcases List.mem_cons.mp hm with q | q
    · exact hDr q
    · exact hDl (List.mem_singleton.mp q)
  have hT : s.TypeIs (.ref r) "list_reverseiterator" := hr.typeIs
  have hsame : Builtin.List.listSameRef (.ref D) (.ref r) = false := by simp [Builtin.List.listSameRef, hDr]
  unfold Builtin.List.listExtendWith
  refine wpAny_bind (wpAny_typeOf hT ?_)
  rw [if_neg (by rw [hsame]; decide)]
  refine wpAny_bind (wpAny_pyIter_revIter hr ?_)
  refine wpAny_bind (wpAny_holding ?_)
  unfold Builtin.List.listLengthHint
  refine wpAny_bind (wpAny_specialOf hT nolen_lri ?_)
  show wpAny _ A.in1 (specialOf (Value.ref r) (Str.ofString "__length_hint__") >>= _) _ _ s
  refine wpAny_bind (wpAny_specialOf hT hint_lri ?_)
  generalize hq : ("list_reverseiterator.__length_hint__" : String) = nm
  wp_delta
  rw [show splitId nm = some ("list_reverseiterator", "__length_hint__") from by subst hq; decide +kernel]
  subst hq
  refine wpAny_bind (wpAny_isInstance (b := true) hT (by rw [isSubtype_type]; kernel_rfl) ?_)
  refine wpAny_pure ?_
  rw [if_neg (by decide)]
  have z0 : ((zs.size : Nat) : Int) - 1 - ((0 : Nat) : Int) = (zs.size : Int) - 1 := by omega
  refine wpAny_pure ⟨plainId_quiet F.plain_extend_loop _, codeAny_extend_loopS V hz D hout out zs.size 0 _ _ _ rfl (Nat.zero_le _) ⟨Nat.zero_le _, by rw [z0]; exact hr, hL⟩ hD (ItemsOf.nil _) fun t acc c1 mv hD1 hacc => ?_⟩
  rw [Moved.eq_with mv]
  refine fin t.heap t.toks acc c1 (fun b o hb hbr e => mv.heap b o (fun hm => ?_) e) hD1 hacc
  rcases List.mem_cons.mp hm with q | q
  · exact hb q
  · exact hbr (List.mem_singleton.mp q)
theorem fill_rev {G : Result → Shared → Prop} {r l : Addr} {zs : Array Value} (hn0 : A.handled = none) (hr : s.heap.IsRevIter r l ((zs.size : Int) - 1)) (hL : s.heap.IsList l zs) (hd : l ≠ r) (hz : zs.size ≤ sizeLine)
    (D : Addr) (hD : s.heap.get? D = some { cls := .type "list", data := .seq #[] }) (hDl : D ≠ l) (hDr : D ≠ r)
    (fin : ∀ g tk acc c1, (∀ b o, b ≠ D → b ≠ r → s.heap.get? b = some o → g.get? b = some o) → g.get? D = some { cls := .type "list", dict := none, data := .seq acc c1, slots := #[] } →
      ItemsOf (fun i v => zs[zs.size - 1 - i]? = some v) acc zs.size → G (.ok (.ret .none)) { s with heap := g, toks := tk }) :
    wpAny (model prog w) A.in1 (Builtin.«list.__init__» ⟨[.ref D, .ref r], []⟩)
      (fun z t => match z with | .done f => G (.ok f) t | .again c => c.quiet = true ∧ codeAny (model prog w) A c G t) (fun e t => G (.error e) t) s := by
  show wpAny _ _ (do
    let was ← Builtin.List.listItems (.ref D)
    Builtin.List.listUpdate (.ref D) (fun _ => #[])
    letGo was.toList.reverse
    Builtin.List.listExtendWith (.ref D) (.ref r) .none) _ _ s
  refine wpAny_bind ?_
  unfold Builtin.List.listItems
  refine wpAny_bind (wpAny_seqItems hD rfl (wpAny_pure ?_))
  show wpAny _ _ (updateSeq D (fun _ => #[]) >>= fun _ => letGo (#[] : Array Value).toList.reverse >>= fun _ =>
    Builtin.List.listExtendWith (.ref D) (.ref r) .none) _ _ s
  refine wpAny_bind (wpAny_updateSeq hD rfl ?_)
  have hD2 := Heap.get?_update_self (Obj.mapSeq (fun _ => (#[] : Array Value))) hD rfl
  have kp : ∀ b o, b ≠ D → s.heap.get? b = some o → (s.heap.update D (Obj.mapSeq fun _ => (#[] : Array Value))).get? b = some o := fun b o hb e =>
    (Heap.get?_update_other _ _ (Ne.symm hb)).trans e
  refine wpAny_bind (wpAny_letGo ?_)
  refine grow_rev hn0 (hr.at fun o e => kp r o hDr.symm e) (hL.at fun o e => kp l o hDl.symm e) hd hz D .none _ hD2 hDl fun g tk acc c1 hk hD1 hacc => ?_
  exact fin g tk acc c1 (fun b o hb hbr e => hk b o hb hbr (kp b o hb e)) hD1 hacc
theorem call_list_rev {Q : Value → Shared → Prop} {r l : Addr} {zs : Array Value} (hn0 : A.handled = none) (hr : s.heap.IsRevIter r l ((zs.size : Int) - 1)) (hL : s.heap.IsList l zs) (hd : l ≠ r) (hz : zs.size ≤ sizeLine)
    (fin : ∀ g tk acc c1, (∀ b o, b ≠ r → s.heap.get? b = some o → g.get? b = some o) → g.get? s.heap.objs.size = some { cls := .type "list", dict := none, data := .seq acc c1, slots := #[] } →
      ItemsOf (fun i v => zs[zs.size - 1 - i]? = some v) acc zs.size → Q (.ref s.heap.objs.size) { s with heap := g, toks := tk }) :
    wpAny (model prog w) A (call (.type "list") [.ref r]) Q E s := by
  refine callType_codes (Q₁ := fun ob t => ob = .ref s.heap.objs.size ∧ t = { s with heap := s.heap.push { cls := .type "list", data := .seq #[] } }) F.called_list (F.typeCall_list_1 _) F.entry_list_init
    (code_list_new _ ⟨rfl, rfl⟩) fun ob t ht => ?_
  obtain ⟨rfl, rfl⟩ := ht
  obtain ⟨o1, ho1, _⟩ := id hr
  obtain ⟨o2, ho2, _⟩ := id hL
  have hD : (s.heap.push { cls := .type "list", data := .seq #[] }).get? s.heap.objs.size = some { cls := .type "list", data := .seq #[] } := Heap.get?_push_size _ rfl
  refine ⟨⟨_, hD, rfl⟩, F.args_list_init_2 _ _, fill_rev (A := A.in1) hn0 (hr.at fun o e => Heap.get?_push_of_some _ e) (hL.push _) hd hz _ hD (Nat.ne_of_gt (Heap.lt_size ho2)) (Nat.ne_of_gt (Heap.lt_size ho1)) fun g tk acc c1 hk hD1 hacc => ?_⟩
  exact ⟨rfl, fin g tk acc c1 (fun b o hbr e => hk b o (Nat.ne_of_lt (Heap.lt_size e)) hbr (Heap.get?_push_of_some _ e)) hD1 hacc⟩
end
/-- list(reversed(x)), x a list: what is wanted -/
def tLR (K : PySem.W.Frag) (te : TE) : TE := fun σ H Q => te σ H fun v H1 => ∃ (a : Addr) (xs : List V), v = .ref a ∧ SqL K H1 a xs ∧ ∀ q, H1 q = none → Q (.ref q) (upd H1 q (.lst xs.reverse))
section
variable {X : Cx}
theorem pe_listRev {e : Expr} {te : TE} {p p2 pos pos2 : Pos} (hc : X.calm = true) (hg : Gl X "list") (hm : X.mg "list" = none) (hg2 : Gl X "reversed") (hm2 : X.mg "reversed" = none) (he : PE X e te)
    (hs : starEach [e] X.env = (false, eval e X.env) :: starEach [] X.env := by rfl)
    (hs2 : starEach [.Call (.Name "reversed" p2) [e] [] pos2] X.env = (false, eval (.Call (.Name "reversed" p2) [e] [] pos2) X.env) :: starEach [] X.env := by rfl) :
    PE X (.Call (.Name "list" p) [.Call (.Name "reversed" p2) [e] [] pos2] [] pos) (tLR X.K te) := by
  refine ⟨fun pins s σ H Q I h => ?_⟩
  refine Call_ (ld_blt I hg hm PyProof.Rows.boot_list (PyProof.Rows.callWith_type1 (args_cons (Call_ (ld_blt I hg2 hm2 PyProof.Rows.boot_reversed
    (PyProof.Rows.callWith_type1 (args_cons (thn (he.run pins s σ H _ I h) fun u s1 ⟨v, H1, I1, r1, q1⟩ => args_nil ?_) hs) hs rfl))) hs2) hs2 rfl))
  obtain ⟨a, xs, ev, hq, q⟩ := q1
  subst ev
  obtain rfl : u = Value.ref a := r1
  obtain ⟨its, rv, pl, hz⟩ := I1.list hq
  refine call_reversed_list pl.isList (args_nil ?_)
  have k0 : ∀ b o, s1.heap.get? b = some o → (s1.heap.push (revObj a ((its.toArray.size : Int) - 1))).get? b = some o := fun b o e => Heap.get?_push_of_some _ e
  have J : Inv X pins σ H1 { s1 with heap := s1.heap.push (revObj a ((its.toArray.size : Int) - 1)) } := I1.kept (t' := s1.toks) k0
  obtain ⟨f0, f1, f2, f3, f4, f5⟩ := I1.fpOk (H' := H1) (b := s1.heap.objs.size) (Nat.le_refl _) (I1.hok.fresh (Nat.le_refl _))
  have hl := pl.isList
  obtain ⟨ol, hol, _⟩ := id hl
  have hne : a ≠ s1.heap.objs.size := Nat.ne_of_lt (Heap.lt_size hol)
  have hn : its.toArray.size ≤ sizeLine := by
    rw [List.size_toArray, ← rv.length]
    exact hz
  refine call_list_rev (s := { s1 with heap := s1.heap.push (revObj a ((its.toArray.size : Int) - 1)) }) (I1.ok.hd hc) ⟨_, Heap.get?_push_size _ rfl, rfl, rfl⟩ (hl.push _) hne hn fun g tk acc c1 hk hg1 hi => ?_
  obtain ⟨g2, e1, e2⟩ := restrict g fun b => decide (b ≠ (s1.heap.push (revObj a ((its.toArray.size : Int) - 1))).objs.size)
  have eD := e2 _ (decide_eq_false fun z => z rfl)
  have up : ∀ b o, g2.get? b = some o → g.get? b = some o := fun b o e => by
    by_cases q : b = (s1.heap.push (revObj a ((its.toArray.size : Int) - 1))).objs.size
    · rw [q, eD] at e
      cases e
    · rw [← e1 b (decide_eq_true q)]
      exact e
  have I3 : Inv X pins σ H1 { s1 with heap := g2, toks := tk } := J.turned (t' := tk) (fun b o hb e => by
    rw [e1 b (decide_eq_true (Nat.ne_of_lt (Heap.lt_size e)))]
    exact hk b o hb e) f0 f1 f3 f4 f5
  have hfree : H1 (s1.heap.push (revObj a ((its.toArray.size : Int) - 1))).objs.size = none := J.hok.fresh (Nat.le_refl _)
  exact ⟨.ref _, upd H1 _ (.lst xs.reverse), I3.laidN (t' := tk) up eD hfree (show ObjOk X.prog X.w _ _ _ (.lst xs.reverse) from ⟨by rw [List.length_reverse]; exact hz, acc.toList, c1, vals_rev rv hi, by rw [Array.toArray_toList]; exact hg1⟩), rfl, q _ hfree⟩
end
end Rx
/-! a def by its name, its promise by its name -/
namespace Kt
open PySem PySem.Spec PyProof.Rows L2
structure At (K : PySem.W.Frag) (mg : Str → Option Value) (x : Str) (st : Stmt) : Prop where
  ex : ∃ f fd, Fun K x x st f fd ∧ mg x = some (.ref f)
structure Prom (P : Program) (w : World) (K : PySem.W.Frag) (mg : Str → Option Value) (base : Heap) (CX : CXT) (k : Nat) (x : Str) (ps : List Str) (sp : Sp) : Prop where
  ex : ∃ f fd, mg x = some (.ref f) ∧ PySem.W.keepIn K (.ref f) = true ∧ Binds K fd ps [] ∧ FnOk P w K mg base CX k f fd ps sp ∧ ∃ st, Fun K x x st f fd
structure ExcAt (K : PySem.W.Frag) (mg : Str → Option Value) (x : Str) (C : Addr) : Prop where
  g : mg x = some (.ref C)
  x : PySem.W.excIn K C [.type "ValueError", .type "Exception", .type "BaseException", .type "object"] "ValueError.__new__" = true
  k : PySem.W.keepIn K (.ref C) = true
  b : PySem.W.subIn K (.ref C) (.type "BaseException") = some true
  t : PySem.W.typeIn K (.ref C) = some (.type "type")
  c : ExcC K C
section
variable {P : Program} {w : World} {K : PySem.W.Frag} {mg : Str → Option Value} {base : Heap} {x : Str} {st : Stmt} {N ps : List Str} {k : Nat} {sp : Sp}
abbrev BindH (st : Stmt) (x : Str) (ps : List Str) : Prop := ∀ (kV doc pm : Value) (an : Option Addr) (cdv ct : Value) (us : List Value), us.length = ps.length → bindArgs (PySem.W.fnOf x x (defArgs st) (defBody st) (defScope st) .none kV doc pm an cdv ct) ⟨us, []⟩ = pure (ps.zip us)
theorem At.ok (D : At K mg x st) (S : FnScope N ps (defScope st)) (hb : BindH st x ps) (len : ∀ vs H Q E, sp vs H Q E → vs.length = ps.length)
    (body : ∀ (f : Addr) (cdv : Value) (A : Around) (outer : List Env) (s : Shared) (H : Hp) (vs : List V) (Q : VK) (E : XK), Room k (A.deeper (envOfC x (defScope st) s.heap.objs.size f cdv)) → sp vs H Q E →
      ∃ t, PSs (cxOf CX0 P w K mg base N x (defScope st) f cdv A outer s H E).nox (defBody st) t ∧ t { nx := fun _ H' => Q .non H', rt := Q } (start N vs) H) : Prom P w K mg base CX0 (k + 1) x ps sp := by
  obtain ⟨f, fd, F, g⟩ := D.ex
  exact ⟨f, fd, g, F.kp, F.binds hb, F.ok S len (body f), _, F⟩
theorem At.okX (D : At K mg x st) (S : FnScope N ps (defScope st)) (hb : BindH st x ps) (len : ∀ vs H Q E, sp vs H Q E → vs.length = ps.length)
    (body : ∀ (f : Addr) (cdv : Value) (A : Around) (outer : List Env) (s : Shared) (H : Hp) (vs : List V) (Q : VK) (E : XK), Room k (A.deeper (envOfC x (defScope st) s.heap.objs.size f cdv)) → sp vs H Q E →
      ∃ t, PSs (cxOf (L2.CX P w) P w K mg base N x (defScope st) f cdv A outer s H E) (defBody st) t ∧ t { nx := fun _ H' => Q .non H', rt := Q } (start N vs) H) : Prom P w K mg base (L2.CX P w) (k + 1) x ps sp := by
  obtain ⟨f, fd, F, g⟩ := D.ex
  exact ⟨f, fd, g, F.kp, F.binds hb, F.okX S len (body f), _, F⟩
theorem at_mk {h : Heap} {f : Addr} {oc : Value} {od an : Option Addr} {osl : Array (Option Value)} {kV doc pm cdv ct : Value} (X : K.In h) (G : h.Ns mainGlobals mg) (a : PySem.W.nsIn K mainGlobals x = some (some (.ref f)))
    (l : K.lookup f = some ⟨oc, od, .func (PySem.W.fnOf x x (defArgs st) (defBody st) (defScope st) .none kV doc pm an cdv ct), osl⟩) (c : PySem.W.codeIn K cdv x = true) (k : PySem.W.keepIn K (.ref f) = true) : At K mg x st :=
  ⟨f, _, fun_mk l c k, PySem.W.mg_of X G a⟩
end
section
variable {X : Cx} {CX : CXT} {j k : Nat} {x : Str} {ps : List Str} {sp : Sp} {E : XK} {W : WX} {p pos : Pos} {e : Expr} {es : List Expr} {t : TA}
/-- a call of a def that raises nothing -/
theorem pcall (hr : Room k X.A) (F : Prom X.prog X.w X.K X.mg X.base CX0 j x ps sp) (ha : PA X (e :: es) t) (hg : Gl X x := by rfl) (hj : j ≤ k := by decide) (hdb : (x == ("__debug__" : Str)) = false := by decide)
    (he : starEach (e :: es) X.env = (false, eval e X.env) :: starEach es X.env := by rfl) (hpl : (backTo pos (starEach es X.env)).any (·.1) = false := by rfl) : PE X (.Call (.Name x p) (e :: es) [] pos) (tCall sp [] E0 t) := by
  obtain ⟨f, fd, g, kp, b, G, _⟩ := F.ex
  exact pe_call G (hr.mono hj) hg g kp b .nil pass0 ha hdb he hpl
/-- a call of a def that may raise, here it does not -/
theorem pcallN (hr : Room k X.A) (F : Prom X.prog X.w X.K X.mg X.base (L2.CX X.prog X.w) j x ps sp) (ha : PA X (e :: es) t) (hg : Gl X x := by rfl) (hj : j ≤ k := by decide) (hdb : (x == ("__debug__" : Str)) = false := by decide)
    (he : starEach (e :: es) X.env = (false, eval e X.env) :: starEach es X.env := by rfl) (hpl : (backTo pos (starEach es X.env)).any (·.1) = false := by rfl) : PE X (.Call (.Name x p) (e :: es) [] pos) (tCall sp [] E0 t) := by
  obtain ⟨f, fd, g, kp, b, G, _⟩ := F.ex
  exact pe_call G (hr.mono hj) hg g kp b .nil passL ha hdb he hpl
/-- a call of a def that may raise, within a def that may, or in a try: what is raised is wished at the slots -/
theorem pcallX (hr : Room k X.A) (F : Prom X.prog X.w X.K X.mg X.base (L2.CX X.prog X.w) j x ps sp) (tk : Takes X W) (ha : PA X (e :: es) t) (hg : Gl X x := by rfl) (hj : j ≤ k := by decide) (hdb : (x == ("__debug__" : Str)) = false := by decide)
    (he : starEach (e :: es) X.env = (false, eval e X.env) :: starEach es X.env := by rfl) (hpl : (backTo pos (starEach es X.env)).any (·.1) = false := by rfl) : PE X (.Call (.Name x p) (e :: es) [] pos) (tCallS sp (WE W) t) := by
  obtain ⟨f, fd, g, kp, b, G, _⟩ := F.ex
  exact pe_callS G (hr.mono hj) hg g kp b (fun σ => passAt tk σ) ha hdb he hpl
end
theorem pe_gi {X : Cx} {x : Str} {n : Int} {t : Tok} {pos : Pos} (hm : X.mg x = some (.int n t)) (hg : Gl X x := by rfl) (hdb : (x == ("__debug__" : Str)) = false := by decide) : PE X (.Name x pos) (tC (.int n)) := pe_glob (hd := hdb) hg hm ⟨_, rfl⟩
/-- what a def of one's own frame lets out -/
abbrev wOut (E : XK) : WX := fun cls d _ H => E cls d H
end Kt
namespace Kt
open PySem PySem.Spec PyProof.Rows L2
/-- a promise that is never asked -/
theorem At.never {P : Program} {w : World} {K : PySem.W.Frag} {mg : Str → Option Value} {base : Heap} {x : Str} {st : Stmt} {ps : List Str} {CX : CXT} (D : At K mg x st) (hb : BindH st x ps) : Prom P w K mg base CX 0 x ps (fun _ _ _ _ => False) := by
  obtain ⟨f, fd, F, g⟩ := D.ex
  exact ⟨f, fd, g, F.kp, F.binds hb, ⟨fun _ _ _ _ z => z.elim, fun _ _ _ _ _ _ _ _ _ _ _ _ _ z => z.elim⟩, _, F⟩
/-- a turn of a comprehension without a test -/
theorem lcy {σ : L2.St} {H : Hp} {A B : Bool → Hp → Prop} (h : A true H) : tYes σ H fun b H3 => if b = true then A b H3 else B b H3 := by
  show (if true = true then A true H else B true H)
  rw [if_pos rfl]
  exact h
/-- a comprehension over a range with a step -/
theorem lc_rngC {lo c : Int} {n : Nat} {g : TG} {tt : TT} {te : TE} {vs : List Nat} {σ : L2.St} {H1 : Hp} {D : Addr} {Qd : Hp → Prop} (Pv : Nat → Hp → Prop) (start : Pv 0 (upd H1 D (.lst [])))
    (turn : ∀ i H, i < n → Pv i H → g (.int (lo + (i : Nat) * c)) (wipe σ vs) H fun σ2 H2 => wipe σ2 vs = wipe σ vs ∧ tt σ2 H2 fun b H3 =>
      if b = true then te σ2 H3 fun y H4 => ∃ acc, H4 D = some (.lst acc) ∧ acc.length < sizeLine ∧ Pv (i + 1) (upd H4 D (.lst (acc ++ [y]))) else Pv (i + 1) H3) (fin : ∀ H, Pv n H → Qd H) :
    ∃ W : Nat → Nat → Hp → Prop, (∃ m, W 0 m (upd H1 D (.lst []))) ∧ ∀ i m H, W i m H →
      ((Itc lo c n).stop i H ∧ Qd H) ∨ ((Itc lo c n).go i H ∧ ∃ Nx : Hp → Prop, (∀ H', Nx H' → ∃ m', m' < m ∧ W (i + 1) m' H') ∧ ∀ x H', (Itc lo c n).yld i H x H' → g x (wipe σ vs) H' fun σ2 H2 => wipe σ2 vs = wipe σ vs ∧ tt σ2 H2 fun b H3 =>
        if b = true then te σ2 H3 fun y H4 => ∃ acc, H4 D = some (.lst acc) ∧ acc.length < sizeLine ∧ Nx (upd H4 D (.lst (acc ++ [y]))) else Nx H3) := by
  refine ⟨fun j k G => k = n - j ∧ j ≤ n ∧ Pv j G, ⟨n, by simp, Nat.zero_le _, start⟩, ?_⟩
  rintro j k G ⟨rfl, hj, pj⟩
  by_cases lt : j < n
  · refine .inr ⟨lt, Pv (j + 1), fun G' p' => ⟨n - (j + 1), by omega, rfl, lt, p'⟩, fun v G' yy => ?_⟩
    obtain ⟨e1, e2⟩ := yy
    subst e1 e2
    exact turn j _ lt pj
  · have ej : j = n := by omega
    subst ej
    exact .inl ⟨Nat.le_refl _, fin G pj⟩
/-- range(0, y, c) -/
theorem rgc {y c : Int} (h0 : 0 ≤ y) (h1 : y < 2 ^ 40) (c1 : 1 ≤ c) (c2 : c < 1000000000) : RgC 0 y c ((y + c - 1) / c).toNat := by
  have q := rangeSize_pos (len := y) (c := c) c1 h0
  have z : 0 ≤ (y + c - 1) / c := Int.ediv_nonneg (by omega) (by omega)
  have z2 : (y + c - 1) / c ≤ y + c - 1 := Int.ediv_le_self c (by omega)
  refine ⟨by omega, by omega, ?_, by rw [q]; omega⟩
  unfold Builtin.Range.small
  rw [q]
  simp only [Builtin.Range.rangeFitsLong, Bool.and_eq_true, Bool.or_eq_true, decide_eq_true_eq, beq_iff_eq]
  generalize (y + c - 1) / c = d at z z2
  rw [if_pos (show c > 0 by omega)]
  exact ⟨by omega, .inr (by rw [Bool.and_eq_true, decide_eq_true_eq, decide_eq_true_eq]; omega)⟩
/-! plain data -/
inductive Dd where
  | non | bl (b : Bool) | int (i : Int) | str (s : Str) | tup (xs : List Dd) | lst (xs : List Dd)
mutual
def Rep (H : Hp) : Dd → V → Prop
  | .non, v => v = .non
  | .bl b, v => v = .bl b
  | .int i, v => v = .int i
  | .str s, v => v = .str s
  | .tup ds, v => ds.length ≤ 1000000 ∧ ∃ a xs, v = .ref a ∧ H a = some (.tup xs) ∧ RepL H ds xs
  | .lst ds, v => ds.length ≤ 1000000 ∧ ∃ a xs, v = .ref a ∧ H a = some (.lst xs) ∧ RepL H ds xs
def RepL (H : Hp) : List Dd → List V → Prop
  | [], xs => xs = []
  | d :: ds, xs => ∃ v r, xs = v :: r ∧ Rep H d v ∧ RepL H ds r
end
mutual
def dep : Dd → Nat
  | .tup ds => depL ds + 1
  | .lst ds => depL ds + 1
  | _ => 0
def depL : List Dd → Nat
  | [] => 0
  | d :: ds => max (dep d) (depL ds)
end
theorem RepL.len {H : Hp} : ∀ {ds : List Dd} {xs : List V}, RepL H ds xs → xs.length = ds.length
  | [], xs, h => by
    unfold RepL at h
    subst h
    rfl
  | d :: ds, xs, h => by
    unfold RepL at h
    obtain ⟨v, r, rfl, _, h2⟩ := h
    rw [List.length_cons, List.length_cons, RepL.len h2]
theorem RepL.at {H : Hp} : ∀ {ds : List Dd} {xs : List V} (i : Nat), RepL H ds xs → i < ds.length → ∃ d v, ds[i]? = some d ∧ xs[i]? = some v ∧ Rep H d v ∧ dep d ≤ depL ds
  | [], _, _, _, hi => absurd hi (Nat.not_lt_zero _)
  | d :: ds, xs, i, h, hi => by
    unfold RepL at h
    obtain ⟨v, r, rfl, h1, h2⟩ := h
    cases i with
    | zero => exact ⟨d, v, rfl, rfl, h1, by unfold depL; exact Nat.le_max_left _ _⟩
    | succ i =>
      obtain ⟨d', v', e1, e2, h3, h4⟩ := RepL.at i h2 (by rw [List.length_cons] at hi; omega)
      exact ⟨d', v', e1, e2, h3, by unfold depL; exact Nat.le_trans h4 (Nat.le_max_right _ _)⟩
def Dd.ty : Dd → String
  | .non => "NoneType"
  | .bl _ => "bool"
  | .int _ => "int"
  | .str _ => "str"
  | .tup _ => "tuple"
  | .lst _ => "list"
def Dd.isTup : Dd → Bool
  | .tup _ => true
  | _ => false
def Dd.isLst : Dd → Bool
  | .lst _ => true
  | _ => false
def Dd.isBl : Dd → Bool
  | .bl _ => true
  | _ => false
def Dd.isInt : Dd → Bool
  | .bl _ => true
  | .int _ => true
  | _ => false
def Dd.isStr : Dd → Bool
  | .str _ => true
  | _ => false
theorem Rep.tyx {K : PySem.W.Frag} {H : Hp} {d : Dd} {v : V} (h : Rep H d v) : TyX K H v (.type d.ty) := by
  cases d with
  | non => unfold Rep at h; subst h; exact .base .non
  | bl b => unfold Rep at h; subst h; exact .base (.bl b)
  | int i => unfold Rep at h; subst h; exact .base (.int i)
  | str s => unfold Rep at h; subst h; exact .base (.str s)
  | tup ds => unfold Rep at h; obtain ⟨_, a, xs, rfl, e, _⟩ := h; exact .base (.tup e)
  | lst ds => unfold Rep at h; obtain ⟨_, a, xs, rfl, e, _⟩ := h; exact .base (.lst e)
theorem kit_tuple {K : PySem.W.Frag} (d : Dd) : PySem.W.kitOne K (.type d.ty) (.type "tuple") = some d.isTup := match d with
  | .non => kit_ty (show kitB "NoneType" "tuple" = some false by decide +kernel)
  | .bl _ => kit_ty (show kitB "bool" "tuple" = some false by decide +kernel)
  | .int _ => kit_ty (show kitB "int" "tuple" = some false by decide +kernel)
  | .str _ => kit_ty (show kitB "str" "tuple" = some false by decide +kernel)
  | .tup _ => kit_ty (show kitB "tuple" "tuple" = some true by decide +kernel)
  | .lst _ => kit_ty (show kitB "list" "tuple" = some false by decide +kernel)
theorem kit_list {K : PySem.W.Frag} (d : Dd) : PySem.W.kitOne K (.type d.ty) (.type "list") = some d.isLst := match d with
  | .non => kit_ty (show kitB "NoneType" "list" = some false by decide +kernel)
  | .bl _ => kit_ty (show kitB "bool" "list" = some false by decide +kernel)
  | .int _ => kit_ty (show kitB "int" "list" = some false by decide +kernel)
  | .str _ => kit_ty (show kitB "str" "list" = some false by decide +kernel)
  | .tup _ => kit_ty (show kitB "tuple" "list" = some false by decide +kernel)
  | .lst _ => kit_ty (show kitB "list" "list" = some true by decide +kernel)
theorem kit_bool {K : PySem.W.Frag} (d : Dd) : PySem.W.kitOne K (.type d.ty) (.type "bool") = some d.isBl := match d with
  | .non => kit_ty (show kitB "NoneType" "bool" = some false by decide +kernel)
  | .bl _ => kit_ty (show kitB "bool" "bool" = some true by decide +kernel)
  | .int _ => kit_ty (show kitB "int" "bool" = some false by decide +kernel)
  | .str _ => kit_ty (show kitB "str" "bool" = some false by decide +kernel)
  | .tup _ => kit_ty (show kitB "tuple" "bool" = some false by decide +kernel)
  | .lst _ => kit_ty (show kitB "list" "bool" = some false by decide +kernel)
theorem kit_int {K : PySem.W.Frag} (d : Dd) : PySem.W.kitOne K (.type d.ty) (.type "int") = some d.isInt := match d with
  | .non => kit_ty (show kitB "NoneType" "int" = some false by decide +kernel)
  | .bl _ => kit_ty (show kitB "bool" "int" = some true by decide +kernel)
  | .int _ => kit_ty (show kitB "int" "int" = some true by decide +kernel)
  | .str _ => kit_ty (show kitB "str" "int" = some false by decide +kernel)
  | .tup _ => kit_ty (show kitB "tuple" "int" = some false by decide +kernel)
  | .lst _ => kit_ty (show kitB "list" "int" = some false by decide +kernel)
theorem kit_str {K : PySem.W.Frag} (d : Dd) : PySem.W.kitOne K (.type d.ty) (.type "str") = some d.isStr := match d with
  | .non => kit_ty (show kitB "NoneType" "str" = some false by decide +kernel)
  | .bl _ => kit_ty (show kitB "bool" "str" = some false by decide +kernel)
  | .int _ => kit_ty (show kitB "int" "str" = some false by decide +kernel)
  | .str _ => kit_ty (show kitB "str" "str" = some true by decide +kernel)
  | .tup _ => kit_ty (show kitB "tuple" "str" = some false by decide +kernel)
  | .lst _ => kit_ty (show kitB "list" "str" = some false by decide +kernel)
/-- isinstance(e, c), e the error that the suite holds; its class is told by the reading -/
def rIsG (K : PySem.W.Frag) (cls : Value) (d : Option Addr) (a : Addr) : List V → Hp → VK → Prop := fun xs H Q => ∃ (D : Addr), cls = .ref D ∧ d = none ∧ ExcC K D ∧ rIsE K D a xs H Q
theorem call_isG {X : Cx} {a : Addr} {cls : Value} {d : Option Addr} {oe : Obj} {pn : List (Addr × Obj)} (hz : Zc cls d oe) (hf : ∃ vs, oe.data = .fields vs) : CallR (X.suite a ((a, oe) :: pn)) (.builtin "isinstance") (rIsG X.K cls d a) := by
  intro pins s σ H xs us Q I r h
  obtain ⟨D, rfl, rfl, C, h⟩ := h
  exact call_isE C hz hf pins s σ H xs us Q I r h
theorem kit_self {K : PySem.W.Frag} (D : Addr) : PySem.W.kitOne K (.ref D) (.ref D) = some true := by
  unfold PySem.W.kitOne
  rw [if_pos (by simp)]
/-- except C, the error's class D below it -/
theorem exm_up {K : PySem.W.Frag} {C D : Addr} {mg : Str → Option Value} {x : Str} (c : ExcAt K mg x C) (h : PySem.W.subIn K (.ref D) (.ref C) = some true) : PySem.W.exmOne K (.ref D) (.ref C) = some true :=
  PySem.W.exm_ref c.b c.c.hd c.t h
/-- a law's own promise, over every base -/
theorem law_end {P : Program} {w : World} {K : PySem.W.Frag} {mg : Str → Option Value} {fa : Addr} {st : Stmt} {k : Nat} {sp : Sp} {x p : Str} (D : At K mg x st) (hb : BindH st x [p]) (hfa : mg x = some (.ref fa))
    (F : ∀ base : Heap, Prom P w K mg base CX0 k x [p] sp) :
    ∃ fd : FuncData, (∀ (s : Shared) (v : Value), BindsTo s fd ⟨[v], []⟩ [(p, v)]) ∧ ∀ base : Heap, K.In base → base.Ns mainGlobals mg → FnOk P w K mg base CX0 k fa fd [p] sp := by
  obtain ⟨f, fd, F0, g⟩ := D.ex
  have e : f = fa := by
    rw [g] at hfa
    cases hfa
    rfl
  subst e
  obtain ⟨oc, od, kV, doc, pm, an, cdv, ct, osl, e1, lk, hcd⟩ := F0.ex
  refine ⟨fd, fun s v => .of_eq (by rw [e1]; exact hb kV doc pm an cdv ct [v] rfl), fun base _ _ => ?_⟩
  obtain ⟨f', fd', g', _, _, G', st', F'⟩ := (F base).ex
  have e2 : f' = f := by
    rw [g'] at g
    cases g
    rfl
  subst e2
  obtain ⟨_, _, _, _, _, _, _, _, _, _, lk', _⟩ := F'.ex
  have e3 : fd' = fd := by
    rw [lk] at lk'
    cases lk'
    rfl
  subst e3
  exact G'
theorem tup_mk {K : PySem.W.Frag} {a : Addr} {od : Option Addr} {its : Array Value} {n : Nat} {sl : Array (Option Value)} {xs : List V} (l : K.lookup a = some ⟨.type "tuple", od, .seq its n, sl⟩) (hz : its.size ≤ sizeLine) (v : Vals xs its.toList) (H : Hp) : SqT K H a xs :=
  .inr ⟨_, its, n, l, rfl, rfl, hz, v⟩
theorem exc_mk {K : PySem.W.Frag} {h : Heap} {mg : Str → Option Value} {x : Str} {C : Addr} (X : K.In h) (G : h.Ns mainGlobals mg) (a : PySem.W.nsIn K mainGlobals x = some (some (.ref C)))
    (q : PySem.W.excIn K C [.type "ValueError", .type "Exception", .type "BaseException", .type "object"] "ValueError.__new__" = true) (k : PySem.W.keepIn K (.ref C) = true) (b : PySem.W.subIn K (.ref C) (.type "BaseException") = some true) (t : PySem.W.typeIn K (.ref C) = some (.type "type"))
    (hg : PySem.W.findIn K (.ref C) "__getattribute__" = some (some (.builtin "BaseException.__getattribute__"))) (hk : PySem.W.findIn K (.ref C) "__getattr__" = some none) (hd : PySem.W.hasDictIn K C = true)
    (ha : PySem.W.findIn K (.ref C) "__class__" = some (some (.builtin "object.__class__"))) (hn : PySem.W.specialIn K (.builtin "object.__class__") "__get__" = some (some (.builtin "getset_descriptor.__get__")))
    (ht : PySem.W.takesIn K (.builtin "object.__class__") = some true) (hm : PySem.W.mroIn K C (.type "object") = some true) : ExcAt K mg x C :=
  ⟨PySem.W.mg_of X G a, q, k, b, t, ⟨hg, hk, b, hd, ha, hn, ht, hm⟩⟩
/-- the written part that a fact speaks of -/
abbrev kOf {K : PySem.W.Frag} {h : Heap} (_ : K.In h) : PySem.W.Frag := K
theorem int_mk {K : PySem.W.Frag} {h : Heap} {mg : Str → Option Value} {x : Str} {n : Int} {t : Tok} (X : K.In h) (G : h.Ns mainGlobals mg) (a : PySem.W.nsIn K mainGlobals x = some (some (.int n t))) : ∃ t, mg x = some (.int n t) := ⟨t, PySem.W.mg_of X G a⟩
theorem tupg_mk {K : PySem.W.Frag} {h : Heap} {mg : Str → Option Value} {x : Str} {a : Addr} {od : Option Addr} {its : Array Value} {n : Nat} {sl : Array (Option Value)} {xs : List V} (X : K.In h) (G : h.Ns mainGlobals mg)
    (e : PySem.W.nsIn K mainGlobals x = some (some (.ref a))) (l : K.lookup a = some ⟨.type "tuple", od, .seq its n, sl⟩) (hz : its.size ≤ sizeLine) (v : Vals xs its.toList) : ∃ a, mg x = some (.ref a) ∧ ∀ H, SqT K H a xs :=
  ⟨a, PySem.W.mg_of X G e, fun H => tup_mk l hz v H⟩
theorem ex_mk {α : Type} {R : α → Prop} {a : α} (h : R a) : ∃ a, R a := ⟨a, h⟩
end Kt
/-! while an error is handled: the end of a list's walk, a tuple unpacked, a comprehension over a list -/
namespace Kh
open PySem PySem.Spec PyProof.Rows L2 L2H HotX
section
variable {prog : Program} {w : World} {A : Around} {E : Value → Shared → Prop} {s : Shared}
theorem list_end_hot {it l x1 : Addr} {i : Nat} {items : Array Value} {Q : Option Value → Shared → Prop} (hot : HotAt A x1 s.heap) (hne : x1 ≠ it)
    (hit : s.heap.IsListIter it l i) (hl : s.heap.IsList l items) (hx : items[i]? = none)
    (hQ : ∀ h', Heap.ExtBut it s.heap h' → Q none { s with heap := h' }) : wpAny (model prog w) A (pyNext (.ref it)) Q E s := by
  obtain ⟨o, ho, hc, hd⟩ := id hit
  obtain ⟨ol, hol, _, nl, hdl⟩ := hl
  obtain ⟨hh, o1, vs1, h1, d1, c1⟩ := hot
  unfold pyNext
  refine wpAny_bind (wpAny_attempt (wpAny_callSpecial?_slot (name := Str.ofString "__next__") hit.typeIs slot_listiter_next
    (wpAny_call_entry slot_listiter_next hit.typeIs entry_listiter_next ?_ (args_listiter_next _))))
  show wpAny _ _ (field (.ref it) 0 >>= _) _ _ s
  refine wpAny_bind (wpAny_field ho hd (x := .ref l) rfl ?_)
  show wpAny _ _ (if (Value.ref l == Value.none) = true then _ else _) _ _ s
  rw [if_neg (show ¬ ((Value.ref l == Value.none) = true) from Bool.false_ne_true)]
  show wpAny _ _ (field (.ref it) 1 >>= _) _ _ s
  refine wpAny_bind (wpAny_field ho hd (x := .int i 0) rfl ?_)
  show wpAny _ _ (seqItems? (.ref l) >>= _) _ _ s
  refine wpAny_bind (wpAny_seqItems hol hdl ?_)
  simp only [Int.toNat_natCast, hx]
  refine wpAny_bind (wpAny_rule (wpAny_bind (wpAny_setField ho hd (by simp) ?_)))
  show wpAny _ _ (newExc (.type "StopIteration") [] >>= _) _ _ _
  refine wpAny_bind ?_
  simp only [newExc, newTuple]
  refine wpAny_bind (wpAny_newObj_type ?_ (by size_fits))
  refine wpAny_bind (m := firstArgMember _ _) (wpAny_of_eq (a := Value.none) (by first | rfl | (simp only [firstArgMember]; rfl)) ?_)
  refine wpAny_newObj_type ?_ (by size_fits)
  have h1' := (Heap.SameBut.update s.heap it (Obj.mapFields fun x => x.setIfInBounds 0 Value.none)).extBut x1 o1 hne h1
  refine raiseNew_hot ⟨hh, o1, vs1, Heap.get?_push_of_some _ (Heap.get?_push_of_some _ h1'), d1, c1⟩ (Nat.ne_of_lt (Heap.lt_size (Heap.get?_push_of_some _ h1'))) (Heap.get?_push_size _ rfl) rfl (by first | (simp; done) | (simp; omega) | (simp only [Array.size_append]; simp; omega)) ?_
  refine wpAny_bind (wpAny_isInstance (T := "StopIteration") (b := true) ⟨_, Heap.get?_update_self _ (Heap.get?_push_size _ rfl) rfl, rfl⟩ isSubtype_stop ?_)
  refine wpAny_pure (hQ _ fun b o hb e => ?_)
  have e' := (Heap.SameBut.update s.heap it (Obj.mapFields fun x => x.setIfInBounds 0 Value.none)).extBut b o hb e
  rw [Heap.get?_update_other _ _ (Nat.ne_of_gt (Heap.lt_size (Heap.get?_push_of_some _ e')))]
  exact Heap.get?_push_of_some _ (Heap.get?_push_of_some _ e')
theorem tuple_end_hot {it t x1 : Addr} {i : Nat} {items : Array Value} {Q : Option Value → Shared → Prop} (hot : HotAt A x1 s.heap) (hne : x1 ≠ it)
    (hit : IsTupIter s.heap it t i) (ht : IsTup s.heap t items) (hx : items[i]? = none)
    (hQ : ∀ h', Heap.ExtBut it s.heap h' → Q none { s with heap := h' }) : wpAny (model prog w) A (pyNext (.ref it)) Q E s := by
  obtain ⟨o, ho, hc, hd⟩ := id hit
  obtain ⟨ol, hol, _, nl, hdl⟩ := ht
  obtain ⟨hh, o1, vs1, h1, d1, c1⟩ := hot
  unfold pyNext
  refine wpAny_bind (wpAny_attempt (wpAny_callSpecial?_slot (name := Str.ofString "__next__") hit.typeIs slot_tupleiter_next
    (wpAny_call_entry slot_tupleiter_next hit.typeIs entry_tupleiter_next ?_ (args_tupleiter_next _))))
  show wpAny _ _ (field (.ref it) 0 >>= _) _ _ s
  refine wpAny_bind (wpAny_field ho hd (x := .ref t) rfl ?_)
  show wpAny _ _ (if (Value.ref t == Value.none) = true then _ else _) _ _ s
  rw [if_neg (show ¬ ((Value.ref t == Value.none) = true) from Bool.false_ne_true)]
  show wpAny _ _ (field (.ref it) 1 >>= _) _ _ s
  refine wpAny_bind (wpAny_field ho hd (x := .int i 0) rfl ?_)
  show wpAny _ _ (seqItems? (.ref t) >>= _) _ _ s
  refine wpAny_bind (wpAny_seqItems hol hdl ?_)
  simp only [Int.toNat_natCast, hx]
  refine wpAny_bind (wpAny_rule (wpAny_bind (wpAny_setField ho hd (by simp) ?_)))
  show wpAny _ _ (newExc (.type "StopIteration") [] >>= _) _ _ _
  refine wpAny_bind ?_
  simp only [newExc, newTuple]
  refine wpAny_bind (wpAny_newObj_type ?_ (by size_fits))
  refine wpAny_bind (m := firstArgMember _ _) (wpAny_of_eq (a := Value.none) (by first | rfl | (simp only [firstArgMember]; rfl)) ?_)
  refine wpAny_newObj_type ?_ (by size_fits)
  have h1' := (Heap.SameBut.update s.heap it (Obj.mapFields fun x => x.setIfInBounds 0 Value.none)).extBut x1 o1 hne h1
  refine raiseNew_hot ⟨hh, o1, vs1, Heap.get?_push_of_some _ (Heap.get?_push_of_some _ h1'), d1, c1⟩ (Nat.ne_of_lt (Heap.lt_size (Heap.get?_push_of_some _ h1'))) (Heap.get?_push_size _ rfl) rfl (by first | (simp; done) | (simp; omega) | (simp only [Array.size_append]; simp; omega)) ?_
  refine wpAny_bind (wpAny_isInstance (T := "StopIteration") (b := true) ⟨_, Heap.get?_update_self _ (Heap.get?_push_size _ rfl) rfl, rfl⟩ isSubtype_stop ?_)
  refine wpAny_pure (hQ _ fun b o hb e => ?_)
  have e' := (Heap.SameBut.update s.heap it (Obj.mapFields fun x => x.setIfInBounds 0 Value.none)).extBut b o hb e
  rw [Heap.get?_update_other _ _ (Nat.ne_of_gt (Heap.lt_size (Heap.get?_push_of_some _ e')))]
  exact Heap.get?_push_of_some _ (Heap.get?_push_of_some _ e')
theorem HotAt.ext {x1 b : Addr} {h h' : Heap} (hot : HotAt A x1 h) (hne : x1 ≠ b) (k : Heap.ExtBut b h h') : HotAt A x1 h' := by
  obtain ⟨hh, o1, vs1, h1, d1, c1⟩ := hot
  exact ⟨hh, o1, vs1, k x1 o1 hne h1, d1, c1⟩
theorem HotAt.lt {x1 : Addr} {h : Heap} (hot : HotAt A x1 h) : x1 < h.objs.size := by
  obtain ⟨hh, o1, vs1, h1, d1, c1⟩ := hot
  exact Heap.lt_size h1
theorem HotAt.push {x1 : Addr} {h : Heap} {o : Obj} (hot : HotAt A x1 h) : HotAt A x1 (h.push o) := by
  obtain ⟨hh, o1, vs1, h1, d1, c1⟩ := hot
  exact ⟨hh, o1, vs1, Heap.get?_push_of_some _ h1, d1, c1⟩
theorem unpackItems_hot {t x1 : Addr} {items : Array Value} {Q : List Value → Shared → Prop} (hot : HotAt A x1 s.heap) (ht : IsTup s.heap t items)
    (hQ : ∀ h', Heap.ExtBut s.heap.objs.size s.heap h' → Q items.toList { s with heap := h' }) : wpAny (model prog w) A (unpackItems (.ref t) items.size none) Q E s := by
  have hlt : t ≠ s.heap.objs.size := by obtain ⟨o, ho, _⟩ := ht; exact Nat.ne_of_lt (Heap.lt_size ho)
  have hx1 : x1 ≠ s.heap.objs.size := Nat.ne_of_lt (HotAt.lt hot)
  unfold unpackItems
  refine wpAny_bind ?_
  · unfold notIterableAtAll
    refine wpAny_bind (wpAny_specialOf ht.typeIs slot_tuple_iter.lookup ?_)
    refine wpAny_pure ?_
    simp only [Bool.false_eq_true, if_false]
    refine wpAny_bind (wpAny_holding (iter_tuple ht ?_))
    refine wpAny_bind (wpAny_holding (draw_tuple hlt items.size 0 _ _ ⟨_, Heap.get?_push_size _ rfl, rfl, rfl⟩ (ht.push _) (by omega) fun h₁ hit₁ hs₁ => ?_))
    have hall : List.take items.size (List.drop 0 items.toList) = items.toList := by
      rw [List.drop_zero]; exact List.take_of_length_le (by simp)
    rw [hall]
    rw [if_neg (by simp)]
    have ht₁ : IsTup h₁ t items := (ht.push _).extBut hs₁.extBut hlt
    refine wpAny_bind (wpAny_holding (tuple_end_hot (s := { s with heap := h₁ }) (x1 := x1) (HotAt.ext (HotAt.push hot) hx1 hs₁.extBut) hx1 hit₁ ht₁ (by simp) fun h₂ he₂ => ?_))
    simp only [Option.isSome_none, Bool.false_eq_true, if_false]
    refine wpAny_pure (hQ h₂ fun b o hb e => he₂ b o hb (hs₁.extBut b o hb (Heap.get?_push_of_some _ e)))
theorem assign_tup_hot {env : Env} {elts : List Expr} {k} {pos : Pos} {t x1 : Addr} {items : Array Value} {Q : Unit → Shared → Prop} (hot : HotAt A x1 s.heap) (ht : IsTup s.heap t items)
    (hn : (assignEach elts env).length = items.size) (hstar : (assignEach elts env).findIdx? (·.1) = none)
    (h : ∀ h', Heap.ExtBut s.heap.objs.size s.heap h' → wpAny (model prog w) A (assignInOrder ((assignEach elts env).map (·.2)) items.toList) Q E { s with heap := h' }) :
    wpAny (model prog w) A (assign (.Tuple elts k pos) env (.ref t)) Q E s := by
  rw [assign_Tuple]
  refine wpAny_bind (wpAny_standAt ?_)
  unfold unpack
  rw [hn, hstar]
  exact wpAny_bind (wpAny_holding (unpackItems_hot hot ht h))
end
/-- (a, b, ..) = a tuple of that length -/
theorem pg_tupH {X : Cx} {pos : Pos} {es : List Expr} {k : Nat} {t : TGs} {n : Nat} (hc : HotC X) (h : PGs X es t)
    (hn : (assignEach es X.env).length = n := by rfl) (hst : (assignEach es X.env).findIdx? (·.1) = none := by rfl) : PG X (.Tuple es k pos) (gTup X.K n t) := by
  refine ⟨fun pins s σ H v u Q I r hw => ?_⟩
  obtain ⟨a, xs, e1, hq, hl, hw⟩ := hw
  subst e1
  cases r
  obtain ⟨its, rv, ht, hz⟩ := I.tuple hq
  obtain ⟨x1, hot⟩ := hc.at I
  refine assign_tup_hot hot ht (by simp [hn, ← hl, rv.length]) hst fun h' hx => ?_
  have I1 : Inv X pins σ H { s with heap := h' } := I.kept (t' := s.toks) fun b o e => hx b o (Nat.ne_of_lt (Heap.lt_size e)) e
  exact h.run pins _ σ H xs _ Q I1 (by simpa using rv) hw
/-- the walk of a list -/
theorem turn_listH {P : Program} {w : World} {K : PySem.W.Frag} {tg : Expr} (a it : Addr) : TurnH P w K tg (Itl K a) [it] it (fun i h => h.IsListIter it a i) where
  mem := by simp
  obj := (turn_list (P := P) (w := w) (K := K) (tg := tg) a it).obj
  keep := (turn_list (P := P) (w := w) (K := K) (tg := tg) a it).keep
  item := by
    intro X hP hw hK hc i pins s σ H E I hf st hg
    subst hP hw hK
    obtain ⟨xs, x, hq, hx⟩ := hg
    obtain ⟨its, rv, p, hz⟩ := I.list hq
    obtain ⟨u, hu, ru⟩ := rv.get hx
    obtain ⟨f0, f1, f2, f3, f4, f5⟩ := hf it (by simp)
    refine wpAny_pyNext_list_item st p.isList (x := u) (by simpa using hu) fun h' st' sb => ?_
    have I1 : Inv X pins σ H { s with heap := h' } := I.turned (t' := s.toks) (fun b o hb e => (sb.2 b hb).trans e) f0 f1 f3 f4 f5
    obtain ⟨o, e, c, d⟩ := id st'
    exact ⟨u, rfl, go_of (s := { s with heap := h' }) e c d (by decide) ⟨x, H, I1, ru, ⟨rfl, fun ys hy => by rw [I.list_inj hy hq]; exact hx⟩, st', fun b hb => (hf b hb).1⟩⟩
  done := by
    intro X hP hw hK hc i pins s σ H E I hf st hg
    subst hP hw hK
    obtain ⟨xs, hq, hx⟩ := hg
    obtain ⟨its, rv, p, hz⟩ := I.list hq
    obtain ⟨f0, f1, f2, f3, f4, f5⟩ := hf it (by simp)
    have hl := rv.length
    obtain ⟨q, ⟨hh, v1, e1, c1⟩, hqp⟩ := hc
    have hot : HotAt X.A q.1 s.heap := ⟨hh, q.2, v1, (I.pin q (List.mem_append_left _ hqp)).1, e1, c1⟩
    exact list_end_hot hot (f5 q (List.mem_append_left _ hqp)) st p.isList (by simp; omega) fun h' eb => ⟨rfl, I.turned (t' := s.toks) (fun b o hb e => eb b o hb e) f0 f1 f3 f4 f5⟩
  self := fun _ _ _ _ _ st h => wpAny_pyIter_listiter st h
theorem pi_listH {X : Cx} {tg : Expr} {l : Expr} {tl : TE} (hl : PE X l tl) : PIH X tg l (iList X.K tl) := by
  refine ⟨fun pins s σ H R I h => ?_⟩
  refine thn (hl.run pins s σ H _ I h) fun v s1 ⟨x, H1, I1, r1, q1⟩ => ?_
  obtain ⟨a, e, ⟨xs, hq⟩, q⟩ := q1
  subst e
  cases r1
  obtain ⟨its, rv, p, hz⟩ := I1.list hq
  refine wpAny_pyIter_list p.isList ?_
  refine ⟨s1.heap.objs.size, [s1.heap.objs.size], _, _, H1, rfl, I1.kept (t' := s1.toks) fun b o e => Heap.get?_push_of_some _ e, turn_listH a _, ⟨_, Heap.get?_push_size _ rfl, rfl, rfl⟩, fun b hb => ?_, q⟩
  have e : b = s1.heap.objs.size := by simpa using hb
  subst e
  exact I1.fpOk (Nat.le_refl _) (I1.hok.fresh (Nat.le_refl _))
end Kh
/-! a list comprehension while an error is handled: its block bears the def's pins -/
namespace Kh
open PySem PySem.Spec PyProof.Rows L2 L2H HotX
theorem rep {X : Cx} {σ : L2.St} {H : Hp} {s : Shared} {pn' : List (Addr × Obj)} (I : Inv X [] σ H s)
    (h : ∀ p ∈ pn', s.heap.get? p.1 = some p.2 ∧ H p.1 = none ∧ p.1 ≠ X.env.locals ∧ p.1 ∉ X.fs ∧ ∀ v, p.2.data ≠ .cell v) : Inv { X with pn := pn' } [] σ H s :=
  ⟨⟨I.ok.mod, I.ok.kind, I.ok.glob, I.ok.blt, I.ok.above, I.ok.inj, I.ok.has, I.ok.cab, I.ok.hd, I.ok.frames, I.ok.stk, I.ok.exf, I.ok.bs, I.ok.bsz, I.ok.noex, I.ok.exfs, I.ok.funs, I.ok.frf⟩,
    I.os, I.bare, I.base, I.loc, I.cell, I.free, I.freeC, fun p hp => h p (by simpa using (show p ∈ pn' ++ [] from hp)), I.hok, I.len⟩
abbrev blkH (X : Cx) (s : Shared) (H : Hp) (scope : Scope) (cenv : Env) (fp : List Addr) : Cx := { X.blk s H scope cenv fp with pn := X.pn }
section
variable {X : Cx}
theorem lc_coreH {pins : List (Addr × Obj)} {s : Shared} {σ : L2.St} {H : Hp} {Q : VK} {elt tg iter : Expr} {ifs : List Expr} {scope : Scope} {own : List (Str × Nat)} {pos pos' : Pos} {wi : TI} {g : TG} {tt : TT} {te : TE} {use : Option (Value → Sem Unit)} {Qf : Value → Shared → Prop}
    (hc : HotC X) (hN : X.N.Nodup) (I : Inv X pins σ H s) (hi : PIH X tg iter wi) (ok : BlkOk X.N X.env.scope scope own)
    (hg : ∀ (s : Shared) (H : Hp) (C : Addr) (cl : List (Str × Addr)) (fp : List Addr), PG (blkH X s H scope (compEnvC scope cl C X.env) fp) tg g) (ht : ∀ (s : Shared) (H : Hp) (C : Addr) (cl : List (Str × Addr)) (fp : List Addr), PTs (blkH X s H scope (compEnvC scope cl C X.env) fp) ifs tt)
    (he : ∀ (s : Shared) (H : Hp) (C : Addr) (cl : List (Str × Addr)) (fp : List Addr), PE (blkH X s H scope (compEnvC scope cl C X.env) fp) elt te) (hs : ∀ x, foldedSetIterable iter X.env x = pure x)
    (h : tLc wi g tt te (own.map (·.2)) σ H Q)
    (hRR : ∀ D C s' m H', Inv X pins σ H' s' → Q (.ref D) H' → s'.heap.Ns C m → FpOk X pins H' C → compPost (model X.prog X.w) X.A X.xe use Qf (.ref D) C (.ok .next) s') :
    wpAny (model X.prog X.w) X.A (comprehension (.ListComp elt [⟨tg, iter, ifs, 0⟩] scope pos) scope X.env pos' (newList []) false (eval iter X.env) use) Qf X.xe s := by
  have hfree : ∀ y ∈ scope.names, y.2 = .free → ∃ c, X.env.cells.lookup y.1 = some c := fun y hy e => (ok.free y hy e).elim (fun k => I.ok.has _ (.inl k)) fun k => I.ok.has _ (.inr k)
  refine wpAny_comprehension_free (use := use) rfl hs (closure_ok hfree) ok.kind (fun y hy e => by rw [ok.uniq y hy, e])
    (thn (hi.run pins s σ H _ I h) fun xv s1 hx => thn hx fun itv s2 h2 => ?_)
  obtain ⟨it, fp, tn, J, H2, e, I2, T, st2, f2, q⟩ := h2
  subst e
  refine wpAny_newObj_type (newEnv_comp ?_) (by show 0 ≤ sizeLine; decide)
  generalize hD : s2.heap.objs.size = D
  obtain ⟨W, ⟨m0, w0⟩, turn⟩ := q D (I2.hok.fresh (Nat.le_of_eq hD))
  generalize hs3 : ({ s2 with heap := s2.heap.push { cls := .type "list", data := .seq ([] : List Value).toArray } } : Shared) = s3
  have h3 : s3.heap = s2.heap.push { cls := .type "list", data := .seq ([] : List Value).toArray } := by rw [← hs3]
  have I3 : Inv X pins σ (upd H2 D (.lst [])) s3 := by
    rw [← hs3]
    refine I2.laid (t' := s2.toks) (fun b o e => Heap.get?_push_of_some _ e) (Nat.le_of_eq hD) ⟨Nat.zero_le _, [], 0, .nil, ?_⟩
    rw [← hD]
    exact Heap.get?_push_size _ rfl
  have sz : ∀ b ∈ fp, b < s2.heap.objs.size := fun b hb => let ⟨o, e, _⟩ := T.obj _ _ st2 b hb; Heap.lt_size e
  have f3 : ∀ b ∈ fp, FpOk X pins (upd H2 D (.lst [])) b ∧ b < s3.heap.objs.size := fun b hb => by
    have hlt := sz b hb
    refine ⟨⟨?_, (f2 b hb).2⟩, by rw [h3, Heap.size_push]; exact Nat.lt_succ_of_lt hlt⟩
    rw [upd_ne (by rw [← hD]; exact Nat.ne_of_lt hlt)]
    exact (f2 b hb).1
  have st3 : tn 0 s3.heap := T.keep _ _ _ st2 fun b _ o e => by rw [h3]; exact Heap.get?_push_of_some _ e
  have I4 := block_start I3 ok hN f3
  have pg := hg s3 (upd H2 D (.lst [])) s3.heap.objs.size (cellsFrom (s3.heap.objs.size + 1) scope.names (cloFrom X.env.cells scope.names [])) fp
  have pt := ht s3 (upd H2 D (.lst [])) s3.heap.objs.size (cellsFrom (s3.heap.objs.size + 1) scope.names (cloFrom X.env.cells scope.names [])) fp
  have pe := he s3 (upd H2 D (.lst [])) s3.heap.objs.size (cellsFrom (s3.heap.objs.size + 1) scope.names (cloFrom X.env.cells scope.names [])) fp
  show codeAny _ _ (.compStart (.ListComp elt [⟨tg, iter, ifs, 0⟩] scope pos) 0 (.ref it) (.ref D) (compEnvC scope (cellsFrom (s3.heap.objs.size + 1) scope.names (cloFrom X.env.cells scope.names [])) s3.heap.objs.size X.env)) (compPost (model X.prog X.w) X.A X.xe use Qf (.ref D) s3.heap.objs.size) { s3 with heap := pushCells (s3.heap.push { cls := .type "dict", data := .dict #[] }) scope.names }
  have nfp : ∀ b ∈ fp, (upd H2 D (.lst [])) b = none := fun b hb => (f3 b hb).1.1
  generalize hce : compEnvC scope (cellsFrom (s3.heap.objs.size + 1) scope.names (cloFrom X.env.cells scope.names [])) s3.heap.objs.size X.env = ce at I4 pg pt pe ⊢
  have cL : ce.locals = s3.heap.objs.size := by subst hce; rfl
  generalize hH3 : upd H2 D (.lst []) = H3 at I3 I4 pg pt pe w0 nfp f3
  have kp : ∀ b o, s3.heap.get? b = some o → (pushCells (s3.heap.push { cls := .type "dict", data := .dict #[] }) scope.names).get? b = some o := fun b o e => pushCells_keeps _ _ _ _ (Heap.get?_push_of_some _ e)
  generalize hs4 : ({ s3 with heap := pushCells (s3.heap.push { cls := .type "dict", data := .dict #[] }) scope.names } : Shared) = s4 at I4 ⊢
  have kp4 : ∀ b o, s3.heap.get? b = some o → s4.heap.get? b = some o := by rw [← hs4]; exact kp
  have st4 : tn 0 s4.heap := T.keep _ _ _ st3 fun b _ o e => kp4 b o e
  -- the def's pins, in the block
  have I4 : Inv (blkH X s3 H3 scope ce fp) [] (wipe σ (own.map (·.2))) H3 s4 := rep I4 fun p hp => by
    have P := I3.pin p (List.mem_append_left _ hp)
    refine ⟨kp4 _ _ P.1, P.2.1, ?_, fun hm => (List.mem_cons.mp (I3.stkSub p.1 hm)).elim P.2.2.1 P.2.2.2.1, P.2.2.2.2⟩
    show p.1 ≠ ce.locals
    rw [cL]
    exact Nat.ne_of_lt (Heap.lt_size P.1)
  have hcB : HotC (blkH X s3 H3 scope ce fp) := hc
  have stat : ∀ {σ' : L2.St} {H' : Hp} {s' : Shared}, Inv (blkH X s3 H3 scope ce fp) [] σ' H' s' → (∀ b ∈ fp, H' b = none) → ∀ b ∈ fp, FpOk (blkH X s3 H3 scope ce fp) [] H' b := fun {σ' H' s'} I' hn b hb =>
    ⟨hn b hb, (I'.ok.exf b hb).1, I'.ok.exfs b hb, .inl hb, fun x c e => (I'.ok.exf b hb).2 x c e, fun p hp => (f3 b hb).1.2.2.2.2.2 p (List.mem_append_left _ (by simpa using (show p ∈ X.pn ++ [] from hp)))⟩
  have loop : codeAny (model X.prog X.w) X.A (.compLoop (.ListComp elt [⟨tg, iter, ifs, 0⟩] scope pos) 0 (.ref it) (.ref D) ce) (compPost (model X.prog X.w) X.A X.xe use Qf (.ref D) s3.heap.objs.size) s4 := by
    refine compLoop_any (fun n s' => ∃ i H', Inv (blkH X s3 H3 scope ce fp) [] (wipe σ (own.map (·.2))) H' s' ∧ tn i s'.heap ∧ (∀ b ∈ fp, H' b = none) ∧ W i n H') ?_ m0 ⟨0, H3, I4, st4, nfp, w0⟩
    rintro n s5 ⟨i, H5, I5, st5, n5, w5⟩
    rcases turn i n H5 w5 with ⟨stop, qq⟩ | ⟨go, Nx, hNx, step⟩
    · refine thnF (T.done (blkH X s3 H3 scope ce fp) rfl rfl rfl hcB i [] s5 _ H5 (fun _ _ => False) I5 (stat I5 n5) st5 stop) fun r s6 ⟨hr, I6⟩ => ?_
      subst hr
      have I7 : Inv X pins σ H5 s6 := I3.call' (ch := fp) I6.os I6.base I6.hok I6.bare fun b hb => ⟨(f3 b hb).1.2.2.2.1, (f3 b hb).1.2.1, (f3 b hb).1.2.2.2.2.1, (f3 b hb).1.2.2.2.2.2⟩
      have nC : H5 s3.heap.objs.size = none := by
        have z : H5 ce.locals = none := I6.free
        rw [cL] at z
        exact z
      obtain ⟨m, hn, _⟩ := I6.loc
      have hn : s6.heap.Ns ce.locals m := hn
      rw [cL] at hn
      exact hRR D s3.heap.objs.size s6 m H5 I7 qq hn (I3.fpOk (Nat.le_refl _) nC)
    · refine thnF (T.item (blkH X s3 H3 scope ce fp) rfl rfl rfl hcB i [] s5 _ H5 (fun _ _ => False) I5 (stat I5 n5) st5 go) fun r s6 ⟨u, hr, h6⟩ => ?_
      subst hr
      refine thnF h6 fun _ s7 ⟨x, H7, I7, r7, y7, st7, n7⟩ => ?_
      have I7' := I7.pinned (stat I7 n7) (T.obj _ _ st7)
      refine thnF (pg.run _ s7 _ H7 x u _ I7' r7 (step x H7 y7)) fun _ s8 ⟨σ8, H8, I8, hw8, q8⟩ => ?_
      refine thnF (pt.run _ s8 σ8 H8 _ I8 q8) fun b s9 ⟨H9, I9, q9⟩ => ?_
      have fin : ∀ {s' : Shared} {H' : Hp}, Inv (blkH X s3 H3 scope ce fp) ([] ++ pinsAt fp s7.heap) σ8 H' s' → Nx H' → ∃ m, m < n ∧ ∃ i H', Inv (blkH X s3 H3 scope ce fp) [] (wipe σ (own.map (·.2))) H' s' ∧ tn i s'.heap ∧ (∀ b ∈ fp, H' b = none) ∧ W i m H' := fun {s' H'} I' nx => by
        obtain ⟨m', hm, w'⟩ := hNx H' nx
        have pin' : ∀ b ∈ fp, ∀ o, s7.heap.get? b = some o → s'.heap.get? b = some o ∧ H' b = none := fun b hb o e =>
          let z := I'.pin (b, o) (List.mem_append_right _ (List.mem_append_right _ (mem_pinsAt hb e)))
          ⟨z.1, z.2.1⟩
        have hl : (wipe σ (own.map (·.2))).length = σ8.length := by rw [← hw8, wipe_length]
        refine ⟨m', hm, i + 1, H', (I'.unpinned (pins := [])).weak hl (fun j v e => ?_), T.keep _ _ _ st7 fun b hb o e => (pin' b hb o e).1, fun b hb => ?_, w'⟩
        · rw [← hw8] at e
          exact (wipe_some e).1
        · obtain ⟨o, e, _⟩ := T.obj _ _ st7 b hb
          exact (pin' b hb o e).2
      cases b with
      | false =>
        simp only [Bool.false_eq_true, if_false] at q9 ⊢
        exact fin I9 q9
      | true =>
        simp only [if_true] at q9 ⊢
        refine thnF (pe.run _ s9 σ8 H9 _ I9 q9) fun z s10 ⟨yv, H10, I10, r10, acc, hD10, hz10, nx⟩ => ?_
        exact app_ok (X := blkH X s3 H3 scope ce fp) I10 hD10 hz10 r10 fun s11 I11 => fin I11 nx
  exact codeAny_compStart_list loop (T.self X.A 0 _ _ _ st4 loop)
theorem pe_lcH {elt tg iter : Expr} {ifs : List Expr} {scope : Scope} {own : List (Str × Nat)} {pos : Pos} {wi : TI} {g : TG} {tt : TT} {te : TE} (hc : HotC X) (hN : X.N.Nodup) (hi : PIH X tg iter wi) (ok : BlkOk X.N X.env.scope scope own)
    (hg : ∀ (s : Shared) (H : Hp) (C : Addr) (cl : List (Str × Addr)) (fp : List Addr), PG (blkH X s H scope (compEnvC scope cl C X.env) fp) tg g) (ht : ∀ (s : Shared) (H : Hp) (C : Addr) (cl : List (Str × Addr)) (fp : List Addr), PTs (blkH X s H scope (compEnvC scope cl C X.env) fp) ifs tt)
    (he : ∀ (s : Shared) (H : Hp) (C : Addr) (cl : List (Str × Addr)) (fp : List Addr), PE (blkH X s H scope (compEnvC scope cl C X.env) fp) elt te) (hs : ∀ x, foldedSetIterable iter X.env x = pure x := by intro _; rfl) :
    PE X (.ListComp elt [⟨tg, iter, ifs, 0⟩] scope pos) (tLc wi g tt te (own.map (·.2))) := by
  refine ⟨fun pins s σ H Q I h => ?_⟩
  rw [eval_ListComp]
  refine lc_coreH hc hN I hi ok hg ht he hs h fun D C s' m H' I' q hn f => ⟨m, hn, fun h'' sb => ?_⟩
  obtain ⟨f0, f1, f2, f3, f4, f5⟩ := f
  exact ⟨.ref D, H', I'.turned (t' := s'.toks) (fun b o hb e => (sb.2 b hb).trans e) f0 f1 f3 f4 f5, rfl, q⟩
theorem ps_setLcH {i : Nat} {y : Str} {py : Pos} {elt tg iter : Expr} {ifs : List Expr} {scope : Scope} {own : List (Str × Nat)} {pos spos : Pos} {wi : TI} {g : TG} {tt : TT} {te : TE} (hc : HotC X) (hN : X.N.Nodup) (hy : X.N[i]? = some y) (hyl : X.env.scope.names.lookup y = some .local)
    (hsw : swapsWith (.ListComp elt [⟨tg, iter, ifs, 0⟩] scope pos) (some (.Name y py)) spos.line X.env = pure true) (hi : PIH X tg iter wi) (ok : BlkOk X.N X.env.scope scope own)
    (hg : ∀ (s : Shared) (H : Hp) (C : Addr) (cl : List (Str × Addr)) (fp : List Addr), PG (blkH X s H scope (compEnvC scope cl C X.env) fp) tg g) (ht : ∀ (s : Shared) (H : Hp) (C : Addr) (cl : List (Str × Addr)) (fp : List Addr), PTs (blkH X s H scope (compEnvC scope cl C X.env) fp) ifs tt)
    (he : ∀ (s : Shared) (H : Hp) (C : Addr) (cl : List (Str × Addr)) (fp : List Addr), PE (blkH X s H scope (compEnvC scope cl C X.env) fp) elt te) (hs : ∀ x, foldedSetIterable iter X.env x = pure x := by intro _; rfl) :
    PS X (.Assign [.Name y py] (.ListComp elt [⟨tg, iter, ifs, 0⟩] scope pos) spos) (tAsg (tLc wi g tt te (own.map (·.2))) (gName i)) := by
  refine ⟨fun pins s σ H D I h => ?_⟩
  rw [exec_Assign_Name_used _ _ _ _ hsw]
  refine wpAny_bind (wpAny_standAt (wpAny_bind ?_))
  show wpAny _ X.A (do let _ ← comprehension (.ListComp elt [⟨tg, iter, ifs, 0⟩] scope pos) scope X.env (firstIterPos [⟨tg, iter, ifs, 0⟩] pos) (newList []) false (eval iter X.env) (some (assign (.Name y py) X.env))) _ _ s
  have h : tLc wi g tt te (own.map (·.2)) σ H (fun x H1 => gName i x σ H1 D.nx) := h
  refine wpAny_bind (thn (lc_coreH (Qf := fun _ s' => SP X pins D .next s') hc hN I hi ok hg ht he hs h fun L C s' m H' I' q hn f => ?_) fun _ s' hq => wpAny_pure (wpAny_pure hq))
  show wpAny _ _ (assign (.Name y py) X.env (.ref L)) _ _ _
  refine wpAny_assign_Name (store_ok2 (v := V.ref L) I' hN hy (.inl hyl) rfl (fun s2 I2 ⟨a, sb, ha⟩ => ?_) (.inr hyl))
  obtain ⟨f0, f1, f2, f3, f4, f5⟩ := f
  have haC : C ≠ a := by
    rcases ha with z | z
    · rw [z]; exact f1
    · exact fun e => f4 y a z e.symm
  refine ⟨m, hn.sameBut sb haC, fun h3 sb3 => ?_⟩
  exact ⟨_, H', I2.turned (t' := s2.toks) (fun b o hb e => (sb3.2 b hb).trans e) f0 f1 f3 f4 f5, q⟩
end
end Kh
/-! a def that is called with the handled error, within an except suite: its promise speaks of that error -/
namespace Kh
open PySem PySem.Spec PyProof.Rows L2 L2H HotX Kt
abbrev SpE := Addr × Obj → Sp
structure FnE (P : Program) (w : World) (K : PySem.W.Frag) (mg : Str → Option Value) (base : Heap) (k : Nat) (f : Addr) (fd : FuncData) (ps : List Str) (sp : SpE) : Prop where
  len : ∀ p vs H Q E, sp p vs H Q E → vs.length = ps.length
  run : ∀ (A : Around) (outer : List Env) (s : Shared) (H : Hp) (args : Args) (us : List Value) (vs : List V) (Q : VK) (E : XK) (p : Addr × Obj), RoomH k A → Hot1 A p → PinOk outer H s p → Env0 P w K mg base A outer s H → BindsTo s fd args (ps.zip us) → Vals vs us → sp p vs H Q E →
    codeAny (model P w) A (.call (.ref f) args) (CR CX0 outer P w H s Q E) s
section
variable {P : Program} {w : World} {K : PySem.W.Frag} {mg : Str → Option Value} {base : Heap} {k : Nat} {x : Str} {st : Stmt} {N ps : List Str} {sp : SpE}
/-- for one error at a time it is a promise of the library's kind -/
theorem fnE_of {f : Addr} {fd : FuncData} (F : Fun K x x st f fd) (S : FnScope N ps (defScope st)) (len : ∀ p vs H Q E, sp p vs H Q E → vs.length = ps.length)
    (hbody : ∀ (cdv : Value) (A : Around) (outer : List Env) (s : Shared) (H : Hp) (vs : List V) (Q : VK) (E : XK) (p : Addr × Obj), Hot1 A p → RoomH k (A.deeper (envOfC x (defScope st) s.heap.objs.size f cdv)) → sp p vs H Q E →
      ∃ t, PSs (cxH CX0 P w K mg base N x (defScope st) f cdv A outer s H E p).nox (defBody st) t ∧ t { nx := fun _ H' => Q .non H', rt := Q } (L2.start N vs) H) :
    FnE P w K mg base (k + 1) f fd ps sp := by
  obtain ⟨oc, od, kV, doc, pm, an, cdv, ct, osl, rfl, lk, hcd⟩ := F.ex
  refine ⟨len, fun A outer s H args us vs Q E p hr hot hpin e0 hb r hsp => ?_⟩
  have hl := len p _ _ _ _ hsp
  have KX : K.In s.heap := e0.mod.kin.keeps fun b o e => (e0.bs b o e).1
  have lim : s.heap.NoLimit := e0.mod.nolimit.keeps fun b o e => (e0.bs b o e).1
  have hkind : ∀ y ∈ ps.zip us, (defScope st).names.lookup y.1 = some .local ∨ ((defScope st).names.lookup y.1 = some .cell ∧ ((cellsFrom (s.heap.objs.size + 1) (defScope st).names []).lookup y.1).isSome = true) := fun ⟨n, v⟩ hy =>
    (S.par n (List.of_mem_zip hy).1).elim .inl fun q => .inr ⟨q, PySem.W.cellsFrom_some _ _ _ (.inl q)⟩
  refine codeAny_call_function hr.depth (KX _ _ lk) rfl S.co S.gen rfl (PySem.W.codeRec_of KX hcd) (hb _ _ _ _ ?_)
  refine wpAny_newFunctionEnv_cells S.kind hkind fun env he s1 xx => ?_
  subst he
  refine ⟨lim.keeps xx.toInCall.keep, codeAny_func ?_⟩
  obtain ⟨t, ht, hq⟩ := hbody cdv A outer s H vs Q E p hot (hr.deeper _) hsp
  have I : Inv (cxH CX0 P w K mg base N x (defScope st) f cdv A outer s H E p) [] (L2.start N vs) H s1 := inv_startH S hpin e0 hl r xx
  refine wpAny_mono (ht.nox.run [] s1 (L2.start N vs) H _ I hq) (fun fl s' hs => ?_) fun e s' hs => hs
  have fin : ∀ {σ' : L2.St} {H' : Hp} {v : V} {u : Value}, Inv (cxH CX0 P w K mg base N x (defScope st) f cdv A outer s H E p) [] σ' H' s' → RelV v u → Q v H' → CE outer P w H s Q u s' :=
    fun {σ' H' v u} J rv q => ⟨v, H', J.os, J.bare, J.base, J.hok, rv, q⟩
  cases fl with
  | ret u =>
    obtain ⟨v, σ', H', J, rv, q⟩ := hs
    exact fin J rv q
  | next =>
    obtain ⟨σ', H', J, q⟩ := hs
    exact fin (v := V.non) (u := Value.none) J rfl q
  | brk =>
    obtain ⟨_, _, _, q⟩ := hs
    exact False.elim q
  | cont =>
    obtain ⟨_, _, _, q⟩ := hs
    exact False.elim q
structure PromE (P : Program) (w : World) (K : PySem.W.Frag) (mg : Str → Option Value) (base : Heap) (k : Nat) (x : Str) (ps : List Str) (sp : SpE) : Prop where
  ex : ∃ f fd, mg x = some (.ref f) ∧ PySem.W.keepIn K (.ref f) = true ∧ Binds K fd ps [] ∧ FnE P w K mg base k f fd ps sp
theorem okE (D : At K mg x st) (S : FnScope N ps (defScope st)) (hb : BindH st x ps) (len : ∀ p vs H Q E, sp p vs H Q E → vs.length = ps.length)
    (body : ∀ (f : Addr) (cdv : Value) (A : Around) (outer : List Env) (s : Shared) (H : Hp) (vs : List V) (Q : VK) (E : XK) (p : Addr × Obj), HotC (cxH CX0 P w K mg base N x (defScope st) f cdv A outer s H E p).nox → (∃ vs : Array Value, p.2.data = .fields vs) → RoomH k (A.deeper (envOfC x (defScope st) s.heap.objs.size f cdv)) → sp p vs H Q E →
      ∃ t, PSs (cxH CX0 P w K mg base N x (defScope st) f cdv A outer s H E p).nox (defBody st) t ∧ t { nx := fun _ H' => Q .non H', rt := Q } (L2.start N vs) H) : PromE P w K mg base (k + 1) x ps sp := by
  obtain ⟨f, fd, F, g⟩ := D.ex
  exact ⟨f, fd, g, F.kp, F.binds hb, fnE_of F S len fun cdv A outer s H vs Q E p hot hr h => body f cdv A outer s H vs Q E p ⟨p, hot, List.mem_cons_self⟩ (let ⟨vs, e, _⟩ := hot.2; ⟨vs, e⟩) hr h⟩
end
section
variable {X : Cx} {j k : Nat} {x : Str} {ps : List Str} {sp : SpE} {p : Addr × Obj} {q pos : Pos} {e : Expr} {es : List Expr} {t : TA}
/-- the call, the error p handled -/
theorem pcallE (hr : RoomH k X.A) (F : PromE X.prog X.w X.K X.mg X.base j x ps sp) (hot : Hot1 X.A p) (hp : p ∈ X.pn) (ha : PA X (e :: es) t) (hg : Gl X x := by rfl) (hj : j ≤ k := by decide) (hdb : (x == ("__debug__" : Str)) = false := by decide)
    (he : starEach (e :: es) X.env = (false, eval e X.env) :: starEach es X.env := by rfl) (hpl : (backTo pos (starEach es X.env)).any (·.1) = false := by rfl) : PE X (.Call (.Name x q) (e :: es) [] pos) (tCallS (sp p) (fun _ => E0) t) := by
  obtain ⟨f, fd, g, kp, b, G⟩ := F.ex
  refine ⟨fun pins s σ H Q I h => ?_⟩
  refine wpAny_Call_Name_kw (ld_glob I hg g ?_ hdb)
  refine PySem.W.callWith_K (h₀ := X.base) I.ok.mod.kin kp (thn (ha.run pos pins s σ H _ I h) fun us s1 ⟨vs, H1, I1, r, q⟩ => ⟨I1.kIn, ?_⟩) he hpl
  have hl : us.length = ps.length := by rw [← r.length]; exact G.len _ _ _ _ _ q
  have bb := b s1 us I1.kIn (by rw [List.append_nil]; exact hl)
  rw [List.append_nil] at bb
  have P1 := I1.pin p (List.mem_append_left _ hp)
  have hpin : PinOk X.stack H1 s1 p := ⟨P1.1, P1.2.1, fun hm => (List.mem_cons.mp (I1.stkSub p.1 hm)).elim P1.2.2.1 P1.2.2.2.1, P1.2.2.2.2⟩
  refine wpAny_call (codeAny_mono (G.run X.A X.stack s1 H1 ⟨us, []⟩ us vs Q E0 p (hr.mono hj) hot hpin I1.env0 bb r q) fun r s' hq => ?_)
  cases r with
  | error e => exact False.elim hq
  | ok fl =>
    cases fl with
    | ret u => exact I1.after hq
    | next => exact False.elim hq
    | brk => exact False.elim hq
    | cont => exact False.elim hq
end
/-- isinstance(e, c), e the error that is handled: its class is told by the promise -/
def rIsP (K : PySem.W.Frag) (p : Addr × Obj) : List V → Hp → VK → Prop := fun xs H Q => ∃ D : Addr, Zc (.ref D) none p.2 ∧ (∃ vs, p.2.data = .fields vs) ∧ ExcC K D ∧ rIsE K D p.1 xs H Q
theorem call_isP {X : Cx} {p : Addr × Obj} (hp : p ∈ X.pn) : CallR X (.builtin "isinstance") (rIsP X.K p) := by
  intro pins s σ H xs us Q I r h
  obtain ⟨D, hz, hf, C, c, cv, b, rfl, hcv, e, q⟩ := h
  cases r with
  | cons rx rr =>
    cases rr with
    | cons rt rr =>
      cases rr
      cases rx
      have ec := hcv _ rt
      subst ec
      have hget := (I.pin p (List.mem_append_left _ hp)).1
      obtain ⟨vs, hv⟩ := hf
      obtain ⟨a, oc, od, oda, osl⟩ := p
      obtain ⟨h1, h2⟩ := hz
      dsimp only at h1 h2 hv hget
      subst h1 h2 hv
      have J : PySem.W.InstAt s.heap a ⟨.ref D, none, .fields vs, osl⟩ D none := ⟨hget, rfl, rfl, trivial⟩
      exact PySem.W.kia_one (PySem.W.handS_kitx_exc C.hg C.hk C.hs C.hd C.ha C.hn C.ht C.hm) I.kIn J e (fun z => nomatch z) fun tk => ⟨.bl b, H, I.kept (t' := tk) fun _ _ z => z, rfl, q⟩
/-- within the suite of an error whose context is None -/
theorem hot_suite {X : Cx} {a : Addr} {oe : Obj} {cls : Value} {d : Option Addr} (hz : L2N.Zn cls d oe) (hf : ∃ vs, oe.data = .fields vs) : Hot1 (X.A.mark (some (.ref a))) (a, oe) :=
  ⟨rfl, let ⟨vs, e⟩ := hf; ⟨vs, e, hz.2.2 vs e⟩⟩
theorem roomH_suite {k : Nat} {A : Around} {v : Option Value} (r : Room k A) : RoomH k (A.mark v) := ⟨r.dp, r.un⟩
/-- .. by the error's place, class and dict alone -/
abbrev byP (sp : Addr → Value → Option Addr → Sp) : SpE := fun p => sp p.1 p.2.cls p.2.dict
theorem pcallS {X : Cx} {a : Addr} {oe : Obj} {cls : Value} {d : Option Addr} {pn : List (Addr × Obj)} {j k : Nat} {x : Str} {ps : List Str} {sp : Addr → Value → Option Addr → Sp} {q pos : Pos} {e : Expr} {es : List Expr} {t : TA}
    (hz : L2N.Zn cls d oe) (hf : ∃ vs, oe.data = .fields vs) (hr : Room k X.A) (F : PromE X.prog X.w X.K X.mg X.base j x ps (byP sp)) (ha : PA (X.suite a ((a, oe) :: pn)) (e :: es) t) (hg : Gl (X.suite a ((a, oe) :: pn)) x := by rfl) (hj : j ≤ k := by decide) (hdb : (x == ("__debug__" : Str)) = false := by decide)
    (he : starEach (e :: es) X.env = (false, eval e X.env) :: starEach es X.env := by rfl) (hpl : (backTo pos (starEach es X.env)).any (·.1) = false := by rfl) : PE (X.suite a ((a, oe) :: pn)) (.Call (.Name x q) (e :: es) [] pos) (tCallS (sp a cls d) (fun _ => E0) t) := by
  have e1 := hz.1
  have e2 := hz.2.1
  have r := pcallE (X := X.suite a ((a, oe) :: pn)) (q := q) (pos := pos) (roomH_suite hr) F (hot_suite hz hf) List.mem_cons_self ha hg hj hdb he hpl
  unfold byP at r
  dsimp only at r
  rw [e1, e2] at r
  exact r
/-! errors whose context is None: a def that may raise one, its call -/
theorem takesN0 {X : Cx} : L2N.Takes X (fun _ _ _ _ => False) := fun _ _ ⟨_, _, _, _, _, _, _, _, _, _, _, _, _, _, _, _, w⟩ => w.elim
theorem okXN {P : Program} {w : World} {K : PySem.W.Frag} {mg : Str → Option Value} {base : Heap} {x : Str} {st : Stmt} {N ps : List Str} {k : Nat} {sp : Sp} (D : At K mg x st) (S : FnScope N ps (defScope st)) (hb : BindH st x ps) (len : ∀ vs H Q E, sp vs H Q E → vs.length = ps.length)
    (body : ∀ (f : Addr) (cdv : Value) (A : Around) (outer : List Env) (s : Shared) (H : Hp) (vs : List V) (Q : VK) (E : XK), Room k (A.deeper (envOfC x (defScope st) s.heap.objs.size f cdv)) → sp vs H Q E →
      ∃ t, PSs (cxOf (L2N.CX P w) P w K mg base N x (defScope st) f cdv A outer s H E) (defBody st) t ∧ t { nx := fun _ H' => Q .non H', rt := Q } (L2.start N vs) H) : Prom P w K mg base (L2N.CX P w) (k + 1) x ps sp := by
  obtain ⟨f, fd, F, g⟩ := D.ex
  refine ⟨f, fd, g, F.kp, F.binds hb, ?_, _, F⟩
  obtain ⟨oc, od, kV, doc, pm, an, cdv, ct, osl, rfl, lk, hcd⟩ := F.ex
  exact fn_of lk hcd S len fun A outer s H vs Q E hr hsp => body f cdv A outer s H vs Q E hr hsp
section
variable {X : Cx} {j k : Nat} {x : Str} {ps : List Str} {sp : Sp} {W : WX} {p pos : Pos} {e : Expr} {es : List Expr} {t : TA}
theorem pcallXN (hr : Room k X.A) (F : Prom X.prog X.w X.K X.mg X.base (L2N.CX X.prog X.w) j x ps sp) (tk : L2N.Takes X W) (ha : PA X (e :: es) t) (hg : Gl X x := by rfl) (hj : j ≤ k := by decide) (hdb : (x == ("__debug__" : Str)) = false := by decide)
    (he : starEach (e :: es) X.env = (false, eval e X.env) :: starEach es X.env := by rfl) (hpl : (backTo pos (starEach es X.env)).any (·.1) = false := by rfl) : PE X (.Call (.Name x p) (e :: es) [] pos) (tCallS sp (WE W) t) := by
  obtain ⟨f, fd, g, kp, b, G, _⟩ := F.ex
  exact pe_callS G (hr.mono hj) hg g kp b (fun σ => L2N.passAt tk σ) ha hdb he hpl
/-- a call of a def that may raise, here it does not -/
theorem passLN : Passes (L2N.CX X.prog X.w) X E0 := fun _ _ _ _ _ _ _ ⟨_, _, _, _, _, _, _, _, _, _, _, _, z⟩ => z.elim
theorem pcallNN (hr : Room k X.A) (F : Prom X.prog X.w X.K X.mg X.base (L2N.CX X.prog X.w) j x ps sp) (ha : PA X (e :: es) t) (hg : Gl X x := by rfl) (hj : j ≤ k := by decide) (hdb : (x == ("__debug__" : Str)) = false := by decide)
    (he : starEach (e :: es) X.env = (false, eval e X.env) :: starEach es X.env := by rfl) (hpl : (backTo pos (starEach es X.env)).any (·.1) = false := by rfl) : PE X (.Call (.Name x p) (e :: es) [] pos) (tCall sp [] E0 t) := by
  obtain ⟨f, fd, g, kp, b, G, _⟩ := F.ex
  exact pe_call G (hr.mono hj) hg g kp b .nil passLN ha hdb he hpl
end
end Kh
set_option maxHeartbeats 2000000
/-! own: all(..), any(..) of a generator expression over anything that is walked, its element any expression (own calls too). -/
namespace Kg
open PySem PySem.Spec PyProof.Rows L2 GenW

/-- the generator expression's own scope: ".0", the targets xs, captured names of the def -/
structure GnS (sc scope : Scope) (xs : List Str) : Prop where
  kind : scope.kind = .function
  co : scope.isCoroutine = false
  cell : ∀ y ∈ scope.names, y.2 ≠ .cell
  dot : scope.names.lookup (".0" : Str) = some .local
  own : ∀ y ∈ scope.names, y.2 = .local → y.1 = ".0" ∨ y.1 ∈ xs
  free : ∀ y ∈ scope.names, y.2 = .free → sc.names.lookup y.1 = some .cell ∨ sc.names.lookup y.1 = some .free
def gnSB (sc scope : Scope) (xs : List Str) : Bool :=
  decide (scope.kind = .function) && !scope.isCoroutine && decide (scope.names.lookup (".0" : Str) = some .local) && scope.names.all fun y => !decide (y.2 = .cell) && (!decide (y.2 = .local) || decide (y.1 = ".0") || decide (y.1 ∈ xs)) && (!decide (y.2 = .free) || decide (sc.names.lookup y.1 = some .cell) || decide (sc.names.lookup y.1 = some .free))
theorem gnS_by {sc scope : Scope} {xs : List Str} (h : gnSB sc scope xs = true) : GnS sc scope xs := by
  unfold gnSB at h
  simp only [Bool.and_eq_true, Bool.or_eq_true, Bool.not_eq_true', decide_eq_true_eq, decide_eq_false_iff_not, List.all_eq_true] at h
  obtain ⟨⟨⟨h1, h2⟩, h3⟩, h4⟩ := h
  refine ⟨h1, h2, fun y hy => (h4 y hy).1.1, h3, fun y hy e => ?_, fun y hy e => ?_⟩
  · rcases (h4 y hy).1.2 with (z | z) | z
    · exact absurd e z
    · exact .inl z
    · exact .inr z
  · rcases (h4 y hy).2 with (z | z) | z
    · exact absurd e z
    · exact .inl z
    · exact .inr z
theorem GnS.has {X : Cx} {scope : Scope} {xs : List Str} (L : GnS X.env.scope scope xs) (ok : X.Ok) : ∀ y ∈ scope.names, y.2 = .free → ∃ c, X.env.cells.lookup y.1 = some c := fun y hy e => by
  rcases L.free y hy e with k | k
  · exact ok.has _ (.inl k)
  · exact ok.has _ (.inr k)
/-- the maker's names as it sees them -/
def visB (sc : Scope) (x : Str) : Bool := decide (sc.names.lookup x = some .local) || decide (sc.names.lookup x = some .cell) || decide (sc.names.lookup x = some .free)
def mkB (sc : Scope) : List Str → List Str → Bool
  | [], [] => true
  | x :: xs, y :: ys => (decide (x = y) || !visB sc y) && mkB sc xs ys
  | _, _ => false
theorem mkB_len {sc : Scope} : ∀ {N N' : List Str}, mkB sc N N' = true → N.length = N'.length
  | [], [], _ => rfl
  | [], _ :: _, h => by cases h
  | _ :: _, [], h => by cases h
  | x :: xs, y :: ys, h => by
    unfold mkB at h
    rw [Bool.and_eq_true] at h
    rw [List.length_cons, List.length_cons, mkB_len h.2]
theorem mkB_at {sc : Scope} : ∀ {N N' : List Str}, mkB sc N N' = true → ∀ (i : Nat) (x : Str), N'[i]? = some x → Vis sc x → N[i]? = some x
  | [], [], _, _, _ => fun h => by simp at h
  | [], _ :: _, h, _, _ => by cases h
  | _ :: _, [], h, _, _ => by cases h
  | x :: xs, y :: ys, h, i, z => by
    unfold mkB at h
    rw [Bool.and_eq_true] at h
    cases i with
    | succ i =>
      rw [List.getElem?_cons_succ, List.getElem?_cons_succ]
      exact mkB_at h.2 i z
    | zero =>
      rw [List.getElem?_cons_zero, List.getElem?_cons_zero]
      have nv : ∀ u, visB sc u = false → ¬ Vis sc u := fun u hu v => by
        unfold visB at hu
        simp only [Bool.or_eq_false_iff, decide_eq_false_iff_not] at hu
        rcases v with v | v | v
        · exact hu.1.1 v
        · exact hu.1.2 v
        · exact hu.2 v
      have h1 := h.1
      rw [Bool.or_eq_true, decide_eq_true_eq, Bool.not_eq_true'] at h1
      rcases h1 with e | b
      · rw [e]
        exact fun e _ => e
      · exact fun e v => by cases e; exact (nv _ b v).elim
/-- its context, entered at s -/
def genCx (X : Cx) (A : Around) (xs M : List Str) (s : Shared) (H : Hp) (env : Env) (fp : List Addr) (pn : List (Addr × Obj)) : Cx where
  prog := X.prog
  w := X.w
  K := X.K
  mg := X.mg
  base := X.base
  A := A
  N := xs ++ M
  s_0 := s
  H_0 := H
  env := env
  outer := X.stack
  stack := env :: X.stack
  ex := fp
  fn := fun _ => false
  calm := true
  pn := pn
  xe := fun _ _ => False
abbrev gEnv (X : Cx) (scope : Scope) (C : Addr) (code : Value) : Env := genEnv scope (cloFrom X.env.cells scope.names []) C code builtinsNs X.env
def blank (xs : List Str) (σ : L2.St) : L2.St := xs.map (fun _ => none) ++ σ

section
variable {X : Cx} {pins : List (Addr × Obj)} {σ : L2.St} {H : Hp} {s : Shared}
theorem inv_gens {G : Array GenState} (I : Inv X pins σ H s) (hG : AllBare G) : Inv X pins σ H { s with gens := G } :=
  ⟨I.ok, I.os, hG, I.base, I.loc, I.cell, I.free, I.freeC, I.pin, I.hok, I.len⟩
theorem gen_start {A : Around} {xs M : List Str} {scope : Scope} {code : Value} {fp : List Addr} {a : Addr} {go : Obj} {itv : Value} {h₁ : Heap} {G : Array GenState} {tk : Nat}
    (I : Inv X pins σ H s) (L : GnS X.env.scope scope xs) (hM : mkB scope X.N M = true) (hN : ((".0" : Str) :: (xs ++ M)).Nodup) (hd : A.handled = none) (hf : A.frames = some (gEnv X scope s.heap.objs.size code :: X.stack))
    (hfp : ∀ b ∈ fp, FpOk X pins H b ∧ b < s.heap.objs.size) (hns : h₁.Ns s.heap.objs.size fun y => if y = ".0" then some itv else none) (kp : ∀ b o, s.heap.get? b = some o → h₁.get? b = some o)
    (ha : s.heap.objs.size < a) (hgo : h₁.get? a = some go) (hgd : ∀ v, go.data ≠ .cell v) (hG : AllBare G) :
    Inv (genCx X A xs M s H (gEnv X scope s.heap.objs.size code) fp [(a, go)]) [] (blank xs σ) H { s with heap := h₁, gens := G, toks := tk } := by
  have hfree := L.has I.ok
  have cm : ∀ {y c}, (cloFrom X.env.cells scope.names []).lookup y = some c → X.env.cells.lookup y = some c := fun {y c} e => by
    rcases cloFrom_mem (PySem.mem_of_lookup e) with hm | ⟨h1, h2⟩
    · cases hm
    · obtain ⟨c1, hc⟩ := hfree _ h1 rfl
      have hc : X.env.cells.lookup y = some c1 := hc
      have e2 : c = c1 := by
        rw [h2, hc] <;> rfl
      rw [e2]
      exact hc
  have look : ∀ {y}, scope.names.lookup y = some .free → ∃ c, (cloFrom X.env.cells scope.names []).lookup y = some c := fun {y} hl => by
    have hy : (y, NameKind.free) ∈ scope.names := PySem.mem_of_lookup hl
    exact mem_lookup (cloFrom_has (cells := X.env.cells) (acc := []) hy)
  have cellK : ∀ {c : Addr} {v : Option Value}, s.heap.IsCell c v → h₁.IsCell c v := fun {c v} ⟨o, ho, hd⟩ => ⟨o, kp _ _ ho, hd⟩
  have clt : ∀ {y c}, X.env.cells.lookup y = some c → c < s.heap.objs.size := fun {y c} e => by
    obtain ⟨v, z⟩ := I.cell y c e
    exact z.lt
  have fl : ∀ b ∈ fp, b ≠ s.heap.objs.size := fun b hb => Nat.ne_of_lt (hfp b hb).2
  refine ⟨⟨I.ok.mod, L.kind, I.ok.glob, rfl, Nat.le_refl _, fun y z c e1 e2 => I.ok.inj y z c (cm e1) (cm e2), fun y hy => ?_, fun y c z _ => ?_, fun _ => hd, hf, .inr ⟨rfl, rfl⟩, fun b hb => ⟨fl b hb, fun y c e z => ?_⟩, I.bs, Nat.le_trans I.ok.bsz I.sz, fun b o e hb => ?_,
      fun b hb z => ?_, I.stack, I.stkFree⟩,
    rfl, hG, Un.kept kp, ⟨_, hns, fun i y v e1 e2 e3 => ?_⟩, fun y c e => ?_, I.hok.fresh (Nat.le_refl _), fun y c e => ?_, fun q hq => ?_, I.hok.kept kp, ?_⟩
  · have hy : scope.names.lookup y = some .cell ∨ scope.names.lookup y = some .free := hy
    rcases hy with hy | hy
    · exact absurd rfl (L.cell _ (PySem.mem_of_lookup hy))
    · exact look hy
  · have z : false = true := z
    cases z
  · exact (hfp b hb).1.2.2.2.2.1 y c (cm e) z
  · rcases (hfp b hb).1.2.2.2.1 with z | z
    · exact I.ok.noex b o e z
    · exact absurd (Nat.lt_of_lt_of_le (Heap.lt_size e) (Nat.le_trans I.ok.bsz z)) (Nat.lt_irrefl _)
  · rcases List.mem_cons.mp (I.stkSub b z) with z | z
    · exact (hfp b hb).1.2.1 z
    · exact (hfp b hb).1.2.2.1 z
  · -- the slots
    have e1 : (xs ++ M)[i]? = some y := e1
    have e2 : (xs.map (fun _ => none) ++ σ)[i]? = some (some v) := e2
    have hi : xs.length ≤ i := by
      by_cases h : i < xs.length
      · rw [List.getElem?_append_left (by simpa using h)] at e2
        rw [List.getElem?_map] at e2
        cases q : xs[i]? with
        | none => rw [q] at e2; cases e2
        | some z => rw [q] at e2; cases e2
      · omega
    rw [List.getElem?_append_right hi] at e1
    rw [List.getElem?_append_right (by simpa using hi)] at e2
    have e2 : σ[i - xs.length]? = some (some v) := by simpa using e2
    have yN : y ∈ M := List.mem_of_getElem? e1
    have e1 := mkB_at hM _ _ e1 e3
    obtain ⟨n0, n1⟩ := List.nodup_cons.mp hN
    have y0 : y ≠ ".0" := fun z => n0 (by rw [← z]; exact List.mem_append_right _ yN)
    have yx : y ∉ xs := fun z => (List.nodup_append.mp n1).2.2 y z y yN rfl
    have e3 : Vis scope y := e3
    rcases e3 with k | k | k
    · rcases L.own _ (PySem.mem_of_lookup k) rfl with z | z
      · exact absurd z y0
      · exact absurd z yx
    · exact absurd rfl (L.cell _ (PySem.mem_of_lookup k))
    · obtain ⟨m, hn, hl⟩ := I.loc
      have hvis : Vis X.env.scope y := (L.free _ (PySem.mem_of_lookup k) rfl).elim (fun k => .inr (.inl k)) (fun k => .inr (.inr k))
      obtain ⟨w', r, q⟩ := hl _ y v e1 e2 hvis
      obtain ⟨c2, h2⟩ := look k
      refine ⟨w', r, .inr ⟨.inr k, c2, h2, ?_⟩⟩
      have c1 := cm h2
      rcases q with ⟨k', _⟩ | ⟨_, c3, e', z⟩
      · have k' : X.env.scope.names.lookup y = some .local := k'
        rcases L.free _ (PySem.mem_of_lookup k) rfl with k2 | k2 <;> rw [show X.env.scope.names.lookup y = _ from k2] at k' <;> cases k'
      · rw [c1] at e'
        cases e'
        exact cellK z
  · obtain ⟨w', z⟩ := I.cell y c (cm e)
    exact ⟨w', cellK z⟩
  · exact I.freeC y c (cm e)
  · have hq : q = (a, go) := by
      have hq : q ∈ [(a, go)] ++ ([] : List (Addr × Obj)) := hq
      simpa using hq
    subst hq
    refine ⟨hgo, I.hok.fresh (Nat.le_of_lt ha), Nat.ne_of_gt ha, fun z => ?_, hgd⟩
    rcases List.mem_cons.mp (I.stkSub a z) with z | z
    · have h1 := I.lt
      rw [← z] at h1
      exact Nat.lt_irrefl _ (Nat.lt_trans ha h1)
    · exact I.nofs (Nat.le_of_lt ha) z
  · show (xs.map (fun _ => none) ++ σ).length = (xs ++ M).length
    rw [List.length_append, List.length_append, List.length_map, I.len, mkB_len hM]
end
end Kg
namespace Kg
open PySem PySem.Spec PyProof.Rows L2 GenW
abbrev GE (elt tg iter : Expr) (scope : Scope) (pos : Pos) : Expr := .GeneratorExp elt [⟨tg, iter, [], 0⟩] scope pos
section
variable {Y : Cx} {σ0 : L2.St} {tn : Nat → Heap → Prop} {fp : List Addr} {Pv : Nat → Hp → Prop} {Qt Qf : Hp → Prop} {g n : Nat} {it : Addr} {tg elt iter : Expr} {scope : Scope} {pos : Pos} {A : Around}
/-- asleep at the place i -/
def Slp (Y : Cx) (σ0 : L2.St) (tn : Nat → Heap → Prop) (fp : List Addr) (Pv : Nat → Hp → Prop) (g i : Nat) (s : Shared) : Prop :=
  ∃ H, Inv Y [] σ0 H s ∧ tn i s.heap ∧ (∀ b ∈ fp, H b = none) ∧ Pv i H ∧ g < s.gens.size
theorem Slp.to {i : Nat} {s s' : Shared} (h : Slp Y σ0 tn fp Pv g i s) (hh : s'.heap = s.heap) (ho : s'.os = s.os) (hb : AllBare s'.gens) (hg : g < s'.gens.size) : Slp Y σ0 tn fp Pv g i s' := by
  obtain ⟨H, I, a, b, c, _⟩ := h
  refine ⟨H, ⟨I.ok, ho.trans I.os, hb, by rw [hh]; exact I.base, by rw [hh]; exact I.loc, by rw [hh]; exact I.cell, I.free, I.freeC, by rw [hh]; exact I.pin, by rw [hh]; exact I.hok, I.len⟩, by rw [hh]; exact a, b, c, hg⟩
/-- an element is handed out: true, and it sleeps, or false -/
def GY (Y : Cx) (σ0 : L2.St) (tn : Nat → Heap → Prop) (fp : List Addr) (Pv : Nat → Hp → Prop) (Qf : Hp → Prop) (g n : Nat) (bf : Bool) : Protocol := fun m s₀ v s kap =>
  g < s.gens.size ∧ ((v = .bool (!bf) ∧ Slp Y σ0 tn fp Pv g (n - m) s ∧ ∀ s'', Slp Y σ0 tn fp Pv g (n - m) s'' → kap (.send .none) s'') ∨ (v = .bool bf ∧ ∃ σ H, Inv Y [] σ H s ∧ Qf H))
def GE0 (Y : Cx) (Qt : Hp → Prop) : Nat → Shared → Shared → Prop := fun _ _ s => ∃ σ H, Inv Y [] σ H s ∧ Qt H
theorem seg_loop {gg : TG} {te : TE} {J : It} {bf : Bool} (hA : A.over (.compLoop (GE elt tg iter scope pos) 0 (.ref it) .none Y.env) [] = Y.A) (hc : Y.calm = true) (T : Turn Y.prog Y.w Y.K tg J fp it tn)
    (hfx : ∀ b ∈ fp, b ∈ Y.ex) (hfpn : ∀ b ∈ fp, ∀ p ∈ Y.pn, p.1 ≠ b) (pg : PG Y tg gg) (pe : PE Y elt te) (hxe : Y.xe = fun _ _ => False) (hco : Y.env.scope.isCoroutine = false)
    (hw : ∀ {σ : L2.St} {H : Hp} {s : Shared}, Inv Y [] σ H s → Inv Y [] σ0 H s → True)
    (turn : ∀ i H, i ≤ n → Pv i H → (i = n ∧ J.stop i H ∧ Qt H) ∨ (i < n ∧ J.go i H ∧ ∀ x H', J.yld i H x H' → gg x σ0 H' fun σ2 H2 => (∀ (j : Nat) (v : V), σ0[j]? = some (some v) → σ2[j]? = some (some v)) ∧ te σ2 H2 fun v H3 => ∃ b, v = .bl b ∧ if b = bf then Qf H3 else Pv (i + 1) H3)) :
    ∀ (k i : Nat) (s₀ s : Shared), n - i = k → i ≤ n → Slp Y σ0 tn fp Pv g i s →
      Seg (model Y.prog Y.w) A (fun n s₀ r s₁ => r = .ok .next ∧ GE0 Y Qt n s₀ s₁) (GY Y σ0 tn fp Pv Qf g n bf) k s₀ (.compLoop (GE elt tg iter scope pos) 0 (.ref it) .none Y.env) ((model Y.prog Y.w).den (.compLoop (GE elt tg iter scope pos) 0 (.ref it) .none Y.env)) [] s := by
  have stat : ∀ {σ' : L2.St} {H' : Hp} {s' : Shared}, Inv Y [] σ' H' s' → (∀ b ∈ fp, H' b = none) → ∀ b ∈ fp, FpOk Y [] H' b := fun {σ' H' s'} I' hn b hb =>
    ⟨hn b hb, (I'.ok.exf b (hfx b hb)).1, I'.ok.exfs b (hfx b hb), .inl (hfx b hb), fun x c e => (I'.ok.exf b (hfx b hb)).2 x c e, fun p hp => hfpn b hb p (by simpa using hp)⟩
  intro k
  induction k with
  | zero =>
    intro i s₀ s hk hi hst
    obtain ⟨H, I, st, fr, pv, _⟩ := hst
    rcases turn i H hi pv with ⟨e, stop, q⟩ | ⟨lt, _⟩
    · show Seg _ A _ _ _ s₀ _ ((compTurn (GE elt tg iter scope pos) 0 (.ref it) .none Y.env).onRaise (leaving Y.env)) [] s
      rw [compTurn_gen, Sem.onRaise_eq_wrap]
      refine seg_bind_wrap (wpAny_standAt ?_)
      refine seg_bind_wrap ?_
      rw [hA]
      refine wpAny_mono (T.done Y rfl rfl rfl hc i [] s σ0 H (fun _ _ => False) I (stat I fr) st stop) (fun r s1 ⟨hr, I1⟩ => ?_) fun _ _ z => z.elim
      subst hr
      exact seg_end (.ok .next) ⟨rfl, _, _, I1, q⟩
    · omega
  | succ k ih =>
    intro i s₀ s hk hi hst
    obtain ⟨H, I, st, fr, pv, hg⟩ := hst
    rcases turn i H hi pv with ⟨e, _⟩ | ⟨lt, go, step⟩
    · omega
    · show Seg _ A _ _ _ s₀ _ ((compTurn (GE elt tg iter scope pos) 0 (.ref it) .none Y.env).onRaise (leaving Y.env)) [] s
      rw [compTurn_gen, Sem.onRaise_eq_wrap]
      refine seg_bind_wrap (wpAny_standAt ?_)
      refine seg_bind_wrap ?_
      rw [hA]
      refine wpAny_gsz (n := g + 1) hg (wpAny_mono (T.item Y rfl rfl rfl hc i [] s σ0 H (fun _ _ => False) I (stat I fr) st go) (fun r s1 ⟨u, hr, h1⟩ hg1 => ?_) fun _ _ z => z.elim)
      subst hr
      refine seg_bind_wrap ?_
      rw [hA]
      refine wpAny_gsz (n := g + 1) hg1 (wpAny_mono h1 (fun _ s2 ⟨x, H2, I2, r2, y2, st2, fr2⟩ hg2 => ?_) fun _ _ z => z.elim)
      have I2' := I2.pinned (stat I2 fr2) (T.obj _ _ st2)
      refine seg_bind_wrap ?_
      rw [hA]
      refine wpAny_gsz (n := g + 1) hg2 (wpAny_mono (pg.run _ s2 σ0 H2 x u _ I2' r2 (step x H2 y2)) (fun _ s3 ⟨σ3, H3, I3, hw3, q3⟩ hg3 => ?_) fun _ _ z => by rw [hxe] at z; exact z.elim)
      simp only [List.forIn_nil]
      refine seg_bind_wrap (wpAny_pure ?_)
      simp only [if_true]
      have hy : ∀ v, yieldOut Y.env v = yieldValue v := fun v => by simp only [yieldOut, hco, Bool.false_eq_true, if_false]
      simp only [hy]
      rw [Sem.bind_eq_wrap', Sem.bind_eq_wrap', Sem.wrap_wrap, Sem.wrap_wrap]
      refine seg_wrap ?_
      rw [hA]
      refine wpAny_gsz (n := g + 1) hg3 (wpAny_mono (pe.run _ s3 σ3 H3 _ I3 q3) (fun y s4 ⟨v, H4, I4, r4, b, hv, q4⟩ hg4 => ?_) fun _ _ z => by rw [hxe] at z; exact z.elim)
      subst hv
      obtain rfl : y = .bool b := r4
      refine seg_at (seg_yield rfl rfl rfl ⟨hg4, ?_⟩)
      have hk' : n - k = i + 1 := by omega
      by_cases hb : b = bf
      · subst hb
        rw [if_pos rfl] at q4
        exact .inr ⟨rfl, _, _, I4.unpinned, q4⟩
      · rw [if_neg hb] at q4
        have eb : b = !bf := by clear q4; revert hb; cases b <;> cases bf <;> first | exact fun _ => rfl | exact fun z => absurd rfl z
        refine .inl ⟨by rw [eb], ?_, fun s'' hs'' => ?_⟩
        · rw [hk']
          refine ⟨H4, I4.unpinned.weak ?_ hw3, T.keep _ _ _ st2 fun b hb o e => (I4.pin (b, o) (List.mem_append_right _ (List.mem_append_right _ (mem_pinsAt hb e)))).1, fun b hb => ?_, q4, hg4⟩
          · rw [I.len, I4.len]
          · obtain ⟨o, e, d⟩ := T.obj _ _ st2 b hb
            exact (I4.pin (b, o) (List.mem_append_right _ (List.mem_append_right _ (mem_pinsAt hb e)))).2.1
        · rw [hk'] at hs''
          exact seg_again rfl (ih (i + 1) s'' s'' (by omega) lt hs'')
end
end Kg
namespace Kg
open PySem PySem.Spec PyProof.Rows L2 GenW
section
variable {Y : Cx} {σ0 : L2.St} {tn : Nat → Heap → Prop} {fp : List Addr} {Pv : Nat → Hp → Prop} {Qt Qf : Hp → Prop} {g n : Nat} {it a : Addr} {go : Obj} {bf : Bool} {A B : Around}
abbrev GRn (Y : Cx) (Qt : Hp → Prop) : GenEnd := fun n s₀ r s₁ => r = .ok .next ∧ GE0 Y Qt n s₀ s₁
/-- ready to be walked on, i elements are out -/
def Aw (Y : Cx) (A : Around) (σ0 : L2.St) (tn : Nat → Heap → Prop) (fp : List Addr) (Pv : Nat → Hp → Prop) (Qt Qf : Hp → Prop) (g n : Nat) (bf : Bool) (i : Nat) (s : Shared) : Prop :=
  Slp Y σ0 tn fp Pv g i s ∧ ∃ gs, s.gens[g]? = some gs ∧ gs.Goes (model Y.prog Y.w) A (GRn Y Qt) (GY Y σ0 tn fp Pv Qf g n bf) (n - i) (.send .none) (s.setGen g .running)
theorem gen_next {i : Nat} {s : Shared} {E : Value → Shared → Prop} {Q : Option Value → Shared → Prop} (hh : A.handled = none) (hroom : A.depth < recursionLimit) (hpn : Y.pn = [(a, go)])
    (hgen : ∀ h : Heap, h.get? a = some go → h.IsGen a g) (hi : i ≤ n) (h : Aw Y A.in1 σ0 tn fp Pv Qt Qf g n bf i s)
    (hY : ∀ s', i < n → Aw Y A.in1 σ0 tn fp Pv Qt Qf g n bf (i + 1) s' → Q (some (.bool (!bf))) s') (hF : ∀ s' σ H, Inv Y [] σ H s' → Qf H → Q (some (.bool bf)) s') (hD : ∀ s' σ H, Inv Y [] σ H s' → Qt H → Q none s') :
    wpAny (model Y.prog Y.w) A (pyNext (.ref a)) Q E s := by
  have pin : ∀ {σ : L2.St} {H : Hp} {s' : Shared}, Inv Y [] σ H s' → s'.heap.get? a = some go := fun I => (I.pin (a, go) (by rw [hpn]; simp)).1
  obtain ⟨⟨H, I, st, fr, pv, hg⟩, gs, e1, goes⟩ := h
  refine wpAny_pyNext_genexpQ hh I.nolimit hroom (hgen _ (pin I)) e1 goes (fun v s1 gs' hb hy => ?_) fun s1 hp h' hk => ?_
  · obtain ⟨hg1, hy⟩ := hy
    rcases hy with ⟨rfl, sl, kap⟩ | ⟨rfl, σ2, H2, I2, q2⟩
    · have sl0 := sl
      obtain ⟨H2, I2, _⟩ := sl0
      have b2 := allBare_setGen (g := g) I2.bare hb
      have sz2 : g < (s1.setGen g gs').gens.size := by rw [setGen_size]; exact hg1
      by_cases hlt : i < n
      · have em : n - (n - i - 1) = i + 1 := by omega
        rw [em] at sl kap
        refine hY _ hlt ⟨sl.to rfl rfl b2 sz2, gs', setGen_at hg1, ?_⟩
        have eq : n - i = (n - (i + 1)) + 1 := by omega
        rw [eq] at kap
        exact kap _ (sl.to rfl rfl (allBare_setGen b2 rfl) (by rw [setGen_size, setGen_size]; exact hg1))
      · have eq : n - i = 0 := by omega
        rw [eq] at kap sl
        exact (kap _ sl).elim
    · exact hF _ σ2 H2 (inv_gens I2 (allBare_setGen I2.bare hb)) q2
  · obtain ⟨σ2, H2, I2, q2⟩ := hp
    exact hD _ σ2 H2 (inv_gens (s := { s1 with heap := h' }) (I2.kept (t' := s1.toks) hk) (allBare_setGen I2.bare rfl)) q2
theorem all_loop {R : Result → Shared → Prop} (hh : A.handled = none) (hroom : A.depth < recursionLimit) (hpn : Y.pn = [(a, go)])
    (hgen : ∀ h : Heap, h.get? a = some go → h.IsGen a g) (hF : ∀ s' σ H, Inv Y [] σ H s' → Qf H → R (.ok (.ret (.bool false))) s') (hD : ∀ s' σ H, Inv Y [] σ H s' → Qt H → R (.ok (.ret (.bool true))) s') :
    ∀ (k i : Nat) (s : Shared), n - i = k → i ≤ n → Aw Y A.in1.in1 σ0 tn fp Pv Qt Qf g n false i s → codeAny (model Y.prog Y.w) A (.builtin "all.loop" ⟨[.ref a], []⟩) R s := by
  intro k
  induction k with
  | zero =>
    intro i s hk hi h
    refine codeAny_builtin F.entry_all_loop ?_
    rw [Around.under_plainId F.plain_all_loop _]
    show wpAny _ A.in1 (pyNext (.ref a) >>= _) _ _ s
    refine wpAny_bind (gen_next (A := A.in1) hh hroom hpn hgen hi h (fun s' hlt _ => by omega) (fun s' σ H I q => ?_) fun s' σ H I q => ?_)
    · refine wpAny_bind (wpAny_holding (wpAny_truthy_bool ?_))
      refine wpAny_bind (wpAny_letGo ?_)
      simp only [Bool.false_eq_true, if_false]
      exact wpAny_bind (wpAny_rule (wpAny_pure (hF s' σ H I q)))
    · exact wpAny_bind (wpAny_rule (wpAny_pure (hD s' σ H I q)))
  | succ k ih =>
    intro i s hk hi h
    refine codeAny_builtin F.entry_all_loop ?_
    rw [Around.under_plainId F.plain_all_loop _]
    show wpAny _ A.in1 (pyNext (.ref a) >>= _) _ _ s
    refine wpAny_bind (gen_next (A := A.in1) hh hroom hpn hgen hi h (fun s' hlt aw => ?_) (fun s' σ H I q => ?_) fun s' σ H I q => ?_)
    · refine wpAny_bind (wpAny_holding (wpAny_truthy_bool ?_))
      refine wpAny_bind (wpAny_letGo ?_)
      simp only [Bool.not_false, if_true]
      exact wpAny_pure ⟨plainId_quiet F.plain_all_loop _, ih (i + 1) _ (by omega) hlt aw⟩
    · refine wpAny_bind (wpAny_holding (wpAny_truthy_bool ?_))
      refine wpAny_bind (wpAny_letGo ?_)
      simp only [Bool.false_eq_true, if_false]
      exact wpAny_bind (wpAny_rule (wpAny_pure (hF s' σ H I q)))
    · exact wpAny_bind (wpAny_rule (wpAny_pure (hD s' σ H I q)))
theorem any_loop {R : Result → Shared → Prop} (hh : A.handled = none) (hroom : A.depth < recursionLimit) (hpn : Y.pn = [(a, go)])
    (hgen : ∀ h : Heap, h.get? a = some go → h.IsGen a g) (hF : ∀ s' σ H, Inv Y [] σ H s' → Qf H → R (.ok (.ret (.bool true))) s') (hD : ∀ s' σ H, Inv Y [] σ H s' → Qt H → R (.ok (.ret (.bool false))) s') :
    ∀ (k i : Nat) (s : Shared), n - i = k → i ≤ n → Aw Y A.in1.in1 σ0 tn fp Pv Qt Qf g n true i s → codeAny (model Y.prog Y.w) A (.builtin "any.loop" ⟨[.ref a], []⟩) R s := by
  intro k
  induction k with
  | zero =>
    intro i s hk hi h
    refine codeAny_builtin F.entry_any_loop ?_
    rw [Around.under_plainId F.plain_any_loop _]
    show wpAny _ A.in1 (pyNext (.ref a) >>= _) _ _ s
    refine wpAny_bind (gen_next (A := A.in1) hh hroom hpn hgen hi h (fun s' hlt _ => by omega) (fun s' σ H I q => ?_) fun s' σ H I q => ?_)
    · refine wpAny_bind (wpAny_holding (wpAny_truthy_bool ?_))
      refine wpAny_bind (wpAny_letGo ?_)
      simp only [if_true]
      exact wpAny_bind (wpAny_rule (wpAny_pure (hF s' σ H I q)))
    · exact wpAny_bind (wpAny_rule (wpAny_pure (hD s' σ H I q)))
  | succ k ih =>
    intro i s hk hi h
    refine codeAny_builtin F.entry_any_loop ?_
    rw [Around.under_plainId F.plain_any_loop _]
    show wpAny _ A.in1 (pyNext (.ref a) >>= _) _ _ s
    refine wpAny_bind (gen_next (A := A.in1) hh hroom hpn hgen hi h (fun s' hlt aw => ?_) (fun s' σ H I q => ?_) fun s' σ H I q => ?_)
    · refine wpAny_bind (wpAny_holding (wpAny_truthy_bool ?_))
      refine wpAny_bind (wpAny_letGo ?_)
      simp only [Bool.not_true, Bool.false_eq_true, if_false]
      exact wpAny_pure ⟨plainId_quiet F.plain_any_loop _, ih (i + 1) _ (by omega) hlt aw⟩
    · refine wpAny_bind (wpAny_holding (wpAny_truthy_bool ?_))
      refine wpAny_bind (wpAny_letGo ?_)
      simp only [if_true]
      exact wpAny_bind (wpAny_rule (wpAny_pure (hF s' σ H I q)))
    · exact wpAny_bind (wpAny_rule (wpAny_pure (hD s' σ H I q)))
end
end Kg
namespace Kg
open PySem PySem.Spec PyProof.Rows L2 GenW
section
variable {Y : Cx} {σ0 : L2.St} {tn : Nat → Heap → Prop} {fp : List Addr} {Pv : Nat → Hp → Prop} {Qt Qf : Hp → Prop} {g n : Nat} {it : Addr} {tg elt iter : Expr} {scope : Scope} {pos : Pos} {A : Around}
theorem seg_start {R : GenEnd} {P : Protocol} {J : It} {k : Nat} {s₀ s : Shared} (T : Turn Y.prog Y.w Y.K tg J fp it tn) (st : tn 0 s.heap)
    (loop : Seg (model Y.prog Y.w) A R P k s₀ (.compLoop (GE elt tg iter scope pos) 0 (.ref it) .none Y.env) ((model Y.prog Y.w).den (.compLoop (GE elt tg iter scope pos) 0 (.ref it) .none Y.env)) [] s) :
    Seg (model Y.prog Y.w) A R P k s₀ (.compStart (GE elt tg iter scope pos) 0 (.ref it) .none Y.env) ((model Y.prog Y.w).den (.compStart (GE elt tg iter scope pos) 0 (.ref it) .none Y.env)) [] s := by
  show Seg _ A _ _ _ s₀ _ ((compStart (GE elt tg iter scope pos) 0 (.ref it) .none Y.env).onRaise (leaving Y.env)) [] s
  unfold compStart
  rw [Sem.onRaise_eq_wrap]
  show Seg _ A _ _ _ s₀ _ ((ask >>= _).wrap _ _ _ _) [] s
  refine seg_bind_wrap (wpAny_askSetting ?_)
  split
  · exact seg_again rfl loop
  · first
      | exact seg_bind_wrap (wpAny_rule (seg_bind_wrap (wpAny_standAt (seg_bind_wrap (T.self _ 0 _ _ _ st (seg_again rfl loop))))))
      | (refine seg_bind_wrap (wpAny_rule ?_); show Seg _ A _ _ _ s₀ _ ((standAt iter.pos >>= _).wrap _ _ _ _) [] s; exact seg_bind_wrap (wpAny_standAt (seg_bind_wrap (T.self _ 0 _ _ _ st (seg_again rfl loop)))))
end
/-- the around of a generator expression's frame -/
theorem over_comp {A : Around} {elt tg iter : Expr} {scope : Scope} {pos : Pos} {it : Value} {env : Env} : A.over (.compLoop (GE elt tg iter scope pos) 0 it .none env) [] = A.deeper env := by
  first
    | rfl
    | (obtain ⟨hd, d, fr, gs, u⟩ := A; simp [Around.over, Around.deeper, marksOver, frameCount, unitsOf, envsOf, guardsOf, pushEnvs, pushGuards, Code.envs, Code.env?, Code.isFrame, Code.guards, Code.isGuard, Code.weight, Code.frames, Code.isCreation, Code.isCaller, Code.cUnits])
section
variable {X : Cx} {pins : List (Addr × Obj)} {σ : L2.St} {H : Hp} {s : Shared}
/-- what a walk of the generator expression is wanted to bring: bf is the element that ends it -/
def Wlk (J : It) (gg : TG) (te : TE) (σ0 : L2.St) (bf : Bool) (Qt Qf : Hp → Prop) (H2 : Hp) : Prop := ∃ (n : Nat) (Pv : Nat → Hp → Prop), Pv 0 H2 ∧ ∀ i H, i ≤ n → Pv i H →
  (i = n ∧ J.stop i H ∧ Qt H) ∨ (i < n ∧ J.go i H ∧ ∀ x H', J.yld i H x H' → gg x σ0 H' fun σ2 H2 => (∀ (j : Nat) (v : V), σ0[j]? = some (some v) → σ2[j]? = some (some v)) ∧ te σ2 H2 fun v H3 => ∃ b, v = .bl b ∧ if b = bf then Qf H3 else Pv (i + 1) H3)
/-- the generator, ready to be walked -/
def Rdy (X : Cx) (pins : List (Addr × Obj)) (σ : L2.St) (bf : Bool) (Qt Qf : Hp → Prop) (a : Addr) (s5 : Shared) : Prop :=
  ∃ (Y : Cx) (σ0 : L2.St) (tn : Nat → Heap → Prop) (fp : List Addr) (Pv : Nat → Hp → Prop) (g n : Nat) (go : Obj),
    Y.prog = X.prog ∧ Y.w = X.w ∧ Y.pn = [(a, go)] ∧ (∀ h : Heap, h.get? a = some go → h.IsGen a g) ∧ Aw Y X.A.in1.in1 σ0 tn fp Pv Qt Qf g n bf 0 s5 ∧ (∀ σ' H' s', Inv Y [] σ' H' s' → Inv X pins σ H' s')
theorem gen_any {elt tg iter : Expr} {gpos : Pos} {scope : Scope} {xs M : List Str} {wi : TI} {gg : TG} {te : TE} {c P : Addr} {k : Nat} {bf : Bool} {Qt Qf : Hp → Prop} {Q' : Value → Shared → Prop}
    (hr : Room (k + 1) X.A) (hc : X.calm = true) (TB : LamX.TabB X.base X.mg c P) (hcode : X.env.code = .ref c) (L : GnS X.env.scope scope xs) (hM : mkB scope X.N M = true) (hN : ((".0" : Str) :: (xs ++ M)).Nodup) (hi : PI X tg iter wi)
    (hg : ∀ (A : Around) (s : Shared) (H : Hp) (C : Addr) (code : Value) (fp : List Addr) (pn : List (Addr × Obj)), PG (genCx X A xs M s H (gEnv X scope C code) fp pn) tg gg)
    (he : ∀ (A : Around) (s : Shared) (H : Hp) (C : Addr) (code : Value) (fp : List Addr) (pn : List (Addr × Obj)), Room k A → PE (genCx X A xs M s H (gEnv X scope C code) fp pn) elt te)
    (hs : ∀ v, genFold iter X.env v = pure v) (I : Inv X pins σ H s)
    (h : wi σ H fun J H1 => GxR.TabG H1 P ∧ ∀ H2, GxR.Tabbed P H1 H2 → Wlk J gg te (blank xs σ) bf Qt Qf H2)
    (hQ : ∀ a s5, Rdy X pins σ bf Qt Qf a s5 → Q' (.ref a) s5) :
    wpAny (model X.prog X.w) X.A (eval (.GeneratorExp elt [⟨tg, iter, [], 0⟩] scope gpos) X.env) Q' X.xe s := by
  refine wpAny_GeneratorExp_make L.co (closure_ok (L.has I.ok)) L.cell L.dot L.kind hr.depth ?_ hs
  refine thn (hi.run pins s σ H _ I h) fun xv s1 hx => thn hx fun itv s2 h2 => ?_
  obtain ⟨it, fp, tn, J, H1, e, I1, T, st1, f1, ⟨ps, hP, ht⟩, wk⟩ := h2
  subst e
  have hPs : s2.heap.get? P = some { cls := .none, data := .fields ps } := I1.hok P _ hP
  have cd : PySem.W.CodeHd s2.heap c P := TB.code.keeps fun b u e => I1.bk b u e
  have sz : ∀ b ∈ fp, b < s2.heap.objs.size := fun b hb => by
    obtain ⟨o, e, _⟩ := T.obj _ _ st1 b hb
    exact Heap.lt_size e
  have fP : ∀ b ∈ fp, b ≠ P := fun b hb z => by
    have q := (f1 b hb).1
    rw [z, hP] at q
    cases q
  have cont : ∀ (code : Value) (h3 : Heap) (tk : Nat) (ps' : Array Value), Heap.ExtBut P s2.heap h3 → s2.heap.objs.size ≤ h3.objs.size → h3.get? P = some { cls := .none, data := .fields ps' } → (∃ more, ps' = ps ++ more) → TriplesOk ps'.toList →
      wpAny (model X.prog X.w) X.A (builtinsFor X.env.globals X.env.builtins) (fun bi s₄ =>
        ∀ h', h'.Ns s₄.heap.objs.size (fun y => if y = ".0" then some (.ref it) else none) → Heap.SameBut s₄.heap.objs.size (s₄.heap.push { cls := .type "frame", data := .dict #[] }) h' →
          Q' (.ref h'.objs.size) { s₄ with
            gens := s₄.gens.push (.fresh (.compStart (.GeneratorExp elt [⟨tg, iter, [], 0⟩] scope gpos) 0 (.ref it) .none (genEnv scope (cloFrom X.env.cells scope.names []) s₄.heap.objs.size code bi X.env))),
            toks := s₄.toks + 1 + 1 + 1,
            heap := h'.push { cls := .type "generator", data := .fields #[.int s₄.gens.size 0, .str "<genexpr>" (s₄.toks + 1), .str (X.env.qual ++ "<genexpr>") (s₄.toks + 1 + 1)] } }) X.xe { s2 with heap := h3, toks := tk } := by
    intro code h3 tk ps' hx hsz hP3 hmore ht3
    obtain ⟨bm, ob, e1, e2, e3, e4, e5, e6, e7, e8⟩ := TB.bm
    have keep3 : ∀ b u, b ≠ P → s2.heap.get? b = some u → h3.get? b = some u := fun b u hb e => hx b u hb e
    refine wpAny_builtinsFor (m := X.mg) (by rw [I1.ok.glob]; exact (I1.mod.glob.keeps I1.bk).extBut hx TB.gP) e1 e2 (keep3 _ _ e4 (I1.bk _ _ e5)) e6 e7 e8 ?_
    intro h' hns hsb
    obtain ⟨more, em⟩ := hmore
    -- the table has grown
    have I3 := GxR.inv_tab (more := more) (h' := h3) (g' := s2.gens) (d' := s2.drawn) (t' := tk) I1 hP keep3 (by rw [← em]; exact hP3) I1.bare
    have hT : GxR.Tabbed P H1 (upd H1 P (.tbl (ps ++ more))) := ⟨⟨ps ++ more, upd_same, by rw [← em]; exact ht3⟩, fun b hb => upd_ne hb⟩
    obtain ⟨n, Pv, p0, turn⟩ := wk _ hT
    generalize hH3 : upd H1 P (.tbl (ps ++ more)) = H3 at I3 p0 hT
    generalize hs3 : ({ s2 with heap := h3, gens := s2.gens, drawn := s2.drawn, toks := tk } : Shared) = s3 at I3
    have es3 : s3 = { s2 with heap := h3, toks := tk } := by rw [← hs3]
    have hns : h'.Ns s3.heap.objs.size (fun y => if y = ".0" then some (.ref it) else none) := by rw [← hs3]; exact hns
    have hsb : Heap.SameBut s3.heap.objs.size (s3.heap.push { cls := .type "frame", data := .dict #[] }) h' := by rw [← hs3]; exact hsb
    have hs3h : s3.heap = h3 := by rw [es3]
    have hs3g : s3.gens = s2.gens := by rw [es3]
    have st3 : tn 0 s3.heap := T.keep _ _ _ st1 fun b hb o e => by rw [hs3h]; exact keep3 b o (fP b hb) e
    have f3 : ∀ b ∈ fp, FpOk X pins H3 b ∧ b < s3.heap.objs.size := fun b hb => by
      refine ⟨⟨?_, (f1 b hb).2⟩, by rw [hs3h]; exact Nat.lt_of_lt_of_le (sz b hb) hsz⟩
      rw [← hH3, upd_ne (fP b hb)]
      exact (f1 b hb).1
    have hsz' : h'.objs.size = s3.heap.objs.size + 1 := by rw [hsb.1, Heap.size_push]
    have kp' : ∀ b o, s3.heap.get? b = some o → h'.get? b = some o := fun b o e => hsb.extBut b o (Nat.ne_of_lt (Heap.lt_size e)) (Heap.get?_push_of_some _ e)
    generalize hgo : ({ cls := .type "generator", data := .fields #[.int s3.gens.size 0, .str "<genexpr>" (s3.toks + 1), .str (X.env.qual ++ "<genexpr>") (s3.toks + 1 + 1)] } : Obj) = go
    have kp : ∀ b o, s3.heap.get? b = some o → (h'.push go).get? b = some o := fun b o e => Heap.get?_push_of_some _ (kp' b o e)
    have hba : AllBare (s3.gens.push (.fresh (.compStart (.GeneratorExp elt [⟨tg, iter, [], 0⟩] scope gpos) 0 (.ref it) .none (gEnv X scope s3.heap.objs.size code)))) := by
      rw [hs3g]; exact I1.bare.push rfl
    have hgo2 : (h'.push go).get? h'.objs.size = some go := Heap.get?_push_size _ (by rw [← hgo]; rfl)
    have dne : ∀ v, go.data ≠ .cell v := fun v z => by rw [← hgo] at z; cases z
    have I5 := gen_start (A := X.A.in1.in1.deeper (gEnv X scope s3.heap.objs.size code)) (xs := xs) (code := code) (fp := fp) (a := h'.objs.size) (go := go) (tk := s3.toks + 1 + 1 + 1) I3 L hM hN hr.hd (Around.frames_deeper I3.ok.frames) f3 (hns.push _) kp (by omega) hgo2 dne hba
    generalize hY : genCx X (X.A.in1.in1.deeper (gEnv X scope s3.heap.objs.size code)) xs M s3 H3 (gEnv X scope s3.heap.objs.size code) fp [(h'.objs.size, go)] = Y at I5
    have rY : Room k (X.A.in1.in1.deeper (gEnv X scope s3.heap.objs.size code)) := ⟨hr.hd, by have := hr.dp; show X.A.depth + 1 + 3 * k + 5 < _; omega, by have := hr.un; show X.A.units + 1 + 1 + 3 + 16 * k + 200 < _; omega⟩
    have pgY := hg (X.A.in1.in1.deeper (gEnv X scope s3.heap.objs.size code)) s3 H3 s3.heap.objs.size code fp [(h'.objs.size, go)]
    have peY := he (X.A.in1.in1.deeper (gEnv X scope s3.heap.objs.size code)) s3 H3 s3.heap.objs.size code fp [(h'.objs.size, go)] rY
    rw [hY] at pgY peY
    have y1 : Y.prog = X.prog := by rw [← hY]; rfl
    have y2 : Y.w = X.w := by rw [← hY]; rfl
    have y3 : Y.K = X.K := by rw [← hY]; rfl
    have y4 : Y.env = gEnv X scope s3.heap.objs.size code := by rw [← hY]; rfl
    have y5 : Y.pn = [(h'.objs.size, go)] := by rw [← hY]; rfl
    have y6 : Y.ex = fp := by rw [← hY]; rfl
    have y7 : Y.xe = fun _ _ => False := by rw [← hY]; rfl
    have y8 : Y.calm = true := by rw [← hY]; rfl
    have y9 : Y.A = X.A.in1.in1.deeper (gEnv X scope s3.heap.objs.size code) := by rw [← hY]; rfl
    have gsz : ∀ {i : Nat}, i < h'.objs.size + 1 → True := fun _ => trivial
    have hpn : ∀ b ∈ fp, ∀ p ∈ Y.pn, p.1 ≠ b := fun b hb p hp => by
      rw [y5] at hp
      have hp : p = (h'.objs.size, go) := by simpa using hp
      rw [hp]
      exact fun z => absurd (f3 b hb).2 (by rw [← (show h'.objs.size = b from z), hsz']; exact Nat.not_lt.mpr (Nat.le_succ _))
    have hTY : Turn Y.prog Y.w Y.K tg J fp it tn := by rw [y1, y2, y3]; exact T
    have hgg : s3.gens.size < (s3.gens.push (.fresh (.compStart (.GeneratorExp elt [⟨tg, iter, [], 0⟩] scope gpos) 0 (.ref it) .none (gEnv X scope s3.heap.objs.size code)))).size := by rw [Array.size_push]; omega
    refine hQ _ _ ⟨Y, blank xs σ, tn, fp, Pv, s3.gens.size, n, go, y1, y2, y5, fun h e => ⟨go, _, _, e, by rw [← hgo], by rw [← hgo], by rw [← hgo]⟩, ⟨⟨H3, I5, T.keep _ _ _ st3 fun b _ o e => kp b o e, fun b hb => (f3 b hb).1.1, p0, hgg⟩, _, Array.getElem?_push_size .., rfl, ?_⟩, fun σ' H' s' I' => ?_⟩
    ·
      have sl : Slp Y (blank xs σ) tn fp Pv s3.gens.size 0 (({ s3 with gens := s3.gens.push (.fresh (.compStart (.GeneratorExp elt [⟨tg, iter, [], 0⟩] scope gpos) 0 (.ref it) .none (gEnv X scope s3.heap.objs.size code))), toks := s3.toks + 1 + 1 + 1, heap := h'.push go } : Shared).setGen s3.gens.size .running) :=
        ⟨H3, inv_gens I5 (allBare_setGen I5.bare rfl), T.keep _ _ _ st3 fun b _ o e => kp b o e, fun b hb => (f3 b hb).1.1, p0, by rw [setGen_size]; exact hgg⟩
      have sg := fun s₀ => seg_start (s₀ := s₀) hTY (T.keep _ _ _ st3 fun b _ o e => kp b o e) (seg_loop (J := J) (by rw [y9, y4]; exact over_comp (elt := elt) (tg := tg) (iter := iter) (scope := scope) (pos := gpos)) y8 hTY (fun b hb => by rw [y6]; exact hb) hpn pgY peY y7 (by rw [y4]; exact L.co) (fun _ _ => trivial) turn (n - 0) 0 s₀ _ rfl (Nat.zero_le _) sl)
      rw [y4] at sg
      exact sg _
    · rw [← hY] at I'
      exact I3.call' (ch := fp) I'.os I'.base I'.hok I'.bare fun b hb => ⟨(f3 b hb).1.2.2.2.1, (f3 b hb).1.2.1, (f3 b hb).1.2.2.2.2.1, (f3 b hb).1.2.2.2.2.2⟩
  refine ⟨I1.nolimit, ?_⟩
  cases hf : codeAmong gpos ps.toList with
  | none =>
    refine wpAny_genexprCodeX hcode (cd.code hPs ht) (cd.tab hPs) hf fun c' h' tk hx hge hlt hco' _ htab' _ => ?_
    obtain ⟨o1, vs, f1, tf, fl, tg, inF, tx, tt, op, _, _, _, _, _, _, _, _, _, htr, _⟩ := hco'
    exact cont _ h' tk _ hx (Nat.le_trans hge (Nat.le_of_lt hlt)) htab'.2 ⟨_, rfl⟩ htr
  | some cv =>
    refine wpAny_genexprCode_hit hcode (cd.code hPs ht) hf ?_
    exact cont cv s2.heap s2.toks ps (Heap.ExtBut.refl _ _) (Nat.le_refl _) hPs ⟨#[], by simp⟩ ht
end
end Kg
namespace Kg
open PySem PySem.Spec PyProof.Rows L2 GenW
/-- all(e for tg in it), any(e for tg in it): P the def's table -/
def tAllG (P : Addr) (wi : TI) (gg : TG) (te : TE) (xs : List Str) : TE := fun σ H Q => wi σ H fun J H1 => GxR.TabG H1 P ∧ ∀ H2, GxR.Tabbed P H1 H2 → Wlk J gg te (blank xs σ) false (fun H => Q (.bl true) H) (fun H => Q (.bl false) H) H2
def tAnyG (P : Addr) (wi : TI) (gg : TG) (te : TE) (xs : List Str) : TE := fun σ H Q => wi σ H fun J H1 => GxR.TabG H1 P ∧ ∀ H2, GxR.Tabbed P H1 H2 → Wlk J gg te (blank xs σ) true (fun H => Q (.bl false) H) (fun H => Q (.bl true) H) H2
section
variable {X : Cx} {elt tg iter : Expr} {p pos gpos : Pos} {scope : Scope} {xs M : List Str} {wi : TI} {gg : TG} {te : TE} {c P : Addr} {k : Nat}
theorem pe_allG (hr : Room (k + 1) X.A) (hc : X.calm = true) (hgl : Gl X "all") (hm : X.mg "all" = none) (hb : bootBuiltins "all" = some (.builtin "all")) (TB : LamX.TabB X.base X.mg c P) (hcode : X.env.code = .ref c) (L : GnS X.env.scope scope xs) (hM : mkB scope X.N M = true) (hN : ((".0" : Str) :: (xs ++ M)).Nodup) (hi : PI X tg iter wi)
    (hg : ∀ (A : Around) (s : Shared) (H : Hp) (C : Addr) (code : Value) (fp : List Addr) (pn : List (Addr × Obj)), PG (genCx X A xs M s H (gEnv X scope C code) fp pn) tg gg)
    (he : ∀ (A : Around) (s : Shared) (H : Hp) (C : Addr) (code : Value) (fp : List Addr) (pn : List (Addr × Obj)), Room k A → PE (genCx X A xs M s H (gEnv X scope C code) fp pn) elt te)
    (hs : ∀ v, genFold iter X.env v = pure v)
    (hst : starEach [.GeneratorExp elt [⟨tg, iter, [], 0⟩] scope gpos] X.env = (false, eval (.GeneratorExp elt [⟨tg, iter, [], 0⟩] scope gpos) X.env) :: starEach [] X.env := by rfl) :
    PE X (.Call (.Name "all" p) [.GeneratorExp elt [⟨tg, iter, [], 0⟩] scope gpos] [] pos) (tAllG P wi gg te xs) := by
  refine ⟨fun pins s σ H Q I h => ?_⟩
  refine wpAny_Call_Name_kw (ld_blt I hgl hm hb ?_)
  refine PyProof.Rows.callWith_builtin1 ?_ hst (by rfl)
  rw [hst]
  show wpAny _ _ (spliced ((false, eval (.GeneratorExp elt [⟨tg, iter, [], 0⟩] scope gpos) X.env) :: backTo pos (starEach [] X.env))) _ _ s
  refine Calls.spliced_cons (gen_any hr hc TB hcode L hM hN hi hg he hs I h fun a s5 hR => ?_)
  obtain ⟨Y, σ0, tn, fp, Pv, g, n, go, y1, y2, y3, hgen, aw, back⟩ := hR
  refine Calls.spliced_nil ?_
  refine call_function_tree F.kind_all F.plain_all F.entry_all (F.args_all1 _) ?_
  unfold Builtin.«all»
  refine wpAny_bind (m := oneArg "all" _) (wpAny_pure ?_)
  have hpin : s5.heap.IsGen a g := by
    obtain ⟨⟨H5, I5, _⟩, _⟩ := aw
    exact hgen _ (I5.pin (a, go) (by rw [y3]; simp)).1
  refine wpAny_bind (wpAny_pyIter_gen hpin ?_)
  refine wpAny_pure ⟨plainId_quiet F.plain_all_loop _, ?_⟩
  rw [← y1, ← y2]
  refine all_loop (A := X.A) hr.hd hr.depth y3 hgen (fun s' σ' H' I' q => ?_) (fun s' σ' H' I' q => ?_) (n - 0) 0 s5 rfl (Nat.zero_le _) aw
  · exact ⟨.bl false, H', back _ _ _ I', rfl, q⟩
  · exact ⟨.bl true, H', back _ _ _ I', rfl, q⟩
theorem pe_anyG (hr : Room (k + 1) X.A) (hc : X.calm = true) (hgl : Gl X "any") (hm : X.mg "any" = none) (hb : bootBuiltins "any" = some (.builtin "any")) (TB : LamX.TabB X.base X.mg c P) (hcode : X.env.code = .ref c) (L : GnS X.env.scope scope xs) (hM : mkB scope X.N M = true) (hN : ((".0" : Str) :: (xs ++ M)).Nodup) (hi : PI X tg iter wi)
    (hg : ∀ (A : Around) (s : Shared) (H : Hp) (C : Addr) (code : Value) (fp : List Addr) (pn : List (Addr × Obj)), PG (genCx X A xs M s H (gEnv X scope C code) fp pn) tg gg)
    (he : ∀ (A : Around) (s : Shared) (H : Hp) (C : Addr) (code : Value) (fp : List Addr) (pn : List (Addr × Obj)), Room k A → PE (genCx X A xs M s H (gEnv X scope C code) fp pn) elt te)
    (hs : ∀ v, genFold iter X.env v = pure v)
    (hst : starEach [.GeneratorExp elt [⟨tg, iter, [], 0⟩] scope gpos] X.env = (false, eval (.GeneratorExp elt [⟨tg, iter, [], 0⟩] scope gpos) X.env) :: starEach [] X.env := by rfl) :
    PE X (.Call (.Name "any" p) [.GeneratorExp elt [⟨tg, iter, [], 0⟩] scope gpos] [] pos) (tAnyG P wi gg te xs) := by
  refine ⟨fun pins s σ H Q I h => ?_⟩
  refine wpAny_Call_Name_kw (ld_blt I hgl hm hb ?_)
  refine PyProof.Rows.callWith_builtin1 ?_ hst (by rfl)
  rw [hst]
  show wpAny _ _ (spliced ((false, eval (.GeneratorExp elt [⟨tg, iter, [], 0⟩] scope gpos) X.env) :: backTo pos (starEach [] X.env))) _ _ s
  refine Calls.spliced_cons (gen_any hr hc TB hcode L hM hN hi hg he hs I h fun a s5 hR => ?_)
  obtain ⟨Y, σ0, tn, fp, Pv, g, n, go, y1, y2, y3, hgen, aw, back⟩ := hR
  refine Calls.spliced_nil ?_
  refine call_function_tree F.kind_any F.plain_any F.entry_any (F.args_any1 _) ?_
  unfold Builtin.«any»
  refine wpAny_bind (m := oneArg "any" _) (wpAny_pure ?_)
  have hpin : s5.heap.IsGen a g := by
    obtain ⟨⟨H5, I5, _⟩, _⟩ := aw
    exact hgen _ (I5.pin (a, go) (by rw [y3]; simp)).1
  refine wpAny_bind (wpAny_pyIter_gen hpin ?_)
  refine wpAny_pure ⟨plainId_quiet F.plain_any_loop _, ?_⟩
  rw [← y1, ← y2]
  refine any_loop (A := X.A) hr.hd hr.depth y3 hgen (fun s' σ' H' I' q => ?_) (fun s' σ' H' I' q => ?_) (n - 0) 0 s5 rfl (Nat.zero_le _) aw
  · exact ⟨.bl true, H', back _ _ _ I', rfl, q⟩
  · exact ⟨.bl false, H', back _ _ _ I', rfl, q⟩
end
end Kg
namespace Kg
open PySem PySem.Spec PyProof.Rows L2 GenW
theorem blank_set {xs : List Str} {σ : L2.St} {i : Nat} {x : V} (hi : i < xs.length) : ∀ (j : Nat) (v : V), (blank xs σ)[j]? = some (some v) → ((blank xs σ).set i (some x))[j]? = some (some v) := fun j v h => by
  have ne : i ≠ j := fun z => by
    subst z
    unfold blank at h
    rw [List.getElem?_append_left (by simpa using hi), List.getElem?_map] at h
    cases q : xs[i]? with
    | none => rw [q] at h; cases h
    | some z => rw [q] at h; cases h
  rw [List.getElem?_set_ne ne]
  exact h
/-- a walk that keeps the heap as it is, its elements told by a test -/
theorem wlk_pure {J : It} {n : Nat} {te : TE} {x : Str} {σ : L2.St} {bf : Bool} {Qt Qf : Hp → Prop} {H2 : Hp} {xs : Nat → V} {pb : Nat → Bool} (w : Walk J n (fun H => H = H2) (fun i H v H' => H' = H ∧ v = xs i))
    (he : ∀ i, i < n → ∀ R : VK, R (.bl (pb i)) H2 → te (some (xs i) :: σ) H2 R) (ht : (∀ i, i < n → pb i = !bf) → Qt H2) (hf : ∀ i, i < n → pb i = bf → Qf H2) : Wlk J (gName 0) te (blank [x] σ) bf Qt Qf H2 := by
  refine ⟨n, fun i H => H = H2 ∧ ∀ j, j < i → pb j = !bf, ⟨rfl, fun j hj => absurd hj (Nat.not_lt_zero j)⟩, ?_⟩
  rintro i H hi ⟨rfl, hp⟩
  by_cases hlt : i < n
  · refine .inr ⟨hlt, w.goes i _ hlt rfl, fun v H' y => ?_⟩
    obtain ⟨rfl, rfl⟩ := w.yields i _ v H' hlt rfl y
    refine ⟨blank_set (by show 0 < 1; omega), he i hlt _ ⟨_, rfl, ?_⟩⟩
    by_cases h : pb i = bf
    · rw [if_pos h]
      exact hf i hlt h
    · rw [if_neg h]
      refine ⟨rfl, fun j hj => ?_⟩
      by_cases z : j = i
      · rw [z]
        revert h
        cases pb i <;> cases bf <;> first | exact fun _ => rfl | exact fun q => absurd rfl q
      · exact hp j (by omega)
  · have e : i = n := by omega
    subst e
    exact .inl ⟨rfl, w.stops _ rfl, ht fun j hj => hp j hj⟩
/-- .. over a text's signs -/
theorem wlk_str {z : Str} {te : TE} {x : Str} {σ : L2.St} {Qt Qf : Hp → Prop} {H2 : Hp} {pb : Nat → Bool} (he : ∀ c, c ∈ z.cps.toList → ∀ R : VK, R (.bl (pb c)) H2 → te (some (.str ⟨#[c]⟩) :: σ) H2 R)
    (ht : z.cps.toList.all pb = true → Qt H2) (hf : z.cps.toList.all pb = false → Qf H2) : Wlk (Its z) (gName 0) te (blank [x] σ) false Qt Qf H2 := by
  have get : ∀ i, i < z.cps.size → z.cps[i]? = some (z.cps.toList.getD i 0) := fun i hi => by
    rw [← Array.getElem?_toList, List.getD_eq_getElem?_getD, List.getElem?_eq_getElem (by simpa using hi)]
    rfl
  have mem : ∀ i, i < z.cps.size → z.cps.toList.getD i 0 ∈ z.cps.toList := fun i hi => by
    rw [List.getD_eq_getElem?_getD, List.getElem?_eq_getElem (by simpa using hi)]
    exact List.getElem_mem _
  refine wlk_pure (n := z.cps.size) (xs := fun i => .str ⟨#[z.cps.toList.getD i 0]⟩) (pb := fun i => pb (z.cps.toList.getD i 0)) (walk_str.mono (fun _ _ => trivial) fun i H v H' hi _ y => ?_) (fun i hi R r => he _ (mem i hi) R r) (fun h => ht ?_) fun i hi h => hf ?_
  · obtain ⟨e, c, e1, e2⟩ := y
    rw [get i hi] at e1
    cases e1
    exact ⟨e, e2⟩
  · rw [List.all_eq_true]
    intro c hc
    obtain ⟨i, hi, e⟩ := List.getElem_of_mem hc
    have hi' : i < z.cps.size := by simpa using hi
    have q := h i hi'
    rw [List.getD_eq_getElem?_getD, List.getElem?_eq_getElem hi] at q
    have q : pb z.cps.toList[i] = !false := q
    rw [e] at q
    exact q
  · rw [List.all_eq_false]
    exact ⟨_, mem i hi, by rw [h]; exact Bool.false_ne_true⟩
end Kg
set_option maxHeartbeats 2000000
/-! own: defs whose code object has a table (generator expressions, lambdas), by their names -/
namespace Kj
open PySem PySem.Spec PyProof.Rows L2 Kt
/-- the def x with its code object c and c's table P -/
structure TblF (K : PySem.W.Frag) (mg : Str → Option Value) (x : Str) (st : Stmt) (c P : Addr) : Prop where
  ex : ∃ (f : Addr) (oc : Value) (od : Option Addr) (kV doc pm : Value) (an : Option Addr) (ct : Value) (osl : Array (Option Value)), mg x = some (.ref f) ∧ PySem.W.keepIn K (.ref f) = true ∧
    K.lookup f = some ⟨oc, od, .func (PySem.W.fnOf x x (defArgs st) (defBody st) (defScope st) .none kV doc pm an (.ref c) ct), osl⟩ ∧ PySem.W.codeIn K (.ref c) x = true
structure Tbl (K : PySem.W.Frag) (mg : Str → Option Value) (base : Heap) (x : Str) (st : Stmt) (P : Addr) : Prop where
  ex : ∃ c, TblF K mg x st c P ∧ LamX.TabB base mg c P
section
variable {P : Program} {w : World} {K : PySem.W.Frag} {mg : Str → Option Value} {base : Heap} {x : Str} {st : Stmt} {N ps : List Str} {k : Nat} {sp : Sp} {T : Addr}
theorem Tbl.ok (D : Tbl K mg base x st T) (S : FnScope N ps (defScope st)) (hb : BindH st x ps) (len : ∀ vs H Q E, sp vs H Q E → vs.length = ps.length)
    (body : ∀ (f c : Addr) (A : Around) (outer : List Env) (s : Shared) (H : Hp) (vs : List V) (Q : VK) (E : XK), LamX.TabB base mg c T → Room k (A.deeper (envOfC x (defScope st) s.heap.objs.size f (.ref c))) → sp vs H Q E →
      ∃ t, PSs (cxOf CX0 P w K mg base N x (defScope st) f (.ref c) A outer s H E).nox (defBody st) t ∧ t { nx := fun _ H' => Q .non H', rt := Q } (start N vs) H) : Prom P w K mg base CX0 (k + 1) x ps sp := by
  obtain ⟨c, ⟨f, oc, od, kV, doc, pm, an, ct, osl, g, kp, lk, hcd⟩, TB⟩ := D.ex
  have F : Fun K x x st f (PySem.W.fnOf x x (defArgs st) (defBody st) (defScope st) .none kV doc pm an (.ref c) ct) := fun_mk lk hcd kp
  refine ⟨f, _, g, kp, F.binds hb, ?_, _, F⟩
  refine fn_of lk hcd S len fun A outer s H vs Q E hr hsp => ?_
  obtain ⟨t, h, q⟩ := body f c A outer s H vs Q E TB hr hsp
  exact ⟨t, h.nox, q⟩
theorem Tbl.okXN (D : Tbl K mg base x st T) (S : FnScope N ps (defScope st)) (hb : BindH st x ps) (len : ∀ vs H Q E, sp vs H Q E → vs.length = ps.length)
    (body : ∀ (f c : Addr) (A : Around) (outer : List Env) (s : Shared) (H : Hp) (vs : List V) (Q : VK) (E : XK), LamX.TabB base mg c T → Room k (A.deeper (envOfC x (defScope st) s.heap.objs.size f (.ref c))) → sp vs H Q E →
      ∃ t, PSs (cxOf (L2N.CX P w) P w K mg base N x (defScope st) f (.ref c) A outer s H E) (defBody st) t ∧ t { nx := fun _ H' => Q .non H', rt := Q } (L2.start N vs) H) : Prom P w K mg base (L2N.CX P w) (k + 1) x ps sp := by
  obtain ⟨c, ⟨f, oc, od, kV, doc, pm, an, ct, osl, g, kp, lk, hcd⟩, TB⟩ := D.ex
  have F : Fun K x x st f (PySem.W.fnOf x x (defArgs st) (defBody st) (defScope st) .none kV doc pm an (.ref c) ct) := fun_mk lk hcd kp
  refine ⟨f, _, g, kp, F.binds hb, ?_, _, F⟩
  exact fn_of lk hcd S len fun A outer s H vs Q E hr hsp => body f c A outer s H vs Q E TB hr hsp
theorem tblF_mk {h : Heap} {f c : Addr} {oc : Value} {od an : Option Addr} {osl : Array (Option Value)} {kV doc pm ct : Value} (X : K.In h) (G : h.Ns mainGlobals mg) (a : PySem.W.nsIn K mainGlobals x = some (some (.ref f)))
    (l : K.lookup f = some ⟨oc, od, .func (PySem.W.fnOf x x (defArgs st) (defBody st) (defScope st) .none kV doc pm an (.ref c) ct), osl⟩) (e : PySem.W.codeIn K (.ref c) x = true) (k : PySem.W.keepIn K (.ref f) = true) : TblF K mg x st c T :=
  ⟨f, oc, od, kV, doc, pm, an, ct, osl, PySem.W.mg_of X G a, k, l, e⟩
end
theorem str_mk {K : PySem.W.Frag} {h : Heap} {mg : Str → Option Value} {x z : Str} {t : Tok} (X : K.In h) (G : h.Ns mainGlobals mg) (a : PySem.W.nsIn K mainGlobals x = some (some (.str z t))) : ∃ t, mg x = some (.str z t) := ⟨t, PySem.W.mg_of X G a⟩
/-! ### tables that may grow -/
def TG (Ts : List Addr) (H : Hp) : Prop := ∀ T ∈ Ts, GxR.TabG H T
/-- all but the tables stays, the tables are there, tables stay tables -/
structure ST (Ts : List Addr) (H H' : Hp) : Prop where
  tg : TG Ts H'
  ex : LamX.ExtN H H'
  tb : ∀ b ps, H b = some (.tbl ps) → ∃ ps', H' b = some (.tbl ps')
section
variable {Ts : List Addr} {H H1 H2 : Hp} {T b : Addr} {o : HO}
theorem TG.same (t : TG Ts H) (s : Same H H1) : TG Ts H1 := fun T hT => by
  obtain ⟨ps, h1, h2⟩ := t T hT
  exact ⟨ps, s _ _ h1, h2⟩
theorem same_upd (n : H b = none) : Same H (upd H b o) := fun c u e => by
  rw [upd_ne (fun z => by rw [z, n] at e; cases e)]
  exact e
theorem TG.put (t : TG Ts H) (n : H b = none) : TG Ts (upd H b o) := t.same (same_upd n)
theorem ST.of (t : TG Ts H) (s : Same H H1) : ST Ts H H1 := ⟨t.same s, LamX.ExtN.of s, fun b ps e => ⟨ps, s b _ e⟩⟩
theorem ST.refl (t : TG Ts H) : ST Ts H H := .of t (Same.refl H)
theorem ST.trans (a : ST Ts H H1) (b : ST Ts H1 H2) : ST Ts H H2 := ⟨b.tg, a.ex.trans b.ex, fun c ps e => let ⟨ps', e'⟩ := a.tb c ps e; b.tb c ps' e'⟩
theorem ST.and (a : ST Ts H H1) (s : Same H1 H2) : ST Ts H H2 := a.trans (.of a.tg s)
theorem ST.new (a : ST Ts H H1) (n : H1 b = none) : ST Ts H (upd H1 b o) := a.and (same_upd n)
/-- an own object written: it was none before, it is no table -/
theorem ST.put (a : ST Ts H H1) (n : H b = none) (nt : ∀ ps, H1 b ≠ some (.tbl ps)) : ST Ts H (upd H1 b o) := by
  have ne : ∀ c ps, H1 c = some (.tbl ps) → c ≠ b := fun c ps e z => nt ps (by rw [← z]; exact e)
  refine ⟨fun T hT => ?_, fun c u e nu => ?_, fun c ps e => ?_⟩
  · obtain ⟨ps, h1, h2⟩ := a.tg T hT
    exact ⟨ps, by rw [upd_ne (ne T ps h1)]; exact h1, h2⟩
  · rw [upd_ne (fun z => by rw [z, n] at e; cases e)]
    exact a.ex c u e nu
  · obtain ⟨ps', e'⟩ := a.tb c ps e
    exact ⟨ps', by rw [upd_ne (ne c ps' e')]; exact e'⟩
theorem ST.tabbed (t : TG Ts H) (hT : T ∈ Ts) (g : GxR.Tabbed T H H1) : ST Ts H H1 := by
  obtain ⟨g1, g2⟩ := g
  refine ⟨fun S hS => ?_, fun c u e ne => ?_, fun c ps e => ?_⟩
  · by_cases z : S = T
    · rw [z]
      exact g1
    · obtain ⟨ps, h1, h2⟩ := t S hS
      exact ⟨ps, (g2 S z).trans h1, h2⟩
  · have hc : c ≠ T := fun z => by
      obtain ⟨ps, h1, _⟩ := t T hT
      rw [z, h1] at e
      exact ne ps (Option.some.inj e).symm
    exact (g2 c hc).trans e
  · by_cases z : c = T
    · obtain ⟨ps', h1, _⟩ := g1
      exact ⟨ps', by rw [z]; exact h1⟩
    · exact ⟨ps, (g2 c z).trans e⟩
theorem ST.tup (a : ST Ts H H1) {xs : List V} (e : H b = some (.tup xs)) : H1 b = some (.tup xs) := a.ex _ _ e fun ps z => by cases z
theorem ST.lst (a : ST Ts H H1) {xs : List V} (e : H b = some (.lst xs)) : H1 b = some (.lst xs) := a.ex _ _ e fun ps z => by cases z
theorem ST.sqL {K : PySem.W.Frag} (a : ST Ts H H1) {xs : List V} (e : SqL K H b xs) : SqL K H1 b xs := by
  rcases e with (e | ⟨o, e⟩) | e
  · exact .inl (.inl (a.lst e))
  · exact .inl (.inr ⟨o, a.ex _ _ e fun ps z => by cases z⟩)
  · exact .inr e
theorem ST.free (a : ST Ts H H1) (e : H1 b = none) : H b = none := by
  cases q : H b with
  | none => rfl
  | some u =>
    cases u with
    | tbl ps =>
      obtain ⟨ps', z⟩ := a.tb b ps q
      rw [e] at z
      cases z
    | _ =>
      have := a.ex b _ q (fun ps z => by cases z)
      rw [e] at this
      cases this
end
/-! ### the end of a law whose defs have tables -/
/-- the tables' code objects in the written part, from a hook that tells that the tables are empty -/
theorem law_endT {P : Program} {w : World} {l : PySem.W.OpenLaw} {K : PySem.W.Frag} {mg : Str → Option Value} {fa : Addr} {h : Heap} {st : Stmt} {k n : Nat} {x p : Str} {cs : List (Addr × Addr)} {sp : Sp} (hP : l.prog = P) (D : At K mg x st) (hb : BindH st x [p]) (hfa : mg x = some (.ref fa))
    (hT : ∀ q ∈ cs, h.get? q.2 = some { cls := .none, data := .fields #[] }) (nT : ∀ q ∈ cs, K.lookup q.2 = none) (C : ∀ q ∈ cs, PySem.W.CodeHd h q.1 q.2)
    (hsp : ∀ (H : Hp) (a : Addr) (ns : List Int), ns.length ≤ n → (∀ z ∈ ns, Builtin.Int.intBits z ≤ 1048576) → (∀ q ∈ cs, H q.2 = some (.tbl #[])) → SqL K H a (ns.map V.int) → sp [.ref a] H (fun v _ => v = .bl true) fun _ _ _ => False)
    (F : ∀ base : Heap, (∀ q ∈ cs, LamX.TabB base mg q.1 q.2) → Prom P w K mg base CX0 k x [p] sp) : LamX.LawAtS l w K CX0 k n p mg fa h := by
  subst hP
  obtain ⟨f, fd, F0, g⟩ := D.ex
  have e : f = fa := by
    rw [g] at hfa
    cases hfa
    rfl
  subst e
  obtain ⟨oc, od, kV, doc, pm, an, cdv, ct, osl, e1, lk, hcd⟩ := F0.ex
  refine ⟨fd, cs, sp, hT, nT, C, fun s v => .of_eq (by rw [e1]; exact hb kV doc pm an cdv ct [v] rfl), hsp, fun base _ _ TB => ?_⟩
  obtain ⟨f', fd', g', _, _, G', st', F'⟩ := (F base TB).ex
  have e2 : f' = f := by
    rw [g'] at g
    cases g
    rfl
  subst e2
  obtain ⟨_, _, _, _, _, _, _, _, _, _, lk', _⟩ := F'.ex
  have e3 : fd' = fd := by
    rw [lk] at lk'
    cases lk'
    rfl
  subst e3
  exact G'
/-- what the code's object tells of its table -/
theorem hd_tab {K : PySem.W.Frag} {c T : Addr} (e : PySem.W.codeHdIn K c T = true) : ∃ ec dd vs sl, K.lookup c = some ⟨ec, dd, .fields vs, sl⟩ ∧ vs[11]? = some (.ref T) := by
  unfold PySem.W.codeHdIn at e
  split at e
  · rename_i dd vs sl hk
    simp only [Bool.and_eq_true] at e
    obtain ⟨⟨⟨⟨⟨e1, _⟩, _⟩, _⟩, _⟩, _⟩ := e
    refine ⟨_, dd, vs, sl, hk, ?_⟩
    split at e1
    · rename_i T' h11
      rw [h11, beq_iff_eq.mp e1]
    · cases e1
  · cases e
theorem TblF.tab {K : PySem.W.Frag} {mg : Str → Option Value} {x : Str} {st : Stmt} {c T : Addr} {h : Heap} (D : TblF K mg x st c T) (O : ∀ f, mg x = some (.ref f) → LamX.OwnTab K f h) (e : PySem.W.codeHdIn K c T = true) :
    h.get? T = some { cls := .none, data := .fields #[] } := by
  obtain ⟨f, oc, od, kV, doc, pm, an, ct, osl, g, _, l, _⟩ := D.ex
  obtain ⟨ec, dd, vs, sl, k, v⟩ := hd_tab e
  exact O f g c T _ _ ec dd vs sl l rfl rfl k v
/-- the end of a law row: the tables of all defs of the text are empty when the law is called -/
theorem walk_ofTabs {l : PySem.W.OpenLaw} {n k : Nat} {q : Program} {loose : List Str} {XP : (Str → Option Value) → Heap → Prop} {YP : World → Heap → Prop} {d : DefRec} {K : Params → PySem.W.Frag} {CX : World → CXT} {x : Str}
    (hn : l.most = some n) (hn2 : n ≤ sizeLine) (hdf : d.params.defaults = []) (hr : Room k callerA) (hY : ∀ (w : World) (h : Heap), YP w h → (K w.params).In h)
    (F : ∀ (w : World) (mg : Str → Option Value) (fa : Addr) (h : Heap), (K w.params).In h → h.Ns mainGlobals mg → mg d.name = some (.ref fa) →
      (∀ (y : Str), ((recsOf q).any fun e => e.name == y) = true → ∀ f, mg y = some (.ref f) → LamX.OwnTab (K w.params) f h) → LamX.LawAtS l w (K w.params) (CX w) k n x mg fa h)
    (hCX : ∀ (w : World) (H : Hp) (s : Shared) (e : Value) (s' : Shared), CX w [] H s (fun _ _ _ => False) e s' → False) :
    PySem.W.WalkO q loose XP YP l.row.toRowW d [] (fun f vs => PySem.call f vs) := by
  refine Att.attach_callB hn hdf fun w s₀ s₁ mg mb fa o pm cd doc a vs ns G Y ho hd hcd hmg hobj hints hlen hbits hg => ?_
  have KX := hY w _ Y
  have tabs : ∀ (y : Str), ((recsOf q).any fun e => e.name == y) = true → ∀ f, mg y = some (.ref f) → LamX.OwnTab (K w.params) f s₁.heap := by
    intro y hy f hf c T o1 fd1 e dd vs1 sl k1 k2 k3 k4 k5
    obtain ⟨dL, hm, hn1⟩ := List.any_eq_true.mp hy
    obtain ⟨a', o', fd', c', T', h1, h2, h3, h4, h5, h6⟩ := G.T.tab dL hm
    rw [beq_iff_eq.mp hn1, hf] at h1
    cases h1
    have g1 := KX _ _ k1
    rw [g1] at h2
    cases h2
    rw [k2] at h3
    cases h3
    rw [k3] at h4
    cases h4
    obtain ⟨⟨oc, vc, e1, _, e3, e4⟩, hP⟩ := h6
    have g2 := KX _ _ k4
    rw [g2] at e1
    cases e1
    cases e3
    rw [k5] at e4
    cases e4
    exact hP
  obtain ⟨fd, cs, sp, hT, nT, C, hb, hsp, hF⟩ := F w mg fa _ KX G.T.g hmg tabs
  exact LamX.law_callTs KX G.T.g G.T.b G.T.builtins G.T.nolimit hg hT nT C G.T.bmain hobj hints (Nat.le_trans hlen hn2) hr hF hb (fun H hH hS => hsp H a ns hlen hbits hH hS) fun H e s' => hCX w H s₁ e s'
end Kj
set_option maxHeartbeats 2000000
/-! own: plain data and walks while tables grow -/
namespace Kj
open PySem PySem.Spec PyProof.Rows L2 Kt
mutual
theorem rep_ext {H H' : Hp} (s : LamX.ExtN H H') : ∀ (d : Dd) (v : V), Rep H d v → Rep H' d v
  | .non, v, h => by unfold Rep at h ⊢; exact h
  | .bl b, v, h => by unfold Rep at h ⊢; exact h
  | .int b, v, h => by unfold Rep at h ⊢; exact h
  | .str b, v, h => by unfold Rep at h ⊢; exact h
  | .tup ds, v, h => by
    unfold Rep at h ⊢
    obtain ⟨h1, a, xs, e, h2, h3⟩ := h
    exact ⟨h1, a, xs, e, s _ _ h2 (fun ps z => by cases z), repL_ext s ds xs h3⟩
  | .lst ds, v, h => by
    unfold Rep at h ⊢
    obtain ⟨h1, a, xs, e, h2, h3⟩ := h
    exact ⟨h1, a, xs, e, s _ _ h2 (fun ps z => by cases z), repL_ext s ds xs h3⟩
theorem repL_ext {H H' : Hp} (s : LamX.ExtN H H') : ∀ (ds : List Dd) (xs : List V), RepL H ds xs → RepL H' ds xs
  | [], xs, h => by unfold RepL at h ⊢; exact h
  | d :: ds, xs, h => by
    unfold RepL at h ⊢
    obtain ⟨v, r, e, h1, h2⟩ := h
    exact ⟨v, r, e, rep_ext s d v h1, repL_ext s ds r h2⟩
end
theorem rep_st {Ts : List Addr} {H H' : Hp} (s : ST Ts H H') {d : Dd} {v : V} (h : Rep H d v) : Rep H' d v := rep_ext s.ex d v h
theorem repL_st {Ts : List Addr} {H H' : Hp} (s : ST Ts H H') {d : List Dd} {v : List V} (h : RepL H d v) : RepL H' d v := repL_ext s.ex d v h
theorem rep_same {H H' : Hp} (s : Same H H') {d : Dd} {v : V} (h : Rep H d v) : Rep H' d v := rep_ext (LamX.ExtN.of s) d v h
theorem repL_same {H H' : Hp} (s : Same H H') {d : List Dd} {v : List V} (h : RepL H d v) : RepL H' d v := repL_ext (LamX.ExtN.of s) d v h
theorem repL_strs {H : Hp} : ∀ (zs : List Str), RepL H (zs.map Dd.str) (zs.map V.str)
  | [] => by unfold RepL; rfl
  | z :: zs => by
    show RepL H (Dd.str z :: zs.map Dd.str) (V.str z :: zs.map V.str)
    unfold RepL
    exact ⟨_, _, rfl, by unfold Rep; rfl, repL_strs zs⟩
theorem repL_at {H : Hp} {ds : List Dd} {xs : List V} {i : Nat} {v : V} (h : RepL H ds xs) (e : xs[i]? = some v) : ∃ d, ds[i]? = some d ∧ Rep H d v := by
  have hi : i < ds.length := by
    rw [← h.len]
    exact (List.getElem?_eq_some_iff.mp e).1
  obtain ⟨d, v', e1, e2, h3, _⟩ := h.at i hi
  rw [e] at e2
  cases e2
  exact ⟨d, e1, h3⟩
/-- all(..) over a tuple, its element an own call that lets tables grow -/
theorem wlk_tupS {Ts : List Addr} {K : PySem.W.Frag} {a : Addr} {xs : List V} {te : TE} {x : Str} {σ : L2.St} {Qt Qf : Hp → Prop} {H2 : Hp} {pb : Nat → Bool} (hs : H2 a = some (.tup xs)) (tg : TG Ts H2)
    (he : ∀ i v, xs[i]? = some v → ∀ H, ST Ts H2 H → ∀ R : VK, (∀ H', ST Ts H2 H' → R (.bl (pb i)) H') → te (some v :: σ) H R) (ht : ∀ H, ST Ts H2 H → (∀ i, i < xs.length → pb i = true) → Qt H)
    (hf : ∀ H, ST Ts H2 H → ∀ i, i < xs.length → pb i = false → Qf H) : Kg.Wlk (Itt K a) (gName 0) te (Kg.blank [x] σ) false Qt Qf H2 := by
  have w := @walk_tup K a xs
  refine ⟨xs.length, fun i H => ST Ts H2 H ∧ ∀ j, j < i → pb j = true, ⟨ST.refl tg, fun j hj => absurd hj (Nat.not_lt_zero j)⟩, ?_⟩
  rintro i H hi ⟨st, hp⟩
  have hq : SqT K H a xs := SqT.of (st.tup hs)
  by_cases hlt : i < xs.length
  · refine .inr ⟨hlt, w.goes i _ hlt hq, fun v H' y => ?_⟩
    have y' := w.yields i _ v H' hlt hq y
    obtain ⟨rfl, ev⟩ := y'
    refine ⟨Kg.blank_set (by show 0 < 1; omega), he i v ev _ st _ fun H3 st3 => ⟨_, rfl, ?_⟩⟩
    cases h : pb i with
    | false =>
      rw [if_pos rfl]
      exact hf H3 st3 i hlt h
    | true =>
      rw [if_neg (by simp)]
      refine ⟨st3, fun j hj => ?_⟩
      by_cases z : j = i
      · rw [z]
        exact h
      · exact hp j (by omega)
  · have e : i = xs.length := by omega
    subst e
    exact .inl ⟨rfl, w.stops _ hq, ht _ st fun j hj => hp j hj⟩
theorem call_isiK {X : Cx} {K : PySem.W.Frag} (h : X.K = K) : CallR X (.builtin "isinstance") (rIsi K) := h ▸ call_isi
theorem ix_listK {X : Cx} {K : PySem.W.Frag} (h : X.K = K) : IxR X (rIxL K) := h ▸ ix_list
theorem ix_tupK {X : Cx} {K : PySem.W.Frag} (h : X.K = K) : IxR X (rIxT K) := h ▸ ix_tup
end Kj
/-! own: readings without the heap. Data are trees (D), a def's body is mirrored by a function of its slots (Env) and the law's state of draws (Sx) -/
namespace Mi
open PySem PySem.Spec PyProof.Rows L2 Kt Kj
inductive D where
  | non | bl (b : Bool) | int (i : Int) | str (s : Str) | tup (xs : List D) | lst (xs : List D) | dct (ks : List Key) (vs : List D) | drs | bot
inductive Ek where
  | OR | MA | NT | RE | TM
  deriving DecidableEq
structure DS where
  t : Int
  l : Int
  cs : List Int
abbrev Sx := Option DS
inductive Res (α : Type) where
  | ok (a : α) (s : Sx) | er (k : Ek) (s : Sx) | bad
def Res.bind {α β : Type} (r : Res α) (k : α → Sx → Res β) : Res β := match r with
  | .ok a s => k a s
  | .er e s => .er e s
  | .bad => .bad
/-- the tables of code objects: of defs with generator expressions; of defs with lambdas, each with its lambda's name -/
structure TsT where
  gs : List Addr
  ls : List (Addr × Str)
structure TGL (Ts : TsT) (H : Hp) : Prop where
  g : TG Ts.gs H
  l : LamX.Tabs Ts.ls H
  a : ∀ p ∈ Ts.ls, p.1 ∉ Ts.gs
/-- neither a table nor a code object -/
def plainO : HO → Prop
  | .tbl _ => False
  | .ext _ => False
  | _ => True
theorem TGL.same {Ts : TsT} {H H1 : Hp} (t : TGL Ts H) (s : Same H H1) : TGL Ts H1 := ⟨t.g.same s, t.l.ext s, t.a⟩
theorem TGL.put {Ts : TsT} {H : Hp} {b : Addr} {o : HO} (t : TGL Ts H) (n : H b = none) : TGL Ts (upd H b o) := t.same (same_upd n)
theorem TGL.putM {Ts : TsT} {H : Hp} {b : Addr} {o : HO} (t : TGL Ts H) (n : ∀ u, H b = some u → plainO u) : TGL Ts (upd H b o) := by
  have nt : ∀ p ps, H p = some (.tbl ps) → p ≠ b := fun p ps e z => (show plainO (.tbl ps) from n _ (by rw [← z]; exact e))
  have nc : ∀ p q, H p = some (LamX.CodeO p q) → p ≠ b := fun p q e z => by
    have h : plainO (LamX.CodeO p q) := n _ (by rw [← z]; exact e)
    unfold LamX.CodeO at h
    exact h
  refine ⟨fun T hT => ?_, fun p hp => ?_, t.a⟩
  · obtain ⟨ps, h1, h2⟩ := t.g T hT
    exact ⟨ps, by rw [upd_ne (nt _ _ h1)]; exact h1, h2⟩
  · obtain ⟨ps, h1, h2, h3⟩ := t.l p hp
    refine ⟨ps, by rw [upd_ne (nt _ _ h1)]; exact h1, h2, fun pos cv e => ?_⟩
    obtain ⟨c, e1, e2⟩ := h3 pos cv e
    exact ⟨c, e1, by rw [upd_ne (nc _ _ e2)]; exact e2⟩
theorem TGL.tabbed {Ts : TsT} {H H1 : Hp} {T : Addr} (t : TGL Ts H) (hT : T ∈ Ts.gs) (g : GxR.Tabbed T H H1) : TGL Ts H1 := by
  refine ⟨(ST.tabbed t.g hT g).tg, fun p hp => ?_, t.a⟩
  obtain ⟨ps0, hT0, _⟩ := t.g T hT
  have ne : p.1 ≠ T := fun z => t.a p hp (by rw [z]; exact hT)
  obtain ⟨ps, h1, h2, h3⟩ := t.l p hp
  refine ⟨ps, by rw [g.2 _ ne]; exact h1, h2, fun pos cv e => ?_⟩
  obtain ⟨c, e1, e2⟩ := h3 pos cv e
  exact ⟨c, e1, by rw [g.2 _ (fun z => by rw [z, hT0] at e2; exact LamX.codeO_ne _ (Option.some.inj e2).symm)]; exact e2⟩
structure Cc where
  K : PySem.W.Frag
  dq : Addr
  Ts : TsT
  ca : Ek → Addr
  ea : Option (Addr × Ek)
mutual
def Rp (c : Cc) (F : Hp) : D → V → Prop
  | .non, v => v = .non
  | .bl b, v => v = .bl b
  | .int i, v => v = .int i
  | .str s, v => v = .str s ∧ PyData.strOk s = true ∧ s.length ≤ 1000000
  | .tup ds, v => ds.length ≤ 1000000 ∧ ∃ a xs, v = .ref a ∧ SqT c.K F a xs ∧ RpL c F ds xs
  | .lst ds, v => ds.length ≤ 1000000 ∧ ∃ a xs, v = .ref a ∧ F a = some (.lst xs) ∧ RpL c F ds xs
  | .dct ks ds, v => ds.length ≤ 1000000 ∧ ∃ a kvs, v = .ref a ∧ F a = some (.dK kvs) ∧ kvs.map (·.1) = ks ∧ RpL c F ds (kvs.map (·.2))
  | .drs, v => v = .ref c.dq
  | .bot, _ => True
def RpL (c : Cc) (F : Hp) : List D → List V → Prop
  | [], xs => xs = []
  | d :: ds, xs => ∃ v r, xs = v :: r ∧ Rp c F d v ∧ RpL c F ds r
end
theorem rpL_nil {c : Cc} {F : Hp} {xs : List V} : RpL c F [] xs ↔ xs = [] := by unfold RpL; exact Iff.rfl
theorem rpL_cons {c : Cc} {F : Hp} {d : D} {ds : List D} {xs : List V} : RpL c F (d :: ds) xs ↔ ∃ v r, xs = v :: r ∧ Rp c F d v ∧ RpL c F ds r := by
  constructor
  · intro h; unfold RpL at h; exact h
  · intro h; unfold RpL; exact h
theorem sqT_same {K : PySem.W.Frag} {F H : Hp} {a : Addr} {xs : List V} (s : Same F H) (h : SqT K F a xs) : SqT K H a xs := by
  rcases h with (h | ⟨o, h⟩) | h
  · exact .inl (.inl (s _ _ h))
  · exact .inl (.inr ⟨o, s _ _ h⟩)
  · exact .inr h
mutual
theorem rp_same {c : Cc} {F F' : Hp} (s : Same F F') : ∀ (d : D) (v : V), Rp c F d v → Rp c F' d v
  | .non, v, h => by unfold Rp at h ⊢; exact h
  | .bl b, v, h => by unfold Rp at h ⊢; exact h
  | .int b, v, h => by unfold Rp at h ⊢; exact h
  | .str b, v, h => by unfold Rp at h ⊢; exact h
  | .tup ds, v, h => by
    unfold Rp at h ⊢
    obtain ⟨h1, a, xs, e, h2, h3⟩ := h
    exact ⟨h1, a, xs, e, sqT_same s h2, rpL_same s ds xs h3⟩
  | .lst ds, v, h => by
    unfold Rp at h ⊢
    obtain ⟨h1, a, xs, e, h2, h3⟩ := h
    exact ⟨h1, a, xs, e, s _ _ h2, rpL_same s ds xs h3⟩
  | .dct ks ds, v, h => by
    unfold Rp at h ⊢
    obtain ⟨h1, a, xs, e, h2, hk, h3⟩ := h
    exact ⟨h1, a, xs, e, s _ _ h2, hk, rpL_same s ds _ h3⟩
  | .drs, v, h => by unfold Rp at h ⊢; exact h
  | .bot, v, h => by unfold Rp; trivial
theorem rpL_same {c : Cc} {F F' : Hp} (s : Same F F') : ∀ (ds : List D) (xs : List V), RpL c F ds xs → RpL c F' ds xs
  | [], xs, h => by unfold RpL at h ⊢; exact h
  | d :: ds, xs, h => by
    unfold RpL at h ⊢
    obtain ⟨v, r, e, h1, h2⟩ := h
    exact ⟨v, r, e, rp_same s d v h1, rpL_same s ds r h2⟩
end
theorem RpL.len {c : Cc} {F : Hp} : ∀ {ds : List D} {xs : List V}, RpL c F ds xs → xs.length = ds.length
  | [], xs, h => by rw [rpL_nil.mp h]; rfl
  | d :: ds, xs, h => by
    obtain ⟨v, r, rfl, _, h2⟩ := rpL_cons.mp h
    rw [List.length_cons, List.length_cons, RpL.len h2]
theorem RpL.app {c : Cc} {F : Hp} : ∀ {ds es : List D} {xs ys : List V}, RpL c F ds xs → RpL c F es ys → RpL c F (ds ++ es) (xs ++ ys)
  | [], es, xs, ys, h, g => by rw [rpL_nil.mp h]; exact g
  | d :: ds, es, xs, ys, h, g => by
    obtain ⟨v, r, rfl, h1, h2⟩ := rpL_cons.mp h
    exact rpL_cons.mpr ⟨v, r ++ ys, rfl, h1, RpL.app h2 g⟩
theorem RpL.one {c : Cc} {F : Hp} {d : D} {v : V} (h : Rp c F d v) : RpL c F [d] [v] := rpL_cons.mpr ⟨v, [], rfl, h, rpL_nil.mpr rfl⟩
theorem RpL.at {c : Cc} {F : Hp} : ∀ {ds : List D} {xs : List V} (i : Nat) {d : D}, RpL c F ds xs → ds[i]? = some d → ∃ v, xs[i]? = some v ∧ Rp c F d v
  | [], _, _, _, _, e => by simp at e
  | d' :: ds, xs, 0, d, h, e => by
    obtain ⟨v, r, rfl, h1, h2⟩ := rpL_cons.mp h
    simp at e
    subst e
    exact ⟨v, rfl, h1⟩
  | d' :: ds, xs, i + 1, d, h, e => by
    obtain ⟨v, r, rfl, h1, h2⟩ := rpL_cons.mp h
    exact RpL.at i h2 (by simpa using e)
theorem RpL.atV {c : Cc} {F : Hp} {ds : List D} {xs : List V} {i : Nat} {v : V} (h : RpL c F ds xs) (e : xs[i]? = some v) : ∃ d, ds[i]? = some d ∧ Rp c F d v := by
  have hi : i < ds.length := by
    rw [← h.len]
    exact (List.getElem?_eq_some_iff.mp e).1
  obtain ⟨v', e1, r⟩ := h.at i (List.getElem?_eq_getElem hi)
  rw [e] at e1
  cases e1
  exact ⟨_, List.getElem?_eq_getElem hi, r⟩
theorem RpL.drop {c : Cc} {F : Hp} : ∀ {ds : List D} {xs : List V} (n : Nat), RpL c F ds xs → RpL c F (ds.drop n) (xs.drop n)
  | _, _, 0, h => h
  | [], xs, n + 1, h => by rw [rpL_nil.mp h]; exact rpL_nil.mpr rfl
  | d :: ds, xs, n + 1, h => by
    obtain ⟨v, r, rfl, h1, h2⟩ := rpL_cons.mp h
    exact RpL.drop n h2
theorem RpL.take {c : Cc} {F : Hp} : ∀ {ds : List D} {xs : List V} (n : Nat), RpL c F ds xs → RpL c F (ds.take n) (xs.take n)
  | _, _, 0, h => by rw [List.take_zero, List.take_zero]; exact rpL_nil.mpr rfl
  | [], xs, n + 1, h => by rw [rpL_nil.mp h]; exact rpL_nil.mpr rfl
  | d :: ds, xs, n + 1, h => by
    obtain ⟨v, r, rfl, h1, h2⟩ := rpL_cons.mp h
    exact rpL_cons.mpr ⟨v, r.take n, rfl, h1, RpL.take n h2⟩
theorem RpL.set {c : Cc} {F : Hp} : ∀ {ds : List D} {xs : List V} (n : Nat) {d : D} {v : V}, RpL c F ds xs → Rp c F d v → RpL c F (ds.set n d) (xs.set n v)
  | [], xs, n, d, v, h, _ => by rw [rpL_nil.mp h]; exact rpL_nil.mpr rfl
  | d :: ds, xs, 0, d', v', h, g => by
    obtain ⟨v, r, rfl, h1, h2⟩ := rpL_cons.mp h
    exact rpL_cons.mpr ⟨v', r, rfl, g, h2⟩
  | d :: ds, xs, n + 1, d', v', h, g => by
    obtain ⟨v, r, rfl, h1, h2⟩ := rpL_cons.mp h
    exact rpL_cons.mpr ⟨v, r.set n v', rfl, h1, RpL.set n h2 g⟩
theorem rp_int {c : Cc} {F : Hp} {i : Int} {v : V} : Rp c F (.int i) v ↔ v = .int i := by unfold Rp; exact Iff.rfl
theorem rp_bl {c : Cc} {F : Hp} {i : Bool} {v : V} : Rp c F (.bl i) v ↔ v = .bl i := by unfold Rp; exact Iff.rfl
theorem rp_non {c : Cc} {F : Hp} {v : V} : Rp c F .non v ↔ v = .non := by unfold Rp; exact Iff.rfl
theorem rp_drs {c : Cc} {F : Hp} {v : V} : Rp c F .drs v ↔ v = .ref c.dq := by unfold Rp; exact Iff.rfl
theorem rp_str {c : Cc} {F : Hp} {s : Str} {v : V} : Rp c F (.str s) v ↔ v = .str s ∧ PyData.strOk s = true ∧ s.length ≤ 1000000 := by unfold Rp; exact Iff.rfl
theorem rp_tup {c : Cc} {F : Hp} {ds : List D} {v : V} : Rp c F (.tup ds) v ↔ ds.length ≤ 1000000 ∧ ∃ a xs, v = .ref a ∧ SqT c.K F a xs ∧ RpL c F ds xs := by
  constructor
  · intro h; unfold Rp at h; exact h
  · intro h; unfold Rp; exact h
theorem rp_lst {c : Cc} {F : Hp} {ds : List D} {v : V} : Rp c F (.lst ds) v ↔ ds.length ≤ 1000000 ∧ ∃ a xs, v = .ref a ∧ F a = some (.lst xs) ∧ RpL c F ds xs := by
  constructor
  · intro h; unfold Rp at h; exact h
  · intro h; unfold Rp; exact h
/-! ### the world, and how it goes on -/
/-- F: what never changes any more; the tables; the state of draws -/
structure Wo (c : Cc) (s : Sx) (F H : Hp) : Prop where
  sub : Same F H
  tg : TGL c.Ts H
  nt : ∀ p ps, F p ≠ some (.tbl ps)
  ds : match s with
    | none => True
    | some d => F c.dq = none ∧ ∃ q, H c.dq = some (.lst [.int d.t, .int d.l, .ref q]) ∧ F q = some (.lst (d.cs.map V.int))
structure Go (c : Cc) (F H F' H' : Hp) : Prop where
  same : Same F F'
  keep : ∀ b o, H b = some o → b ≠ c.dq → (∀ ps, o ≠ .tbl ps) → H' b = some o
  tb : ∀ b ps, H b = some (.tbl ps) → ∃ ps', H' b = some (.tbl ps')
  dk : ∀ o, H c.dq = some o → ∃ o', H' c.dq = some o'
  dc : ∀ t l q, H c.dq = some (.lst [t, l, q]) → ∃ t' l', H' c.dq = some (.lst [t', l', q])
  fresh : ∀ p o, F p = none → H p = some o → F' p = none
section
variable {c : Cc} {F H F' H' F'' H'' : Hp} {s s' : Sx}
theorem Go.refl : Go c F H F H := ⟨Same.refl F, fun _ _ e _ _ => e, fun _ ps e => ⟨ps, e⟩, fun o e => ⟨o, e⟩, fun t l _ e => ⟨t, l, e⟩, fun _ _ e _ => e⟩
theorem Go.free (g : Go c F H F' H') {b : Addr} (e : H' b = none) : H b = none := by
  cases q : H b with
  | none => rfl
  | some o =>
    by_cases hb : b = c.dq
    · subst hb
      obtain ⟨o', e'⟩ := g.dk o q
      rw [e] at e'
      cases e'
    · cases o with
      | tbl ps =>
        obtain ⟨ps', e'⟩ := g.tb b ps q
        rw [e] at e'
        cases e'
      | _ =>
        have := g.keep b _ q hb (fun ps z => by cases z)
        rw [e] at this
        cases this
theorem Go.there (g : Go c F H F' H') {b : Addr} {o : HO} (e : H b = some o) : ∃ o', H' b = some o' := by
  cases q : H' b with
  | none => rw [g.free q] at e; cases e
  | some o' => exact ⟨o', rfl⟩
theorem Go.trans (a : Go c F H F' H') (b : Go c F' H' F'' H'') : Go c F H F'' H'' := ⟨a.same.trans b.same,
  fun p o e hp hn => b.keep p o (a.keep p o e hp hn) hp hn,
  fun p ps e => let ⟨ps', e'⟩ := a.tb p ps e; b.tb p ps' e',
  fun o e => let ⟨o', e'⟩ := a.dk o e; b.dk o' e',
  fun t l q e => let ⟨t', l', e'⟩ := a.dc t l q e; b.dc t' l' q e',
  fun p o e h => let ⟨o', e'⟩ := a.there h; b.fresh p o' (a.fresh p o e h) e'⟩
/-- a new object that may change -/
theorem Go.newM {p : Addr} {o : HO} (n : H p = none) : Go c F H F (upd H p o) := ⟨Same.refl F,
  fun b u e _ _ => by rw [upd_ne (ne_of_none e n)]; exact e, fun b ps e => ⟨ps, by rw [upd_ne (ne_of_none e n)]; exact e⟩,
  fun u e => ⟨u, by rw [upd_ne (ne_of_none e n)]; exact e⟩, fun t l q e => ⟨t, l, by rw [upd_ne (ne_of_none e n)]; exact e⟩, fun b u e h => e⟩
theorem Wo.newM {p : Addr} {o : HO} (w : Wo c s F H) (n : H p = none) : Wo c s F (upd H p o) := by
  refine ⟨fun b u e => ?_, w.tg.put n, w.nt, ?_⟩
  · have := w.sub b u e
    rw [upd_ne (ne_of_none this n)]
    exact this
  · have q := w.ds
    cases s with
    | none => trivial
    | some d =>
      obtain ⟨q1, q, q2, q3⟩ := q
      exact ⟨q1, q, by rw [upd_ne (ne_of_none q2 n)]; exact q2, q3⟩
theorem Wo.fnone {p : Addr} (w : Wo c s F H) (n : H p = none) : F p = none := by
  cases q : F p with
  | none => rfl
  | some o => rw [w.sub p o q] at n; cases n
/-- an object is frozen as it stands -/
theorem Wo.frz {p : Addr} {o : HO} (w : Wo c s F H) (h : H p = some o) (n : F p = none) (ne : p ≠ c.dq ∨ s = none) (nt : ∀ ps, o ≠ .tbl ps) : Wo c s (upd F p o) H := by
  refine ⟨fun b u e => ?_, w.tg, fun b ps e => ?_, ?_⟩
  · by_cases hb : b = p
    · subst hb
      rw [upd_same] at e
      cases e
      exact h
    · rw [upd_ne hb] at e
      exact w.sub b u e
  · by_cases hb : b = p
    · subst hb
      rw [upd_same] at e
      cases e
      exact nt ps rfl
    · rw [upd_ne hb] at e
      exact w.nt b ps e
  · have q := w.ds
    cases s with
    | none => trivial
    | some d =>
      obtain ⟨q1, q, q2, q3⟩ := q
      rcases ne with ne | ne
      · exact ⟨by rw [upd_ne (Ne.symm ne)]; exact q1, q, q2, by rw [upd_ne (fun z => by rw [z, n] at q3; cases q3)]; exact q3⟩
      · cases ne
theorem same_updN {p : Addr} {o : HO} (n : F p = none) : Same F (upd F p o) := fun b u e => by
  rw [upd_ne (fun z => by rw [z, n] at e; cases e)]
  exact e
/-- what was new since H is frozen -/
theorem Go.frz {p : Addr} {o : HO} (g : Go c F H F' H') (n : F' p = none) (h : H p = none) : Go c F H (upd F' p o) H' :=
  ⟨g.same.trans (same_updN n), g.keep, g.tb, g.dk, g.dc, fun b u e q => by
    have hb : b ≠ p := fun z => by rw [z, h] at q; cases q
    rw [upd_ne hb]
    exact g.fresh b u e q⟩
end
/-! ### values in a def's slots -/
/-- a dict: its keys are ints and texts, or tuples of them -/
inductive DO where
  | k (kvs : List (Key × D)) | t (kvs : List (List Key × D))
def DO.len : DO → Nat
  | .k kvs => kvs.length
  | .t kvs => kvs.length
def HoD (c : Cc) (F : Hp) (ho : HO) : DO → Prop
  | .k kvs => ∃ ws : List (Key × V), ho = .dK ws ∧ ws.map Prod.fst = kvs.map Prod.fst ∧ RpL c F (kvs.map Prod.snd) (ws.map Prod.snd)
  | .t kvs => ∃ ws : List (List Key × V), ho = .dT ws ∧ ws.map Prod.fst = kvs.map Prod.fst ∧ RpL c F (kvs.map Prod.snd) (ws.map Prod.snd)
theorem HoD.same {c : Cc} {F F' : Hp} {ho : HO} {o : DO} (h : HoD c F ho o) (s : Same F F') : HoD c F' ho o := by
  cases o with
  | k kvs => obtain ⟨ws, e, h1, h2⟩ := h; exact ⟨ws, e, h1, rpL_same s _ _ h2⟩
  | t kvs => obtain ⟨ws, e, h1, h2⟩ := h; exact ⟨ws, e, h1, rpL_same s _ _ h2⟩
theorem HoD.plain {c : Cc} {F : Hp} {ho : HO} {o : DO} (h : HoD c F ho o) : plainO ho := by
  cases o with
  | k kvs => obtain ⟨ws, rfl, _⟩ := h; exact True.intro
  | t kvs => obtain ⟨ws, rfl, _⟩ := h; exact True.intro
theorem HoD.nt {c : Cc} {F : Hp} {ho : HO} {o : DO} (h : HoD c F ho o) (ps : Array Value) : ho ≠ .tbl ps := fun z => by
  have := h.plain
  rw [z] at this
  exact this
inductive A where
  /-- data that nobody changes any more -/
  | d (t : D)
  /-- a list of one's own -/
  | own (xs : List D)
  /-- a list of one's own that is read from its slot -/
  | bor (xs : List D)
  /-- the error that is being handled -/
  | exc (k : Ek)
  /-- a dict of one's own -/
  | od (o : DO)
def A.v : A → D
  | .d t => t
  | .own xs => .lst xs
  | .bor xs => .lst xs
  | .exc _ => .bot
  | .od _ => .bot
/-- an object of one's own that may change -/
def A.mine : A → Bool
  | .own _ => true
  | .od _ => true
  | _ => false
/-- a list of one's own at p, base: the heap since which it is new -/
structure OwnAt (c : Cc) (Hb F H : Hp) (xs : List D) (p : Addr) : Prop where
  nb : Hb p = none
  nf : F p = none
  nd : p ≠ c.dq
  len : xs.length ≤ 1000000
  ex : ∃ vs, H p = some (.lst vs) ∧ RpL c F xs vs
structure OwnD (c : Cc) (Hb F H : Hp) (o : DO) (p : Addr) : Prop where
  nb : Hb p = none
  nf : F p = none
  nd : p ≠ c.dq
  len : o.len ≤ 1000000
  ex : ∃ ho, H p = some ho ∧ HoD c F ho o
/-- H0: the def's entry; Hb: the heap ahead of the expression -/
def RA (c : Cc) (H0 Hb F H : Hp) : A → V → Prop
  | .d t, v => Rp c F t v
  | .own xs, v => ∃ p, v = .ref p ∧ OwnAt c Hb F H xs p
  | .bor xs, v => ∃ p, v = .ref p ∧ OwnAt c H0 F H xs p
  | .exc k, v => ∃ a, v = .ref a ∧ c.ea = some (a, k)
  | .od o, v => ∃ p, v = .ref p ∧ OwnD c Hb F H o p
section
variable {c : Cc} {F H F' H' H0 Hb : Hp} {s s' : Sx} {xs : List D} {p : Addr} {v : V} {a : A}
theorem OwnAt.go (o : OwnAt c Hb F H xs p) (g : Go c F H F' H') : OwnAt c Hb F' H' xs p := by
  obtain ⟨vs, h, r⟩ := o.ex
  exact ⟨o.nb, g.fresh p _ o.nf h, o.nd, o.len, vs, g.keep p _ h o.nd (fun ps z => by cases z), rpL_same g.same _ _ r⟩
theorem OwnD.go {o : DO} (w : OwnD c Hb F H o p) (g : Go c F H F' H') : OwnD c Hb F' H' o p := by
  obtain ⟨ho, h, r⟩ := w.ex
  exact ⟨w.nb, g.fresh p _ w.nf h, w.nd, w.len, ho, g.keep p _ h w.nd r.nt, r.same g.same⟩
theorem RA.go (r : RA c H0 Hb F H a v) (g : Go c F H F' H') : RA c H0 Hb F' H' a v := by
  cases a with
  | d t => exact rp_same g.same _ _ r
  | own xs =>
    obtain ⟨p, e, o⟩ := r
    exact ⟨p, e, o.go g⟩
  | bor xs =>
    obtain ⟨p, e, o⟩ := r
    exact ⟨p, e, o.go g⟩
  | exc k => exact r
  | od o =>
    obtain ⟨p, e, o⟩ := r
    exact ⟨p, e, o.go g⟩
/-- new since later is new since earlier -/
theorem RA.since (r : RA c H0 H F' H' a v) (h : ∀ p, H p = none → Hb p = none) : RA c H0 Hb F' H' a v := by
  cases a with
  | d t => exact r
  | own xs =>
    obtain ⟨p, e, o⟩ := r
    exact ⟨p, e, h p o.nb, o.nf, o.nd, o.len, o.ex⟩
  | bor xs => exact r
  | exc k => exact r
  | od o =>
    obtain ⟨p, e, o⟩ := r
    exact ⟨p, e, h p o.nb, o.nf, o.nd, o.len, o.ex⟩
theorem RA.mine (r : RA c H0 Hb F H a v) (h : a.mine = true) : ∃ p o, v = .ref p ∧ H p = some o ∧ plainO o ∧ Hb p = none ∧ F p = none ∧ p ≠ c.dq := by
  cases a with
  | own xs =>
    obtain ⟨p, e, o⟩ := r
    obtain ⟨vs, h, _⟩ := o.ex
    exact ⟨p, _, e, h, True.intro, o.nb, o.nf, o.nd⟩
  | od o =>
    obtain ⟨p, e, o⟩ := r
    obtain ⟨ho, h, d⟩ := o.ex
    exact ⟨p, _, e, h, d.plain, o.nb, o.nf, o.nd⟩
  | _ => cases h
end
/-! ### slots -/
abbrev Env := List (Option A)
structure En (c : Cc) (H0 : Hp) (e : Env) (σ : L2.St) (F H : Hp) : Prop where
  len : e.length = σ.length
  at' : ∀ (i : Nat) (a : A), e[i]? = some (some a) → ∃ v, σ[i]? = some (some v) ∧ RA c H0 H0 F H a v
  nb : ∀ (i : Nat) (xs : List D), e[i]? ≠ some (some (.bor xs))
  ne : ∀ (i j : Nat) (a b : A) (p : Addr), e[i]? = some (some a) → e[j]? = some (some b) → a.mine = true → b.mine = true → σ[i]? = some (some (.ref p)) → σ[j]? = some (some (.ref p)) → i = j
section
variable {c : Cc} {F H F' H' H0 : Hp} {e : Env} {σ : L2.St}
theorem En.go (n : En c H0 e σ F H) (g : Go c F H F' H') : En c H0 e σ F' H' := ⟨n.len, fun i a h => let ⟨v, h1, r⟩ := n.at' i a h; ⟨v, h1, r.go g⟩, n.nb, n.ne⟩
end
/-- a state: entry F0 H0 -/
structure Hold (c : Cc) (F0 H0 : Hp) (e : Env) (s : Sx) (σ : L2.St) (F H : Hp) : Prop where
  w : Wo c s F H
  g : Go c F0 H0 F H
  n : En c H0 e σ F H
theorem Hold.go {c : Cc} {F0 H0 F H F' H' : Hp} {e : Env} {s s' : Sx} {σ : L2.St} (h : Hold c F0 H0 e s σ F H) (g : Go c F H F' H') (w : Wo c s' F' H') : Hold c F0 H0 e s' σ F' H' := ⟨w, h.g.trans g, h.n.go g⟩
/-! ### canonical readings -/
abbrev Wx := WX
def Post {α β : Type} (c : Cc) (W : WX) (σ : L2.St) (F H : Hp) (R : Hp → Hp → α → β → Prop) (r : Res α) (Q : β → Hp → Prop) : Prop := match r with
  | .ok a s' => ∀ v F' H', Wo c s' F' H' → Go c F H F' H' → R F' H' a v → Q v H'
  | .er k s' => ∀ F' H', Wo c s' F' H' → Go c F H F' H' → W (.ref (c.ca k)) none σ H'
  | .bad => False
def rd {α β : Type} (c : Cc) (F0 H0 : Hp) (W : WX) (R : Hp → Hp → Hp → α → β → Prop) (m : Env → Sx → Res α) : L2.St → Hp → (β → Hp → Prop) → Prop :=
  fun σ H Q => ∃ F e s, Hold c F0 H0 e s σ F H ∧ Post c W σ F H (R H) (m e s) Q
/-- expressions -/
abbrev ME (c : Cc) (F0 H0 : Hp) (W : WX) (X : Cx) (e : Expr) (m : Env → Sx → Res A) : Prop := PE X e (rd c F0 H0 W (fun Hb F H a v => RA c H0 Hb F H a v) m)
/-- tests -/
abbrev MT (c : Cc) (F0 H0 : Hp) (W : WX) (X : Cx) (e : Expr) (m : Env → Sx → Res Bool) : Prop := PT X e (rd c F0 H0 W (fun _ _ _ a v => a = v) m)
abbrev MW (c : Cc) (F0 H0 : Hp) (W : WX) (X : Cx) (e : Expr) (m : Env → Sx → Res Bool) : Prop := PW X e (rd c F0 H0 W (fun _ _ _ a v => a = v) m)
/-- argument lists -/
def RAs (c : Cc) (H0 Hb F H : Hp) : List A → List V → Prop
  | [], vs => vs = []
  | a :: as, vs => ∃ v r, vs = v :: r ∧ RA c H0 Hb F H a v ∧ RAs c H0 Hb F H as r
abbrev MA (c : Cc) (F0 H0 : Hp) (W : WX) (X : Cx) (es : List Expr) (m : Env → Sx → Res (List A)) : Prop := PA X es (rd c F0 H0 W (fun Hb F H a v => RAs c H0 Hb F H a v) m)
section
variable {α β γ : Type} {c : Cc} {F0 H0 F H : Hp} {W : WX} {σ : L2.St} {e : Env} {s : Sx}
theorem rd_mono {R : Hp → Hp → Hp → α → β → Prop} {m : Env → Sx → Res α} {Q Q' : β → Hp → Prop} (h : rd c F0 H0 W R m σ H Q) (q : ∀ v H', Q v H' → Q' v H') : rd c F0 H0 W R m σ H Q' := by
  obtain ⟨F, e, s, hh, p⟩ := h
  refine ⟨F, e, s, hh, ?_⟩
  unfold Post at p ⊢
  split at p
  · exact fun v F' H' w g r => q v H' (p v F' H' w g r)
  · exact p
  · exact p
/-- one step; what follows it is known of the state behind it -/
theorem bindE {R : Hp → Hp → Hp → α → β → Prop} {R' : Hp → Hp → Hp → γ → δ → Prop} {m : Env → Sx → Res α} {k : α → Sx → Res γ} {Q : δ → Hp → Prop} (hh : Hold c F0 H0 e s σ F H)
    (hR : ∀ {H1 F' H' a v}, (∀ p, H1 p = none → H p = none) → R' H1 F' H' a v → R' H F' H' a v)
    (p : Post c W σ F H (R' H) ((m e s).bind k) Q) :
    rd c F0 H0 W R m σ H (fun v H1 => ∃ F1 s1 x, Hold c F0 H0 e s1 σ F1 H1 ∧ Go c F H F1 H1 ∧ R H F1 H1 x v ∧ Post c W σ F1 H1 (R' H1) (k x s1) Q) := by
  refine ⟨F, e, s, hh, ?_⟩
  unfold Post
  cases q : m e s with
  | ok x s1 =>
    intro v F1 H1 w1 g1 r1
    refine ⟨F1, s1, x, hh.go g1 w1, g1, r1, ?_⟩
    rw [q] at p
    have p : Post c W σ F H (R' H) (k x s1) Q := p
    cases q2 : k x s1 with
    | ok y s2 =>
      rw [q2] at p
      exact fun v F' H' w g r => p v F' H' w (g1.trans g) (hR (fun b hb => g1.free hb) r)
    | er k2 s2 =>
      rw [q2] at p
      exact fun F' H' w g => p F' H' w (g1.trans g)
    | bad =>
      rw [q2] at p
      exact p
  | er k1 s1 =>
    rw [q] at p
    exact p
  | bad =>
    rw [q] at p
    exact p
/-- .. what is new is new since the beginning -/
theorem Post.go {R' : Hp → Hp → γ → δ → Prop} {r : Res γ} {Q : δ → Hp → Prop} {F1 H1 : Hp} (p : Post c W σ F H R' r Q) (g1 : Go c F H F1 H1) : Post c W σ F1 H1 R' r Q := by
  cases r with
  | ok y s2 => exact fun v F' H' w g r => p v F' H' w (g1.trans g) r
  | er k2 s2 => exact fun F' H' w g => p F' H' w (g1.trans g)
  | bad => exact p
theorem bindK {R : Hp → Hp → Hp → α → β → Prop} {R' : Hp → Hp → γ → δ → Prop} {m : Env → Sx → Res α} {k : α → Sx → Res γ} {Q : δ → Hp → Prop} (hh : Hold c F0 H0 e s σ F H)
    (p : Post c W σ F H R' ((m e s).bind k) Q) :
    rd c F0 H0 W R m σ H (fun v H1 => ∃ F1 s1 x, Hold c F0 H0 e s1 σ F1 H1 ∧ Go c F H F1 H1 ∧ R H F1 H1 x v ∧ Post c W σ F H R' (k x s1) Q) := by
  refine ⟨F, e, s, hh, ?_⟩
  cases q : m e s with
  | ok x s1 =>
    rw [q] at p
    exact fun v F1 H1 w1 g1 r1 => ⟨F1, s1, x, hh.go g1 w1, g1, r1, p⟩
  | er k1 s1 =>
    rw [q] at p
    exact p
  | bad =>
    rw [q] at p
    exact p
theorem bindQ {R : Hp → Hp → Hp → α → β → Prop} {R' : Hp → Hp → γ → δ → Prop} {m : Env → Sx → Res α} {k : α → Sx → Res γ} {Q : δ → Hp → Prop} (hh : Hold c F0 H0 e s σ F H)
    (p : Post c W σ F H R' ((m e s).bind k) Q) :
    rd c F0 H0 W R m σ H (fun v H1 => ∃ F1 s1 x, Hold c F0 H0 e s1 σ F1 H1 ∧ Go c F H F1 H1 ∧ R H F1 H1 x v ∧ Post c W σ F H R' (k x s1) Q ∧ m e s = .ok x s1) := by
  refine ⟨F, e, s, hh, ?_⟩
  cases q : m e s with
  | ok x s1 =>
    rw [q] at p
    exact fun v F1 H1 w1 g1 r1 => ⟨F1, s1, x, hh.go g1 w1, g1, r1, p, rfl⟩
  | er k1 s1 =>
    rw [q] at p
    exact p
  | bad =>
    rw [q] at p
    exact p
end
theorem pe_mono {X : Cx} {e : Expr} {t t' : TE} (h : PE X e t) (m : ∀ σ H Q, t' σ H Q → t σ H Q) : PE X e t' := ⟨fun pins s σ H Q I q => h.run pins s σ H Q I (m σ H Q q)⟩
theorem pt_mono {X : Cx} {e : Expr} {t t' : TT} (h : PT X e t) (m : ∀ σ H Q, t' σ H Q → t σ H Q) : PT X e t' := ⟨fun pins s σ H Q I q => h.run pins s σ H Q I (m σ H Q q)⟩
theorem pw_mono {X : Cx} {e : Expr} {t t' : TT} (h : PW X e t) (m : ∀ σ H Q, t' σ H Q → t σ H Q) : PW X e t' := ⟨fun w pins s σ H Q I q => h.run w pins s σ H Q I (m σ H Q q)⟩
theorem pa_mono {X : Cx} {e : List Expr} {t t' : TA} (h : PA X e t) (m : ∀ σ H Q, t' σ H Q → t σ H Q) : PA X e t' := ⟨fun pos pins s σ H Q I q => h.run pos pins s σ H Q I (m σ H Q q)⟩
theorem ps_mono {X : Cx} {e : Stmt} {t t' : TS} (h : PS X e t) (m : ∀ D σ H, t' D σ H → t D σ H) : PS X e t' := ⟨fun pins s σ H D I q => h.run pins s σ H D I (m D σ H q)⟩
theorem pss_mono {X : Cx} {e : List Stmt} {t t' : TS} (h : PSs X e t) (m : ∀ D σ H, t' D σ H → t D σ H) : PSs X e t' := ⟨fun pins s σ H D I q => h.run pins s σ H D I (m D σ H q)⟩
end Mi
namespace Mi
open PySem PySem.Spec PyProof.Rows L2 Kt Kj
/-- a value read as data, as it stands -/
def Vw (c : Cc) (F H : Hp) : D → V → Prop
  | .lst ds, v => ds.length ≤ 1000000 ∧ ∃ p vs, v = .ref p ∧ H p = some (.lst vs) ∧ RpL c F ds vs
  | .dct ks ds, v => ds.length ≤ 1000000 ∧ ∃ p kvs, v = .ref p ∧ H p = some (.dK kvs) ∧ kvs.map (·.1) = ks ∧ RpL c F ds (kvs.map (·.2))
  | d, v => Rp c F d v
section
variable {c : Cc} {F H F' H' H0 Hb : Hp} {s s' : Sx} {xs : List D} {p : Addr} {v : V} {a : A}
theorem Rp.vw (w : Wo c s F H) {d : D} (r : Rp c F d v) : Vw c F H d v := by
  cases d with
  | lst ds =>
    obtain ⟨h, p, xs, e, h2, h3⟩ := rp_lst.mp r
    exact ⟨h, p, xs, e, w.sub _ _ h2, h3⟩
  | dct ks ds =>
    unfold Rp at r
    obtain ⟨h, p, xs, e, h2, h3, h4⟩ := r
    exact ⟨h, p, xs, e, w.sub _ _ h2, h3, h4⟩
  | _ => exact r
theorem RA.vw (w : Wo c s F H) (r : RA c H0 Hb F H a v) : Vw c F H a.v v := by
  cases a with
  | d t => exact Rp.vw w r
  | own xs =>
    obtain ⟨p, e, o⟩ := r
    obtain ⟨vs, h1, h2⟩ := o.ex
    exact ⟨o.len, p, vs, e, h1, h2⟩
  | bor xs =>
    obtain ⟨p, e, o⟩ := r
    obtain ⟨vs, h1, h2⟩ := o.ex
    exact ⟨o.len, p, vs, e, h1, h2⟩
  | exc k =>
    show Rp c F .bot v
    unfold Rp
    trivial
  | od o =>
    show Rp c F .bot v
    unfold Rp
    trivial
theorem vw_int {i : Int} (h : Vw c F H (.int i) v) : v = .int i := rp_int.mp (show Rp c F _ v from h)
theorem vw_bl {i : Bool} (h : Vw c F H (.bl i) v) : v = .bl i := rp_bl.mp (show Rp c F _ v from h)
theorem vw_non (h : Vw c F H .non v) : v = .non := rp_non.mp (show Rp c F _ v from h)
theorem vw_str {z : Str} (h : Vw c F H (.str z) v) : v = .str z ∧ PyData.strOk z = true ∧ z.length ≤ 1000000 := rp_str.mp (show Rp c F _ v from h)
theorem vw_lst {ds : List D} (h : Vw c F H (.lst ds) v) : ds.length ≤ 1000000 ∧ ∃ p vs, v = .ref p ∧ H p = some (.lst vs) ∧ RpL c F ds vs := h
theorem vw_tup {ds : List D} (w : Wo c s F H) (h : Vw c F H (.tup ds) v) : ds.length ≤ 1000000 ∧ ∃ p vs, v = .ref p ∧ SqT c.K H p vs ∧ RpL c F ds vs := by
  obtain ⟨h1, p, vs, e, h2, h3⟩ := rp_tup.mp (show Rp c F _ v from h)
  exact ⟨h1, p, vs, e, sqT_same w.sub h2, h3⟩
theorem Wo.ndq (w : Wo c s F H) (n : H p = none) : p ≠ c.dq ∨ s = none := by
  cases s with
  | none => exact .inr rfl
  | some d =>
    obtain ⟨_, q, h, _⟩ := w.ds
    exact .inl fun z => by rw [z, h] at n; cases n
theorem Wo.newF {o : HO} (w : Wo c s F H) (n : H p = none) (nt : ∀ ps, o ≠ .tbl ps) : Wo c s (upd F p o) (upd H p o) := (w.newM n).frz upd_same (w.fnone n) (w.ndq n) nt
theorem Go.newF {o : HO} (w : Wo c s F H) (n : H p = none) : Go c F H (upd F p o) (upd H p o) := (Go.newM n).frz (w.fnone n) n
theorem big : (1000000 : Nat) < sizeLine := by decide
/-- a new tuple -/
theorem newT {Q : VK} {vs : List V} {ds : List D} (w : Wo c s F H) (r : RpL c F ds vs) (l : ds.length ≤ 1000000) (n : H p = none)
    (q : ∀ v F' H', Wo c s F' H' → Go c F H F' H' → RA c H0 H F' H' (.d (.tup ds)) v → Q v H') : Q (.ref p) (upd H p (.tup vs)) :=
  q _ _ _ (w.newF n fun ps z => by cases z) (.newF w n) (rp_tup.mpr ⟨l, p, vs, rfl, SqT.of upd_same, rpL_same (same_updN (w.fnone n)) _ _ r⟩)
/-- a new list -/
theorem newL {Q : VK} {vs : List V} {ds : List D} (w : Wo c s F H) (r : RpL c F ds vs) (l : ds.length ≤ 1000000) (n : H p = none)
    (hd : p ≠ c.dq) (q : ∀ v F' H', Wo c s F' H' → Go c F H F' H' → RA c H0 H F' H' (.own ds) v → Q v H') : Q (.ref p) (upd H p (.lst vs)) :=
  q _ _ _ (w.newM n) (.newM n) ⟨p, rfl, n, w.fnone n, hd, l, vs, upd_same, r⟩
/-- a scalar -/
theorem newS {Q : VK} {a : A} (w : Wo c s F H) (r : RA c H0 H F H a v) (q : ∀ v F' H', Wo c s F' H' → Go c F H F' H' → RA c H0 H F' H' a v → Q v H') : Q v H := q _ _ _ w .refl r
end
theorem ra_bl {c : Cc} {H0 Hb F H : Hp} {k : Bool} : RA c H0 Hb F H (.d (.bl k)) (.bl k) := (rp_bl (c := c) (F := F)).mpr rfl
theorem ra_int {c : Cc} {H0 Hb F H : Hp} {k : Int} : RA c H0 Hb F H (.d (.int k)) (.int k) := (rp_int (c := c) (F := F)).mpr rfl
theorem ra_non {c : Cc} {H0 Hb F H : Hp} : RA c H0 Hb F H (.d .non) .non := (rp_non (c := c) (F := F)).mpr rfl
theorem ra_str {c : Cc} {H0 Hb F H : Hp} {z : Str} (h : PyData.strOk z = true) (h2 : z.length ≤ 1000000) : RA c H0 Hb F H (.d (.str z)) (.str z) := (rp_str (c := c) (F := F)).mpr ⟨rfl, h, h2⟩
/-! ### operators -/
def OpS (c : Cc) (r : R2) (g : D → D → Option A) : Prop := ∀ {H0 F H : Hp} {s : Sx} {d e : D} {x y : V} {z : A} {Q : VK}, Wo c s F H → (∀ p, H p = none → p ≠ c.dq) → Vw c F H d x → Vw c F H e y → g d e = some z →
  (∀ v F' H', Wo c s F' H' → Go c F H F' H' → RA c H0 H F' H' z v → Q v H') → r x y H Q
def UnS (c : Cc) (r : V → Hp → VK → Prop) (g : D → Option A) : Prop := ∀ {H0 F H : Hp} {s : Sx} {d : D} {x : V} {z : A} {Q : VK}, Wo c s F H → (∀ p, H p = none → p ≠ c.dq) → Vw c F H d x → g d = some z →
  (∀ v F' H', Wo c s F' H' → Go c F H F' H' → RA c H0 H F' H' z v → Q v H') → r x H Q
def VwL (c : Cc) (F H : Hp) : List D → List V → Prop
  | [], vs => vs = []
  | a :: as, vs => ∃ v r, vs = v :: r ∧ Vw c F H a v ∧ VwL c F H as r
def CaS (c : Cc) (r : List V → Hp → VK → Prop) (g : List D → Option A) : Prop := ∀ {H0 F H : Hp} {s : Sx} {ds : List D} {xs : List V} {z : A} {Q : VK}, Wo c s F H → (∀ p, H p = none → p ≠ c.dq) → VwL c F H ds xs → g ds = some z →
  (∀ v F' H', Wo c s F' H' → Go c F H F' H' → RA c H0 H F' H' z v → Q v H') → r xs H Q
abbrev Mv := Env → Sx → Res A
abbrev Mb := Env → Sx → Res Bool
def opt {α : Type} (o : Option α) (s : Sx) : Res α := match o with
  | some z => .ok z s
  | none => .bad
def mBin (g : D → D → Option A) (m1 m2 : Mv) : Mv := fun e s => (m1 e s).bind fun x s1 => (m2 e s1).bind fun y s2 => opt (g x.v y.v) s2
def mUn (g : D → Option A) (m1 : Mv) : Mv := fun e s => (m1 e s).bind fun x s1 => opt (g x.v) s1
def mArgs : List Mv → Env → Sx → Res (List A)
  | [] => fun _ s => .ok [] s
  | m :: ms => fun e s => (m e s).bind fun x s1 => (mArgs ms e s1).bind fun xs s2 => .ok (x :: xs) s2
def mCall (g : List D → Option A) (ms : List Mv) : Mv := fun e s => (mArgs ms e s).bind fun xs s1 => opt (g (xs.map A.v)) s1
/-- the world's draws object stands: it is not new -/
class Dq (c : Cc) (H0 : Hp) : Prop where
  out : ∀ p, H0 p = none → p ≠ c.dq
section
variable {c : Cc} {F0 H0 : Hp} {W : WX} {X : Cx} {pos : Pos} {a b : Expr} {es : List Expr} {m1 m2 : Mv} [hq : Dq c H0]
theorem Hold.dq {e : Env} {s : Sx} {σ : L2.St} {F H : Hp} (h : Hold c F0 H0 e s σ F H) : ∀ p, H p = none → p ≠ c.dq := fun p n => hq.out p (h.g.free n)
theorem post_opt {σ : L2.St} {F H : Hp} {o : Option A} {s : Sx} {Q : VK} (p : Post c W σ F H (fun F' H' a v => RA c H0 H F' H' a v) (opt o s) Q) : ∃ z, o = some z ∧ ∀ v F' H', Wo c s F' H' → Go c F H F' H' → RA c H0 H F' H' z v → Q v H' := by
  cases o with
  | none => exact p.elim
  | some z => exact ⟨z, rfl, p⟩
theorem me_op {op : Operator} {r : R2} {g : D → D → Option A} (ho : OpR X (binaryOp op) r) (hg : OpS c r g) (ha : ME c F0 H0 W X a m1) (hb : ME c F0 H0 W X b m2) : ME c F0 H0 W X (.BinOp a op b pos) (mBin g m1 m2) := by
  refine pe_mono (pe_op ho ha hb) fun σ H Q ⟨F, e, s, hh, p⟩ => ?_
  refine rd_mono (bindE (R' := fun Hb F H a v => RA c H0 Hb F H a v) hh (fun h r => r.since h) p) fun x H1 ⟨F1, s1, a1, h1, g1, r1, p1⟩ => ?_
  refine rd_mono (bindE (R' := fun Hb F H a v => RA c H0 Hb F H a v) h1 (fun h r => r.since h) p1) fun y H2 ⟨F2, s2, a2, h2, g2, r2, p2⟩ => ?_
  obtain ⟨z, ez, q⟩ := post_opt p2
  exact hg h2.w h2.dq ((r1.go g2).vw h2.w) (r2.vw h2.w) ez q
theorem me_un {op : UnaryOp} {r : V → Hp → VK → Prop} {g : D → Option A} (ho : UnR X (unaryOp op) r) (hg : UnS c r g) (ha : ME c F0 H0 W X a m1) : ME c F0 H0 W X (.UnaryOp op a pos) (mUn g m1) := by
  refine pe_mono (pe_un ho ha) fun σ H Q ⟨F, e, s, hh, p⟩ => ?_
  refine rd_mono (bindE (R' := fun Hb F H a v => RA c H0 Hb F H a v) hh (fun h r => r.since h) p) fun x H1 ⟨F1, s1, a1, h1, g1, r1, p1⟩ => ?_
  obtain ⟨z, ez, q⟩ := post_opt p1
  exact hg h1.w h1.dq (r1.vw h1.w) ez q
theorem me_cmp {op : CmpOp} {r : R2} {g : D → D → Option A} (ho : OpR X (compareOp op) r) (hg : OpS c r g) (ha : ME c F0 H0 W X a m1) (hb : ME c F0 H0 W X b m2) (hm : behindInMarks op b = false) : ME c F0 H0 W X (.Compare a [op] [b] pos) (mBin g m1 m2) := by
  refine pe_mono (pe_cmpR ho ha hb hm) fun σ H Q ⟨F, e, s, hh, p⟩ => ?_
  refine rd_mono (bindE (R' := fun Hb F H a v => RA c H0 Hb F H a v) hh (fun h r => r.since h) p) fun x H1 ⟨F1, s1, a1, h1, g1, r1, p1⟩ => ?_
  refine rd_mono (bindE (R' := fun Hb F H a v => RA c H0 Hb F H a v) h1 (fun h r => r.since h) p1) fun y H2 ⟨F2, s2, a2, h2, g2, r2, p2⟩ => ?_
  obtain ⟨z, ez, q⟩ := post_opt p2
  exact hg h2.w h2.dq ((r1.go g2).vw h2.w) (r2.vw h2.w) ez q
/-- a value as a test -/
def asB : A → Option Bool
  | .d (.bl b) => some b
  | _ => none
def mBool (m : Mv) : Mb := fun e s => (m e s).bind fun x s1 => opt (asB x) s1
theorem post_optB {σ : L2.St} {F H : Hp} {o : Option Bool} {s : Sx} {Q : Bool → Hp → Prop} (p : Post c W σ F H (fun F' H' a v => a = v) (opt o s) Q) : ∃ z, o = some z ∧ ∀ F' H', Wo c s F' H' → Go c F H F' H' → Q z H' := by
  cases o with
  | none => exact p.elim
  | some z => exact ⟨z, rfl, fun F' H' w g => p z F' H' w g rfl⟩
theorem asB_some {F H Hb : Hp} {x : A} {v : V} {k : Bool} (h : asB x = some k) (r : RA c H0 Hb F H x v) : v = .bl k := by
  unfold asB at h
  split at h
  · cases h
    exact rp_bl.mp (show Rp c F _ v from r)
  · cases h
theorem mt_of {t : TE} (ht : PT X a (fun σ H Q => t σ H fun x H' => ∃ k, x = .bl k ∧ Q k H')) (hm : ∀ σ H Q, rd c F0 H0 W (fun Hb F H a v => RA c H0 Hb F H a v) m1 σ H Q → t σ H Q) : MT c F0 H0 W X a (mBool m1) := by
  refine pt_mono ht fun σ H Q ⟨F, e, s, hh, p⟩ => hm _ _ _ ?_
  refine rd_mono (bindE (R' := fun _ _ _ a v => a = v) hh (fun h r => r) p) fun x H1 ⟨F1, s1, a1, h1, g1, r1, p1⟩ => ?_
  obtain ⟨z, ez, q⟩ := post_optB p1
  exact ⟨z, asB_some ez r1, q _ _ h1.w .refl⟩
theorem mt_val (ha : ME c F0 H0 W X a m1) (he : ∀ whole, isTrue a X.env whole = (do let v ← whole; standAt a.pos; holding [v] (truthy v)) := by intro _; rfl) : MT c F0 H0 W X a (mBool m1) := mt_of (pt_val ha he) fun _ _ _ h => h
theorem mt_cmp {op : CmpOp} {r : R2} {g : D → D → Option A} (ho : OpR X (compareOp op) r) (hg : OpS c r g) (ha : ME c F0 H0 W X a m1) (hb : ME c F0 H0 W X b m2) (hm : behindInMarks op b = false) : MT c F0 H0 W X (.Compare a [op] [b] pos) (mBool (mBin g m1 m2)) := by
  refine mt_of (pt_cmpR ho ha hb hm) fun σ H Q ⟨F, e, s, hh, p⟩ => ?_
  refine rd_mono (bindE (R' := fun Hb F H a v => RA c H0 Hb F H a v) hh (fun h r => r.since h) p) fun x H1 ⟨F1, s1, a1, h1, g1, r1, p1⟩ => ?_
  refine rd_mono (bindE (R' := fun Hb F H a v => RA c H0 Hb F H a v) h1 (fun h r => r.since h) p1) fun y H2 ⟨F2, s2, a2, h2, g2, r2, p2⟩ => ?_
  obtain ⟨z, ez, q⟩ := post_opt p2
  exact hg h2.w h2.dq ((r1.go g2).vw h2.w) (r2.vw h2.w) ez q
/-- a op b op' c -/
def mChain (g g' : D → D → Option A) (m1 m2 m3 : Mv) : Mv := fun e s => (m1 e s).bind fun x s1 => (m2 e s1).bind fun y s2 => (opt (g x.v y.v) s2).bind fun k s3 => (opt (asB k) s3).bind fun k s4 =>
  if k = true then (m3 e s4).bind fun z s5 => opt (g' y.v z.v) s5 else .ok (.d (.bl false)) s4
/-! names and constants -/
def mC (d : D) : Mv := fun _ s => .ok (.d d) s
def slot (e : Env) (i : Nat) : Option A := match e[i]? with
  | some (some (.own xs)) => some (.bor xs)
  | some (some (.od _)) => none
  | some (some a) => some a
  | _ => none
def mVar (i : Nat) : Mv := fun e s => opt (slot e i) s
theorem me_var {i : Nat} {x : Str} (hN : X.N[i]? = some x) (hv : Vis X.env.scope x) (hd : (x == ("__debug__" : Str)) = false := by decide) (hcd : (x == ("__classdict__" : Str)) = false := by decide) : ME c F0 H0 W X (.Name x pos) (mVar i) := by
  refine pe_mono (pe_var hN hv hd hcd) fun σ H Q ⟨F, e, s, hh, p⟩ => ?_
  obtain ⟨z, ez, q⟩ := post_opt p
  unfold slot at ez
  split at ez
  · rename_i xs h
    cases ez
    obtain ⟨v, ev, r⟩ := hh.n.at' _ _ h
    exact ⟨v, ev, q v F H hh.w .refl r⟩
  · cases ez
  · rename_i a' h' hd' h
    cases ez
    obtain ⟨v, ev, r⟩ := hh.n.at' _ _ h
    refine ⟨v, ev, q v F H hh.w .refl ?_⟩
    cases z with
    | d t => exact r
    | own xs => exact (h' xs rfl).elim
    | bor xs => exact r
    | exc k => exact r
    | od o => exact (hd' o rfl).elim
  · cases ez
theorem me_const {d : D} {v : V} {e : Expr} (h : PE X e (tC v)) (r : ∀ F, Rp c F d v) : ME c F0 H0 W X e (mC d) := by
  refine pe_mono h fun σ H Q ⟨F, e, s, hh, p⟩ => ?_
  exact p v F H hh.w .refl (r F)
theorem me_int {i j} : ME c F0 H0 W X (.Constant (.int i) j pos) (mC (.int i)) := me_const pe_int fun F => rp_int.mpr rfl
theorem me_bl {i j} : ME c F0 H0 W X (.Constant (.bool i) j pos) (mC (.bl i)) := me_const pe_bl fun F => rp_bl.mpr rfl
theorem me_non {j} : ME c F0 H0 W X (.Constant .none j pos) (mC .non) := me_const pe_non fun F => rp_non.mpr rfl
theorem me_str {x : Str} {j} (h : PyData.strOk x = true := by decide +kernel) (h2 : x.length ≤ 1000000 := by decide +kernel) : ME c F0 H0 W X (.Constant (.str x) j pos) (mC (.str x)) := me_const pe_str fun F => rp_str.mpr ⟨rfl, h, h2⟩
/-- a module's constant -/
theorem me_glob {x : Str} {d : D} {v : V} {u : Value} (hg : Gl X x) (hm : X.mg x = some u) (r : RelV v u) (rp : ∀ F, Rp c F d v) (hd : (x == ("__debug__" : Str)) = false := by decide) : ME c F0 H0 W X (.Name x pos) (mC d) := me_const (pe_glob hg hm r hd) rp
/-! and, or, not, if -/
variable {t1 t2 : Mb} {rest : List Expr}
def mAnd (t1 t2 : Mb) : Mb := fun e s => (t1 e s).bind fun k s1 => if k = true then t2 e s1 else .ok false s1
def mOr (t1 t2 : Mb) : Mb := fun e s => (t1 e s).bind fun k s1 => if k = true then .ok true s1 else t2 e s1
def mNot (t1 : Mb) : Mb := fun e s => (t1 e s).bind fun k s1 => .ok (!k) s1
abbrev R0 : Hp → Hp → Hp → Bool → Bool → Prop := fun _ _ _ a v => a = v
theorem mw_and1 (ha : MT c F0 H0 W X a t1) : MW c F0 H0 W X (.BoolOp .And [a] pos) t1 := pw_and1 ha
theorem mw_or1 (ha : MT c F0 H0 W X a t1) : MW c F0 H0 W X (.BoolOp .Or [a] pos) t1 := pw_or1 ha
theorem mw_and (ha : MT c F0 H0 W X a t1) (hb : MW c F0 H0 W X (.BoolOp .And (b :: rest) pos) t2) : MW c F0 H0 W X (.BoolOp .And (a :: b :: rest) pos) (mAnd t1 t2) := by
  refine pw_mono (pw_and ha hb) fun σ H Q ⟨F, e, s, hh, p⟩ => ?_
  refine rd_mono (bindE (R' := R0) hh (fun h r => r) p) fun x H1 ⟨F1, s1, a1, h1, g1, r1, p1⟩ => ?_
  cases r1
  cases x with
  | true => exact ⟨F1, e, s1, h1, p1⟩
  | false => exact p1 false F1 H1 h1.w .refl rfl
theorem mw_or (ha : MT c F0 H0 W X a t1) (hb : MW c F0 H0 W X (.BoolOp .Or (b :: rest) pos) t2) : MW c F0 H0 W X (.BoolOp .Or (a :: b :: rest) pos) (mOr t1 t2) := by
  refine pw_mono (pw_or ha hb) fun σ H Q ⟨F, e, s, hh, p⟩ => ?_
  refine rd_mono (bindE (R' := R0) hh (fun h r => r) p) fun x H1 ⟨F1, s1, a1, h1, g1, r1, p1⟩ => ?_
  cases r1
  cases x with
  | false => exact ⟨F1, e, s1, h1, p1⟩
  | true => exact p1 true F1 H1 h1.w .refl rfl
theorem mt_not (ha : MT c F0 H0 W X a t1) : MT c F0 H0 W X (.UnaryOp .Not a pos) (mNot t1) := by
  refine pt_mono (pt_not ha) fun σ H Q ⟨F, e, s, hh, p⟩ => ?_
  refine rd_mono (bindE (R' := R0) hh (fun h r => r) p) fun x H1 ⟨F1, s1, a1, h1, g1, r1, p1⟩ => ?_
  cases r1
  exact p1 _ F1 H1 h1.w .refl rfl
abbrev RV (c : Cc) (H0 : Hp) : Hp → Hp → Hp → A → V → Prop := fun Hb F H a v => RA c H0 Hb F H a v
def mAndV (m1 m2 : Mv) : Mv := fun e s => (m1 e s).bind fun x s1 => (opt (asB x) s1).bind fun k s2 => if k = true then m2 e s2 else .ok (.d (.bl false)) s2
def mOrV (m1 m2 : Mv) : Mv := fun e s => (m1 e s).bind fun x s1 => (opt (asB x) s1).bind fun k s2 => if k = true then .ok (.d (.bl true)) s2 else m2 e s2
def mNotV (m1 : Mv) : Mv := fun e s => (m1 e s).bind fun x s1 => (opt (asB x) s1).bind fun k s2 => .ok (.d (.bl (!k))) s2
theorem post_asB {σ : L2.St} {F H Hb : Hp} {x : A} {v : V} {s : Sx} {k : Bool → Sx → Res A} {Q : VK} (r : RA c H0 Hb F H x v) (p : Post c W σ F H (RV c H0 H) ((opt (asB x) s).bind k) Q) : ∃ b, v = .bl b ∧ Post c W σ F H (RV c H0 H) (k b s) Q := by
  cases h : asB x with
  | none => rw [h] at p; exact p.elim
  | some b => rw [h] at p; exact ⟨b, asB_some h r, p⟩
theorem me_one {op} (h : ME c F0 H0 W X a m1) : ME c F0 H0 W X (.BoolOp op [a] pos) m1 := pe_one h
theorem me_and (ha : ME c F0 H0 W X a m1) (hb : ME c F0 H0 W X (.BoolOp .And (b :: rest) pos) m2) : ME c F0 H0 W X (.BoolOp .And (a :: b :: rest) pos) (mAndV m1 m2) := by
  refine pe_mono (pe_and ha hb) fun σ H Q ⟨F, e, s, hh, p⟩ => ?_
  refine rd_mono (bindE (R' := RV c H0) hh (fun h r => r.since h) p) fun x H1 ⟨F1, s1, a1, h1, g1, r1, p1⟩ => ?_
  obtain ⟨b, rfl, p2⟩ := post_asB r1 p1
  refine ⟨b, rfl, ?_⟩
  cases b with
  | true => exact ⟨F1, e, s1, h1, p2⟩
  | false => exact p2 _ F1 H1 h1.w .refl ra_bl
theorem me_or (ha : ME c F0 H0 W X a m1) (hb : ME c F0 H0 W X (.BoolOp .Or (b :: rest) pos) m2) : ME c F0 H0 W X (.BoolOp .Or (a :: b :: rest) pos) (mOrV m1 m2) := by
  refine pe_mono (pe_or ha hb) fun σ H Q ⟨F, e, s, hh, p⟩ => ?_
  refine rd_mono (bindE (R' := RV c H0) hh (fun h r => r.since h) p) fun x H1 ⟨F1, s1, a1, h1, g1, r1, p1⟩ => ?_
  obtain ⟨b, rfl, p2⟩ := post_asB r1 p1
  refine ⟨b, rfl, ?_⟩
  cases b with
  | false => exact ⟨F1, e, s1, h1, p2⟩
  | true => exact p2 _ F1 H1 h1.w .refl ra_bl
theorem me_not (ha : ME c F0 H0 W X a m1) : ME c F0 H0 W X (.UnaryOp .Not a pos) (mNotV m1) := by
  refine pe_mono (pe_not ha) fun σ H Q ⟨F, e, s, hh, p⟩ => ?_
  refine rd_mono (bindE (R' := RV c H0) hh (fun h r => r.since h) p) fun x H1 ⟨F1, s1, a1, h1, g1, r1, p1⟩ => ?_
  obtain ⟨b, rfl, p2⟩ := post_asB r1 p1
  exact ⟨b, rfl, p2 _ F1 H1 h1.w .refl ra_bl⟩
def mIf (t : Mb) (m1 m2 : Mv) : Mv := fun e s => (t e s).bind fun k s1 => if k = true then m1 e s1 else m2 e s1
theorem me_ifExp {t : Expr} (ht : MT c F0 H0 W X t t1) (ha : ME c F0 H0 W X a m1) (hb : ME c F0 H0 W X b m2) : ME c F0 H0 W X (.IfExp t a b pos) (mIf t1 m1 m2) := by
  refine pe_mono (pe_ifExp ht ha hb) fun σ H Q ⟨F, e, s, hh, p⟩ => ?_
  refine rd_mono (bindE (R' := RV c H0) hh (fun h r => r.since h) p) fun x H1 ⟨F1, s1, a1, h1, g1, r1, p1⟩ => ?_
  cases r1
  cases x with
  | true => exact ⟨F1, e, s1, h1, p1⟩
  | false => exact ⟨F1, e, s1, h1, p1⟩
/-! argument lists -/
variable {ms : Env → Sx → Res (List A)}
abbrev RL (c : Cc) (H0 : Hp) : Hp → Hp → Hp → List A → List V → Prop := fun Hb F H a v => RAs c H0 Hb F H a v
theorem RAs.go {F H F' H' Hb : Hp} (g : Go c F H F' H') : ∀ {as : List A} {vs : List V}, RAs c H0 Hb F H as vs → RAs c H0 Hb F' H' as vs
  | [], vs, h => h
  | a :: as, vs, h => by
    obtain ⟨v, r, e, h1, h2⟩ := h
    exact ⟨v, r, e, h1.go g, RAs.go g h2⟩
theorem RAs.since {F' H' H Hb : Hp} (h : ∀ p, H p = none → Hb p = none) : ∀ {as : List A} {vs : List V}, RAs c H0 H F' H' as vs → RAs c H0 Hb F' H' as vs
  | [], vs, r => r
  | a :: as, vs, r => by
    obtain ⟨v, r, e, h1, h2⟩ := r
    exact ⟨v, r, e, h1.since h, RAs.since h h2⟩
theorem RAs.vw {F H Hb : Hp} {s : Sx} (w : Wo c s F H) : ∀ {as : List A} {vs : List V}, RAs c H0 Hb F H as vs → VwL c F H (as.map A.v) vs
  | [], vs, r => r
  | a :: as, vs, r => by
    obtain ⟨v, r, e, h1, h2⟩ := r
    exact ⟨v, r, e, h1.vw w, RAs.vw w h2⟩
theorem ma_nil : MA c F0 H0 W X [] (mArgs []) := by
  refine pa_mono pa_nil fun σ H Q ⟨F, e, s, hh, p⟩ => ?_
  exact p [] F H hh.w .refl rfl
theorem ma_cons {ms : List Mv} (ha : ME c F0 H0 W X a m1) (hr : MA c F0 H0 W X es (mArgs ms)) (hs : starEach (a :: es) X.env = (false, eval a X.env) :: starEach es X.env := by rfl) : MA c F0 H0 W X (a :: es) (mArgs (m1 :: ms)) := by
  refine pa_mono (pa_cons ha hr hs) fun σ H Q ⟨F, e, s, hh, p⟩ => ?_
  refine rd_mono (bindK hh p) fun x H1 ⟨F1, s1, a1, h1, g1, r1, p1⟩ => ?_
  refine rd_mono (bindK h1 (p1.go g1)) fun y H2 ⟨F2, s2, a2, h2, g2, r2, p2⟩ => ?_
  exact p2 _ F2 H2 h2.w g2 ⟨x, y, rfl, r1.go g2, r2.since fun p n => g1.free n⟩
end
end Mi
namespace Mi
open PySem PySem.Spec PyProof.Rows L2 Kt Kj
/-! ### lists of one's own that nobody changes any more -/
def A.toD : A → Option D
  | .d t => some t
  | .own xs => some (.lst xs)
  | .bor _ => none
  | .exc _ => none
  | .od _ => none
def toDs : List A → Option (List D)
  | [] => some []
  | a :: as => match a.toD with
    | some d => match toDs as with
      | some ds => some (d :: ds)
      | none => none
    | none => none
section
variable {c : Cc} {F H F1 F' H' H0 Hb H1 : Hp} {s s' : Sx} {xs : List D} {p : Addr} {v : V} {a : A}
/-- a list of one's own is frozen; what is known of a heap Hb in which it was not -/
theorem frzOwn (w : Wo c s F1 H1) (o : OwnAt c Hb F' H1 xs p) (hf : Same F' F1) : ∃ F2, Wo c s F2 H1 ∧ Same F1 F2 ∧ (∀ F, Go c F Hb F1 H1 → Go c F Hb F2 H1) ∧ Rp c F2 (.lst xs) (.ref p) := by
  obtain ⟨vs, h, r⟩ := o.ex
  cases q : F1 p with
  | none =>
    refine ⟨upd F1 p (.lst vs), w.frz h q (.inl o.nd) (fun ps z => by cases z), same_updN q, fun F g => g.frz q o.nb, rp_lst.mpr ⟨o.len, p, vs, rfl, upd_same, rpL_same (hf.trans (same_updN q)) _ _ r⟩⟩
  | some u =>
    have e := w.sub p u q
    rw [h] at e
    cases e
    exact ⟨F1, w, Same.refl F1, fun F g => g, rp_lst.mpr ⟨o.len, p, vs, rfl, q, rpL_same hf _ _ r⟩⟩
theorem frz1 (w : Wo c s F1 H1) (r : RA c H0 Hb F' H1 a v) (hf : Same F' F1) {d : D} (e : a.toD = some d) : ∃ F2, Wo c s F2 H1 ∧ Same F1 F2 ∧ (∀ F, Go c F Hb F1 H1 → Go c F Hb F2 H1) ∧ Rp c F2 d v := by
  cases a with
  | d t =>
    cases e
    exact ⟨F1, w, Same.refl F1, fun F g => g, rp_same hf _ _ r⟩
  | own xs =>
    cases e
    obtain ⟨p, rfl, o⟩ := r
    exact frzOwn w o hf
  | bor xs => cases e
  | exc k => cases e
  | od o => cases e
theorem frzAll : ∀ {as : List A} {vs : List V} {ds : List D} {F' F1 : Hp}, Wo c s F1 H1 → RAs c H0 Hb F' H1 as vs → Same F' F1 → toDs as = some ds → ∃ F2, Wo c s F2 H1 ∧ Same F1 F2 ∧ (∀ F, Go c F Hb F1 H1 → Go c F Hb F2 H1) ∧ RpL c F2 ds vs
  | [], vs, ds, F', F1, w, r, hf, e => by
    cases e
    exact ⟨F1, w, Same.refl F1, fun F g => g, rpL_nil.mpr r⟩
  | a :: as, vs, ds, F', F1, w, r, hf, e => by
    obtain ⟨v, rs, rfl, r1, r2⟩ := r
    unfold toDs at e
    cases e1 : a.toD with
    | none => rw [e1] at e; cases e
    | some d =>
      rw [e1] at e
      cases e2 : toDs as with
      | none => rw [e2] at e; cases e
      | some ds' =>
        rw [e2] at e
        cases e
        obtain ⟨F2, w2, s2, g2, h2⟩ := frz1 w r1 hf e1
        obtain ⟨F3, w3, s3, g3, h3⟩ := frzAll w2 r2 (hf.trans s2) e2
        exact ⟨F3, w3, s2.trans s3, fun F g => g3 F (g2 F g), rpL_cons.mpr ⟨v, rs, rfl, rp_same s3 _ _ h2, h3⟩⟩
/-- .. for the time of a call -/
theorem frzBor : ∀ {as : List A} {vs : List V} {F' F1 : Hp}, Wo c s F1 H1 → RAs c H0 Hb F' H1 as vs → Same F' F1 → ∃ F2, Wo c s F2 H1 ∧ Same F1 F2 ∧ RpL c F2 (as.map A.v) vs
  | [], vs, F', F1, w, r, hf => ⟨F1, w, Same.refl F1, rpL_nil.mpr r⟩
  | a :: as, vs, F', F1, w, r, hf => by
    obtain ⟨v, rs, rfl, r1, r2⟩ := r
    have one : ∃ F2, Wo c s F2 H1 ∧ Same F1 F2 ∧ Rp c F2 a.v v := by
      cases a with
      | d t => exact ⟨F1, w, Same.refl F1, rp_same hf _ _ r1⟩
      | own xs =>
        obtain ⟨p, rfl, o⟩ := r1
        obtain ⟨F2, a1, a2, _, a3⟩ := frzOwn w o hf
        exact ⟨F2, a1, a2, a3⟩
      | bor xs =>
        obtain ⟨p, rfl, o⟩ := r1
        obtain ⟨F2, a1, a2, _, a3⟩ := frzOwn w o hf
        exact ⟨F2, a1, a2, a3⟩
      | exc k =>
        refine ⟨F1, w, Same.refl F1, ?_⟩
        show Rp c F1 .bot v
        unfold Rp
        trivial
      | od o =>
        refine ⟨F1, w, Same.refl F1, ?_⟩
        show Rp c F1 .bot v
        unfold Rp
        trivial
    obtain ⟨F2, w2, s2, h2⟩ := one
    obtain ⟨F3, w3, s3, h3⟩ := frzBor w2 r2 (hf.trans s2)
    exact ⟨F3, w3, s2.trans s3, rpL_cons.mpr ⟨v, rs, rfl, rp_same s3 _ _ h2, h3⟩⟩
end
/-! ### displays, calls of built-ins, places, slices -/
def mTup (ms : List Mv) : Mv := fun e s => (mArgs ms e s).bind fun as s1 => (opt (toDs as) s1).bind fun ds s2 => if ds.length ≤ 1000000 then .ok (.d (.tup ds)) s2 else .bad
def mLst (ms : List Mv) : Mv := fun e s => (mArgs ms e s).bind fun as s1 => (opt (toDs as) s1).bind fun ds s2 => if ds.length ≤ 1000000 then .ok (.own ds) s2 else .bad
section
variable {c : Cc} {F0 H0 : Hp} {W : WX} {X : Cx} {pos : Pos} {a b : Expr} {es : List Expr} {m1 m2 : Mv} [hq : Dq c H0]
theorem post_o {α : Type} {σ : L2.St} {F H : Hp} {R : Hp → Hp → α → V → Prop} {o : Option β} {s : Sx} {k : β → Sx → Res α} {Q : VK} (p : Post c W σ F H R ((opt o s).bind k) Q) : ∃ z, o = some z ∧ Post c W σ F H R (k z s) Q := by
  cases o with
  | none => exact p.elim
  | some z => exact ⟨z, rfl, p⟩
theorem me_tup {x1} {ms : List Mv} (h : MA c F0 H0 W X es (mArgs ms)) : ME c F0 H0 W X (.Tuple es x1 pos) (mTup ms) := by
  refine pe_mono (pe_tup h) fun σ H Q ⟨F, e, s, hh, p⟩ => ?_
  refine rd_mono (bindK hh p) fun x H1 ⟨F1, s1, as, h1, g1, r1, p1⟩ => ?_
  obtain ⟨ds, e1, p2⟩ := post_o p1
  dsimp only at p2
  split at p2
  · rename_i hl
    obtain ⟨F2, w2, s2, g2, h2⟩ := frzAll h1.w r1 (Same.refl _) e1
    have gA := g2 _ g1
    refine ⟨by rw [h2.len]; exact Nat.le_of_lt (Nat.lt_of_le_of_lt hl big), fun q n => ?_⟩
    exact p2 _ _ _ (w2.newF n fun ps z => by cases z) (gA.trans (.newF w2 n)) (rp_tup.mpr ⟨hl, q, _, rfl, SqT.of upd_same, rpL_same (same_updN (w2.fnone n)) _ _ h2⟩)
  · exact p2.elim

theorem me_lst {ms : List Mv} (h : MA c F0 H0 W X es (mArgs ms)) : ME c F0 H0 W X (.List es pos) (mLst ms) := by
  refine pe_mono (pe_lst h) fun σ H Q ⟨F, e, s, hh, p⟩ => ?_
  refine rd_mono (bindK hh p) fun x H1 ⟨F1, s1, as, h1, g1, r1, p1⟩ => ?_
  obtain ⟨ds, e1, p2⟩ := post_o p1
  dsimp only at p2
  split at p2
  · rename_i hl
    obtain ⟨F2, w2, s2, g2, h2⟩ := frzAll h1.w r1 (Same.refl _) e1
    have gA := g2 _ g1
    refine ⟨by rw [h2.len]; exact Nat.le_of_lt (Nat.lt_of_le_of_lt hl big), fun q n => ?_⟩
    exact p2 _ _ _ (w2.newM n) (gA.trans (.newM n)) ⟨q, rfl, gA.free n, w2.fnone n, h1.dq q n, hl, _, upd_same, h2⟩
  · exact p2.elim
theorem me_callB {x : Str} {id : String} {q : Pos} {r : List V → Hp → VK → Prop} {g : List D → Option A} {ms : List Mv} (hc : CallR X (.builtin id) r) (hs : CaS c r g) (hg : Gl X x) (hm : X.mg x = none) (hv : bootBuiltins x = some (.builtin id)) (ha : MA c F0 H0 W X (a :: es) (mArgs ms)) (hn : x ≠ "__name__" := by decide) (hdb : (x == ("__debug__" : Str)) = false := by decide)
    (he : starEach (a :: es) X.env = (false, eval a X.env) :: starEach es X.env := by rfl) (hpl : (backTo pos (starEach es X.env)).any (·.1) = false := by rfl) : ME c F0 H0 W X (.Call (.Name x q) (a :: es) [] pos) (mCall g ms) := by
  refine pe_mono (pe_callB hc hg hm hv ha hn hdb he hpl) fun σ H Q ⟨F, e, s, hh, p⟩ => ?_
  refine rd_mono (bindE (R' := fun Hb F H a v => RA c H0 Hb F H a v) hh (fun h r => r.since h) p) fun x H1 ⟨F1, s1, as, h1, g1, r1, p1⟩ => ?_
  obtain ⟨z, ez, q⟩ := post_opt p1
  exact hs h1.w h1.dq (r1.vw h1.w) ez q
theorem me_callTy {x : Str} {id : String} {q : Pos} {r : List V → Hp → VK → Prop} {g : List D → Option A} {ms : List Mv} (hc : CallR X (.type id) r) (hs : CaS c r g) (hg : Gl X x) (hm : X.mg x = none) (hv : bootBuiltins x = some (.type id)) (ha : MA c F0 H0 W X (a :: es) (mArgs ms)) (hn : x ≠ "__name__" := by decide) (hdb : (x == ("__debug__" : Str)) = false := by decide)
    (he : starEach (a :: es) X.env = (false, eval a X.env) :: starEach es X.env := by rfl) (hpl : (backTo pos (starEach es X.env)).any (·.1) = false := by rfl) : ME c F0 H0 W X (.Call (.Name x q) (a :: es) [] pos) (mCall g ms) := by
  refine pe_mono (pe_callTy hc hg hm hv ha hn hdb he hpl) fun σ H Q ⟨F, e, s, hh, p⟩ => ?_
  refine rd_mono (bindE (R' := fun Hb F H a v => RA c H0 Hb F H a v) hh (fun h r => r.since h) p) fun x H1 ⟨F1, s1, as, h1, g1, r1, p1⟩ => ?_
  obtain ⟨z, ez, q⟩ := post_opt p1
  exact hs h1.w h1.dq (r1.vw h1.w) ez q
/-- a[b] -/
theorem me_ix {r : R2} {g : D → D → Option A} (hr : IxR X r) (hg : OpS c r g) (ha : ME c F0 H0 W X a m1) (hb : ME c F0 H0 W X b m2) (hs : PlainIx b) : ME c F0 H0 W X (.Subscript a b pos) (mBin g m1 m2) := by
  refine pe_mono (pe_ix hr ha hb hs) fun σ H Q ⟨F, e, s, hh, p⟩ => ?_
  refine rd_mono (bindE (R' := fun Hb F H a v => RA c H0 Hb F H a v) hh (fun h r => r.since h) p) fun x H1 ⟨F1, s1, a1, h1, g1, r1, p1⟩ => ?_
  refine rd_mono (bindE (R' := fun Hb F H a v => RA c H0 Hb F H a v) h1 (fun h r => r.since h) p1) fun y H2 ⟨F2, s2, a2, h2, g2, r2, p2⟩ => ?_
  obtain ⟨z, ez, q⟩ := post_opt p2
  exact hg h2.w h2.dq ((r1.go g2).vw h2.w) (r2.vw h2.w) ez q
/-! slices -/
abbrev Mo := Env → Sx → Res (Option Int)
abbrev MO (c : Cc) (F0 H0 : Hp) (W : WX) (X : Cx) (e : Option Expr) (m : Mo) : Prop := PO X e (rd c F0 H0 W (fun _ _ _ a v => a = v) m)
def mNo : Mo := fun _ s => .ok none s
def asI : A → Option Int
  | .d (.int i) => some i
  | _ => none
def mPart (m : Mv) : Mo := fun e s => (m e s).bind fun x s1 => match asI x with
  | some i => .ok (some i) s1
  | none => .bad
theorem po_mono {e : Option Expr} {t t' : TO} (h : PO X e t) (m : ∀ σ H Q, t' σ H Q → t σ H Q) : PO X e t' := by
  obtain ⟨q⟩ := h
  constructor
  intros
  apply q <;> first | assumption | (apply m; assumption)
theorem mo_none : MO c F0 H0 W X none mNo := by
  refine po_mono po_none fun σ H Q ⟨F, e, s, hh, p⟩ => ?_
  exact p none F H hh.w .refl rfl
theorem mo_some (ha : ME c F0 H0 W X a m1) : MO c F0 H0 W X (some a) (mPart m1) := by
  refine po_mono (po_some ha) fun σ H Q ⟨F, e, s, hh, p⟩ => ?_
  refine rd_mono (bindE (R' := fun _ _ _ a v => a = v) hh (fun h r => r) p) fun x H1 ⟨F1, s1, a1, h1, g1, r1, p1⟩ => ?_
  unfold asI at p1
  split at p1
  · rename_i i e
    split at e
    · cases e
      exact ⟨i, rp_int.mp (show Rp c F1 _ x from r1), p1 _ F1 H1 h1.w .refl rfl⟩
    · cases e
  · exact p1.elim
def SlS (c : Cc) (r : V → Option Int → Option Int → Hp → VK → Prop) (g : D → Option Int → Option Int → Option A) : Prop := ∀ {H0 F H : Hp} {s : Sx} {d : D} {lo hi : Option Int} {x : V} {z : A} {Q : VK}, Wo c s F H → (∀ p, H p = none → p ≠ c.dq) → Vw c F H d x → g d lo hi = some z →
  (∀ v F' H', Wo c s F' H' → Go c F H F' H' → RA c H0 H F' H' z v → Q v H') → r x lo hi H Q
def mSl (g : D → Option Int → Option Int → Option A) (m1 : Mv) (o1 o2 : Mo) : Mv := fun e s => (m1 e s).bind fun x s1 => (o1 e s1).bind fun l s2 => (o2 e s2).bind fun h s3 => opt (g x.v l h) s3
theorem me_slice {lo hi : Option Expr} {p2 : Pos} {o1 o2 : Mo} {r : V → Option Int → Option Int → Hp → VK → Prop} {g : D → Option Int → Option Int → Option A} (hr : SlR X r) (hg : SlS c r g) (ha : ME c F0 H0 W X a m1) (hl : MO c F0 H0 W X lo o1) (hu : MO c F0 H0 W X hi o2) : ME c F0 H0 W X (.Subscript a (.Slice lo hi none p2) pos) (mSl g m1 o1 o2) := by
  refine pe_mono (pe_slice hr ha hl hu) fun σ H Q ⟨F, e, s, hh, p⟩ => ?_
  refine rd_mono (bindE (R' := fun Hb F H a v => RA c H0 Hb F H a v) hh (fun h r => r.since h) p) fun x H1 ⟨F1, s1, a1, h1, g1, r1, p1⟩ => ?_
  refine rd_mono (bindE (R' := fun Hb F H a v => RA c H0 Hb F H a v) h1 (fun h r => r.since h) p1) fun y H2 ⟨F2, s2, a2, h2, g2, r2, p2⟩ => ?_
  refine rd_mono (bindE (R' := fun Hb F H a v => RA c H0 Hb F H a v) h2 (fun h r => r.since h) p2) fun y3 H3 ⟨F3, s3, a3, h3, g3, r3, p3⟩ => ?_
  cases r2
  cases r3
  obtain ⟨z, ez, q⟩ := post_opt p3
  exact hg h3.w h3.dq (((r1.go g2).go g3).vw h3.w) ez q
/-! ### own defs -/
/-- what a def promises by its mirror -/
def spM (K : PySem.W.Frag) (Ts : TsT) (ca : Ek → Addr) (n : Nat) (m : Sx → List D → Res D) : Sp := fun vs H Q E => ∃ (dq : Addr) (F : Hp) (s : Sx) (ds : List D), Wo ⟨K, dq, Ts, ca, none⟩ s F H ∧ (∀ p, H p = none → p ≠ dq) ∧ RpL ⟨K, dq, Ts, ca, none⟩ F ds vs ∧ ds.length = n ∧ match m s ds with
  | .ok d s' => ∀ v F' H', Wo ⟨K, dq, Ts, ca, none⟩ s' F' H' → Go ⟨K, dq, Ts, ca, none⟩ F H F' H' → Rp ⟨K, dq, Ts, ca, none⟩ F' d v → Q v H'
  | .er k s' => ∀ F' H', Wo ⟨K, dq, Ts, ca, none⟩ s' F' H' → Go ⟨K, dq, Ts, ca, none⟩ F H F' H' → E (.ref (ca k)) none H'
  | .bad => False
def mFn (m : Sx → List D → Res D) (ms : List Mv) : Mv := fun e s => (mArgs ms e s).bind fun as s1 => (opt (toDs as) s1).bind fun ds s2 => (m s2 ds).bind fun d s3 => .ok (.d d) s3
theorem mArgs_len : ∀ {ms : List Mv} {e : Env} {s s1 : Sx} {as : List A}, mArgs ms e s = .ok as s1 → as.length = ms.length
  | [], e, s, s1, as, h => by
    cases h
    rfl
  | m :: ms, e, s, s1, as, h => by
    unfold mArgs Res.bind at h
    split at h
    · rename_i x s2 _
      dsimp only at h
      split at h
      · rename_i xs s3 h3
        cases h
        rw [List.length_cons, List.length_cons, mArgs_len h3]
      · cases h
      · cases h
    · cases h
    · cases h
theorem toDs_len : ∀ {as : List A} {ds : List D}, toDs as = some ds → ds.length = as.length
  | [], ds, h => by
    cases h
    rfl
  | a :: as, ds, h => by
    unfold toDs at h
    split at h
    · split at h
      · rename_i h2
        cases h
        rw [List.length_cons, List.length_cons, toDs_len h2]
      · cases h
    · cases h
theorem me_fn {j k n : Nat} {x : Str} {ps : List Str} {m : Sx → List D → Res D} {q : Pos} {ms : List Mv} (hr : Room k X.A) (P : Prom X.prog X.w X.K X.mg X.base (L2N.CX X.prog X.w) j x ps (spM c.K c.Ts c.ca n m)) (tk : L2N.Takes X W) (hE : c.ea = none)
    (ha : MA c F0 H0 W X (a :: es) (mArgs ms)) (hn : ms.length = n := by rfl) (hg : Gl X x := by rfl) (hj : j ≤ k := by decide) (hdb : (x == ("__debug__" : Str)) = false := by decide)
    (he : starEach (a :: es) X.env = (false, eval a X.env) :: starEach es X.env := by rfl) (hpl : (backTo pos (starEach es X.env)).any (·.1) = false := by rfl) : ME c F0 H0 W X (.Call (.Name x q) (a :: es) [] pos) (mFn m ms) := by
  obtain ⟨cK, cq, cT, ca, ce⟩ := c
  cases hE
  refine pe_mono (Kh.pcallXN hr P tk ha hg hj hdb he hpl) fun σ H Q ⟨F, e, s, hh, p⟩ => ?_
  refine rd_mono (bindQ hh p) fun vs H1 ⟨F1, s1, as, h1, g1, r1, p1, eq⟩ => ?_
  obtain ⟨ds, e1, p2⟩ := post_o p1
  obtain ⟨F2, w2, s2, g2, h2⟩ := frzAll h1.w r1 (Same.refl _) e1
  have gA := g2 _ g1
  refine ⟨cq, F2, s1, ds, w2, h1.dq, h2, by rw [toDs_len e1, mArgs_len eq, hn], ?_⟩
  dsimp only at p2
  cases e3 : m s1 ds with
  | ok d s3 =>
    rw [e3] at p2
    exact fun v F' H' w g r => p2 v F' H' w (gA.trans g) r
  | er k3 s3 =>
    rw [e3] at p2
    exact fun F' H' w g => p2 F' H' w (gA.trans g)
  | bad =>
    rw [e3] at p2
    exact p2
/-- .. with lists of one's own, lent for the call; it tells no object -/
def D.scal : D → Bool
  | .non => true
  | .bl _ => true
  | .int _ => true
  | .str _ => true
  | _ => false
def lend {α : Type} (s1 : Sx) (r : Res α) : Res α := match r with
  | .ok a s => if (s1.isSome || s.isNone) = true then .ok a s else .bad
  | .er k s => if (s1.isSome || s.isNone) = true then .er k s else .bad
  | .bad => .bad
def mFnB (m : Sx → List D → Res D) (ms : List Mv) : Mv := fun e s => (mArgs ms e s).bind fun as s1 => (lend s1 (m s1 (as.map A.v))).bind fun d s3 => if d.scal = true then .ok (.d d) s3 else .bad
theorem lend_none {s1 s : Sx} (h : (s1.isSome || s.isNone) = true) : s1 = none → s = none := fun z => by
  subst z
  cases s with
  | none => rfl
  | some _ => cases h
theorem scal_rp {F F' : Hp} {d : D} {v : V} (h : d.scal = true) (r : Rp c F d v) : Rp c F' d v := by
  cases d with
  | non => exact rp_non.mpr (rp_non.mp r)
  | bl b => exact rp_bl.mpr (rp_bl.mp r)
  | int b => exact rp_int.mpr (rp_int.mp r)
  | str b => exact rp_str.mpr (rp_str.mp r)
  | _ => cases h
/-- behind a call the lent lists are one's own again -/
theorem unlend {s1 s2 : Sx} {F1 F2 F' H1 H' : Hp} (w1 : Wo c s1 F1 H1) (h : Same F1 F2) (g : Go c F2 H1 F' H') (w : Wo c s2 F' H') (hs : s1 = none → s2 = none) : Wo c s2 F1 H' ∧ Go c F1 H1 F1 H' := by
  have sF := h.trans g.same
  refine ⟨⟨fun b o e => w.sub b o (sF b o e), w.tg, w1.nt, ?_⟩, ⟨Same.refl _, g.keep, g.tb, g.dk, g.dc, fun _ _ e _ => e⟩⟩
  have q1 := w1.ds
  have q2 := w.ds
  cases s1 with
  | none =>
    rw [hs rfl]
    trivial
  | some d1 =>
    cases s2 with
    | none => trivial
    | some d2 =>
      obtain ⟨a1, q, a2, a3⟩ := q1
      obtain ⟨b1, q', b2, b3⟩ := q2
      obtain ⟨t', l', e⟩ := g.dc _ _ _ a2
      rw [e] at b2
      have e2 := (HO.lst.inj (Option.some.inj b2))
      have e3 : q = q' := by
        have := List.cons.inj e2
        have := List.cons.inj this.2
        have := (List.cons.inj this.2).1
        exact V.ref.inj this
      subst e3
      have z := sF _ _ a3
      rw [b3] at z
      refine ⟨a1, q, by rw [e, b2], ?_⟩
      rw [a3]
      exact z.symm
theorem me_fnB {j k n : Nat} {x : Str} {ps : List Str} {m : Sx → List D → Res D} {q : Pos} {ms : List Mv} (hr : Room k X.A) (P : Prom X.prog X.w X.K X.mg X.base (L2N.CX X.prog X.w) j x ps (spM c.K c.Ts c.ca n m)) (tk : L2N.Takes X W) (hE : c.ea = none)
    (ha : MA c F0 H0 W X (a :: es) (mArgs ms)) (hn : ms.length = n := by rfl) (hg : Gl X x := by rfl) (hj : j ≤ k := by decide) (hdb : (x == ("__debug__" : Str)) = false := by decide)
    (he : starEach (a :: es) X.env = (false, eval a X.env) :: starEach es X.env := by rfl) (hpl : (backTo pos (starEach es X.env)).any (·.1) = false := by rfl) : ME c F0 H0 W X (.Call (.Name x q) (a :: es) [] pos) (mFnB m ms) := by
  obtain ⟨cK, cq, cT, ca, ce⟩ := c
  cases hE
  refine pe_mono (Kh.pcallXN hr P tk ha hg hj hdb he hpl) fun σ H Q ⟨F, e, s, hh, p⟩ => ?_
  refine rd_mono (bindQ hh p) fun vs H1 ⟨F1, s1, as, h1, g1, r1, p1, eq⟩ => ?_
  obtain ⟨F2, w2, s2, h2⟩ := frzBor h1.w r1 (Same.refl _)
  refine ⟨cq, F2, s1, as.map A.v, w2, h1.dq, h2, by rw [List.length_map, mArgs_len eq, hn], ?_⟩
  dsimp only at p1
  cases e3 : m s1 (as.map A.v) with
  | ok d s3 =>
    rw [e3] at p1
    intro v F' H' w g r
    unfold lend at p1
    dsimp only at p1
    split at p1
    · rename_i hs
      obtain ⟨w', g'⟩ := unlend h1.w s2 g w (lend_none hs)
      dsimp only [Res.bind] at p1
      split at p1
      · rename_i hd
        exact p1 v F1 H' w' (g1.trans g') (scal_rp (c := ⟨cK, cq, cT, ca, none⟩) hd r)
      · exact p1.elim
    · exact p1.elim
  | er k3 s3 =>
    rw [e3] at p1
    intro F' H' w g
    unfold lend at p1
    dsimp only at p1
    split at p1
    · rename_i hs
      obtain ⟨w', g'⟩ := unlend h1.w s2 g w (lend_none hs)
      exact p1 F1 H' w' (g1.trans g')
    · exact p1.elim
  | bad =>
    rw [e3] at p1
    exact p1
end
end Mi
namespace Mi
open PySem PySem.Spec PyProof.Rows L2 Kt Kj
/-! ### what is walked -/
/-- J brings the data ds, one after another, as long as what is frozen in F1 stays -/
structure WalkD (c : Cc) (F1 : Hp) (J : It) (ds : List D) : Prop where
  go : ∀ {F H : Hp} {s : Sx}, Wo c s F H → (∀ p, H p = none → p ≠ c.dq) → Same F1 F → ∀ (i : Nat) (d : D), ds[i]? = some d → J.go i H ∧ ∀ x H', J.yld i H x H' → ∃ F', Wo c s F' H' ∧ Go c F H F' H' ∧ Rp c F' d x
  stop : ∀ {F H : Hp} {s : Sx}, Wo c s F H → Same F1 F → ∀ i, ds.length ≤ i → J.stop i H
abbrev Mi' := Env → Sx → Res (List D)
abbrev RI (c : Cc) : Hp → Hp → Hp → List D → It → Prop := fun _ F _ ds J => WalkD c F J ds
abbrev MI (c : Cc) (F0 H0 : Hp) (W : WX) (X : Cx) (tg e : Expr) (m : Mi') : Prop := PI X tg e (rd c F0 H0 W (RI c) m)
theorem pi_mono {X : Cx} {tg e : Expr} {t t' : TI} (h : PI X tg e t) (m : ∀ σ H Q, t' σ H Q → t σ H Q) : PI X tg e t' := ⟨fun pins s σ H Q I q => h.run pins s σ H Q I (m σ H Q q)⟩
def asL : A → Option (List D)
  | .d (.lst ds) => some ds
  | .own ds => some ds
  | _ => none
def asT : A → Option (List D)
  | .d (.tup ds) => some ds
  | _ => none
def mItL (m : Mv) : Mi' := fun e s => (m e s).bind fun x s1 => opt (asL x) s1
def mItT (m : Mv) : Mi' := fun e s => (m e s).bind fun x s1 => opt (asT x) s1
theorem post_oI {α β δ : Type} {c : Cc} {W : WX} {σ : L2.St} {F H : Hp} {R : Hp → Hp → α → δ → Prop} {o : Option β} {s : Sx} {k : β → Sx → Res α} {Q : δ → Hp → Prop} (p : Post c W σ F H R ((opt o s).bind k) Q) : ∃ z, o = some z ∧ Post c W σ F H R (k z s) Q := by
  cases o with
  | none => exact p.elim
  | some z => exact ⟨z, rfl, p⟩
theorem post_oD {α δ : Type} {c : Cc} {W : WX} {σ : L2.St} {F H : Hp} {R : Hp → Hp → α → δ → Prop} {o : Option α} {s : Sx} {Q : δ → Hp → Prop} (p : Post c W σ F H R (opt o s) Q) : ∃ z, o = some z ∧ Post c W σ F H R (.ok z s) Q := by
  cases o with
  | none => exact p.elim
  | some z => exact ⟨z, rfl, p⟩
section
variable {c : Cc} {F0 H0 : Hp} {W : WX} {X : Cx} {pos : Pos} {tg a b : Expr} {es : List Expr} {m1 m2 : Mv} [hq : Dq c H0]
theorem walk_lst {F1 : Hp} {a : Addr} {xs : List V} {ds : List D} (h : F1 a = some (.lst xs)) (r : RpL c F1 ds xs) : WalkD c F1 (Itl c.K a) ds := by
  refine ⟨fun {F H s} w hd hs i d e => ?_, fun {F H s} w hs i hi => ?_⟩
  · obtain ⟨v, ev, rv⟩ := r.at i e
    have hH := w.sub _ _ (hs _ _ h)
    refine ⟨⟨xs, v, SqL.of hH, ev⟩, fun x H' y => ?_⟩
    obtain ⟨rfl, y⟩ := y
    have := y xs (SqL.of hH)
    rw [ev] at this
    cases this
    exact ⟨F, w, .refl, rp_same hs _ _ rv⟩
  · exact ⟨xs, SqL.of (w.sub _ _ (hs _ _ h)), by rw [r.len]; exact hi⟩
theorem sq_inj {K : PySem.W.Frag} {H : Hp} {a : Addr} {xs ys : List V} (h : SqT K H a xs) (g : SqT K H a ys) (hk : H a ≠ none → K.lookup a = none) : xs = ys := by
  rcases h with (h | ⟨o, h⟩) | ⟨o, its, n, h, _, hc, _, hv⟩
  · rcases g with (g | ⟨o, g⟩) | ⟨o, its, n, g, _⟩
    · rw [h] at g; cases g; rfl
    · rw [h] at g; cases g
    · rw [hk (by rw [h]; simp)] at g; cases g
  · rcases g with (g | ⟨o', g⟩) | ⟨o', its, n, g, _⟩
    · rw [h] at g; cases g
    · rw [h] at g; cases g; rfl
    · rw [hk (by rw [h]; simp)] at g; cases g
  · rcases g with (g | ⟨o', g⟩) | ⟨o', its', n', g, _, gc, _, gv⟩
    · rw [hk (by rw [g]; simp)] at h; cases h
    · rw [hk (by rw [g]; simp)] at h; cases h
    · rw [h] at g; cases g
      rw [hc] at gc
      cases gc
      exact hv.inj gv
theorem mi_list (hK : X.K = c.K) (ha : ME c F0 H0 W X a m1) : MI c F0 H0 W X tg a (mItL m1) := by
  refine pi_mono (pi_list ha) fun σ H Q ⟨F, e, s, hh, p⟩ => ?_
  refine rd_mono (bindK hh p) fun x H1 ⟨F1, s1, a1, h1, g1, r1, p1⟩ => ?_
  obtain ⟨ds, e1, p2⟩ := post_oD p1
  rw [hK]
  unfold asL at e1
  split at e1
  · cases e1
    obtain ⟨hl, q, xs, rfl, h2, r2⟩ := rp_lst.mp (show Rp c F1 _ x from r1)
    exact ⟨q, rfl, ⟨xs, SqL.of (h1.w.sub _ _ h2)⟩, p2 _ F1 H1 h1.w g1 (walk_lst h2 r2)⟩
  · cases e1
    obtain ⟨q, rfl, o⟩ := r1
    obtain ⟨F2, w2, s2, g2, r2⟩ := frzOwn h1.w o (Same.refl _)
    obtain ⟨hl, q', xs, eq, h2, r2⟩ := rp_lst.mp r2
    cases eq
    exact ⟨q, rfl, ⟨xs, SqL.of (w2.sub _ _ h2)⟩, p2 _ F2 H1 w2 (g2 _ g1) (walk_lst h2 r2)⟩
  · cases e1
theorem walk_tup {F1 : Hp} {a : Addr} {xs : List V} {ds : List D} (h : SqT c.K F1 a xs) (r : RpL c F1 ds xs) (hk : ∀ H : Hp, ∀ ys, SqT c.K H a xs → SqT c.K H a ys → ys = xs) : WalkD c F1 (Itt c.K a) ds := by
  refine ⟨fun {F H s} w hd hs i d e => ?_, fun {F H s} w hs i hi => ?_⟩
  · obtain ⟨v, ev, rv⟩ := r.at i e
    have hH := sqT_same w.sub (sqT_same hs h)
    refine ⟨⟨xs, v, hH, ev⟩, fun x H' y => ?_⟩
    obtain ⟨rfl, y⟩ := y
    have := y xs hH
    rw [ev] at this
    cases this
    exact ⟨F, w, .refl, rp_same hs _ _ rv⟩
  · exact ⟨xs, sqT_same w.sub (sqT_same hs h), by rw [r.len]; exact hi⟩
theorem mi_tup (hK : X.K = c.K) (ha : ME c F0 H0 W X a m1) : MI c F0 H0 W X tg a (mItT m1) := by
  refine pi_mono (pi_tup ha) fun σ H Q ⟨F, e, s, hh, p⟩ => ?_
  refine rd_mono (bindK hh p) fun x H1 ⟨F1, s1, a1, h1, g1, r1, p1⟩ => ?_
  obtain ⟨ds, e1, p2⟩ := post_oD p1
  rw [hK]
  unfold asT at e1
  split at e1
  · cases e1
    obtain ⟨hl, q, xs, rfl, h2, r2⟩ := rp_tup.mp (show Rp c F1 _ x from r1)
    refine ⟨q, rfl, ⟨xs, sqT_same h1.w.sub h2⟩, p2 _ F1 H1 h1.w g1 ?_⟩
    refine ⟨fun {F H s} w hd hs i d e => ?_, fun {F H s} w hs i hi => ?_⟩
    · obtain ⟨v, ev, rv⟩ := r2.at i e
      have hH := sqT_same w.sub (sqT_same hs h2)
      refine ⟨⟨xs, v, hH, ev⟩, fun x H' y => ?_⟩
      obtain ⟨rfl, y⟩ := y
      have := y xs hH
      rw [ev] at this
      cases this
      exact ⟨F, w, .refl, rp_same hs _ _ rv⟩
    · exact ⟨xs, sqT_same w.sub (sqT_same hs h2), by rw [r2.len]; exact hi⟩
  · cases e1
/-- lo, lo + 1, .. -/
def rngD (lo : Int) (n : Nat) : List D := (List.range n).map fun i => .int (lo + (i : Nat))
def asR1 : List A → Option (List D)
  | [.d (.int j)] => if -(2 ^ 62) ≤ j ∧ j < 2 ^ 62 then some (rngD 0 j.toNat) else none
  | _ => none
def asR2 : List A → Option (List D)
  | [.d (.int i), .d (.int j)] => if -(2 ^ 62) ≤ i ∧ i < 2 ^ 62 ∧ -(2 ^ 62) ≤ j ∧ j < 2 ^ 62 then some (rngD i (j - i).toNat) else none
  | _ => none
theorem walk_rng {F1 : Hp} {lo : Int} {n : Nat} : WalkD c F1 (Itr lo n) (rngD lo n) := by
  refine ⟨fun {F H s} w hd hs i d e => ?_, fun {F H s} w hs i hi => ?_⟩
  · unfold rngD at e
    rw [List.getElem?_map] at e
    cases q : (List.range n)[i]? with
    | none => rw [q] at e; cases e
    | some j =>
      rw [q] at e
      cases e
      have hi : i < n := by
        have := (List.getElem?_eq_some_iff.mp q).1
        rwa [List.length_range] at this
      have hj : j = i := by
        rw [List.getElem?_range hi] at q
        cases q
        rfl
      subst hj
      refine ⟨hi, fun x H' y => ?_⟩
      obtain ⟨rfl, rfl⟩ := y
      exact ⟨F, w, .refl, rp_int.mpr rfl⟩
  · unfold rngD at hi
    rw [List.length_map, List.length_range] at hi
    exact hi
def mItR1 (ms : List Mv) : Mi' := fun e s => (mArgs ms e s).bind fun x s1 => opt (asR1 x) s1
def mItR2 (ms : List Mv) : Mi' := fun e s => (mArgs ms e s).bind fun x s1 => opt (asR2 x) s1
theorem mi_range1 {ms : List Mv} {p : Pos} (hg : Gl X "range") (hm : X.mg "range" = none) (ha : MA c F0 H0 W X [a] (mArgs ms)) (hs : starEach [a] X.env = [(false, eval a X.env)] := by rfl) : MI c F0 H0 W X tg (.Call (.Name "range" p) [a] [] pos) (mItR1 ms) := by
  refine pi_mono (pi_range1 hg hm ha hs) fun σ H Q ⟨F, e, s, hh, p⟩ => ?_
  refine rd_mono (bindK hh p) fun x H1 ⟨F1, s1, a1, h1, g1, r1, p1⟩ => ?_
  obtain ⟨ds, e1, p2⟩ := post_oD p1
  unfold asR1 at e1
  split at e1
  · split at e1
    · rename_i j hj
      cases e1
      obtain ⟨v, r, rfl, q1, q2⟩ := r1
      cases q2
      exact ⟨j, by rw [rp_int.mp (show Rp c F1 _ v from q1)], hj.1, hj.2, p2 _ F1 H1 h1.w g1 walk_rng⟩
    · cases e1
  · cases e1
theorem mi_range2 {ms : List Mv} {p : Pos} (hg : Gl X "range") (hm : X.mg "range" = none) (ha : MA c F0 H0 W X [a, b] (mArgs ms)) (hs : starEach [a, b] X.env = [(false, eval a X.env), (false, eval b X.env)] := by rfl) (hs2 : starEach [b] X.env = [(false, eval b X.env)] := by rfl) :
    MI c F0 H0 W X tg (.Call (.Name "range" p) [a, b] [] pos) (mItR2 ms) := by
  refine pi_mono (pi_range2 hg hm ha hs hs2) fun σ H Q ⟨F, e, s, hh, p⟩ => ?_
  refine rd_mono (bindK hh p) fun x H1 ⟨F1, s1, a1, h1, g1, r1, p1⟩ => ?_
  obtain ⟨ds, e1, p2⟩ := post_oD p1
  unfold asR2 at e1
  split at e1
  · split at e1
    · rename_i i j hj
      cases e1
      obtain ⟨v, r, rfl, q1, v2, r2, rfl, q2, q3⟩ := r1
      cases q3
      exact ⟨i, j, by rw [rp_int.mp (show Rp c F1 _ v from q1), rp_int.mp (show Rp c F1 _ v2 from q2)], hj, p2 _ F1 H1 h1.w g1 walk_rng⟩
    · cases e1
  · cases e1
/-- the signs of a text -/
def chD (z : Str) : List D := z.cps.toList.map fun k => .str ⟨#[k]⟩
def asZ : A → Option (List D)
  | .d (.str z) => some (chD z)
  | _ => none
def mItS (m : Mv) : Mi' := fun e s => (m e s).bind fun x s1 => opt (asZ x) s1
theorem strOk_mem {z : Str} (h : PyData.strOk z = true) {k : Nat} (hk : k ∈ z.cps.toList) : PyData.strOk ⟨#[k]⟩ = true := by
  unfold PyData.strOk at h ⊢
  rw [← Array.all_toList, List.all_eq_true] at h
  have := h k hk
  simpa using this
theorem mi_str (ha : ME c F0 H0 W X a m1) : MI c F0 H0 W X tg a (mItS m1) := by
  refine pi_mono (pi_str ha) fun σ H Q ⟨F, e, s, hh, p⟩ => ?_
  refine rd_mono (bindK hh p) fun x H1 ⟨F1, s1, a1, h1, g1, r1, p1⟩ => ?_
  obtain ⟨ds, e1, p2⟩ := post_oD p1
  unfold asZ at e1
  split at e1
  · rename_i z
    cases e1
    obtain ⟨rfl, hz, hl⟩ := rp_str.mp (show Rp c F1 _ x from r1)
    refine ⟨z, rfl, p2 _ F1 H1 h1.w g1 ⟨fun {F H s} w hd hs i d e => ?_, fun {F H s} w hs i hi => ?_⟩⟩
    · unfold chD at e
      rw [List.getElem?_map] at e
      cases q : z.cps.toList[i]? with
      | none => rw [q] at e; cases e
      | some j =>
        rw [q] at e
        cases e
        have hi := (List.getElem?_eq_some_iff.mp q).1
        rw [Array.length_toList] at hi
        refine ⟨hi, fun x H' y => ?_⟩
        obtain ⟨rfl, k, hk, rfl⟩ := y
        rw [Array.getElem?_toList, hk] at q
        cases q
        exact ⟨F, w, .refl, rp_str.mpr ⟨rfl, strOk_mem hz (by rw [← Array.mem_def]; exact Array.mem_of_getElem? hk), by show 1 ≤ 1000000; decide⟩⟩
    · unfold chD at hi
      rw [List.length_map, Array.length_toList] at hi
      exact hi
  · cases e1
/-- a list or a tuple from its end -/
def asS : A → Option (List D)
  | .d (.lst ds) => some ds
  | .own ds => some ds
  | .d (.tup ds) => some ds
  | _ => none
/-! ### targets -/
abbrev Gm := D → Env → Option Env
abbrev Gms := List D → Env → Option Env
/-- how a target takes data -/
def GM (c : Cc) (H0 : Hp) (vs : List Nat) (g : TG) (mg : Gm) : Prop := ∀ {F H : Hp} {e e' : Env} {σ : L2.St} {d : D} {x : V} {s : Sx} {Q : L2.St → Hp → Prop}, Wo c s F H → En c H0 e σ F H → Rp c F d x → mg d e = some e' → (∀ σ', En c H0 e' σ' F H → σ'.length = σ.length → (∀ j, j ∉ vs → σ'[j]? = σ[j]?) → Q σ' H) → g x σ H Q
def GMs (c : Cc) (H0 : Hp) (vs : List Nat) (g : TGs) (mg : Gms) : Prop := ∀ {F H : Hp} {e e' : Env} {σ : L2.St} {ds : List D} {xs : List V} {s : Sx} {Q : L2.St → Hp → Prop}, Wo c s F H → En c H0 e σ F H → RpL c F ds xs → mg ds e = some e' → (∀ σ', En c H0 e' σ' F H → σ'.length = σ.length → (∀ j, j ∉ vs → σ'[j]? = σ[j]?) → Q σ' H) → g xs σ H Q
def gN (i : Nat) : Gm := fun d e => some (e.set i (some (.d d)))
def gT (n : Nat) (g : Gms) : Gm := fun d e => match d with
  | .tup ds => if ds.length = n then g ds e else none
  | _ => none
def gsN : Gms := fun ds e => match ds with
  | [] => some e
  | _ => none
def gsC (g : Gm) (gs : Gms) : Gms := fun ds e => match ds with
  | d :: ds => match g d e with
    | some e1 => gs ds e1
    | none => none
  | [] => none
theorem En.setD {F H : Hp} {e : Env} {σ : L2.St} {d : D} {x : V} {i : Nat} (n : En c H0 e σ F H) (r : Rp c F d x) : En c H0 (e.set i (some (.d d))) (σ.set i (some x)) F H := by
  refine ⟨by rw [List.length_set, List.length_set]; exact n.len, fun j a h => ?_, fun j xs h => ?_, fun j k a b p h1 h2 m1 m2 h3 h4 => ?_⟩
  · by_cases hj : j = i
    · subst hj
      have hlt : j < e.length := by
        have := (List.getElem?_eq_some_iff.mp h).1
        rwa [List.length_set] at this
      rw [List.getElem?_set_self hlt] at h
      cases h
      exact ⟨x, List.getElem?_set_self (by rw [← n.len]; exact hlt), r⟩
    · rw [List.getElem?_set_ne (Ne.symm hj)] at h ⊢
      exact n.at' j a h
  · by_cases hj : j = i
    · subst hj
      have hlt : j < e.length := by
        have := (List.getElem?_eq_some_iff.mp h).1
        rwa [List.length_set] at this
      rw [List.getElem?_set_self hlt] at h
      cases h
    · rw [List.getElem?_set_ne (Ne.symm hj)] at h
      exact n.nb j xs h
  · have nj : ∀ j (b : A), (e.set i (some (A.d d)))[j]? = some (some b) → b.mine = true → j ≠ i := fun j b h m z => by
      subst z
      have hlt : j < e.length := by
        have := (List.getElem?_eq_some_iff.mp h).1
        rwa [List.length_set] at this
      rw [List.getElem?_set_self hlt] at h
      cases h
      cases m
    have n1 := nj j a h1 m1
    have n2 := nj k b h2 m2
    rw [List.getElem?_set_ne (Ne.symm n1)] at h1 h3
    rw [List.getElem?_set_ne (Ne.symm n2)] at h2 h4
    exact n.ne j k a b p h1 h2 m1 m2 h3 h4
theorem gm_name (i : Nat) : GM c H0 [i] (gName i) (gN i) := by
  intro F H e e' σ d x s Q w n r h q
  cases h
  exact q _ (n.setD r) (List.length_set) fun j hj => List.getElem?_set_ne (fun z => hj (by rw [← z]; exact List.mem_singleton.mpr rfl))
theorem gms_nil : GMs c H0 [] gNil gsN := by
  intro F H e e' σ ds xs s Q w n r h q
  unfold gsN at h
  split at h
  · cases h
    exact ⟨rpL_nil.mp r, q _ n rfl fun _ _ => rfl⟩
  · cases h
theorem gms_cons {g : TG} {gs : TGs} {m : Gm} {ms : Gms} {v1 v2 : List Nat} (h1 : GM c H0 v1 g m) (h2 : GMs c H0 v2 gs ms) : GMs c H0 (v1 ++ v2) (gCons g gs) (gsC m ms) := by
  intro F H e e' σ ds xs s Q w n r h q
  unfold gsC at h
  split at h
  · rename_i d ds'
    split at h
    · rename_i e1 he
      obtain ⟨v, rs, rfl, r1, r2⟩ := rpL_cons.mp r
      exact ⟨v, rs, rfl, h1 w n r1 he fun σ' n' l' k1 => h2 w n' r2 h fun σ2 n2 l2 k2 => q σ2 n2 (l2.trans l') fun j hj => (k2 j fun z => hj (List.mem_append_right _ z)).trans (k1 j fun z => hj (List.mem_append_left _ z))⟩
    · cases h
  · cases h
theorem gm_tup {K : PySem.W.Frag} {gs : TGs} {ms : Gms} {k : Nat} {vs : List Nat} (hK : K = c.K) (h2 : GMs c H0 vs gs ms) : GM c H0 vs (gTup K k gs) (gT k ms) := by
  intro F H e e' σ d x s Q w n r h q
  subst hK
  unfold gT at h
  split at h
  · split at h
    · rename_i ds hl
      obtain ⟨_, p, xs, rfl, h3, r3⟩ := rp_tup.mp r
      exact ⟨p, xs, rfl, sqT_same w.sub h3, by rw [r3.len]; exact hl, h2 w n r3 h q⟩
    · cases h
  · cases h
end
end Mi
namespace Mi
open PySem PySem.Spec PyProof.Rows L2 Kt Kj
abbrev W0 : WX := fun _ _ _ _ => False
def nox {α : Type} (r : Res α) : Res α := match r with
  | .er _ _ => .bad
  | r => r
def wipeE (e : Env) : List Nat → Env
  | [] => e
  | v :: vs => (wipeE e vs).set v none
def blankE (n : Nat) (e : Env) : Env := List.replicate n none ++ e
section
variable {c : Cc} {F0 H0 : Hp} {F H F' H' F1 H1 : Hp} {e : Env} {σ : L2.St} {s s' : Sx} {p : Addr} {o : HO}
theorem En.wipe (n : En c H0 e σ F H) : ∀ vs : List Nat, En c H0 (wipeE e vs) (wipe σ vs) F H
  | [] => n
  | v :: vs => by
    have n := En.wipe n vs
    unfold wipeE L2.wipe
    have key : ∀ (i : Nat) (a : A), ((wipeE e vs).set v none)[i]? = some (some a) → (wipeE e vs)[i]? = some (some a) ∧ i ≠ v := fun i a h => by
      by_cases hi : i = v
      · subst hi
        have hlt : i < (wipeE e vs).length := by
          have := (List.getElem?_eq_some_iff.mp h).1
          rwa [List.length_set] at this
        rw [List.getElem?_set_self hlt] at h
        cases h
      · rw [List.getElem?_set_ne (Ne.symm hi)] at h
        exact ⟨h, hi⟩
    refine ⟨by rw [List.length_set, List.length_set]; exact n.len, fun i a h => ?_, fun i xs h => ?_, fun i j xs ys p h1 h2 m1 m2 h3 h4 => ?_⟩
    · obtain ⟨h, hi⟩ := key i a h
      rw [List.getElem?_set_ne (Ne.symm hi)]
      exact n.at' i a h
    · exact n.nb i xs (key i _ h).1
    · obtain ⟨h1, hi⟩ := key i _ h1
      obtain ⟨h2, hj⟩ := key j _ h2
      rw [List.getElem?_set_ne (Ne.symm hi)] at h3
      rw [List.getElem?_set_ne (Ne.symm hj)] at h4
      exact n.ne i j xs ys p h1 h2 m1 m2 h3 h4
theorem En.blank (n : En c H0 e σ F H) (xs : List Str) : En c H0 (blankE xs.length e) (Kg.blank xs σ) F H := by
  have key : ∀ (i : Nat) (a : A), (blankE xs.length e)[i]? = some (some a) → xs.length ≤ i ∧ e[i - xs.length]? = some (some a) := fun i a h => by
    unfold blankE at h
    by_cases hi : i < xs.length
    · rw [List.getElem?_append_left (by rw [List.length_replicate]; exact hi)] at h
      rw [List.getElem?_replicate] at h
      split at h <;> cases h
    · rw [List.getElem?_append_right (by rw [List.length_replicate]; omega), List.length_replicate] at h
      exact ⟨by omega, h⟩
  have keyS : ∀ (i : Nat), xs.length ≤ i → (Kg.blank xs σ)[i]? = σ[i - xs.length]? := fun i hi => by
    unfold Kg.blank
    rw [List.getElem?_append_right (by rw [List.length_map]; exact hi), List.length_map]
  refine ⟨?_, fun i a h => ?_, fun i xs h => ?_, fun i j ys zs p h1 h2 m1 m2 h3 h4 => ?_⟩
  · unfold blankE Kg.blank
    rw [List.length_append, List.length_append, List.length_replicate, List.length_map, n.len]
  · obtain ⟨hi, h⟩ := key i a h
    rw [keyS i hi]
    exact n.at' _ a h
  · exact n.nb _ xs (key i _ h).2
  · obtain ⟨hi, h1⟩ := key i _ h1
    obtain ⟨hj, h2⟩ := key j _ h2
    rw [keyS i hi] at h3
    rw [keyS j hj] at h4
    have := n.ne _ _ ys zs p h1 h2 m1 m2 h3 h4
    omega
theorem Go.putM (g : Go c F H F' H') (n : H p = none) (nt : ∀ ps, H' p ≠ some (.tbl ps)) (nd : p ≠ c.dq) : Go c F H F' (upd H' p o) := by
  refine ⟨g.same, fun b u e hb hn => ?_, fun b ps e => ?_, fun u e => ?_, fun t l q e => ?_, g.fresh⟩
  · rw [upd_ne (ne_of_none e n)]
    exact g.keep b u e hb hn
  · obtain ⟨ps', e'⟩ := g.tb b ps e
    exact ⟨ps', by rw [upd_ne (ne_of_none e n)]; exact e'⟩
  · rw [upd_ne (Ne.symm nd)]
    exact g.dk u e
  · rw [upd_ne (Ne.symm nd)]
    exact g.dc t l q e
theorem Wo.putM (w : Wo c s F H) (n : F p = none) (nt : ∀ u, H p = some u → plainO u) (nd : p ≠ c.dq) : Wo c s F (upd H p o) := by
  refine ⟨fun b u e => ?_, w.tg.putM nt, w.nt, ?_⟩
  · rw [upd_ne (fun z => by rw [z, n] at e; cases e)]
    exact w.sub b u e
  · have q := w.ds
    cases s with
    | none => trivial
    | some d =>
      obtain ⟨q1, q, q2, q3⟩ := q
      exact ⟨q1, q, by rw [upd_ne (Ne.symm nd)]; exact q2, q3⟩
theorem Wo.tabbed {T : Addr} (w : Wo c s F H) (hT : T ∈ c.Ts.gs) (g : GxR.Tabbed T H H1) : Wo c s F H1 ∧ Go c F H F H1 := by
  obtain ⟨ps0, hT0, _⟩ := w.tg.g T hT
  have tg' := w.tg.tabbed hT g
  have st := ST.tabbed w.tg.g hT g
  obtain ⟨g1, g2⟩ := g
  have ne : ∀ b u, H b = some u → (∀ ps, u ≠ .tbl ps) → b ≠ T := fun b u e nu z => by
    rw [z, hT0] at e
    exact nu _ (Option.some.inj e).symm
  refine ⟨⟨fun b u e => ?_, tg', w.nt, ?_⟩, ⟨Same.refl F, fun b u e _ nu => ?_, st.tb, fun u e => ?_, fun t l q e => ?_, fun _ _ e _ => e⟩⟩
  · have := w.sub b u e
    rw [g2 b (ne b u this fun ps z => by subst z; exact w.nt b ps e)]
    exact this
  · have q := w.ds
    cases s with
    | none => trivial
    | some d =>
      obtain ⟨q1, q, q2, q3⟩ := q
      exact ⟨q1, q, by rw [g2 _ (ne _ _ q2 fun ps z => by cases z)]; exact q2, q3⟩
  · rw [g2 b (ne b u e nu)]
    exact e
  · by_cases z : c.dq = T
    · obtain ⟨ps, h1, _⟩ := g1
      exact ⟨_, by rw [z]; exact h1⟩
    · exact ⟨u, by rw [g2 _ z]; exact e⟩
  · exact ⟨t, l, by rw [g2 _ (ne _ _ e fun ps z => by cases z)]; exact e⟩
end
/-! ### tests of a comprehension -/
section
variable {c : Cc} {F0 H0 : Hp} {W : WX} {X : Cx} {pos : Pos} {a tg iter elt : Expr} {m1 m2 : Mv} [hq : Dq c H0]
abbrev MTs (c : Cc) (F0 H0 : Hp) (W : WX) (X : Cx) (ifs : List Expr) (m : Mb) : Prop := PTs X ifs (rd c F0 H0 W (fun _ _ _ a v => a = v) m)
def mYes : Mb := fun _ s => .ok true s
theorem mts_nil : MTs c F0 H0 W X [] mYes := by
  obtain ⟨q⟩ := (pts_nil : PTs X [] tYes)
  exact ⟨fun pins s σ H Q I ⟨F, e, s', hh, p⟩ => q pins s σ H Q I (p true F H hh.w .refl rfl)⟩
theorem mts_one {t : Mb} (h : MT c F0 H0 W X a t) : MTs c F0 H0 W X [a] t := pts_one h
/-- [te for g in .. if tt] -/
def lcM (g : Gm) (tt : Mb) (te : Mv) (e : Env) : List D → List D → Sx → Res A
  | [], acc, s => .ok (.own acc) s
  | d :: ds, acc, s => match g d e with
    | none => .bad
    | some e1 => (nox (tt e1 s)).bind fun k s1 => if k = true then (nox (te e1 s1)).bind fun a s2 => match a.toD with
        | none => .bad
        | some y => if acc.length < 1000000 then lcM g tt te e ds (acc ++ [y]) s2 else .bad
      else lcM g tt te e ds acc s1
def mLc (mi : Mi') (g : Gm) (tt : Mb) (te : Mv) (vs : List Nat) : Mv := fun e s => (mi e s).bind fun ds s1 => lcM g tt te (wipeE e vs) ds [] s1
theorem wipe_congr {σ σ' : L2.St} : ∀ {vs : List Nat}, σ'.length = σ.length → (∀ j, j ∉ vs → σ'[j]? = σ[j]?) → wipe σ' vs = wipe σ vs := fun {vs} hl h => by
  refine List.ext_getElem? fun i => ?_
  by_cases hi : i ∈ vs
  · have key : ∀ (τ : L2.St) (vs : List Nat), i ∈ vs → i < τ.length → (wipe τ vs)[i]? = some none := by
      intro τ vs
      induction vs with
      | nil => intro h; cases h
      | cons v vs ih =>
        intro hm hlt
        unfold wipe
        by_cases hv : v = i
        · subst hv
          exact List.getElem?_set_self (by rw [wipe_length]; exact hlt)
        · rw [List.getElem?_set_ne hv]
          rcases List.mem_cons.mp hm with z | z
          · exact (hv z.symm).elim
          · exact ih z hlt
    by_cases hlt : i < σ.length
    · rw [key σ vs hi hlt, key σ' vs hi (by rw [hl]; exact hlt)]
    · rw [List.getElem?_eq_none (by rw [wipe_length]; omega), List.getElem?_eq_none (by rw [wipe_length]; omega)]
  · rw [wipe_out hi, wipe_out hi, h i hi]
theorem wipe_wipe {σ : L2.St} {vs : List Nat} : wipe (wipe σ vs) vs = wipe σ vs := wipe_congr (wipe_length σ vs) fun j hj => wipe_out hj
theorem noxE {α β : Type} {W : WX} {σ : L2.St} {F H Fo Ho : Hp} {e : Env} {s : Sx} {m : Env → Sx → Res α} {R : Hp → Hp → Hp → α → β → Prop} {γ δ : Type} {R' : Hp → Hp → γ → δ → Prop} {k : α → Sx → Res γ} {Q : δ → Hp → Prop} {σo : L2.St}
    (hh : Hold c F0 H0 e s σ F H) (p : Post c W σo Fo Ho R' ((nox (m e s)).bind k) Q) :
    rd c F0 H0 W0 R m σ H (fun v H1 => ∃ F1 s1 x, Hold c F0 H0 e s1 σ F1 H1 ∧ Go c F H F1 H1 ∧ R H F1 H1 x v ∧ Post c W σo Fo Ho R' (k x s1) Q) := by
  refine ⟨F, e, s, hh, ?_⟩
  cases q : m e s with
  | ok x s1 =>
    rw [q] at p
    exact fun v F1 H1 w1 g1 r1 => ⟨F1, s1, x, hh.go g1 w1, g1, r1, p⟩
  | er k1 s1 =>
    rw [q] at p
    exact p.elim
  | bad =>
    rw [q] at p
    exact p.elim
/-- the core of a comprehension -/
theorem lc_run {σ : L2.St} {F H F1 H1 : Hp} {e : Env} {s1 : Sx} {J : It} {ds : List D} {vs : List Nat} {g : TG} {mg : Gm} {tt : Mb} {te : Mv} {Q : VK} {Dn : Addr}
    (h : Hold c F0 H0 e s1 σ F1 H1) (gF : Go c F H F1 H1) (wk : WalkD c F1 J ds) (hg : GM c H0 vs g mg) (p : Post c W σ F H (fun F' H' a v => RA c H0 H F' H' a v) (lcM mg tt te (wipeE e vs) ds [] s1) Q) (nD : H1 Dn = none) :
    ∃ W : Nat → Nat → Hp → Prop, (∃ m, W 0 m (upd H1 Dn (.lst []))) ∧ ∀ i m H, W i m H →
      (J.stop i H ∧ Q (.ref Dn) H) ∨ (J.go i H ∧ ∃ Nx : Hp → Prop, (∀ H', Nx H' → ∃ m', m' < m ∧ W (i + 1) m' H') ∧ ∀ x H', J.yld i H x H' → g x (wipe σ vs) H' fun σ2 H2 => wipe σ2 vs = wipe σ vs ∧ rd c F0 H0 W0 (fun _ _ _ a v => a = v) tt σ2 H2 fun b H3 =>
        if b = true then rd c F0 H0 W0 (fun Hb F H a v => RA c H0 Hb F H a v) te σ2 H3 fun y H4 => ∃ acc, H4 Dn = some (.lst acc) ∧ acc.length < sizeLine ∧ Nx (upd H4 Dn (.lst (acc ++ [y]))) else Nx H3) := by
  have hd := h.dq Dn nD
  have hDF := gF.free nD
  have Fn := h.w.fnone nD
  refine ⟨fun i m Hc => m = ds.length - i ∧ i ≤ ds.length ∧ ∃ (Fc : Hp) (sc : Sx) (acc : List D) (accV : List V), Wo c sc Fc Hc ∧ Go c F1 H1 Fc Hc ∧ Fc Dn = none ∧ Hc Dn = some (.lst accV) ∧ RpL c Fc acc accV ∧ acc.length ≤ 1000000 ∧
    Post c W σ F H (fun F' H' a v => RA c H0 H F' H' a v) (lcM mg tt te (wipeE e vs) (ds.drop i) acc sc) Q,
    ⟨ds.length, by simp, Nat.zero_le _, F1, s1, [], [], h.w.newM nD, .newM nD, Fn, upd_same, rpL_nil.mpr rfl, Nat.zero_le _, p⟩, ?_⟩
  rintro i m Hc ⟨rfl, hi, Fc, sc, acc, accV, wc, gc, fD, hD, rD, lD, pc⟩
  have hdq : ∀ p, Hc p = none → p ≠ c.dq := fun p n => h.dq p (gc.free n)
  by_cases hlt : i < ds.length
  · have e1 : ds.drop i = ds[i] :: ds.drop (i + 1) := List.drop_eq_getElem_cons hlt
    rw [e1] at pc
    unfold lcM at pc
    obtain ⟨jg, jy⟩ := wk.go wc hdq gc.same i ds[i] (List.getElem?_eq_getElem hlt)
    refine .inr ⟨jg, fun H' => ∃ (Fc : Hp) (sc : Sx) (acc : List D) (accV : List V), Wo c sc Fc H' ∧ Go c F1 H1 Fc H' ∧ Fc Dn = none ∧ H' Dn = some (.lst accV) ∧ RpL c Fc acc accV ∧ acc.length ≤ 1000000 ∧
      Post c W σ F H (fun F' H' a v => RA c H0 H F' H' a v) (lcM mg tt te (wipeE e vs) (ds.drop (i + 1)) acc sc) Q, fun H' hN => ⟨ds.length - (i + 1), by omega, rfl, hlt, hN⟩, fun x H' y => ?_⟩
    obtain ⟨Fy, wy, gy, ry⟩ := jy x H' y
    have fDy : Fy Dn = none := gy.fresh Dn _ fD hD
    have hDy : H' Dn = some (.lst accV) := gy.keep Dn _ hD hd fun ps z => by cases z
    have gy1 := gc.trans gy
    cases eg : mg ds[i] (wipeE e vs) with
    | none => rw [eg] at pc; exact pc.elim
    | some e2 =>
      rw [eg] at pc
      refine hg wy ((h.n.go gy1).wipe vs) ry eg fun σ2 n2 l2 k2 => ⟨?_, ?_⟩
      · rw [wipe_congr l2 k2]
        exact wipe_wipe
      have h2 : Hold c F0 H0 e2 sc σ2 Fy H' := ⟨wy, h.g.trans gy1, n2⟩
      refine rd_mono (noxE h2 pc) fun b H3 ⟨F3, s3, b', h3, g3, rb, p3⟩ => ?_
      subst rb
      have fD3 : F3 Dn = none := g3.fresh Dn _ fDy hDy
      have hD3 : H3 Dn = some (.lst accV) := g3.keep Dn _ hDy hd fun ps z => by cases z
      have gA := gy1.trans g3
      cases b' with
      | false =>
        rw [if_neg (by simp)]
        skip
        rw [if_neg (by simp)] at p3
        exact ⟨F3, s3, acc, accV, h3.w, gA, fD3, hD3, rpL_same (gy.same.trans g3.same) _ _ rD, lD, p3⟩
      | true =>
        rw [if_pos rfl]
        skip
        rw [if_pos rfl] at p3
        refine rd_mono (noxE h3 p3) fun y H4 ⟨F4, s4, a4, h4, g4, r4, p4⟩ => ?_
        have fD4 : F4 Dn = none := g4.fresh Dn _ fD3 hD3
        have hD4 : H4 Dn = some (.lst accV) := g4.keep Dn _ hD3 hd fun ps z => by cases z
        cases ed : a4.toD with
        | none => rw [ed] at p4; exact p4.elim
        | some yd =>
          rw [ed] at p4
          dsimp only at p4
          split at p4
          · rename_i hacc
            obtain ⟨F5, w5, s5, g5, r5⟩ := frz1 h4.w r4 (Same.refl _) ed
            have gB := g5 F3 g4
            have fD5 : F5 Dn = none := gB.fresh Dn _ fD3 hD3
            have nt : ∀ ps, H4 Dn ≠ some (.tbl ps) := fun ps z => by rw [hD4] at z; cases z
            refine ⟨accV, hD4, by rw [rD.len]; exact Nat.lt_trans hacc big, F5, s4, acc ++ [yd], accV ++ [y], w5.putM fD5 (fun u z => by rw [hD4] at z; cases z; exact True.intro) hd, (gA.trans gB).putM nD nt hd, fD5, upd_same, ?_, by rw [List.length_append]; show acc.length + 1 ≤ 1000000; omega, p4⟩
            exact (rpL_same (gy.same.trans (g3.same.trans gB.same)) _ _ rD).app (RpL.one r5)
          · exact p4.elim
  · have e1 : i = ds.length := by omega
    subst e1
    rw [List.drop_length] at pc
    unfold lcM at pc
    exact .inl ⟨wk.stop wc gc.same _ (Nat.le_refl _), pc (.ref Dn) Fc Hc wc (gF.trans gc) ⟨Dn, rfl, hDF, fD, hd, lD, accV, hD, rD⟩⟩
theorem me_lc {ifs : List Expr} {scope : Scope} {own : List (Str × Nat)} {mi : Mi'} {g : TG} {mg : Gm} {tt : Mb} {te : Mv} (hg : GM c H0 (own.map (·.2)) g mg) (hc : X.calm = true) (hN : X.N.Nodup) (hi : MI c F0 H0 W X tg iter mi) (ok : BlkOk X.N X.env.scope scope own)
    (hpg : ∀ (s : Shared) (H : Hp) (C : Addr) (cl : List (Str × Addr)) (fp : List Addr), PG (X.blk s H scope (compEnvC scope cl C X.env) fp) tg g) (ht : ∀ (s : Shared) (H : Hp) (C : Addr) (cl : List (Str × Addr)) (fp : List Addr), MTs c F0 H0 W0 (X.blk s H scope (compEnvC scope cl C X.env) fp) ifs tt)
    (he : ∀ (s : Shared) (H : Hp) (C : Addr) (cl : List (Str × Addr)) (fp : List Addr), ME c F0 H0 W0 (X.blk s H scope (compEnvC scope cl C X.env) fp) elt te) (hs : ∀ x, foldedSetIterable iter X.env x = pure x := by intro _; rfl) :
    ME c F0 H0 W X (.ListComp elt [⟨tg, iter, ifs, 0⟩] scope pos) (mLc mi mg tt te (own.map (·.2))) := by
  refine pe_mono (pe_lc hc hN hi ok hpg ht he hs) fun σ H Q ⟨F, e, s, hh, p⟩ => ?_
  refine rd_mono (bindK hh p) fun J H1 ⟨F1, s1, ds, h1, g1, wk, p1⟩ => ?_
  exact fun Dn nD => lc_run h1 g1 wk hg p1 nD
/-! ### all(..), any(..) -/
def qM (bf : Bool) (g : Gm) (te : Mv) (e : Env) : List D → Sx → Res A
  | [], s => .ok (.d (.bl (!bf))) s
  | d :: ds, s => match g d e with
    | none => .bad
    | some e1 => (nox (te e1 s)).bind fun a s1 => (opt (asB a) s1).bind fun b s2 => if b = bf then .ok (.d (.bl bf)) s2 else qM bf g te e ds s2
def mQ (bf : Bool) (mi : Mi') (g : Gm) (te : Mv) (n : Nat) : Mv := fun e s => (mi e s).bind fun ds s1 => qM bf g te (blankE n e) ds s1
theorem q_run {σ : L2.St} {F H F1 H1 H2 : Hp} {e : Env} {s1 : Sx} {J : It} {ds : List D} {vs : List Nat} {g : TG} {mg : Gm} {te : Mv} {Q : VK} {T : Addr} {bf : Bool} {xs : List Str}
    (h : Hold c F0 H0 e s1 σ F1 H1) (gF : Go c F H F1 H1) (wk : WalkD c F1 J ds) (hg : GM c H0 vs g mg) (hvs : ∀ j ∈ vs, j < xs.length) (p : Post c W σ F H (fun F' H' a v => RA c H0 H F' H' a v) (qM bf mg te (blankE xs.length e) ds s1) Q) (hT : T ∈ c.Ts.gs) (tb : GxR.Tabbed T H1 H2) :
    Kg.Wlk J g (rd c F0 H0 W0 (fun Hb F H a v => RA c H0 Hb F H a v) te) (Kg.blank xs σ) bf (fun H => Q (.bl (!bf)) H) (fun H => Q (.bl bf) H) H2 := by
  obtain ⟨w2, g2⟩ := h.w.tabbed hT tb
  refine ⟨ds.length, fun i Hc => ∃ (Fc : Hp) (sc : Sx), Wo c sc Fc Hc ∧ Go c F1 H1 Fc Hc ∧ Post c W σ F H (fun F' H' a v => RA c H0 H F' H' a v) (qM bf mg te (blankE xs.length e) (ds.drop i) sc) Q, ⟨F1, s1, w2, g2, p⟩, ?_⟩
  rintro i Hc hi ⟨Fc, sc, wc, gc, pc⟩
  have hdq : ∀ p, Hc p = none → p ≠ c.dq := fun p n => h.dq p (gc.free n)
  by_cases hlt : i < ds.length
  · have e1 : ds.drop i = ds[i] :: ds.drop (i + 1) := List.drop_eq_getElem_cons hlt
    rw [e1] at pc
    unfold qM at pc
    obtain ⟨jg, jy⟩ := wk.go wc hdq gc.same i ds[i] (List.getElem?_eq_getElem hlt)
    refine .inr ⟨hlt, jg, fun x H' y => ?_⟩
    obtain ⟨Fy, wy, gy, ry⟩ := jy x H' y
    have gy1 := gc.trans gy
    cases eg : mg ds[i] (blankE xs.length e) with
    | none => rw [eg] at pc; exact pc.elim
    | some e2 =>
      rw [eg] at pc
      refine hg wy ((h.n.go gy1).blank xs) ry eg fun σ2 n2 l2 k2 => ⟨fun j v hj => ?_, ?_⟩
      · by_cases hjv : j ∈ vs
        · have hj2 := hvs j hjv
          unfold Kg.blank at hj
          rw [List.getElem?_append_left (by rw [List.length_map]; exact hj2), List.getElem?_map] at hj
          cases q : xs[j]? with
          | none => rw [q] at hj; cases hj
          | some z => rw [q] at hj; cases hj
        · rw [k2 j hjv]
          exact hj
      have h2 : Hold c F0 H0 e2 sc σ2 Fy H' := ⟨wy, h.g.trans gy1, n2⟩
      refine rd_mono (noxE h2 pc) fun b H3 ⟨F3, s3, b', h3, g3, rb, p3⟩ => ?_
      obtain ⟨k, ek, p4⟩ := post_oI p3
      refine ⟨k, asB_some ek rb, ?_⟩
      skip
      by_cases hk : k = bf
      · rw [if_pos hk] at p4 ⊢
        exact p4 _ F3 H3 h3.w (gF.trans (gy1.trans g3)) ra_bl
      · rw [if_neg hk] at p4 ⊢
        exact ⟨F3, s3, h3.w, gy1.trans g3, p4⟩
  · have e1 : i = ds.length := by omega
    subst e1
    rw [List.drop_length] at pc
    unfold qM at pc
    exact .inl ⟨rfl, wk.stop wc gc.same _ (Nat.le_refl _), pc _ Fc Hc wc (gF.trans gc) ra_bl⟩
variable {gpos q : Pos} {scope : Scope} {xs M : List Str} {mi : Mi'} {g : TG} {mg : Gm} {te : Mv} {cd T : Addr} {k : Nat} {vs : List Nat}
theorem me_all (hg : GM c H0 vs g mg) (hvs : ∀ j ∈ vs, j < xs.length) (hT : T ∈ c.Ts.gs) (hr : Room (k + 1) X.A) (hc : X.calm = true) (hgl : Gl X "all") (hm : X.mg "all" = none) (hb : bootBuiltins "all" = some (.builtin "all")) (TB : LamX.TabB X.base X.mg cd T) (hcode : X.env.code = .ref cd) (L : Kg.GnS X.env.scope scope xs) (hM : Kg.mkB scope X.N M = true) (hN : ((".0" : Str) :: (xs ++ M)).Nodup) (hi : MI c F0 H0 W X tg iter mi)
    (hpg : ∀ (A : Around) (s : Shared) (H : Hp) (C : Addr) (code : Value) (fp : List Addr) (pn : List (Addr × Obj)), PG (Kg.genCx X A xs M s H (Kg.gEnv X scope C code) fp pn) tg g)
    (he : ∀ (A : Around) (s : Shared) (H : Hp) (C : Addr) (code : Value) (fp : List Addr) (pn : List (Addr × Obj)), Room k A → ME c F0 H0 W0 (Kg.genCx X A xs M s H (Kg.gEnv X scope C code) fp pn) elt te)
    (hs : ∀ v, genFold iter X.env v = pure v)
    (hst : starEach [.GeneratorExp elt [⟨tg, iter, [], 0⟩] scope gpos] X.env = (false, eval (.GeneratorExp elt [⟨tg, iter, [], 0⟩] scope gpos) X.env) :: starEach [] X.env := by rfl) :
    ME c F0 H0 W X (.Call (.Name "all" q) [.GeneratorExp elt [⟨tg, iter, [], 0⟩] scope gpos] [] pos) (mQ false mi mg te xs.length) := by
  refine pe_mono (Kg.pe_allG hr hc hgl hm hb TB hcode L hM hN hi hpg he hs hst) fun σ H Q ⟨F, e, s, hh, p⟩ => ?_
  refine rd_mono (bindK hh p) fun J H1 ⟨F1, s1, ds, h1, g1, wk, p1⟩ => ?_
  exact ⟨h1.w.tg.g T hT, fun H2 tb => q_run h1 g1 wk hg hvs p1 hT tb⟩
theorem me_any (hg : GM c H0 vs g mg) (hvs : ∀ j ∈ vs, j < xs.length) (hT : T ∈ c.Ts.gs) (hr : Room (k + 1) X.A) (hc : X.calm = true) (hgl : Gl X "any") (hm : X.mg "any" = none) (hb : bootBuiltins "any" = some (.builtin "any")) (TB : LamX.TabB X.base X.mg cd T) (hcode : X.env.code = .ref cd) (L : Kg.GnS X.env.scope scope xs) (hM : Kg.mkB scope X.N M = true) (hN : ((".0" : Str) :: (xs ++ M)).Nodup) (hi : MI c F0 H0 W X tg iter mi)
    (hpg : ∀ (A : Around) (s : Shared) (H : Hp) (C : Addr) (code : Value) (fp : List Addr) (pn : List (Addr × Obj)), PG (Kg.genCx X A xs M s H (Kg.gEnv X scope C code) fp pn) tg g)
    (he : ∀ (A : Around) (s : Shared) (H : Hp) (C : Addr) (code : Value) (fp : List Addr) (pn : List (Addr × Obj)), Room k A → ME c F0 H0 W0 (Kg.genCx X A xs M s H (Kg.gEnv X scope C code) fp pn) elt te)
    (hs : ∀ v, genFold iter X.env v = pure v)
    (hst : starEach [.GeneratorExp elt [⟨tg, iter, [], 0⟩] scope gpos] X.env = (false, eval (.GeneratorExp elt [⟨tg, iter, [], 0⟩] scope gpos) X.env) :: starEach [] X.env := by rfl) :
    ME c F0 H0 W X (.Call (.Name "any" q) [.GeneratorExp elt [⟨tg, iter, [], 0⟩] scope gpos] [] pos) (mQ true mi mg te xs.length) := by
  refine pe_mono (Kg.pe_anyG hr hc hgl hm hb TB hcode L hM hN hi hpg he hs hst) fun σ H Q ⟨F, e, s, hh, p⟩ => ?_
  refine rd_mono (bindK hh p) fun J H1 ⟨F1, s1, ds, h1, g1, wk, p1⟩ => ?_
  exact ⟨h1.w.tg.g T hT, fun H2 tb => q_run h1 g1 wk hg hvs p1 hT tb⟩
end
end Mi
namespace Mi
open PySem PySem.Spec PyProof.Rows L2 Kt Kj
inductive Out where
  | nx (e : Env) (s : Sx) | rt (d : D) (s : Sx) | bk (e : Env) (s : Sx) | ct (e : Env) (s : Sx) | er (k : Ek) (e : Env) (s : Sx) | bad
abbrev Ms := Env → Sx → Out
def PostS (c : Cc) (F0 H0 : Hp) (W : WX) (F : Hp) (D : Ends) (o : Out) : Prop := match o with
  | .nx e s => ∀ σ F' H', Same F F' → Hold c F0 H0 e s σ F' H' → D.nx σ H'
  | .rt d s => ∀ v F' H', Same F F' → Wo c s F' H' → Go c F0 H0 F' H' → Rp c F' d v → D.rt v H'
  | .bk e s => ∀ σ F' H', Same F F' → Hold c F0 H0 e s σ F' H' → D.bk σ H'
  | .ct e s => ∀ σ F' H', Same F F' → Hold c F0 H0 e s σ F' H' → D.ct σ H'
  | .er k e s => ∀ σ F' H', Same F F' → Hold c F0 H0 e s σ F' H' → W (.ref (c.ca k)) none σ H'
  | .bad => False
def rdS (c : Cc) (F0 H0 : Hp) (W : WX) (m : Ms) : TS := fun D σ H => ∃ F e s, Hold c F0 H0 e s σ F H ∧ PostS c F0 H0 W F D (m e s)
abbrev MS (c : Cc) (F0 H0 : Hp) (W : WX) (X : Cx) (st : Stmt) (m : Ms) : Prop := PS X st (rdS c F0 H0 W m)
abbrev MSs (c : Cc) (F0 H0 : Hp) (W : WX) (X : Cx) (st : List Stmt) (m : Ms) : Prop := PSs X st (rdS c F0 H0 W m)
/-- an expression within a statement -/
def inE {α : Type} (m : Env → Sx → Res α) (k : Env → α → Sx → Out) : Ms := fun e s => match m e s with
  | .ok a s' => k e a s'
  | .er x s' => .er x e s'
  | .bad => .bad
section
variable {c : Cc} {F0 H0 F H : Hp} {W : WX} {σ : L2.St} {e : Env} {s : Sx} {α β : Type}
theorem PostS.same {D : Ends} {o : Out} {F1 : Hp} (p : PostS c F0 H0 W F D o) (h : Same F F1) : PostS c F0 H0 W F1 D o := by
  cases o with
  | nx e s => exact fun σ F' H' a b => p σ F' H' (h.trans a) b
  | rt d s => exact fun v F' H' a b => p v F' H' (h.trans a) b
  | bk e s => exact fun σ F' H' a b => p σ F' H' (h.trans a) b
  | ct e s => exact fun σ F' H' a b => p σ F' H' (h.trans a) b
  | er k e s => exact fun σ F' H' a b => p σ F' H' (h.trans a) b
  | bad => exact p
theorem bindS {R : Hp → Hp → Hp → α → β → Prop} {m : Env → Sx → Res α} {k : Env → α → Sx → Out} {D : Ends} (hh : Hold c F0 H0 e s σ F H) (p : PostS c F0 H0 W F D (inE m k e s)) :
    rd c F0 H0 W R m σ H (fun v H1 => ∃ F1 s1 x, Hold c F0 H0 e s1 σ F1 H1 ∧ Go c F H F1 H1 ∧ R H F1 H1 x v ∧ PostS c F0 H0 W F1 D (k e x s1)) := by
  refine ⟨F, e, s, hh, ?_⟩
  unfold inE at p
  cases q : m e s with
  | ok x s1 =>
    rw [q] at p
    exact fun v F1 H1 w1 g1 r1 => ⟨F1, s1, x, hh.go g1 w1, g1, r1, PostS.same p g1.same⟩
  | er k1 s1 =>
    rw [q] at p
    exact fun F' H' w g => p σ F' H' g.same (hh.go g w)
  | bad =>
    rw [q] at p
    exact p
theorem Hold.d0 (h : Hold c F0 H0 e s σ F H) {p : Addr} (n : H p = none) : H0 p = none := h.g.free n
end
/-! ### slots that change -/
def A.isBor : A → Bool
  | .bor _ => true
  | .exc _ => true
  | _ => false

section
variable {c : Cc} {F0 H0 F H F1 H1 : Hp} {W : WX} {σ : L2.St} {e : Env} {s s1 : Sx}
/-- a slot takes a value -/
theorem Hold.setA [hq : Dq c H0] {i : Nat} {a : A} {v : V} (h : Hold c F0 H0 e s σ F H) (g : Go c F H F1 H1) (w : Wo c s1 F1 H1) (r : RA c H0 H F1 H1 a v) (hb : a.isBor = false) : Hold c F0 H0 (e.set i (some a)) s1 (σ.set i (some v)) F1 H1 := by
  have h1 := h.go g w
  refine ⟨w, h1.g, ?_⟩
  by_cases hm : a.mine = true
  · obtain ⟨p, o, rfl, ho, _, nb, _, _⟩ := r.mine hm
    have n := h1.n
    have key : ∀ (j : Nat) (b : A), (e.set i (some a))[j]? = some (some b) → (j = i ∧ b = a ∧ j < e.length) ∨ (j ≠ i ∧ e[j]? = some (some b)) := fun j b hj => by
      by_cases z : j = i
      · subst z
        have hlt : j < e.length := by
          have := (List.getElem?_eq_some_iff.mp hj).1
          rwa [List.length_set] at this
        rw [List.getElem?_set_self hlt] at hj
        cases hj
        exact .inl ⟨rfl, rfl, hlt⟩
      · rw [List.getElem?_set_ne (Ne.symm z)] at hj
        exact .inr ⟨z, hj⟩
    have apart : ∀ (j : Nat) (b : A) (q : Addr), e[j]? = some (some b) → b.mine = true → σ[j]? = some (some (.ref q)) → q ≠ p := fun j b q hj hb hs z => by
      obtain ⟨v, e1, r1⟩ := h.n.at' j _ hj
      obtain ⟨q2, o2, rfl, h2, _⟩ := r1.mine hb
      rw [hs] at e1
      cases e1
      rw [z, nb] at h2
      cases h2
    refine ⟨by rw [List.length_set, List.length_set]; exact n.len, fun j b hj => ?_, fun j ys hj => ?_, fun j k b1 b2 q hj hk m1 m2 h3 h4 => ?_⟩
    · rcases key j b hj with ⟨rfl, rfl, hlt⟩ | ⟨z, hj⟩
      · exact ⟨_, List.getElem?_set_self (by rw [← n.len]; exact hlt), r.since fun p n => h.d0 n⟩
      · rw [List.getElem?_set_ne (Ne.symm z)]
        exact n.at' j b hj
    · rcases key j _ hj with ⟨_, z, _⟩ | ⟨z, hj⟩
      · rw [← z] at hm
        cases hm
      · exact n.nb j ys hj
    · rcases key j _ hj with ⟨z1, _, hlt⟩ | ⟨z1, hj2⟩
      · rcases key k _ hk with ⟨z2, _, hlt⟩ | ⟨z2, hk2⟩
        · exact z1.trans z2.symm
        · rw [z1, List.getElem?_set_self (by rw [← n.len, ← z1]; exact hlt)] at h3
          cases h3
          rw [List.getElem?_set_ne (Ne.symm z2)] at h4
          exact (apart k b2 p hk2 m2 h4 rfl).elim
      · rcases key k _ hk with ⟨z2, _, hlt⟩ | ⟨z2, hk2⟩
        · rw [z2, List.getElem?_set_self (by rw [← n.len, ← z2]; exact hlt)] at h4
          cases h4
          rw [List.getElem?_set_ne (Ne.symm z1)] at h3
          exact (apart j b1 p hj2 m1 h3 rfl).elim
        · rw [List.getElem?_set_ne (Ne.symm z1)] at h3
          rw [List.getElem?_set_ne (Ne.symm z2)] at h4
          exact n.ne j k b1 b2 q hj2 hk2 m1 m2 h3 h4
  · cases a with
    | d t => exact h1.n.setD r
    | bor xs => cases hb
    | exc k => cases hb
    | own xs => exact (hm rfl).elim
    | od o => exact (hm rfl).elim
/-- an object of one's own changes -/
theorem Hold.mutG {i : Nat} {a a' : A} {p : Addr} {o : HO} (h : Hold c F0 H0 e s σ F H) (hi : e[i]? = some (some a)) (hm : a.mine = true) (hm' : a'.mine = true) (hs : σ[i]? = some (some (.ref p))) (r' : RA c H0 H0 F (upd H p o) a' (.ref p)) : Hold c F0 H0 (e.set i (some a')) s σ F (upd H p o) := by
  obtain ⟨v, e1, r⟩ := h.n.at' i _ hi
  rw [hs] at e1
  cases e1
  obtain ⟨_, o0, e2, e3, pl, nb, nf, nd⟩ := r.mine hm
  cases e2
  have nt : ∀ ps, H p ≠ some (.tbl ps) := fun ps z => by
    rw [e3] at z
    cases z
    exact pl
  refine ⟨h.w.putM nf (fun u z => by rw [e3] at z; cases z; exact pl) nd, h.g.putM nb nt nd, ?_⟩
  have n := h.n
  have hlt : i < e.length := (List.getElem?_eq_some_iff.mp hi).1
  have key : ∀ (j : Nat) (b : A), (e.set i (some a'))[j]? = some (some b) → (j = i ∧ b = a') ∨ (j ≠ i ∧ e[j]? = some (some b)) := fun j b hj => by
    by_cases z : j = i
    · subst z
      rw [List.getElem?_set_self hlt] at hj
      cases hj
      exact .inl ⟨rfl, rfl⟩
    · rw [List.getElem?_set_ne (Ne.symm z)] at hj
      exact .inr ⟨z, hj⟩
  have old : ∀ (j : Nat) (b : A), (e.set i (some a'))[j]? = some (some b) → b.mine = true → ∃ b', e[j]? = some (some b') ∧ b'.mine = true := fun j b hj hb => by
    rcases key j _ hj with ⟨rfl, _⟩ | ⟨_, hj⟩
    · exact ⟨a, hi, hm⟩
    · exact ⟨b, hj, hb⟩
  refine ⟨by rw [List.length_set]; exact n.len, fun j b hj => ?_, fun j zs hj => ?_, fun j k b1 b2 q hj hk m1 m2 h3 h4 => ?_⟩
  · rcases key j b hj with ⟨rfl, rfl⟩ | ⟨z, hj⟩
    · exact ⟨_, hs, r'⟩
    · obtain ⟨v, e1, r1⟩ := n.at' j b hj
      refine ⟨v, e1, ?_⟩
      cases b with
      | d t => exact r1
      | bor t => exact (n.nb j t hj).elim
      | exc k => exact r1
      | own t =>
        obtain ⟨q, rfl, o2⟩ := r1
        obtain ⟨ts, e4, r4⟩ := o2.ex
        have hqp : q ≠ p := fun z2 => z (n.ne j i _ _ p hj hi rfl hm (by rw [← z2]; exact e1) hs)
        exact ⟨q, rfl, o2.nb, o2.nf, o2.nd, o2.len, ts, by rw [upd_ne hqp]; exact e4, r4⟩
      | od t =>
        obtain ⟨q, rfl, o2⟩ := r1
        obtain ⟨ts, e4, r4⟩ := o2.ex
        have hqp : q ≠ p := fun z2 => z (n.ne j i _ _ p hj hi rfl hm (by rw [← z2]; exact e1) hs)
        exact ⟨q, rfl, o2.nb, o2.nf, o2.nd, o2.len, ts, by rw [upd_ne hqp]; exact e4, r4⟩
  · rcases key j _ hj with ⟨_, z⟩ | ⟨_, hj⟩
    · rw [← z] at hm'
      cases hm'
    · exact n.nb j zs hj
  · obtain ⟨c1, hj, m1⟩ := old j b1 hj m1
    obtain ⟨c2, hk, m2⟩ := old k b2 hk m2
    exact n.ne j k c1 c2 q hj hk m1 m2 h3 h4
theorem Hold.mut {i : Nat} {xs ys : List D} {p : Addr} {vs : List V} (h : Hold c F0 H0 e s σ F H) (hi : e[i]? = some (some (.own xs))) (hs : σ[i]? = some (some (.ref p))) (r : RpL c F ys vs) (l : ys.length ≤ 1000000) : Hold c F0 H0 (e.set i (some (.own ys))) s σ F (upd H p (.lst vs)) := by
  obtain ⟨v, e1, r0⟩ := h.n.at' i _ hi
  rw [hs] at e1
  cases e1
  obtain ⟨_, _, e2, _, _, nb, nf, nd⟩ := RA.mine r0 rfl
  cases e2
  exact h.mutG hi rfl rfl hs ⟨p, rfl, nb, nf, nd, l, vs, upd_same, r⟩
/-- a slot's object is frozen -/
theorem Hold.freezeG {i : Nat} {a : A} {t : D} {p : Addr} {o : HO} (h : Hold c F0 H0 e s σ F H) (hi : e[i]? = some (some a)) (hm : a.mine = true) (hs : σ[i]? = some (some (.ref p))) (ho : H p = some o) (r' : F p = none → Rp c (upd F p o) t (.ref p)) : ∃ F1, Same F F1 ∧ Hold c F0 H0 (e.set i (some (.d t))) s σ F1 H := by
  obtain ⟨v, e1, r⟩ := h.n.at' i _ hi
  rw [hs] at e1
  cases e1
  obtain ⟨_, o0, e2, e3, pl, nb, nf, nd⟩ := r.mine hm
  cases e2
  rw [ho] at e3
  cases e3
  have n := h.n
  have hlt : i < e.length := (List.getElem?_eq_some_iff.mp hi).1
  refine ⟨upd F p o, same_updN nf, h.w.frz ho nf (.inl nd) (fun ps z => by rw [z] at pl; exact pl), h.g.frz nf nb, ?_⟩
  have key : ∀ (j : Nat) (b : A), (e.set i (some (A.d t)))[j]? = some (some b) → (j = i ∧ b = .d t) ∨ (j ≠ i ∧ e[j]? = some (some b)) := fun j b hj => by
    by_cases z : j = i
    · subst z
      rw [List.getElem?_set_self hlt] at hj
      cases hj
      exact .inl ⟨rfl, rfl⟩
    · rw [List.getElem?_set_ne (Ne.symm z)] at hj
      exact .inr ⟨z, hj⟩
  refine ⟨by rw [List.length_set]; exact n.len, fun j b hj => ?_, fun j zs hj => ?_, fun j k b1 b2 q hj hk m1 m2 h3 h4 => ?_⟩
  · rcases key j b hj with ⟨rfl, rfl⟩ | ⟨z, hj⟩
    · exact ⟨_, hs, r' nf⟩
    · obtain ⟨v, e4, r1⟩ := n.at' j b hj
      refine ⟨v, e4, ?_⟩
      cases b with
      | d t => exact rp_same (same_updN nf) _ _ r1
      | bor t => exact (n.nb j t hj).elim
      | exc k => exact r1
      | own t =>
        obtain ⟨q, rfl, o2⟩ := r1
        obtain ⟨ts, e5, r4⟩ := o2.ex
        have hqp : q ≠ p := fun z2 => z (n.ne j i _ _ p hj hi rfl hm (by rw [← z2]; exact e4) hs)
        exact ⟨q, rfl, o2.nb, by rw [upd_ne hqp]; exact o2.nf, o2.nd, o2.len, ts, e5, rpL_same (same_updN nf) _ _ r4⟩
      | od t =>
        obtain ⟨q, rfl, o2⟩ := r1
        obtain ⟨ts, e5, r4⟩ := o2.ex
        have hqp : q ≠ p := fun z2 => z (n.ne j i _ _ p hj hi rfl hm (by rw [← z2]; exact e4) hs)
        exact ⟨q, rfl, o2.nb, by rw [upd_ne hqp]; exact o2.nf, o2.nd, o2.len, ts, e5, r4.same (same_updN nf)⟩
  · rcases key j _ hj with ⟨_, z⟩ | ⟨_, hj⟩
    · cases z
    · exact n.nb j zs hj
  · rcases key j _ hj with ⟨_, z⟩ | ⟨_, hj⟩
    · rw [z] at m1
      cases m1
    rcases key k _ hk with ⟨_, z⟩ | ⟨_, hk⟩
    · rw [z] at m2
      cases m2
    exact n.ne j k b1 b2 q hj hk m1 m2 h3 h4
/-- a slot's list is frozen -/
theorem Hold.freeze {i : Nat} {xs : List D} (h : Hold c F0 H0 e s σ F H) (hi : e[i]? = some (some (.own xs))) : ∃ F1, Same F F1 ∧ Hold c F0 H0 (e.set i (some (.d (.lst xs)))) s σ F1 H := by
  obtain ⟨v, e1, p, rfl, o⟩ := h.n.at' i _ hi
  obtain ⟨vs, h3, r3⟩ := o.ex
  exact h.freezeG hi rfl e1 h3 fun nf => rp_lst.mpr ⟨o.len, p, vs, rfl, upd_same, rpL_same (same_updN nf) _ _ r3⟩
theorem rp_dct {c : Cc} {F : Hp} {ks : List Key} {ds : List D} {v : V} : Rp c F (.dct ks ds) v ↔ ds.length ≤ 1000000 ∧ ∃ a kvs, v = .ref a ∧ F a = some (.dK kvs) ∧ kvs.map (·.1) = ks ∧ RpL c F ds (kvs.map (·.2)) := by
  constructor
  · intro h; unfold Rp at h; exact h
  · intro h; unfold Rp; exact h
/-- a slot's dict is frozen -/
theorem Hold.freezeD {i : Nat} {kvs : List (Key × D)} (h : Hold c F0 H0 e s σ F H) (hi : e[i]? = some (some (.od (.k kvs)))) : ∃ F1, Same F F1 ∧ Hold c F0 H0 (e.set i (some (.d (.dct (kvs.map Prod.fst) (kvs.map Prod.snd))))) s σ F1 H := by
  obtain ⟨v, e1, p, rfl, o⟩ := h.n.at' i _ hi
  obtain ⟨ho, h3, ws, rfl, r3, r4⟩ := o.ex
  exact h.freezeG hi rfl e1 h3 fun nf => rp_dct.mpr ⟨by rw [List.length_map]; exact o.len, p, ws, rfl, upd_same, r3, rpL_same (same_updN nf) _ _ r4⟩
end
/-! ### blocks and small statements -/
def mNil : Ms := fun e s => .nx e s
def mSeq (m1 m2 : Ms) : Ms := fun e s => match m1 e s with
  | .nx e s => m2 e s
  | o => o
section
variable {c : Cc} {F0 H0 : Hp} {W : WX} {X : Cx} {pos : Pos} {a b : Expr} {st : Stmt} {rest es' : List Stmt} {m m1 m2 : Ms} {me : Mv} {t : Mb} [hq : Dq c H0]
theorem mss_nil : MSs c F0 H0 W X [] mNil := pss_mono pss_nil fun D σ H ⟨F, e, s, h, p⟩ => p σ F H (Same.refl _) h
theorem mss_one (h : MS c F0 H0 W X st m) : MSs c F0 H0 W X [st] m := pss_one h
theorem mss_cons (h1 : MS c F0 H0 W X st m1) (h2 : MSs c F0 H0 W X rest m2) : MSs c F0 H0 W X (st :: rest) (mSeq m1 m2) := by
  refine pss_mono (pss_cons h1 h2) fun D σ H ⟨F, e, s, h, p⟩ => ⟨F, e, s, h, ?_⟩
  unfold mSeq at p
  cases q : m1 e s with
  | nx e1 s1 =>
    rw [q] at p
    exact fun σ' F' H' sm hh => ⟨F', e1, s1, hh, PostS.same p sm⟩
  | rt d s1 => rw [q] at p; exact p
  | bk e1 s1 => rw [q] at p; exact p
  | ct e1 s1 => rw [q] at p; exact p
  | er k e1 s1 => rw [q] at p; exact p
  | bad => rw [q] at p; exact p
/-- a slot's list is frozen ahead of the rest -/
def mFrz (i : Nat) (m : Ms) : Ms := fun e s => match e[i]? with
  | some (some (.own xs)) => m (e.set i (some (.d (.lst xs)))) s
  | some (some (.od (.k kvs))) => m (e.set i (some (.d (.dct (kvs.map Prod.fst) (kvs.map Prod.snd))))) s
  | _ => m e s
theorem rdS_frz {i : Nat} {D : Ends} {σ : L2.St} {H : Hp} (h : rdS c F0 H0 W (mFrz i m) D σ H) : rdS c F0 H0 W m D σ H := by
  obtain ⟨F, e, s, hh, p⟩ := h
  unfold mFrz at p
  split at p
  · rename_i xs hi
    obtain ⟨F1, sm, h1⟩ := hh.freeze hi
    exact ⟨F1, _, s, h1, PostS.same p sm⟩
  · rename_i kvs hi
    obtain ⟨F1, sm, h1⟩ := hh.freezeD hi
    exact ⟨F1, _, s, h1, PostS.same p sm⟩
  · exact ⟨F, e, s, hh, p⟩
theorem ms_frz (i : Nat) (h : MS c F0 H0 W X st m) : MS c F0 H0 W X st (mFrz i m) := ps_mono h fun D σ H => rdS_frz
theorem mss_frz (i : Nat) (h : MSs c F0 H0 W X rest m) : MSs c F0 H0 W X rest (mFrz i m) := pss_mono h fun D σ H => rdS_frz
theorem ms_pass : MS c F0 H0 W X (.Pass pos) mNil := ps_mono ps_pass fun D σ H ⟨F, e, s, h, p⟩ => p σ F H (Same.refl _) h
def mBreak : Ms := fun e s => .bk e s
def mCont : Ms := fun e s => .ct e s
theorem ms_break : MS c F0 H0 W X (.Break pos) mBreak := ps_mono ps_break fun D σ H ⟨F, e, s, h, p⟩ => p σ F H (Same.refl _) h
theorem ms_continue : MS c F0 H0 W X (.Continue pos) mCont := ps_mono ps_continue fun D σ H ⟨F, e, s, h, p⟩ => p σ F H (Same.refl _) h
def mDrop (m : Mv) : Ms := inE m fun e _ s => .nx e s
theorem ms_expr (he : ME c F0 H0 W X a me) (hs : swapsWith a none pos.line X.env = pure false := by rfl) : MS c F0 H0 W X (.Expr a pos) (mDrop me) := by
  refine ps_mono (ps_expr he hs) fun D σ H ⟨F, e, s, hh, p⟩ => ?_
  exact rd_mono (bindS hh p) fun v H1 ⟨F1, s1, x, h1, g1, r1, p1⟩ => p1 σ F1 H1 (Same.refl _) h1
def mRet (m : Mv) : Ms := inE m fun _ a s => .rt a.v s
theorem ms_ret (he : ME c F0 H0 W X a me) : MS c F0 H0 W X (.Return (some a) pos) (mRet me) := by
  refine ps_mono (ps_ret he) fun D σ H ⟨F, e, s, hh, p⟩ => ?_
  refine rd_mono (bindS hh p) fun v H1 ⟨F1, s1, x, h1, g1, r1, p1⟩ => ?_
  cases x with
  | d t => exact p1 v F1 H1 (Same.refl _) h1.w h1.g r1
  | own xs =>
    obtain ⟨q, rfl, o⟩ := r1
    obtain ⟨F2, w2, s2, g2, r2⟩ := frzOwn (c := c) (Hb := H) h1.w o (Same.refl _)
    exact p1 _ F2 H1 s2 w2 (hh.g.trans (g2 _ g1)) r2
  | bor xs =>
    obtain ⟨q, rfl, o⟩ := r1
    obtain ⟨F2, w2, s2, g2, r2⟩ := frzOwn (c := c) (Hb := H0) h1.w o (Same.refl _)
    exact p1 _ F2 H1 s2 w2 (g2 _ h1.g) r2
  | exc k =>
    refine p1 _ F1 H1 (Same.refl _) h1.w h1.g ?_
    show Rp c F1 .bot v
    unfold Rp
    trivial
  | od o =>
    refine p1 _ F1 H1 (Same.refl _) h1.w h1.g ?_
    show Rp c F1 .bot v
    unfold Rp
    trivial
def mRetN : Ms := fun _ s => .rt .non s
theorem ms_retN : MS c F0 H0 W X (.Return none pos) mRetN := ps_mono ps_retN fun D σ H ⟨F, e, s, h, p⟩ => p _ F H (Same.refl _) h.w h.g (rp_non.mpr rfl)
def mCond (t : Mb) (m1 m2 : Ms) : Ms := inE t fun e k s => if k = true then m1 e s else m2 e s
theorem ms_if {u : Expr} {sa sb : List Stmt} (ht : MT c F0 H0 W X u t) (ha : MSs c F0 H0 W X sa m1) (hb : MSs c F0 H0 W X sb m2) : MS c F0 H0 W X (.If u sa sb pos) (mCond t m1 m2) := by
  refine ps_mono (ps_if ht ha hb) fun D σ H ⟨F, e, s, hh, p⟩ => ?_
  refine rd_mono (bindS hh p) fun v H1 ⟨F1, s1, x, h1, g1, r1, p1⟩ => ?_
  cases r1
  cases v with
  | true => exact ⟨F1, e, s1, h1, p1⟩
  | false => exact ⟨F1, e, s1, h1, p1⟩
/-! names set -/
def mSet (i : Nat) (m : Mv) : Ms := inE m fun e a s => if a.isBor = true then .bad else .nx (e.set i (some a)) s
theorem ms_set {i : Nat} {x : Str} {pos' : Pos} (hN : X.N.Nodup) (hi : X.N[i]? = some x) (hx : Loc X.env.scope x) (he : ME c F0 H0 W X a me) (hs : swapsWith a (some (.Name x pos')) pos.line X.env = pure false := by rfl) (hf : X.fn x = true ∨ X.env.scope.names.lookup x = some .local := by first | exact .inl rfl | exact .inr rfl | assumption) :
    MS c F0 H0 W X (.Assign [.Name x pos'] a pos) (mSet i me) := by
  refine ps_mono (ps_set hN hi hx he hs hf) fun D σ H ⟨F, e, s, hh, p⟩ => ?_
  refine rd_mono (bindS hh p) fun v H1 ⟨F1, s1, y, h1, g1, r1, p1⟩ => ?_
  try dsimp only at p1
  split at p1
  · exact p1.elim
  · rename_i hb
    exact p1 _ F1 H1 (Same.refl _) (hh.setA g1 h1.w r1 (by simpa using hb))
theorem lc_sound {mi : Mi'} {g : TG} {mg : Gm} {tt : Mb} {te : Mv} {vs : List Nat} {σ : L2.St} {H : Hp} {Q : VK} (hg : GM c H0 vs g mg) (h : rd c F0 H0 W (fun Hb F H a v => RA c H0 Hb F H a v) (mLc mi mg tt te vs) σ H Q) :
    tLc (rd c F0 H0 W (RI c) mi) g (rd c F0 H0 W0 (fun _ _ _ a v => a = v) tt) (rd c F0 H0 W0 (fun Hb F H a v => RA c H0 Hb F H a v) te) vs σ H Q := by
  obtain ⟨F, e, s, hh, p⟩ := h
  refine rd_mono (bindK hh p) fun J H1 ⟨F1, s1, ds, h1, g1, wk, p1⟩ => ?_
  exact fun Dn nD => lc_run h1 g1 wk hg p1 nD
theorem ms_setLc {i : Nat} {y : Str} {py spos : Pos} {elt tg iter : Expr} {ifs : List Expr} {scope : Scope} {own : List (Str × Nat)} {mi : Mi'} {g : TG} {mg : Gm} {tt : Mb} {te : Mv} (hg : GM c H0 (own.map (·.2)) g mg) (hc : X.calm = true) (hN : X.N.Nodup) (hy : X.N[i]? = some y) (hyl : X.env.scope.names.lookup y = some .local)
    (hsw : swapsWith (.ListComp elt [⟨tg, iter, ifs, 0⟩] scope pos) (some (.Name y py)) spos.line X.env = pure true) (hi : MI c F0 H0 W X tg iter mi) (ok : BlkOk X.N X.env.scope scope own)
    (hpg : ∀ (s : Shared) (H : Hp) (C : Addr) (cl : List (Str × Addr)) (fp : List Addr), PG (X.blk s H scope (compEnvC scope cl C X.env) fp) tg g) (ht : ∀ (s : Shared) (H : Hp) (C : Addr) (cl : List (Str × Addr)) (fp : List Addr), MTs c F0 H0 W0 (X.blk s H scope (compEnvC scope cl C X.env) fp) ifs tt)
    (he : ∀ (s : Shared) (H : Hp) (C : Addr) (cl : List (Str × Addr)) (fp : List Addr), ME c F0 H0 W0 (X.blk s H scope (compEnvC scope cl C X.env) fp) elt te) (hs : ∀ x, foldedSetIterable iter X.env x = pure x := by intro _; rfl) :
    MS c F0 H0 W X (.Assign [.Name y py] (.ListComp elt [⟨tg, iter, ifs, 0⟩] scope pos) spos) (mSet i (mLc mi mg tt te (own.map (·.2)))) := by
  refine ps_mono (ps_setLc hc hN hy hyl hsw hi ok hpg ht he hs) fun D σ H ⟨F, e, s, hh, p⟩ => ?_
  refine lc_sound hg (rd_mono (bindS hh p) fun v H1 ⟨F1, s1, y, h1, g1, r1, p1⟩ => ?_)
  try dsimp only at p1
  split at p1
  · exact p1.elim
  · rename_i hb
    exact p1 _ F1 H1 (Same.refl _) (hh.setA g1 h1.w r1 (by simpa using hb))
def mAsg (m : Mv) (g : Gm) : Ms := inE m fun e a s => match a.toD with
  | none => .bad
  | some d => match g d e with
    | none => .bad
    | some e1 => .nx e1 s
theorem ms_asg {tg : Expr} {g : TG} {mg : Gm} {vs : List Nat} (hg : GM c H0 vs g mg) (he : ME c F0 H0 W X a me) (hp : PG X tg g) (hs : swapsWithSole [tg] a pos.line X.env = pure false := by rfl) (hw : swappedStores [tg] a X.env = pure none := by rfl)
    (h1 : (assignEach [tg] X.env).map (·.2) = [assign tg X.env] := by rfl) : MS c F0 H0 W X (.Assign [tg] a pos) (mAsg me mg) := by
  refine ps_mono (ps_asg he hp hs hw h1) fun D σ H ⟨F, e, s, hh, p⟩ => ?_
  refine rd_mono (bindS hh p) fun v H1 ⟨F1, s1, y, h1, g1, r1, p1⟩ => ?_
  cases ed : y.toD with
  | none => rw [ed] at p1; exact p1.elim
  | some d =>
    rw [ed] at p1
    cases eg : mg d e with
    | none => dsimp only at p1; rw [eg] at p1; exact p1.elim
    | some e1 =>
      try dsimp only at p1
      rw [eg] at p1
      obtain ⟨F2, w2, s2, g2, r2⟩ := frz1 h1.w r1 (Same.refl _) ed
      have gA := g2 _ g1
      have h2 := hh.go gA w2
      exact hg w2 h2.n r2 eg fun σ' n' _ _ => p1 σ' F2 H1 s2 ⟨w2, h2.g, n'⟩
def mPar (i j : Nat) (ms : List Mv) : Ms := inE (mArgs ms) fun e as s => match toDs as with
  | some [x, y] => .nx ((e.set i (some (.d x))).set j (some (.d y))) s
  | _ => .bad
theorem ms_par {i j : Nat} {x y : Str} {px py pt : Pos} {kt k2 pt2} {ms : List Mv} (hc : X.calm = true) (hN : X.N.Nodup) (hi : X.N[i]? = some x) (hj : X.N[j]? = some y) (hij : i ≠ j)
    (hx : X.env.scope.names.lookup x = some .local) (hy : X.env.scope.names.lookup y = some .local) (ha : MA c F0 H0 W X [a, b] (mArgs ms))
    (hw : swappedStores [.Tuple [.Name x px, .Name y py] kt pt] (.Tuple [a, b] k2 pt2) X.env = pure (some [x, y]))
    (hs : swapsWithSole [.Tuple [.Name x px, .Name y py] kt pt] (.Tuple [a, b] k2 pt2) pos.line X.env = pure false := by rfl) :
    MS c F0 H0 W X (.Assign [.Tuple [.Name x px, .Name y py] kt pt] (.Tuple [a, b] k2 pt2) pos) (mPar i j ms) := by
  refine ps_mono (ps_par hc hN hi hj hij hx hy ha hw hs) fun D σ H ⟨F, e, s, hh, p⟩ => ?_
  refine rd_mono (bindS hh p) fun v H1 ⟨F1, s1, as, h1, g1, r1, p1⟩ => ?_
  try dsimp only at p1
  split at p1
  · rename_i d1 d2 ed
    obtain ⟨F2, w2, s2, g2, r2⟩ := frzAll h1.w r1 (Same.refl _) ed
    obtain ⟨v1, q1, rfl, ra, r3⟩ := rpL_cons.mp r2
    obtain ⟨v2, q2, rfl, rb, r4⟩ := rpL_cons.mp r3
    cases rpL_nil.mp r4
    have h2 := hh.go (g2 _ g1) w2
    exact ⟨v1, v2, rfl, p1 _ F2 H1 s2 ⟨w2, h2.g, (h2.n.setD ra).setD rb⟩⟩
  · exact p1.elim
def mPar3 (i j l : Nat) (ms : List Mv) : Ms := inE (mArgs ms) fun e as s => match toDs as with
  | some [x, y, z] => .nx (((e.set i (some (.d x))).set j (some (.d y))).set l (some (.d z))) s
  | _ => .bad
theorem ms_par3 {i j l : Nat} {x y z : Str} {b2 : Expr} {px py pz pt : Pos} {kt k2 pt2} {ms : List Mv} (hc : X.calm = true) (hN : X.N.Nodup) (hi : X.N[i]? = some x) (hj : X.N[j]? = some y) (hl : X.N[l]? = some z) (hij : i ≠ j) (hil : i ≠ l) (hjl : j ≠ l)
    (hx : X.env.scope.names.lookup x = some .local) (hy : X.env.scope.names.lookup y = some .local) (hz : X.env.scope.names.lookup z = some .local) (ha : MA c F0 H0 W X [a, b, b2] (mArgs ms))
    (hw : swappedStores [.Tuple [.Name x px, .Name y py, .Name z pz] kt pt] (.Tuple [a, b, b2] k2 pt2) X.env = pure (some [x, y, z]))
    (hs : swapsWithSole [.Tuple [.Name x px, .Name y py, .Name z pz] kt pt] (.Tuple [a, b, b2] k2 pt2) pos.line X.env = pure false := by rfl) :
    MS c F0 H0 W X (.Assign [.Tuple [.Name x px, .Name y py, .Name z pz] kt pt] (.Tuple [a, b, b2] k2 pt2) pos) (mPar3 i j l ms) := by
  refine ps_mono (ps_par3 hc hN hi hj hl hij hil hjl hx hy hz ha hw hs) fun D σ H ⟨F, e, s, hh, p⟩ => ?_
  refine rd_mono (bindS hh p) fun v H1 ⟨F1, s1, as, h1, g1, r1, p1⟩ => ?_
  try dsimp only at p1
  split at p1
  · rename_i d1 d2 d3 ed
    obtain ⟨F2, w2, s2, g2, r2⟩ := frzAll h1.w r1 (Same.refl _) ed
    obtain ⟨v1, q1, rfl, ra, r3⟩ := rpL_cons.mp r2
    obtain ⟨v2, q2, rfl, rb, r4⟩ := rpL_cons.mp r3
    obtain ⟨v3, q3, rfl, rc, r5⟩ := rpL_cons.mp r4
    cases rpL_nil.mp r5
    have h2 := hh.go (g2 _ g1) w2
    exact ⟨v1, v2, v3, rfl, p1 _ F2 H1 s2 ⟨w2, h2.g, ((h2.n.setD ra).setD rb).setD rc⟩⟩
  · exact p1.elim
/-- name op= e, of numbers -/
def mAug (i : Nat) (f : Int → Int → Int) (m : Mv) : Ms := fun e s => match e[i]? with
  | some (some (.d (.int x))) => inE m (fun e a s1 => match a with
    | .d (.int y) => .nx (e.set i (some (.d (.int (f x y))))) s1
    | _ => .bad) e s
  | _ => .bad
theorem ms_aug {i : Nat} {x : Str} {op : Operator} {f : Int → Int → Int} {pos' : Pos} (hN : X.N.Nodup) (hi : X.N[i]? = some x) (hx : Loc X.env.scope x) (he : ME c F0 H0 W X a me) (ho : PIp X op (ipI f)) (hf : X.fn x = true ∨ X.env.scope.names.lookup x = some .local := by first | exact .inl rfl | exact .inr rfl | assumption) :
    MS c F0 H0 W X (.AugAssign (.Name x pos') op a pos) (mAug i f me) := by
  refine ps_mono (ps_aug hN hi hx he ho hf) fun D σ H ⟨F, e, s, hh, p⟩ => ?_
  unfold mAug at p
  split at p
  · rename_i k hk
    obtain ⟨v, ev, r⟩ := hh.n.at' i _ hk
    cases rp_int.mp (show Rp c F _ v from r)
    refine ⟨_, ev, rd_mono (bindS hh p) fun v H1 ⟨F1, s1, y, h1, g1, r1, p1⟩ => ?_⟩
    try dsimp only at p1
    split at p1
    · rename_i j
      cases rp_int.mp (show Rp c F1 _ v from r1)
      exact ⟨k, j, rfl, rfl, p1 _ F1 H1 (Same.refl _) ⟨h1.w, h1.g, h1.n.setD (rp_int.mpr rfl)⟩⟩
    · exact p1.elim
  · exact p.elim
/-! lists of one's own -/
def mApp (i : Nat) (m : Mv) : Ms := fun e s => match e[i]? with
  | some (some (.own xs)) => inE m (fun e a s1 => match a.toD with
    | none => .bad
    | some d => if xs.length < 1000000 then .nx (e.set i (some (.own (xs ++ [d])))) s1 else .bad) e s
  | _ => .bad
theorem ms_append {i : Nat} {o : Expr} {apos : Pos} (hK : X.K = c.K) (ho : PE X o (tVar i)) (he : ME c F0 H0 W X a me)
    (hP : ∀ {to : TE} {t : TA}, PE X o to → PA X [a] t → PE X (.Call (.Attribute o "append" apos) [a] [] pos) (tBM X.K "list" rAppend to t)) {sp : Pos}
    (hs : starEach [a] X.env = (false, eval a X.env) :: starEach [] X.env := by rfl) (hsw : swapsWith (.Call (.Attribute o "append" apos) [a] [] pos) none sp.line X.env = pure false := by rfl) :
    MS c F0 H0 W X (.Expr (.Call (.Attribute o "append" apos) [a] [] pos) sp) (mApp i me) := by
  refine ps_mono (ps_expr (hP ho (pa_cons he pa_nil hs)) hsw) fun D σ H ⟨F, e, s, hh, p⟩ => ?_
  unfold mApp at p
  split at p
  · rename_i xs hi
    obtain ⟨v, ev, q, rfl, ow⟩ := hh.n.at' i _ hi
    obtain ⟨vs, hv, rv⟩ := ow.ex
    refine ⟨_, ev, .inl ⟨rfl, _, SqL.of hv⟩, rd_mono (bindS hh p) fun v H1 ⟨F1, s1, y, h1, g1, r1, p1⟩ => ?_⟩
    try dsimp only at p1
    cases ed : y.toD with
    | none => rw [ed] at p1; exact p1.elim
    | some d =>
      rw [ed] at p1
      try dsimp only at p1
      split at p1
      · rename_i hl
        obtain ⟨F2, w2, s2, g2, r2⟩ := frz1 h1.w r1 (Same.refl _) ed
        have gA := g2 _ g1
        have h2 := hh.go gA w2
        refine ⟨q, vs, v, rfl, rfl, gA.keep _ _ hv ow.nd (fun ps z => by cases z), by rw [rv.len]; exact Nat.lt_trans hl big, ?_⟩
        exact p1 _ F2 _ s2 (h2.mut hi ev ((rpL_same gA.same _ _ rv).app (RpL.one r2)) (by rw [List.length_append]; show xs.length + 1 ≤ 1000000; omega))
      · exact p1.elim
  · exact p.elim
/-- the place of an item -/
def mPut (i : Nat) (mk m : Mv) : Ms := inE m fun e a s1 => match a.toD with
  | none => .bad
  | some d => match e[i]? with
    | some (some (.own xs)) => inE mk (fun e k s2 => match asI k with
      | some k => match ixN xs.length k with
        | some j => .nx (e.set i (some (.own (xs.set j d)))) s2
        | none => .bad
      | none => .bad) e s1
    | _ => .bad
theorem asI_some {c : Cc} {H0 Hb F H : Hp} {a : A} {v : V} {k : Int} (h : asI a = some k) (r : RA c H0 Hb F H a v) : v = .int k := by
  unfold asI at h
  split at h
  · cases h
    exact rp_int.mp (show Rp c F _ v from r)
  · cases h
theorem ms_put {i : Nat} {o k : Expr} {mk : Mv} {kpos : Pos} (ho : PE X o (tVar i)) (hk : ME c F0 H0 W X k mk) (he : ME c F0 H0 W X a me)
    (ha : ∀ v, assign (.Subscript o k kpos) X.env v = (do
      let ov ← holding [v] (eval o X.env)
      let iv ← holding [v, ov] (eval k X.env)
      standAt kpos
      holding [v, ov, iv] (setItem ov iv v)
      release [v, ov, iv] []) := by intro _; rfl) (hs : swapsWithSole [.Subscript o k kpos] a pos.line X.env = pure false := by rfl) (hw : swappedStores [.Subscript o k kpos] a X.env = pure none := by rfl)
    (h1 : (assignEach [.Subscript o k kpos] X.env).map (·.2) = [assign (.Subscript o k kpos) X.env] := by rfl) :
    MS c F0 H0 W X (.Assign [.Subscript o k kpos] a pos) (mPut i mk me) := by
  refine ps_mono (ps_asg he (pg_sub ho hk set_list ha) hs hw h1) fun D σ H ⟨F, e, s, hh, p⟩ => ?_
  refine rd_mono (bindS hh p) fun v H1 ⟨F1, s1, y, h1, g1, r1, p1⟩ => ?_
  cases ed : y.toD with
  | none => rw [ed] at p1; exact p1.elim
  | some d =>
    rw [ed] at p1
    try dsimp only at p1
    split at p1
    · rename_i xs hi
      obtain ⟨F2, w2, s2, g2, r2⟩ := frz1 h1.w r1 (Same.refl _) ed
      have gA := g2 _ g1
      have h2 := hh.go gA w2
      obtain ⟨v', ev, q, rfl, ow⟩ := h2.n.at' i _ hi
      obtain ⟨vs, hv, rv⟩ := ow.ex
      refine ⟨_, ev, rd_mono (bindS h2 (PostS.same p1 s2)) fun kv H2 ⟨F3, s3, kz, h3, g3, r3, p3⟩ => ?_⟩
      try dsimp only at p3
      split at p3
      · rename_i kk ek
        split at p3
        · rename_i j hj
          refine ⟨q, vs, kk, j, rfl, asI_some ek r3, g3.keep _ _ hv ow.nd (fun ps z => by cases z), by rw [rv.len]; exact hj, ?_⟩
          exact p3 _ F3 _ (Same.refl _) (h3.mut hi ev ((rpL_same g3.same _ _ rv).set j (rp_same g3.same _ _ r2)) (by
            rw [List.length_set]
            exact ow.len))
        · exact p3.elim
      · exact p3.elim
    · exact p1.elim
/-- xs[k] op= e, of numbers -/
def mAugI (i : Nat) (f : Int → Int → Int) (mk m : Mv) : Ms := fun e s => match e[i]? with
  | some (some (.own xs)) => inE mk (fun e k s1 => match asI k with
    | some k => match ixN xs.length k with
      | some j => match xs[j]? with
        | some (.int x) => inE m (fun e a s2 => match asI a with
          | some y => .nx (e.set i (some (.own (xs.set j (.int (f x y)))))) s2
          | none => .bad) e s1
        | _ => .bad
      | none => .bad
    | none => .bad) e s
  | _ => .bad
theorem get_list (hK : X.K = c.K) : PGet X (rIxL c.K) := by
  intro pins s σ H x y v u Q I rx ry h
  obtain ⟨p, xs, i, z, rfl, rfl, hq, he, q⟩ := h
  rw [← hK] at hq
  cases rx
  obtain ⟨t, rfl⟩ := ry
  obtain ⟨its, r, pl, hz⟩ := I.list hq
  obtain ⟨j, h1, h2, h3, h4, h5⟩ := atI_get he
  obtain ⟨w, ew, rw'⟩ := r.get h2
  have hl := r.length
  have hn := line63
  have fin : EP X pins σ Q w s := ⟨z, H, I, rw', q⟩
  by_cases h0 : 0 ≤ i
  · have hj : i.toNat = j := by
      rw [seqIndex_of h0 h5] at h1
      exact Option.some.inj h1
    exact wpAny_getItem_list pl.isList h0 (by omega) (by rw [hj]; simpa using ew) fin
  · have hj : (i + (its.toArray.size : Int)).toNat = j := by
      rw [seqIndex_neg (by omega) h4] at h1
      rw [List.size_toArray, ← hl]
      exact Option.some.inj h1
    exact wpAny_getItem_list_neg pl.isList (by omega) (by rw [List.size_toArray] <;> omega) (by omega) (by rw [hj]; simpa using ew) fin
theorem ms_augI {i : Nat} {o k : Expr} {mk : Mv} {op : Operator} {f : Int → Int → Int} {kpos : Pos} (hK : X.K = c.K) (ho : PE X o (tVar i)) (hk : ME c F0 H0 W X k mk) (he : ME c F0 H0 W X a me) (hp : PIp X op (ipI f))
    (ha : ∀ ov iv new, augStore k ov iv new = (do holding [new, ov, iv] (setItem ov iv new); release [new, ov, iv] []; pure .next) := by intros; rfl) : MS c F0 H0 W X (.AugAssign (.Subscript o k kpos) op a pos) (mAugI i f mk me) := by
  refine ps_mono (ps_augS ho hk (get_list hK) he hp set_list ha) fun D σ H ⟨F, e, s, hh, p⟩ => ?_
  unfold mAugI at p
  split at p
  · rename_i xs hi
    obtain ⟨v', ev, q, rfl, ow⟩ := hh.n.at' i _ hi
    obtain ⟨vs, hv, rv⟩ := ow.ex
    refine ⟨_, ev, rd_mono (bindS hh p) fun kv H1 ⟨F1, s1, y, h1, g1, r1, p1⟩ => ?_⟩
    try dsimp only at p1
    have hv1 := g1.keep _ _ hv ow.nd (fun ps z => by cases z)
    split at p1
    · rename_i kk ek
      split at p1
      · rename_i j hj
        split at p1
        · rename_i x hx
          obtain ⟨w, ew, rw⟩ := rv.at j hx
          cases rp_int.mp rw
          refine ⟨q, vs, kk, _, rfl, asI_some ek r1, SqL.of hv1, by unfold atI; rw [rv.len, hj]; exact ew, rd_mono (bindS h1 p1) fun yv H2 ⟨F2, s2, z, h2, g2, r2, p2⟩ => ?_⟩
          try dsimp only at p2
          split at p2
          · rename_i yy ey
            refine ⟨x, yy, rfl, asI_some ey r2, q, vs, kk, j, rfl, asI_some ek r1, g2.keep _ _ hv1 ow.nd (fun ps z => by cases z), by rw [rv.len]; exact hj, ?_⟩
            exact p2 _ F2 _ (Same.refl _) (h2.mut hi ev ((rpL_same (g1.same.trans g2.same) _ _ rv).set j (rp_int.mpr rfl)) (by rw [List.length_set]; exact ow.len))
          · exact p2.elim
        · exact p1.elim
      · exact p1.elim
    · exact p1.elim
  · exact p.elim
end
end Mi
namespace Mi
open PySem PySem.Spec PyProof.Rows L2 Kt Kj
/-! ### loops -/
def forM (g : Gm) (b : Ms) : List D → Ms
  | [], e, s => .nx e s
  | d :: ds, e, s => match g d e with
    | none => .bad
    | some e1 => match b e1 s with
      | .nx e2 s2 => forM g b ds e2 s2
      | .ct e2 s2 => forM g b ds e2 s2
      | .bk e2 s2 => .nx e2 s2
      | .rt d s2 => .rt d s2
      | .er k e2 s2 => .er k e2 s2
      | .bad => .bad
def mFor (mi : Mi') (g : Gm) (b : Ms) : Ms := inE mi fun e ds s => forM g b ds e s
def whM (t : Mb) (b : Ms) : Nat → Ms
  | 0, _, _ => .bad
  | n + 1, e, s => inE t (fun e k s1 => if k = true then match b e s1 with
      | .nx e2 s2 => whM t b n e2 s2
      | .ct e2 s2 => whM t b n e2 s2
      | .bk e2 s2 => .nx e2 s2
      | .rt d s2 => .rt d s2
      | .er k e2 s2 => .er k e2 s2
      | .bad => .bad
    else .nx e s1) e s
section
variable {c : Cc} {F0 H0 : Hp} {W : WX} {X : Cx} {pos : Pos} {a : Expr} {m1 m2 b : Ms} {me : Mv} {t : Mb} [hq : Dq c H0]
theorem ms_for {iter tg : Expr} {body : List Stmt} {mi : Mi'} {g : TG} {mg : Gm} {vs : List Nat} (hg : GM c H0 vs g mg) (hp : PassesOwn (model X.prog X.w) X.A X.env X.xe) (hc : X.calm = true) (hi : MI c F0 H0 W X tg iter mi) (hpg : PG X tg g) (hb : MSs c F0 H0 W X body b)
    (hs : ∀ x, foldedSetIterable iter X.env x = pure x := by intro _; rfl) : MS c F0 H0 W X (.For tg iter body [] pos) (mFor mi mg b) := by
  refine ps_mono (ps_for hp hc hi hpg hb hs) fun D σ H ⟨F, e, s, hh, p⟩ => ?_
  refine rd_mono (bindS hh p) fun J H1 ⟨F1, s1, ds, h1, g1, wk, p1⟩ => ?_
  refine ⟨fun i m σ H => m = ds.length - i ∧ i ≤ ds.length ∧ ∃ (Fc : Hp) (ec : Env) (sc : Sx), Same F1 Fc ∧ Hold c F0 H0 ec sc σ Fc H ∧ PostS c F0 H0 W Fc D (forM mg b (ds.drop i) ec sc), ⟨ds.length, by simp, Nat.zero_le _, F1, e, s1, Same.refl _, h1, p1⟩, ?_⟩
  rintro i m σc Hc ⟨rfl, hi, Fc, ec, sc, smc, hc', pc⟩
  by_cases hlt : i < ds.length
  · have e1 : ds.drop i = ds[i] :: ds.drop (i + 1) := List.drop_eq_getElem_cons hlt
    rw [e1] at pc
    unfold forM at pc
    obtain ⟨jg, jy⟩ := wk.go hc'.w hc'.dq smc i ds[i] (List.getElem?_eq_getElem hlt)
    refine .inr ⟨jg, fun σ' H' => ∃ (Fc : Hp) (ec : Env) (sc : Sx), Same F1 Fc ∧ Hold c F0 H0 ec sc σ' Fc H' ∧ PostS c F0 H0 W Fc D (forM mg b (ds.drop (i + 1)) ec sc), fun σ' H' hN => ⟨ds.length - (i + 1), by omega, rfl, hlt, hN⟩, fun x H' y => ?_⟩
    obtain ⟨Fy, wy, gy, ry⟩ := jy x H' y
    have hy := hc'.go gy wy
    cases eg : mg ds[i] ec with
    | none => rw [eg] at pc; exact pc.elim
    | some e2 =>
      rw [eg] at pc
      refine hg wy hy.n ry eg fun σ2 n2 l2 k2 => ⟨Fy, e2, sc, ⟨wy, hy.g, n2⟩, ?_⟩
      have pc := PostS.same pc gy.same
      dsimp only at pc
      cases q : b e2 sc with
      | nx e3 s3 =>
        rw [q] at pc
        exact fun σ' F' H' sm h => ⟨F', e3, s3, smc.trans (gy.same.trans sm), h, PostS.same pc sm⟩
      | ct e3 s3 =>
        rw [q] at pc
        exact fun σ' F' H' sm h => ⟨F', e3, s3, smc.trans (gy.same.trans sm), h, PostS.same pc sm⟩
      | bk e3 s3 =>
        rw [q] at pc
        exact fun σ' F' H' sm h => pc σ' F' H' sm h
      | rt d3 s3 => rw [q] at pc; exact pc
      | er k3 e3 s3 => rw [q] at pc; exact pc
      | bad => rw [q] at pc; exact pc
  · have e1 : i = ds.length := by omega
    subst e1
    rw [List.drop_length] at pc
    exact .inl ⟨wk.stop hc'.w smc _ (Nat.le_refl _), pc σc Fc Hc (Same.refl _) hc'⟩
theorem ms_while (n : Nat) {u : Expr} {body : List Stmt} (hp : PassesOwn (model X.prog X.w) X.A X.env X.xe) (ht : MT c F0 H0 W X u t) (hb : MSs c F0 H0 W X body b) : MS c F0 H0 W X (.While u body [] pos) (whM t b n) := by
  refine ps_mono (ps_while hp ht hb) fun D σ H ⟨F, e, s, hh, p⟩ => ?_
  refine ⟨fun m σ H => ∃ (Fc : Hp) (ec : Env) (sc : Sx), Hold c F0 H0 ec sc σ Fc H ∧ PostS c F0 H0 W Fc D (whM t b m ec sc), ⟨n, F, e, s, hh, p⟩, ?_⟩
  rintro m σc Hc ⟨Fc, ec, sc, hc', pc⟩
  cases m with
  | zero => exact pc.elim
  | succ m =>
    unfold whM at pc
    refine rd_mono (bindS hc' pc) fun v H1 ⟨F1, s1, k, h1, g1, rk, p1⟩ => ?_
    subst rk
    cases k with
    | false => exact p1 σc F1 H1 (Same.refl _) h1
    | true =>
      refine ⟨fun σ' H' => ∃ (Fc : Hp) (ec : Env) (sc : Sx), Hold c F0 H0 ec sc σ' Fc H' ∧ PostS c F0 H0 W Fc D (whM t b m ec sc), fun σ' H' hN => ⟨m, Nat.lt_succ_self m, hN⟩, F1, ec, s1, h1, ?_⟩
      rw [if_pos rfl] at p1
      cases q : b ec s1 with
      | nx e3 s3 =>
        rw [q] at p1
        exact fun σ' F' H' sm h => ⟨F', e3, s3, h, PostS.same p1 sm⟩
      | ct e3 s3 =>
        rw [q] at p1
        exact fun σ' F' H' sm h => ⟨F', e3, s3, h, PostS.same p1 sm⟩
      | bk e3 s3 =>
        rw [q] at p1
        exact fun σ' F' H' sm h => p1 σ' F' H' sm h
      | rt d3 s3 => rw [q] at p1; exact p1
      | er k3 e3 s3 => rw [q] at p1; exact p1
      | bad => rw [q] at p1; exact p1
/-! ### errors -/
def mRaise (k : Ek) : Ms := fun e s => .er k e s
theorem ms_raise {k : Ek} {C : Addr} (hC : C = c.ca k) (hc : X.calm = true) (tk : L2N.Takes X W) (he : L2N.PMk X a (fun _ H Q => Q (.ref C) none H)) (hP : ∀ {t : L2.St → Hp → XK → Prop}, L2N.PMk X a t → PS X (.Raise (some a) none pos) (fun _ σ H => t σ H fun cls d H' => W cls d σ H')) :
    MS c F0 H0 W X (.Raise (some a) none pos) (mRaise k) := by
  refine ps_mono (hP he) fun D σ H ⟨F, e, s, hh, p⟩ => ?_
  subst hC
  exact p σ F H (Same.refl _) hh
/-- the slot of the error -/
def clean (i : Nat) (e : Env) : Env := (e.map fun a => match a with
  | some (.exc _) => none
  | a => a).set i none
def mTry (i : Nat) (b : Ms) (su : Ms) : Ms := fun e s => match b e s with
  | .er k e1 s1 => match su (e1.set i (some (.exc k))) s1 with
    | .nx e2 s2 => .nx (clean i e2) s2
    | .bk e2 s2 => .bk (clean i e2) s2
    | .ct e2 s2 => .ct (clean i e2) s2
    | .rt d s2 => .rt d s2
    | _ => .bad
  | o => o
end
mutual
theorem rp_ea {c c' : Cc} {F : Hp} (hK : c.K = c'.K) (hd : c.dq = c'.dq) : ∀ (d : D) (v : V), Rp c F d v → Rp c' F d v
  | .non, v, h => by unfold Rp at h ⊢; exact h
  | .bl b, v, h => by unfold Rp at h ⊢; exact h
  | .int b, v, h => by unfold Rp at h ⊢; exact h
  | .str b, v, h => by unfold Rp at h ⊢; exact h
  | .tup ds, v, h => by
    unfold Rp at h ⊢
    obtain ⟨h1, a, xs, e, h2, h3⟩ := h
    exact ⟨h1, a, xs, e, by rw [← hK]; exact h2, rpL_ea hK hd ds xs h3⟩
  | .lst ds, v, h => by
    unfold Rp at h ⊢
    obtain ⟨h1, a, xs, e, h2, h3⟩ := h
    exact ⟨h1, a, xs, e, h2, rpL_ea hK hd ds xs h3⟩
  | .dct ks ds, v, h => by
    unfold Rp at h ⊢
    obtain ⟨h1, a, xs, e, h2, hk, h3⟩ := h
    exact ⟨h1, a, xs, e, h2, hk, rpL_ea hK hd ds _ h3⟩
  | .drs, v, h => by unfold Rp at h ⊢; rw [← hd]; exact h
  | .bot, v, h => by unfold Rp; trivial
theorem rpL_ea {c c' : Cc} {F : Hp} (hK : c.K = c'.K) (hd : c.dq = c'.dq) : ∀ (ds : List D) (xs : List V), RpL c F ds xs → RpL c' F ds xs
  | [], xs, h => by unfold RpL at h ⊢; exact h
  | d :: ds, xs, h => by
    unfold RpL at h ⊢
    obtain ⟨v, r, e, h1, h2⟩ := h
    exact ⟨v, r, e, rp_ea hK hd d v h1, rpL_ea hK hd ds r h2⟩
end
/-- c, while the error at a is handled -/
abbrev Cc.hot (c : Cc) (a : Addr) (k : Ek) : Cc := { c with ea := some (a, k) }
section
variable {c : Cc} {F0 H0 F H F' H' : Hp} {W : WX} {X : Cx} {pos : Pos} {s : Sx} {e : Env} {σ : L2.St} {a : Addr} {k : Ek} [hq : Dq c H0]
theorem Wo.hot (w : Wo c s F H) : Wo (c.hot a k) s F H := ⟨w.sub, w.tg, w.nt, w.ds⟩
theorem Wo.cold (w : Wo (c.hot a k) s F H) : Wo c s F H := ⟨w.sub, w.tg, w.nt, w.ds⟩
theorem Go.hot (g : Go c F H F' H') : Go (c.hot a k) F H F' H' := ⟨g.same, g.keep, g.tb, g.dk, g.dc, g.fresh⟩
theorem Go.cold (g : Go (c.hot a k) F H F' H') : Go c F H F' H' := ⟨g.same, g.keep, g.tb, g.dk, g.dc, g.fresh⟩
theorem Rp.hot {d : D} {v : V} (r : Rp c F d v) : Rp (c.hot a k) F d v := rp_ea (c := c) (c' := c.hot a k) rfl rfl d v r
theorem Rp.cold {d : D} {v : V} (r : Rp (c.hot a k) F d v) : Rp c F d v := rp_ea (c := c.hot a k) (c' := c) rfl rfl d v r
theorem OwnAt.hot {Hb : Hp} {xs : List D} {p : Addr} (o : OwnAt c Hb F H xs p) : OwnAt (c.hot a k) Hb F H xs p := ⟨o.nb, o.nf, o.nd, o.len, let ⟨vs, h, r⟩ := o.ex; ⟨vs, h, rpL_ea (c := c) (c' := c.hot a k) rfl rfl _ _ r⟩⟩
theorem OwnAt.cold {Hb : Hp} {xs : List D} {p : Addr} (o : OwnAt (c.hot a k) Hb F H xs p) : OwnAt c Hb F H xs p := ⟨o.nb, o.nf, o.nd, o.len, let ⟨vs, h, r⟩ := o.ex; ⟨vs, h, rpL_ea (c := c.hot a k) (c' := c) rfl rfl _ _ r⟩⟩
theorem HoD.hot {ho : HO} {o : DO} (h : HoD c F ho o) : HoD (c.hot a k) F ho o := by
  cases o with
  | k kvs => obtain ⟨ws, e, h1, h2⟩ := h; exact ⟨ws, e, h1, rpL_ea (c := c) (c' := c.hot a k) rfl rfl _ _ h2⟩
  | t kvs => obtain ⟨ws, e, h1, h2⟩ := h; exact ⟨ws, e, h1, rpL_ea (c := c) (c' := c.hot a k) rfl rfl _ _ h2⟩
theorem HoD.cold {ho : HO} {o : DO} (h : HoD (c.hot a k) F ho o) : HoD c F ho o := by
  cases o with
  | k kvs => obtain ⟨ws, e, h1, h2⟩ := h; exact ⟨ws, e, h1, rpL_ea (c := c.hot a k) (c' := c) rfl rfl _ _ h2⟩
  | t kvs => obtain ⟨ws, e, h1, h2⟩ := h; exact ⟨ws, e, h1, rpL_ea (c := c.hot a k) (c' := c) rfl rfl _ _ h2⟩
theorem OwnD.hot {Hb : Hp} {w : DO} {p : Addr} (o : OwnD c Hb F H w p) : OwnD (c.hot a k) Hb F H w p := ⟨o.nb, o.nf, o.nd, o.len, let ⟨vs, h, r⟩ := o.ex; ⟨vs, h, r.hot⟩⟩
theorem OwnD.cold {Hb : Hp} {w : DO} {p : Addr} (o : OwnD (c.hot a k) Hb F H w p) : OwnD c Hb F H w p := ⟨o.nb, o.nf, o.nd, o.len, let ⟨vs, h, r⟩ := o.ex; ⟨vs, h, r.cold (a := a) (k := k)⟩⟩
instance : Dq (c.hot a k) H0 := ⟨hq.out⟩
theorem En.hot {i : Nat} (hE : c.ea = none) (n : En c H0 e σ F H) : En (c.hot a k) H0 (e.set i (some (.exc k))) (σ.set i (some (.ref a))) F H := by
  have key : ∀ (j : Nat) (b : A), (e.set i (some (A.exc k)))[j]? = some (some b) → (j = i ∧ b = .exc k ∧ j < e.length) ∨ (j ≠ i ∧ e[j]? = some (some b)) := fun j b hj => by
    by_cases z : j = i
    · subst z
      have hlt : j < e.length := by
        have := (List.getElem?_eq_some_iff.mp hj).1
        rwa [List.length_set] at this
      rw [List.getElem?_set_self hlt] at hj
      cases hj
      exact .inl ⟨rfl, rfl, hlt⟩
    · rw [List.getElem?_set_ne (Ne.symm z)] at hj
      exact .inr ⟨z, hj⟩
  refine ⟨by rw [List.length_set, List.length_set]; exact n.len, fun j b hj => ?_, fun j zs hj => ?_, fun j l zs ws q hj hk m1 m2 h3 h4 => ?_⟩
  · rcases key j b hj with ⟨rfl, rfl, hlt⟩ | ⟨z, hj⟩
    · exact ⟨.ref a, List.getElem?_set_self (by rw [← n.len]; exact hlt), a, rfl, rfl⟩
    · rw [List.getElem?_set_ne (Ne.symm z)]
      obtain ⟨v, e1, r⟩ := n.at' j b hj
      refine ⟨v, e1, ?_⟩
      cases b with
      | d t => exact Rp.hot (c := c) r
      | own xs => obtain ⟨p, e2, o⟩ := r; exact ⟨p, e2, o.hot⟩
      | bor xs => obtain ⟨p, e2, o⟩ := r; exact ⟨p, e2, o.hot⟩
      | exc k' =>
        obtain ⟨p, e2, o⟩ := r
        rw [hE] at o
        cases o
      | od w => obtain ⟨p, e2, o⟩ := r; exact ⟨p, e2, o.hot⟩
  · rcases key j _ hj with ⟨_, z, _⟩ | ⟨_, hj⟩
    · cases z
    · exact n.nb j zs hj
  · rcases key j _ hj with ⟨_, z, _⟩ | ⟨z1, hj2⟩
    · rw [z] at m1
      cases m1
    rcases key l _ hk with ⟨_, z, _⟩ | ⟨z2, hk2⟩
    · rw [z] at m2
      cases m2
    rw [List.getElem?_set_ne (Ne.symm z1)] at h3
    rw [List.getElem?_set_ne (Ne.symm z2)] at h4
    exact n.ne j l zs ws q hj2 hk2 m1 m2 h3 h4
theorem En.cold {i : Nat} (n : En (c.hot a k) H0 e σ F H) : En c H0 (clean i e) (σ.set i none) F H := by
  have key : ∀ (j : Nat) (b : A), (clean i e)[j]? = some (some b) → j ≠ i ∧ e[j]? = some (some b) ∧ ∀ k, b ≠ .exc k := fun j b hj => by
    unfold clean at hj
    by_cases z : j = i
    · subst z
      have hlt := (List.getElem?_eq_some_iff.mp hj).1
      rw [List.length_set] at hlt
      rw [List.getElem?_set_self hlt] at hj
      cases hj
    · rw [List.getElem?_set_ne (Ne.symm z), List.getElem?_map] at hj
      refine ⟨z, ?_⟩
      cases q : e[j]? with
      | none => rw [q] at hj; cases hj
      | some o =>
        rw [q] at hj
        cases o with
        | none => cases hj
        | some b' =>
          cases b' with
          | exc k => cases hj
          | d t => cases hj; exact ⟨rfl, fun k z => by cases z⟩
          | own t => cases hj; exact ⟨rfl, fun k z => by cases z⟩
          | bor t => cases hj; exact ⟨rfl, fun k z => by cases z⟩
          | od t => cases hj; exact ⟨rfl, fun k z => by cases z⟩
  refine ⟨?_, fun j b hj => ?_, fun j zs hj => ?_, fun j l zs ws q hj hk m1 m2 h3 h4 => ?_⟩
  · unfold clean
    rw [List.length_set, List.length_set, List.length_map]
    exact n.len
  · obtain ⟨z, hj, ne⟩ := key j b hj
    rw [List.getElem?_set_ne (Ne.symm z)]
    obtain ⟨v, e1, r⟩ := n.at' j b hj
    refine ⟨v, e1, ?_⟩
    cases b with
    | d t => exact Rp.cold (a := a) (k := k) r
    | own xs => obtain ⟨p, e2, o⟩ := r; exact ⟨p, e2, o.cold⟩
    | bor xs => obtain ⟨p, e2, o⟩ := r; exact ⟨p, e2, o.cold⟩
    | exc k' => exact (ne k' rfl).elim
    | od w => obtain ⟨p, e2, o⟩ := r; exact ⟨p, e2, o.cold⟩
  · exact n.nb j zs (key j _ hj).2.1
  · obtain ⟨z1, hj, _⟩ := key j _ hj
    obtain ⟨z2, hk, _⟩ := key l _ hk
    rw [List.getElem?_set_ne (Ne.symm z1)] at h3
    rw [List.getElem?_set_ne (Ne.symm z2)] at h4
    exact n.ne j l zs ws q hj hk m1 m2 h3 h4
theorem Hold.cold {i : Nat} (h : Hold (c.hot a k) F0 H0 e s σ F H) : Hold c F0 H0 (clean i e) s (σ.set i none) F H := ⟨h.w.cold, h.g.cold, h.n.cold⟩
theorem ms_try {x n : Str} {C : Value} {i : Nat} {body suite : List Stmt} {b₀ : Stmt} {np pos' : Pos} {b : Ms} {su : Ms} {Wout : WX} (hE : c.ea = none) (hK : X.K = c.K) (hs : X.stack = X.env :: X.outer) (hf : X.env.frame = some X.env.locals) (hN : X.N.Nodup) (hi : X.N[i]? = some n) (hln : X.env.kindOf n = some .local) (hc : Names X x C) (tk : L2N.Takes X Wout)
    (hex : ∀ k, PySem.W.exmOne c.K (.ref (c.ca k)) C = some true)
    (hb : ∀ (W : WX) (pn : List (Addr × Obj)) (xe : Value → Shared → Prop), L2N.Takes (X.tr pn xe) W → PassesOwn (model X.prog X.w) X.A X.env xe → MSs c F0 H0 W (X.tr pn xe) body b)
    (hsu : ∀ (k : Ek) (a : Addr) (oe : Obj) (pn : List (Addr × Obj)) (hqh : Dq (c.hot a k) H0), L2N.Zn (.ref (c.ca k)) none oe → (∃ vs, oe.data = .fields vs) → MSs (c.hot a k) F0 H0 W0 (X.suite a ((a, oe) :: pn)) (b₀ :: suite) su) :
    MS c F0 H0 W X (.Try body [.ExceptHandler (some (.Name x np)) (some n) (b₀ :: suite) pos'] [] [] pos) (mTry i b su) := by
  refine ps_mono (L2N.ps_try_as (ts := fun a cls d D σ H => ∃ k, cls = .ref (c.ca k) ∧ d = none ∧ rdS (c.hot a k) F0 H0 W0 su D σ H) hs hf hN hi hln hc tk hb ?_) fun D σ H ⟨F, e, s, hh, p⟩ => ?_
  · intro a oe cls d pn hz hfl
    refine ⟨fun pins s σ H D I q => ?_⟩
    obtain ⟨k, rfl, rfl, q⟩ := q
    exact (hsu k a oe pn ⟨hq.out⟩ hz hfl).run pins s σ H D I q
  · refine ⟨F, e, s, hh, ?_⟩
    unfold mTry at p
    cases q : b e s with
    | nx e1 s1 => rw [q] at p; exact p
    | rt d s1 => rw [q] at p; exact p
    | bk e1 s1 => rw [q] at p; exact p
    | ct e1 s1 => rw [q] at p; exact p
    | bad => rw [q] at p; exact p
    | er k e1 s1 =>
      rw [q] at p
      intro σ1 F1 H1 sm h1
      rw [hK]
      refine ⟨true, hex k, fun _ a na => ⟨k, rfl, rfl, F1, e1.set i (some (.exc k)), s1, ⟨h1.w.hot, h1.g.hot, h1.n.hot hE⟩, ?_⟩, fun z => by cases z⟩
      dsimp only at p
      cases q2 : su (e1.set i (some (.exc k))) s1 with
      | nx e2 s2 => rw [q2] at p; exact fun σ' F' H' sm2 h => p _ F' H' (sm.trans sm2) h.cold
      | bk e2 s2 => rw [q2] at p; exact fun σ' F' H' sm2 h => p _ F' H' (sm.trans sm2) h.cold
      | ct e2 s2 => rw [q2] at p; exact fun σ' F' H' sm2 h => p _ F' H' (sm.trans sm2) h.cold
      | rt d s2 => rw [q2] at p; exact fun v F' H' sm2 w g r => p v F' H' (sm.trans sm2) w.cold g.cold (Rp.cold (a := a) (k := k) r)
      | er k2 e2 s2 => rw [q2] at p; exact p.elim
      | bad => rw [q2] at p; exact p.elim
end
/-! ### defs -/
def mDef (n : Nat) (m : Ms) : Sx → List D → Res D := fun s ds => match m (ds.map (fun d => some (.d d)) ++ List.replicate (n - ds.length) none) s with
  | .nx _ s' => .ok .non s'
  | .rt d s' => .ok d s'
  | .er k _ s' => .er k s'
  | _ => .bad
section
variable {P : Program} {w : World} {K : PySem.W.Frag} {mg : Str → Option Value} {base : Heap} {x : Str} {st : Stmt} {N ps : List Str} {k : Nat} {Ts : TsT} {ca : Ek → Addr}
theorem en_start {c : Cc} {H0 F H : Hp} {ds : List D} {vs : List V} {N : List Str} (r : RpL c F ds vs) : En c H0 (ds.map (fun d => some (A.d d)) ++ List.replicate (N.length - ds.length) none) (L2.start N vs) F H := by
  have e : vs.length = ds.length := r.len
  have key : ∀ (i : Nat) (a : A), (ds.map (fun d => some (A.d d)) ++ List.replicate (N.length - ds.length) none)[i]? = some (some a) → ∃ d, a = .d d ∧ ds[i]? = some d := fun i a h => by
    by_cases hi : i < ds.length
    · rw [List.getElem?_append_left (by rw [List.length_map]; exact hi), List.getElem?_map, List.getElem?_eq_getElem hi] at h
      cases h
      exact ⟨_, rfl, List.getElem?_eq_getElem hi⟩
    · rw [List.getElem?_append_right (by rw [List.length_map]; omega), List.getElem?_replicate] at h
      split at h <;> cases h
  refine ⟨?_, fun i a h => ?_, fun i xs h => ?_, fun i j xs ys p h _ m1 _ _ _ => ?_⟩
  · unfold L2.start
    rw [List.length_append, List.length_append, List.length_map, List.length_map, List.length_replicate, List.length_replicate, e]
  · obtain ⟨d, rfl, hd⟩ := key i a h
    obtain ⟨v, ev, rv⟩ := r.at i hd
    refine ⟨v, ?_, rv⟩
    unfold L2.start
    rw [List.getElem?_append_left (by rw [List.length_map]; exact (List.getElem?_eq_some_iff.mp ev).1), List.getElem?_map, ev]
    rfl
  · obtain ⟨d, z, _⟩ := key i _ h
    cases z
  · obtain ⟨d, z, _⟩ := key i _ h
    rw [z] at m1
    cases m1
theorem spM_run {n : Nat} {m : Ms} {vs : List V} {H : Hp} {Q : VK} {E : XK} {X : Cx} {body : List Stmt} (h : spM K Ts ca n (mDef N.length m) vs H Q E)
    (d : ∀ (dq : Addr) (F : Hp) (hq : Dq ⟨K, dq, Ts, ca, none⟩ H), MSs ⟨K, dq, Ts, ca, none⟩ F H (wOut E) X body m) : ∃ t, PSs X body t ∧ t { nx := fun _ H' => Q .non H', rt := Q } (L2.start N vs) H := by
  obtain ⟨dq, F, s, ds, w, hd, r, hl, p⟩ := h
  refine ⟨_, d dq F ⟨hd⟩, F, _, s, ⟨w, .refl, en_start r⟩, ?_⟩
  unfold mDef at p
  generalize m (ds.map (fun d => some (A.d d)) ++ List.replicate (N.length - ds.length) none) s = o at p
  cases o with
  | nx e s' => exact fun σ F' H' _ h => p .non F' H' h.w h.g (rp_non.mpr rfl)
  | rt d s' => exact fun v F' H' _ w g r => p v F' H' w g r
  | er k e s' => exact fun σ F' H' _ h => p F' H' h.w h.g
  | bk e s' => exact p.elim
  | ct e s' => exact p.elim
  | bad => exact p.elim
theorem spM_len {n : Nat} {m : Sx → List D → Res D} {vs : List V} {H : Hp} {Q : VK} {E : XK} (h : spM K Ts ca n m vs H Q E) : vs.length = n := by
  obtain ⟨dq, F, s, ds, w, hd, r, hl, p⟩ := h
  rw [r.len, hl]
theorem okM {n : Nat} {m : Ms} (D : At K mg x st) (S : FnScope N ps (defScope st)) (hb : BindH st x ps) (hn : ps.length = n)
    (body : ∀ (f : Addr) (cdv : Value) (A : Around) (outer : List PySem.Env) (s : Shared) (H : Hp) (E : XK), Room k (A.deeper (envOfC x (defScope st) s.heap.objs.size f cdv)) →
      ∀ (dq : Addr) (F : Hp) (hq : Dq ⟨K, dq, Ts, ca, none⟩ H), MSs ⟨K, dq, Ts, ca, none⟩ F H (wOut E) (cxOf (L2N.CX P w) P w K mg base N x (defScope st) f cdv A outer s H E) (defBody st) m) :
    Prom P w K mg base (L2N.CX P w) (k + 1) x ps (spM K Ts ca n (mDef N.length m)) :=
  Kh.okXN D S hb (fun vs H Q E h => (spM_len h).trans hn.symm) fun f cdv A outer s H vs Q E hr h => spM_run h fun dq F hq => body f cdv A outer s H E hr dq F hq
theorem okT {n : Nat} {m : Ms} {T : Addr} (D : Tbl K mg base x st T) (S : FnScope N ps (defScope st)) (hb : BindH st x ps) (hn : ps.length = n)
    (body : ∀ (f cd : Addr) (A : Around) (outer : List PySem.Env) (s : Shared) (H : Hp) (E : XK), LamX.TabB base mg cd T → Room k (A.deeper (envOfC x (defScope st) s.heap.objs.size f (.ref cd))) →
      ∀ (dq : Addr) (F : Hp) (hq : Dq ⟨K, dq, Ts, ca, none⟩ H), MSs ⟨K, dq, Ts, ca, none⟩ F H (wOut E) (cxOf (L2N.CX P w) P w K mg base N x (defScope st) f (.ref cd) A outer s H E) (defBody st) m) :
    Prom P w K mg base (L2N.CX P w) (k + 1) x ps (spM K Ts ca n (mDef N.length m)) :=
  Tbl.okXN D S hb (fun vs H Q E h => (spM_len h).trans hn.symm) fun f cd A outer s H vs Q E TB hr h => spM_run h fun dq F hq => body f cd A outer s H E TB hr dq F hq
end
end Mi
/-! own: operators, places, slices, calls of built-ins, by data -/
namespace Mi
open PySem PySem.Spec PyProof.Rows L2 Kt Kj
section
variable {c : Cc} {H0 Hb F H F' H' : Hp} {s : Sx} {v : V}
/-! arithmetic -/
/-- numbers of fewer than 8000 bits -/
def sm (i : Int) : Bool := decide (i.natAbs < 2 ^ 8000)
theorem OpS.or {r r' : R2} {g g' : D → D → Option A} (h : OpS c r g) (h' : OpS c r' g') : OpS c (fun x y H Q => r x y H Q ∨ r' x y H Q) (fun d e => match g d e with | some z => some z | none => g' d e) := by
  intro H0 F H s d e x y z Q w hd hx hy hz q
  cases e1 : g d e with
  | some z' =>
    simp only [e1] at hz
    cases hz
    exact .inl (h w hd hx hy e1 q)
  | none =>
    simp only [e1] at hz
    exact .inr (h' w hd hx hy hz q)
def dAddI : D → D → Option A
  | .int i, .int j => some (.d (.int (i + j)))
  | _, _ => none
def dAddS : D → D → Option A
  | .str i, .str j => if i.length + j.length ≤ 1000000 then some (.d (.str (i ++ j))) else none
  | _, _ => none
def dAddL : D → D → Option A
  | .lst i, .lst j => if i.length + j.length ≤ 1000000 then some (.own (i ++ j)) else none
  | _, _ => none
def dAddT : D → D → Option A
  | .tup i, .tup j => if i.length + j.length ≤ 1000000 then some (.d (.tup (i ++ j))) else none
  | _, _ => none
theorem os_addI : OpS c (rI0 fun i j => .int (i + j)) dAddI := by
  intro H0 F H s d e x y z Q w hd hx hy hz q
  unfold dAddI at hz
  split at hz
  · cases hz
    exact ⟨_, _, vw_int hx, vw_int hy, newS w ra_int q⟩
  · cases hz
theorem strOk_app {x y : Str} (h : PyData.strOk x = true) (g : PyData.strOk y = true) : PyData.strOk (x ++ y) = true := by
  unfold PyData.strOk at *
  rw [← Array.all_toList, List.all_eq_true] at *
  intro k hk
  have hk : k ∈ (x ++ y).cps.toList := hk
  rw [show (x ++ y).cps.toList = x.cps.toList ++ y.cps.toList from by show (x.cps ++ y.cps).toList = _; simp] at hk
  rcases List.mem_append.mp hk with z | z
  · exact h k z
  · exact g k z
theorem str_len_app (x y : Str) : (x ++ y).length = x.length + y.length := by
  show (x.cps ++ y.cps).size = x.cps.size + y.cps.size
  exact Array.size_append
theorem os_addS : OpS c (fun x y H Q => ∃ i j, x = .str i ∧ y = .str j ∧ i.length + j.length ≤ sizeLine ∧ Q (.str (i ++ j)) H) dAddS := by
  intro H0 F H s d e x y z Q w hd hx hy hz q
  unfold dAddS at hz
  split at hz
  · split at hz
    · rename_i hl
      cases hz
      obtain ⟨rfl, h1, _⟩ := vw_str hx
      obtain ⟨rfl, h2, _⟩ := vw_str hy
      exact ⟨_, _, rfl, rfl, Nat.le_of_lt (Nat.lt_of_le_of_lt hl big), newS w (ra_str (strOk_app h1 h2) (by rw [str_len_app]; exact hl)) q⟩
    · cases hz
  · cases hz
theorem os_addL : OpS c rCat dAddL := by
  intro H0 F H s d e x y z Q w hd hx hy hz q
  unfold dAddL at hz
  split at hz
  · split at hz
    · rename_i hl
      cases hz
      obtain ⟨_, p1, vs1, rfl, h1, r1⟩ := vw_lst hx
      obtain ⟨_, p2, vs2, rfl, h2, r2⟩ := vw_lst hy
      exact ⟨_, _, _, _, rfl, rfl, h1, h2, by rw [r1.len, r2.len]; exact Nat.le_of_lt (Nat.lt_of_le_of_lt hl big), fun p n => newL w (r1.app r2) (by rw [List.length_append]; exact hl) n (hd p n) q⟩
    · cases hz
  · cases hz
theorem os_addT : OpS c (rCatA c.K) dAddT := by
  intro H0 F H s d e x y z Q w hd hx hy hz q
  unfold dAddT at hz
  split at hz
  · split at hz
    · rename_i i j hl
      cases hz
      have hx0 : Rp c F (.tup i) x := hx
      have hy0 : Rp c F (.tup j) y := hy
      obtain ⟨_, p1, vs1, rfl, h1, r1⟩ := vw_tup w hx
      obtain ⟨_, p2, vs2, rfl, h2, r2⟩ := vw_tup w hy
      refine ⟨_, _, _, _, rfl, rfl, h1, h2, by rw [r1.len, r2.len]; exact Nat.le_of_lt (Nat.lt_of_le_of_lt hl big), fun z => ?_, fun z1 z2 => ?_, fun z1 z2 p n => newT w (r1.app r2) (by rw [List.length_append]; exact hl) n q⟩
      · subst z
        have e : i = [] := List.length_eq_zero_iff.mp r1.len.symm
        subst e
        exact newS w (by rw [List.nil_append]; exact hy0) q
      · subst z2
        have e : j = [] := List.length_eq_zero_iff.mp r2.len.symm
        subst e
        exact newS w (by rw [List.append_nil]; exact hx0) q
    · cases hz
  · cases hz
def dAdd : D → D → Option A
  | .int i, .int j => some (.d (.int (i + j)))
  | .str i, .str j => if i.length + j.length ≤ 1000000 then some (.d (.str (i ++ j))) else none
  | .lst i, .lst j => if i.length + j.length ≤ 1000000 then some (.own (i ++ j)) else none
  | .tup i, .tup j => if i.length + j.length ≤ 1000000 then some (.d (.tup (i ++ j))) else none
  | _, _ => none
abbrev rAdd (K : PySem.W.Frag) : R2 := fun x y H Q => rI0 (fun i j => .int (i + j)) x y H Q ∨ (∃ i j, x = .str i ∧ y = .str j ∧ i.length + j.length ≤ sizeLine ∧ Q (.str (i ++ j)) H) ∨ rCat x y H Q ∨ rCatA K x y H Q
theorem op_addA {X : Cx} (hK : X.K = c.K) : OpR X (binaryOp .Add) (rAdd c.K) := hK ▸ op_add.or (op_add_str.or (op_cat.or op_catA))
theorem os_add : OpS c (rAdd c.K) dAdd := by
  intro H0 F H s d e x y z Q w hd hx hy hz q
  unfold dAdd at hz
  split at hz
  · exact .inl (os_addI w hd hx hy hz q)
  · exact .inr (.inl (os_addS w hd hx hy hz q))
  · exact .inr (.inr (.inl (os_addL w hd hx hy hz q)))
  · exact .inr (.inr (.inr (os_addT w hd hx hy hz q)))
  · cases hz
def dSub : D → D → Option A
  | .int i, .int j => some (.d (.int (i - j)))
  | _, _ => none
theorem os_sub : OpS c (rI0 fun i j => .int (i - j)) dSub := by
  intro H0 F H s d e x y z Q w hd hx hy hz q
  unfold dSub at hz
  split at hz
  · cases hz
    exact ⟨_, _, vw_int hx, vw_int hy, newS w ra_int q⟩
  · cases hz
def dMul : D → D → Option A
  | .int i, .int j => if (sm i && sm j) = true then some (.d (.int (i * j))) else none
  | _, _ => none
theorem os_mul : OpS c (rI CMulW fun i j => .int (i * j)) dMul := by
  intro H0 F H s d e x y z Q w hd hx hy hz q
  unfold dMul at hz
  split at hz
  · split at hz
    · rename_i hs
      cases hz
      unfold sm at hs
      rw [Bool.and_eq_true, decide_eq_true_eq, decide_eq_true_eq] at hs
      exact ⟨_, _, vw_int hx, vw_int hy, wide_mul hs.1 hs.2 (by decide) (by decide) (by decide), newS w ra_int q⟩
    · cases hz
  · cases hz
/-- xs * n -/
def dMulL : D → D → Option A
  | .lst ds, .int k => if 0 ≤ k ∧ k ≤ 1000 ∧ ds.length * k.toNat ≤ 1000000 then some (.own (List.replicate k.toNat ds).flatten) else none
  | _, _ => none
theorem RpL.rep {ds : List D} {vs : List V} (r : RpL c F ds vs) : ∀ n : Nat, RpL c F (List.replicate n ds).flatten (List.replicate n vs).flatten
  | 0 => rpL_nil.mpr rfl
  | n + 1 => by
    rw [List.replicate_succ, List.flatten_cons, List.replicate_succ, List.flatten_cons]
    exact r.app (RpL.rep r n)
def CDivNW (_ j : Int) : Prop := j ≠ 0 ∧ j.natAbs.log2 < 9000
theorem op_fdivNW {X : Cx} : OpR X (binaryOp .FloorDiv) (rI CDivNW fun i j => .int (i.fdiv j)) := opI fun _ _ _ _ _ _ _ hc q => floordiv_int hc.1 q (.inl (PyProof.noPylong_of_log2 hc.2))
/-- // and % as Python has them -/
def fdv (i j : Int) : Int := if 0 ≤ j then i / j else i.fdiv j
def fmd (i j : Int) : Int := if 0 ≤ j then i % j else i.fmod j
theorem fdv_eq (i j : Int) : i.fdiv j = fdv i j := by
  unfold fdv
  split
  · rename_i h
    exact Int.fdiv_eq_ediv_of_nonneg i h
  · rfl
theorem fmd_eq (i j : Int) : i.fmod j = fmd i j := by
  unfold fmd
  split
  · rename_i h
    exact Int.fmod_eq_emod_of_nonneg i h
  · rfl
def dDiv : D → D → Option A
  | .int i, .int j => if (j != 0 && sm j) = true then some (.d (.int (fdv i j))) else none
  | _, _ => none
theorem os_div : OpS c (rI CDivNW fun i j => .int (i.fdiv j)) dDiv := by
  intro H0 F H s d e x y z Q w hd hx hy hz q
  unfold dDiv at hz
  split at hz
  · split at hz
    · rename_i i j hs
      cases hz
      rw [Bool.and_eq_true, bne_iff_ne] at hs
      have h2 := hs.2
      unfold sm at h2
      rw [decide_eq_true_eq] at h2
      exact ⟨_, _, vw_int hx, vw_int hy, ⟨hs.1, Nat.lt_of_lt_of_le (PySem.Flt.log2_lt_of (by decide) h2) (by decide)⟩, newS w (a := .d (.int (fdv i j))) (by rw [← fdv_eq]; exact ra_int) q⟩
    · cases hz
  · cases hz
def dMod : D → D → Option A
  | .int i, .int j => if (j != 0) = true then some (.d (.int (fmd i j))) else none
  | _, _ => none
theorem os_mod : OpS c (rI (fun _ j => j ≠ 0) fun i j => .int (i.fmod j)) dMod := by
  intro H0 F H s d e x y z Q w hd hx hy hz q
  unfold dMod at hz
  split at hz
  · split at hz
    · rename_i i j hs
      cases hz
      exact ⟨_, _, vw_int hx, vw_int hy, bne_iff_ne.mp hs, newS w (a := .d (.int (fmd i j))) (by rw [← fmd_eq]; exact ra_int) q⟩
    · cases hz
  · cases hz
def dPow : D → D → Option A
  | .int i, .int j => if 0 ≤ j ∧ j ≤ 1000 ∧ i.natAbs < 2 ^ 64 then some (.d (.int (i ^ j.toNat))) else none
  | _, _ => none
theorem os_pow : OpS c (rI CPow fun i j => .int (i ^ j.toNat)) dPow := by
  intro H0 F H s d e x y z Q w hd hx hy hz q
  unfold dPow at hz
  split at hz
  · split at hz
    · rename_i i j hs
      cases hz
      exact ⟨_, _, vw_int hx, vw_int hy, ⟨hs.1, Int.le_trans hs.2.1 (by decide), hs.2.2⟩, newS w ra_int q⟩
    · cases hz
  · cases hz
def dXor : D → D → Option A
  | .int i, .int j => some (.d (.int (Builtin.bitXor i j)))
  | _, _ => none
theorem os_xor : OpS c (rI0 fun i j => .int (Builtin.bitXor i j)) dXor := by
  intro H0 F H s d e x y z Q w hd hx hy hz q
  unfold dXor at hz
  split at hz
  · cases hz
    exact ⟨_, _, vw_int hx, vw_int hy, newS w ra_int q⟩
  · cases hz
def dShr : D → D → Option A
  | .int i, .int j => if 0 ≤ j then some (.d (.int (i / 2 ^ j.toNat))) else none
  | _, _ => none
theorem os_shr : OpS c (rI (fun _ j => 0 ≤ j) fun i j => .int (i / 2 ^ j.toNat)) dShr := by
  intro H0 F H s d e x y z Q w hd hx hy hz q
  unfold dShr at hz
  split at hz
  · split at hz
    · rename_i hs
      cases hz
      exact ⟨_, _, vw_int hx, vw_int hy, hs, newS w ra_int q⟩
    · cases hz
  · cases hz
def dNeg : D → Option A
  | .int i => some (.d (.int (-i)))
  | _ => none
theorem us_neg : UnS c (rU fun i => .int (-i)) dNeg := by
  intro H0 F H s d x z Q w hd hx hz q
  unfold dNeg at hz
  split at hz
  · cases hz
    exact ⟨_, vw_int hx, newS w ra_int q⟩
  · cases hz
/-! comparisons -/
def dRel (pi : Int → Int → Bool) : D → D → Option A
  | .int i, .int j => some (.d (.bl (pi i j)))
  | _, _ => none
theorem os_rel {pi : Int → Int → Bool} : OpS c (rI0 fun i j => .bl (pi i j)) (dRel pi) := by
  intro H0 F H s d e x y z Q w hd hx hy hz q
  unfold dRel at hz
  split at hz
  · cases hz
    exact ⟨_, _, vw_int hx, vw_int hy, newS w ra_bl q⟩
  · cases hz
abbrev dLt := dRel fun i j => decide (i < j)
abbrev dLe := dRel fun i j => decide (i ≤ j)
abbrev dGt := dRel fun i j => decide (j < i)
abbrev dGe := dRel fun i j => decide (j ≤ i)
/-- < of numbers, of texts -/
def dLtX : D → D → Option A
  | .int i, .int j => some (.d (.bl (decide (i < j))))
  | .str i, .str j => some (.d (.bl (decide (i.cps.toList < j.cps.toList))))
  | _, _ => none
abbrev rLtX : R2 := fun x y H Q => rI0 (fun i j => .bl (decide (i < j))) x y H Q ∨ ∃ i j, x = .str i ∧ y = .str j ∧ Q (.bl (decide (i.cps.toList < j.cps.toList))) H
theorem op_ltX {X : Cx} : OpR X (compareOp .Lt) rLtX := op_lt.or op_lt_str
theorem os_ltX : OpS c rLtX dLtX := by
  intro H0 F H s d e x y z Q w hd hx hy hz q
  unfold dLtX at hz
  split at hz
  · cases hz
    exact .inl ⟨_, _, vw_int hx, vw_int hy, newS w ra_bl q⟩
  · cases hz
    obtain ⟨rfl, _⟩ := vw_str hx
    obtain ⟨rfl, _⟩ := vw_str hy
    exact .inr ⟨_, _, rfl, rfl, newS w ra_bl q⟩
  · cases hz
/-! == -/
mutual
def lay : D → Nat → Bool
  | .non, _ => true
  | .bl _, _ => true
  | .int _, _ => true
  | .str _, _ => true
  | .tup _, 0 => false
  | .tup ds, n + 1 => layL ds n
  | .lst _, 0 => false
  | .lst ds, n + 1 => layL ds n
  | _, _ => false
def layL : List D → Nat → Bool
  | [], _ => true
  | d :: ds, n => lay d n && layL ds n
end
mutual
def pyD : D → PyData
  | .non => .none
  | .bl b => .bool b
  | .int i => .int i
  | .str s => .str s
  | .tup ds => .tuple (pyDs ds)
  | .lst ds => .list (pyDs ds)
  | _ => .none
def pyDs : List D → List PyData
  | [] => []
  | d :: ds => pyD d :: pyDs ds
end
mutual
theorem rp_dp : ∀ (d : D) (v : V) (n : Nat), lay d n = true → Rp c F d v → Dp c.K F v (pyD d) ∧ (pyD d).canLay0 = true ∧ (pyD d).depth ≤ n
  | .non, v, n, _, h => by
    cases rp_non.mp h
    exact ⟨.non, by unfold pyD; rfl, by unfold pyD; rw [PyData.depth.eq_def]; exact Nat.zero_le _⟩
  | .bl b, v, n, _, h => by
    cases rp_bl.mp h
    exact ⟨.bl b, by unfold pyD; rfl, by unfold pyD; rw [PyData.depth.eq_def]; exact Nat.zero_le _⟩
  | .int b, v, n, _, h => by
    cases rp_int.mp h
    exact ⟨.int b, by unfold pyD; rfl, by unfold pyD; rw [PyData.depth.eq_def]; exact Nat.zero_le _⟩
  | .str b, v, n, _, h => by
    obtain ⟨rfl, hs, _⟩ := rp_str.mp h
    exact ⟨.str b, by unfold pyD; rw [PyData.canLay0.eq_4]; exact hs, by unfold pyD; rw [PyData.depth.eq_def]; exact Nat.zero_le _⟩
  | .tup ds, v, 0, hl, h => by unfold lay at hl; cases hl
  | .tup ds, v, n + 1, hl, h => by
    unfold lay at hl
    obtain ⟨_, a, xs, rfl, h2, h3⟩ := rp_tup.mp h
    obtain ⟨k1, k2, k3⟩ := rpL_dp ds xs n hl h3
    refine ⟨by unfold pyD; exact .tup h2 k1, by unfold pyD; rw [PyData.canLay0.eq_6]; exact k2, by unfold pyD; rw [PyData.depth.eq_def]; exact Nat.succ_le_succ k3⟩
  | .lst ds, v, 0, hl, h => by unfold lay at hl; cases hl
  | .lst ds, v, n + 1, hl, h => by
    unfold lay at hl
    obtain ⟨_, a, xs, rfl, h2, h3⟩ := rp_lst.mp h
    obtain ⟨k1, k2, k3⟩ := rpL_dp ds xs n hl h3
    refine ⟨by unfold pyD; exact .lst (SqL.of h2) k1, by unfold pyD; rw [PyData.canLay0.eq_5]; exact k2, by unfold pyD; rw [PyData.depth.eq_def]; exact Nat.succ_le_succ k3⟩
  | .dct ks ds, v, n, hl, h => by unfold lay at hl; cases hl
  | .drs, v, n, hl, h => by unfold lay at hl; cases hl
  | .bot, v, n, hl, h => by unfold lay at hl; cases hl
theorem rpL_dp : ∀ (ds : List D) (xs : List V) (n : Nat), layL ds n = true → RpL c F ds xs → DpAll c.K F xs (pyDs ds) ∧ PyData.canLayAll0 (pyDs ds) = true ∧ PyData.depthAll (pyDs ds) ≤ n
  | [], xs, n, _, h => by
    cases rpL_nil.mp h
    exact ⟨by unfold pyDs; exact .nil, by unfold pyDs; rfl, by unfold pyDs; rw [PyData.depthAll.eq_1]; exact Nat.zero_le _⟩
  | d :: ds, xs, n, hl, h => by
    unfold layL at hl
    rw [Bool.and_eq_true] at hl
    obtain ⟨v, r, rfl, h1, h2⟩ := rpL_cons.mp h
    obtain ⟨a1, a2, a3⟩ := rp_dp d v n hl.1 h1
    obtain ⟨b1, b2, b3⟩ := rpL_dp ds r n hl.2 h2
    refine ⟨by unfold pyDs; exact .cons a1 b1, by unfold pyDs; rw [PyData.canLayAll0.eq_2, a2, b2]; rfl, by unfold pyDs; rw [PyData.depthAll.eq_2]; exact Nat.max_le.mpr ⟨a3, b3⟩⟩
end
mutual
theorem dp_same {K : PySem.W.Frag} (sm : Same F F') : ∀ (d : PyData) (v : V), Dp K F v d → Dp K F' v d
  | .none, v, h => by cases h; exact .non
  | .bool b, v, h => by cases h; exact .bl b
  | .int b, v, h => by cases h; exact .int b
  | .str b, v, h => by cases h; exact .str b
  | .list ds, v, h => by
    cases h with
    | lst h1 h2 =>
      refine .lst ?_ (dpL_same sm ds _ h2)
      rcases h1 with (h | ⟨o, h⟩) | h
      · exact .inl (.inl (sm _ _ h))
      · exact .inl (.inr ⟨o, sm _ _ h⟩)
      · exact .inr h
  | .tuple ds, v, h => by
    cases h with
    | tup h1 h2 => exact .tup (sqT_same sm h1) (dpL_same sm ds _ h2)
  | .dict _, v, h => by cases h
theorem dpL_same {K : PySem.W.Frag} (sm : Same F F') : ∀ (ds : List PyData) (xs : List V), DpAll K F xs ds → DpAll K F' xs ds
  | [], xs, h => by cases h; exact .nil
  | d :: ds, xs, h => by
    cases h with
    | cons h1 h2 => exact .cons (dp_same sm d _ h1) (dpL_same sm ds _ h2)
end
def eqD (a b : D) : Bool := PyData.eqv (pyD a) (pyD b)
def dEq (neg : Bool) : D → D → Option A := fun a b => if (lay a 40 && lay b 40) = true then some (.d (.bl (if neg = true then !eqD a b else eqD a b))) else none
theorem vw_dp (w : Wo c s F H) {d : D} {n : Nat} (hl : lay d n = true) (h : Vw c F H d v) : Dp c.K H v (pyD d) ∧ (pyD d).canLay0 = true ∧ (pyD d).depth ≤ n := by
  cases d with
  | lst ds =>
    obtain ⟨_, p, vs, rfl, h1, h2⟩ := vw_lst h
    cases n with
    | zero => unfold lay at hl; cases hl
    | succ n =>
      unfold lay at hl
      obtain ⟨k1, k2, k3⟩ := rpL_dp ds vs n hl h2
      exact ⟨by unfold pyD; exact .lst (SqL.of h1) (dpL_same w.sub _ _ k1), by unfold pyD; rw [PyData.canLay0.eq_5]; exact k2, by unfold pyD; rw [PyData.depth.eq_def]; exact Nat.succ_le_succ k3⟩
  | dct ks ds => unfold lay at hl; cases hl
  | _ =>
    obtain ⟨k1, k2⟩ := rp_dp _ v n hl (show Rp c F _ v from h)
    exact ⟨dp_same w.sub _ _ k1, k2⟩
theorem os_eq : OpS c (rEqD c.K) (dEq false) := by
  intro H0 F H s d e x y z Q w hd hx hy hz q
  unfold dEq at hz
  split at hz
  · rename_i hl
    rw [Bool.and_eq_true] at hl
    cases hz
    obtain ⟨a1, a2, a3⟩ := vw_dp w hl.1 hx
    obtain ⟨b1, b2, b3⟩ := vw_dp w hl.2 hy
    refine ⟨_, _, a1, b1, ?_, ?_, newS w ra_bl q⟩
    · unfold SeqAt.shaped
      rw [a2, Bool.true_and, decide_eq_true_eq]
      omega
    · unfold SeqAt.shaped
      rw [b2, Bool.true_and, decide_eq_true_eq]
      omega
  · cases hz
theorem os_ne : OpS c (rNeD c.K) (dEq true) := by
  intro H0 F H s d e x y z Q w hd hx hy hz q
  unfold dEq at hz
  split at hz
  · rename_i hl
    rw [Bool.and_eq_true] at hl
    cases hz
    obtain ⟨a1, a2, a3⟩ := vw_dp w hl.1 hx
    obtain ⟨b1, b2, b3⟩ := vw_dp w hl.2 hy
    refine ⟨_, _, a1, b1, ?_, ?_, newS w ra_bl q⟩
    · unfold SeqAt.shaped
      rw [a2, Bool.true_and, decide_eq_true_eq]
      omega
    · unfold SeqAt.shaped
      rw [b2, Bool.true_and, decide_eq_true_eq]
      omega
  · cases hz
theorem op_eqA {X : Cx} (hK : X.K = c.K) (hu : X.A.units + 64 < cLine) : OpR X (compareOp .Eq) (rEqD c.K) := hK ▸ op_eqD hu
theorem op_neA {X : Cx} (hK : X.K = c.K) (hu : X.A.units + 64 < cLine) : OpR X (compareOp .NotEq) (rNeD c.K) := hK ▸ op_neD hu
/-! is -/
def D.isNon : D → Option Bool
  | .non => some true
  | .bot => none
  | _ => some false
def dIsN (neg : Bool) : D → D → Option A
  | d, .non => match d.isNon with
    | some b => some (.d (.bl (if neg = true then !b else b)))
    | none => none
  | _, _ => none
theorem isNon_v {d : D} {b : Bool} (h : d.isNon = some b) (g : Vw c F H d v) : decide (v = .non) = b := by
  cases d with
  | non => cases h; cases vw_non g; rfl
  | bl _ => cases h; cases vw_bl g; rfl
  | int _ => cases h; cases vw_int g; rfl
  | str _ => cases h; obtain ⟨rfl, _⟩ := vw_str g; rfl
  | tup _ => cases h; obtain ⟨_, _, _, rfl, _⟩ := rp_tup.mp (show Rp c F _ v from g); rfl
  | lst _ => cases h; obtain ⟨_, _, _, rfl, _⟩ := vw_lst g; rfl
  | dct _ _ => cases h; obtain ⟨_, _, _, rfl, _⟩ := g; rfl
  | drs => cases h; cases rp_drs.mp (show Rp c F _ v from g); rfl
  | bot => cases h
theorem os_isN : OpS c (fun x y H Q => y = .non ∧ Q (.bl (decide (x = .non))) H) (dIsN false) := by
  intro H0 F H s d e x y z Q w hd hx hy hz q
  unfold dIsN at hz
  split at hz
  · split at hz
    · rename_i b hb
      cases hz
      cases vw_non hy
      exact ⟨rfl, by rw [isNon_v hb hx]; exact newS w ra_bl q⟩
    · cases hz
  · cases hz
theorem os_notN : OpS c (fun x y H Q => y = .non ∧ Q (.bl (!decide (x = .non))) H) (dIsN true) := by
  intro H0 F H s d e x y z Q w hd hx hy hz q
  unfold dIsN at hz
  split at hz
  · split at hz
    · rename_i b hb
      cases hz
      cases vw_non hy
      exact ⟨rfl, by rw [isNon_v hb hx]; exact newS w ra_bl q⟩
    · cases hz
  · cases hz
def dIsB (neg : Bool) : D → D → Option A
  | .bl a, .bl b => some (.d (.bl (if neg = true then !(a == b) else a == b)))
  | _, _ => none
theorem os_isB : OpS c rIsB (dIsB false) := by
  intro H0 F H s d e x y z Q w hd hx hy hz q
  unfold dIsB at hz
  split at hz
  · rename_i a b
    cases hz
    refine ⟨_, _, vw_bl hx, vw_bl hy, ?_⟩
    rw [show decide (a = b) = (a == b) from by cases a <;> cases b <;> rfl]
    exact newS w ra_bl q
  · cases hz
theorem os_notB : OpS c rNotB (dIsB true) := by
  intro H0 F H s d e x y z Q w hd hx hy hz q
  unfold dIsB at hz
  split at hz
  · rename_i a b
    cases hz
    refine ⟨_, _, vw_bl hx, vw_bl hy, ?_⟩
    rw [show decide (a = b) = (a == b) from by cases a <;> cases b <;> rfl]
    exact newS w ra_bl q
  · cases hz
/-! in -/
def flatD : D → Bool
  | .non => true
  | .bl _ => true
  | .int _ => true
  | .str _ => true
  | _ => false
def vOf : D → V
  | .bl b => .bl b
  | .int b => .int b
  | .str b => .str b
  | _ => .non
theorem rp_flat {d : D} (h : flatD d = true) (r : Rp c F d v) : v = vOf d ∧ flatV v = true := by
  cases d with
  | non => cases rp_non.mp r; exact ⟨rfl, rfl⟩
  | bl b => cases rp_bl.mp r; exact ⟨rfl, rfl⟩
  | int b => cases rp_int.mp r; exact ⟨rfl, rfl⟩
  | str b => obtain ⟨rfl, _⟩ := rp_str.mp r; exact ⟨rfl, rfl⟩
  | _ => cases h
theorem rpL_flat : ∀ {ds : List D} {vs : List V}, ds.all flatD = true → RpL c F ds vs → vs = ds.map vOf ∧ vs.all flatV = true
  | [], vs, _, r => by cases rpL_nil.mp r; exact ⟨rfl, rfl⟩
  | d :: ds, vs, h, r => by
    rw [List.all_cons, Bool.and_eq_true] at h
    obtain ⟨v, r', rfl, h1, h2⟩ := rpL_cons.mp r
    obtain ⟨a1, a2⟩ := rp_flat h.1 h1
    obtain ⟨b1, b2⟩ := rpL_flat h.2 h2
    rw [List.map_cons, List.all_cons, ← a1, ← b1, a2, b2]
    exact ⟨rfl, rfl⟩
def memD (d : D) (ds : List D) : Bool := ds.any fun e => eqV (vOf e) (vOf d)
def dIn (neg : Bool) : D → D → Option A
  | d, .lst ds => if (flatD d && ds.all flatD) = true then some (.d (.bl (if neg = true then !memD d ds else memD d ds))) else none
  | d, .tup ds => if (flatD d && ds.all flatD) = true then some (.d (.bl (if neg = true then !memD d ds else memD d ds))) else none
  | _, _ => none
theorem vw_flat {d : D} (h : flatD d = true) (g : Vw c F H d v) : v = vOf d ∧ flatV v = true := by
  cases d with
  | lst ds => cases h
  | dct ks ds => cases h
  | _ => exact rp_flat h (show Rp c F _ v from g)
theorem inV_memD {d : D} {ds : List D} {vs : List V} (h1 : v = vOf d) (h2 : vs = ds.map vOf) : inV v vs = memD d ds := by
  unfold inV memD
  rw [h1, h2, List.any_map]
  rfl
theorem os_in {neg : Bool} : OpS c (rIn c.K neg) (dIn neg) := by
  intro H0 F H s d e x y z Q w hd hx hy hz q
  unfold dIn at hz
  split at hz
  · split at hz
    · rename_i ds hs
      rw [Bool.and_eq_true] at hs
      cases hz
      obtain ⟨a1, a2⟩ := vw_flat hs.1 hx
      obtain ⟨_, p, vs, rfl, h1, r1⟩ := vw_lst hy
      obtain ⟨b1, b2⟩ := rpL_flat hs.2 r1
      refine ⟨p, vs, rfl, .inl (SqL.of h1), a2, b2, ?_⟩
      rw [inV_memD a1 b1]
      exact newS w ra_bl q
    · cases hz
  · split at hz
    · rename_i ds hs
      rw [Bool.and_eq_true] at hs
      cases hz
      obtain ⟨a1, a2⟩ := vw_flat hs.1 hx
      obtain ⟨_, p, vs, rfl, h1, r1⟩ := vw_tup w hy
      obtain ⟨b1, b2⟩ := rpL_flat hs.2 r1
      refine ⟨p, vs, rfl, .inr h1, a2, b2, ?_⟩
      rw [inV_memD a1 b1]
      exact newS w ra_bl q
    · cases hz
  · cases hz
theorem op_inA {X : Cx} (hK : X.K = c.K) : OpR X (compareOp .In) (rIn c.K false) := hK ▸ op_in_seq
theorem op_notInA {X : Cx} (hK : X.K = c.K) : OpR X (compareOp .NotIn) (rIn c.K true) := hK ▸ op_notIn_seq
/-- a text in a text -/
def inS (x y : Str) : Bool := !(Builtin.Str.occurrences y x 0 y.length 1).isEmpty
def dInS (neg : Bool) : D → D → Option A
  | .str x, .str y => some (.d (.bl (if neg = true then !inS x y else inS x y)))
  | _, _ => none
theorem os_inS : OpS c (fun x y H Q => ∃ i j, x = .str i ∧ y = .str j ∧ Q (.bl (!(Builtin.Str.occurrences j i 0 j.length 1).isEmpty)) H) (dInS false) := by
  intro H0 F H s d e x y z Q w hd hx hy hz q
  unfold dInS at hz
  split at hz
  · cases hz
    obtain ⟨rfl, _⟩ := vw_str hx
    obtain ⟨rfl, _⟩ := vw_str hy
    exact ⟨_, _, rfl, rfl, newS w ra_bl q⟩
  · cases hz
theorem os_notInS : OpS c (fun x y H Q => ∃ i j, x = .str i ∧ y = .str j ∧ Q (.bl (!(!(Builtin.Str.occurrences j i 0 j.length 1).isEmpty))) H) (dInS true) := by
  intro H0 F H s d e x y z Q w hd hx hy hz q
  unfold dInS at hz
  split at hz
  · cases hz
    obtain ⟨rfl, _⟩ := vw_str hx
    obtain ⟨rfl, _⟩ := vw_str hy
    exact ⟨_, _, rfl, rfl, newS w ra_bl q⟩
  · cases hz
/-! places -/
def dIx : D → D → Option A
  | .lst ds, .int i => (atI ds i).map .d
  | .tup ds, .int i => (atI ds i).map .d
  | .str z, .int i => (atI z.cps.toList i).map fun k => .d (.str ⟨#[k]⟩)
  | _, _ => none
theorem atI_rp {ds : List D} {vs : List V} {i : Int} {d : D} (r : RpL c F ds vs) (h : atI ds i = some d) : ∃ v, atI vs i = some v ∧ Rp c F d v := by
  unfold atI at h ⊢
  rw [r.len]
  cases e : ixN ds.length i with
  | none => rw [e] at h; cases h
  | some j =>
    rw [e] at h
    obtain ⟨v, e1, r1⟩ := r.at j h
    exact ⟨v, e1, r1⟩
theorem ix_seqA {X : Cx} (hK : X.K = c.K) : IxR X (rIx c.K) := hK ▸ ix_seq
theorem os_ix : OpS c (rIx c.K) dIx := by
  intro H0 F H s d e x y z Q w hd hx hy hz q
  unfold dIx at hz
  split at hz
  · rename_i ds i
    cases e : atI ds i with
    | none => rw [e] at hz; cases hz
    | some d' =>
      rw [e] at hz
      cases hz
      obtain ⟨_, p, vs, rfl, h1, r1⟩ := vw_lst hx
      obtain ⟨v, ev, rv⟩ := atI_rp r1 e
      exact .inl ⟨p, vs, i, v, rfl, vw_int hy, SqL.of h1, ev, newS w (a := .d d') rv q⟩
  · rename_i ds i
    cases e : atI ds i with
    | none => rw [e] at hz; cases hz
    | some d' =>
      rw [e] at hz
      cases hz
      obtain ⟨_, p, vs, rfl, h1, r1⟩ := vw_tup w hx
      obtain ⟨v, ev, rv⟩ := atI_rp r1 e
      exact .inr (.inl ⟨p, vs, i, v, rfl, vw_int hy, h1, ev, newS w (a := .d d') rv q⟩)
  · rename_i t i
    cases e : atI t.cps.toList i with
    | none => rw [e] at hz; cases hz
    | some k =>
      rw [e] at hz
      cases hz
      obtain ⟨rfl, h1, h2⟩ := vw_str hx
      have hk : k ∈ t.cps.toList := by
        unfold atI at e
        cases e1 : ixN t.cps.toList.length i with
        | none => rw [e1] at e; cases e
        | some j => rw [e1] at e; exact List.mem_of_getElem? e
      exact .inr (.inr ⟨t, i, k, rfl, vw_int hy, Nat.le_of_lt (Nat.lt_of_le_of_lt h2 big), e, newS w (ra_str (strOk_mem h1 hk) (by show 1 ≤ 1000000; decide)) q⟩)
  · cases hz
/-! slices -/
def cutD (ds : List D) (lo hi : Option Int) : List D := (ds.drop (HT.sIx ds.length 0 lo)).take (HT.sIx ds.length ds.length hi - HT.sIx ds.length 0 lo)
theorem RpL.cut {ds : List D} {vs : List V} {lo hi : Option Int} (r : RpL c F ds vs) : RpL c F (cutD ds lo hi) (cutV vs lo hi) := by
  unfold cutD cutV
  rw [r.len]
  exact (r.drop _).take _
theorem cutD_len (ds : List D) (lo hi : Option Int) : (cutD ds lo hi).length ≤ ds.length := by
  unfold cutD
  rw [List.length_take, List.length_drop]
  omega
def dSlL : D → Option Int → Option Int → Option A
  | .lst ds, lo, hi => some (.own (cutD ds lo hi))
  | _, _, _ => none
def dSlT : D → Option Int → Option Int → Option A
  | .tup ds, lo, hi => some (.d (.tup (cutD ds lo hi)))
  | _, _, _ => none
theorem ss_list : SlS c (rSlL c.K) dSlL := by
  intro H0 F H s d lo hi x z Q w hd hx hz q
  unfold dSlL at hz
  split at hz
  · cases hz
    obtain ⟨hl, p, vs, rfl, h1, r1⟩ := vw_lst hx
    exact ⟨p, vs, rfl, SqL.of h1, fun p n => newL w r1.cut (Nat.le_trans (cutD_len _ _ _) hl) n (hd p n) q⟩
  · cases hz
theorem ss_tup : SlS c (rSlA c.K) dSlT := by
  intro H0 F H s d lo hi x z Q w hd hx hz q
  unfold dSlT at hz
  split at hz
  · rename_i ds
    cases hz
    have hx0 : Rp c F (.tup ds) x := hx
    obtain ⟨hl, p, vs, rfl, h1, r1⟩ := vw_tup w hx
    refine ⟨p, vs, rfl, h1, fun z => ?_, fun z p n => newT w r1.cut (Nat.le_trans (cutD_len _ _ _) hl) n q⟩
    have e : cutD ds lo hi = ds := by
      unfold cutD
      rw [← r1.len, z.1, z.2, List.drop_zero, r1.len, Nat.sub_zero, List.take_length]
    exact newS w (by rw [e]; exact hx0) q
  · cases hz
theorem sl_listA {X : Cx} (hK : X.K = c.K) : SlR X (rSlL c.K) := hK ▸ sl_list
theorem sl_tupA' {X : Cx} (hK : X.K = c.K) : SlR X (rSlA c.K) := hK ▸ sl_tupA
/-! calls of built-ins -/
theorem vwL1 {d : D} {vs : List V} (h : VwL c F H [d] vs) : ∃ v, vs = [v] ∧ Vw c F H d v := by
  obtain ⟨v, r, rfl, h1, h2⟩ := h
  cases h2
  exact ⟨v, rfl, h1⟩
theorem vwL2 {d e : D} {vs : List V} (h : VwL c F H [d, e] vs) : ∃ v u, vs = [v, u] ∧ Vw c F H d v ∧ Vw c F H e u := by
  obtain ⟨v, r, rfl, h1, h2⟩ := h
  obtain ⟨u, rfl, h3⟩ := vwL1 h2
  exact ⟨v, u, rfl, h1, h3⟩
def dLen : List D → Option A
  | [.lst ds] => some (.d (.int ds.length))
  | [.tup ds] => some (.d (.int ds.length))
  | [.str z] => some (.d (.int z.length))
  | _ => none
abbrev rLen (K : PySem.W.Frag) : List V → Hp → VK → Prop := fun xs H Q => (∃ p ys, xs = [.ref p] ∧ (SqL K H p ys ∨ SqT K H p ys) ∧ Q (.int ys.length) H) ∨ ∃ z, xs = [.str z] ∧ z.length ≤ sizeLine ∧ Q (.int z.length) H
theorem cl_len {X : Cx} (hK : X.K = c.K) : CallR X (.builtin "len") (rLen c.K) := hK ▸ call_len_seq.or call_len_str
theorem cs_len : CaS c (rLen c.K) dLen := by
  intro H0 F H s ds xs z Q w hd hx hz q
  unfold dLen at hz
  split at hz
  · cases hz
    obtain ⟨v, rfl, h⟩ := vwL1 hx
    obtain ⟨_, p, vs, rfl, h1, r1⟩ := vw_lst h
    exact .inl ⟨p, vs, rfl, .inl (SqL.of h1), by rw [r1.len]; exact newS w ra_int q⟩
  · cases hz
    obtain ⟨v, rfl, h⟩ := vwL1 hx
    obtain ⟨_, p, vs, rfl, h1, r1⟩ := vw_tup w h
    exact .inl ⟨p, vs, rfl, .inr h1, by rw [r1.len]; exact newS w ra_int q⟩
  · cases hz
    obtain ⟨v, rfl, h⟩ := vwL1 hx
    obtain ⟨rfl, _, h2⟩ := vw_str h
    exact .inr ⟨_, rfl, Nat.le_of_lt (Nat.lt_of_le_of_lt h2 big), newS w ra_int q⟩
  · cases hz
def dList : List D → Option A
  | [.lst ds] => some (.own ds)
  | [.tup ds] => some (.own ds)
  | _ => none
abbrev rList (K : PySem.W.Frag) : List V → Hp → VK → Prop := fun xs H Q => ∃ p ys, xs = [.ref p] ∧ (SqL K H p ys ∨ SqT K H p ys) ∧ ∀ l, H l = none → Q (.ref l) (upd H l (.lst ys))
theorem cl_list {X : Cx} (hK : X.K = c.K) : CallR X (.type "list") (rList c.K) := hK ▸ call_list_of
theorem cs_list : CaS c (rList c.K) dList := by
  intro H0 F H s ds xs z Q w hd hx hz q
  unfold dList at hz
  split at hz
  · cases hz
    obtain ⟨v, rfl, h⟩ := vwL1 hx
    obtain ⟨hl, p, vs, rfl, h1, r1⟩ := vw_lst h
    exact ⟨p, vs, rfl, .inl (SqL.of h1), fun l n => newL w r1 hl n (hd l n) q⟩
  · cases hz
    obtain ⟨v, rfl, h⟩ := vwL1 hx
    obtain ⟨hl, p, vs, rfl, h1, r1⟩ := vw_tup w h
    exact ⟨p, vs, rfl, .inr h1, fun l n => newL w r1 hl n (hd l n) q⟩
  · cases hz
def dTuple : List D → Option A
  | [.lst ds] => some (.d (.tup ds))
  | [.tup ds] => some (.d (.tup ds))
  | _ => none
abbrev rTuple (K : PySem.W.Frag) : List V → Hp → VK → Prop := fun xs H Q => ∃ p ys, xs = [.ref p] ∧ ((SqL K H p ys ∧ ∀ l, H l = none → Q (.ref l) (upd H l (.tup ys))) ∨ (SqT K H p ys ∧ Q (.ref p) H))
theorem cl_tuple {X : Cx} (hK : X.K = c.K) : CallR X (.type "tuple") (rTuple c.K) := hK ▸ call_tuple_of
theorem cs_tuple : CaS c (rTuple c.K) dTuple := by
  intro H0 F H s ds xs z Q w hd hx hz q
  unfold dTuple at hz
  split at hz
  · cases hz
    obtain ⟨v, rfl, h⟩ := vwL1 hx
    obtain ⟨hl, p, vs, rfl, h1, r1⟩ := vw_lst h
    exact ⟨p, vs, rfl, .inl ⟨SqL.of h1, fun l n => newT w r1 hl n q⟩⟩
  · rename_i ds
    cases hz
    obtain ⟨v, rfl, h⟩ := vwL1 hx
    have h0 : Rp c F (.tup ds) v := h
    obtain ⟨hl, p, vs, rfl, h1, r1⟩ := vw_tup w h
    exact ⟨p, vs, rfl, .inr ⟨h1, newS w (a := .d (.tup ds)) h0 q⟩⟩
  · cases hz
/-- a list of numbers -/
def dints : List D → Option (List Int)
  | [] => some []
  | .int i :: ds => match dints ds with
    | some ns => some (i :: ns)
    | none => none
  | _ :: _ => none
theorem dints_map : ∀ {ds : List D} {ns : List Int}, dints ds = some ns → ds = ns.map .int
  | [], ns, h => by cases h; rfl
  | d :: ds, ns, h => by
    cases d with
    | int i =>
      unfold dints at h
      cases e : dints ds with
      | none => rw [e] at h; cases h
      | some ms =>
        rw [e] at h
        cases h
        rw [List.map_cons, ← dints_map e]
    | _ => unfold dints at h; cases h
theorem map_ints : ∀ (ns : List Int), dints (ns.map .int) = some ns
  | [] => rfl
  | n :: ns => by
    show dints (.int n :: ns.map .int) = _
    unfold dints
    rw [map_ints ns]
theorem rpL_ints : ∀ {ns : List Int} {vs : List V}, RpL c F (ns.map .int) vs → vs = ns.map V.int
  | [], vs, h => rpL_nil.mp h
  | n :: ns, vs, h => by
    obtain ⟨v, r, rfl, h1, h2⟩ := rpL_cons.mp h
    rw [rp_int.mp h1, rpL_ints h2]
    rfl
theorem ints_rpL : ∀ (ns : List Int), RpL c F (ns.map .int) (ns.map V.int)
  | [] => rpL_nil.mpr rfl
  | n :: ns => rpL_cons.mpr ⟨_, _, rfl, rp_int.mpr rfl, ints_rpL ns⟩
def dSum : List D → Option A
  | [.lst ds] => (dints ds).map fun ns => .d (.int ns.sum)
  | _ => none
theorem cl_sum {X : Cx} (hK : X.K = c.K) (hc : X.calm = true) : CallR X (.builtin "sum") (rSum c.K) := hK ▸ cr_sum hc
theorem cs_sum : CaS c (rSum c.K) dSum := by
  intro H0 F H s ds xs z Q w hd hx hz q
  unfold dSum at hz
  split at hz
  · rename_i ds
    cases e : dints ds with
    | none => rw [e] at hz; cases hz
    | some ns =>
      rw [e] at hz
      cases hz
      obtain ⟨v, rfl, h⟩ := vwL1 hx
      obtain ⟨hl, p, vs, rfl, h1, r1⟩ := vw_lst h
      rw [dints_map e] at r1
      rw [rpL_ints r1] at h1
      exact ⟨p, ns, rfl, SqL.of h1, newS w ra_int q⟩
  · cases hz
def dSorted : List D → Option A
  | [.lst ds] => (dints ds).map fun ns => .own ((ns.mergeSort fun x y => decide (x ≤ y)).map .int)
  | _ => none
theorem cl_sorted {X : Cx} (hK : X.K = c.K) : CallR X (.builtin "sorted") (rSortedI c.K) := hK ▸ cr_sortedI
theorem cs_sorted : CaS c (rSortedI c.K) dSorted := by
  intro H0 F H s ds xs z Q w hd hx hz q
  unfold dSorted at hz
  split at hz
  · rename_i ds
    cases e : dints ds with
    | none => rw [e] at hz; cases hz
    | some ns =>
      rw [e] at hz
      cases hz
      obtain ⟨v, rfl, h⟩ := vwL1 hx
      obtain ⟨hl, p, vs, rfl, h1, r1⟩ := vw_lst h
      have em := dints_map e
      rw [em] at r1
      rw [rpL_ints r1] at h1
      refine ⟨p, ns, rfl, SqL.of h1, fun ns' p hp hs n => ?_⟩
      rw [PySem.W.os_sorted_mergeSort hp hs]
      refine newL w (ints_rpL _) ?_ n (hd p n) q
      rw [List.length_map, (List.mergeSort_perm ns _).length_eq, ← List.length_map (f := D.int), ← em]
      exact hl
  · cases hz
def dMax2 : List D → Option A
  | [.int i, .int j] => some (.d (.int (if j > i then j else i)))
  | _ => none
def dMin2 : List D → Option A
  | [.int i, .int j] => some (.d (.int (if j < i then j else i)))
  | _ => none
theorem cs_max2 : CaS c (fun xs H Q => ∃ i j, xs = [.int i, .int j] ∧ Q (.int (if j > i then j else i)) H) dMax2 := by
  intro H0 F H s ds xs z Q w hd hx hz q
  unfold dMax2 at hz
  split at hz
  · cases hz
    obtain ⟨v, u, rfl, h1, h2⟩ := vwL2 hx
    exact ⟨_, _, by rw [vw_int h1, vw_int h2], newS w ra_int q⟩
  · cases hz
theorem cs_min2 : CaS c (fun xs H Q => ∃ i j, xs = [.int i, .int j] ∧ Q (.int (if j < i then j else i)) H) dMin2 := by
  intro H0 F H s ds xs z Q w hd hx hz q
  unfold dMin2 at hz
  split at hz
  · cases hz
    obtain ⟨v, u, rfl, h1, h2⟩ := vwL2 hx
    exact ⟨_, _, by rw [vw_int h1, vw_int h2], newS w ra_int q⟩
  · cases hz
def dAbs : List D → Option A
  | [.int i] => some (.d (.int (if i < 0 then -i else i)))
  | _ => none
theorem cs_abs : CaS c (fun xs H Q => ∃ i, xs = [.int i] ∧ Q (.int (if i < 0 then -i else i)) H) dAbs := by
  intro H0 F H s ds xs z Q w hd hx hz q
  unfold dAbs at hz
  split at hz
  · cases hz
    obtain ⟨v, rfl, h1⟩ := vwL1 hx
    exact ⟨_, by rw [vw_int h1], newS w ra_int q⟩
  · cases hz
def dInt : List D → Option A
  | [.int i] => some (.d (.int i))
  | [.bl k] => some (.d (.int (if k then 1 else 0)))
  | _ => none
theorem cs_int : CaS c (fun xs H Q => (∃ i, xs = [.int i] ∧ Q (.int i) H) ∨ ∃ k, xs = [.bl k] ∧ Q (.int (if k then 1 else 0)) H) dInt := by
  intro H0 F H s ds xs z Q w hd hx hz q
  unfold dInt at hz
  split at hz
  · cases hz
    obtain ⟨v, rfl, h1⟩ := vwL1 hx
    exact .inl ⟨_, by rw [vw_int h1], newS w ra_int q⟩
  · cases hz
    obtain ⟨v, rfl, h1⟩ := vwL1 hx
    exact .inr ⟨_, by rw [vw_bl h1], newS w ra_int q⟩
  · cases hz
def gcdI (a b : Int) : Int := ((Nat.gcd a.natAbs b.natAbs : Nat) : Int)
def dGcd : List D → Option A
  | [.int a, .int b] => some (.d (.int (gcdI a b)))
  | _ => none
theorem cs_gcd : CaS c rGcd dGcd := by
  intro H0 F H s ds xs z Q w hd hx hz q
  unfold dGcd at hz
  split at hz
  · cases hz
    obtain ⟨v, u, rfl, h1, h2⟩ := vwL2 hx
    exact ⟨_, _, by rw [vw_int h1, vw_int h2], newS w ra_int q⟩
  · cases hz
end
end Mi
/-! own: kinds of values, the state of draws, a law's own body -/
namespace Mi
open PySem PySem.Spec PyProof.Rows L2 Kt Kj
def D.ty : D → Option String
  | .non => some "NoneType"
  | .bl _ => some "bool"
  | .int _ => some "int"
  | .str _ => some "str"
  | .tup _ => some "tuple"
  | .lst _ => some "list"
  | .dct _ _ => some "dict"
  | _ => none
def dTy (neg : Bool) (T : String) : D → Option A := fun d => match d.ty with
  | some t => some (.d (.bl (if neg = true then !decide (t = T) else decide (t = T))))
  | none => none
section
variable {c : Cc} {F0 H0 F H F' H' Hb : Hp} {s : Sx} {W : WX} {X : Cx} {pos p1 p2 p3 : Pos} {a b : Expr} {v : V} {m1 m2 : Mv} {t1 : Mb}
theorem vw_tyb (w : Wo c s F H) {d : D} {T : String} (h : d.ty = some T) (g : Vw c F H d v) : TyB c.K H v T := by
  cases d with
  | non => cases h; cases vw_non g; exact .non
  | bl _ => cases h; cases vw_bl g; exact .bl _
  | int _ => cases h; cases vw_int g; exact .int _
  | str _ => cases h; obtain ⟨rfl, _⟩ := vw_str g; exact .str _
  | tup _ => cases h; obtain ⟨_, p, vs, rfl, h1, _⟩ := vw_tup w g; exact .tup h1
  | lst _ => cases h; obtain ⟨_, p, vs, rfl, h1, _⟩ := vw_lst g; exact .lst (SqL.of h1)
  | dct _ _ => cases h; obtain ⟨_, p, vs, rfl, h1, _⟩ := g; exact .dK h1
  | drs => cases h
  | bot => cases h
variable [hq : Dq c H0]
theorem ty_sound {neg : Bool} {T : String} {σ : L2.St} {Q : VK} {r : R2} (hr : ∀ {a b : String} {H : Hp} {Q : VK}, Q (.bl (if neg = true then !decide (a = b) else decide (a = b))) H → r (.ty a) (.ty b) H Q)
    (h : rd c F0 H0 W (fun Hb F H a v => RA c H0 Hb F H a v) (mUn (dTy neg T) m1) σ H Q) : rd c F0 H0 W (fun Hb F H a v => RA c H0 Hb F H a v) m1 σ H (fun x H1 => rTyp c.K [x] H1 fun y H2 => r y (.ty T) H2 Q) := by
  obtain ⟨F, e, s, hh, p⟩ := h
  refine rd_mono (bindE (R' := fun Hb F H a v => RA c H0 Hb F H a v) hh (fun h r => r.since h) p) fun x H1 ⟨F1, s1, a1, h1, g1, r1, p1⟩ => ?_
  obtain ⟨z, ez, q⟩ := post_opt p1
  unfold dTy at ez
  split at ez
  · rename_i t ht
    cases ez
    exact ⟨x, t, rfl, vw_tyb h1.w ht (r1.vw h1.w), hr (newS h1.w ra_bl q)⟩
  · cases ez
theorem me_tyIs {T : String} {xT : Str} (hK : X.K = c.K) (hg : Gl X "type") (hm : X.mg "type" = none) (hgT : Gl X xT) (hmT : X.mg xT = none) (hvT : bootBuiltins xT = some (.type T)) (ha : ME c F0 H0 W X a m1) (hn : xT ≠ "__name__" := by decide) (hd : (xT == ("__debug__" : Str)) = false := by decide)
    (he : starEach [a] X.env = (false, eval a X.env) :: starEach [] X.env := by rfl) : ME c F0 H0 W X (.Compare (.Call (.Name "type" p1) [a] [] p2) [.Is] [.Name xT p3] pos) (mUn (dTy false T) m1) := by
  refine pe_mono (pe_cmpR op_isTyB (pe_callTy call_type1 hg hm (by decide +kernel) (pa_cons ha pa_nil he) (by decide) (by decide) he (by rfl)) (pe_bltn (v := .ty T) hgT hmT hvT rfl hn hd) (nomark _)) fun σ H Q h => ?_
  rw [hK]
  exact ty_sound (neg := false) (r := fun x y H Q => ∃ a b, x = .ty a ∧ y = .ty b ∧ Q (.bl (decide (a = b))) H) (fun q => ⟨_, _, rfl, rfl, q⟩) h
theorem me_tyNot {T : String} {xT : Str} (hK : X.K = c.K) (hg : Gl X "type") (hm : X.mg "type" = none) (hgT : Gl X xT) (hmT : X.mg xT = none) (hvT : bootBuiltins xT = some (.type T)) (ha : ME c F0 H0 W X a m1) (hn : xT ≠ "__name__" := by decide) (hd : (xT == ("__debug__" : Str)) = false := by decide)
    (he : starEach [a] X.env = (false, eval a X.env) :: starEach [] X.env := by rfl) : ME c F0 H0 W X (.Compare (.Call (.Name "type" p1) [a] [] p2) [.IsNot] [.Name xT p3] pos) (mUn (dTy true T) m1) := by
  refine pe_mono (pe_cmpR op_notTyB (pe_callTy call_type1 hg hm (by decide +kernel) (pa_cons ha pa_nil he) (by decide) (by decide) he (by rfl)) (pe_bltn (v := .ty T) hgT hmT hvT rfl hn hd) (nomark _)) fun σ H Q h => ?_
  rw [hK]
  exact ty_sound (neg := true) (r := rNT) (fun q => ⟨_, _, rfl, rfl, q⟩) h
theorem mt_tyIs {T : String} {xT : Str} (hK : X.K = c.K) (hg : Gl X "type") (hm : X.mg "type" = none) (hgT : Gl X xT) (hmT : X.mg xT = none) (hvT : bootBuiltins xT = some (.type T)) (ha : ME c F0 H0 W X a m1) (hn : xT ≠ "__name__" := by decide) (hd : (xT == ("__debug__" : Str)) = false := by decide)
    (he : starEach [a] X.env = (false, eval a X.env) :: starEach [] X.env := by rfl) : MT c F0 H0 W X (.Compare (.Call (.Name "type" p1) [a] [] p2) [.Is] [.Name xT p3] pos) (mBool (mUn (dTy false T) m1)) := by
  refine mt_of (pt_cmpR op_isTyB (pe_callTy call_type1 hg hm (by decide +kernel) (pa_cons ha pa_nil he) (by decide) (by decide) he (by rfl)) (pe_bltn (v := .ty T) hgT hmT hvT rfl hn hd) (nomark _)) fun σ H Q h => ?_
  rw [hK]
  exact ty_sound (neg := false) (r := fun x y H Q => ∃ a b, x = .ty a ∧ y = .ty b ∧ Q (.bl (decide (a = b))) H) (fun q => ⟨_, _, rfl, rfl, q⟩) h
theorem mt_tyNot {T : String} {xT : Str} (hK : X.K = c.K) (hg : Gl X "type") (hm : X.mg "type" = none) (hgT : Gl X xT) (hmT : X.mg xT = none) (hvT : bootBuiltins xT = some (.type T)) (ha : ME c F0 H0 W X a m1) (hn : xT ≠ "__name__" := by decide) (hd : (xT == ("__debug__" : Str)) = false := by decide)
    (he : starEach [a] X.env = (false, eval a X.env) :: starEach [] X.env := by rfl) : MT c F0 H0 W X (.Compare (.Call (.Name "type" p1) [a] [] p2) [.IsNot] [.Name xT p3] pos) (mBool (mUn (dTy true T) m1)) := by
  refine mt_of (pt_cmpR op_notTyB (pe_callTy call_type1 hg hm (by decide +kernel) (pa_cons ha pa_nil he) (by decide) (by decide) he (by rfl)) (pe_bltn (v := .ty T) hgT hmT hvT rfl hn hd) (nomark _)) fun σ H Q h => ?_
  rw [hK]
  exact ty_sound (neg := true) (r := rNT) (fun q => ⟨_, _, rfl, rfl, q⟩) h
/-! a op b op' c -/
theorem chain_sound {g g' : D → D → Option A} {r r' : R2} {m3 : Mv} {ta tb tc : TE} {σ : L2.St} {Q : VK} (hg : OpS c r g) (hg' : OpS c r' g')
    (h : rd c F0 H0 W (fun Hb F H a v => RA c H0 Hb F H a v) (mChain g g' m1 m2 m3) σ H Q) :
    rd c F0 H0 W (fun Hb F H a v => RA c H0 Hb F H a v) m1 σ H fun x H1 => rd c F0 H0 W (fun Hb F H a v => RA c H0 Hb F H a v) m2 σ H1 fun y H2 => r x y H2 fun z H3 => ∃ k, z = .bl k ∧
      if k = true then rd c F0 H0 W (fun Hb F H a v => RA c H0 Hb F H a v) m3 σ H3 fun u H4 => r' y u H4 Q else Q (.bl false) H3 := by
  obtain ⟨F, e, s, hh, p⟩ := h
  refine rd_mono (bindE (R' := fun Hb F H a v => RA c H0 Hb F H a v) hh (fun h r => r.since h) p) fun x H1 ⟨F1, s1, a1, h1, g1, r1, p1⟩ => ?_
  refine rd_mono (bindE (R' := fun Hb F H a v => RA c H0 Hb F H a v) h1 (fun h r => r.since h) p1) fun y H2 ⟨F2, s2, a2, h2, g2, r2, p2⟩ => ?_
  obtain ⟨k, ek, p3⟩ := post_o p2
  refine hg (H0 := H0) h2.w h2.dq ((r1.go g2).vw h2.w) (r2.vw h2.w) ek fun z F3 H3 w3 g3 r3 => ?_
  obtain ⟨k', ek', p4⟩ := post_o p3
  refine ⟨k', asB_some ek' (show RA c H0 H2 F3 H3 k z from r3), ?_⟩
  have p5 := p4.go g3
  cases k' with
  | true =>
    rw [if_pos rfl] at p5 ⊢
    have h3 := h2.go g3 w3
    refine rd_mono (bindK h3 p5) fun u H4 ⟨F4, s4, a4, h4, g4, r4, p6⟩ => ?_
    obtain ⟨z2, ez2, q2⟩ := post_oD p6
    exact hg' (H0 := H0) h4.w h4.dq (((r2.go g3).go g4).vw h4.w) (r4.vw h4.w) ez2 fun v F' H' w g r => q2 v F' H' w (g4.trans g) (r.since fun p n => g3.free (g4.free n))
  | false =>
    rw [if_neg (by simp)] at p5 ⊢
    exact p5 _ F3 H3 w3 .refl ra_bl
theorem me_chain {d : Expr} {op op' : CmpOp} {r r' : R2} {g g' : D → D → Option A} {m3 : Mv} (ho : OpR X (compareOp op) r) (ho' : OpR X (compareOp op') r') (hg : OpS c r g) (hg' : OpS c r' g') (ha : ME c F0 H0 W X a m1) (hb : ME c F0 H0 W X b m2) (hc : ME c F0 H0 W X d m3)
    (hP : ∀ {ta tb tc : TE}, PE X a ta → PE X b tb → PE X d tc → PE X (.Compare a [op, op'] [b, d] pos) (tChain r r' ta tb tc)) : ME c F0 H0 W X (.Compare a [op, op'] [b, d] pos) (mChain g g' m1 m2 m3) :=
  pe_mono (hP ha hb hc) fun σ H Q h => chain_sound (ta := fun _ _ _ => True) (tb := fun _ _ _ => True) (tc := fun _ _ _ => True) hg hg' h
/-! the state of draws -/
/-- a, b, c = draws -/
def mDrsGet (i j k l : Nat) : Ms := fun e s => match e[i]?, s with
  | some (some (.d .drs)), some d => if d.cs.length ≤ 1000000 then .nx (((e.set j (some (.d (.int d.t)))).set k (some (.d (.int d.l)))).set l (some (.d (.lst (d.cs.map .int))))) s else .bad
  | _, _ => .bad
/-- draws[0] = .., draws[1] = .. -/
def mDrsPut (i : Nat) (one : Bool) (m : Mv) : Ms := inE m fun e a s => match e[i]?, a, s with
  | some (some (.d .drs)), .d (.int n), some d => .nx e (some (if one = true then ⟨d.t, n, d.cs⟩ else ⟨n, d.l, d.cs⟩))
  | _, _, _ => .bad
theorem ms_drsGet {i j k l : Nat} {tg : Expr} (hK : X.K = c.K)
    (hP : PS X (.Assign [tg] a pos) (tAsg (tVar i) (gLst X.K 3 (gCons (gName j) (gCons (gName k) (gCons (gName l) gNil)))))) :
    MS c F0 H0 W X (.Assign [tg] a pos) (mDrsGet i j k l) := by
  refine ps_mono hP fun D σ H ⟨F, e, s, hh, p⟩ => ?_
  unfold mDrsGet at p
  split at p
  · rename_i d hi
    split at p
    · rename_i hlen
      obtain ⟨v, ev, r⟩ := hh.n.at' i _ hi
      cases rp_drs.mp (show Rp c F _ v from r)
      obtain ⟨d1, q, d2, d3⟩ := hh.w.ds
      refine ⟨_, ev, c.dq, _, rfl, SqL.of d2, rfl, _, _, rfl, _, _, rfl, _, _, rfl, rfl, ?_⟩
      refine p _ F H (Same.refl _) ⟨hh.w, hh.g, ((hh.n.setD (rp_int.mpr rfl)).setD (rp_int.mpr rfl)).setD ?_⟩
      exact rp_lst.mpr ⟨by rw [List.length_map]; exact hlen, q, _, rfl, d3, ints_rpL _⟩
    · exact p.elim
  · exact p.elim
theorem drs_put {d : DS} {one : Bool} {n : Int} (w : Wo c (some d) F H) : ∃ q : Addr, H c.dq = some (.lst [.int d.t, .int d.l, .ref q]) ∧
    Wo c (some (if one = true then ⟨d.t, n, d.cs⟩ else ⟨n, d.l, d.cs⟩)) F (upd H c.dq (.lst ([V.int d.t, V.int d.l, V.ref q].set (if one = true then 1 else 0) (.int n)))) ∧
    Go c F H F (upd H c.dq (.lst ([V.int d.t, V.int d.l, V.ref q].set (if one = true then 1 else 0) (.int n)))) := by
  obtain ⟨d1, q, d2, d3⟩ := w.ds
  have nt : ∀ b ps, H b = some (.tbl ps) → b ≠ c.dq := fun b ps e z => by rw [z, d2] at e; cases e
  refine ⟨q, d2, ⟨fun b u e => ?_, w.tg.putM (fun u z => by rw [d2] at z; cases z; exact True.intro), w.nt, ?_⟩, ⟨Same.refl F, fun b u e hb hn => ?_, fun b ps e => ?_, fun u e => ?_, fun t l q' e => ?_, fun _ _ e _ => e⟩⟩
  · rw [upd_ne (fun z => by rw [z, d1] at e; cases e)]
    exact w.sub b u e
  · cases one with
    | true => exact ⟨d1, q, upd_same, d3⟩
    | false => exact ⟨d1, q, upd_same, d3⟩
  · rw [upd_ne hb]
    exact e
  · exact ⟨ps, by rw [upd_ne (nt b ps e)]; exact e⟩
  · exact ⟨_, upd_same⟩
  · rw [d2] at e
    have e2 := HO.lst.inj (Option.some.inj e)
    have e3 := (List.cons.inj e2).2
    have e4 := (List.cons.inj e3).2
    have e5 := (List.cons.inj e4).1
    cases one with
    | true => exact ⟨.int d.t, .int n, by rw [upd_same, ← e5]; rfl⟩
    | false => exact ⟨.int n, .int d.l, by rw [upd_same, ← e5]; rfl⟩
theorem ms_drsPut {i : Nat} {one : Bool} {o : Expr} {kpos : Pos} {m1 : Mv} {kk : Expr} (hkk : PE X kk (tC (.int (if one = true then 1 else 0)))) (ho : PE X o (tVar i)) (he : ME c F0 H0 W X a m1)
    (hP : ∀ {te : TE}, PE X a te → PS X (.Assign [.Subscript o kk kpos] a pos) (tAsg te (gSub (tVar i) (tC (.int (if one = true then 1 else 0))) rSetL))) :
    MS c F0 H0 W X (.Assign [.Subscript o kk kpos] a pos) (mDrsPut i one m1) := by
  refine ps_mono (hP he) fun D σ H ⟨F, e, s, hh, p⟩ => ?_
  refine rd_mono (bindS hh p) fun v H1 ⟨F1, s1, y, h1, g1, r1, p1⟩ => ?_
  try dsimp only at p1
  split at p1
  · rename_i n d hi
    obtain ⟨v', ev, r⟩ := h1.n.at' i _ hi
    cases rp_drs.mp (show Rp c F1 _ v' from r)
    cases rp_int.mp (show Rp c F1 _ v from r1)
    obtain ⟨q, d2, w2, g2⟩ := drs_put (one := one) (n := n) h1.w
    refine ⟨_, ev, c.dq, _, if one = true then 1 else 0, if one = true then 1 else 0, rfl, rfl, d2, by cases one <;> rfl, p1 σ F1 _ (Same.refl _) (h1.go g2 w2)⟩
  · exact p1.elim
/-! a built-in that the module imports -/
theorem me_callBfun {x : Str} {id : String} {q : Pos} {es : List Expr} {r : List V → Hp → VK → Prop} {g : List D → Option A} {ms : List Mv} (hc : CallR X (.builtin id) r) (hs : CaS c r g) (hg : Gl X x) (hm : X.mg x = some (.builtin id)) (ha : MA c F0 H0 W X (a :: es) (mArgs ms))
    (hP : ∀ {t : TA}, PA X (a :: es) t → PE X (.Call (.Name x q) (a :: es) [] pos) (tCB r t)) : ME c F0 H0 W X (.Call (.Name x q) (a :: es) [] pos) (mCall g ms) := by
  refine pe_mono (hP ha) fun σ H Q ⟨F, e, s, hh, p⟩ => ?_
  refine rd_mono (bindE (R' := fun Hb F H a v => RA c H0 Hb F H a v) hh (fun h r => r.since h) p) fun x H1 ⟨F1, s1, as, h1, g1, r1, p1⟩ => ?_
  obtain ⟨z, ez, q⟩ := post_opt p1
  exact hs h1.w h1.dq (r1.vw h1.w) ez q
end
/-! isinstance -/
section
variable {c : Cc} {F0 H0 F H : Hp} {s : Sx} {W : WX} {X : Cx} {pos p1 p3 : Pos} {a : Expr} {v : V} {m1 : Mv} [hq : Dq c H0]
def D.ty' : D → Option String
  | .dct _ _ => none
  | d => d.ty
theorem vw_tyx (w : Wo c s F H) {d : D} {T : String} (h : d.ty' = some T) (g : Vw c F H d v) : TyX c.K H v (.type T) := by
  cases d with
  | non => cases h; cases vw_non g; exact .base .non
  | bl _ => cases h; cases vw_bl g; exact .base (.bl _)
  | int _ => cases h; cases vw_int g; exact .base (.int _)
  | str _ => cases h; obtain ⟨rfl, _⟩ := vw_str g; exact .base (.str _)
  | tup _ =>
    cases h
    obtain ⟨_, p, vs, rfl, h1, _⟩ := vw_tup w g
    rcases h1 with (h1 | ⟨o, h1⟩) | ⟨o, its, n, h1, h2, _⟩
    · exact .base (.tup h1)
    · exact .fTuple h1
    · exact .kTuple h1 h2
  | lst _ => cases h; obtain ⟨_, p, vs, rfl, h1, _⟩ := vw_lst g; exact .base (.lst h1)
  | dct _ _ => cases h
  | drs => cases h
  | bot => cases h
/-- isinstance's answer for the plain kinds -/
def kin (t T : String) : Bool := t == T || (t == "bool" && T == "int")
def plainT (t : String) : Bool := t == "NoneType" || t == "bool" || t == "int" || t == "str" || t == "tuple" || t == "list"
theorem kin_ok {K : PySem.W.Frag} {t T : String} (h1 : plainT t = true) (h2 : plainT T = true) (h3 : T ≠ "NoneType") : PySem.W.kitOne K (.type t) (.type T) = some (kin t T) := by
  have all : ∀ t ∈ ["NoneType", "bool", "int", "str", "tuple", "list"], ∀ T ∈ ["bool", "int", "str", "tuple", "list"], kitB t T = some (kin t T) := by decide +kernel
  have mem : ∀ t : String, plainT t = true → t ∈ ["NoneType", "bool", "int", "str", "tuple", "list"] := fun t h => by
    unfold plainT at h
    simp only [Bool.or_eq_true, beq_iff_eq] at h
    rcases h with ((((h | h) | h) | h) | h) | h <;> subst h <;> simp
  refine kit_ty (all t (mem t h1) T ?_)
  have := mem T h2
  rcases List.mem_cons.mp this with z | z
  · exact (h3 z).elim
  · exact z
def dIsi (T : String) : D → Option A := fun d => match d.ty' with
  | some t => if (plainT t && plainT T && (T != "NoneType")) = true then some (.d (.bl (kin t T))) else none
  | none => none
theorem me_isi {T : String} {xT : Str} (hK : X.K = c.K) (hg : Gl X "isinstance") (hm : X.mg "isinstance" = none) (hgT : Gl X xT) (hmT : X.mg xT = none) (hvT : bootBuiltins xT = some (.type T)) (ha : ME c F0 H0 W X a m1) (hn : xT ≠ "__name__" := by decide) (hd : (xT == ("__debug__" : Str)) = false := by decide)
    (he : starEach [a, .Name xT p3] X.env = (false, eval a X.env) :: starEach [.Name xT p3] X.env := by rfl) (he2 : starEach [.Name xT p3] X.env = (false, eval (.Name xT p3) X.env) :: starEach [] X.env := by rfl) (hpl : (backTo pos (starEach [.Name xT p3] X.env)).any (·.1) = false := by rfl) :
    ME c F0 H0 W X (.Call (.Name "isinstance" p1) [a, .Name xT p3] [] pos) (mUn (dIsi T) m1) := by
  refine pe_mono (pe_callB call_isi hg hm (by decide +kernel) (pa_cons ha (pa_cons (pe_bltn (v := .ty T) hgT hmT hvT rfl hn hd) pa_nil he2) he) (by decide) (by decide) he hpl) fun σ H Q ⟨F, e, s, hh, p⟩ => ?_
  rw [hK]
  refine rd_mono (bindE (R' := fun Hb F H a v => RA c H0 Hb F H a v) hh (fun h r => r.since h) p) fun x H1 ⟨F1, s1, a1, h1, g1, r1, p1⟩ => ?_
  obtain ⟨z, ez, q⟩ := post_opt p1
  unfold dIsi at ez
  split at ez
  · rename_i t ht
    split at ez
    · rename_i hp
      cases ez
      simp only [Bool.and_eq_true, bne_iff_ne] at hp
      exact ⟨x, .ty T, _, _, _, rfl, .ty T, vw_tyx h1.w ht (r1.vw h1.w), kin_ok hp.1.1 hp.1.2 hp.2, newS h1.w ra_bl q⟩
    · cases ez
  · cases ez
end
end Mi
/-! own: the error that is told, a law's own body -/
namespace Mi
open PySem PySem.Spec PyProof.Rows L2 Kt Kj
section
variable {c : Cc} {F0 H0 F H F' H' : Hp} {s : Sx} {X : Cx} {pos q : Pos}
theorem Wo.ofSame (w : Wo c s F H) (h : Same H H') : Wo c s F H' := by
  refine ⟨w.sub.trans h, w.tg.same h, w.nt, ?_⟩
  have e := w.ds
  cases s with
  | none => trivial
  | some d =>
    obtain ⟨e1, q, e2, e3⟩ := e
    exact ⟨e1, q, h _ _ e2, e3⟩
theorem Go.ofSame (h : Same H H') : Go c F H F H' := ⟨Same.refl F, fun b o e _ _ => h b o e, fun b ps e => ⟨ps, h b _ e⟩, fun o e => ⟨o, h _ o e⟩, fun t l q e => ⟨t, l, h _ _ e⟩, fun _ _ e _ => e⟩
def nmE : Ek → Str
  | .OR => "OutOfRange"
  | .MA => "Malformed"
  | .NT => "NotThere"
  | .RE => "Refused"
  | .TM => "TooMuch"
theorem nmE_ok (k : Ek) : PyData.strOk (nmE k) = true ∧ (nmE k).length ≤ 1000000 := by cases k <;> exact ⟨by decide +kernel, by decide +kernel⟩
def mTold (i : Nat) : Mv := fun e s => match e[i]? with
  | some (some (.exc k)) => .ok (.d (.str (nmE k))) s
  | _ => .bad
theorem me_told {i j n : Nat} {k : Ek} {a : Addr} {oe : Obj} {pn : List (Addr × Obj)} {x : Str} {ps : List Str} {sp : Addr → Value → Option Addr → Sp} {o : Expr}
    (hz : L2N.Zn (.ref (c.ca k)) none oe) (hf : ∃ vs, oe.data = .fields vs) (hr : Room n X.A) (P : Kh.PromE X.prog X.w X.K X.mg X.base j x ps (Kh.byP sp))
    (hsp : ∀ (a : Addr) (k : Ek) (H : Hp) (Q : VK) (E : XK), (∀ H', Same H H' → Q (.str (nmE k)) H') → sp a (.ref (c.ca k)) none [.ref a] H Q E)
    (ho : PE (X.suite a ((a, oe) :: pn)) o (tVar i)) (hg : Gl (X.suite a ((a, oe) :: pn)) x := by rfl) (hj : j ≤ n := by decide) (hdb : (x == ("__debug__" : Str)) = false := by decide)
    (he : starEach [o] X.env = (false, eval o X.env) :: starEach [] X.env := by rfl) (hpl : (backTo pos (starEach [] X.env)).any (·.1) = false := by rfl) :
    ME (c.hot a k) F0 H0 W0 (X.suite a ((a, oe) :: pn)) (.Call (.Name x q) [o] [] pos) (mTold i) := by
  refine pe_mono (Kh.pcallS hz hf hr P (pa_cons ho pa_nil he) hg hj hdb he hpl) fun σ H Q ⟨F, e, s, hh, p⟩ => ?_
  unfold mTold at p
  split at p
  · rename_i k' hi
    obtain ⟨v, ev, a', rfl, ea⟩ := hh.n.at' i _ hi
    cases ea
    refine ⟨_, ev, hsp a k H Q _ fun H' sm => ?_⟩
    exact p _ F H' (hh.w.ofSame sm) (.ofSame sm) (ra_str (nmE_ok k).1 (nmE_ok k).2)
  · exact p.elim
end
/-! the law -/
def spOpen (K : PySem.W.Frag) : Sp := fun vs H Q _ => ∃ (a : Addr) (ns : List Int), vs = [.ref a] ∧ SqL K H a (ns.map V.int) ∧ ns.length ≤ 63 ∧
  ∀ (p : Addr) (H' : Hp), Same H H' → (∃ (q : Addr) (cs : List Int), H' p = some (.lst [.int 0, .int 0, .ref q]) ∧ q ≠ p ∧ H' q = some (.lst (cs.map V.int)) ∧ 0 < cs.length ∧ cs.length ≤ 64) → Q (.ref p) H'
def spLaw (K : PySem.W.Frag) (Ts : TsT) : Sp := fun vs H Q _ => ∃ (a : Addr) (ns : List Int), vs = [.ref a] ∧ SqL K H a (ns.map V.int) ∧ ns.length ≤ 63 ∧ TGL Ts H ∧ ∀ H', Q (.bl true) H'
section
variable {K : PySem.W.Frag} {Ts : TsT} {ca : Ek → Addr} {X : Cx} {N : List Str}
theorem en_one {c : Cc} {H0 F H : Hp} {σ : L2.St} {i : Nat} {p : Addr} (hp : p = c.dq) (hi : σ[i]? = some (some (.ref p))) : En c H0 ((List.replicate σ.length none).set i (some (.d .drs))) σ F H := by
  have key : ∀ (j : Nat) (a : A), ((List.replicate σ.length (none : Option A)).set i (some (.d .drs)))[j]? = some (some a) → j = i ∧ a = .d .drs := fun j a h => by
    by_cases z : j = i
    · subst z
      have hlt := (List.getElem?_eq_some_iff.mp h).1
      rw [List.length_set] at hlt
      rw [List.getElem?_set_self hlt] at h
      cases h
      exact ⟨rfl, rfl⟩
    · rw [List.getElem?_set_ne (Ne.symm z), List.getElem?_replicate] at h
      split at h <;> cases h
  refine ⟨by rw [List.length_set, List.length_replicate], fun j a h => ?_, fun j xs h => ?_, fun j k xs ys q h _ m1 _ _ _ => ?_⟩
  · obtain ⟨rfl, rfl⟩ := key j a h
    exact ⟨_, hi, (rp_drs (c := c) (F := F)).mpr (by rw [hp])⟩
  · cases (key j _ h).2
  · rw [(key j _ h).2] at m1
    cases m1
theorem law_run {st0 : Stmt} {rest : List Stmt} {m : Ms} {i : Nat} {vs : List V} {H : Hp} {Q : VK} {E : XK} (h : spLaw K Ts vs H Q E) (hi : i < N.length) (h1 : 1 ≤ N.length)
    (h0 : PS X st0 (tAsg (tCall (spOpen K) [] E0 (tCons (tVar 0) tNil)) (gName i)))
    (hrest : ∀ (dq : Addr) (F0 H0 : Hp) (hq : Dq ⟨K, dq, Ts, ca, none⟩ H0), MSs ⟨K, dq, Ts, ca, none⟩ F0 H0 W0 X rest m)
    (hm : ∀ d : DS, 0 < d.cs.length → d.cs.length ≤ 64 → ∃ s', m ((List.replicate N.length none).set i (some (.d .drs))) (some d) = .rt (.bl true) s') :
    ∃ t, PSs X (st0 :: rest) t ∧ t { nx := fun _ H' => Q .non H', rt := Q } (L2.start N vs) H := by
  obtain ⟨a, ns, rfl, hS, hl, tg, q⟩ := h
  refine ⟨_, pss_cons (u := fun D σ H => ∃ (dq : Addr) (F0 H0 : Hp), Dq ⟨K, dq, Ts, ca, none⟩ H0 ∧ rdS ⟨K, dq, Ts, ca, none⟩ F0 H0 W0 m D σ H) h0 ⟨fun pins s σ H D I z => ?_⟩, ?_⟩
  · obtain ⟨dq, F0, H0, hq, z⟩ := z
    exact (hrest dq F0 H0 hq).run pins s σ H D I z
  · have hN : (L2.start N [.ref a])[0]? = some (some (.ref a)) := rfl
    refine ⟨.ref a, hN, a, ns, rfl, hS, hl, fun p H' sm ⟨c', cs, e1, e2, e3, e4, e5⟩ => ?_⟩
    have w : Wo ⟨K, p, Ts, ca, none⟩ (some ⟨0, 0, cs⟩) (fun b => if b = c' then H' c' else none) H' := by
      refine ⟨fun b u e => ?_, tg.same sm, fun b ps e => ?_, ?_, c', e1, ?_⟩
      · by_cases z : b = c'
        · rw [if_pos z] at e
          rw [z]
          exact e
        · rw [if_neg z] at e
          cases e
      · by_cases z : b = c'
        · rw [if_pos z, e3] at e
          cases e
        · rw [if_neg z] at e
          cases e
      · show (if p = c' then H' c' else none) = none
        rw [if_neg (Ne.symm e2)]
      · show (if c' = c' then H' c' else none) = _
        rw [if_pos rfl, e3]
    have hls : (L2.start N [.ref a]).length = N.length := by
      unfold L2.start
      rw [List.length_append, List.length_map, List.length_replicate]
      show 1 + (N.length - 1) = N.length
      omega
    refine ⟨p, _, H', ⟨fun b z y => ?_⟩, (fun b => if b = c' then H' c' else none), (List.replicate N.length none).set i (some (.d .drs)), some ⟨0, 0, cs⟩, ⟨w, .refl, ?_⟩, ?_⟩
    · subst y
      rw [e1] at z
      cases z
    · have := en_one (c := ⟨K, p, Ts, ca, none⟩) (H0 := H') (F := fun b => if b = c' then H' c' else none) (H := H') (σ := (L2.start N [.ref a]).set i (some (.ref p))) (i := i) (p := p) rfl (List.getElem?_set_self (by rw [hls]; exact hi))
      rw [List.length_set, hls] at this
      exact this
    · obtain ⟨s', em⟩ := hm ⟨0, 0, cs⟩ e4 e5
      rw [em]
      intro v F' H2 _ _ _ r
      rw [rp_bl.mp r]
      exact q H2
end
section
variable {c : Cc} {F0 H0 : Hp} {W : WX} {X : Cx} {pos : Pos} {a b d tg : Expr} {m1 m2 m3 : Mv} [hq : Dq c H0]
theorem mv (i : Nat) {x : Str} {pos : Pos} (hN : X.N[i]? = some x := by rfl) (hv : Vis X.env.scope x := by first | exact Or.inl rfl | exact Or.inr (Or.inl rfl) | exact Or.inr (Or.inr rfl)) (hd : (x == ("__debug__" : Str)) = false := by decide) (hcd : (x == ("__classdict__" : Str)) = false := by decide) : ME c F0 H0 W X (.Name x pos) (mVar i) := me_var hN hv hd hcd
theorem mt_chain {op op' : CmpOp} {r r' : R2} {g g' : D → D → Option A} (ho : OpR X (compareOp op) r) (ho' : OpR X (compareOp op') r') (hg : OpS c r g) (hg' : OpS c r' g') (ha : ME c F0 H0 W X a m1) (hb : ME c F0 H0 W X b m2) (hc : ME c F0 H0 W X d m3)
    (hP : ∀ {ta tb tc : TE}, PE X a ta → PE X b tb → PE X d tc → PT X (.Compare a [op, op'] [b, d] pos) (tTest (tChain r r' ta tb tc))) : MT c F0 H0 W X (.Compare a [op, op'] [b, d] pos) (mBool (mChain g g' m1 m2 m3)) :=
  mt_of (hP ha hb hc) fun σ H Q h => chain_sound (ta := fun _ _ _ => True) (tb := fun _ _ _ => True) (tc := fun _ _ _ => True) hg hg' h
/-! names of comprehensions may be called otherwise -/
def visB (sc : Scope) (x : Str) : Bool := decide (sc.names.lookup x = some .local) || decide (sc.names.lookup x = some .cell) || decide (sc.names.lookup x = some .free)
def rnB (sc : Scope) : List Str → List Str → Bool
  | [], [] => true
  | x :: xs, y :: ys => (decide (x = y) || (!visB sc x && !visB sc y)) && rnB sc xs ys
  | _, _ => false
theorem rnB_len {sc : Scope} : ∀ {N N' : List Str}, rnB sc N N' = true → N.length = N'.length
  | [], [], _ => rfl
  | [], _ :: _, h => by cases h
  | _ :: _, [], h => by cases h
  | x :: xs, y :: ys, h => by
    unfold rnB at h
    rw [Bool.and_eq_true] at h
    rw [List.length_cons, List.length_cons, rnB_len h.2]
theorem rnB_at {sc : Scope} : ∀ {N N' : List Str}, rnB sc N N' = true → ∀ (i : Nat) (x : Str), (N'[i]? = some x → Vis sc x → N[i]? = some x) ∧ (N[i]? = some x → Vis sc x → N'[i]? = some x)
  | [], [], _, _, _ => ⟨fun h => by simp at h, fun h => by simp at h⟩
  | [], _ :: _, h, _, _ => by cases h
  | _ :: _, [], h, _, _ => by cases h
  | x :: xs, y :: ys, h, i, z => by
    unfold rnB at h
    rw [Bool.and_eq_true] at h
    cases i with
    | succ i =>
      rw [List.getElem?_cons_succ, List.getElem?_cons_succ]
      exact rnB_at h.2 i z
    | zero =>
      rw [List.getElem?_cons_zero, List.getElem?_cons_zero]
      have nv : ∀ u, visB sc u = false → ¬ Vis sc u := fun u hu v => by
        unfold visB at hu
        simp only [Bool.or_eq_false_iff, decide_eq_false_iff_not] at hu
        rcases v with v | v | v
        · exact hu.1.1 v
        · exact hu.1.2 v
        · exact hu.2 v
      have h1 := h.1
      rw [Bool.or_eq_true, decide_eq_true_eq, Bool.and_eq_true, Bool.not_eq_true', Bool.not_eq_true'] at h1
      rcases h1 with e | ⟨a, b⟩
      · rw [e]
        exact ⟨fun e _ => e, fun e _ => e⟩
      · exact ⟨fun e v => by cases e; exact (nv _ b v).elim, fun e v => by cases e; exact (nv _ a v).elim⟩
theorem Cx.Ok.rn {X : Cx} {N' : List Str} (ok : X.Ok) : ({ X with N := N' } : Cx).Ok := ⟨ok.mod, ok.kind, ok.glob, ok.blt, ok.above, ok.inj, ok.has, ok.cab, ok.hd, ok.frames, ok.stk, ok.exf, ok.bs, ok.bsz, ok.noex, ok.exfs, ok.funs, ok.frf⟩
theorem inv_rn {X : Cx} {N' : List Str} {pins : List (Addr × Obj)} {σ : L2.St} {H : Hp} {s : Shared} (h : rnB X.env.scope X.N N' = true) (I : Inv X pins σ H s) : Inv { X with N := N' } pins σ H s :=
  ⟨Cx.Ok.rn I.ok, I.os, I.bare, I.base, let ⟨m, hn, hl⟩ := I.loc; ⟨m, hn, fun i x v e1 e2 e3 => hl i x v ((rnB_at h i x).1 e1 e3) e2 e3⟩, I.cell, I.free, I.freeC, I.pin, I.hok, I.len.trans (rnB_len h)⟩
theorem inv_nr {X : Cx} {N' : List Str} {pins : List (Addr × Obj)} {σ : L2.St} {H : Hp} {s : Shared} (h : rnB X.env.scope X.N N' = true) (ok : X.Ok) (I : Inv { X with N := N' } pins σ H s) : Inv X pins σ H s :=
  ⟨ok, I.os, I.bare, I.base, let ⟨m, hn, hl⟩ := I.loc; ⟨m, hn, fun i x v e1 e2 e3 => hl i x v ((rnB_at h i x).2 e1 e3) e2 e3⟩, I.cell, I.free, I.freeC, I.pin, I.hok, I.len.trans (rnB_len h).symm⟩
theorem me_rn {N' : List Str} {e : Expr} (h : rnB X.env.scope X.N N' = true) (p : ME c F0 H0 W { X with N := N' } e m1) : ME c F0 H0 W X e m1 := by
  refine ⟨fun pins s σ H Q I q => ?_⟩
  refine wpAny_mono (p.run pins s σ H Q (inv_rn h I) q) (fun u s' ⟨v, H', I', r, q'⟩ => ⟨v, H', inv_nr h I.ok I', r, q'⟩) fun _ _ z => z
/-! lists, tuples, texts alike -/
theorem SlS.or {r r' : V → Option Int → Option Int → Hp → VK → Prop} {g g' : D → Option Int → Option Int → Option A} (h : SlS c r g) (h' : SlS c r' g') : SlS c (fun x lo hi H Q => r x lo hi H Q ∨ r' x lo hi H Q) (fun d lo hi => match g d lo hi with | some z => some z | none => g' d lo hi) := by
  intro H0 F H s d lo hi x z Q w hd hx hz q
  cases e1 : g d lo hi with
  | some z' =>
    simp only [e1] at hz
    cases hz
    exact .inl (h w hd hx e1 q)
  | none =>
    simp only [e1] at hz
    exact .inr (h' w hd hx hz q)
def dSl : D → Option Int → Option Int → Option A
  | .lst ds, lo, hi => some (.own (cutD ds lo hi))
  | .tup ds, lo, hi => some (.d (.tup (cutD ds lo hi)))
  | .str z, lo, hi => some (.d (.str (cutS z lo hi)))
  | _, _, _ => none
abbrev rSlX (K : PySem.W.Frag) : V → Option Int → Option Int → Hp → VK → Prop := fun x lo hi H Q => rSlL K x lo hi H Q ∨ rSlA K x lo hi H Q ∨ rSlS x lo hi H Q
theorem sl_any (hK : X.K = c.K) : SlR X (rSlX c.K) := hK ▸ sl_list.or (sl_tupA.or sl_str)
theorem cutS_ok {z : Str} (h : PyData.strOk z = true) (lo hi : Option Int) : PyData.strOk (cutS z lo hi) = true := by
  unfold PyData.strOk at *
  rw [← Array.all_toList, List.all_eq_true] at *
  intro k hk
  have hk : k ∈ List.take (HT.sIx z.length z.length hi - HT.sIx z.length 0 lo) (List.drop (HT.sIx z.length 0 lo) z.cps.toList) := hk
  exact h k (List.mem_of_mem_drop (List.mem_of_mem_take hk))
theorem cutS_len (z : Str) (lo hi : Option Int) : (cutS z lo hi).length ≤ z.length := by
  show (List.take (HT.sIx z.length z.length hi - HT.sIx z.length 0 lo) (List.drop (HT.sIx z.length 0 lo) z.cps.toList)).toArray.size ≤ z.cps.size
  rw [List.size_toArray, List.length_take, List.length_drop, Array.length_toList]
  omega
theorem ss_any : SlS c (rSlX c.K) dSl := by
  intro H0 F H s d lo hi x z Q w hd hx hz q
  unfold dSl at hz
  split at hz
  · exact .inl (ss_list w hd hx hz q)
  · exact .inr (.inl (ss_tup w hd hx hz q))
  · cases hz
    obtain ⟨rfl, h1, h2⟩ := vw_str hx
    exact .inr (.inr ⟨_, rfl, Nat.le_of_lt (Nat.lt_of_le_of_lt h2 big), newS w (ra_str (cutS_ok h1 _ _) (Nat.le_trans (cutS_len _ _ _) h2)) q⟩)
  · cases hz
/-- in: a list, a tuple, a text -/
def dInX (neg : Bool) : D → D → Option A
  | .str x, .str y => some (.d (.bl (if neg = true then !inS x y else inS x y)))
  | d, .lst ds => if (flatD d && ds.all flatD) = true then some (.d (.bl (if neg = true then !memD d ds else memD d ds))) else none
  | d, .tup ds => if (flatD d && ds.all flatD) = true then some (.d (.bl (if neg = true then !memD d ds else memD d ds))) else none
  | _, _ => none
abbrev rInX (K : PySem.W.Frag) : R2 := fun x y H Q => rIn K false x y H Q ∨ ∃ i j, x = .str i ∧ y = .str j ∧ Q (.bl (!(Builtin.Str.occurrences j i 0 j.length 1).isEmpty)) H
abbrev rNotInX (K : PySem.W.Frag) : R2 := fun x y H Q => rIn K true x y H Q ∨ ∃ i j, x = .str i ∧ y = .str j ∧ Q (.bl (!(!(Builtin.Str.occurrences j i 0 j.length 1).isEmpty))) H
theorem op_inX (hK : X.K = c.K) : OpR X (compareOp .In) (rInX c.K) := hK ▸ op_in_seq.or op_in_str
theorem op_notInX (hK : X.K = c.K) : OpR X (compareOp .NotIn) (rNotInX c.K) := hK ▸ op_notIn_seq.or op_notIn_str
theorem dInX_cases {neg : Bool} {d e : D} {z : A} (h : dInX neg d e = some z) : dIn neg d e = some z ∨ dInS neg d e = some z := by
  unfold dInX at h
  split at h
  · exact .inr h
  · exact .inl h
  · exact .inl h
  · cases h
theorem os_inX : OpS c (rInX c.K) (dInX false) := by
  intro H0 F H s d e x y z Q w hd hx hy hz q
  rcases dInX_cases hz with h | h
  · exact .inl (os_in w hd hx hy h q)
  · exact .inr (os_inS w hd hx hy h q)
theorem os_notInX : OpS c (rNotInX c.K) (dInX true) := by
  intro H0 F H s d e x y z Q w hd hx hy hz q
  rcases dInX_cases hz with h | h
  · exact .inl (os_in w hd hx hy h q)
  · exact .inr (os_notInS w hd hx hy h q)
/-- * of numbers, of a list and a number -/
def mulOk (i j : Int) : Bool := decide (i.natAbs < 2 ^ 64) || decide (j.natAbs < 2 ^ 64) || (sm i && sm j)
/-- a text, n times -/
def repS (z : Str) (n : Int) : Str := Txt.mul z n
theorem fold_app (l : List (Array Nat)) : ∀ a : Array Nat, (l.foldl (· ++ ·) a).toList = a.toList ++ (l.map Array.toList).flatten := by
  induction l with
  | nil => intro a; simp
  | cons x xs ih =>
    intro a
    rw [List.foldl_cons, ih, List.map_cons, List.flatten_cons, Array.toList_append, List.append_assoc]
theorem repS_list {z : Str} {n : Int} (h : 1 ≤ n) : (repS z n).cps.toList = (List.replicate n.toNat z.cps.toList).flatten := by
  unfold repS Txt.mul
  rw [if_neg (by omega)]
  split
  · rename_i e
    rw [Bool.or_eq_true] at e
    rcases e with e | e
    · have : n = 1 := by simpa using e
      subst this
      simp
    · have e0 : z.cps.toList = [] := by
        have : z.length = 0 := by simpa using e
        have : z.cps.size = 0 := this
        simpa using this
      rw [e0]
      simp
  · rw [fold_app]
    simp
theorem repS_len {z : Str} {n : Int} (h : 1 ≤ n) : (repS z n).length = n.toNat * z.length := by
  show (repS z n).cps.size = _
  rw [← Array.length_toList, repS_list h, List.length_flatten, List.map_replicate, List.sum_replicate_nat, Array.length_toList]
  rfl
theorem repS_ok {z : Str} {n : Int} (h : 1 ≤ n) (hz : PyData.strOk z = true) : PyData.strOk (repS z n) = true := by
  unfold PyData.strOk at *
  rw [← Array.all_toList, List.all_eq_true] at *
  intro k hk
  rw [repS_list h, List.mem_flatten] at hk
  obtain ⟨l, hl, hk⟩ := hk
  rw [(List.mem_replicate.mp hl).2] at hk
  exact hz k hk
theorem op_repStr : OpR X (binaryOp .Mult) (fun x y H Q => ∃ z n, x = .str z ∧ y = .int n ∧ MulOk z n ∧ Q (.str (repS z n)) H) := by
  intro pins s σ H x y v u Q I rx ry h
  obtain ⟨z, n, rfl, rfl, hm, q⟩ := h
  obtain ⟨t, rfl⟩ := rx
  obtain ⟨t', rfl⟩ := ry
  exact SB.mul hm fun t'' k => ⟨.str _, H, I.tok _, ⟨_, rfl⟩, q⟩
def dMulX : D → D → Option A
  | .int i, .int j => if mulOk i j = true then some (.d (.int (i * j))) else none
  | .lst ds, .int k => if k ≤ 1000 ∧ -1000 ≤ k ∧ ds.length * k.toNat ≤ 1000000 then some (.own (List.replicate k.toNat ds).flatten) else none
  | .str z, .int k => if 1 ≤ k ∧ k ≤ 1000 ∧ z.length ≤ 1000 then some (.d (.str (repS z k))) else none
  | _, _ => none
abbrev rMulX : R2 := fun x y H Q => rI (fun i j => CMul i j ∨ CMulW i j) (fun i j => .int (i * j)) x y H Q ∨ rRep x y H Q ∨ ∃ z n, x = .str z ∧ y = .int n ∧ MulOk z n ∧ Q (.str (repS z n)) H
theorem op_mulX : OpR X (binaryOp .Mult) rMulX := OpR.or (opI fun _ _ _ _ _ _ _ hc q => mul_int q (hc.elim CMul.ok CMulW.ok)) (op_rep.or op_repStr)
theorem os_mulX : OpS c rMulX dMulX := by
  intro H0 F H s d e x y z Q w hd hx hy hz q
  unfold dMulX at hz
  split at hz
  · split at hz
    · rename_i i j hs
      cases hz
      refine .inl ⟨i, j, vw_int hx, vw_int hy, ?_, newS w ra_int q⟩
      unfold mulOk sm at hs
      simp only [Bool.or_eq_true, Bool.and_eq_true, decide_eq_true_eq] at hs
      rcases hs with (h | h) | ⟨h1, h2⟩
      · exact .inl (.inl ⟨by omega, by omega⟩)
      · exact .inl (.inr ⟨by omega, by omega⟩)
      · exact .inr (wide_mul h1 h2 (by decide) (by decide) (by decide))
    · cases hz
  · split at hz
    · rename_i ds k hs
      cases hz
      obtain ⟨_, p, vs, rfl, h1, r1⟩ := vw_lst hx
      have e : (List.replicate k.toNat vs).flatten.length = (List.replicate k.toNat ds).flatten.length := (r1.rep _).len
      refine .inr (.inl ⟨p, k, vs, rfl, vw_int hy, h1, by omega, by omega, by rw [r1.len]; exact Nat.le_trans hs.2.2 (Nat.le_of_lt big), fun p n => newL w (r1.rep _) ?_ n (hd p n) q⟩)
      rw [List.length_flatten, List.map_replicate, List.sum_replicate_nat, Nat.mul_comm]
      exact hs.2.2
    · cases hz
  · split at hz
    · rename_i z k hs
      cases hz
      obtain ⟨rfl, h1, h2⟩ := vw_str hx
      obtain ⟨k1, k2, k3⟩ := hs
      have hl : z.length * k.toNat ≤ 1000000 := Nat.le_trans (Nat.mul_le_mul k3 (by omega : k.toNat ≤ 1000)) (by decide)
      refine .inr (.inr ⟨z, k, rfl, vw_int hy, ⟨?_, fun _ _ z1 => ?_, fun _ _ => ?_⟩, newS w (ra_str (repS_ok k1 h1) (by rw [repS_len k1, Nat.mul_comm]; exact hl)) q⟩)
      · rw [decide_eq_false (by omega), decide_eq_false (by omega)]
        rfl
      · have := Int.le_ediv_of_mul_le (a := 1000) (b := 2 ^ 63 - 1) (c := k) (by omega) (by omega)
        omega
      · unfold Builtin.Str.tooLong
        have : (1000000 : Nat) < sizeLine := by decide
        simp only [decide_eq_false_iff_not]
        first | omega | (show ¬ _; simp only [Nat.not_lt]; omega)
    · cases hz
  · cases hz
/-- what is walked: a list, a tuple, a text -/
def iSeq (K : PySem.W.Frag) (tl : TE) : TI := fun σ H R => tl σ H fun x H1 => (∃ a, x = .ref a ∧ (∃ xs, SqL K H1 a xs) ∧ R (Itl K a) H1) ∨ (∃ a, x = .ref a ∧ (∃ xs, SqT K H1 a xs) ∧ R (Itt K a) H1) ∨ ∃ z, x = .str z ∧ R (Its z) H1
theorem pi_seq {l : Expr} {tl : TE} (hl : PE X l tl) : PI X tg l (iSeq X.K tl) := by
  refine ⟨fun pins s σ H R I h => ?_⟩
  have h1 := hl.run pins s σ H _ I h
  refine thn h1 fun v s1 ⟨x, H1, I1, r1, q1⟩ => ?_
  have lift : ∀ {wi : TI}, PI X tg l wi → True := fun _ => trivial
  rcases q1 with q1 | q1 | q1
  · obtain ⟨a, e, ⟨xs, hq⟩, q⟩ := q1
    subst e
    cases r1
    obtain ⟨its, rv, p, hz⟩ := I1.list hq
    refine wpAny_pyIter_list p.isList ?_
    refine ⟨s1.heap.objs.size, [s1.heap.objs.size], _, _, H1, rfl, I1.kept (t' := s1.toks) fun b o e => Heap.get?_push_of_some _ e, turn_list a _, ⟨_, Heap.get?_push_size _ rfl, rfl, rfl⟩, fun b hb => ?_, q⟩
    have e : b = s1.heap.objs.size := by simpa using hb
    subst e
    exact I1.fpOk (Nat.le_refl _) (I1.hok.fresh (Nat.le_refl _))
  · obtain ⟨a, e, ⟨xs, hq⟩, q⟩ := q1
    subst e
    cases r1
    obtain ⟨its, rv, p, hz⟩ := I1.tuple hq
    refine wpAny_pyIter_tuple (show s1.heap.IsTuple a its.toArray from p) ?_
    refine ⟨s1.heap.objs.size, [s1.heap.objs.size], _, _, H1, rfl, I1.kept (t' := s1.toks) fun b o e => Heap.get?_push_of_some _ e, turn_tuple a _, ⟨_, Heap.get?_push_size _ rfl, rfl, rfl⟩, fun b hb => ?_, q⟩
    have e : b = s1.heap.objs.size := by simpa using hb
    subst e
    exact I1.fpOk (Nat.le_refl _) (I1.hok.fresh (Nat.le_refl _))
  · obtain ⟨z, e, q⟩ := q1
    subst e
    obtain ⟨t, rfl⟩ := r1
    cases ha : z.cps.all (· < 128)
    · exact wpAny_pyIter_wide ha (pi_one (tk := s1.toks) I1 _ (turn_str _ z t "str_iterator" (.inr rfl)) ⟨_, Heap.get?_push_size _ rfl, rfl, rfl⟩ q)
    · exact wpAny_pyIter_ascii ha (pi_one (tk := s1.toks) I1 _ (turn_str _ z t "str_ascii_iterator" (.inl rfl)) ⟨_, Heap.get?_push_size _ rfl, rfl, rfl⟩ q)
def asX : A → Option (List D)
  | .d (.lst ds) => some ds
  | .own ds => some ds
  | .d (.tup ds) => some ds
  | .d (.str z) => some (chD z)
  | _ => none
def mIt (m : Mv) : Mi' := fun e s => (m e s).bind fun x s1 => opt (asX x) s1
theorem walk_str {F1 : Hp} {z : Str} (hz : PyData.strOk z = true) : WalkD c F1 (Its z) (chD z) := by
  refine ⟨fun {F H s} w hd hs i d e => ?_, fun {F H s} w hs i hi => ?_⟩
  · unfold chD at e
    rw [List.getElem?_map] at e
    cases q : z.cps.toList[i]? with
    | none => rw [q] at e; cases e
    | some j =>
      rw [q] at e
      cases e
      have hi := (List.getElem?_eq_some_iff.mp q).1
      rw [Array.length_toList] at hi
      refine ⟨hi, fun x H' y => ?_⟩
      obtain ⟨rfl, k, hk, rfl⟩ := y
      rw [Array.getElem?_toList, hk] at q
      cases q
      exact ⟨F, w, .refl, rp_str.mpr ⟨rfl, strOk_mem hz (by rw [← Array.mem_def]; exact Array.mem_of_getElem? hk), by show 1 ≤ 1000000; decide⟩⟩
  · unfold chD at hi
    rw [List.length_map, Array.length_toList] at hi
    exact hi
theorem walk_tupD {F1 : Hp} {q : Addr} {xs : List V} {ds : List D} (h2 : SqT c.K F1 q xs) (r2 : RpL c F1 ds xs) : WalkD c F1 (Itt c.K q) ds := by
  refine ⟨fun {F H s} w hd hs i d e => ?_, fun {F H s} w hs i hi => ?_⟩
  · obtain ⟨v, ev, rv⟩ := r2.at i e
    have hH := sqT_same w.sub (sqT_same hs h2)
    refine ⟨⟨xs, v, hH, ev⟩, fun x H' y => ?_⟩
    obtain ⟨rfl, y⟩ := y
    have := y xs hH
    rw [ev] at this
    cases this
    exact ⟨F, w, .refl, rp_same hs _ _ rv⟩
  · exact ⟨xs, sqT_same w.sub (sqT_same hs h2), by rw [r2.len]; exact hi⟩
theorem mi_seq (hK : X.K = c.K) (ha : ME c F0 H0 W X a m1) : MI c F0 H0 W X tg a (mIt m1) := by
  refine pi_mono (pi_seq ha) fun σ H Q ⟨F, e, s, hh, p⟩ => ?_
  refine rd_mono (bindK hh p) fun x H1 ⟨F1, s1, a1, h1, g1, r1, p1⟩ => ?_
  obtain ⟨ds, e1, p2⟩ := post_oD p1
  rw [hK]
  unfold asX at e1
  split at e1
  · cases e1
    obtain ⟨hl, q, xs, rfl, h2, r2⟩ := rp_lst.mp (show Rp c F1 _ x from r1)
    exact .inl ⟨q, rfl, ⟨xs, SqL.of (h1.w.sub _ _ h2)⟩, p2 _ F1 H1 h1.w g1 (walk_lst h2 r2)⟩
  · cases e1
    obtain ⟨q, rfl, o⟩ := r1
    obtain ⟨F2, w2, s2, g2, r2⟩ := frzOwn h1.w o (Same.refl _)
    obtain ⟨hl, q', xs, eq, h2, r2⟩ := rp_lst.mp r2
    cases eq
    exact .inl ⟨q, rfl, ⟨xs, SqL.of (w2.sub _ _ h2)⟩, p2 _ F2 H1 w2 (g2 _ g1) (walk_lst h2 r2)⟩
  · cases e1
    obtain ⟨hl, q, xs, rfl, h2, r2⟩ := rp_tup.mp (show Rp c F1 _ x from r1)
    exact .inr (.inl ⟨q, rfl, ⟨xs, sqT_same h1.w.sub h2⟩, p2 _ F1 H1 h1.w g1 (walk_tupD h2 r2)⟩)
  · cases e1
    obtain ⟨rfl, hz, hl⟩ := rp_str.mp (show Rp c F1 _ x from r1)
    exact .inr (.inr ⟨_, rfl, p2 _ F1 H1 h1.w g1 (walk_str hz)⟩)
  · cases e1
end
end Mi
/-! own: enumerate and zip over lists and tuples in any mix -/
namespace Mi
open PySem PySem.Spec PyProof.Rows L2 Kt Kj
def SqX (b : Bool) (K : PySem.W.Frag) (H : Hp) (a : Addr) (xs : List V) : Prop := match b with
  | true => SqT K H a xs
  | false => SqL K H a xs
def IsItr (b : Bool) (h : Heap) (it a : Addr) (i : Nat) : Prop := match b with
  | true => h.IsTupleIter it a i
  | false => h.IsListIter it a i
def IsSq (b : Bool) (h : Heap) (a : Addr) (its : Array Value) : Prop := match b with
  | true => h.IsTuple a its
  | false => h.IsList a its
theorem draws_x {P : Program} {w : World} {A : Around} (b : Bool) (hh : A.handled = none) (it a : Addr) (hne : a ≠ it) (its : Array Value) : Draws P w A it [it, a] its.size (fun i v => its[i]? = some v) (fun i h => IsItr b h it a i ∧ IsSq b h a its) := by
  cases b
  · exact Draws.list hh it a hne its
  · exact Draws.tuple hh it a hne its
theorem draws_e {P : Program} {w : World} {A : Around} (b : Bool) (hh : A.handled = none) (it a : Addr) (its : Array Value) (n : Nat) (hn : its[n]? = none) : Draws P w A it [it, a] n (fun _ _ => False) (fun i h => i = n ∧ IsItr b h it a i ∧ IsSq b h a its) where
  live := fun _ _ st => by
    obtain ⟨_, p, _⟩ := st
    cases b
    · obtain ⟨o, e, _⟩ := p
      exact ⟨o, e⟩
    · obtain ⟨o, e, _⟩ := p
      exact ⟨o, e⟩
  frame := fun i h h' st hk => by
    obtain ⟨e, p, q⟩ := st
    cases b
    · exact ⟨e, Heap.IsListIter.at p fun o e => hk it (by simp) o e, Heap.IsList.at q fun o e => hk a (by simp) o e⟩
    · exact ⟨e, Heap.IsTupleIter.at p fun o e => hk it (by simp) o e, Heap.IsTuple.at q fun o e => hk a (by simp) o e⟩
  item := fun i s Q E hi st _ => absurd st.1 (by omega)
  done := fun s Q E st hE => by
    obtain ⟨_, p, q⟩ := st
    cases b
    · exact wpAny_nextOf_list_end hh p q hn hE
    · exact wpAny_nextOf_tuple_end hh p q hn hE
theorem itr_obj {b : Bool} {h : Heap} {it a : Addr} {i : Nat} (p : IsItr b h it a i) : ∃ o, h.get? it = some o ∧ ∀ v, o.data ≠ .cell v := by
  cases b
  · obtain ⟨o, e, _, d⟩ := p
    exact ⟨o, e, fun v q => by rw [d] at q; cases q⟩
  · obtain ⟨o, e, _, d⟩ := p
    exact ⟨o, e, fun v q => by rw [d] at q; cases q⟩
theorem itr_at {b : Bool} {h h' : Heap} {it a : Addr} {i : Nat} (p : IsItr b h it a i) (k : ∀ o, h.get? it = some o → h'.get? it = some o) : IsItr b h' it a i := by
  cases b
  · exact Heap.IsListIter.at p fun o q => k o q
  · exact Heap.IsTupleIter.at p fun o q => k o q
theorem sq_at {b : Bool} {h h' : Heap} {a : Addr} {its : Array Value} (p : IsSq b h a its) (k : ∀ o, h.get? a = some o → h'.get? a = some o) : IsSq b h' a its := by
  cases b
  · exact Heap.IsList.at p fun o q => k o q
  · exact Heap.IsTuple.at p fun o q => k o q
theorem sq_lt {b : Bool} {h : Heap} {a : Addr} {its : Array Value} (p : IsSq b h a its) : a < h.objs.size := by
  cases b
  · obtain ⟨o, e, _⟩ := p
    exact Heap.lt_size e
  · obtain ⟨o, e, _⟩ := p
    exact Heap.lt_size e
theorem inv_sq {X : Cx} {pins : List (Addr × Obj)} {σ : L2.St} {H : Hp} {s : Shared} {b : Bool} {a : Addr} {xs : List V} (I : Inv X pins σ H s) (h : SqX b X.K H a xs) : ∃ its : List Value, Vals xs its ∧ IsSq b s.heap a its.toArray := by
  cases b
  · obtain ⟨its, r, p, _⟩ := I.list h
    exact ⟨its, r, p.isList⟩
  · obtain ⟨its, r, p, _⟩ := I.tuple h
    exact ⟨its, r, p⟩
theorem inv_inj {X : Cx} {pins : List (Addr × Obj)} {σ : L2.St} {H : Hp} {s : Shared} {b : Bool} {a : Addr} {xs ys : List V} (I : Inv X pins σ H s) (h : SqX b X.K H a xs) (h' : SqX b X.K H a ys) : xs = ys := by
  cases b
  · exact I.list_inj h h'
  · exact I.tuple_inj h h'
def begs (b : Bool) (a : Addr) : Obj := match b with
  | true => { cls := .type "tuple_iterator", data := .fields #[.ref a, .int 0 0] }
  | false => { cls := .type "list_iterator", data := .fields #[.ref a, .int 0 0] }
theorem begins_x (b : Bool) (a : Addr) (its : Array Value) : Begins (.ref a) (begs b a) fun h => IsSq b h a its := by
  cases b
  · exact begins_list a its
  · exact begins_tuple a its
theorem begs_itr {b : Bool} {a it : Addr} {h : Heap} (e : h.get? it = some (begs b a)) : IsItr b h it a 0 := by
  cases b
  · exact ⟨_, e, rfl, rfl⟩
  · exact ⟨_, e, rfl, rfl⟩
/-- each item in a new pair behind its number -/
def IteX (b : Bool) (K : PySem.W.Frag) (a : Addr) (k : Int) : It :=
  ⟨fun i H => ∃ (xs : List V) (x : V), SqX b K H a xs ∧ xs[i]? = some x, fun i H v H' => ∃ T x, v = .ref T ∧ H T = none ∧ H' = upd H T (.tup [.int (k + (i : Nat)), x]) ∧ ∀ xs, SqX b K H a xs → xs[i]? = some x, fun i H => ∃ xs : List V, SqX b K H a xs ∧ xs.length ≤ i⟩
theorem turn_enumX {P : Program} {w : World} {K : PySem.W.Frag} {elts : List Expr} {kk : Nat} {tpos : Pos} (b : Bool) (k : Int) (n : Nat) (a e it : Addr) :
    Turn P w K (.Tuple elts kk tpos) (IteX b K a k) [e, it] e (fun i h => (∃ old, IsEnum h e it (k + (i : Nat)) old) ∧ IsItr b h it a i ∧ e ≠ it ∧ a ≠ it ∧ a ≠ e) where
  mem := by simp
  obj := fun i h st c hc => by
    obtain ⟨⟨old, he⟩, p, _⟩ := st
    have e' : c = e ∨ c = it := by simpa using hc
    rcases e' with z | z
    · rw [z]; exact ⟨_, he, fun v q => nomatch q⟩
    · rw [z]; exact itr_obj p
  keep := fun i h h' st kp => let ⟨⟨old, he⟩, hi, hne, h1, h2⟩ := st; ⟨⟨old, kp e (by simp) _ he⟩, itr_at hi fun o q => kp it (by simp) o q, hne, h1, h2⟩
  item := by
    intro X hP hw hK hc i pins s σ H E I hf st hg
    subst hP hw hK
    obtain ⟨⟨old, he⟩, hit, hne, hai, hae⟩ := st
    obtain ⟨xs, x, hq, hx⟩ := hg
    obtain ⟨its, rv, p⟩ := inv_sq I hq
    obtain ⟨u, hu, ru⟩ := rv.get hx
    have hel : e < s.heap.objs.size := Heap.lt_size he
    have hil : it < s.heap.objs.size := by obtain ⟨o, q, _⟩ := itr_obj hit; exact Heap.lt_size q
    have hlt : i < its.toArray.size := by
      have := (List.getElem?_eq_some_iff.mp hu).1
      simpa using this
    refine wpAny_pyNext_enum_itemC (draws_x b (show X.A.in1.handled = none from I.ok.hd hc) it a hai its.toArray) he ⟨hit, p⟩ hlt hne (by simp [hne, Ne.symm hae]) fun x' h' tk hP ho hit' hT hsz hk => ?_
    have hxu : x' = u := by
      have : its[i]? = some x' := by simpa using hP
      rw [hu] at this
      cases this
      rfl
    subst hxu
    refine ⟨_, rfl, wpAny_letOwnedTupleGo_enum (s := { s with heap := h', toks := tk + 1 }) ho fun h'' he' sb => ?_⟩
    have hT2 : h''.get? s.heap.objs.size = some { cls := .type "tuple", data := .seq #[.int (k + (i : Nat)) tk, x'] } := (sb.2 _ (Nat.ne_of_gt hel)).trans hT
    have new : ObjOk X.prog X.w (upd H s.heap.objs.size (.tup [.int (k + (i : Nat)), x])) h'' s.heap.objs.size (.tup [.int (k + (i : Nat)), x]) :=
      ⟨by show 2 ≤ sizeLine; decide, [.int (k + (i : Nat)) tk, x'], .cons ⟨_, rfl⟩ (.cons ru .nil), ⟨_, hT2, rfl, _, rfl⟩⟩
    have I1 : Inv X pins σ (upd H s.heap.objs.size (.tup [.int (k + (i : Nat)), x])) { s with heap := h'', toks := tk + 1 } :=
      I.turnedNew (ch := [e, it]) (fun c ob hb q => (sb.2 c (fun z => hb (by simp [z]))).trans (hk c ob (fun z => hb (by simp [z])) (fun z => hb (by simp [z])) q)) hf (Nat.le_refl _) new
    refine ⟨.ref s.heap.objs.size, _, I1, rfl, ⟨_, x, rfl, I.hok.fresh (Nat.le_refl _), rfl, fun ys hy => by rw [inv_inj I hy hq]; exact hx⟩, ⟨⟨x', ?_⟩, itr_at hit'.1 fun o q => (sb.2 it (Ne.symm hne)).trans q, hne, hai, hae⟩, fun c hb => ?_⟩
    · have e1 : k + ((i + 1 : Nat) : Int) = k + (i : Int) + 1 := by omega
      rw [e1]; exact he'
    · have hb' : c < s.heap.objs.size := by
        have e' : c = e ∨ c = it := by simpa using hb
        rcases e' with z | z
        · rw [z]; exact hel
        · rw [z]; exact hil
      rw [upd_ne (Nat.ne_of_lt hb')]
      exact (hf c hb).1
  done := by
    intro X hP hw hK hc i pins s σ H E I hf st hg
    subst hP hw hK
    obtain ⟨⟨old, he⟩, hit, hne, hai, hae⟩ := st
    obtain ⟨xs, hq, hx⟩ := hg
    obtain ⟨its, rv, p⟩ := inv_sq I hq
    obtain ⟨f0, f1, f2, f3, f4, f5⟩ := hf it (by simp)
    have hl := rv.length
    exact wpAny_pyNext_enum_endD (draws_e b (show X.A.in1.handled = none from I.ok.hd hc) it a its.toArray i (by simp; omega)) he ⟨rfl, hit, p⟩ fun h' eb => ⟨rfl, I.turned (t' := s.toks) (fun b o hb q => eb b o hb q) f0 f1 f3 f4 f5⟩
  self := fun A i s Q E st h => let ⟨⟨_, he⟩, _⟩ := st; wpAny_pyIter_enum he h
set_option maxHeartbeats 1000000 in
theorem meets_en1 {v : Value} {o : Obj} {H : Heap → Prop} (B : Begins v o H) :
    Meets (Builtin.«enumerate.__new__» ⟨[.type "enumerate", v], []⟩) (fun _ R s => H s.heap ∧
      R (.ok (.ret (.ref (s.heap.push o).objs.size))) { s with heap := (s.heap.push o).push { cls := .type "enumerate", data := .fields #[.none, .bool false, .ref s.heap.objs.size, rawInt 0, .none, .none] } }) :=
  .of_wp fun prog w A R s h => by
    obtain ⟨hp, g, d, tk, os⟩ := s; obtain ⟨h1, h⟩ := h
    have hsub := sub_enumerate
    have q1 : ∀ {A' : Around} {E : Value → Shared → Prop} {Q : Value → Shared → Prop}, Q (.ref hp.objs.size) ⟨hp.push o, g, d, tk, os⟩ → wpAny (model prog w) A' (pyIter v) Q E ⟨hp, g, d, tk, os⟩ :=
      fun q => B.iter prog w _ _ ⟨hp, g, d, tk, os⟩ _ h1 q
    wp_walk using q1
    refine wpAny_stack_any fun st => wpAny_pure ?_
    split
    · rename_i c _ _ _ _ _
      cases (c == Value.type "enumerate")
      · wp_walk using q1
        exact ⟨_, rfl, h⟩
      · wp_walk using q1
        exact ⟨_, rfl, h⟩
    · wp_walk using q1
      exact ⟨_, rfl, h⟩
theorem en1_begins {P : Program} {w : World} {A : Around} {E : Value → Shared → Prop} {s : Shared} {v : Value} {o : Obj} {H : Heap → Prop} {Q : Value → Shared → Prop} (B : Begins v o H) (h1 : H s.heap)
    (h : ∀ h', IsEnum h' (s.heap.objs.size + 1) s.heap.objs.size 0 .none → h'.get? s.heap.objs.size = some o → h'.objs.size = s.heap.objs.size + 2 →
      (∀ b o, s.heap.get? b = some o → h'.get? b = some o) → Q (.ref (s.heap.objs.size + 1)) { s with heap := h' }) :
    wpAny (model P w) A (call (.type "enumerate") [v]) Q E s := by
  refine callType_new F.called_enumerate (by decide) (F.typeCall_enumerate_1 _) (F.newCall_enumerate_1 _) (fun obj => F.args_object_init_2 obj _) F.entry_enumerate_new
    (meets_en1 B) ⟨h1, ?_⟩
  have hz : (s.heap.push o).objs.size = s.heap.objs.size + 1 := Heap.size_push ..
  show _ ∧ _
  rw [hz]
  have he : IsEnum ((s.heap.push o).push { cls := .type "enumerate", data := .fields #[.none, .bool false, .ref s.heap.objs.size, rawInt 0, .none, .none] }) (s.heap.objs.size + 1) s.heap.objs.size 0 .none := by
    have := Heap.get?_push_size (s.heap.push o) (o := { cls := .type "enumerate", data := .fields #[.none, .bool false, .ref s.heap.objs.size, rawInt 0, .none, .none] }) rfl
    rw [hz] at this; exact this
  refine ⟨⟨_, he, rfl⟩, h _ he (Heap.get?_push_of_some _ (Heap.get?_push_size _ B.free)) (by rw [Heap.size_push, hz]) fun b o x => Heap.get?_push_of_some _ (Heap.get?_push_of_some _ x)⟩
theorem sqx_no {X : Cx} {pins : List (Addr × Obj)} {σ : L2.St} {H : Hp} {s : Shared} {b : Bool} {a : Addr} {xs : List V} (I : Inv X pins σ H s) (h : SqX b X.K H a xs) : a < s.heap.objs.size := by
  obtain ⟨its, _, p⟩ := inv_sq I h
  exact sq_lt p
def iEnX (K : PySem.W.Frag) (ta : TA) : TI := fun σ H R => ta σ H fun vs H1 => ∃ a b xs, vs = [.ref a] ∧ SqX b K H1 a xs ∧ R (IteX b K a 0) H1
theorem pi_enX {X : Cx} {e : Expr} {ta : TA} {p pos tpos : Pos} {elts : List Expr} {kk : Nat} (hg : Gl X "enumerate") (hm : X.mg "enumerate" = none) (ha : PA X [e] ta) (hs : starEach [e] X.env = [(false, eval e X.env)] := by rfl) :
    PI X (.Tuple elts kk tpos) (.Call (.Name "enumerate" p) [e] [] pos) (iEnX X.K ta) := by
  refine ⟨fun pins s σ H R I h => ?_⟩
  refine Call_ (ld_blt I hg hm boot_enumerate (PyProof.Rows.callWith_type1 (thn (ha.run pos pins s σ H _ I h) fun us s1 ⟨vs, H1, I1, r1, q1⟩ => ?_) hs rfl))
  obtain ⟨a, b, xs, ex, hq, q⟩ := q1
  subst ex
  cases r1 with
  | cons r rr =>
    cases rr
    cases r
    obtain ⟨its, rv, p'⟩ := inv_sq I1 hq
    have la := sq_lt p'
    refine en1_begins (begins_x b a its.toArray) p' fun h' he hit hsz hk => wpAny_pyIter_enum he ?_
    have I2 : Inv X pins σ H1 { s1 with heap := h' } := I1.kept (t' := s1.toks) hk
    have ne1 : a ≠ s1.heap.objs.size := Nat.ne_of_lt la
    have ne2 : a ≠ s1.heap.objs.size + 1 := Nat.ne_of_lt (Nat.lt_succ_of_lt la)
    refine ⟨s1.heap.objs.size + 1, [s1.heap.objs.size + 1, s1.heap.objs.size], _, _, H1, rfl, I2, turn_enumX b 0 0 a (s1.heap.objs.size + 1) s1.heap.objs.size, ⟨⟨.none, he⟩, begs_itr hit, Nat.succ_ne_self _, ne1, ne2⟩, fun c hb => ?_, q⟩
    have e' : c = s1.heap.objs.size + 1 ∨ c = s1.heap.objs.size := by simpa using hb
    have hle : s1.heap.objs.size ≤ c := by
      rcases e' with z | z
      · rw [z]; exact Nat.le_add_right _ _
      · rw [z]; exact Nat.le_refl _
    exact I1.fpOk hle (I1.hok.fresh hle)
/-- pairs of the items of two -/
def ItzX (b c : Bool) (K : PySem.W.Frag) (a a' : Addr) : It :=
  ⟨fun i H => ∃ (xs ys : List V) (x y : V), SqX b K H a xs ∧ SqX c K H a' ys ∧ xs[i]? = some x ∧ ys[i]? = some y,
    fun i H v H' => ∃ T x y, v = .ref T ∧ H T = none ∧ H' = upd H T (.tup [x, y]) ∧ (∀ xs, SqX b K H a xs → xs[i]? = some x) ∧ ∀ ys, SqX c K H a' ys → ys[i]? = some y,
    fun i H => ∃ xs ys : List V, SqX b K H a xs ∧ SqX c K H a' ys ∧ (xs.length ≤ i ∨ ys.length ≤ i)⟩
theorem mem5 {c z TI TO i1 i2 : Addr} (h : c ∈ [z, TI, TO, i1, i2]) : c = z ∨ c = TI ∨ c = TO ∨ c = i1 ∨ c = i2 := by simpa using h
theorem turn_zipX {P : Program} {w : World} {K : PySem.W.Frag} {elts : List Expr} {kk : Nat} {tpos : Pos} (b c : Bool) {a a' z TI TO i1 i2 : Addr} (D : ZipSep2 z TI TO i1 i2 [i1, a] [i2, a']) :
    Turn P w K (.Tuple elts kk tpos) (ItzX b c K a a') [z, TI, TO, i1, i2] z (fun i h => IsZip h z TI TO .none ∧ IsTupOf2 h TI (.ref i1) (.ref i2) ∧ (∃ x y, IsTupOf2 h TO x y) ∧ IsItr b h i1 a i ∧ IsItr c h i2 a' i ∧ a ≠ i1 ∧ a' ≠ i2) where
  mem := by simp
  obj := fun i h st q hq => by
    obtain ⟨hz, hTI, ⟨x, y, hTO⟩, p1, p2, _⟩ := st
    rcases mem5 hq with e | e | e | e | e
    · rw [e]; exact ⟨_, hz, fun v q => nomatch q⟩
    · rw [e]; exact ⟨_, hTI, fun v q => nomatch q⟩
    · rw [e]; exact ⟨_, hTO, fun v q => nomatch q⟩
    · rw [e]; exact itr_obj p1
    · rw [e]; exact itr_obj p2
  keep := fun i h h' st k => by
    obtain ⟨hz, hTI, ⟨x, y, hTO⟩, h1, h2, m1, m2⟩ := st
    exact ⟨k z (by simp) _ hz, k TI (by simp) _ hTI, ⟨x, y, k TO (by simp) _ hTO⟩, itr_at h1 fun o q => k i1 (by simp) o q, itr_at h2 fun o q => k i2 (by simp) o q, m1, m2⟩
  item := by
    intro X hP hw hK hc i pins s σ H E I hf st hg
    subst hP hw hK
    obtain ⟨hz, hTI, ⟨x0, y0, hTO⟩, h1, h2, m1, m2⟩ := st
    obtain ⟨xs, ys, x, y, hqx, hqy, hx, hy⟩ := hg
    obtain ⟨its, rv, p⟩ := inv_sq I hqx
    obtain ⟨its2, rv2, p2⟩ := inv_sq I hqy
    obtain ⟨u, hu, ru⟩ := rv.get hx
    obtain ⟨u2, hu2, ru2⟩ := rv2.get hy
    have hzl : z < s.heap.objs.size := Heap.lt_size hz
    have hh : X.A.in1.handled = none := I.ok.hd hc
    have lt1 : i < its.toArray.size := by
      have := (List.getElem?_eq_some_iff.mp hu).1
      simpa using this
    have lt2 : i < its2.toArray.size := by
      have := (List.getElem?_eq_some_iff.mp hu2).1
      simpa using this
    refine wpAny_pyNext_zipD2_item D (draws_x b hh i1 a m1 its.toArray) (draws_x c hh i2 a' m2 its2.toArray) hz hTI hTO ⟨h1, p⟩ ⟨h2, p2⟩ lt1 lt2 fun x1 x2 h' tk e1 e2 z' TO' h1' h2' hT hsz hk => ?_
    have hu1 : x1 = u := by
      have : its[i]? = some x1 := by simpa using e1
      rw [hu] at this
      exact (Option.some.inj this).symm
    have hu3 : x2 = u2 := by
      have : its2[i]? = some x2 := by simpa using e2
      rw [hu2] at this
      exact (Option.some.inj this).symm
    subst hu1
    subst hu3
    refine ⟨_, rfl, wpAny_letOwnedTupleGo_zip (s := { s with heap := h', toks := tk }) z' fun h'' z'' sb => ?_⟩
    have hT2 : h''.get? s.heap.objs.size = some { cls := .type "tuple", data := .seq #[x1, x2] } := (sb.2 _ (Nat.ne_of_gt hzl)).trans hT
    have new : ObjOk X.prog X.w (upd H s.heap.objs.size (.tup [x, y])) h'' s.heap.objs.size (.tup [x, y]) :=
      ⟨by show 2 ≤ sizeLine; decide, [x1, x2], .cons ru (.cons ru2 .nil), ⟨_, hT2, rfl, _, rfl⟩⟩
    have I1 : Inv X pins σ (upd H s.heap.objs.size (.tup [x, y])) { s with heap := h'', toks := tk } :=
      I.turnedNew (t' := tk) (ch := [z, TI, TO, i1, i2]) (fun q o hb e => (sb.2 q (fun q' => hb (by simp [q']))).trans (hk q o (fun q' => hb (by simp [q'])) (fun q' => hb (by simp [q'])) (fun q' => hb (by simp [q'])) (fun q' => hb (by simp [q'])) e)) hf (Nat.le_refl _) new
    have i1z : i1 ≠ z := fun e => D.zf1 (by rw [← e]; exact D.mem1)
    have i2z : i2 ≠ z := fun e => D.zf2 (by rw [← e]; exact D.mem2)
    refine ⟨.ref s.heap.objs.size, _, I1, rfl, ⟨_, x, y, rfl, I.hok.fresh (Nat.le_refl _), rfl, fun l hl => by rw [inv_inj I hl hqx]; exact hx, fun l hl => by rw [inv_inj I hl hqy]; exact hy⟩, ⟨z'', ?_, ⟨x1, x2, ?_⟩, ?_, ?_, m1, m2⟩, fun q hq => ?_⟩
    · exact (sb.2 _ D.TIz).trans (hk _ _ D.TIz D.TITO D.TIi1 D.TIi2 hTI)
    · exact (sb.2 _ D.TOz).trans TO'
    · exact itr_at h1'.1 fun o q => (sb.2 _ i1z).trans q
    · exact itr_at h2'.1 fun o q => (sb.2 _ i2z).trans q
    · have hlt : q < s.heap.objs.size := by
        rcases mem5 hq with e | e | e | e | e
        · rw [e]; exact hzl
        · rw [e]; exact Heap.lt_size hTI
        · rw [e]; exact Heap.lt_size hTO
        · rw [e]; obtain ⟨_, e1, _⟩ := itr_obj h1; exact Heap.lt_size e1
        · rw [e]; obtain ⟨_, e2, _⟩ := itr_obj h2; exact Heap.lt_size e2
      rw [upd_ne (Nat.ne_of_lt hlt)]
      exact (hf q hq).1
  done := by
    intro X hP hw hK hc i pins s σ H E I hf st hg
    subst hP hw hK
    obtain ⟨hz, hTI, ⟨x0, y0, hTO⟩, h1, h2, m1, m2⟩ := st
    obtain ⟨xs, ys, hqx, hqy, hend⟩ := hg
    obtain ⟨its, rv, p⟩ := inv_sq I hqx
    obtain ⟨its2, rv2, p2⟩ := inv_sq I hqy
    have l1 := rv.length
    have l2 := rv2.length
    have hh : X.A.in1.handled = none := I.ok.hd hc
    have fin : ∀ (h' : Heap) (tk : Nat), (∀ q o, q ≠ z → q ≠ TO → q ≠ i1 → q ≠ i2 → s.heap.get? q = some o → h'.get? q = some o) → (none : Option Value) = none ∧ Inv X pins σ H { s with heap := h', toks := tk } := fun h' tk hk =>
      ⟨rfl, I.turnedL (t' := tk) (ch := [z, TI, TO, i1, i2]) (fun q o hb e => hk q o (fun q' => hb (by simp [q'])) (fun q' => hb (by simp [q'])) (fun q' => hb (by simp [q'])) (fun q' => hb (by simp [q'])) e) hf⟩
    by_cases c1 : xs.length ≤ i
    · have n1 : its.toArray[i]? = none := by simp; omega
      by_cases c2 : ys.length ≤ i
      · have n2 : its2.toArray[i]? = none := by simp; omega
        exact wpAny_pyNext_zipD2_end D (draws_e b hh i1 a its.toArray i n1) (draws_e c hh i2 a' its2.toArray i n2) hz hTI hTO ⟨rfl, h1, p⟩ ⟨rfl, h2, p2⟩ (Nat.le_refl _) (Nat.le_refl _) (.inl rfl) fin
      · exact wpAny_pyNext_zipD2_end D (draws_e b hh i1 a its.toArray i n1) (draws_x c hh i2 a' m2 its2.toArray) hz hTI hTO ⟨rfl, h1, p⟩ ⟨h2, p2⟩ (Nat.le_refl _) (by simp; omega) (.inl rfl) fin
    · have n2 : its2.toArray[i]? = none := by simp; omega
      exact wpAny_pyNext_zipD2_end D (draws_x b hh i1 a m1 its.toArray) (draws_e c hh i2 a' its2.toArray i n2) hz hTI hTO ⟨h1, p⟩ ⟨rfl, h2, p2⟩ (by simp; omega) (Nat.le_refl _) (.inr rfl) fin
  self := fun A i s Q E st h => wpAny_pyIter_zip st.1 h
def iZpX (K : PySem.W.Frag) (ta : TA) : TI := fun σ H R => ta σ H fun vs H1 => ∃ a a' b c xs ys, vs = [.ref a, .ref a'] ∧ SqX b K H1 a xs ∧ SqX c K H1 a' ys ∧ R (ItzX b c K a a') H1
theorem pi_zpX {X : Cx} {e e2 : Expr} {ta : TA} {p pos tpos : Pos} {elts : List Expr} {kk : Nat} (hg : Gl X "zip") (hm : X.mg "zip" = none) (ha : PA X [e, e2] ta)
    (hs : starEach [e, e2] X.env = (false, eval e X.env) :: starEach [e2] X.env := by rfl) (hpl : (backTo pos (starEach [e2] X.env)).any (·.1) = false := by rfl) :
    PI X (.Tuple elts kk tpos) (.Call (.Name "zip" p) [e, e2] [] pos) (iZpX X.K ta) := by
  refine ⟨fun pins s σ H R I h => ?_⟩
  refine Call_ (ld_blt I hg hm PyProof.Rows.boot_zip (PyProof.Rows.callWith_type1 (thn (ha.run pos pins s σ H _ I h) fun us s1 ⟨vs, H1, I1, r1, q1⟩ => ?_) hs hpl))
  obtain ⟨a, a', b, c, xs, ys, ex, hqx, hqy, q⟩ := q1
  subst ex
  cases r1 with
  | cons r rr =>
    cases rr with
    | cons r' rr =>
      cases rr
      cases r
      cases r'
      obtain ⟨its, rv, p1⟩ := inv_sq I1 hqx
      obtain ⟨its2, rv2, p2⟩ := inv_sq I1 hqy
      have la : a < s1.heap.objs.size := sq_lt p1
      have lb : a' < s1.heap.objs.size := sq_lt p2
      refine zip_begins2 (begins_x b a its.toArray) (begins_x c a' its2.toArray) p1 p2 fun h' hz hTI hTO h1 h2 hsz hk => wpAny_pyIter_zip hz ?_
      have I2 : Inv X pins σ H1 { s1 with heap := h' } := I1.kept (t' := s1.toks) hk
      have D := zip_sep2 (N := s1.heap.objs.size) (fp1 := [a]) (fp2 := [a']) (fun q hq => by rw [List.mem_singleton.mp hq]; exact la) (fun q hq => by rw [List.mem_singleton.mp hq]; exact lb)
      refine ⟨s1.heap.objs.size + 4, [s1.heap.objs.size + 4, s1.heap.objs.size + 2, s1.heap.objs.size + 3, s1.heap.objs.size, s1.heap.objs.size + 1], _, _, H1, rfl, I2, turn_zipX b c D, ⟨hz, hTI, ⟨_, _, hTO⟩, begs_itr h1, begs_itr h2, Nat.ne_of_lt la, Nat.ne_of_lt (Nat.lt_succ_of_lt lb)⟩, fun q hq => ?_, q⟩
      have hle : s1.heap.objs.size ≤ q := by
        rcases mem5 hq with z | z | z | z | z
        · rw [z]; exact Nat.le_add_right _ _
        · rw [z]; exact Nat.le_add_right _ _
        · rw [z]; exact Nat.le_add_right _ _
        · rw [z]; exact Nat.le_refl _
        · rw [z]; exact Nat.le_add_right _ _
      exact I1.fpOk hle (I1.hok.fresh hle)
end Mi
/-! own: enumerate(..), zip(..) by data -/
namespace Mi
open PySem PySem.Spec PyProof.Rows L2 Kt Kj
section
variable {c : Cc} {F0 H0 : Hp} {W : WX} {X : Cx} {pos : Pos} {a b : Expr} {es : List Expr} {m1 m2 : Mv} [hq : Dq c H0]
def enD (k : Int) (ds : List D) : List D := ds.mapIdx fun i d => .tup [.int (k + (i : Nat)), d]
def zpD (xs ys : List D) : List D := List.zipWith (fun x y => .tup [x, y]) xs ys
/-- what a list or a tuple has -/
def asQ : A → Option (List D)
  | .d (.lst ds) => some ds
  | .own ds => some ds
  | .d (.tup ds) => some ds
  | _ => none
/-- the sequence at q holds the data ds, as long as what is frozen in F1 stays -/
def Sqd (c : Cc) (F1 : Hp) (b : Bool) (q : Addr) (ds : List D) (xs : List V) : Prop := RpL c F1 ds xs ∧ ∀ {F H : Hp} {s : Sx}, Wo c s F H → Same F1 F → SqX b c.K H q xs
theorem sqd_same {F1 F2 : Hp} {b : Bool} {q : Addr} {ds : List D} {xs : List V} (h : Sqd c F1 b q ds xs) (s : Same F1 F2) : Sqd c F2 b q ds xs := ⟨rpL_same s _ _ h.1, fun w k => h.2 w (s.trans k)⟩
theorem asQ_sqd {F' F1 H1 Hb : Hp} {s : Sx} {x : A} {v : V} {ds : List D} (w : Wo c s F1 H1) (r : RA c H0 Hb F' H1 x v) (hf : Same F' F1) (e : asQ x = some ds) :
    ∃ F2 b q xs, v = .ref q ∧ Wo c s F2 H1 ∧ Same F1 F2 ∧ (∀ F, Go c F Hb F1 H1 → Go c F Hb F2 H1) ∧ Sqd c F2 b q ds xs := by
  unfold asQ at e
  split at e
  · cases e
    obtain ⟨hl, q, xs, rfl, h2, r2⟩ := rp_lst.mp (show Rp c F' _ v from r)
    exact ⟨F1, false, q, xs, rfl, w, Same.refl _, fun _ g => g, rpL_same hf _ _ r2, fun w k => SqL.of (w.sub _ _ (k _ _ (hf _ _ h2)))⟩
  · cases e
    obtain ⟨q, rfl, o⟩ := r
    obtain ⟨F2, w2, s2, g2, r2⟩ := frzOwn w o hf
    obtain ⟨hl, q', xs, eq, h2, r2⟩ := rp_lst.mp r2
    cases eq
    exact ⟨F2, false, q, xs, rfl, w2, s2, g2, r2, fun w k => SqL.of (w.sub _ _ (k _ _ h2))⟩
  · cases e
    obtain ⟨hl, q, xs, rfl, h2, r2⟩ := rp_tup.mp (show Rp c F' _ v from r)
    exact ⟨F1, true, q, xs, rfl, w, Same.refl _, fun _ g => g, rpL_same hf _ _ r2, fun w k => sqT_same w.sub (sqT_same k (sqT_same hf h2))⟩
  · cases e
theorem walk_en {F1 : Hp} {b : Bool} {q : Addr} {k : Int} {ds : List D} {xs : List V} (h : Sqd c F1 b q ds xs) : WalkD c F1 (IteX b c.K q k) (enD k ds) := by
  obtain ⟨r2, sq⟩ := h
  refine ⟨fun {F H s} w hd hs i d e => ?_, fun {F H s} w hs i hi => ?_⟩
  · unfold enD at e
    rw [List.getElem?_mapIdx] at e
    cases z : ds[i]? with
    | none => rw [z] at e; cases e
    | some d0 =>
      rw [z] at e
      cases e
      obtain ⟨v, ev, rv⟩ := r2.at i z
      refine ⟨⟨xs, v, sq w hs, ev⟩, fun x H' y => ?_⟩
      obtain ⟨T, x', rfl, n, rfl, y⟩ := y
      have := y xs (sq w hs)
      rw [ev] at this
      cases this
      exact ⟨_, w.newF n (fun ps z => by cases z), .newF w n, rp_tup.mpr ⟨by show 2 ≤ 1000000; decide, T, _, rfl, SqT.of upd_same, rpL_cons.mpr ⟨_, _, rfl, rp_int.mpr rfl, rpL_cons.mpr ⟨_, _, rfl, rp_same (same_updN (w.fnone n)) _ _ (rp_same hs _ _ rv), rpL_nil.mpr rfl⟩⟩⟩⟩
  · unfold enD at hi
    rw [List.length_mapIdx] at hi
    exact ⟨xs, sq w hs, by rw [r2.len]; exact hi⟩
theorem walk_zp {F1 : Hp} {b b' : Bool} {q q' : Addr} {ds es : List D} {xs ys : List V} (h : Sqd c F1 b q ds xs) (h' : Sqd c F1 b' q' es ys) : WalkD c F1 (ItzX b b' c.K q q') (zpD ds es) := by
  obtain ⟨r2, sq⟩ := h
  obtain ⟨r3, sq3⟩ := h'
  refine ⟨fun {F H s} w hd hs i d e => ?_, fun {F H s} w hs i hi => ?_⟩
  · unfold zpD at e
    rw [List.getElem?_zipWith] at e
    cases z : ds[i]? with
    | none => rw [z] at e; cases e
    | some d0 =>
      cases z' : es[i]? with
      | none => rw [z, z'] at e; cases e
      | some d1 =>
        rw [z, z'] at e
        cases e
        obtain ⟨v, ev, rv⟩ := r2.at i z
        obtain ⟨v', ev', rv'⟩ := r3.at i z'
        refine ⟨⟨xs, ys, v, v', sq w hs, sq3 w hs, ev, ev'⟩, fun x H' y => ?_⟩
        obtain ⟨T, x', x3, rfl, n, rfl, y, y'⟩ := y
        have e1 := y xs (sq w hs)
        rw [ev] at e1
        cases e1
        have e2 := y' ys (sq3 w hs)
        rw [ev'] at e2
        cases e2
        exact ⟨_, w.newF n (fun ps z => by cases z), .newF w n, rp_tup.mpr ⟨by show 2 ≤ 1000000; decide, T, _, rfl, SqT.of upd_same, rpL_cons.mpr ⟨_, _, rfl, rp_same (same_updN (w.fnone n)) _ _ (rp_same hs _ _ rv), rpL_cons.mpr ⟨_, _, rfl, rp_same (same_updN (w.fnone n)) _ _ (rp_same hs _ _ rv'), rpL_nil.mpr rfl⟩⟩⟩⟩
  · unfold zpD at hi
    rw [List.length_zipWith] at hi
    exact ⟨xs, ys, sq w hs, sq3 w hs, by rw [r2.len, r3.len]; omega⟩
def asN : List A → Option (List D)
  | [x] => (asQ x).map (enD 0)
  | _ => none
def asP : List A → Option (List D)
  | [x, y] => match asQ x, asQ y with
    | some ds, some es => some (zpD ds es)
    | _, _ => none
  | _ => none
def mItE (ms : List Mv) : Mi' := fun e s => (mArgs ms e s).bind fun as s1 => opt (asN as) s1
def mItZ (ms : List Mv) : Mi' := fun e s => (mArgs ms e s).bind fun as s1 => opt (asP as) s1
theorem mi_en {ms : List Mv} {p tpos : Pos} {elts : List Expr} {kk : Nat} (hK : X.K = c.K) (hg : Gl X "enumerate") (hm : X.mg "enumerate" = none) (ha : MA c F0 H0 W X [a] (mArgs ms)) (hs : starEach [a] X.env = [(false, eval a X.env)] := by rfl) :
    MI c F0 H0 W X (.Tuple elts kk tpos) (.Call (.Name "enumerate" p) [a] [] pos) (mItE ms) := by
  refine pi_mono (pi_enX hg hm ha hs) fun σ H Q ⟨F, e, s, hh, p⟩ => ?_
  refine rd_mono (bindK hh p) fun x H1 ⟨F1, s1, a1, h1, g1, r1, p1⟩ => ?_
  obtain ⟨ds, e1, p2⟩ := post_oD p1
  rw [hK]
  unfold asN at e1
  split at e1
  · rename_i y
    cases hy : asQ y with
    | none => rw [hy] at e1; cases e1
    | some zs =>
      rw [hy] at e1
      cases e1
      obtain ⟨v, r, rfl, q1, q3⟩ := r1
      cases q3
      obtain ⟨F2, b, q, xs, rfl, w2, s2, g2, sq⟩ := asQ_sqd h1.w q1 (Same.refl _) hy
      exact ⟨q, b, xs, rfl, sq.2 w2 (Same.refl _), p2 _ F2 H1 w2 (g2 _ g1) (walk_en sq)⟩
  · cases e1
theorem mi_zp {ms : List Mv} {p tpos : Pos} {elts : List Expr} {kk : Nat} (hK : X.K = c.K) (hg : Gl X "zip") (hm : X.mg "zip" = none) (ha : MA c F0 H0 W X [a, b] (mArgs ms))
    (hs : starEach [a, b] X.env = (false, eval a X.env) :: starEach [b] X.env := by rfl) (hpl : (backTo pos (starEach [b] X.env)).any (·.1) = false := by rfl) :
    MI c F0 H0 W X (.Tuple elts kk tpos) (.Call (.Name "zip" p) [a, b] [] pos) (mItZ ms) := by
  refine pi_mono (pi_zpX hg hm ha hs hpl) fun σ H Q ⟨F, e, s, hh, p⟩ => ?_
  refine rd_mono (bindK hh p) fun x H1 ⟨F1, s1, a1, h1, g1, r1, p1⟩ => ?_
  obtain ⟨ds, e1, p2⟩ := post_oD p1
  rw [hK]
  unfold asP at e1
  split at e1
  · rename_i y z
    split at e1
    · rename_i ys zs hy hz
      cases e1
      obtain ⟨v, r, rfl, q1, v2, r2, rfl, q2, q3⟩ := r1
      cases q3
      obtain ⟨F2, b, q, xs, rfl, w2, s2, g2, sq⟩ := asQ_sqd h1.w q1 (Same.refl _) hy
      obtain ⟨F3, b', q', ys', rfl, w3, s3, g3, sq3⟩ := asQ_sqd w2 q2 s2 hz
      exact ⟨q, q', b, b', xs, ys', rfl, sq.2 w3 s3, sq3.2 w3 (Same.refl _), p2 _ F3 H1 w3 (g3 _ (g2 _ g1)) (walk_zp (sqd_same sq s3) sq3)⟩
    · cases e1
  · cases e1
end
end Mi
/-! own: a op b op c op d -/
namespace Mi
open PySem PySem.Spec PyProof.Rows L2 Kt Kj
section
variable {c : Cc} {F0 H0 : Hp} {W : WX} {X : Cx} {pos : Pos} {a b d f : Expr} {es : List Expr} {m1 m2 m3 m4 : Mv} [hq : Dq c H0]
def tChain3 (r r' r2 : R2) (ta tb tc td : TE) : TE := fun σ H Q => ta σ H fun x H1 => tb σ H1 fun y H2 => r x y H2 fun z H3 => ∃ k, z = .bl k ∧
  (if k = true then tc σ H3 fun u H4 => r' y u H4 fun z' H5 => ∃ k', z' = .bl k' ∧ (if k' = true then td σ H5 fun v H6 => r2 u v H6 Q else Q (.bl false) H5) else Q (.bl false) H3)
theorem pe_chain3 {op op' op2 : CmpOp} {r r' r2 : R2} {ta tb tc td : TE} (ho : OpR X (compareOp op) r) (ho' : OpR X (compareOp op') r') (ho2 : OpR X (compareOp op2) r2) (ha : PE X a ta) (hb : PE X b tb) (hc : PE X d tc) (hd : PE X f td)
    (hm : lastMarks [op, op', op2] [b, d, f] = false := by with_unfolding_all rfl) : PE X (.Compare a [op, op', op2] [b, d, f] pos) (tChain3 r r' r2 ta tb tc td) := by
  refine ⟨fun pins s σ H Q I h => ?_⟩
  refine Compare_chain (thn (ha.run pins s σ H _ I h) fun v s1 ⟨x, H1, I1, r1, q1⟩ => chain_link (thn (hb.run pins s1 σ H1 _ I1 q1) fun u s2 ⟨y, H2, I2, ry, q2⟩ =>
    thn (ho pins s2 σ H2 x y v u _ I2 r1 ry q2) fun d s3 ⟨z, H3, I3, r3, k, e, q3⟩ => ?_)) hm
  subst e
  cases r3
  refine wpAny_truthy_bool ?_
  cases k with
  | false => exact ite_ff ⟨.bl false, H3, I3, rfl, q3⟩
  | true =>
    refine ite_tt (chain_link (thn (hc.run pins s3 σ H3 _ I3 q3) fun w' s4 ⟨z', H4, I4, r4, q4⟩ => thn (ho' pins s4 σ H4 y z' u w' _ I4 ry r4 q4) fun d5 s5 ⟨z5, H5, I5, r5, k5, e5, q5⟩ => ?_))
    subst e5
    cases r5
    refine wpAny_truthy_bool ?_
    cases k5 with
    | false => exact ite_ff ⟨.bl false, H5, I5, rfl, q5⟩
    | true => exact ite_tt (chain_last (thn (hd.run pins s5 σ H5 _ I5 q5) fun w6 s6 ⟨z6, H6, I6, r6, q6⟩ => ho2 pins s6 σ H6 z' z6 w' w6 Q I6 r4 r6 q6))
theorem pt_chain3 {op op' op2 : CmpOp} {r r' r2 : R2} {ta tb tc td : TE} (ho : OpR X (compareOp op) r) (ho' : OpR X (compareOp op') r') (ho2 : OpR X (compareOp op2) r2) (ha : PE X a ta) (hb : PE X b tb) (hc : PE X d tc) (hd : PE X f td)
    (hm : lastMarks [op, op', op2] [b, d, f] = false := by with_unfolding_all rfl) : PT X (.Compare a [op, op', op2] [b, d, f] pos) (tTest (tChain3 r r' r2 ta tb tc td)) := by
  refine ⟨fun pins s σ H Q I h => ?_⟩
  refine isTrue_chain (thn (ha.run pins s σ H _ I h) fun v s1 ⟨x, H1, I1, r1, q1⟩ => test_link (thn (hb.run pins s1 σ H1 _ I1 q1) fun u s2 ⟨y, H2, I2, ry, q2⟩ =>
    thn (ho pins s2 σ H2 x y v u _ I2 r1 ry q2) fun d s3 ⟨z, H3, I3, r3, k, e, q3⟩ => ?_)) hm
  subst e
  cases r3
  refine wpAny_truthy_bool ?_
  cases k with
  | false =>
    obtain ⟨k', e', q'⟩ := q3
    cases e'
    exact ite_ff ⟨H3, I3, q'⟩
  | true =>
    refine ite_tt (test_link (thn (hc.run pins s3 σ H3 _ I3 q3) fun w' s4 ⟨z', H4, I4, r4, q4⟩ => thn (ho' pins s4 σ H4 y z' u w' _ I4 ry r4 q4) fun d5 s5 ⟨z5, H5, I5, r5, k5, e5, q5⟩ => ?_))
    subst e5
    cases r5
    refine wpAny_truthy_bool ?_
    cases k5 with
    | false =>
      obtain ⟨k', e', q'⟩ := q5
      cases e'
      exact ite_ff ⟨H5, I5, q'⟩
    | true =>
      refine ite_tt (test_last (thn (hd.run pins s5 σ H5 _ I5 q5) fun w6 s6 ⟨z6, H6, I6, r6, q6⟩ => thn (ho2 pins s6 σ H6 z' z6 w' w6 _ I6 r4 r6 q6) fun d7 s7 ⟨z7, H7, I7, r7, k7, e7, q7⟩ => ?_))
      subst e7
      cases r7
      exact wpAny_truthy_bool ⟨H7, I7, q7⟩
end
section
variable {c : Cc} {F0 H0 : Hp} {W : WX} {X : Cx} {pos : Pos} {a b d f : Expr} {es : List Expr} {m1 m2 m3 m4 : Mv} [hq : Dq c H0]
def mChain3 (g g' g2 : D → D → Option A) (m1 m2 m3 m4 : Mv) : Mv := fun e s => (m1 e s).bind fun x s1 => (m2 e s1).bind fun y s2 => (opt (g x.v y.v) s2).bind fun z s3 => (opt (asB z) s3).bind fun k s4 =>
  if k = true then (m3 e s4).bind fun u s5 => (opt (g' y.v u.v) s5).bind fun z s6 => (opt (asB z) s6).bind fun k s7 => if k = true then (m4 e s7).bind fun w s8 => opt (g2 u.v w.v) s8 else .ok (.d (.bl false)) s7 else .ok (.d (.bl false)) s4
theorem Post.wk {α β : Type} {σ : L2.St} {F H : Hp} {R R' : Hp → Hp → α → β → Prop} {r : Res α} {Q : β → Hp → Prop} (p : Post c W σ F H R r Q) (h : ∀ F' H' a v, R' F' H' a v → R F' H' a v) : Post c W σ F H R' r Q := by
  cases r with
  | ok y s2 => exact fun v F' H' w g r => p v F' H' w g (h _ _ _ _ r)
  | er k2 s2 => exact p
  | bad => exact p
theorem chain3_sound {g g' g2 : D → D → Option A} {r r' r2 : R2} {ta tb tc td : TE} {σ : L2.St} {Q : VK} (hg : OpS c r g) (hg' : OpS c r' g') (hg2 : OpS c r2 g2)
    (h : rd c F0 H0 W (fun Hb F H a v => RA c H0 Hb F H a v) (mChain3 g g' g2 m1 m2 m3 m4) σ H Q) :
    tChain3 r r' r2 (rd c F0 H0 W (fun Hb F H a v => RA c H0 Hb F H a v) m1) (rd c F0 H0 W (fun Hb F H a v => RA c H0 Hb F H a v) m2) (rd c F0 H0 W (fun Hb F H a v => RA c H0 Hb F H a v) m3) (rd c F0 H0 W (fun Hb F H a v => RA c H0 Hb F H a v) m4) σ H Q := by
  obtain ⟨F, e, s, hh, p⟩ := h
  unfold tChain3
  refine rd_mono (bindE (R' := fun Hb F H a v => RA c H0 Hb F H a v) hh (fun h r => r.since h) p) fun x H1 ⟨F1, s1, a1, h1, g1, r1, p1⟩ => ?_
  refine rd_mono (bindE (R' := fun Hb F H a v => RA c H0 Hb F H a v) h1 (fun h r => r.since h) p1) fun y H2 ⟨F2, s2, a2, h2, g2, ry, p2⟩ => ?_
  obtain ⟨k, ek, p3⟩ := post_o p2
  refine hg (H0 := H0) h2.w h2.dq ((r1.go g2).vw h2.w) (ry.vw h2.w) ek fun z F3 H3 w3 g3 r3 => ?_
  obtain ⟨k', ek', p4⟩ := post_o p3
  refine ⟨k', asB_some ek' (show RA c H0 H2 F3 H3 k z from r3), ?_⟩
  have p5 := p4.go g3
  cases k' with
  | true =>
    rw [if_pos rfl] at p5 ⊢
    have h3 := h2.go g3 w3
    refine rd_mono (bindE (R' := fun Hb F H a v => RA c H0 Hb F H a v) h3 (fun h r => r.since h) (p5.wk (R' := fun F H a v => RA c H0 H3 F H a v) fun _ _ _ _ r => r.since fun p n => g3.free n)) fun u H4 ⟨F4, s4, a4, h4, g4, r4, p6⟩ => ?_
    obtain ⟨z2, ez2, p7⟩ := post_o p6
    refine hg' (H0 := H0) h4.w h4.dq (((ry.go g3).go g4).vw h4.w) (r4.vw h4.w) ez2 fun z5 F5 H5 w5 g5 r5 => ?_
    obtain ⟨k5, ek5, p8⟩ := post_o p7
    refine ⟨k5, asB_some ek5 (show RA c H0 H4 F5 H5 z2 z5 from r5), ?_⟩
    have p9 := p8.go g5
    cases k5 with
    | true =>
      rw [if_pos rfl] at p9 ⊢
      have h5 := h4.go g5 w5
      refine rd_mono (bindK h5 p9) fun v H6 ⟨F6, s6, a6, h6, g6, r6, p10⟩ => ?_
      obtain ⟨z6, ez6, q6⟩ := post_oD p10
      refine hg2 (H0 := H0) h6.w h6.dq (((r4.go g5).go g6).vw h6.w) (r6.vw h6.w) ez6 fun v F' H' w g r => q6 v F' H' w (g6.trans g) (r.since fun p n => ?_)
      exact g5.free (g6.free n)
    | false =>
      rw [if_neg (by simp)] at p9 ⊢
      exact p9 _ F5 H5 w5 .refl ra_bl
  | false =>
    rw [if_neg (by simp)] at p5 ⊢
    exact p5 _ F3 H3 w3 .refl ra_bl
theorem me_chain3 {op op' op2 : CmpOp} {r r' r2 : R2} {g g' g2 : D → D → Option A} (ho : OpR X (compareOp op) r) (ho' : OpR X (compareOp op') r') (ho2 : OpR X (compareOp op2) r2) (hg : OpS c r g) (hg' : OpS c r' g') (hg2 : OpS c r2 g2) (ha : ME c F0 H0 W X a m1) (hb : ME c F0 H0 W X b m2) (hc : ME c F0 H0 W X d m3) (hd : ME c F0 H0 W X f m4)
    (hP : ∀ {ta tb tc td : TE}, PE X a ta → PE X b tb → PE X d tc → PE X f td → PE X (.Compare a [op, op', op2] [b, d, f] pos) (tChain3 r r' r2 ta tb tc td)) : ME c F0 H0 W X (.Compare a [op, op', op2] [b, d, f] pos) (mChain3 g g' g2 m1 m2 m3 m4) :=
  pe_mono (hP ha hb hc hd) fun σ H Q h => chain3_sound (ta := fun _ _ _ => True) (tb := fun _ _ _ => True) (tc := fun _ _ _ => True) (td := fun _ _ _ => True) hg hg' hg2 h
theorem mt_chain3 {op op' op2 : CmpOp} {r r' r2 : R2} {g g' g2 : D → D → Option A} (ho : OpR X (compareOp op) r) (ho' : OpR X (compareOp op') r') (ho2 : OpR X (compareOp op2) r2) (hg : OpS c r g) (hg' : OpS c r' g') (hg2 : OpS c r2 g2) (ha : ME c F0 H0 W X a m1) (hb : ME c F0 H0 W X b m2) (hc : ME c F0 H0 W X d m3) (hd : ME c F0 H0 W X f m4)
    (hP : ∀ {ta tb tc td : TE}, PE X a ta → PE X b tb → PE X d tc → PE X f td → PT X (.Compare a [op, op', op2] [b, d, f] pos) (tTest (tChain3 r r' r2 ta tb tc td))) : MT c F0 H0 W X (.Compare a [op, op', op2] [b, d, f] pos) (mBool (mChain3 g g' g2 m1 m2 m3 m4)) :=
  mt_of (hP ha hb hc hd) fun σ H Q h => chain3_sound (ta := fun _ _ _ => True) (tb := fun _ _ _ => True) (tc := fun _ _ _ => True) (td := fun _ _ _ => True) hg hg' hg2 h
end
/-! min, max of a list of numbers -/
def minI (n : Int) (ns : List Int) : Int := ns.foldl (fun a b => if b < a then b else a) n
def maxI (n : Int) (ns : List Int) : Int := ns.foldl (fun a b => if a < b then b else a) n
theorem minI_mem : ∀ (ns : List Int) (n : Int), minI n ns ∈ n :: ns
  | [], n => List.mem_cons_self
  | m :: ns, n => by
    have ih := minI_mem ns (if m < n then m else n)
    show minI (if m < n then m else n) ns ∈ n :: m :: ns
    rcases List.mem_cons.mp ih with h | h
    · rw [h]
      split
      · exact List.mem_cons_of_mem _ List.mem_cons_self
      · exact List.mem_cons_self
    · exact List.mem_cons_of_mem _ (List.mem_cons_of_mem _ h)
theorem minI_le : ∀ (ns : List Int) (n : Int), ∀ m ∈ n :: ns, minI n ns ≤ m
  | [], n, m, h => by rw [List.mem_singleton.mp h]; exact Int.le_refl _
  | k :: ns, n, m, h => by
    have ih := minI_le ns (if k < n then k else n)
    show minI (if k < n then k else n) ns ≤ m
    have h0 := ih _ List.mem_cons_self
    rcases List.mem_cons.mp h with rfl | h
    · by_cases z : k < m
      · rw [if_pos z] at h0 ⊢
        omega
      · rw [if_neg z] at h0 ⊢
        omega
    rcases List.mem_cons.mp h with rfl | h
    · by_cases z : m < n
      · rw [if_pos z] at h0 ⊢
        omega
      · rw [if_neg z] at h0 ⊢
        omega
    · exact ih m (List.mem_cons_of_mem _ h)
theorem maxI_mem : ∀ (ns : List Int) (n : Int), maxI n ns ∈ n :: ns
  | [], n => List.mem_cons_self
  | m :: ns, n => by
    have ih := maxI_mem ns (if n < m then m else n)
    show maxI (if n < m then m else n) ns ∈ n :: m :: ns
    rcases List.mem_cons.mp ih with h | h
    · rw [h]
      split
      · exact List.mem_cons_of_mem _ List.mem_cons_self
      · exact List.mem_cons_self
    · exact List.mem_cons_of_mem _ (List.mem_cons_of_mem _ h)
theorem maxI_le : ∀ (ns : List Int) (n : Int), ∀ m ∈ n :: ns, m ≤ maxI n ns
  | [], n, m, h => by rw [List.mem_singleton.mp h]; exact Int.le_refl _
  | k :: ns, n, m, h => by
    have ih := maxI_le ns (if n < k then k else n)
    show m ≤ maxI (if n < k then k else n) ns
    have h0 := ih _ List.mem_cons_self
    rcases List.mem_cons.mp h with rfl | h
    · by_cases z : m < k
      · rw [if_pos z] at h0 ⊢
        omega
      · rw [if_neg z] at h0 ⊢
        omega
    rcases List.mem_cons.mp h with rfl | h
    · by_cases z : n < m
      · rw [if_pos z] at h0 ⊢
        omega
      · rw [if_neg z] at h0 ⊢
        omega
    · exact ih m (List.mem_cons_of_mem _ h)
def dMinL : List D → Option A
  | [.lst ds] => match dints ds with
    | some (n :: ns) => some (.d (.int (minI n ns)))
    | _ => none
  | _ => none
def dMaxL : List D → Option A
  | [.lst ds] => match dints ds with
    | some (n :: ns) => some (.d (.int (maxI n ns)))
    | _ => none
  | _ => none
section
variable {c : Cc}
theorem cl_minL {X : Cx} (hK : X.K = c.K) (hc : X.calm = true) : CallR X (.builtin "min") (rMin c.K) := hK ▸ cr_min hc
theorem cl_maxL {X : Cx} (hK : X.K = c.K) (hc : X.calm = true) : CallR X (.builtin "max") (rMax c.K) := hK ▸ cr_max hc
theorem cs_minL : CaS c (rMin c.K) dMinL := by
  intro H0 F H s ds xs z Q w hd hx hz q
  unfold dMinL at hz
  split at hz
  · rename_i ds
    split at hz
    · rename_i n ns e
      cases hz
      obtain ⟨v, rfl, h⟩ := vwL1 hx
      obtain ⟨hl, p, vs, rfl, h1, r1⟩ := vw_lst h
      rw [dints_map e] at r1
      rw [rpL_ints r1] at h1
      refine ⟨p, n :: ns, rfl, SqL.of h1, Nat.succ_pos _, fun m hm hle => ?_⟩
      have e : m = minI n ns := Int.le_antisymm (hle _ (minI_mem ns n)) (minI_le ns n m hm)
      rw [e]
      exact newS w ra_int q
    · cases hz
  · cases hz
theorem cs_maxL : CaS c (rMax c.K) dMaxL := by
  intro H0 F H s ds xs z Q w hd hx hz q
  unfold dMaxL at hz
  split at hz
  · rename_i ds
    split at hz
    · rename_i n ns e
      cases hz
      obtain ⟨v, rfl, h⟩ := vwL1 hx
      obtain ⟨hl, p, vs, rfl, h1, r1⟩ := vw_lst h
      rw [dints_map e] at r1
      rw [rpL_ints r1] at h1
      refine ⟨p, n :: ns, rfl, SqL.of h1, Nat.succ_pos _, fun m hm hle => ?_⟩
      have e : m = maxI n ns := Int.le_antisymm (maxI_le ns n m hm) (hle _ (maxI_mem ns n))
      rw [e]
      exact newS w ra_int q
    · cases hz
  · cases hz
end
end Mi
/-! own: comprehensions with two fors; any(..), all(..) of a list -/
namespace Mi
open PySem PySem.Spec PyProof.Rows L2 Kt Kj
theorem bind_as {α β γ : Type} {r : Res α} {f : α → Sx → Res β} {g : β → Sx → Res γ} : (r.bind f).bind g = r.bind fun a s => (f a s).bind g := by cases r <;> rfl
/-- [te for g in .. if tt for g1 in mi1 if tt1] -/
def lcM2 (g : Gm) (tt : Mb) (mi1 : Mi') (g1 : Gm) (tt1 : Mb) (te : Mv) (vs1 : List Nat) (e : Mi.Env) : List D → List D → Sx → Res A
  | [], acc, s => .ok (.own acc) s
  | d :: ds, acc, s => match g d e with
    | none => .bad
    | some e1 => (nox (tt e1 s)).bind fun k s1 => if k = true then (nox (mi1 e1 s1)).bind fun ds1 s2 => (lcM g1 tt1 te (wipeE e1 vs1) ds1 acc s2).bind fun a s3 => match a with
        | .own acc1 => lcM2 g tt mi1 g1 tt1 te vs1 e ds acc1 s3
        | _ => .bad
      else lcM2 g tt mi1 g1 tt1 te vs1 e ds acc s1
def mLc2 (mi : Mi') (g : Gm) (tt : Mb) (mi1 : Mi') (g1 : Gm) (tt1 : Mb) (te : Mv) (vs vs1 : List Nat) : Mv := fun e s => (mi e s).bind fun ds s1 => lcM2 g tt mi1 g1 tt1 te vs1 (wipeE e vs) ds [] s1
section
variable {c : Cc} {F0 H0 : Hp} {W : WX} {X : Cx} {pos : Pos} {tg iter tg1 iter1 elt : Expr} [hq : Dq c H0]
/-- what a target stores is data -/
def GD (mg : Gm) : Prop := ∀ (d : D) (e e' : Mi.Env), mg d e = some e' → ∀ j : Nat, (∃ t, e'[j]? = some (some (A.d t))) ∨ e'[j]? = e[j]?
def GDs (mg : Gms) : Prop := ∀ (d : List D) (e e' : Mi.Env), mg d e = some e' → ∀ j : Nat, (∃ t, e'[j]? = some (some (A.d t))) ∨ e'[j]? = e[j]?
theorem gd_name (i : Nat) : GD (gN i) := fun d e e' h j => by
  cases h
  by_cases hj : i = j
  · subst hj
    by_cases hl : i < e.length
    · exact .inl ⟨d, by rw [List.getElem?_set_self hl]⟩
    · exact .inr (by rw [List.getElem?_eq_none (by rw [List.length_set]; omega), List.getElem?_eq_none (by omega)])
  · exact .inr (List.getElem?_set_ne hj)
theorem gds_nil : GDs gsN := fun d e e' h j => by
  unfold gsN at h
  split at h
  · cases h
    exact .inr rfl
  · cases h
theorem gds_cons {m : Gm} {ms : Gms} (h1 : GD m) (h2 : GDs ms) : GDs (gsC m ms) := fun d e e' h j => by
  unfold gsC at h
  split at h
  · split at h
    · rename_i e1 he
      rcases h2 _ _ _ h j with z | z
      · exact .inl z
      · rw [z]
        exact h1 _ _ _ he j
    · cases h
  · cases h
theorem gd_tup {ms : Gms} (k : Nat) (h2 : GDs ms) : GD (gT k ms) := fun d e e' h j => by
  unfold gT at h
  split at h
  · split at h
    · exact h2 _ _ _ h j
    · cases h
  · cases h
theorem wipeE_none {e : Mi.Env} {a : A} {i : Nat} : ∀ {vs : List Nat}, i ∈ vs → (wipeE e vs)[i]? ≠ some (some a)
  | [], h => nomatch h
  | v :: vs, h => by
    unfold wipeE
    by_cases z : v = i
    · subst z
      by_cases hl : v < (wipeE e vs).length
      · rw [List.getElem?_set_self hl]
        exact fun q => nomatch Option.some.inj q
      · rw [List.getElem?_eq_none (by rw [List.length_set]; omega)]
        exact fun q => nomatch q
    · rw [List.getElem?_set_ne z]
      rcases List.mem_cons.mp h with q | q
      · exact absurd q.symm z
      · exact wipeE_none q
theorem en_mix {F H Fy Hy Fj Hj : Hp} {e e2 : Mi.Env} {σ σ2 : L2.St} {vs : List Nat} (n0 : En c H0 (wipeE e vs) (wipe σ vs) F H) (n2 : En c H0 e2 σ2 Fy Hy) (k2 : ∀ j, j ∉ vs → σ2[j]? = (wipe σ vs)[j]?) (hd : ∀ j : Nat, (∃ t, e2[j]? = some (some (A.d t))) ∨ e2[j]? = (wipeE e vs)[j]?)
    (sm : Same Fy Fj) (g : Go c F H Fj Hj) : En c H0 e2 σ2 Fj Hj := by
  refine ⟨n2.len, fun i a h => ?_, n2.nb, n2.ne⟩
  rcases hd i with ⟨t, z⟩ | z
  · rw [h] at z
    cases z
    obtain ⟨v, h1, r⟩ := n2.at' i _ h
    exact ⟨v, h1, rp_same sm _ _ r⟩
  · rw [h] at z
    by_cases hi : i ∈ vs
    · exact absurd z.symm (wipeE_none hi)
    · obtain ⟨v, h1, r⟩ := n0.at' i a z.symm
      exact ⟨v, by rw [k2 i hi]; exact h1, r.go g⟩
theorem gm_mono {H0 : Hp} {c : Cc} {vs vs' : List Nat} {g : TG} {mg : Gm} (h : GM c H0 vs g mg) (k : ∀ j, j ∈ vs → j ∈ vs') : GM c H0 vs' g mg := fun w n r e q => h w n r e fun σ' n' l' k' => q σ' n' l' fun j hj => k' j fun z => hj (k j z)
theorem lc2_run {σ : L2.St} {F H F1 H1 : Hp} {e : Mi.Env} {s1 : Sx} {J : It} {ds : List D} {vs vs1 : List Nat} {g g1 : TG} {mg mg1 : Gm} {tt tt1 : Mb} {mi1 : Mi'} {te : Mv} {Q : VK} {Dn : Addr}
    (h : Hold c F0 H0 e s1 σ F1 H1) (gF : Go c F H F1 H1) (wk : WalkD c F1 J ds) (hg : GM c H0 vs g mg) (hg1 : GM c H0 vs1 g1 mg1) (hgd : GD mg) (p : Post c W σ F H (fun F' H' a v => RA c H0 H F' H' a v) (lcM2 mg tt mi1 mg1 tt1 te vs1 (wipeE e vs) ds [] s1) Q) (nD : H1 Dn = none) :
    ∃ W : Nat → Nat → Hp → Prop, (∃ m, W 0 m (upd H1 Dn (.lst []))) ∧ ∀ i m H, W i m H →
      (J.stop i H ∧ Q (.ref Dn) H) ∨ (J.go i H ∧ ∃ Nx : Hp → Prop, (∀ H', Nx H' → ∃ m', m' < m ∧ W (i + 1) m' H') ∧ ∀ x H', J.yld i H x H' → g x (wipe σ vs) H' fun σ2 H2 => wipe σ2 vs = wipe σ vs ∧ rd c F0 H0 W0 (fun _ _ _ a v => a = v) tt σ2 H2 fun b H3 =>
        if b = true then rd c F0 H0 W0 (fun _ F _ ds J => WalkD c F J ds) mi1 σ2 H3 fun J1 H4 => ∃ W1 : Nat → Nat → Hp → Prop, (∃ m, W1 0 m H4) ∧ ∀ j k H, W1 j k H →
          (J1.stop j H ∧ Nx H) ∨ (J1.go j H ∧ ∃ Nx1 : Hp → Prop, (∀ H', Nx1 H' → ∃ k', k' < k ∧ W1 (j + 1) k' H') ∧ ∀ x H', J1.yld j H x H' → g1 x (wipe σ2 vs1) H' fun σ3 H5 => wipe σ3 vs1 = wipe σ2 vs1 ∧ rd c F0 H0 W0 (fun _ _ _ a v => a = v) tt1 σ3 H5 fun b H6 =>
            if b = true then rd c F0 H0 W0 (fun Hb F H a v => RA c H0 Hb F H a v) te σ3 H6 fun y H7 => ∃ acc, H7 Dn = some (.lst acc) ∧ acc.length < sizeLine ∧ Nx1 (upd H7 Dn (.lst (acc ++ [y]))) else Nx1 H6)
        else Nx H3) := by
  have hd := h.dq Dn nD
  have hDF := gF.free nD
  have Fn := h.w.fnone nD
  refine ⟨fun i m Hc => m = ds.length - i ∧ i ≤ ds.length ∧ ∃ (Fc : Hp) (sc : Sx) (acc : List D) (accV : List V), Wo c sc Fc Hc ∧ Go c F1 H1 Fc Hc ∧ Fc Dn = none ∧ Hc Dn = some (.lst accV) ∧ RpL c Fc acc accV ∧ acc.length ≤ 1000000 ∧
    Post c W σ F H (fun F' H' a v => RA c H0 H F' H' a v) (lcM2 mg tt mi1 mg1 tt1 te vs1 (wipeE e vs) (ds.drop i) acc sc) Q,
    ⟨ds.length, by simp, Nat.zero_le _, F1, s1, [], [], h.w.newM nD, .newM nD, Fn, upd_same, rpL_nil.mpr rfl, Nat.zero_le _, p⟩, ?_⟩
  rintro i m Hc ⟨rfl, hi, Fc, sc, acc, accV, wc, gc, fD, hD, rD, lD, pc⟩
  have hdq : ∀ p, Hc p = none → p ≠ c.dq := fun p n => h.dq p (gc.free n)
  by_cases hlt : i < ds.length
  · have e1 : ds.drop i = ds[i] :: ds.drop (i + 1) := List.drop_eq_getElem_cons hlt
    rw [e1] at pc
    unfold lcM2 at pc
    obtain ⟨jg, jy⟩ := wk.go wc hdq gc.same i ds[i] (List.getElem?_eq_getElem hlt)
    refine .inr ⟨jg, fun H' => ∃ (Fc : Hp) (sc : Sx) (acc : List D) (accV : List V), Wo c sc Fc H' ∧ Go c F1 H1 Fc H' ∧ Fc Dn = none ∧ H' Dn = some (.lst accV) ∧ RpL c Fc acc accV ∧ acc.length ≤ 1000000 ∧
      Post c W σ F H (fun F' H' a v => RA c H0 H F' H' a v) (lcM2 mg tt mi1 mg1 tt1 te vs1 (wipeE e vs) (ds.drop (i + 1)) acc sc) Q, fun H' hN => ⟨ds.length - (i + 1), by omega, rfl, hlt, hN⟩, fun x H' y => ?_⟩
    obtain ⟨Fy, wy, gy, ry⟩ := jy x H' y
    have fDy : Fy Dn = none := gy.fresh Dn _ fD hD
    have hDy : H' Dn = some (.lst accV) := gy.keep Dn _ hD hd fun ps z => by cases z
    have gy1 := gc.trans gy
    cases eg : mg ds[i] (wipeE e vs) with
    | none => rw [eg] at pc; exact pc.elim
    | some e2 =>
      rw [eg] at pc
      have eg0 := eg
      refine hg wy ((h.n.go gy1).wipe vs) ry eg fun σ2 n2 l2 k2 => ⟨?_, ?_⟩
      · rw [wipe_congr l2 k2]
        exact wipe_wipe
      have h2 : Hold c F0 H0 e2 sc σ2 Fy H' := ⟨wy, h.g.trans gy1, n2⟩
      refine rd_mono (noxE h2 pc) fun b H3 ⟨F3, s3, b', h3, g3, rb, p3⟩ => ?_
      subst rb
      have fD3 : F3 Dn = none := g3.fresh Dn _ fDy hDy
      have hD3 : H3 Dn = some (.lst accV) := g3.keep Dn _ hDy hd fun ps z => by cases z
      have gA := gy1.trans g3
      have rD3 := rpL_same (gy.same.trans g3.same) _ _ rD
      cases b' with
      | false =>
        rw [if_neg (by simp)]
        skip
        rw [if_neg (by simp)] at p3
        exact ⟨F3, s3, acc, accV, h3.w, gA, fD3, hD3, rD3, lD, p3⟩
      | true =>
        rw [if_pos rfl]
        skip
        rw [if_pos rfl] at p3
        refine rd_mono (noxE h3 p3) fun J1 H4 ⟨F4, s4, ds1, h4, g4, wk1, p4⟩ => ?_
        have fD4 : F4 Dn = none := g4.fresh Dn _ fD3 hD3
        have hD4 : H4 Dn = some (.lst accV) := g4.keep Dn _ hD3 hd fun ps z => by cases z
        have gB := gA.trans g4
        have sy4 := g3.same.trans g4.same
        refine ⟨fun j k Hc => k = ds1.length - j ∧ j ≤ ds1.length ∧ ∃ (Fc : Hp) (sc : Sx) (acc : List D) (accV : List V), Wo c sc Fc Hc ∧ Go c F1 H1 Fc Hc ∧ Same F4 Fc ∧ Fc Dn = none ∧ Hc Dn = some (.lst accV) ∧ RpL c Fc acc accV ∧ acc.length ≤ 1000000 ∧
          Post c W σ F H (fun F' H' a v => RA c H0 H F' H' a v) ((lcM mg1 tt1 te (wipeE e2 vs1) (ds1.drop j) acc sc).bind fun a s3 => match a with
            | .own acc1 => lcM2 mg tt mi1 mg1 tt1 te vs1 (wipeE e vs) (ds.drop (i + 1)) acc1 s3
            | _ => .bad) Q,
          ⟨ds1.length, by simp, Nat.zero_le _, F4, s4, acc, accV, h4.w, gB, Same.refl _, fD4, hD4, rpL_same g4.same _ _ rD3, lD, p4⟩, ?_⟩
        rintro j k Hj ⟨rfl, hj, Fj, sj, accj, accVj, wj, gj, sj4, fDj, hDj, rDj, lDj, pj⟩
        have hdqj : ∀ p, Hj p = none → p ≠ c.dq := fun p n => h.dq p (gj.free n)
        by_cases hltj : j < ds1.length
        · have e1j : ds1.drop j = ds1[j] :: ds1.drop (j + 1) := List.drop_eq_getElem_cons hltj
          rw [e1j] at pj
          unfold lcM at pj
          obtain ⟨jgj, jyj⟩ := wk1.go wj hdqj sj4 j ds1[j] (List.getElem?_eq_getElem hltj)
          refine .inr ⟨jgj, fun H' => ∃ (Fc : Hp) (sc : Sx) (acc : List D) (accV : List V), Wo c sc Fc H' ∧ Go c F1 H1 Fc H' ∧ Same F4 Fc ∧ Fc Dn = none ∧ H' Dn = some (.lst accV) ∧ RpL c Fc acc accV ∧ acc.length ≤ 1000000 ∧
            Post c W σ F H (fun F' H' a v => RA c H0 H F' H' a v) ((lcM mg1 tt1 te (wipeE e2 vs1) (ds1.drop (j + 1)) acc sc).bind fun a s3 => match a with
              | .own acc1 => lcM2 mg tt mi1 mg1 tt1 te vs1 (wipeE e vs) (ds.drop (i + 1)) acc1 s3
              | _ => .bad) Q, fun H' hN => ⟨ds1.length - (j + 1), by omega, rfl, hltj, hN⟩, fun x H' y => ?_⟩
          obtain ⟨Fy, wy, gy, ry⟩ := jyj x H' y
          have fDy : Fy Dn = none := gy.fresh Dn _ fDj hDj
          have hDy : H' Dn = some (.lst accVj) := gy.keep Dn _ hDj hd fun ps z => by cases z
          have gy1 := gj.trans gy
          cases eg : mg1 ds1[j] (wipeE e2 vs1) with
          | none => rw [eg] at pj; exact pj.elim
          | some e3 =>
            rw [eg] at pj
            dsimp only at pj
            rw [bind_as] at pj
            refine hg1 wy (((en_mix (h.n.wipe vs) n2 k2 (hgd _ _ _ eg0) (sy4.trans sj4) gj).go gy).wipe vs1) ry eg fun σ3 n3 l3 k3 => ⟨?_, ?_⟩
            · rw [wipe_congr l3 k3]
              exact wipe_wipe
            have h5 : Hold c F0 H0 e3 sj σ3 Fy H' := ⟨wy, h.g.trans gy1, n3⟩
            refine rd_mono (noxE h5 pj) fun b H6 ⟨F6, s6, b', h6, g6, rb, p6⟩ => ?_
            subst rb
            have fD6 : F6 Dn = none := g6.fresh Dn _ fDy hDy
            have hD6 : H6 Dn = some (.lst accVj) := g6.keep Dn _ hDy hd fun ps z => by cases z
            have gC := gy1.trans g6
            cases b' with
            | false =>
              rw [if_neg (by simp)]
              skip
              rw [if_neg (by simp)] at p6
              exact ⟨F6, s6, accj, accVj, h6.w, gC, sj4.trans (gy.same.trans g6.same), fD6, hD6, rpL_same (gy.same.trans g6.same) _ _ rDj, lDj, p6⟩
            | true =>
              rw [if_pos rfl]
              skip
              rw [if_pos rfl, bind_as] at p6
              refine rd_mono (noxE h6 p6) fun y H7 ⟨F7, s7, a7, h7, g7, r7, p7⟩ => ?_
              have fD7 : F7 Dn = none := g7.fresh Dn _ fD6 hD6
              have hD7 : H7 Dn = some (.lst accVj) := g7.keep Dn _ hD6 hd fun ps z => by cases z
              cases ed : a7.toD with
              | none => rw [ed] at p7; exact p7.elim
              | some yd =>
                rw [ed] at p7
                dsimp only at p7
                split at p7
                · rename_i hacc
                  obtain ⟨F8, w8, s8, g8, r8⟩ := frz1 h7.w r7 (Same.refl _) ed
                  have gD := g8 F6 g7
                  have fD8 : F8 Dn = none := gD.fresh Dn _ fD6 hD6
                  have nt : ∀ ps, H7 Dn ≠ some (.tbl ps) := fun ps z => by rw [hD7] at z; cases z
                  refine ⟨accVj, hD7, by rw [rDj.len]; exact Nat.lt_trans hacc big, F8, s7, accj ++ [yd], accVj ++ [y], w8.putM fD8 (fun u z => by rw [hD7] at z; cases z; exact True.intro) hd, (gC.trans gD).putM nD nt hd, sj4.trans (gy.same.trans (g6.same.trans gD.same)), fD8, upd_same, ?_, by rw [List.length_append]; show accj.length + 1 ≤ 1000000; omega, p7⟩
                  exact (rpL_same (gy.same.trans (g6.same.trans gD.same)) _ _ rDj).app (RpL.one r8)
                · exact p7.elim
        · have e1j : j = ds1.length := by omega
          subst e1j
          rw [List.drop_length] at pj
          unfold lcM at pj
          exact .inl ⟨wk1.stop wj sj4 _ (Nat.le_refl _), Fj, sj, accj, accVj, wj, gj, fDj, hDj, rDj, lDj, pj⟩
  · have e1 : i = ds.length := by omega
    subst e1
    rw [List.drop_length] at pc
    unfold lcM2 at pc
    exact .inl ⟨wk.stop wc gc.same _ (Nat.le_refl _), pc (.ref Dn) Fc Hc wc (gF.trans gc) ⟨Dn, rfl, hDF, fD, hd, lD, accV, hD, rD⟩⟩
theorem me_lc2 {ifs ifs1 : List Expr} {scope : Scope} {own : List (Str × Nat)} {vs1 : List Nat} {mi mi1 : Mi'} {g g1 : TG} {mg mg1 : Gm} {tt tt1 : Mb} {te : Mv} (hg : GM c H0 (own.map (·.2)) g mg) (hgd : GD mg) (hg1' : GM c H0 vs1 g1 mg1) (hc : X.calm = true) (hN : X.N.Nodup) (hi : MI c F0 H0 W X tg iter mi) (ok : BlkOk X.N X.env.scope scope own) (hv : ∀ i ∈ vs1, i ∈ own.map (·.2))
    (hpg : ∀ (s : Shared) (H : Hp) (C : Addr) (cl : List (Str × Addr)) (fp : List Addr), PG (X.blk s H scope (compEnvC scope cl C X.env) fp) tg g) (ht : ∀ (s : Shared) (H : Hp) (C : Addr) (cl : List (Str × Addr)) (fp : List Addr), MTs c F0 H0 W0 (X.blk s H scope (compEnvC scope cl C X.env) fp) ifs tt)
    (hi1 : ∀ (s : Shared) (H : Hp) (C : Addr) (cl : List (Str × Addr)) (fp : List Addr), MI c F0 H0 W0 (X.blk s H scope (compEnvC scope cl C X.env) fp) tg1 iter1 mi1)
    (hpg1 : ∀ (s : Shared) (H : Hp) (C : Addr) (cl : List (Str × Addr)) (fp : List Addr), PG (X.blk s H scope (compEnvC scope cl C X.env) fp) tg1 g1) (ht1 : ∀ (s : Shared) (H : Hp) (C : Addr) (cl : List (Str × Addr)) (fp : List Addr), MTs c F0 H0 W0 (X.blk s H scope (compEnvC scope cl C X.env) fp) ifs1 tt1)
    (he : ∀ (s : Shared) (H : Hp) (C : Addr) (cl : List (Str × Addr)) (fp : List Addr), ME c F0 H0 W0 (X.blk s H scope (compEnvC scope cl C X.env) fp) elt te) (hs : ∀ x, foldedSetIterable iter X.env x = pure x := by intro _; rfl) (hs1 : ∀ env x, foldedSetIterable iter1 env x = pure x := by intro _ _; rfl) :
    ME c F0 H0 W X (.ListComp elt [⟨tg, iter, ifs, 0⟩, ⟨tg1, iter1, ifs1, 0⟩] scope pos) (mLc2 mi mg tt mi1 mg1 tt1 te (own.map (·.2)) vs1) := by
  refine pe_mono (pe_lc2 hc hN hi ok hv hpg ht hi1 hpg1 ht1 he hs hs1) fun σ H Q ⟨F, e, s, hh, p⟩ => ?_
  refine rd_mono (bindK hh p) fun J H1 ⟨F1, s1, ds, h1, g1, wk, p1⟩ => ?_
  exact fun Dn nD => lc2_run h1 g1 wk hg hg1' hgd p1 nD
end
section
variable {c : Cc} {F0 H0 : Hp} {W : WX} {X : Cx} {pos : Pos} {tg iter tg1 iter1 elt : Expr} [hq : Dq c H0]
theorem lc2_sound {mi mi1 : Mi'} {g g1 : TG} {mg mg1 : Gm} {tt tt1 : Mb} {te : Mv} {vs vs1 : List Nat} {σ : L2.St} {H : Hp} {Q : VK} (hg : GM c H0 vs g mg) (hgd : GD mg) (hg1 : GM c H0 vs1 g1 mg1) (h : rd c F0 H0 W (fun Hb F H a v => RA c H0 Hb F H a v) (mLc2 mi mg tt mi1 mg1 tt1 te vs vs1) σ H Q) :
    tLc2 (rd c F0 H0 W (RI c) mi) g (rd c F0 H0 W0 (fun _ _ _ a v => a = v) tt) (rd c F0 H0 W0 (RI c) mi1) g1 (rd c F0 H0 W0 (fun _ _ _ a v => a = v) tt1) (rd c F0 H0 W0 (fun Hb F H a v => RA c H0 Hb F H a v) te) vs vs1 σ H Q := by
  obtain ⟨F, e, s, hh, p⟩ := h
  refine rd_mono (bindK hh p) fun J H1 ⟨F1, s1, ds, h1, g1, wk, p1⟩ => ?_
  exact fun Dn nD => lc2_run h1 g1 wk hg hg1 hgd p1 nD
theorem ms_setLc2 {i : Nat} {y : Str} {py spos : Pos} {ifs ifs1 : List Expr} {scope : Scope} {own : List (Str × Nat)} {vs1 : List Nat} {mi mi1 : Mi'} {g g1 : TG} {mg mg1 : Gm} {tt tt1 : Mb} {te : Mv} (hg : GM c H0 (own.map (·.2)) g mg) (hgd : GD mg) (hg1' : GM c H0 vs1 g1 mg1) (hc : X.calm = true) (hN : X.N.Nodup) (hy : X.N[i]? = some y) (hyl : X.env.scope.names.lookup y = some .local)
    (hsw : swapsWith (.ListComp elt [⟨tg, iter, ifs, 0⟩, ⟨tg1, iter1, ifs1, 0⟩] scope pos) (some (.Name y py)) spos.line X.env = pure true) (hi : MI c F0 H0 W X tg iter mi) (ok : BlkOk X.N X.env.scope scope own) (hv : ∀ i ∈ vs1, i ∈ own.map (·.2))
    (hpg : ∀ (s : Shared) (H : Hp) (C : Addr) (cl : List (Str × Addr)) (fp : List Addr), PG (X.blk s H scope (compEnvC scope cl C X.env) fp) tg g) (ht : ∀ (s : Shared) (H : Hp) (C : Addr) (cl : List (Str × Addr)) (fp : List Addr), MTs c F0 H0 W0 (X.blk s H scope (compEnvC scope cl C X.env) fp) ifs tt)
    (hi1 : ∀ (s : Shared) (H : Hp) (C : Addr) (cl : List (Str × Addr)) (fp : List Addr), MI c F0 H0 W0 (X.blk s H scope (compEnvC scope cl C X.env) fp) tg1 iter1 mi1)
    (hpg1 : ∀ (s : Shared) (H : Hp) (C : Addr) (cl : List (Str × Addr)) (fp : List Addr), PG (X.blk s H scope (compEnvC scope cl C X.env) fp) tg1 g1) (ht1 : ∀ (s : Shared) (H : Hp) (C : Addr) (cl : List (Str × Addr)) (fp : List Addr), MTs c F0 H0 W0 (X.blk s H scope (compEnvC scope cl C X.env) fp) ifs1 tt1)
    (he : ∀ (s : Shared) (H : Hp) (C : Addr) (cl : List (Str × Addr)) (fp : List Addr), ME c F0 H0 W0 (X.blk s H scope (compEnvC scope cl C X.env) fp) elt te) (hs : ∀ x, foldedSetIterable iter X.env x = pure x := by intro _; rfl) (hs1 : ∀ env x, foldedSetIterable iter1 env x = pure x := by intro _ _; rfl) :
    MS c F0 H0 W X (.Assign [.Name y py] (.ListComp elt [⟨tg, iter, ifs, 0⟩, ⟨tg1, iter1, ifs1, 0⟩] scope pos) spos) (mSet i (mLc2 mi mg tt mi1 mg1 tt1 te (own.map (·.2)) vs1)) := by
  refine ps_mono (ps_setLc2 hc hN hy hyl hsw hi ok hv hpg ht hi1 hpg1 ht1 he hs hs1) fun D σ H ⟨F, e, s, hh, p⟩ => ?_
  refine lc2_sound hg hgd hg1' (rd_mono (bindS hh p) fun v H1 ⟨F1, s1, y, h1, g1, r1, p1⟩ => ?_)
  try dsimp only at p1
  split at p1
  · exact p1.elim
  · rename_i hb
    exact p1 _ F1 H1 (Same.refl _) (hh.setA g1 h1.w r1 (by simpa using hb))
end
/-! any(xs), all(xs) of a list of truth values; sorted(xs) of numbers, or of texts -/
def dbools : List D → Option (List Bool)
  | [] => some []
  | .bl b :: ds => (dbools ds).map (b :: ·)
  | _ => none
def dstrs : List D → Option (List Str)
  | [] => some []
  | .str b :: ds => (dstrs ds).map (b :: ·)
  | _ => none
theorem dbools_map : ∀ {ds : List D} {bs : List Bool}, dbools ds = some bs → ds = bs.map .bl
  | [], bs, h => by cases h; rfl
  | d :: ds, bs, h => by
    cases d <;> first | cases h | skip
    rename_i b
    unfold dbools at h
    cases e : dbools ds with
    | none => rw [e] at h; cases h
    | some cs =>
      rw [e] at h
      cases h
      rw [dbools_map e]
      rfl
theorem dstrs_map : ∀ {ds : List D} {bs : List Str}, dstrs ds = some bs → ds = bs.map .str
  | [], bs, h => by cases h; rfl
  | d :: ds, bs, h => by
    cases d <;> first | cases h | skip
    rename_i b
    unfold dstrs at h
    cases e : dstrs ds with
    | none => rw [e] at h; cases h
    | some cs =>
      rw [e] at h
      cases h
      rw [dstrs_map e]
      rfl
theorem dbools_of : ∀ {bs : List Bool}, dbools (bs.map .bl) = some bs
  | [] => rfl
  | b :: bs => by
    rw [List.map_cons]
    unfold dbools
    rw [dbools_of]
    rfl
theorem dstrs_of : ∀ {bs : List Str}, dstrs (bs.map .str) = some bs
  | [] => rfl
  | b :: bs => by
    rw [List.map_cons]
    unfold dstrs
    rw [dstrs_of]
    rfl
section
variable {c : Cc}
theorem rpL_bools {F : Hp} : ∀ {bs : List Bool} {vs : List V}, RpL c F (bs.map .bl) vs → vs = bs.map V.bl
  | [], vs, h => rpL_nil.mp h
  | b :: bs, vs, h => by
    obtain ⟨v, r, rfl, h1, h2⟩ := rpL_cons.mp h
    rw [rp_bl.mp h1, rpL_bools h2]
    rfl
theorem rpL_strs {F : Hp} : ∀ {bs : List Str} {vs : List V}, RpL c F (bs.map .str) vs → vs = bs.map V.str ∧ ∀ b ∈ bs, PyData.strOk b = true ∧ b.length ≤ 1000000
  | [], vs, h => ⟨rpL_nil.mp h, fun _ h => nomatch h⟩
  | b :: bs, vs, h => by
    obtain ⟨v, r, rfl, h1, h2⟩ := rpL_cons.mp h
    obtain ⟨e1, e2⟩ := rp_str.mp h1
    obtain ⟨e3, e4⟩ := rpL_strs h2
    rw [e1, e3]
    refine ⟨rfl, fun x hx => ?_⟩
    rcases List.mem_cons.mp hx with rfl | hx
    · exact e2
    · exact e4 x hx
theorem strs_rpL {F : Hp} : ∀ {bs : List Str}, (∀ b ∈ bs, PyData.strOk b = true ∧ b.length ≤ 1000000) → RpL c F (bs.map .str) (bs.map V.str)
  | [], _ => rpL_nil.mpr rfl
  | b :: bs, h => rpL_cons.mpr ⟨_, _, rfl, rp_str.mpr ⟨rfl, h b List.mem_cons_self⟩, strs_rpL fun x hx => h x (List.mem_cons_of_mem _ hx)⟩
theorem dints_of' : ∀ {ns : List Int}, dints (ns.map .int) = some ns
  | [] => rfl
  | n :: ns => by
    rw [List.map_cons]
    unfold dints
    rw [dints_of']
def dAny : List D → Option A
  | [.lst ds] => (dbools ds).map fun bs => .d (.bl (bs.any id))
  | _ => none
def dAll : List D → Option A
  | [.lst ds] => (dbools ds).map fun bs => .d (.bl (bs.all id))
  | _ => none
theorem cl_any {X : Cx} (hK : X.K = c.K) (hc : X.calm = true) : CallR X (.builtin "any") (rAny c.K) := hK ▸ cr_any hc
theorem cl_all {X : Cx} (hK : X.K = c.K) (hc : X.calm = true) : CallR X (.builtin "all") (rAll c.K) := hK ▸ cr_all hc
theorem cs_any : CaS c (rAny c.K) dAny := by
  intro H0 F H s ds xs z Q w hd hx hz q
  unfold dAny at hz
  split at hz
  · rename_i ds
    cases e : dbools ds with
    | none => rw [e] at hz; cases hz
    | some ns =>
      rw [e] at hz
      cases hz
      obtain ⟨v, rfl, h⟩ := vwL1 hx
      obtain ⟨hl, p, vs, rfl, h1, r1⟩ := vw_lst h
      rw [dbools_map e] at r1
      rw [rpL_bools r1] at h1
      exact ⟨p, ns, rfl, SqL.of h1, newS w ra_bl q⟩
  · cases hz
theorem cs_all : CaS c (rAll c.K) dAll := by
  intro H0 F H s ds xs z Q w hd hx hz q
  unfold dAll at hz
  split at hz
  · rename_i ds
    cases e : dbools ds with
    | none => rw [e] at hz; cases hz
    | some ns =>
      rw [e] at hz
      cases hz
      obtain ⟨v, rfl, h⟩ := vwL1 hx
      obtain ⟨hl, p, vs, rfl, h1, r1⟩ := vw_lst h
      rw [dbools_map e] at r1
      rw [rpL_bools r1] at h1
      exact ⟨p, ns, rfl, SqL.of h1, newS w ra_bl q⟩
  · cases hz
def leS (x y : Str) : Bool := !decide (y.cps.toList < x.cps.toList)
def dSortSs (ds : List D) : Option A := match dstrs ds with
  | some ss => if ss.length < 64 then some (.own ((ss.mergeSort leS).map .str)) else none
  | none => none
def dSortS : List D → Option A
  | [.lst ds] => dSortSs ds
  | [.tup ds] => dSortSs ds
  | _ => none
def dSortX (ds : List D) : Option A := match dSorted ds with
  | some a => some a
  | none => dSortS ds
theorem dSortX_i {ns : List Int} : dSortX [.lst (ns.map .int)] = some (.own ((ns.mergeSort fun x y => decide (x ≤ y)).map .int)) := by
  have e : dSorted [.lst (ns.map .int)] = some (.own ((ns.mergeSort fun x y => decide (x ≤ y)).map .int)) := by
    show (dints (ns.map .int)).map _ = _
    rw [dints_of']
    rfl
  unfold dSortX
  rw [e]
theorem dSortX_s {ss : List Str} (h : ss.length < 64) (h0 : ss ≠ []) : dSortX [.lst (ss.map .str)] = some (.own ((ss.mergeSort leS).map .str)) := by
  cases ss with
  | nil => exact absurd rfl h0
  | cons s r =>
    have e : dSorted [.lst ((s :: r).map .str)] = none := rfl
    unfold dSortX
    rw [e]
    show (match dstrs ((s :: r).map .str) with
      | some ss => if ss.length < 64 then some (A.own ((ss.mergeSort leS).map .str)) else none
      | none => none) = _
    rw [dstrs_of]
    exact if_pos h
theorem dSortX_t {ss : List Str} (h : ss.length < 64) : dSortX [.tup (ss.map .str)] = some (.own ((ss.mergeSort leS).map .str)) := by
  show (match dstrs (ss.map .str) with
    | some ss => if ss.length < 64 then some (A.own ((ss.mergeSort leS).map .str)) else none
    | none => none) = _
  rw [dstrs_of]
  exact if_pos h
theorem leS_trans (a b c : Str) (h1 : leS a b = true) (h2 : leS b c = true) : leS a c = true := by
  unfold leS at *
  simp only [Bool.not_eq_true', decide_eq_false_iff_not, List.not_lt] at *
  exact List.le_trans h1 h2
theorem leS_total (a b : Str) : (leS a b || leS b a) = true := by
  unfold leS
  simp only [Bool.or_eq_true, Bool.not_eq_true', decide_eq_false_iff_not, List.not_lt]
  exact List.le_total _ _
theorem leS_anti {a b : Str} (h1 : leS a b = true) (h2 : leS b a = true) : a = b := by
  unfold leS at *
  simp only [Bool.not_eq_true', decide_eq_false_iff_not, List.not_lt] at *
  have := List.le_antisymm h1 h2
  cases a
  cases b
  congr 1
  exact Array.toList_inj.mp this
theorem rising_pw : ∀ {r : List Str} {x : Str}, risingS x r = true → (x :: r).Pairwise (fun a b => leS a b = true)
  | [], x, _ => List.pairwise_singleton _ _
  | y :: r, x, h => by
    unfold risingS at h
    rw [Bool.and_eq_true] at h
    have ih := rising_pw h.2
    have h1 : leS x y = true := by
      unfold leS
      rw [lt_meets]
      exact h.1
    rw [List.pairwise_cons]
    refine ⟨fun z hz => ?_, ih⟩
    rcases List.mem_cons.mp hz with rfl | hz
    · exact h1
    · exact leS_trans _ _ _ h1 ((List.pairwise_cons.mp ih).1 z hz)
theorem sortedS_ms {xs ys : List Str} (p : ys.Perm xs) (h : sortedS ys = true) : ys = xs.mergeSort leS := by
  have s := List.pairwise_mergeSort leS_trans leS_total xs
  refine List.Perm.eq_of_pairwise (le := fun a b => leS a b = true) (fun a b _ _ h1 h2 => leS_anti h1 h2) ?_ s (p.trans (List.mergeSort_perm xs leS).symm)
  cases ys with
  | nil => exact List.Pairwise.nil
  | cons y r => exact rising_pw h
/-! sorted(t) of a tuple of texts -/
theorem collect_tuple {prog : Program} {w : World} {A : Around} {E : Value → Shared → Prop} {s : Shared} {l : Addr} {vs : List Value} {Q : List Value → Shared → Prop} (hl : IsTup s.heap l vs.toArray)
    (h : Q vs { s with heap := (s.heap.push (seqObj "list" #[] 0)).update s.heap.objs.size (Obj.mapSeq (· ++ vs.toArray)) }) (hsz : vs.length ≤ sizeLine) :
    wpAny (model prog w) A (collect (.ref l)) Q E s := by
  obtain ⟨o, ho, hc, n, hd⟩ := id hl
  unfold collect
  refine wpAny_bind (wpAny_runValue (codeAny_builtin entry_proto_collect' ?_))
  show wpAny _ _ (do again (.builtin "list.__iadd__" ⟨[← newList [], .ref l], []⟩)) _ _ s
  refine wpAny_bind (wpAny_newList (wpAny_pure ⟨Code.quiet_builtin _ (by decide +kernel), codeAny_builtin entry_list_iadd' ?_⟩))
  show wpAny _ _ (Builtin.List.listExtendWith (.ref s.heap.objs.size) (.ref l) (.ref s.heap.objs.size)) _ _ { s with heap := s.heap.push (seqObj "list" #[] 0) }
  unfold Builtin.List.listExtendWith
  have ho' : (s.heap.push (seqObj "list" #[] 0)).get? l = some o := Heap.get?_push_of_some _ ho
  refine wpAny_bind (wpAny_typeOf (T := "tuple") ⟨o, ho', hc⟩ ?_)
  have ht : (Value.type "tuple" == Value.type "tuple") = true := by rfl
  rw [if_pos (by rw [ht]; simp)]
  refine wpAny_bind (listItems_at ho' hd ?_)
  refine wpAny_bind (listItems_at (xs := #[]) (n := 0) (Heap.get?_push_size _ rfl) rfl ?_)
  rw [if_neg (by simp)]
  refine wpAny_bind (listUpdate_at (xs := #[]) (n := 0) (Heap.get?_push_size _ rfl) rfl ?_ (Nat.zero_le _) (by show (#[] ++ vs.toArray).size ≤ sizeLine + 1; simp only [Array.size_append, List.size_toArray, List.length_nil]; omega))
  refine wpAny_pure ?_
  show wpAny (model prog w) A (do
      let o ← load s.heap.objs.size
      match o.data with
      | .seq xs _ => pure xs.toList
      | _ => unsupported "internal:collect") Q E { s with heap := (s.heap.push (seqObj "list" #[] 0)).update s.heap.objs.size (Obj.mapSeq (· ++ vs.toArray)) }
  refine wpAny_bind (wpAny_load (get?_update_seq (Heap.get?_push_size _ rfl) _) ?_)
  show wpAny _ _ (pure ((#[] : Array Value) ++ vs.toArray).toList) Q E _
  rw [show ((#[] : Array Value) ++ vs.toArray).toList = vs by simp]
  exact wpAny_pure h
theorem sorted_strsT {prog : Program} {w : World} {A : Around} {E : Value → Shared → Prop} {s : Shared} {l : Addr} {vs : List Value} {ss : List Str} {Q : Value → Shared → Prop} (hl : IsTup s.heap l vs.toArray) (hS : StrsAre vs ss) (h64 : vs.length < 64)
    (h : ∀ (out : Array Value) (ss' : List Str), StrsAre out.toList ss' → ss'.Perm ss → sortedS ss' = true → Q (.ref (s.heap.objs.size + 1)) { s with heap := sortedAll s.heap vs out }) :
    wpAny (model prog w) A (call (.builtin "sorted") [.ref l]) Q E s := by
  refine Calls.call_function_entry kind_sorted plain_sorted entry_sorted (args_sorted1 _) ?_
  unfold Builtin.«sorted»
  refine wpAny_bind (m := checkCount "sorted" 1 1 _) (wpAny_pure ?_)
  refine wpAny_bind (collect_tuple hl ?_ (by rw [sizeLine_eq]; omega))
  refine wpAny_bind (wpAny_newList ?_)
  have hsz : ((s.heap.push (seqObj "list" #[] 0)).update s.heap.objs.size (Obj.mapSeq (· ++ vs.toArray))).objs.size = s.heap.objs.size + 1 := by
    rw [Heap.size_update, size_push']
  have hoL : (((s.heap.push (seqObj "list" #[] 0)).update s.heap.objs.size (Obj.mapSeq (· ++ vs.toArray))).push (seqObj "list" vs.toArray 0)).get? (s.heap.objs.size + 1) = some (seqObj "list" vs.toArray 0) := by
    rw [← hsz]; exact Heap.get?_push_size _ rfl
  show wpAny _ _ _ _ _ { s with heap := ((s.heap.push (seqObj "list" #[] 0)).update s.heap.objs.size (Obj.mapSeq (· ++ vs.toArray))).push (seqObj "list" vs.toArray 0) }
  rw [hsz]
  refine wpAny_bind (wpAny_holding (wpAny_call_entry slot_list_sort ⟨_, hoL, rfl⟩ entry_list_sort (list_sort_treeK strKind_oneLt hoL hS.keysOf (fun v₁ v₂ rest e => keyKind_strs (by rw [← e]; exact hS)) h64 fun st' a1 a2 => ⟨_, rfl, ?_⟩) (args_list_sort _)))
  obtain ⟨ss', h1, h2, h3⟩ := sorted_out_str hS a1 a2
  exact wpAny_pure ⟨_, rfl, h _ ss' h1 h2 h3⟩
def rSortedTS (K : PySem.W.Frag) : List V → Hp → VK → Prop := fun vs H Q => ∃ (a : Addr) (xs : List Str), vs = [V.ref a] ∧ SqT K H a (xs.map V.str) ∧ xs.length < 64 ∧
  ∀ (ys : List Str) (p : Addr), ys.Perm xs → sortedS ys = true → H p = none → Q (.ref p) (upd H p (.lst (ys.map V.str)))
theorem cr_sortedTS {X : Cx} : CallR X (.builtin "sorted") (rSortedTS X.K) := by
  intro pins s σ H vs us Q I r h
  obtain ⟨a, xs, rfl, hs, h64, q⟩ := h
  obtain ⟨its, rv, hl, _⟩ := I.tuple hs
  rw [Vals.ref1 r]
  have hlen0 := rv.length
  rw [List.length_map] at hlen0
  refine sorted_strsT hl rv.strs (by rw [← hlen0]; exact h64) fun out ys h1 h2 h3 => ?_
  obtain ⟨ep, he'⟩ := PyProof.Rows.sortedAll_at s.heap its out
  have hlen : (ys.map V.str).length ≤ sizeLine := by rw [List.length_map, h2.length_eq]; exact small64 h64
  exact ⟨.ref _, upd H (s.heap.objs.size + 1) (.lst (ys.map V.str)), I.laid (t' := s.toks) (fun _ _ => PyProof.Rows.sortedAll_old) (Nat.le_succ _) ⟨hlen, out.toList, ep, vals_of_strs h1, he'⟩, rfl, q ys _ h2 h3 (I.hok.fresh (Nat.le_succ _))⟩
theorem cl_sortX {X : Cx} (hK : X.K = c.K) : CallR X (.builtin "sorted") (fun xs H Q => rSortedI c.K xs H Q ∨ rSortedS c.K xs H Q ∨ rSortedTS c.K xs H Q) := by
  intro pins s σ H xs us Q I r h
  rcases h with h | h | h
  · exact cl_sorted hK pins s σ H xs us Q I r h
  · exact (hK ▸ cr_sortedS : CallR X (.builtin "sorted") (rSortedS c.K)) pins s σ H xs us Q I r h
  · exact (hK ▸ cr_sortedTS : CallR X (.builtin "sorted") (rSortedTS c.K)) pins s σ H xs us Q I r h
theorem cs_sortX : CaS c (fun xs H Q => rSortedI c.K xs H Q ∨ rSortedS c.K xs H Q ∨ rSortedTS c.K xs H Q) dSortX := by
  intro H0 F H s ds xs z Q w hd hx hz q
  have fin : ∀ {ds : List D} {vs : List V}, dSortSs ds = some z → RpL c F ds vs → ∃ ss : List Str, vs = ss.map V.str ∧ ss.length < 64 ∧ ∀ (ys : List Str) (p : Addr), ys.Perm ss → sortedS ys = true → H p = none → Q (.ref p) (upd H p (.lst (ys.map V.str))) := fun {ds vs} hz r1 => by
    unfold dSortSs at hz
    split at hz
    · rename_i ss e
      split at hz
      · rename_i h64
        cases hz
        have em := dstrs_map e
        rw [em] at r1
        obtain ⟨ev, ok⟩ := rpL_strs r1
        refine ⟨ss, ev, h64, fun ys p hp hs n => ?_⟩
        rw [sortedS_ms hp hs]
        have ok2 : ∀ b ∈ ss.mergeSort leS, PyData.strOk b = true ∧ b.length ≤ 1000000 := fun b hb => ok b ((List.mergeSort_perm ss leS).mem_iff.mp hb)
        refine newL w (strs_rpL ok2) ?_ n (hd p n) q
        rw [List.length_map, (List.mergeSort_perm ss _).length_eq]
        omega
      · cases hz
    · cases hz
  unfold dSortX at hz
  split at hz
  · rename_i a e
    cases hz
    exact .inl (cs_sorted w hd hx e q)
  · refine .inr ?_
    unfold dSortS at hz
    split at hz
    · obtain ⟨v, rfl, h⟩ := vwL1 hx
      obtain ⟨hl, p, vs, rfl, h1, r1⟩ := vw_lst h
      obtain ⟨ss, ev, h64, k⟩ := fin hz r1
      rw [ev] at h1
      exact .inl ⟨p, ss, rfl, SqL.of h1, h64, k⟩
    · obtain ⟨v, rfl, h⟩ := vwL1 hx
      obtain ⟨hl, p, vs, rfl, h1, r1⟩ := vw_tup w h
      obtain ⟨ss, ev, h64, k⟩ := fin hz r1
      rw [ev] at h1
      exact .inr ⟨p, ss, rfl, h1, h64, k⟩
    · cases hz
end
end Mi
/-! own: a def that hands out a list of its own as the first of three -/
namespace Mi
open PySem PySem.Spec PyProof.Rows L2 Kt Kj
inductive OutO where
  | rt (xs ys : List D) (z : D) (s : Sx) | er (k : Ek) (e : Mi.Env) (s : Sx) | bad
def RO (c : Cc) (H0 F H : Hp) (xs ys : List D) (z : D) (v : V) : Prop := ∃ q p v1 v2, v = .ref q ∧ SqT c.K F q [.ref p, v1, v2] ∧ OwnAt c H0 F H xs p ∧ Rp c F (.lst ys) v1 ∧ Rp c F z v2
def PostO (c : Cc) (F0 H0 : Hp) (W : WX) (F : Hp) (D : Ends) (o : OutO) : Prop := match o with
  | .rt xs ys z s => ∀ v F' H', Same F F' → Wo c s F' H' → Go c F0 H0 F' H' → RO c H0 F' H' xs ys z v → D.rt v H'
  | .er k e s => ∀ σ F' H', Same F F' → Hold c F0 H0 e s σ F' H' → W (.ref (c.ca k)) none σ H'
  | .bad => False
def rdO (c : Cc) (F0 H0 : Hp) (W : WX) (m : Mi.Env → Sx → OutO) : TS := fun D σ H => ∃ F e s, Hold c F0 H0 e s σ F H ∧ PostO c F0 H0 W F D (m e s)
abbrev MSO (c : Cc) (F0 H0 : Hp) (W : WX) (X : Cx) (st : List Stmt) (m : Mi.Env → Sx → OutO) : Prop := PSs X st (rdO c F0 H0 W m)
def mSeqO (m1 : Ms) (m2 : Mi.Env → Sx → OutO) : Mi.Env → Sx → OutO := fun e s => match m1 e s with
  | .nx e1 s1 => m2 e1 s1
  | .er k e1 s1 => .er k e1 s1
  | _ => .bad
def mRetO (a b d : Nat) : Mi.Env → Sx → OutO := fun e s => match e[a]?, e[b]?, e[d]? with
  | some (some (.own xs)), some (some (.own ys)), some (some (.d z)) => if a = b then .bad else .rt xs ys z s
  | _, _, _ => .bad
section
variable {c : Cc} {F0 H0 : Hp} {W : WX} {X : Cx} {pos : Pos} {st : Stmt} {rest : List Stmt} {m1 : Ms} {m2 : Mi.Env → Sx → OutO} [hq : Dq c H0]
theorem PostO.same {F F1 : Hp} {D : Ends} {o : OutO} (p : PostO c F0 H0 W F D o) (h : Same F F1) : PostO c F0 H0 W F1 D o := by
  cases o with
  | rt xs ys z s => exact fun v F' H' sm w g r => p v F' H' (h.trans sm) w g r
  | er k e s => exact fun σ F' H' sm hh => p σ F' H' (h.trans sm) hh
  | bad => exact p
theorem mso_cons (h1 : MS c F0 H0 W X st m1) (h2 : MSO c F0 H0 W X rest m2) : MSO c F0 H0 W X (st :: rest) (mSeqO m1 m2) := by
  refine pss_mono (pss_cons h1 h2) fun D σ H ⟨F, e, s, h, p⟩ => ⟨F, e, s, h, ?_⟩
  unfold mSeqO at p
  cases q : m1 e s with
  | nx e1 s1 =>
    rw [q] at p
    exact fun σ' F' H' sm hh => ⟨F', e1, s1, hh, PostO.same p sm⟩
  | er k e1 s1 => rw [q] at p; exact p
  | rt d s1 => rw [q] at p; exact p.elim
  | bk e1 s1 => rw [q] at p; exact p.elim
  | ct e1 s1 => rw [q] at p; exact p.elim
  | bad => rw [q] at p; exact p.elim
theorem mso_ret {es : List Expr} {x1 : Nat} {tpos : Pos} {a b d : Nat} (h : PS X (.Return (some (.Tuple es x1 tpos)) pos) (tRet (tTup (tCons (tVar a) (tCons (tVar b) (tCons (tVar d) tNil)))))) : MSO c F0 H0 W X [.Return (some (.Tuple es x1 tpos)) pos] (mRetO a b d) := by
  refine pss_mono (pss_one h) fun D σ H ⟨F, e, s, hh, p⟩ => ?_
  unfold mRetO at p
  split at p
  · rename_i xs ys z ha hb hd
    split at p
    · exact p.elim
    · rename_i nab
      obtain ⟨va, ea, ra⟩ := hh.n.at' a _ ha
      obtain ⟨vb, eb, rb⟩ := hh.n.at' b _ hb
      obtain ⟨vd, ed, rd'⟩ := hh.n.at' d _ hd
      obtain ⟨pa, rfl, oa⟩ := ra
      obtain ⟨pb, rfl, ob⟩ := rb
      have npab : pa ≠ pb := fun z => by
        subst z
        exact nab (hh.n.ne a b _ _ pa ha hb rfl rfl ea eb)
      refine ⟨_, ea, _, eb, _, ed, ?_⟩
      refine ⟨by show 3 ≤ sizeLine; decide, fun q n => ?_⟩
      obtain ⟨vsb, hvb, rvb⟩ := ob.ex
      obtain ⟨vsa, hva, rva⟩ := oa.ex
      -- the second list is frozen
      have w2 := hh.w.frz hvb ob.nf (.inl ob.nd) (fun ps z => by cases z)
      have g2 : Go c F0 H0 (upd F pb (.lst vsb)) H := hh.g.frz ob.nf ob.nb
      have s2 : Same F (upd F pb (.lst vsb)) := same_updN ob.nf
      -- the tuple
      have w3 := w2.newF (o := .tup [.ref pa, .ref pb, vd]) n (fun ps z => by cases z)
      have g3 := g2.trans (Go.newF (o := .tup [.ref pa, .ref pb, vd]) w2 n)
      have fq : (upd F pb (.lst vsb)) q = none := w2.fnone n
      have s3 : Same (upd F pb (.lst vsb)) (upd (upd F pb (.lst vsb)) q (.tup [.ref pa, .ref pb, vd])) := same_updN fq
      have nqa : pa ≠ q := fun z => by rw [z, n] at hva; cases hva
      refine p _ _ _ (s2.trans s3) w3 g3 ⟨q, pa, .ref pb, vd, rfl, SqT.of upd_same, ⟨oa.nb, by rw [upd_ne nqa, upd_ne npab]; exact oa.nf, oa.nd, oa.len, vsa, by rw [upd_ne nqa]; exact hva, rpL_same (s2.trans s3) _ _ rva⟩, ?_, rp_same (s2.trans s3) _ _ rd'⟩
      refine rp_lst.mpr ⟨ob.len, pb, vsb, rfl, s3 _ _ upd_same, rpL_same (s2.trans s3) _ _ rvb⟩
  · exact p.elim
end
/-! the def -/
inductive ResO where
  | ok (xs ys : List D) (z : D) (s : Sx) | er (k : Ek) (s : Sx) | bad
def mDefO (n : Nat) (m : Mi.Env → Sx → OutO) : Sx → List D → ResO := fun s ds => match m (ds.map (fun d => some (.d d)) ++ List.replicate (n - ds.length) none) s with
  | .rt xs ys z s' => .ok xs ys z s'
  | .er k _ s' => .er k s'
  | .bad => .bad
def spMO (K : PySem.W.Frag) (Ts : TsT) (ca : Ek → Addr) (n : Nat) (m : Sx → List D → ResO) : Sp := fun vs H Q E => ∃ (dq : Addr) (F : Hp) (s : Sx) (ds : List D), Wo ⟨K, dq, Ts, ca, none⟩ s F H ∧ (∀ p, H p = none → p ≠ dq) ∧ RpL ⟨K, dq, Ts, ca, none⟩ F ds vs ∧ ds.length = n ∧ match m s ds with
  | .ok xs ys z s' => ∀ v F' H', Wo ⟨K, dq, Ts, ca, none⟩ s' F' H' → Go ⟨K, dq, Ts, ca, none⟩ F H F' H' → RO ⟨K, dq, Ts, ca, none⟩ H F' H' xs ys z v → Q v H'
  | .er k s' => ∀ F' H', Wo ⟨K, dq, Ts, ca, none⟩ s' F' H' → Go ⟨K, dq, Ts, ca, none⟩ F H F' H' → E (.ref (ca k)) none H'
  | .bad => False
section
variable {P : Program} {w : World} {K : PySem.W.Frag} {mg : Str → Option Value} {base : Heap} {x : Str} {st : Stmt} {N ps : List Str} {k : Nat} {Ts : TsT} {ca : Ek → Addr}
theorem spMO_run {n : Nat} {m : Mi.Env → Sx → OutO} {vs : List V} {H : Hp} {Q : VK} {E : XK} {X : Cx} {body : List Stmt} (h : spMO K Ts ca n (mDefO N.length m) vs H Q E)
    (d : ∀ (dq : Addr) (F : Hp) (hq : Dq ⟨K, dq, Ts, ca, none⟩ H), MSO ⟨K, dq, Ts, ca, none⟩ F H (wOut E) X body m) : ∃ t, PSs X body t ∧ t { nx := fun _ H' => Q .non H', rt := Q } (L2.start N vs) H := by
  obtain ⟨dq, F, s, ds, w, hd, r, hl, p⟩ := h
  refine ⟨_, d dq F ⟨hd⟩, F, _, s, ⟨w, .refl, en_start r⟩, ?_⟩
  unfold mDefO at p
  generalize m (ds.map (fun d => some (A.d d)) ++ List.replicate (N.length - ds.length) none) s = o at p
  cases o with
  | rt xs ys z s' => exact fun v F' H' _ w g r => p v F' H' w g r
  | er k e s' => exact fun σ F' H' _ h => p F' H' h.w h.g
  | bad => exact p.elim
theorem spMO_len {n : Nat} {m : Sx → List D → ResO} {vs : List V} {H : Hp} {Q : VK} {E : XK} (h : spMO K Ts ca n m vs H Q E) : vs.length = n := by
  obtain ⟨dq, F, s, ds, w, hd, r, hl, p⟩ := h
  rw [r.len, hl]
theorem okMO {n : Nat} {m : Mi.Env → Sx → OutO} (D : At K mg x st) (S : FnScope N ps (defScope st)) (hb : BindH st x ps) (hn : ps.length = n)
    (body : ∀ (f : Addr) (cdv : Value) (A : Around) (outer : List PySem.Env) (s : Shared) (H : Hp) (E : XK), Room k (A.deeper (envOfC x (defScope st) s.heap.objs.size f cdv)) →
      ∀ (dq : Addr) (F : Hp) (hq : Dq ⟨K, dq, Ts, ca, none⟩ H), MSO ⟨K, dq, Ts, ca, none⟩ F H (wOut E) (cxOf (L2N.CX P w) P w K mg base N x (defScope st) f cdv A outer s H E) (defBody st) m) :
    Prom P w K mg base (L2N.CX P w) (k + 1) x ps (spMO K Ts ca n (mDefO N.length m)) :=
  Kh.okXN D S hb (fun vs H Q E h => (spMO_len h).trans hn.symm) fun f cdv A outer s H vs Q E hr h => spMO_run h fun dq F hq => body f cdv A outer s H E hr dq F hq
end
/-! x, y, z = f(..): x is a list of one's own -/
def mAsgO (m : Sx → List D → ResO) (ms : List Mv) (i j l : Nat) : Ms := fun e s => match mArgs ms e s with
  | .ok as s1 => match toDs as with
    | some ds => match m s1 ds with
      | .ok xs ys z s2 => .nx (((e.set i (some (.own xs))).set j (some (.d (.lst ys)))).set l (some (.d z))) s2
      | .er k s2 => .er k e s2
      | .bad => .bad
    | none => .bad
  | .er k s1 => .er k e s1
  | .bad => .bad
section
variable {c : Cc} {F0 H0 : Hp} {W : WX} {X : Cx} {pos : Pos} [hq : Dq c H0]
theorem ms_asgO {jl k n : Nat} {x : Str} {ps : List Str} {m : Sx → List D → ResO} {q : Pos} {ms : List Mv} {a : Expr} {es : List Expr} {cpos : Pos} {tes : List Expr} {tk' : Nat} {tpos : Pos} {i j l : Nat} (hr : Room k X.A) (P : Prom X.prog X.w X.K X.mg X.base (L2N.CX X.prog X.w) jl x ps (spMO c.K c.Ts c.ca n m)) (tk : L2N.Takes X W) (hE : c.ea = none) (hK : X.K = c.K)
    (ha : MA c F0 H0 W X (a :: es) (mArgs ms)) (hp : PG X (.Tuple tes tk' tpos) (gTup X.K 3 (gCons (gName i) (gCons (gName j) (gCons (gName l) gNil))))) (hn : ms.length = n := by rfl) (hg : Gl X x := by rfl) (hj : jl ≤ k := by decide) (hdb : (x == ("__debug__" : Str)) = false := by decide)
    (he : starEach (a :: es) X.env = (false, eval a X.env) :: starEach es X.env := by rfl) (hpl : (backTo cpos (starEach es X.env)).any (·.1) = false := by rfl)
    (hs : swapsWithSole [.Tuple tes tk' tpos] (.Call (.Name x q) (a :: es) [] cpos) pos.line X.env = pure false := by rfl) (hw : swappedStores [.Tuple tes tk' tpos] (.Call (.Name x q) (a :: es) [] cpos) X.env = pure none := by rfl)
    (h1 : (assignEach [.Tuple tes tk' tpos] X.env).map (·.2) = [assign (.Tuple tes tk' tpos) X.env] := by rfl) : MS c F0 H0 W X (.Assign [.Tuple tes tk' tpos] (.Call (.Name x q) (a :: es) [] cpos) pos) (mAsgO m ms i j l) := by
  obtain ⟨cK, cq, cT, ca, ce⟩ := c
  cases hE
  refine ps_mono (ps_asg (Kh.pcallXN hr P tk ha hg hj hdb he hpl) hp hs hw h1) fun D σ H ⟨F, e, s, hh, p⟩ => ?_
  unfold mAsgO at p
  refine ⟨F, e, s, hh, ?_⟩
  cases q1 : mArgs ms e s with
  | bad => rw [q1] at p; exact p.elim
  | er k s1 =>
    rw [q1] at p
    exact fun F' H' w' g' => p σ F' H' g'.same (hh.go g' w')
  | ok as s1 =>
    rw [q1] at p
    dsimp only at p
    intro vs F1 H1 w1 g1 r1
    cases e1 : toDs as with
    | none => rw [e1] at p; exact p.elim
    | some ds =>
      rw [e1] at p
      dsimp only at p
      obtain ⟨F2, w2, s2, g2, h2⟩ := frzAll w1 r1 (Same.refl _) e1
      have gA := g2 _ g1
      refine ⟨cq, F2, s1, ds, w2, (hh.go g1 w1).dq, h2, by rw [toDs_len e1, mArgs_len q1, hn], ?_⟩
      cases e3 : m s1 ds with
      | bad => rw [e3] at p; exact p.elim
      | er k3 s3 =>
        rw [e3] at p
        intro F' H' w' g'
        exact p σ F' H' (gA.trans g').same (hh.go (gA.trans g') w')
      | ok xs ys z s3 =>
        rw [e3] at p
        rintro v F' H' w' g' ⟨t, pa, v1, v2, rfl, ht, oa, ry, rz⟩
        have gB := gA.trans g'
        rw [hK]
        refine ⟨t, [.ref pa, v1, v2], rfl, sqT_same w'.sub ht, rfl, .ref pa, _, rfl, v1, _, rfl, v2, _, rfl, rfl, ?_⟩
        have hA : Hold ⟨cK, cq, cT, ca, none⟩ F0 H0 (e.set i (some (.own xs))) s3 (σ.set i (some (.ref pa))) F' H' := hh.setA (a := .own xs) gB w' ⟨pa, rfl, gA.free oa.nb, oa.nf, oa.nd, oa.len, oa.ex⟩ rfl
        have hB := hA.setA (i := j) (a := .d (.lst ys)) (v := v1) .refl w' ry rfl
        have hC := hB.setA (i := l) (a := .d z) (v := v2) .refl w' rz rfl
        exact p _ F' H' gB.same hC
end
end Mi
/-! own: while an error is handled: walks, comprehensions, calls of own defs -/
namespace Kh
open PySem PySem.Spec PyProof.Rows L2 L2H HotX Kt
theorem turn_tupleH {P : Program} {w : World} {K : PySem.W.Frag} {tg : Expr} (a it : Addr) : TurnH P w K tg (Itt K a) [it] it (fun i h => h.IsTupleIter it a i) where
  mem := by simp
  obj := (turn_tuple (P := P) (w := w) (K := K) (tg := tg) a it).obj
  keep := (turn_tuple (P := P) (w := w) (K := K) (tg := tg) a it).keep
  item := by
    intro X hP hw hK hc i pins s σ H E I hf st hg
    subst hP hw hK
    obtain ⟨xs, x, hq, hx⟩ := hg
    obtain ⟨its, rv, p, hz⟩ := I.tuple hq
    obtain ⟨u, hu, ru⟩ := rv.get hx
    obtain ⟨f0, f1, f2, f3, f4, f5⟩ := hf it (by simp)
    refine wpAny_pyNext_tuple_item st p (x := u) (by simpa using hu) fun h' st' sb => ?_
    have I1 : Inv X pins σ H { s with heap := h' } := I.turned (t' := s.toks) (fun b o hb e => (sb.2 b hb).trans e) f0 f1 f3 f4 f5
    obtain ⟨o, e, c, d⟩ := id st'
    exact ⟨u, rfl, go_of (s := { s with heap := h' }) e c d (by decide) ⟨x, H, I1, ru, ⟨rfl, fun ys hy => by rw [I.tuple_inj hy hq]; exact hx⟩, st', fun b hb => (hf b hb).1⟩⟩
  done := by
    intro X hP hw hK hc i pins s σ H E I hf st hg
    subst hP hw hK
    obtain ⟨xs, hq, hx⟩ := hg
    obtain ⟨its, rv, p, hz⟩ := I.tuple hq
    obtain ⟨f0, f1, f2, f3, f4, f5⟩ := hf it (by simp)
    have hl := rv.length
    obtain ⟨q, ⟨hh, v1, e1, c1⟩, hqp⟩ := hc
    have hot : HotAt X.A q.1 s.heap := ⟨hh, q.2, v1, (I.pin q (List.mem_append_left _ hqp)).1, e1, c1⟩
    exact tuple_end_hot hot (f5 q (List.mem_append_left _ hqp)) st p (by simp; omega) fun h' eb => ⟨rfl, I.turned (t' := s.toks) (fun b o hb e => eb b o hb e) f0 f1 f3 f4 f5⟩
  self := fun _ _ _ _ _ st h => wpAny_pyIter_tupleiter st h
/-- what is walked: a list, a tuple -/
def iSeq2 (K : PySem.W.Frag) (tl : TE) : TI := fun σ H R => tl σ H fun x H1 => (∃ a, x = .ref a ∧ (∃ xs, SqL K H1 a xs) ∧ R (Itl K a) H1) ∨ (∃ a, x = .ref a ∧ (∃ xs, SqT K H1 a xs) ∧ R (Itt K a) H1)
theorem pi_seqH {X : Cx} {tg : Expr} {l : Expr} {tl : TE} (hl : PE X l tl) : PIH X tg l (iSeq2 X.K tl) := by
  refine ⟨fun pins s σ H R I h => ?_⟩
  refine thn (hl.run pins s σ H _ I h) fun v s1 ⟨x, H1, I1, r1, q1⟩ => ?_
  rcases q1 with q1 | q1
  · obtain ⟨a, e, ⟨xs, hq⟩, q⟩ := q1
    subst e
    cases r1
    obtain ⟨its, rv, p, hz⟩ := I1.list hq
    refine wpAny_pyIter_list p.isList ?_
    refine ⟨s1.heap.objs.size, [s1.heap.objs.size], _, _, H1, rfl, I1.kept (t' := s1.toks) fun b o e => Heap.get?_push_of_some _ e, turn_listH a _, ⟨_, Heap.get?_push_size _ rfl, rfl, rfl⟩, fun b hb => ?_, q⟩
    have e : b = s1.heap.objs.size := by simpa using hb
    subst e
    exact I1.fpOk (Nat.le_refl _) (I1.hok.fresh (Nat.le_refl _))
  · obtain ⟨a, e, ⟨xs, hq⟩, q⟩ := q1
    subst e
    cases r1
    obtain ⟨its, rv, p, hz⟩ := I1.tuple hq
    refine wpAny_pyIter_tuple p ?_
    refine ⟨s1.heap.objs.size, [s1.heap.objs.size], _, _, H1, rfl, I1.kept (t' := s1.toks) fun b o e => Heap.get?_push_of_some _ e, turn_tupleH a _, ⟨_, Heap.get?_push_size _ rfl, rfl, rfl⟩, fun b hb => ?_, q⟩
    have e : b = s1.heap.objs.size := by simpa using hb
    subst e
    exact I1.fpOk (Nat.le_refl _) (I1.hok.fresh (Nat.le_refl _))
end Kh
namespace Mi
open PySem PySem.Spec PyProof.Rows L2 L2H HotX Kt Kj
section
variable {c : Cc} {F0 H0 : Hp} {W : WX} {X : Cx} {pos : Pos} {a tg iter elt : Expr} {es : List Expr} {m1 : Mv} [hq : Dq c H0]
abbrev MIH (c : Cc) (F0 H0 : Hp) (W : WX) (X : Cx) (tg e : Expr) (m : Mi') : Prop := PIH X tg e (rd c F0 H0 W (RI c) m)
theorem pih_mono {t t' : TI} {e : Expr} (h : PIH X tg e t) (m : ∀ σ H Q, t' σ H Q → t σ H Q) : PIH X tg e t' := ⟨fun pins s σ H Q I q => h.run pins s σ H Q I (m σ H Q q)⟩
/-- lists and tuples -/
def asX2 : A → Option (List D)
  | .d (.lst ds) => some ds
  | .d (.tup ds) => some ds
  | .own ds => some ds
  | _ => none
def mIt2 (m : Mv) : Mi' := fun e s => (m e s).bind fun x s1 => opt (asX2 x) s1
theorem mi_seqH (hK : X.K = c.K) (ha : ME c F0 H0 W X a m1) : MIH c F0 H0 W X tg a (mIt2 m1) := by
  refine pih_mono (Kh.pi_seqH ha) fun σ H Q ⟨F, e, s, hh, p⟩ => ?_
  refine rd_mono (bindK hh p) fun x H1 ⟨F1, s1, a1, h1, g1, r1, p1⟩ => ?_
  obtain ⟨ds, e1, p2⟩ := post_oD p1
  rw [hK]
  unfold asX2 at e1
  split at e1
  · cases e1
    obtain ⟨hl, q, xs, rfl, h2, r2⟩ := rp_lst.mp (show Rp c F1 _ x from r1)
    exact .inl ⟨q, rfl, ⟨xs, SqL.of (h1.w.sub _ _ h2)⟩, p2 _ F1 H1 h1.w g1 (walk_lst h2 r2)⟩
  · cases e1
    obtain ⟨hl, q, xs, rfl, h2, r2⟩ := rp_tup.mp (show Rp c F1 _ x from r1)
    exact .inr ⟨q, rfl, ⟨xs, sqT_same h1.w.sub h2⟩, p2 _ F1 H1 h1.w g1 (walk_tupD h2 r2)⟩
  · cases e1
    obtain ⟨q, rfl, o⟩ := r1
    obtain ⟨F2, w2, s2, g2, r2⟩ := frzOwn h1.w o (Same.refl _)
    obtain ⟨hl, q', xs, eq, h2, r2⟩ := rp_lst.mp r2
    cases eq
    exact .inl ⟨q, rfl, ⟨xs, SqL.of (w2.sub _ _ h2)⟩, p2 _ F2 H1 w2 (g2 _ g1) (walk_lst h2 r2)⟩
  · cases e1
theorem me_lcH {ifs : List Expr} {scope : Scope} {own : List (Str × Nat)} {mi : Mi'} {g : TG} {mg : Gm} {tt : Mb} {te : Mv} (hg : GM c H0 (own.map (·.2)) g mg) (hc : HotC X) (hN : X.N.Nodup) (hi : MIH c F0 H0 W X tg iter mi) (ok : BlkOk X.N X.env.scope scope own)
    (hpg : ∀ (s : Shared) (H : Hp) (C : Addr) (cl : List (Str × Addr)) (fp : List Addr), PG (Kh.blkH X s H scope (compEnvC scope cl C X.env) fp) tg g) (ht : ∀ (s : Shared) (H : Hp) (C : Addr) (cl : List (Str × Addr)) (fp : List Addr), MTs c F0 H0 W0 (Kh.blkH X s H scope (compEnvC scope cl C X.env) fp) ifs tt)
    (he : ∀ (s : Shared) (H : Hp) (C : Addr) (cl : List (Str × Addr)) (fp : List Addr), ME c F0 H0 W0 (Kh.blkH X s H scope (compEnvC scope cl C X.env) fp) elt te) (hs : ∀ x, foldedSetIterable iter X.env x = pure x := by intro _; rfl) :
    ME c F0 H0 W X (.ListComp elt [⟨tg, iter, ifs, 0⟩] scope pos) (mLc mi mg tt te (own.map (·.2))) := by
  refine pe_mono (Kh.pe_lcH hc hN hi ok hpg ht he hs) fun σ H Q ⟨F, e, s, hh, p⟩ => ?_
  refine rd_mono (bindK hh p) fun J H1 ⟨F1, s1, ds, h1, g1, wk, p1⟩ => ?_
  exact fun Dn nD => lc_run h1 g1 wk hg p1 nD
theorem ms_setLcH {i : Nat} {y : Str} {py spos : Pos} {ifs : List Expr} {scope : Scope} {own : List (Str × Nat)} {mi : Mi'} {g : TG} {mg : Gm} {tt : Mb} {te : Mv} (hg : GM c H0 (own.map (·.2)) g mg) (hc : HotC X) (hN : X.N.Nodup) (hy : X.N[i]? = some y) (hyl : X.env.scope.names.lookup y = some .local)
    (hsw : swapsWith (.ListComp elt [⟨tg, iter, ifs, 0⟩] scope pos) (some (.Name y py)) spos.line X.env = pure true) (hi : MIH c F0 H0 W X tg iter mi) (ok : BlkOk X.N X.env.scope scope own)
    (hpg : ∀ (s : Shared) (H : Hp) (C : Addr) (cl : List (Str × Addr)) (fp : List Addr), PG (Kh.blkH X s H scope (compEnvC scope cl C X.env) fp) tg g) (ht : ∀ (s : Shared) (H : Hp) (C : Addr) (cl : List (Str × Addr)) (fp : List Addr), MTs c F0 H0 W0 (Kh.blkH X s H scope (compEnvC scope cl C X.env) fp) ifs tt)
    (he : ∀ (s : Shared) (H : Hp) (C : Addr) (cl : List (Str × Addr)) (fp : List Addr), ME c F0 H0 W0 (Kh.blkH X s H scope (compEnvC scope cl C X.env) fp) elt te) (hs : ∀ x, foldedSetIterable iter X.env x = pure x := by intro _; rfl) :
    MS c F0 H0 W X (.Assign [.Name y py] (.ListComp elt [⟨tg, iter, ifs, 0⟩] scope pos) spos) (mSet i (mLc mi mg tt te (own.map (·.2)))) := by
  refine ps_mono (Kh.ps_setLcH hc hN hy hyl hsw hi ok hpg ht he hs) fun D σ H ⟨F, e, s, hh, p⟩ => ?_
  refine lc_sound hg (rd_mono (bindS hh p) fun v H1 ⟨F1, s1, y, h1, g1, r1, p1⟩ => ?_)
  try dsimp only at p1
  split at p1
  · exact p1.elim
  · rename_i hb
    exact p1 _ F1 H1 (Same.refl _) (hh.setA g1 h1.w r1 (by simpa using hb))
/-! a call of an own def that raises nothing, while an error is handled -/
def mFnN (m : Sx → List D → Res D) (ms : List Mv) : Mv := fun e s => (mArgs ms e s).bind fun as s1 => (opt (toDs as) s1).bind fun ds s2 => (nox (m s2 ds)).bind fun d s3 => .ok (.d d) s3
abbrev spE (K : PySem.W.Frag) (Ts : TsT) (ca : Ek → Addr) (n : Nat) (m : Sx → List D → Res D) : Kh.SpE := fun _ => spM K Ts ca n m
theorem woC {c c' : Cc} {s : Sx} {F H : Hp} (e1 : c'.dq = c.dq) (e2 : c'.Ts = c.Ts) (w : Wo c s F H) : Wo c' s F H := ⟨w.sub, e2 ▸ w.tg, w.nt, by rw [e1]; exact w.ds⟩
theorem goC {c c' : Cc} {F H F' H' : Hp} (e1 : c'.dq = c.dq) (g : Go c F H F' H') : Go c' F H F' H' := ⟨g.same, fun b o e n nt => g.keep b o e (e1 ▸ n) nt, g.tb, fun o e => by rw [e1] at e ⊢; exact g.dk o e, fun t l q e => by rw [e1] at e ⊢; exact g.dc t l q e, g.fresh⟩
theorem me_fnH {p : Addr × Obj} {j k n : Nat} {x : Str} {ps : List Str} {m : Sx → List D → Res D} {q : Pos} {ms : List Mv} (hr : RoomH k X.A) (P : Kh.PromE X.prog X.w X.K X.mg X.base j x ps (spE c.K c.Ts c.ca n m)) (hot : Hot1 X.A p) (hp : p ∈ X.pn)
    (ha : MA c F0 H0 W X (a :: es) (mArgs ms)) (hn : ms.length = n := by rfl) (hg : Gl X x := by rfl) (hj : j ≤ k := by decide) (hdb : (x == ("__debug__" : Str)) = false := by decide)
    (he : starEach (a :: es) X.env = (false, eval a X.env) :: starEach es X.env := by rfl) (hpl : (backTo pos (starEach es X.env)).any (·.1) = false := by rfl) : ME c F0 H0 W X (.Call (.Name x q) (a :: es) [] pos) (mFnN m ms) := by
  refine pe_mono (Kh.pcallE hr P hot hp ha hg hj hdb he hpl) fun σ H Q ⟨F, e, s, hh, p⟩ => ?_
  refine rd_mono (bindQ hh p) fun vs H1 ⟨F1, s1, as, h1, g1, r1, p1, eq⟩ => ?_
  obtain ⟨ds, e1, p2⟩ := post_o p1
  obtain ⟨F2, w2, s2, g2, h2⟩ := frzAll h1.w r1 (Same.refl _) e1
  have gA := g2 _ g1
  refine ⟨c.dq, F2, s1, ds, woC (c := c) (c' := ⟨c.K, c.dq, c.Ts, c.ca, none⟩) rfl rfl w2, h1.dq, rpL_ea (c := c) (c' := ⟨c.K, c.dq, c.Ts, c.ca, none⟩) rfl rfl _ _ h2, by rw [toDs_len e1, mArgs_len eq, hn], ?_⟩
  dsimp only at p2
  cases e3 : m s1 ds with
  | ok d s3 =>
    rw [e3] at p2
    exact fun v F' H' w g r => p2 v F' H' (woC (c := ⟨c.K, c.dq, c.Ts, c.ca, none⟩) (c' := c) rfl rfl w) (gA.trans (goC (c := ⟨c.K, c.dq, c.Ts, c.ca, none⟩) (c' := c) rfl g)) (rp_ea (c := ⟨c.K, c.dq, c.Ts, c.ca, none⟩) (c' := c) rfl rfl _ _ r)
  | er k3 s3 =>
    rw [e3] at p2
    exact p2.elim
  | bad =>
    rw [e3] at p2
    exact p2.elim
end
section
variable {P : Program} {w : World} {K : PySem.W.Frag} {mg : Str → Option Value} {base : Heap} {x : Str} {st : Stmt} {N ps : List Str} {k : Nat} {Ts : TsT} {ca : Ek → Addr}
theorem spH_run {n : Nat} {m : Ms} {vs : List V} {H : Hp} {Q : VK} {E : XK} {X : Cx} {body : List Stmt} (h : spM K Ts ca n (mDef N.length m) vs H Q E) (nr : ∀ e s k e' s', m e s ≠ .er k e' s')
    (d : ∀ (dq : Addr) (F : Hp) (hq : Dq ⟨K, dq, Ts, ca, none⟩ H), MSs ⟨K, dq, Ts, ca, none⟩ F H W0 X body m) : ∃ t, PSs X body t ∧ t { nx := fun _ H' => Q .non H', rt := Q } (L2.start N vs) H := by
  obtain ⟨dq, F, s, ds, w, hd, r, hl, p⟩ := h
  refine ⟨_, d dq F ⟨hd⟩, F, _, s, ⟨w, .refl, en_start r⟩, ?_⟩
  unfold mDef at p
  cases q : m (ds.map (fun d => some (A.d d)) ++ List.replicate (N.length - ds.length) none) s with
  | nx e s' => rw [q] at p; exact fun σ F' H' _ h => p .non F' H' h.w h.g (rp_non.mpr rfl)
  | rt d s' => rw [q] at p; exact fun v F' H' _ w g r => p v F' H' w g r
  | er k e s' => exact absurd q (nr _ _ _ _ _)
  | bk e s' => rw [q] at p; exact p.elim
  | ct e s' => rw [q] at p; exact p.elim
  | bad => rw [q] at p; exact p.elim
theorem okH {n : Nat} {m : Ms} (D : At K mg x st) (S : FnScope N ps (defScope st)) (hb : BindH st x ps) (hn : ps.length = n) (nr : ∀ e s k e' s', m e s ≠ .er k e' s')
    (body : ∀ (f : Addr) (cdv : Value) (A : Around) (outer : List PySem.Env) (s : Shared) (H : Hp) (E : XK) (p : Addr × Obj), HotC (cxH CX0 P w K mg base N x (defScope st) f cdv A outer s H E p).nox → RoomH k (A.deeper (envOfC x (defScope st) s.heap.objs.size f cdv)) →
      ∀ (dq : Addr) (F : Hp) (hq : Dq ⟨K, dq, Ts, ca, none⟩ H), MSs ⟨K, dq, Ts, ca, none⟩ F H W0 (cxH CX0 P w K mg base N x (defScope st) f cdv A outer s H E p).nox (defBody st) m) :
    Kh.PromE P w K mg base (k + 1) x ps (spE K Ts ca n (mDef N.length m)) :=
  Kh.okE D S hb (fun p vs H Q E h => (spM_len h).trans hn.symm) fun f cdv A outer s H vs Q E p hc hf hr h => spH_run h nr fun dq F hq => body f cdv A outer s H E p hc hr dq F hq
end
theorem unitsH {k : Nat} {A : Around} (r : RoomH k A) : A.units + 64 < cLine := by
  have := r.un
  omega
/-- a def's body that lets no error out -/
def noO (o : Out) : Out := match o with
  | .er _ _ _ => .bad
  | o => o
def noS (b : Ms) : Ms := fun e s => noO (b e s)
theorem mss_no {c : Cc} {F0 H0 : Hp} {W : WX} {X : Cx} {st : List Stmt} {b : Ms} (h : MSs c F0 H0 W X st b) : MSs c F0 H0 W X st (noS b) := by
  refine pss_mono h fun D σ H ⟨F, e, s, hh, p⟩ => ⟨F, e, s, hh, ?_⟩
  unfold noS noO at p
  cases q : b e s with
  | er k e1 s1 => rw [q] at p; exact p.elim
  | nx e1 s1 => rw [q] at p; exact p
  | rt d s1 => rw [q] at p; exact p
  | bk e1 s1 => rw [q] at p; exact p
  | ct e1 s1 => rw [q] at p; exact p
  | bad => rw [q] at p; exact p
theorem noS_ne {b : Ms} {e e' : Mi.Env} {s s' : Sx} {k : Ek} : noS b e s ≠ .er k e' s' := by
  unfold noS noO
  split
  · exact fun h => nomatch h
  · rename_i o h
    exact fun z => h _ _ _ z
end Mi
/-! own: xs[::-1]; except X: without a name -/
namespace Mi
open PySem PySem.Spec PyProof.Rows L2 Kt Kj
section
variable {c : Cc} {F0 H0 F H : Hp} {W : WX} {X : Cx} {pos : Pos} {a : Expr} {m1 : Mv} {s : Sx} {e : Env} {σ : L2.St} [hq : Dq c H0]
def dRev : D → Option A
  | .lst ds => some (.own ds.reverse)
  | _ => none
theorem rpL_app {c : Cc} {F : Hp} : ∀ {ds es : List D} {xs ys : List V}, RpL c F ds xs → RpL c F es ys → RpL c F (ds ++ es) (xs ++ ys)
  | [], es, xs, ys, h, g => by
    unfold RpL at h
    subst h
    exact g
  | d :: ds, es, xs, ys, h, g => by
    unfold RpL at h
    obtain ⟨v, r, rfl, h1, h2⟩ := h
    show RpL c F (d :: (ds ++ es)) (v :: (r ++ ys))
    unfold RpL
    exact ⟨v, _, rfl, h1, rpL_app h2 g⟩
theorem rpL_rev {c : Cc} {F : Hp} : ∀ {ds : List D} {xs : List V}, RpL c F ds xs → RpL c F ds.reverse xs.reverse
  | [], xs, h => by
    unfold RpL at h
    subst h
    show RpL c F [] []
    unfold RpL
    rfl
  | d :: ds, xs, h => by
    unfold RpL at h
    obtain ⟨v, r, rfl, h1, h2⟩ := h
    rw [List.reverse_cons, List.reverse_cons]
    refine rpL_app (rpL_rev h2) ?_
    unfold RpL
    exact ⟨v, [], rfl, h1, by unfold RpL; rfl⟩
theorem me_rev {k : Nat} {p1 p2 p3 : Pos} (hK : X.K = c.K) (ha : ME c F0 H0 W X a m1) : ME c F0 H0 W X (.Subscript a (.Slice none none (some (.UnaryOp .USub (.Constant (.int 1) k p1) p2)) p3) pos) (mUn dRev m1) := by
  refine pe_mono (pe_revL ha) fun σ H Q ⟨F, e, s, hh, p⟩ => ?_
  refine rd_mono (bindE (R' := fun Hb F H a v => RA c H0 Hb F H a v) hh (fun h r => r.since h) p) fun x H1 ⟨F1, s1, a1, h1, g1, r1, p1⟩ => ?_
  obtain ⟨z, ez, q⟩ := post_opt p1
  have vw := r1.vw h1.w
  generalize a1.v = d at *
  unfold dRev at ez
  split at ez
  · rename_i ds
    cases ez
    obtain ⟨hl, p, vs, rfl, h2, r2⟩ := vw_lst vw
    rw [hK]
    exact ⟨p, vs, rfl, SqL.of h2, fun p' n => newL h1.w (rpL_rev r2) (by rw [List.length_reverse]; exact hl) n (h1.dq p' n) q⟩
  · cases ez
/-! except X: -/
def cleanN (e : Env) : Env := e.map fun a => match a with
  | some (.exc _) => none
  | a => a
theorem clean_out {e : Env} : clean e.length e = cleanN e := by
  unfold clean cleanN
  exact List.set_eq_of_length_le (by rw [List.length_map]; exact Nat.le_refl _)
def tOutN (o : Out) : Out := match o with
  | .nx e2 s2 => .nx (cleanN e2) s2
  | .bk e2 s2 => .bk (cleanN e2) s2
  | .ct e2 s2 => .ct (cleanN e2) s2
  | .rt d s2 => .rt d s2
  | _ => .bad
def mTryN (k0 : Ek) (b su : Ms) : Ms := fun e s => match b e s with
  | .er k e1 s1 => if k = k0 then tOutN (su e1 s1) else .er k e1 s1
  | o => o
variable {a : Addr} {k : Ek}
theorem En.hotN (hE : c.ea = none) (n : En c H0 e σ F H) : En (c.hot a k) H0 e σ F H := by
  have := En.hot (a := a) (k := k) (i := e.length) hE n
  rw [List.set_eq_of_length_le (Nat.le_refl _), List.set_eq_of_length_le (by rw [n.len]; exact Nat.le_refl _)] at this
  exact this
theorem Hold.coldN (h : Hold (c.hot a k) F0 H0 e s σ F H) : Hold c F0 H0 (cleanN e) s σ F H := by
  have := Hold.cold (i := e.length) h
  rw [clean_out, List.set_eq_of_length_le (by rw [h.n.len]; exact Nat.le_refl _)] at this
  exact this
theorem ms_tryN {x : Str} {C : Value} {body suite : List Stmt} {b₀ : Stmt} {np pos' : Pos} {b : Ms} {su : Ms} {k0 : Ek} (hE : c.ea = none) (hK : X.K = c.K) (hs : X.stack = X.env :: X.outer) (hf : X.env.frame = some X.env.locals) (hc : Names X x C) (tk : L2N.Takes X W)
    (hex : ∀ k, PySem.W.exmOne c.K (.ref (c.ca k)) C = some (decide (k = k0)))
    (hb : ∀ (W : WX) (pn : List (Addr × Obj)) (xe : Value → Shared → Prop), L2N.Takes (X.tr pn xe) W → PassesOwn (model X.prog X.w) X.A X.env xe → MSs c F0 H0 W (X.tr pn xe) body b)
    (hsu : ∀ (k : Ek) (a : Addr) (oe : Obj) (pn : List (Addr × Obj)) (hqh : Dq (c.hot a k) H0), L2N.Zn (.ref (c.ca k)) none oe → (∃ vs, oe.data = .fields vs) → MSs (c.hot a k) F0 H0 W0 (X.suite a ((a, oe) :: pn)) (b₀ :: suite) su) :
    MS c F0 H0 W X (.Try body [.ExceptHandler (some (.Name x np)) none (b₀ :: suite) pos'] [] [] pos) (mTryN k0 b su) := by
  refine ps_mono (L2N.ps_try_many (l := [(C, fun a cls d D σ H => ∃ k, cls = .ref (c.ca k) ∧ d = none ∧ rdS (c.hot a k) F0 H0 W0 su D σ H)]) hs hf tk hb (.cons hc ?_ .nil)) fun D σ H ⟨F, e, s, hh, p⟩ => ?_
  · intro a oe cls d pn hz hfl
    refine ⟨fun pins s σ H D I q => ?_⟩
    obtain ⟨k, rfl, rfl, q⟩ := q
    exact (hsu k a oe pn ⟨hq.out⟩ hz hfl).run pins s σ H D I q
  · refine ⟨F, e, s, hh, ?_⟩
    unfold mTryN at p
    cases q : b e s with
    | nx e1 s1 => rw [q] at p; exact p
    | rt d s1 => rw [q] at p; exact p
    | bk e1 s1 => rw [q] at p; exact p
    | ct e1 s1 => rw [q] at p; exact p
    | bad => rw [q] at p; exact p
    | er k e1 s1 =>
      rw [q] at p
      intro σ1 F1 H1 sm h1
      rw [hK]
      refine ⟨_, hex k, fun z a na => ⟨k, rfl, rfl, F1, e1, s1, ⟨h1.w.hot, h1.g.hot, h1.n.hotN hE⟩, ?_⟩, fun z => ?_⟩
      · have p : PostS c F0 H0 W F D (if k = k0 then tOutN (su e1 s1) else .er k e1 s1) := p
        rw [if_pos (of_decide_eq_true z)] at p
        unfold tOutN at p
        cases q2 : su e1 s1 with
        | nx e2 s2 => rw [q2] at p; exact fun σ' F' H' sm2 h => p _ F' H' (sm.trans sm2) h.coldN
        | bk e2 s2 => rw [q2] at p; exact fun σ' F' H' sm2 h => p _ F' H' (sm.trans sm2) h.coldN
        | ct e2 s2 => rw [q2] at p; exact fun σ' F' H' sm2 h => p _ F' H' (sm.trans sm2) h.coldN
        | rt d s2 => rw [q2] at p; exact fun v F' H' sm2 w g r => p v F' H' (sm.trans sm2) w.cold g.cold (Rp.cold (a := a) (k := k) r)
        | er k2 e2 s2 => rw [q2] at p; exact p.elim
        | bad => rw [q2] at p; exact p.elim
      · have p : PostS c F0 H0 W F D (if k = k0 then tOutN (su e1 s1) else .er k e1 s1) := p
        rw [if_neg (of_decide_eq_false z)] at p
        exact p σ1 F1 H1 sm h1
end
/-! sum(t) of a tuple too -/
theorem sum_tup {prog : Program} {w : World} {A : Around} {E : Value → Shared → Prop} {s : Shared} {l : Addr} {its : List Value} {ns : List Int} {Q : Value → Shared → Prop} (hh : A.handled = none) (hl : IsTup s.heap l its.toArray) (hi : IntsAre its ns)
    (h : ∀ h' tk t', (∀ b o, s.heap.get? b = some o → h'.get? b = some o) → Q (.int ns.sum t') { s with heap := h', toks := tk }) : wpAny (model prog w) A (call (.builtin "sum") [.ref l]) Q E s := by
  obtain ⟨xs, e⟩ := hi.allInts.items
  have hn : numsOf (intItems xs).toList = ns := by rw [← e]; exact hi.numsOf
  rw [nums_intItems] at hn
  rw [e] at hl
  have hlt : l < s.heap.objs.size := by obtain ⟨_, e, _⟩ := hl; exact Heap.lt_size e
  refine call_sum_walkG (wpAny_pyIter_tuple (show s.heap.IsTuple l (intItems xs) from hl) ?_)
  have hl2 : (s.heap.push { cls := .type "tuple_iterator", data := .fields #[.ref l, .int 0 0] }).IsTuple l (intItems xs) := by
    obtain ⟨o, e, r⟩ := hl
    exact ⟨o, Heap.get?_push_of_some _ e, r⟩
  refine ⟨_, _, _, _, _, _, numAt xs, rfl, Walks.tuple (A := A.in1) hh _ l (Nat.ne_of_lt hlt) (intItems xs), ⟨⟨_, Heap.get?_push_size _ rfl, rfl, rfl⟩, hl2⟩, fun b hb => ?_, (fun _ _ => intItems_at), fun h' tk t' hk => ?_⟩
  · show b < (s.heap.push _).objs.size
    rw [Heap.size_push]
    rcases List.mem_cons.mp hb with rfl | hb
    · exact Nat.lt_succ_self _
    · rcases List.mem_cons.mp hb with rfl | hb
      · exact Nat.lt_succ_of_lt hlt
      · cases hb
  · have := h h' tk t' fun b o e => hk b o (fun hm => by
      have : b = s.heap.objs.size := by simpa using hm
      exact absurd (this ▸ Heap.lt_size e) (Nat.lt_irrefl _)) (Heap.get?_push_of_some _ e)
    rw [preSum_eq, List.take_of_length_le (by simp [intItems]), hn]
    exact this
def rSumT (K : PySem.W.Frag) : List V → Hp → VK → Prop := fun vs H Q => ∃ (a : Addr) (ns : List Int), vs = [V.ref a] ∧ SqT K H a (ns.map V.int) ∧ Q (.int ns.sum) H
theorem cr_sumT {X : Cx} (hc : X.calm = true) : CallR X (.builtin "sum") (rSumT X.K) := by
  intro pins s σ H vs us Q I r h
  obtain ⟨a, ns, rfl, hs, q⟩ := h
  obtain ⟨its, rv, hl, _⟩ := I.tuple hs
  rw [Vals.ref1 r]
  exact sum_tup (I.ok.hd hc) hl rv.ints fun h' tk t' hk => ⟨.int _, H, I.kept hk, ⟨_, rfl⟩, q⟩
def dSumT (ds : List D) : Option A := (dints ds).map fun ns => .d (.int ns.sum)
def dSumX : List D → Option A
  | [.lst ds] => dSumT ds
  | [.tup ds] => dSumT ds
  | _ => none
theorem cl_sumX {c : Cc} {X : Cx} (hK : X.K = c.K) (hc : X.calm = true) : CallR X (.builtin "sum") (fun xs H Q => rSum c.K xs H Q ∨ rSumT c.K xs H Q) := by
  intro pins s σ H xs us Q I r h
  rcases h with h | h
  · exact cl_sum hK hc pins s σ H xs us Q I r h
  · exact (hK ▸ cr_sumT hc : CallR X (.builtin "sum") (rSumT c.K)) pins s σ H xs us Q I r h
theorem cs_sumX {c : Cc} : CaS c (fun xs H Q => rSum c.K xs H Q ∨ rSumT c.K xs H Q) dSumX := by
  intro H0 F H s ds xs z Q w hd hx hz q
  unfold dSumX at hz
  split at hz
  · exact .inl (cs_sum w hd hx hz q)
  · rename_i ds
    refine .inr ?_
    unfold dSumT at hz
    cases e : dints ds with
    | none => rw [e] at hz; cases hz
    | some ns =>
      rw [e] at hz
      cases hz
      obtain ⟨v, rfl, h⟩ := vwL1 hx
      obtain ⟨hl, p, vs, rfl, h1, r1⟩ := vw_tup w h
      rw [dints_map e] at r1
      rw [rpL_ints r1] at h1
      exact ⟨p, ns, rfl, h1, newS w ra_int q⟩
  · cases hz
end Mi
/-! own: list.sort with a key that gives pairs of ints, any number of items -/
namespace Ks
open PySem PyProof.Rows Srt SrtO
section
variable {prog : Program} {w : World} {A : Around} {E : Value → Shared → Prop} {s : Shared} {P : PySem.Fin → Shared → Prop}
/-- what the sort has made: the items by their keys, stable -/
def Made (kOf : Value → Int × Int) (keys : Array Value) (vs : List Value) (out : List Value) : Prop :=
  ∃ zs : List Keyed, Srtd (lt2 fun v u => lexB (kOf v) (kOf u)) zs ∧ Stb (lt2 fun v u => lexB (kOf v) (kOf u)) zs (keys.zip vs.toArray).toList ∧ out = zs.map (·.2)
theorem tailO {kS a : Addr} {keys : Array Value} {vs : List Value} {e e1 : Nat} {kOf : Value → Int × Int} {st : SortSt} (hks : keys.size = vs.length)
    (nk : s.heap.get? kS = some (seqObj "list" keys e)) (na : s.heap.get? a = some (seqObj "list" #[] e1)) (hka : kS ≠ a) (hz : vs.length ≤ sizeLine)
    (h1 : Srtd (lt2 fun v u => lexB (kOf v) (kOf u)) (arrOf st).toList) (h2 : Stb (lt2 fun v u => lexB (kOf v) (kOf u)) (arrOf st).toList (keys.zip vs.toArray).toList) (hf : failedOf st = none)
    (h : ∀ (h' : Heap) (out : Array Value) (c : Nat), (∀ b o, b ≠ kS → b ≠ a → s.heap.get? b = some o → h'.get? b = some o) → h'.get? a = some (seqObj "list" out c) → Made kOf keys vs out.toList → P (.done (.ret .none)) { s with heap := h' }) :
    wpAny (model prog w) A (ksk_tail a false e1 (.ref kS) st) P E s := by
  have hsz2 : (arrOf st).size = vs.length := by
    have ez : (keys.zip vs.toArray).size = vs.length := by rw [Array.size_zip, hks, List.size_toArray, Nat.min_self]
    have hl : (arrOf st).toList.length = (keys.zip vs.toArray).toList.length := h2.len
    rw [Array.length_toList, Array.length_toList, ez] at hl
    exact hl
  have hout : ((arrOf st).map (·.2)).size = vs.length := by rw [Array.size_map]; exact hsz2
  have s1 := Heap.SameBut.update s.heap kS (Obj.mapSeq fun _ => (#[] : Array Value))
  have na1 : (s.heap.update kS (Obj.mapSeq fun _ => (#[] : Array Value))).get? a = some (seqObj "list" #[] e1) := (s1.2 a hka.symm).trans na
  have s2 := Heap.SameBut.update (s.heap.update kS (Obj.mapSeq fun _ => (#[] : Array Value))) a (Obj.mapSeq fun _ => (arrOf st).map (·.2))
  obtain ⟨c2, hc2⟩ : ∃ c2, ((s.heap.update kS (Obj.mapSeq fun _ => (#[] : Array Value))).update a (Obj.mapSeq fun _ => (arrOf st).map (·.2))).get? a = some (seqObj "list" ((arrOf st).map (·.2)) c2) := ⟨_, get?_update_seq na1 fun _ => (arrOf st).map (·.2)⟩
  unfold ksk_tail
  try dsimp only
  refine wpAny_bind (listUpdate_at nk rfl ?_ (by rw [hks]; exact hz) (Nat.zero_le _))
  refine wpAny_bind (wpAny_letGo ?_)
  refine wpAny_bind (seqEpoch_at na1 rfl ?_)
  refine wpAny_bind (listUpdate_at na1 rfl ?_ (Nat.zero_le _) (Nat.le_trans (Nat.le_of_eq hout) (by omega)))
  rw [hf]
  simp only [bne_self_eq_false, Bool.false_eq_true, if_false]
  refine wpAny_pure (h _ _ c2 (fun b o h3 h4 q => ?_) hc2 ⟨(arrOf st).toList, h1, h2, by rw [Array.toList_map]⟩)
  rw [s2.2 b h4, s1.2 b h3]
  exact q
theorem endO {kS a : Addr} {keys : Array Value} {vs : List Value} {e e1 : Nat} {kOf : Value → Int × Int} (hks : keys.size = vs.length) (hp : ∀ v ∈ keys.toList, Srt.IsPair s.heap v (kOf v).1 (kOf v).2)
    (nk : s.heap.get? kS = some (seqObj "list" keys e)) (na : s.heap.get? a = some (seqObj "list" #[] e1)) (hka : kS ≠ a) (hz : vs.length ≤ sizeLine)
    (h : ∀ (h' : Heap) (out : Array Value) (c : Nat), (∀ b o, b ≠ kS → b ≠ a → s.heap.get? b = some o → h'.get? b = some o) → h'.get? a = some (seqObj "list" out c) → Made kOf keys vs out.toList → P (.done (.ret .none)) { s with heap := h' }) :
    wpAny (model prog w) A (ksk_end a false vs.toArray e1 (.ref kS) keys) P E s := by
  have hzs : (keys.zip vs.toArray).size = vs.length := by rw [Array.size_zip, hks, List.size_toArray, Nat.min_self]
  unfold ksk_end
  try dsimp only
  simp only [Bool.false_eq_true, if_false]
  by_cases h2 : vs.toArray.size < 2
  · rw [if_pos h2, if_pos h2]
    refine wpAny_bind (wpAny_pure ?_)
    rw [StateT.run_pure]
    refine wpAny_bind (wpAny_pure ?_)
    try dsimp only
    refine tailO (st := SortSt.mk' general' (keys.zip vs.toArray) #[] 7 none) hks nk na hka hz ?_ (Stb.refl _) rfl h
    rw [List.size_toArray] at h2
    have hl : (keys.zip vs.toArray).toList.length < 2 := by rw [Array.length_toList, hzs]; exact h2
    show Srtd _ (keys.zip vs.toArray).toList
    match (keys.zip vs.toArray).toList, hl with
    | [], _ => exact List.Pairwise.nil
    | [v], _ => exact List.pairwise_singleton _ _
    | _ :: _ :: l, h => exact absurd h (by rw [List.length_cons, List.length_cons]; omega)
  · rw [if_neg h2, if_neg h2]
    rw [List.size_toArray] at h2
    obtain ⟨κ, hkind, hT⟩ := pairs_sortableO (prog := prog) (w := w) (A := A) (s := s) (a := a) (vs := keys.toList) (k := kOf) (by rw [Array.length_toList]; omega) hp (fun o eo c => by
      rw [na] at eo
      cases eo
      exact absurd (Value.type.inj c) (by decide)) s.heap fun _ _ _ e => e
    rw [Array.toArray_toList] at hkind
    refine wpAny_bind (hkind _ _ ?_)
    have hall : AllL (fun p : Keyed => p.1 ∈ keys.toList) (keys.zip vs.toArray).toList := fun p hm => by
      rw [Array.toList_zip] at hm
      exact (List.of_mem_zip (show (p.1, p.2) ∈ _ from hm)).1
    refine wpAny_bind (wpAny_mono (wpS_sortO (st0 := SortSt.mk' κ (keys.zip vs.toArray) #[] 7 none)
      (Q := fun _ st' => Srtd (lt2 fun v u => lexB (kOf v) (kOf u)) (arrOf st').toList ∧ Stb (lt2 fun v u => lexB (kOf v) (kOf u)) (arrOf st').toList (keys.zip vs.toArray).toList ∧ failedOf st' = none) (swo2 (swo_lex kOf)) hT rfl hall rfl rfl fun st' a1 a2 a3 => ⟨a1, a2, a3⟩) ?_ fun _ _ e => e)
    rintro ⟨⟨⟩, st'⟩ s' ⟨rfl, hp1, hp2, hf⟩
    try dsimp only
    exact tailO hks nk na hka hz hp1 hp2 hf h
/-- the pair that stands at p -/
def PairO (p : Addr × Obj) (key : Value) (k : Int × Int) : Prop := key = .ref p.1 ∧ p.2.cls = .type "tuple" ∧ ∃ t u n, p.2.data = .seq #[.int k.1 t, .int k.2 u] n
theorem pairO {h : Heap} {p : Addr × Obj} {key : Value} {k : Int × Int} (x : PairO p key k) (e : h.get? p.1 = some p.2) : Srt.IsPair h key k.1 k.2 := by
  obtain ⟨e1, e2, t, u, n, e3⟩ := x
  exact ⟨p.1, p.2, t, u, n, e1, e, e2, e3⟩
theorem pairO_of {h : Heap} {key : Value} {k : Int × Int} (x : Srt.IsPair h key k.1 k.2) : ∃ p : Addr × Obj, PairO p key k ∧ h.get? p.1 = some p.2 := by
  obtain ⟨a, o, t, u, n, e1, e2, e3, e4⟩ := x
  exact ⟨(a, o), ⟨e1, e3, t, u, n, e4⟩, e2⟩
theorem pair_one {h : Heap} {v : Value} {x y x' y' : Int} (p : Srt.IsPair h v x y) (q : Srt.IsPair h v x' y') : x = x' ∧ y = y' := by
  obtain ⟨a, o, t, u, n, e1, e2, e3, e4⟩ := p
  obtain ⟨a', o', t', u', n', e1', e2', e3', e4'⟩ := q
  rw [e1] at e1'
  cases e1'
  rw [e2] at e2'
  cases e2'
  rw [e4] at e4'
  cases e4'
  exact ⟨rfl, rfl⟩
theorem restO {f : Value} {kS a : Addr} {vs : List Value} {e1 : Nat} {kz : List (Int × Int)} (Nw : Addr → Prop) (nwk : Nw kS) (nwa : Nw a) (Ok : Shared → Prop) (hlen : kz.length = vs.length) (hka : kS ≠ a) (hz : vs.length ≤ sizeLine)
    (okH : ∀ (s1 : Shared) (h' : Heap), Ok s1 → (∀ b o, b ≠ kS → b ≠ a → s1.heap.get? b = some o → h'.get? b = some o) → Ok { s1 with heap := h' })
    (nk : s.heap.get? kS = some (seqObj "list" #[] 0)) (na : s.heap.get? a = some (seqObj "list" #[] e1)) (o0 : Ok s)
    (turn : ∀ (i : Nat) (v : Value) (k : Int × Int), vs[i]? = some v → kz[i]? = some k → ∀ (s1 : Shared) (own : List (Addr × Obj)), Ok s1 → (∀ p ∈ own, s1.heap.get? p.1 = some p.2 ∧ Nw p.1 ∧ ∀ v, p.2.data ≠ .cell v) →
      wpAny (model prog w) A (call f [v]) (fun r s2 => Ok s2 ∧ (∀ p ∈ own, s2.heap.get? p.1 = some p.2) ∧ ∃ q : Addr × Obj, PairO q r k ∧ s2.heap.get? q.1 = some q.2 ∧ Nw q.1) (fun _ _ => False) s1)
    (h : ∀ (s' : Shared) (keys : Array Value) (kOf : Value → Int × Int) (out : Array Value) (c : Nat), Ok s' → s'.heap.get? a = some (seqObj "list" out c) → (∀ (i : Nat) (key : Value), keys[i]? = some key → kz[i]? = some (kOf key)) → keys.size = vs.length → Made kOf keys vs out.toList → P (.done (.ret .none)) s') :
    wpAny (model prog w) A (ksk_rest a f false vs.toArray e1 (.ref kS)) P E s := by
  unfold ksk_rest
  refine wpAny_bind (wpAny_rule ?_)
  first
    | rw [List.forIn_toArray]
    | (rw [← Array.forIn_toList]; simp only [List.toList_toArray])
    | rw [← Array.forIn_toList]
  refine wpAny_bind (ksk_fold (fun i s' => Ok s' ∧ ∃ (keys : Array Value) (e : Nat) (ps : List (Addr × Obj)), keys.size = i ∧ s'.heap.get? kS = some (seqObj "list" keys e) ∧ s'.heap.get? a = some (seqObj "list" #[] e1) ∧
      (∀ p ∈ ps, s'.heap.get? p.1 = some p.2 ∧ Nw p.1 ∧ ∀ v, p.2.data ≠ .cell v) ∧ (∀ p ∈ ps, p.1 ≠ kS ∧ p.1 ≠ a) ∧ ∀ j key, keys[j]? = some key → ∃ p ∈ ps, ∃ k, kz[j]? = some k ∧ PairO p key k) vs 0 s
    ⟨o0, #[], 0, [], rfl, nk, na, (fun _ h => nomatch h), (fun _ h => nomatch h), fun j key hk => (Nat.not_lt_zero _ (Array.getElem?_eq_some_iff.mp hk).1).elim⟩ ?step ?done)
  case step =>
    rintro j x s1 hx ⟨o1, keys, e, ps, hs, k1, a1, hp, hpn, hk⟩
    simp only [Nat.zero_add] at hs ⊢
    have hj : j < vs.length := (List.getElem?_eq_some_iff.mp hx).1
    obtain ⟨k, hkj⟩ : ∃ k, kz[j]? = some k := ⟨_, List.getElem?_eq_getElem (by omega)⟩
    refine wpAny_bind (wpAny_attempt (wpAny_mono (turn j x k hx hkj s1 ((kS, seqObj "list" keys e) :: (a, seqObj "list" #[] e1) :: ps) o1 fun p hm => ?_) (fun v s2 he => ?_) fun _ _ hF => hF.elim))
    · rcases List.mem_cons.mp hm with rfl | hm
      · exact ⟨k1, nwk, fun v z => by cases z⟩
      · rcases List.mem_cons.mp hm with rfl | hm
        · exact ⟨a1, nwa, fun v z => by cases z⟩
        · exact hp p hm
    · obtain ⟨o2, own2, q, hq1, hq2, hq3⟩ := he
      have k2 := own2 (kS, seqObj "list" keys e) (.head _)
      have a2 := own2 (a, seqObj "list" #[] e1) (.tail _ (.head _))
      have qk : q.1 ≠ kS := fun z => by
        rw [z, k2] at hq2
        have := hq1.2.1
        rw [← Option.some.inj hq2] at this
        exact absurd (Value.type.inj this) (by decide)
      have qa : q.1 ≠ a := fun z => by
        rw [z, a2] at hq2
        have := hq1.2.1
        rw [← Option.some.inj hq2] at this
        exact absurd (Value.type.inj this) (by decide)
      try dsimp only
      have sb := Heap.SameBut.update s2.heap kS (Obj.mapSeq (·.push v))
      obtain ⟨c2, hc2⟩ : ∃ c2, (s2.heap.update kS (Obj.mapSeq (·.push v))).get? kS = some (seqObj "list" (keys.push v) c2) := ⟨_, get?_update_seq k2 (·.push v)⟩
      refine wpAny_bind (listUpdate_at k2 rfl ?_ (by omega) (Nat.le_trans (Nat.le_of_eq (Array.size_push ..)) (by omega)))
      refine wpAny_pure ⟨rfl, okH s2 _ o2 (fun b o hb _ eo => (sb.2 b hb).trans eo), keys.push v, c2, q :: ps, by rw [Array.size_push, hs], hc2, (sb.2 a hka.symm).trans a2, fun p hm => ?_, fun p hm => ?_, fun i key hi => ?_⟩
      · rcases List.mem_cons.mp hm with rfl | hm
        · exact ⟨(sb.2 _ qk).trans hq2, hq3, fun v z => by
            obtain ⟨_, _, _, _, _, e⟩ := hq1
            rw [e] at z
            cases z⟩
        · exact ⟨(sb.2 _ (hpn p hm).1).trans (own2 p (.tail _ (.tail _ hm))), (hp p hm).2⟩
      · rcases List.mem_cons.mp hm with rfl | hm
        · exact ⟨qk, qa⟩
        · exact hpn p hm
      · rw [Array.getElem?_push] at hi
        split at hi
        · rename_i hi2
          cases hi
          exact ⟨q, .head _, k, by rw [hi2, hs]; exact hkj, hq1⟩
        · obtain ⟨p, hm, r⟩ := hk i key hi
          exact ⟨p, .tail _ hm, r⟩
  case done =>
    rintro s1 ⟨o1, keys, e, ps, hs, k1, a1, hp, hpn, hk⟩
    simp only [Nat.zero_add] at hs
    try dsimp only
    refine wpAny_bind (listItems_at k1 rfl ?_)
    have ex : ∀ v : Value, ∃ k : Int × Int, (∃ j : Nat, keys[j]? = some v) → Srt.IsPair s1.heap v k.1 k.2 := fun v => by
      by_cases c : ∃ j : Nat, keys[j]? = some v
      · obtain ⟨j, hj⟩ := c
        obtain ⟨p, hm, k, _, x⟩ := hk j v hj
        exact ⟨k, fun _ => pairO x (hp p hm).1⟩
      · exact ⟨(0, 0), fun z => absurd z c⟩
    refine endO (kOf := fun v => (ex v).choose) hs (fun v hv => ?_) k1 a1 hka hz fun h' out c keep ha hM => h _ keys _ out c (okH s1 h' o1 keep) ha (fun i key hi => ?_) hs hM
    · obtain ⟨j, hj⟩ := List.getElem?_of_mem hv
      exact (ex v).choose_spec ⟨j, by simpa using hj⟩
    · obtain ⟨p, hm, k, hkz, x⟩ := hk i key hi
      have y := (ex key).choose_spec ⟨i, hi⟩
      obtain ⟨z1, z2⟩ := pair_one (pairO x (hp p hm).1) y
      rw [hkz]
      exact congrArg some (Prod.ext z1 z2)

theorem sortO {f : Value} {a : Addr} {vs : List Value} {n : Nat} {kz : List (Int × Int)} (Nw : Addr → Prop) (nwk : Nw (s.heap.objs.size + 1)) (nwa : Nw a) (Ok : Shared → Prop) (hlen : kz.length = vs.length) (hz : vs.length ≤ sizeLine)
    (ho : s.heap.get? a = some (seqObj "list" vs.toArray n))
    (okB : ∀ h' : Heap, (∀ b o, b ≠ a → s.heap.get? b = some o → h'.get? b = some o) → Ok { s with heap := h' })
    (okH : ∀ (s1 : Shared) (h' : Heap), Ok s1 → (∀ b o, b ≠ s.heap.objs.size + 1 → b ≠ a → s1.heap.get? b = some o → h'.get? b = some o) → Ok { s1 with heap := h' })
    (turn : ∀ (i : Nat) (v : Value) (k : Int × Int), vs[i]? = some v → kz[i]? = some k → ∀ (s1 : Shared) (own : List (Addr × Obj)), Ok s1 → (∀ p ∈ own, s1.heap.get? p.1 = some p.2 ∧ Nw p.1 ∧ ∀ v, p.2.data ≠ .cell v) →
      wpAny (model prog w) A (call f [v]) (fun r s2 => Ok s2 ∧ (∀ p ∈ own, s2.heap.get? p.1 = some p.2) ∧ ∃ q : Addr × Obj, PairO q r k ∧ s2.heap.get? q.1 = some q.2 ∧ Nw q.1) (fun _ _ => False) s1)
    (h : ∀ (s' : Shared) (keys : Array Value) (kOf : Value → Int × Int) (out : Array Value) (c : Nat), Ok s' → s'.heap.get? a = some (seqObj "list" out c) → (∀ (i : Nat) (key : Value), keys[i]? = some key → kz[i]? = some (kOf key)) → keys.size = vs.length → Made kOf keys vs out.toList → P (.done (.ret .none)) s') :
    wpAny (model prog w) A (ksk_tree a f false) P E s := by
  have ha : a < s.heap.objs.size := Heap.lt_size ho
  have s1 := Heap.SameBut.update s.heap a (Obj.mapSeq fun _ => (#[] : Array Value))
  obtain ⟨e1, ho1⟩ : ∃ e1, (s.heap.update a (Obj.mapSeq fun _ => (#[] : Array Value))).get? a = some (seqObj "list" #[] e1) := ⟨_, get?_update_seq ho fun _ => #[]⟩
  have hkS : ((s.heap.update a (Obj.mapSeq fun _ => (#[] : Array Value))).push (seqObj "tuple" vs.toArray 0)).objs.size = s.heap.objs.size + 1 := by rw [size_push', Heap.size_update]
  unfold ksk_tree
  refine wpAny_bind (listItems_at ho rfl ?_)
  refine wpAny_bind (listUpdate_at ho rfl ?_ (by rw [List.size_toArray]; exact hz) (Nat.zero_le _))
  refine wpAny_bind (seqEpoch_at ho1 rfl ?_)
  refine wpAny_bind (wpAny_newTuple ?_ (by show vs.length ≤ _; exact hz))
  refine wpAny_bind (wpAny_newList ?_ (Nat.zero_le _))
  refine wpAny_holding ?_
  refine restO (s := { s with heap := ((s.heap.update a (Obj.mapSeq fun _ => (#[] : Array Value))).push (seqObj "tuple" vs.toArray 0)).push (seqObj "list" #[] 0) }) (kS := ((s.heap.update a (Obj.mapSeq fun _ => (#[] : Array Value))).push (seqObj "tuple" vs.toArray 0)).objs.size)
    Nw (by rw [hkS]; exact nwk) nwa Ok hlen (by rw [hkS]; exact Nat.ne_of_gt (Nat.lt_succ_of_lt ha)) hz (by rw [hkS]; exact okH) (Heap.get?_push_size _ rfl) (Heap.get?_push_of_some _ (Heap.get?_push_of_some _ ho1))
    (okB _ fun b o hb eo => Heap.get?_push_of_some _ (Heap.get?_push_of_some _ ((s1.2 b hb).trans eo))) turn h
end

section
variable {prog : Program} {w : World} {A : Around} {E : Value → Shared → Prop} {s : Shared} {Q : Value → Shared → Prop}

/-- `sorted(arg, key=f)` where the keys are pairs of ints: V says what the items taken from `arg` are. -/
theorem sortedO {f arg : Value} {kw : List (Str × Value)} {kz : List (Int × Int)} (V : List Value → Prop) (Ok : Shared → Prop) (hlen : ∀ vs, V vs → kz.length = vs.length) (hz : ∀ vs, V vs → vs.length ≤ sizeLine)
    (hcol : ∀ (Q : List Value → Shared → Prop) (E' : Value → Shared → Prop), (∀ (h' : Heap) (tk : Nat) (vs : List Value), (∀ b o, s.heap.get? b = some o → h'.get? b = some o) → V vs → Q vs { s with heap := h', toks := tk }) → wpAny (model prog w) A.in1 (collect arg) Q E' s)
    (ha1 : argsOk "sorted" ⟨[arg], kw⟩) (ha2 : ∀ x, argsOk "list.sort" ⟨[.ref x], kw⟩) (ht : ∀ x, Builtin.«list.sort» ⟨[.ref x], kw⟩ = ksk_tree x f false)
    (okB : ∀ (h' : Heap) (tk : Nat), (∀ b o, s.heap.get? b = some o → h'.get? b = some o) → Ok { s with heap := h', toks := tk })
    (okH : ∀ (s1 : Shared) (h' : Heap), Ok s1 → (∀ b o, (∃ o0, s.heap.get? b = some o0) → s1.heap.get? b = some o → h'.get? b = some o) → Ok { s1 with heap := h' })
    (turn : ∀ (vs : List Value) (i : Nat) (v : Value) (k : Int × Int), V vs → vs[i]? = some v → kz[i]? = some k → ∀ (s1 : Shared) (own : List (Addr × Obj)), Ok s1 → (∀ p ∈ own, s1.heap.get? p.1 = some p.2 ∧ s.heap.get? p.1 = none ∧ ∀ v, p.2.data ≠ .cell v) →
      wpAny (model prog w) A.in1.in1 (call f [v]) (fun r s2 => Ok s2 ∧ (∀ p ∈ own, s2.heap.get? p.1 = some p.2) ∧ ∃ q : Addr × Obj, PairO q r k ∧ s2.heap.get? q.1 = some q.2 ∧ s.heap.get? q.1 = none) (fun _ _ => False) s1)
    (h : ∀ (D : Addr) (s' : Shared) (vs : List Value) (keys : Array Value) (kOf : Value → Int × Int) (out : Array Value) (c : Nat), V vs → s.heap.get? D = none → Ok s' → s'.heap.get? D = some (seqObj "list" out c) →
      (∀ (i : Nat) (key : Value), keys[i]? = some key → kz[i]? = some (kOf key)) → keys.size = vs.length → Made kOf keys vs out.toList → Q (.ref D) s') :
    wpAny (model prog w) A (call (.builtin "sorted") [arg] kw) Q E s := by
  refine call_function_entry_kw kind_sorted plain_sorted entry_sorted ha1 ?_
  unfold Builtin.«sorted»
  refine wpAny_bind (m := checkCount "sorted" 1 1 _) (wpAny_pure ?_)
  refine wpAny_bind (hcol _ _ fun h1 tk vs keep hV => ?_)
  have le : ∀ b o, s.heap.get? b = some o → b < h1.objs.size := fun b o eo => Heap.lt_size (keep b o eo)
  have fresh : ∀ b, h1.objs.size ≤ b → s.heap.get? b = none := fun b hb => Option.eq_none_iff_forall_ne_some.mpr fun o eo => Nat.lt_irrefl _ (Nat.lt_of_lt_of_le (le b o eo) hb)
  refine wpAny_bind (wpAny_newList ?_ (hz vs hV))
  have hoL : (h1.push (seqObj "list" vs.toArray 0)).get? h1.objs.size = some (seqObj "list" vs.toArray 0) := Heap.get?_push_size _ rfl
  refine wpAny_bind (wpAny_holding (wpAny_call_entry_kw slot_list_sort ⟨_, hoL, rfl⟩ entry_list_sort ?body (ha2 _)))
  case body =>
    have ht' := ht h1.objs.size
    show wpAny (model prog w) A.in1.in1 (Builtin.«list.sort» ⟨[.ref h1.objs.size], kw⟩) _ _ _
    rw [ht']
    refine sortO (s := { s with heap := h1.push (seqObj "list" vs.toArray 0), toks := tk }) (n := 0) (fun b => s.heap.get? b = none) (fresh _ (Nat.le_trans (Nat.le_succ _) (by show h1.objs.size + 1 ≤ (h1.push (seqObj "list" vs.toArray 0)).objs.size + 1; rw [size_push']; exact Nat.le_succ _))) (fresh _ (Nat.le_refl _)) Ok (hlen vs hV) (hz vs hV) hoL
      (fun h' k => okB h' tk fun b o eo => k b o (Nat.ne_of_lt (le b o eo)) (Heap.get?_push_of_some _ (keep b o eo)))
      (fun s1 h' o1 k => okH s1 h' o1 fun b o ⟨o0, hb⟩ eo => k b o (Nat.ne_of_lt (by
        have := le b o0 hb
        show b < (h1.push (seqObj "list" vs.toArray 0)).objs.size + 1
        rw [size_push']; exact Nat.lt_succ_of_lt (Nat.lt_succ_of_lt this))) (Nat.ne_of_lt (le b o0 hb)) eo)
      (fun i v k => turn vs i v k hV) fun s' keys kOf out c o' l1 hk hs hM => ⟨_, rfl, ?_⟩
    exact wpAny_pure ⟨_, rfl, h _ s' vs keys kOf out c hV (Option.eq_none_iff_forall_ne_some.mpr fun o eo => Nat.lt_irrefl _ (le _ o eo)) o' l1 hk hs hM⟩

/-- the same in plain pairs: the key of each item beside it -/
theorem Made.pairs {kOf : Value → Int × Int} {keys : Array Value} {vs out : List Value} {kz : List (Int × Int)} (hks : keys.size = vs.length) (hl : kz.length = vs.length)
    (hk : ∀ (i : Nat) (key : Value), keys[i]? = some key → kz[i]? = some (kOf key)) (m : Made kOf keys vs out) :
    ∃ zs : List ((Int × Int) × Value), zs.Perm (kz.zip vs) ∧ out = zs.map Prod.snd ∧ zs.Pairwise (fun p q => lexB q.1 p.1 = false) := by
  obtain ⟨zs, h1, h2, rfl⟩ := m
  have ek : keys.toList.map kOf = kz := by
    refine List.ext_getElem? fun i => ?_
    rw [List.getElem?_map]
    by_cases c : i < keys.size
    · have e : keys[i]? = some keys[i] := Array.getElem?_eq_getElem c
      rw [hk i _ e, Array.getElem?_toList, e]; rfl
    · rw [List.getElem?_eq_none (by rw [Array.length_toList]; omega), List.getElem?_eq_none (by omega)]; rfl
  refine ⟨zs.map fun p => (kOf p.1, p.2), ?_, by rw [List.map_map]; rfl, ?_⟩
  · have := h2.perm.map fun p : Keyed => (kOf p.1, p.2)
    rw [ksk_zip] at this
    refine this.trans (List.Perm.of_eq ?_)
    rw [← ek, List.zip_map_left]
    rfl
  · exact List.pairwise_map.mpr h1
theorem Made.perm {kOf : Value → Int × Int} {keys : Array Value} {vs out : List Value} (hks : keys.size = vs.length) (m : Made kOf keys vs out) : out.Perm vs := by
  obtain ⟨zs, h1, h2, rfl⟩ := m
  have := h2.perm.map fun p : Keyed => p.2
  rw [ksk_zip] at this
  refine this.trans (List.Perm.of_eq ?_)
  exact List.map_snd_zip (by show vs.length ≤ keys.size; rw [hks]; exact Nat.le_refl _)

/-- how a range is collected, in the form that sortedO asks -/
theorem col_range {prog : Program} {w : World} {A : Around} {s : Shared} {r : Addr} {a b c : Int} {t u v : Tok} {n : Nat} (hh : A.in1.handled = none) (hr : IsRange s.heap r a b c t u v) (hsmall : Builtin.Range.small a b c = true) (hn : Builtin.Range.rangeSize a b c = n) (hlen : n ≤ 2 ^ 24)
    (Q : List Value → Shared → Prop) (E' : Value → Shared → Prop) (h : ∀ (h' : Heap) (tk : Nat) (vs : List Value), (∀ b o, s.heap.get? b = some o → h'.get? b = some o) → ItemsOf (fun i v => ∃ t, v = .int (a + i * c) t) vs.toArray n → Q vs { s with heap := h', toks := tk }) :
    wpAny (model prog w) A.in1 (collect (.ref r)) Q E' s :=
  L2.collect_range hh hr hsmall hn hlen fun h' tk acc keep it => h h' tk acc.toList keep it
end
end Ks
/-! own: sorted(range(..), key=lambda x: (.., ..)) -/
namespace Kl
open PySem PySem.Spec PyProof.Rows L2 LamX Ks SrtO
theorem objOk_there {P : Program} {w : World} {H : Hp} {h : Heap} {a : Addr} {o : HO} (x : ObjOk P w H h a o) : ∃ u, h.get? a = some u := by
  cases o with
  | lst xs => obtain ⟨_, _, _, _, e⟩ := x; exact ⟨_, e⟩
  | tup xs => obtain ⟨_, _, _, _, e, _⟩ := x; exact ⟨_, e⟩
  | dK kvs => obtain ⟨_, _, _, _, o, _, _, e, _⟩ := x; exact ⟨_, e⟩
  | dT kvs => obtain ⟨_, _, _, _, o, _, _, e, _⟩ := x; exact ⟨_, e⟩
  | set S n => obtain ⟨o, _, _, _, e, _⟩ := x; exact ⟨_, e⟩
  | ins C dx fs => obtain ⟨_, _, _, e, _⟩ := x; exact ⟨_, e⟩
  | own y => exact x
  | xd fs => obtain ⟨_, ⟨_, _, _, e, _⟩, _⟩ := x; exact ⟨_, e⟩
  | rng lo hi => obtain ⟨_, _, _, e⟩ := x; exact ⟨_, e⟩
  | frz ob u => exact ⟨_, x.1⟩
  | tbl ps => exact ⟨_, x⟩
  | met f y => exact ⟨_, x⟩
  | ext φ => exact x.2.1
theorem nil_of {P : Program} {w : World} {H : Hp} {h : Heap} {b : Addr} (x : HOk P w H h) (z : h.get? b = none) : H b = none := by
  cases q : H b with
  | none => rfl
  | some o =>
    obtain ⟨u, e⟩ := objOk_there (x b o q)
    rw [z] at e
    cases e
/-- one parameter, captured names and globals -/
structure LamS1 (sc scope : Scope) (x : Str) : Prop where
  kind : scope.kind = .function
  co : scope.isCoroutine = false
  gen : scope.isGenerator = false
  par : scope.names.lookup x = some .local
  cell : ∀ y ∈ scope.names, y.2 ≠ .cell
  own : ∀ y ∈ scope.names, y.2 = .local → y.1 = x
  free : ∀ y ∈ scope.names, y.2 = .free → sc.names.lookup y.1 = some .cell ∨ sc.names.lookup y.1 = some .free
def lamS1B (sc scope : Scope) (x : Str) : Bool :=
  decide (scope.kind = .function) && !scope.isCoroutine && !scope.isGenerator && decide (scope.names.lookup x = some .local) && scope.names.all fun y => !decide (y.2 = .cell) && (!decide (y.2 = .local) || decide (y.1 = x)) && (!decide (y.2 = .free) || decide (sc.names.lookup y.1 = some .cell) || decide (sc.names.lookup y.1 = some .free))
theorem lamS1_by {sc scope : Scope} {x : Str} (h : lamS1B sc scope x = true) : LamS1 sc scope x := by
  unfold lamS1B at h
  simp only [Bool.and_eq_true, Bool.or_eq_true, Bool.not_eq_true', decide_eq_true_eq, decide_eq_false_iff_not, List.all_eq_true] at h
  obtain ⟨⟨⟨⟨h1, h2⟩, h3⟩, h4⟩, h5⟩ := h
  refine ⟨h1, h2, h3, h4, fun y hy => (h5 y hy).1.1, fun y hy e => ?_, fun y hy e => ?_⟩
  · rcases (h5 y hy).1.2 with z | z
    · exact absurd e z
    · exact z
  · rcases (h5 y hy).2 with (z | z) | z
    · exact absurd e z
    · exact .inl z
    · exact .inr z
theorem LamS1.has {X : Cx} {scope : Scope} {x : Str} (L : LamS1 X.env.scope scope x) (ok : X.Ok) : ∀ y ∈ scope.names, y.2 = .free → ∃ c, X.env.cells.lookup y.1 = some c := fun y hy e => by
  rcases L.free y hy e with k | k
  · exact ok.has _ (.inl k)
  · exact ok.has _ (.inr k)
/-- the maker's slots as the lambda sees them: its parameter hides one -/
def lamSt (x : Str) (N : List Str) (σ : L2.St) : L2.St := List.zipWith (fun y o => if y = x then none else o) N σ
theorem lamSt_at {x : Str} {N : List Str} {σ : L2.St} {i : Nat} {y : Str} (hN : N[i]? = some y) (hy : y ≠ x) : (lamSt x N σ)[i]? = σ[i]? := by
  unfold lamSt
  rw [List.getElem?_zipWith, hN]
  cases σ[i]? with
  | none => rfl
  | some o => show some (if y = x then none else o) = _; rw [if_neg hy]
theorem lamSt_some {x : Str} {N : List Str} {σ : L2.St} {i : Nat} {y : Str} {v : V} (hN : N[i]? = some y) (h : (lamSt x N σ)[i]? = some (some v)) : y ≠ x ∧ σ[i]? = some (some v) := by
  by_cases hy : y = x
  · unfold lamSt at h
    rw [List.getElem?_zipWith, hN] at h
    cases q : σ[i]? with
    | none => rw [q] at h; cases h
    | some o =>
      rw [q] at h
      have h : some (if y = x then none else o) = some (some v) := h
      rw [if_pos hy] at h
      cases h
  · exact ⟨hy, by rw [lamSt_at hN hy] at h; exact h⟩
/-- the context of its body, entered at s from the frames outer -/
def lamCx1 (X : Cx) (A : Around) (outer : List Env) (s : Shared) (H : Hp) (scope : Scope) (f c' : Addr) (x : Str) : Cx where
  prog := X.prog
  w := X.w
  K := X.K
  mg := X.mg
  base := X.base
  A := A.deeper (lamEnv X scope s.heap.objs.size f c')
  N := x :: X.N
  s_0 := s
  H_0 := H
  env := lamEnv X scope s.heap.objs.size f c'
  outer := outer
  stack := lamEnv X scope s.heap.objs.size f c' :: outer
  ex := []
  fn := fun _ => false
  calm := true
  pn := []
  xe := fun _ _ => False
section
variable {X : Cx} {pins : List (Addr × Obj)} {σ : L2.St} {H : Hp} {s s1 : Shared}
theorem lam_start1 {A : Around} {outer : List Env} {scope : Scope} {f c' : Addr} {h₁ : Heap} {tk : Nat} {x : Str} {u : Value} {v : V} {own : List (Addr × Obj)} (I : Inv X pins σ H s) (L : LamS1 X.env.scope scope x) (e0 : Env0 X.prog X.w X.K X.mg X.base A outer s1 H) (hd : A.handled = none)
    (un : Un (frs X.stack) [] H H s.heap s1.heap) (hns : h₁.Ns s1.heap.objs.size fun y => ([(x, u)] : List (Str × Value)).reverse.lookup y) (kp : ∀ b o, s1.heap.get? b = some o → h₁.get? b = some o) (rv : RelV v u)
    (hown : ∀ p ∈ own, s1.heap.get? p.1 = some p.2 ∧ H p.1 = none ∧ p.1 ∉ frs outer ∧ ∀ v, p.2.data ≠ .cell v) :
    Inv (lamCx1 X A outer s1 H scope f c' x) own (some v :: lamSt x X.N σ) H { s1 with heap := h₁, toks := tk } := by
  have hfree := L.has I.ok
  have cm : ∀ {y c}, (cloFrom X.env.cells scope.names []).lookup y = some c → X.env.cells.lookup y = some c := fun {y c} e => by
    rcases cloFrom_mem (PySem.mem_of_lookup e) with hm | ⟨h1, h2⟩
    · cases hm
    · obtain ⟨c1, hc⟩ := hfree _ h1 rfl
      have hc : X.env.cells.lookup y = some c1 := hc
      have e2 : c = c1 := by
        rw [h2, hc] <;> rfl
      rw [e2]
      exact hc
  have look : ∀ {y}, scope.names.lookup y = some .free → ∃ c, (cloFrom X.env.cells scope.names []).lookup y = some c := fun {y} hl => by
    have hy : (y, NameKind.free) ∈ scope.names := PySem.mem_of_lookup hl
    exact mem_lookup (cloFrom_has (cells := X.env.cells) (acc := []) hy)
  have cellK : ∀ {c : Addr} {v : Option Value}, H c = none → s.heap.IsCell c v → h₁.IsCell c v := fun {c v} n ⟨o, ho, hd⟩ => by
    obtain ⟨sl, q⟩ := un.any ho n (by simp)
    exact ⟨_, kp _ _ q, hd⟩
  have noA : ∀ b : Addr, b ∉ (lamCx1 X A outer s1 H scope f c' x).ex := fun b z => absurd (show b ∈ ([] : List Addr) from z) (by simp)
  refine ⟨⟨e0.mod, L.kind, rfl, rfl, Nat.le_refl _, fun y z c e1 e2 => I.ok.inj y z c (cm e1) (cm e2), fun y hy => ?_, fun y c z _ => ?_, fun _ => hd, Around.frames_deeper e0.frames, .inr ⟨rfl, rfl⟩, fun b z => absurd z (noA b), e0.bs, e0.bsz, fun b _ _ => noA b,
      fun b z => absurd z (noA b), e0.funs, e0.frf⟩,
    rfl, e0.bare, Un.kept kp, ⟨_, hns, fun i y v e1 e2 e3 => ?_⟩, fun y c e => ?_, e0.hok.fresh (Nat.le_refl _), fun y c e => ?_, fun q hq => ?_, e0.hok.kept kp, ?_⟩
  · have hy : scope.names.lookup y = some .cell ∨ scope.names.lookup y = some .free := hy
    rcases hy with hy | hy
    · exact absurd rfl (L.cell _ (PySem.mem_of_lookup hy))
    · exact look hy
  · have z : false = true := z
    cases z
  · have e3 : Vis scope y := e3
    cases i with
    | zero =>
      have e1 : x = y := Option.some.inj e1
      subst e1
      have e2 := Option.some.inj (Option.some.inj e2)
      subst e2
      exact ⟨u, rv, .inl ⟨L.par, by simp [List.lookup]⟩⟩
    | succ i =>
      have e1 : X.N[i]? = some y := e1
      obtain ⟨yx, e2⟩ := lamSt_some e1 (show (lamSt x X.N σ)[i]? = some (some v) from e2)
      rcases e3 with k | k | k
      · exact absurd (L.own _ (PySem.mem_of_lookup k) rfl) yx
      · exact absurd rfl (L.cell _ (PySem.mem_of_lookup k))
      · obtain ⟨m, hn, hl⟩ := I.loc
        have hvis : Vis X.env.scope y := (L.free _ (PySem.mem_of_lookup k) rfl).elim (fun k => .inr (.inl k)) (fun k => .inr (.inr k))
        obtain ⟨w', r, q⟩ := hl i y v e1 e2 hvis
        obtain ⟨c2, h2⟩ := look k
        refine ⟨w', r, .inr ⟨.inr k, c2, h2, ?_⟩⟩
        have c1 := cm h2
        rcases q with ⟨k', _⟩ | ⟨_, c3, e', z⟩
        · have k' : X.env.scope.names.lookup y = some .local := k'
          rcases L.free _ (PySem.mem_of_lookup k) rfl with k2 | k2 <;> rw [show X.env.scope.names.lookup y = _ from k2] at k' <;> cases k'
        · rw [c1] at e'
          cases e'
          exact cellK (I.freeC y _ c1) z
  · obtain ⟨w', z⟩ := I.cell y c (cm e)
    exact ⟨w', cellK (I.freeC y c (cm e)) z⟩
  · obtain ⟨v, o, ho, hd⟩ := I.cell y c (cm e)
    exact un.free c o ho (I.freeC y c (cm e)) (by simp)
  · have hq : q ∈ own := by simpa using (show q ∈ ([] : List (Addr × Obj)) ++ own from hq)
    obtain ⟨a1, a2, a3, a4⟩ := hown q hq
    exact ⟨kp _ _ a1, a2, Nat.ne_of_lt (Heap.lt_size a1), a3, a4⟩
  · show (some v :: lamSt x X.N σ).length = (x :: X.N).length
    have := I.len
    unfold lamSt
    rw [List.length_cons, List.length_cons, List.length_zipWith, this, Nat.min_self]
/-- what the sort keeps -/
def OkS (X : Cx) (H : Hp) (s s1 : Shared) : Prop := s1.os = s.os ∧ AllBare s1.gens ∧ Un (frs X.stack) [] H H s.heap s1.heap ∧ HOk X.prog X.w H s1.heap
theorem OkS.inv {X : Cx} {pins : List (Addr × Obj)} {σ : L2.St} {H : Hp} {s s1 : Shared} (I : Inv X pins σ H s) (o : OkS X H s s1) : Inv X pins σ H s1 := by
  obtain ⟨a, b, c, d⟩ := o
  exact I.call' a c d b (fun b z => nomatch z)
/-- one call of the key -/
theorem lam_turn {scope : Scope} {params : Arguments} {f c' : Addr} {pm ctv : Value} {x : Str} {e1 e2 : Expr} {t : TA} {k : Nat} {x1 : _} {bpos : Pos} {u : Value} {n key1 key2 : Int} (I : Inv X pins σ H s) (L : LamS1 X.env.scope scope x) (hr : Room (k + 1) X.A) (hd : X.A.handled = none)
    (hf : s.heap.get? f = some (PySem.W.kla_obj "<lambda>" (X.env.qual ++ "<lambda>") params (.Tuple [e1, e2] x1 bpos) scope (cloFrom X.env.cells scope.names []) pm c' ctv)) (hfn : H f = none) (hfr : f ∉ frs X.stack) (hc : H c' = some (CodeO c' (X.env.qual ++ "<lambda>")))
    (hbind : ∀ u, bindArgs (PySem.W.kla_fn "<lambda>" (X.env.qual ++ "<lambda>") params (.Tuple [e1, e2] x1 bpos) scope (cloFrom X.env.cells scope.names []) pm (.ref c') ctv) ⟨[u], []⟩ = pure [(x, u)])
    (ht : ∀ (A : Around) (outer : List Env) (s1 : Shared), PA (lamCx1 X A outer s1 H scope f c' x) [e1, e2] t) (hu : RelV (.int n) u) (hq : t (some (.int n) :: lamSt x X.N σ) H (fun vs H' => H' = H ∧ vs = [.int key1, .int key2]))
    {s1 : Shared} {own : List (Addr × Obj)} (o1 : OkS X H s s1) (hown : ∀ p ∈ own, s1.heap.get? p.1 = some p.2 ∧ s.heap.get? p.1 = none ∧ ∀ v, p.2.data ≠ .cell v) :
    wpAny (model X.prog X.w) X.A.in1.in1 (call (.ref f) [u]) (fun r s2 => OkS X H s s2 ∧ (∀ p ∈ own, s2.heap.get? p.1 = some p.2) ∧ ∃ q : Addr × Obj, PairO q r (key1, key2) ∧ s2.heap.get? q.1 = some q.2 ∧ s.heap.get? q.1 = none) (fun _ _ => False) s1 := by
  have I1 := o1.inv I
  have un := o1.2.2.1
  have of1 := un.keep f _ hf hfn hfr (by simp)
  obtain ⟨⟨oc, vs, tq, hoc, hdc, hvc⟩, _, _⟩ := I1.hok c' _ hc
  have e0 : Env0 X.prog X.w X.K X.mg X.base X.A.in1.in1 X.stack s1 H := I1.env0.in1.in1
  have nH : ∀ b, s.heap.get? b = none → H b = none := fun b z => nil_of I.hok z
  have nF : ∀ b, s.heap.get? b = none → b ∉ frs X.stack := fun b z hb => by
    obtain ⟨_, o, ho, _⟩ := I.stack.mem hb
    rw [z] at ho
    cases ho
  refine wpAny_call (PySem.W.kla_callFunE hr.depth of1 rfl L.co L.gen rfl ⟨c', oc, vs, tq, rfl, hoc, hdc, hvc⟩ ?_)
  rw [hbind u]
  refine wpAny_pure (wpAny_newFunctionEnv L.cell (fun y hy => ?_) (fun h₁ hns hsb => ⟨I1.nolimit.fresh _ hsb, ?_⟩) L.kind)
  · obtain rfl : y = (x, u) := by simpa using hy
    exact L.par
  show codeAny _ _ (.expr _ (lamEnv X scope s1.heap.objs.size f c')) _ _
  have kp : ∀ b o, s1.heap.get? b = some o → h₁.get? b = some o := fun b o e => hsb.extBut b o (Nat.ne_of_lt (Heap.lt_size e)) (Heap.get?_push_of_some _ e)
  have J : Inv (lamCx1 X X.A.in1.in1 X.stack s1 H scope f c' x) own (some (.int n) :: lamSt x X.N σ) H { s1 with heap := h₁, toks := s1.toks + ([(x, u)] : List (Str × Value)).length } :=
    lam_start1 I L e0 hd un hns kp hu fun p hp => ⟨(hown p hp).1, nH _ (hown p hp).2.1, nF _ (hown p hp).2.1, (hown p hp).2.2⟩
  refine PySem.W.kla_codeExpr (wpAny_mono (wpAny_Tuple_spliced (thn ((ht _ _ s1).run bpos own _ _ H _ J hq) fun us s2 ⟨xs, H2, J2, r2, eH, ex⟩ => ?_)) (fun _ _ z => z) fun _ _ z => z.elim)
  · subst eH
    subst ex
    obtain ⟨u1, u2, rfl, ⟨t1, rfl⟩, ⟨t2, rfl⟩⟩ := vals2 r2
    refine ⟨by show 2 ≤ sizeLine; decide, ⟨J2.os.trans o1.1, J2.bare, un.trans ((J2.base : Un _ _ _ _ s1.heap s2.heap).trans (Un.kept fun b o e => Heap.get?_push_of_some _ e)), J2.hok.kept fun b o e => Heap.get?_push_of_some _ e⟩, fun p hp => Heap.get?_push_of_some _ (J2.pin p (List.mem_append_right _ hp)).1,
      (s2.heap.objs.size, _), ⟨rfl, rfl, t1, t2, _, rfl⟩, Heap.get?_push_size _ rfl, Option.eq_none_iff_forall_ne_some.mpr fun o eo => ?_⟩
    obtain ⟨o', e1⟩ := un.there _ o eo (by simp)
    obtain ⟨o2, e2⟩ := (J2.base : Un _ _ _ _ s1.heap s2.heap).there _ o' e1 (by exact fun z => nomatch z)
    exact Nat.lt_irrefl _ (Heap.lt_size e2)
end
end Kl
namespace Kl
open PySem PySem.Spec PyProof.Rows L2 LamX Ks SrtO
section
variable {X : Cx} {pins : List (Addr × Obj)} {σ : L2.St} {H : Hp} {s : Shared}
/-- how the making of a lambda changes what is tracked -/
def LamTo (P : Addr) (q : Str) (H : Hp) (k : Addr) (G : Hp) : Prop := G = H ∨ ∃ zs : Array Value, H k = none ∧ G = upd (upd H P (.tbl zs)) k (CodeO k q)
theorem LamTo.ext {P k : Addr} {q : Str} {G : Hp} {ps : Array Value} (l : LamTo P q H k G) (hP : H P = some (.tbl ps)) : ExtN H G := by
  rcases l with rfl | ⟨zs, n, rfl⟩
  · exact ExtN.refl _
  · intro b o e nt
    rw [upd_ne (ne_of_none e n), upd_ne (fun z => nt ps (Option.some.inj (e.symm.trans (by rw [z]; exact hP))))]
    exact e
/-- own way to it: the change is told -/
theorem lam_mk {kc P : Addr} {ps : Arguments} {bd : Expr} {sc : Scope} {at' : Pos} {E : Value → Shared → Prop} {R : Value → Shared → Prop} (I : Inv X pins σ H s) (TB : TabB X.base X.mg kc P) (hk : X.env.code = .ref kc)
    (tS : TabS H P (X.env.qual ++ "<lambda>")) (d0 : defaultsOf ps X.env = ([], [])) (fr : ∀ y ∈ sc.names, y.2 = .free → ∃ c, X.env.cells.lookup y.1 = some c)
    (h : ∀ (f k : Addr) (pm tv : Value) (G : Hp) (s2 : Shared), Inv X pins σ G s2 → LamTo P (X.env.qual ++ "<lambda>") H k G → TabS G P (X.env.qual ++ "<lambda>") →
      s2.heap.get? f = some (PySem.W.kla_obj "<lambda>" (X.env.qual ++ "<lambda>") ps bd sc (cloFrom X.env.cells sc.names []) pm k tv) → G f = none → f ∉ frs X.stack → f ≠ X.env.locals → G k = some (CodeO k (X.env.qual ++ "<lambda>")) → R (.ref f) s2) :
    wpAny (model X.prog X.w) X.A (eval (.Lambda ps bd sc at') X.env) R E s := by
  obtain ⟨zs, tP, tT, tC⟩ := tS
  have oP := I.hok P _ tP
  have cl := closure_ok fr
  have far : ∀ f, s.heap.objs.size ≤ f → f ∉ frs X.stack ∧ f ≠ X.env.locals := fun f hf => by
    have n1 : f ≠ X.env.locals := fun z => by
      rw [z] at hf
      exact Nat.lt_irrefl _ (Nat.lt_of_lt_of_le I.lt hf)
    exact ⟨fun z => (List.mem_cons.mp (I.stkSub _ z)).elim n1 (I.nofs hf), n1⟩
  refine PySem.W.kla_eval d0 ?_
  cases am : codeAmong at' zs.toList with
  | some cv =>
    obtain ⟨k, rfl, co⟩ := tC at' cv am
    refine PySem.W.kla_makeFunctionHit (mg := X.mg) (c := kc) (P := P) (ps := zs) cl I.ok.glob (I.mod.glob.keeps I.bk) hk (TB.code.keeps I.bk) oP tT am (TB.bm.keeps I.bk) fun tv g tk kx sx => ?_
    refine h g.objs.size k ((X.mg "__name__").getD .none) tv H _ (I.kept fun b o e => Heap.get?_push_of_some _ (kx b o e)) (.inl rfl) ⟨zs, tP, tT, tC⟩ (Heap.get?_push_size _ rfl) (I.hok.fresh sx) (far _ sx).1 (far _ sx).2 co
  | none =>
    refine PySem.W.kla_makeFunction (mg := X.mg) (c := kc) (P := P) (ps := zs) cl I.ok.glob (I.mod.glob.keeps I.bk) hk (TB.code.keeps I.bk) oP tT am TB.gP (TB.bm.keeps I.bk) fun k tv g tk kx ge lt ⟨k2, oc, vs, t, e2, o1, o2, o3⟩ tb => ?_
    cases e2
    have sz : s.heap.objs.size ≤ g.objs.size := Nat.le_trans ge (Nat.le_of_lt lt)
    have n0 : H k = none := I.hok.fresh ge
    have J := inv_table (t' := tk) (q := X.env.qual ++ "<lambda>") (more := #[rawInt at'.line, rawInt at'.col, .ref k]) (h' := g.push (PySem.W.kla_obj "<lambda>" (X.env.qual ++ "<lambda>") ps bd sc (cloFrom X.env.cells sc.names []) ((X.mg "__name__").getD .none) k tv)) I tP (fun b o hb e => Heap.get?_push_of_some _ (kx b o hb e))
      (Heap.get?_push_of_some _ tb) ge ⟨oc, vs, t, Heap.get?_push_of_some _ o1, o2, o3⟩
    have kP : k ≠ P := fun z => by
      rw [z, tP] at n0
      cases n0
    have lt2 : LamTo P (X.env.qual ++ "<lambda>") H k (upd (upd H P (.tbl (zs ++ #[rawInt at'.line, rawInt at'.col, .ref k]))) k (CodeO k (X.env.qual ++ "<lambda>"))) := .inr ⟨_, n0, rfl⟩
    have lst : (zs ++ #[rawInt at'.line, rawInt at'.col, .ref k]).toList = zs.toList ++ [rawInt at'.line, rawInt at'.col, .ref k] := by simp
    refine h g.objs.size k ((X.mg "__name__").getD .none) tv _ _ J lt2 ⟨_, by rw [upd_ne (Ne.symm kP), upd_same], by rw [lst]; exact PySem.TriplesOk_snoc _ _ _ _ tT, fun p' cv hcv => ?_⟩ (Heap.get?_push_size _ rfl) ?_ (far _ sz).1 (far _ sz).2 upd_same
    · rw [lst] at hcv
      rcases among_app _ tT hcv with z | z
      · obtain ⟨c0, e1, e2⟩ := tC p' cv z
        exact ⟨c0, e1, lt2.ext tP _ _ e2 codeO_ne⟩
      · exact ⟨k, z, upd_same⟩
    · rw [upd_ne (Nat.ne_of_gt lt), upd_ne (Nat.ne_of_gt (Nat.lt_of_lt_of_le (Heap.lt_size oP) sz))]
      exact I.hok.fresh sz
end
/-! ### the order -/
/-- 0 .. n - 1 by their keys -/
def ordOf (key : Nat → Int × Int) (n : Nat) : List Nat := (List.range n).mergeSort fun i j => !lexB (key j) (key i)
theorem ord_trans (key : Nat → Int × Int) (a b c : Nat) (h1 : (!lexB (key b) (key a)) = true) (h2 : (!lexB (key c) (key b)) = true) : (!lexB (key c) (key a)) = true := by
  simp only [Bool.not_eq_true'] at *
  have a := lexB_no.mp h1
  have b := lexB_no.mp h2
  refine lexB_no.mpr ?_
  omega
theorem ord_total (key : Nat → Int × Int) (a b : Nat) : ((!lexB (key b) (key a)) || (!lexB (key a) (key b))) = true := by
  cases h : lexB (key b) (key a) with
  | false => rfl
  | true =>
    have h' := lexB_iff.mp h
    have : lexB (key a) (key b) = false := lexB_no.mpr (by omega)
    rw [this]
    rfl
theorem ordOf_perm (key : Nat → Int × Int) (n : Nat) : (ordOf key n).Perm (List.range n) := List.mergeSort_perm _ _
theorem ordOf_pw (key : Nat → Int × Int) (n : Nat) : (ordOf key n).Pairwise fun i j => lexB (key j) (key i) = false := by
  have := List.pairwise_mergeSort (le := fun i j => !lexB (key j) (key i)) (ord_trans key) (ord_total key) (List.range n)
  exact this.imp fun h => by simpa using h
theorem ord_uniq {key : Nat → Int × Int} {n : Nat} (inj : ∀ i j, key i = key j → i = j) {l : List Nat} (p : l.Perm (List.range n)) (h : l.Pairwise fun i j => lexB (key j) (key i) = false) : l = ordOf key n := by
  refine List.Perm.eq_of_pairwise (le := fun i j => lexB (key j) (key i) = false) (fun a b _ _ h1 h2 => inj a b ?_) h (ordOf_pw key n) (p.trans (ordOf_perm key n).symm)
  have a1 := lexB_no.mp h1
  have a2 := lexB_no.mp h2
  exact Prod.ext (by omega) (by omega)
def natV : Value → Nat
  | .int i _ => i.toNat
  | _ => 0
theorem made_ord {kOf : Value → Int × Int} {keys : Array Value} {vs out : List Value} {key : Nat → Int × Int} {n : Nat} (inj : ∀ i j, key i = key j → i = j) (hv : ItemsOf (fun i v => ∃ t, v = .int (0 + i * 1) t) vs.toArray n)
    (hks : keys.size = vs.length) (hk : ∀ (i : Nat) (k : Value), keys[i]? = some k → ((List.range n).map key)[i]? = some (kOf k)) (m : Made kOf keys vs out) : L2.Vals ((ordOf key n).map fun i => V.int (i : Nat)) out := by
  have hn : vs.length = n := by
    have := hv.1
    rwa [List.size_toArray] at this
  have hl : ((List.range n).map key).length = vs.length := by rw [List.length_map, List.length_range, hn]
  have get : ∀ (i : Nat) (v : Value), vs[i]? = some v → ∃ t, v = .int (i : Nat) t := fun i v e => by
    obtain ⟨t, q⟩ := hv.2 i v (by simpa using e)
    exact ⟨t, by rw [q]; congr 1; omega⟩
  obtain ⟨zs, p1, p2, p3⟩ := m.pairs hks hl hk
  have nv : vs.map natV = List.range n := by
    refine List.ext_getElem? fun i => ?_
    rw [List.getElem?_map]
    by_cases c : i < n
    · obtain ⟨v, ev⟩ : ∃ v, vs[i]? = some v := ⟨_, List.getElem?_eq_getElem (by omega)⟩
      obtain ⟨t, rfl⟩ := get i v ev
      rw [ev, List.getElem?_range c]
      rfl
    · rw [List.getElem?_eq_none (by omega), List.getElem?_eq_none (by rw [List.length_range]; omega)]
      rfl
  have mem : ∀ z ∈ zs, z.1 = key (natV z.2) ∧ ∃ t, z.2 = .int (natV z.2 : Nat) t := fun z hz => by
    obtain ⟨i, hi⟩ := List.mem_iff_getElem?.mp (p1.mem_iff.mp hz)
    rw [List.getElem?_zip_eq_some] at hi
    obtain ⟨h1, h2⟩ := hi
    obtain ⟨t, e⟩ := get i _ h2
    rw [e]
    rw [List.getElem?_map] at h1
    have hi : i < n := by
      have := (List.getElem?_eq_some_iff.mp h2).1
      omega
    rw [List.getElem?_range hi] at h1
    exact ⟨(Option.some.inj h1).symm, t, rfl⟩
  have e1 : zs.map (fun z => natV z.2) = ordOf key n := by
    refine ord_uniq inj ?_ ?_
    · have := p1.map fun z => natV z.2
      refine this.trans (List.Perm.of_eq ?_)
      have e : (((List.range n).map key).zip vs).map (fun z => natV z.2) = ((((List.range n).map key).zip vs).map Prod.snd).map natV := by rw [List.map_map]; rfl
      rw [e, List.map_snd_zip (by omega), nv]
    · refine List.pairwise_map.mpr ((List.Pairwise.and_mem.mp p3).imp ?_)
      rintro a b ⟨ha, hb, h⟩
      rw [← (mem a ha).1, ← (mem b hb).1]
      exact h
  rw [← e1, p2, List.map_map]
  clear p1 p3 e1 p2
  induction zs with
  | nil => exact .nil
  | cons z zs ih => exact .cons (mem z (.head _)).2 (ih fun y hy => mem y (.tail _ hy))
end Kl
namespace Kl
open PySem PySem.Spec PyProof.Rows L2 LamX Ks SrtO
section
variable {X : Cx} {pins : List (Addr × Obj)} {σ : L2.St} {H : Hp} {s : Shared}
theorem okS_refl (I : Inv X pins σ H s) {h' : Heap} {tk : Nat} (k : ∀ b o, s.heap.get? b = some o → h'.get? b = some o) : OkS X H s { s with heap := h', toks := tk } := ⟨rfl, I.bare, Un.kept k, I.hok.kept k⟩
theorem okS_more (I : Inv X pins σ H s) {s1 : Shared} {h' : Heap} (o : OkS X H s s1) (k : ∀ b u, (∃ o0, s.heap.get? b = some o0) → s1.heap.get? b = some u → h'.get? b = some u) : OkS X H s { s1 with heap := h' } := by
  obtain ⟨a, b, un, ok⟩ := o
  refine ⟨a, b, ⟨fun b u e n f x => k b u ⟨_, e⟩ (un.keep b u e n f x), fun b u e n f x => ?_, un.free, fun b u e x => ?_, un.tups, un.frzs, un.tbls⟩, fun b u e => ?_⟩
  · obtain ⟨sl, e1⟩ := un.slot b u e n f x
    exact ⟨sl, k b _ ⟨_, e⟩ e1⟩
  · obtain ⟨o', e1⟩ := un.there b u e x
    exact ⟨o', k b _ ⟨_, e⟩ e1⟩
  · refine (ok b u e).stay (fun d v hd q => k d v ?_ q) (fun _ q => q) fun _ _ q => q
    rcases hd with rfl | hd
    · exact objOk_there (I.hok _ _ e)
    · exact objOk_there (I.hok _ _ hd)
/-- the new list is tracked -/
theorem okS_track (I : Inv X pins σ H s) {s1 : Shared} {D : Addr} {ys : List V} {out : Array Value} {c : Nat} (o : OkS X H s s1) (hD : s.heap.get? D = none) (hl : s1.heap.get? D = some (seqObj "list" out c)) (r : Vals ys out.toList) (z : ys.length ≤ sizeLine) :
    Inv X pins σ (upd H D (.lst ys)) s1 := by
  obtain ⟨a, b, un, ok⟩ := o
  have n : H D = none := nil_of I.hok hD
  refine I.call' a ⟨un.keep, un.slot, fun b u e nn x => ?_, un.there, fun b xs e => ?_, fun b o u e => ?_, fun b ps e => ?_⟩ (fun b u e => ?_) b (fun b z => nomatch z)
  · rw [upd_ne (fun z => by rw [z, hD] at e; cases e)]
    exact un.free b u e nn x
  · rw [upd_ne (ne_of_none e n)]
    exact e
  · rw [upd_ne (ne_of_none e n)]
    exact e
  · exact ⟨#[], by rw [upd_ne (ne_of_none e n), e]; simp⟩
  · by_cases hb : b = D
    · subst hb
      rw [upd_same] at e
      cases e
      exact ⟨z, out.toList, c, r, by rw [hl, Array.toArray_toList]⟩
    · rw [upd_ne hb] at e
      exact (ok b u e).stay (fun _ _ _ q => q) (fun d q => by rw [upd_ne (ne_of_none q n)]; exact q) fun d xs q => by rw [upd_ne (ne_of_none q n)]; exact q
theorem small_rng {n : Nat} (h : n ≤ 1000000) : Builtin.Range.small 0 (n : Int) 1 = true ∧ Builtin.Range.rangeSize 0 (n : Int) 1 = n := by
  have h2 : Builtin.Range.rangeSize 0 (n : Int) 1 = n := by
    unfold Builtin.Range.rangeSize
    simp
    try omega
  refine ⟨?_, h2⟩
  unfold Builtin.Range.small
  rw [h2]
  unfold Builtin.Range.rangeFitsLong
  simp
  try omega
/-- sorted(range(len), key=lambda x: (e1, e2)) -/
theorem wp_sortLam {x : Str} {key : Nat → Int × Int} {n : Nat} {p1 p2 pos rpos kpos lpos bpos : Pos} {el e1 e2 : Expr} {params : Arguments} {scope : Scope} {x1 : _} {tl : TE} {t : TA} {kc P : Addr} {k : Nat} (I : Inv X pins σ H s) (hn : n ≤ 1000000) (inj : ∀ i j, key i = key j → i = j)
    (hgS : Gl X "sorted") (hmS : X.mg "sorted" = none) (hgR : Gl X "range") (hmR : X.mg "range" = none) (hl : PE X el tl) (hlq : tl σ H fun v H1 => v = .int n ∧ H1 = H)
    (hc : X.calm = true) (hr : Room (k + 1) X.A) (TB : TabB X.base X.mg kc P) (hk : X.env.code = .ref kc) (tS : TabS H P (X.env.qual ++ "<lambda>")) (d0 : defaultsOf params X.env = ([], [])) (L : LamS1 X.env.scope scope x)
    (hbind : ∀ (cl : List (Str × Addr)) (pm cv tv : Value) (u : Value), bindArgs (PySem.W.kla_fn "<lambda>" (X.env.qual ++ "<lambda>") params (.Tuple [e1, e2] x1 bpos) scope cl pm cv tv) ⟨[u], []⟩ = pure [(x, u)])
    (hbody : ∀ (f k : Addr) (G : Hp), LamTo P (X.env.qual ++ "<lambda>") H k G → (∀ (A : Around) (outer : List Env) (s1 : Shared), PA (lamCx1 X A outer s1 G scope f k x) [e1, e2] t) ∧ ∀ i : Nat, i < n → t (some (.int i) :: lamSt x X.N σ) G (fun vs H' => H' = G ∧ vs = [.int (key i).1, .int (key i).2]))
    {Q : Value → Shared → Prop} {E : Value → Shared → Prop} (hE : X.xe = E)
    (q : ∀ (D c0 : Addr) (G : Hp) (s2 : Shared), LamTo P (X.env.qual ++ "<lambda>") H c0 G → TabS G P (X.env.qual ++ "<lambda>") → G D = none → Inv X pins σ (upd G D (.lst ((ordOf key n).map fun i => V.int (i : Nat)))) s2 → Q (.ref D) s2)
    (na : starEach [el] X.env = (false, eval el X.env) :: starEach [] X.env := by rfl)
    (he : backTo pos (starEach [.Call (.Name "range" p2) [el] [] rpos] X.env) = (false, eval (.Call (.Name "range" p2) [el] [] rpos) X.env) :: backTo pos (starEach [] X.env) := by rfl) (hpl : (backTo pos (starEach [.Call (.Name "range" p2) [el] [] rpos] X.env)).any (·.1) = false := by rfl)
    (na2 : starEach [.Call (.Name "range" p2) [el] [] rpos] X.env = (false, eval (.Call (.Name "range" p2) [el] [] rpos) X.env) :: starEach [] X.env := by rfl) :
    wpAny (model X.prog X.w) X.A (eval (.Call (.Name "sorted" p1) [.Call (.Name "range" p2) [el] [] rpos] [⟨some "key", .Lambda params (.Tuple [e1, e2] x1 bpos) scope lpos, kpos⟩] pos) X.env) Q E s := by
  subst hE
  have hd := I.ok.hd hc
  refine wpAny_Call_Name_kw (ld_blt I hgS hmS boot_sorted ?_)
  refine PyProof.Rows.callWith_kw (args_cons (wpAny_Call_Name_kw (ld_blt I hgR hmR boot_range (PyProof.Rows.callWith_type1 (one_arg hl I hlq (fun v s2 y H2 I2 r q => ?_) na) na))) na2) he hpl rfl rfl
  obtain ⟨rfl, rfl⟩ := q
  obtain ⟨tn, rfl⟩ := r
  refine call_range_1 (args_nil ?_)
  have I3 : Inv X (pins ++ [(s2.heap.objs.size, _)]) σ H2 { s2 with heap := s2.heap.push { cls := .type "range", data := .fields #[.int 0 s2.toks, .int n tn, .int 1 (s2.toks + 1)] }, toks := s2.toks + 1 + 1 } :=
    (I2.kept (t' := s2.toks + 1 + 1) fun b u e => Heap.get?_push_of_some _ e).pins_of fun p hp => by
      rcases List.mem_append.mp hp with hp | hp
      · obtain ⟨a1, a2, a3, a4, a5⟩ := I2.pin p (List.mem_append_right _ hp)
        exact ⟨Heap.get?_push_of_some _ a1, a2, a3, a4, a5⟩
      · obtain rfl : p = _ := List.mem_singleton.mp hp
        exact ⟨Heap.get?_push_size _ rfl, I2.hok.fresh (Nat.le_refl _), Nat.ne_of_gt I2.lt, I2.nofs (Nat.le_refl _), fun v z => by cases z⟩
  refine wpAny_evalAll_cons (wpAny_bind (lam_mk I3 TB hk tS d0 (L.has I3.ok) fun f c0 pm tv G s4 I4 lt tS4 hf hfn hfr hfl hco => wpAny_bind (wpAny_standAt (wpAny_pure (wpAny_evalAll_nil ?_)))))
  have I5 : Inv X pins σ G s4 := I4.unpinned
  have hrg : IsRange s4.heap s2.heap.objs.size 0 n 1 s2.toks tn (s2.toks + 1) := (I4.pin (s2.heap.objs.size, _) (List.mem_append_right _ (List.mem_append_right _ (List.mem_singleton.mpr rfl)))).1
  obtain ⟨hb1, hb2⟩ := hbody f c0 G lt
  obtain ⟨sm, sz⟩ := small_rng hn
  refine sortedO (kz := (List.range n).map key) (fun vs => ItemsOf (fun i v => ∃ t, v = .int (0 + i * 1) t) vs.toArray n) (OkS X G s4) (fun vs hv => ?_) (fun vs hv => ?_) (fun Q E' h => col_range hd hrg sm sz (by omega) Q E' h) (by unfold argsOk; exact ksk_s1 _ _) (fun y => ksk_l1 _ _) (fun y => ksk_t1 _ _)
    (fun h' tk kp => okS_refl I5 kp) (fun s1 h' o kp => okS_more I5 o kp) (fun vs i v kk hv hi hkk s1 own o1 hown => ?_) fun D s' vs keys kOf out c hv hD o1 hl hk hs hM => ?_
  · have := hv.1
    rw [List.size_toArray] at this
    rw [List.length_map, List.length_range, this]
  · have := hv.1
    rw [List.size_toArray] at this
    rw [this]
    exact Nat.le_trans hn (by decide)
  · obtain ⟨tv', rfl⟩ := hv.2 i v (by simpa using hi)
    have hin : i < n := by
      have := hv.1
      rw [List.size_toArray] at this
      have := (List.getElem?_eq_some_iff.mp hi).1
      omega
    rw [List.getElem?_map, List.getElem?_range hin] at hkk
    cases hkk
    have ei : (0 + (i : Int) * 1) = i := by omega
    refine wpAny_mono (lam_turn (n := i) (key1 := (key i).1) (key2 := (key i).2) I5 L hr hd hf hfn hfr hco (hbind _ _ _ _) hb1 ⟨tv', by rw [ei]⟩ (hb2 i hin) o1 hown) (fun r s2 z => z) fun _ _ z => z
  · refine q D c0 G s' lt tS4 (nil_of I5.hok hD) (okS_track I5 o1 hD hl (made_ord inj hv hs hk hM) ?_)
    rw [List.length_map, (ordOf_perm key n).length_eq, List.length_range]
    exact Nat.le_trans hn (by decide)
end
end Kl
/-! own: sorted(range(len(xs)), key=lambda at: (-xs[at], at)); sum(..) while an error is handled -/
namespace Mi
open PySem PySem.Spec PyProof.Rows L2 Kt Kj LamX Kl L2H HotX
def keyAt (ns : List Int) (j : Nat) : Int × Int := (-(ns.getD j 0), (j : Nat))
theorem keyAt_inj (ns : List Int) (i j : Nat) (h : keyAt ns i = keyAt ns j) : i = j := by
  have := congrArg Prod.snd h
  unfold keyAt at this
  dsimp only at this
  omega
/-- places, the greatest number first, of equal ones the first -/
def ranks (ns : List Int) : List Nat := ordOf (keyAt ns) ns.length
def listA : A → Option (List D)
  | .d (.lst ds) => some ds
  | .bor ds => some ds
  | _ => none
def mSortAt (i : Nat) : Mv := fun e s => match slot e i with
  | some a => match listA a with
    | some ds => match dints ds with
      | some ns => if ns.length ≤ 1000000 then .ok (.own ((ranks ns).map fun (j : Nat) => .int (j : Nat))) s else .bad
      | none => .bad
    | none => .bad
  | none => .bad
section
variable {c : Cc} {F0 H0 F H : Hp} {s : Sx} {W : WX} {X : Cx} {pos : Pos} [hq : Dq c H0]
theorem lamTo_wo {P k : Addr} {q : Str} {G : Hp} (w : Wo c s F H) (hP : (P, q) ∈ c.Ts.ls) (hu : ∀ p ∈ c.Ts.ls, p.1 = P → p.2 = q) (l : LamTo P q H k G) (tS : TabS G P q) : Wo c s F G ∧ Go c F H F G ∧ (∀ b xs, H b = some (.lst xs) → G b = some (.lst xs)) ∧ ∀ b, G b = none → H b = none := by
  obtain ⟨ps, hps, _⟩ := w.tg.l _ hP
  have ext := l.ext hps
  rcases l with rfl | ⟨zs, n, rfl⟩
  · exact ⟨w, .refl, fun _ _ h => h, fun _ h => h⟩
  · have ne : ∀ b o, H b = some o → b ≠ k := fun b o e => ne_of_none e n
    have kP : P ≠ k := ne _ _ hps
    have lst : ∀ b xs, H b = some (.lst xs) → upd (upd H P (.tbl zs)) k (CodeO k q) b = some (.lst xs) := fun b xs e => ext b _ e fun ps z => by cases z
    refine ⟨⟨fun b o e => ext b o (w.sub b o e) fun ps z => w.nt b ps (by rw [← z]; exact e), ⟨fun T hT => ?_, fun p hp => ?_, w.tg.a⟩, w.nt, ?_⟩, ⟨Same.refl F, fun b o e _ nt => ext b o e nt, fun b ps e => ?_, fun o e => ?_, fun t l' q' e => ⟨t, l', lst _ _ e⟩, fun _ _ e _ => e⟩, lst, fun b e => upd_none' (upd_none' e)⟩
    · have nT : T ≠ P := fun z => w.tg.a _ hP (by rw [← z]; exact hT)
      obtain ⟨ps', h1, h2⟩ := w.tg.g T hT
      exact ⟨ps', by rw [upd_ne (ne _ _ h1), upd_ne nT]; exact h1, h2⟩
    · by_cases z : p.1 = P
      · rw [hu p hp z, z]
        exact tS
      · obtain ⟨ps', h1, h2, h3⟩ := w.tg.l p hp
        refine ⟨ps', by rw [upd_ne (ne _ _ h1), upd_ne z]; exact h1, h2, fun pos cv e => ?_⟩
        obtain ⟨c0, e1, e2⟩ := h3 pos cv e
        exact ⟨c0, e1, ext _ _ e2 codeO_ne⟩
    · have q1 := w.ds
      cases s with
      | none => trivial
      | some d =>
        obtain ⟨a1, a, a2, a3⟩ := q1
        exact ⟨a1, a, lst _ _ a2, a3⟩
    · by_cases z : b = P
      · exact ⟨zs, by rw [z, upd_ne kP, upd_same]⟩
      · exact ⟨ps, by rw [upd_ne (ne _ _ e), upd_ne z]; exact e⟩
    · by_cases z : c.dq = P
      · exact ⟨_, by rw [z, upd_ne kP, upd_same]⟩
      · exact ⟨o, by rw [upd_ne (ne _ _ e), upd_ne z]; exact e⟩
where
  upd_none' {H : Hp} {a b : Addr} {o : HO} (e : upd H a o b = none) : H b = none := by
    unfold upd at e
    split at e
    · cases e
    · exact e
theorem me_sortAt {i k : Nat} {rs at' : Str} {kc P : Addr} {q : Str} {p1 p2 p3 p4 p5 rpos kpos lpos bpos q1 q2 q3 q4 q5 : Pos} {params : Arguments} {scope : Scope} {x1 : _} (hP : (P, q) ∈ c.Ts.ls) (hu : ∀ p ∈ c.Ts.ls, p.1 = P → p.2 = q) (hqn : X.env.qual ++ "<lambda>" = q) (hK : X.K = c.K)
    (hmS : X.mg "sorted" = none) (hmR : X.mg "range" = none) (hmL : X.mg "len" = none) (hc : X.calm = true) (hr : Room (k + 1) X.A) (TB : TabB X.base X.mg kc P) (hk : X.env.code = .ref kc)
    (L : LamS1 X.env.scope scope at') (hx : rs ≠ at') (hN : X.N[i]? = some rs) (hv : Vis X.env.scope rs) (hvf : scope.names.lookup rs = some .free) (hrd : (rs == ("__debug__" : Str)) = false) (hrc : (rs == ("__classdict__" : Str)) = false) (had : (at' == ("__debug__" : Str)) = false) (hac : (at' == ("__classdict__" : Str)) = false)
    (d0 : defaultsOf params X.env = ([], [])) (hbind : ∀ (cl : List (Str × Addr)) (pm cv tv : Value) (u : Value), bindArgs (PySem.W.kla_fn "<lambda>" (X.env.qual ++ "<lambda>") params (.Tuple [.UnaryOp .USub (.Subscript (.Name rs q1) (.Name at' q2) q3) q4, .Name at' q5] x1 bpos) scope cl pm cv tv) ⟨[u], []⟩ = pure [(at', u)])
    (hgS : Gl X "sorted" := by rfl) (hgR : Gl X "range" := by rfl) (hgL : Gl X "len" := by rfl)
    (na0 : starEach [.Name rs p4] X.env = (false, eval (.Name rs p4) X.env) :: starEach [] X.env := by rfl) (hpl0 : (backTo p5 (starEach [] X.env)).any (·.1) = false := by rfl)
    (na : starEach [.Call (.Name "len" p3) [.Name rs p4] [] p5] X.env = (false, eval (.Call (.Name "len" p3) [.Name rs p4] [] p5) X.env) :: starEach [] X.env := by rfl)
    (he : backTo pos (starEach [.Call (.Name "range" p2) [.Call (.Name "len" p3) [.Name rs p4] [] p5] [] rpos] X.env) = (false, eval (.Call (.Name "range" p2) [.Call (.Name "len" p3) [.Name rs p4] [] p5] [] rpos) X.env) :: backTo pos (starEach [] X.env) := by rfl)
    (hpl : (backTo pos (starEach [.Call (.Name "range" p2) [.Call (.Name "len" p3) [.Name rs p4] [] p5] [] rpos] X.env)).any (·.1) = false := by rfl)
    (na2 : starEach [.Call (.Name "range" p2) [.Call (.Name "len" p3) [.Name rs p4] [] p5] [] rpos] X.env = (false, eval (.Call (.Name "range" p2) [.Call (.Name "len" p3) [.Name rs p4] [] p5] [] rpos) X.env) :: starEach [] X.env := by rfl) :
    ME c F0 H0 W X (.Call (.Name "sorted" p1) [.Call (.Name "range" p2) [.Call (.Name "len" p3) [.Name rs p4] [] p5] [] rpos] [⟨some "key", .Lambda params (.Tuple [.UnaryOp .USub (.Subscript (.Name rs q1) (.Name at' q2) q3) q4, .Name at' q5] x1 bpos) scope lpos, kpos⟩] pos) (mSortAt i) := by
  refine ⟨fun pins s σ H Q I ⟨F, e, sx, hh, p⟩ => ?_⟩
  unfold mSortAt at p
  split at p
  · rename_i a ha
    split at p
    · rename_i ds hds
      split at p
      · rename_i ns hns
        split at p
        · rename_i hlen
          -- where the list stands
          obtain ⟨r, hσ, hr0⟩ : ∃ r : Addr, σ[i]? = some (some (.ref r)) ∧ H r = some (.lst (ns.map V.int)) := by
            unfold slot at ha
            split at ha
            · rename_i xs hxs
              cases ha
              cases hds
              obtain ⟨v, ev, r, rfl, o⟩ := hh.n.at' _ _ hxs
              obtain ⟨vs, h1, h2⟩ := o.ex
              rw [dints_map hns] at h2
              rw [rpL_ints h2] at h1
              exact ⟨r, ev, h1⟩
            · cases ha
            · rename_i a' nown _ hxs
              cases ha
              obtain ⟨v, ev, rr⟩ := hh.n.at' _ _ hxs
              unfold listA at hds
              split at hds
              · cases hds
                obtain ⟨_, r, xs, rfl, h1, h2⟩ := rp_lst.mp (show Rp c F _ v from rr)
                rw [dints_map hns] at h2
                rw [rpL_ints h2] at h1
                exact ⟨r, ev, hh.w.sub _ _ h1⟩
              · cases hds
                obtain ⟨r, rfl, o⟩ := rr
                obtain ⟨vs, h1, h2⟩ := o.ex
                rw [dints_map hns] at h2
                rw [rpL_ints h2] at h1
                exact ⟨r, ev, h1⟩
              · cases hds
            · cases ha
          have tS : TabS H P (X.env.qual ++ "<lambda>") := by
            rw [hqn]
            exact hh.w.tg.l _ hP
          refine wp_sortLam (x := at') (key := keyAt ns) (n := ns.length) (k := k)
            (tl := tCB (rLen X.K) (tCons (tVar i) tNil)) (t := tCons (tUn (rU fun i => .int (-i)) (tOp (rIxL X.K) (tVar (i + 1)) (tVar 0))) (tCons (tVar 0) tNil)) I hlen (keyAt_inj ns) hgS hmS hgR hmR
            (pe_callB (cl_len (c := ⟨X.K, 0, ⟨[], []⟩, fun _ => 0, none⟩) rfl) hgL hmL (by decide +kernel) (pa_cons (pe_var hN hv hrd hrc) pa_nil na0) (by decide) (by decide) na0 hpl0) ?_ hc hr TB hk tS d0 L hbind (fun f kk G lt => ⟨fun A outer s1 => ?_, fun j hj => ?_⟩) rfl (fun D c0 G s2 lt tS2 nD J => ?_) na he hpl na2
          · refine ⟨_, hσ, .inl ⟨r, _, rfl, .inl (SqL.of hr0), ?_, rfl⟩⟩
            rw [List.length_map]
          · refine pa_cons (pe_un un_neg (pe_ix ix_list (pe_var (i := i + 1) (show (at' :: X.N)[i + 1]? = some rs from hN) (.inr (.inr hvf)) hrd hrc) (pe_var (i := 0) rfl (.inl L.par) had hac) (fun _ _ => rfl))) (pa_cons (pe_var (i := 0) rfl (.inl L.par) had hac) pa_nil (by rfl)) (by rfl)
          · rw [hqn] at lt
            have l2 : G r = some (.lst (ns.map V.int)) := by
              rcases lt with rfl | ⟨zs, n, rfl⟩
              · exact hr0
              · obtain ⟨ps, hps, _⟩ := hh.w.tg.l _ hP
                rw [upd_ne (ne_of_none hr0 n), upd_ne (fun z => by rw [z] at hr0; rw [hps] at hr0; cases hr0)]
                exact hr0
            refine ⟨.ref r, (by show (lamSt at' X.N σ)[i]? = _; rw [lamSt_at hN hx]; exact hσ), .int j, rfl, r, _, j, .int (ns.getD j 0), rfl, rfl, SqL.of l2, ?_, _, rfl, .int j, rfl, rfl, rfl⟩
            have e1 : ixN (ns.map V.int).length (j : Int) = some j := by
              unfold ixN
              rw [if_pos (by omega), if_pos (by rw [List.length_map]; omega), Int.toNat_natCast]
            unfold atI
            rw [e1]
            show (ns.map V.int)[j]? = _
            rw [List.getElem?_map, List.getElem?_eq_getElem hj, List.getD_eq_getElem?_getD, List.getElem?_eq_getElem hj]
            rfl
          · rw [hqn] at lt tS2
            obtain ⟨w2, g2, ls, nn⟩ := lamTo_wo hh.w hP hu lt tS2
            have nd := hh.dq D (nn _ nD)
            have hl2 : ((ranks ns).map fun (j : Nat) => Mi.D.int (j : Nat)).length ≤ 1000000 := by
              rw [List.length_map]
              show (ordOf (keyAt ns) ns.length).length ≤ _
              rw [(ordOf_perm _ _).length_eq, List.length_range]
              exact hlen
            refine ⟨.ref D, _, J, rfl, p _ _ _ (w2.newM nD) (g2.trans (.newM nD)) ⟨D, rfl, nn _ nD, w2.fnone nD, nd, hl2, _, upd_same, ?_⟩⟩
            have := ints_rpL (c := c) (F := F) ((ordOf (keyAt ns) ns.length).map fun (j : Nat) => (j : Int))
            rw [List.map_map, List.map_map] at this
            exact this
        · exact p.elim
      · exact p.elim
    · exact p.elim
  · exact p.elim
/-! sum(..) while an error is handled -/
theorem walksHot {prog : Program} {w : World} {A : Around} {x1 : Addr} (I ax : Addr) (hne : ax ≠ I) (hx : x1 ≠ I) (items : Array Value) :
    Walks prog w A I [I, ax, x1] [I] items.size (fun i v => items[i]? = some v) (fun i h => h.IsListIter I ax i ∧ h.IsList ax items ∧ HotX.HotAt A x1 h) where
  sub := fun b hb => by simp at hb; simp [hb]
  frame := fun _ _ _ st hk => ⟨st.1.at fun o e => hk I (by simp) o e, st.2.1.at fun o e => hk ax (by simp) o e, let ⟨hh, o1, vs1, h1, d1⟩ := st.2.2; ⟨hh, o1, vs1, hk x1 (by simp) o1 h1, d1⟩⟩
  item := fun i s Q E hi st hQ => by
    refine wpAny_pyNext_list_item st.1 st.2.1 (x := items[i]) (by simp [hi]) fun h' hit' hs' => ?_
    exact hQ _ h' s.toks (by simp [hi]) ⟨hit', st.2.1.extBut hs'.extBut hne, Kh.HotAt.ext st.2.2 hx hs'.extBut⟩ fun b o hb e => hs'.extBut b o (fun h => hb (by simp [h])) e
  done := fun s Q E st hQ => Kh.list_end_hot st.2.2 hx st.1 st.2.1 (by simp) fun h' he' => hQ h' s.toks fun b o hb e => he' b o (fun h => hb (by simp [h])) e
  self := fun _ _ _ _ st hQ => wpAny_pyIter_listiter st.1 hQ
theorem cr_sumH (hc : HotC X) : CallR X (.builtin "sum") (rSum X.K) := by
  intro pins s σ H vs us Q I r h
  obtain ⟨a, ns, rfl, hs, q⟩ := h
  obtain ⟨its, rv, hl, _⟩ := I.list hs
  rw [Vals.ref1 r]
  obtain ⟨x1, hot⟩ := hc.at I
  have hi := rv.ints
  obtain ⟨xs, e⟩ := hi.allInts.items
  have hn : numsOf (intItems xs).toList = ns := by rw [← e]; exact hi.numsOf
  rw [nums_intItems] at hn
  have hl' := hl.isList
  rw [e] at hl'
  refine call_sum_walkG (iter_intList hl' fun s2 es st hfp hlI => ?_)
  subst es
  have hx1 : x1 ≠ s.heap.objs.size := Nat.ne_of_lt (Kh.HotAt.lt hot)
  refine ⟨_, _, _, _, _, _, numAt xs, rfl, walksHot (A := X.A.in1) s.heap.objs.size a hlI hx1 (intItems xs), ⟨st.1, st.2, Kh.HotAt.push hot⟩, fun b hb => ?_, (fun _ _ => intItems_at), fun h' tk t' hk => ?_⟩
  · simp only [List.mem_cons, List.not_mem_nil, or_false] at hb
    rcases hb with hb | hb | hb
    · exact hfp b (by rw [hb]; simp)
    · exact hfp b (by rw [hb]; simp)
    · rw [hb]
      exact Kh.HotAt.lt (Kh.HotAt.push hot)
  · refine ⟨.int ns.sum, H, I.kept (t' := tk) (old_kept hk), ⟨t', ?_⟩, q⟩
    have e2 : preSum (numAt xs) (intItems xs).size = ns.sum := by
      rw [preSum_eq, List.take_of_length_le (by simp [intItems]), hn]
    rw [e2]
theorem cl_sumH (hK : X.K = c.K) (hc : HotC X) : CallR X (.builtin "sum") (rSum c.K) := hK ▸ cr_sumH hc
end
end Mi
/-! own: dicts by data -/
namespace Mi
open PySem PySem.Spec PyProof.Rows L2 Kt Kj
section
variable {κ β : Type} [DecidableEq κ]
def getG (kvs : List (κ × β)) (k : κ) : Option β := (kvs.find? fun kv => decide (kv.1 = k)).map (·.2)
def putG (kvs : List (κ × β)) (k : κ) (v : β) : List (κ × β) :=
  if (kvs.any fun kv => decide (kv.1 = k)) = true then kvs.map (fun kv => if kv.1 = k then (kv.1, v) else kv) else kvs ++ [(k, v)]
theorem putG_len (kvs : List (κ × β)) (k : κ) (v : β) : (putG kvs k v).length ≤ kvs.length + 1 := by
  unfold putG
  split
  · rw [List.length_map]
    omega
  · rw [List.length_append]
    exact Nat.le_refl _
end
section
variable {κ : Type} [DecidableEq κ] {c : Cc} {F : Hp}
/-- the keys are the same, the values stand for the data -/
def RelK (c : Cc) (F : Hp) (kvs : List (κ × D)) (ws : List (κ × V)) : Prop := ws.map Prod.fst = kvs.map Prod.fst ∧ RpL c F (kvs.map Prod.snd) (ws.map Prod.snd)
theorem relK_nil : RelK c F ([] : List (κ × D)) [] := ⟨rfl, rpL_nil.mpr rfl⟩
theorem relK_cons {kv : κ × D} {kvs : List (κ × D)} {ws : List (κ × V)} (h : RelK c F (kv :: kvs) ws) : ∃ v ws', ws = (kv.1, v) :: ws' ∧ Rp c F kv.2 v ∧ RelK c F kvs ws' := by
  obtain ⟨h1, h2⟩ := h
  cases ws with
  | nil => cases h1
  | cons w ws =>
    rw [List.map_cons, List.map_cons, List.cons.injEq] at h1
    rw [List.map_cons, List.map_cons] at h2
    obtain ⟨v, r, e, r1, r2⟩ := rpL_cons.mp h2
    cases e
    exact ⟨w.2, ws, by rw [← h1.1], r1, h1.2, r2⟩
theorem relK_mk {kv : κ × D} {kvs : List (κ × D)} {v : V} {ws : List (κ × V)} (r : Rp c F kv.2 v) (h : RelK c F kvs ws) : RelK c F (kv :: kvs) ((kv.1, v) :: ws) :=
  ⟨by rw [List.map_cons, List.map_cons, h.1], by rw [List.map_cons, List.map_cons]; exact rpL_cons.mpr ⟨v, _, rfl, r, h.2⟩⟩
theorem RelK.len : ∀ {kvs : List (κ × D)} {ws : List (κ × V)}, RelK c F kvs ws → ws.length = kvs.length := fun {kvs ws} h => by
  have := congrArg List.length h.1
  rwa [List.length_map, List.length_map] at this
theorem RelK.get {k : κ} : ∀ {kvs : List (κ × D)} {ws : List (κ × V)}, RelK c F kvs ws → (∀ d, getG kvs k = some d → ∃ v, valV ws k = some v ∧ Rp c F d v) ∧ (getG kvs k = none → valV ws k = none)
  | [], ws, h => by
    have := h.len
    cases ws with
    | nil => exact ⟨fun d e => (nomatch e), fun _ => rfl⟩
    | cons _ _ => cases this
  | kv :: kvs, ws, h => by
    obtain ⟨v, ws', rfl, r1, r2⟩ := relK_cons h
    have ih := RelK.get (k := k) r2
    by_cases e : kv.1 = k
    · have e1 : getG (kv :: kvs) k = some kv.2 := by simp [getG, List.find?_cons, e]
      have e2 : valV ((kv.1, v) :: ws') k = some v := valV_pos e
      rw [e1, e2]
      exact ⟨fun d z => by cases z; exact ⟨v, rfl, r1⟩, fun z => nomatch z⟩
    · have e1 : getG (kv :: kvs) k = getG kvs k := by simp [getG, List.find?_cons, e]
      have e2 : valV ((kv.1, v) :: ws') k = valV ws' k := valV_neg e
      rw [e1, e2]
      exact ih
theorem RelK.any {k : κ} {kvs : List (κ × D)} {ws : List (κ × V)} (h : RelK c F kvs ws) : (ws.any fun kv => decide (kv.1 = k)) = kvs.any fun kv => decide (kv.1 = k) := by
  have e : ∀ {β : Type} (l : List (κ × β)), (l.any fun kv => decide (kv.1 = k)) = (l.map Prod.fst).any fun x => decide (x = k) := fun l => by
    rw [List.any_map]
    rfl
  rw [e, e, h.1]
theorem RelK.repl {k : κ} {d : D} {v : V} (rv : Rp c F d v) : ∀ {kvs : List (κ × D)} {ws : List (κ × V)}, RelK c F kvs ws → RelK c F (kvs.map fun kv => if kv.1 = k then (kv.1, d) else kv) (ws.map fun kv => if kv.1 = k then (kv.1, v) else kv)
  | [], ws, h => by
    have := h.len
    cases ws with
    | nil => exact relK_nil
    | cons _ _ => cases this
  | kv :: kvs, ws, h => by
    obtain ⟨v', ws', rfl, r1, r2⟩ := relK_cons h
    have ih := RelK.repl (k := k) rv r2
    rw [List.map_cons, List.map_cons]
    by_cases e : kv.1 = k
    · rw [if_pos e, if_pos (show (kv.1, v').1 = k from e)]
      exact relK_mk (kv := (kv.1, d)) rv ih
    · rw [if_neg e, if_neg (show ¬ (kv.1, v').1 = k from e)]
      exact relK_mk r1 ih
theorem RelK.snoc {k : κ} {d : D} {v : V} {kvs : List (κ × D)} {ws : List (κ × V)} (h : RelK c F kvs ws) (rv : Rp c F d v) : RelK c F (kvs ++ [(k, d)]) (ws ++ [(k, v)]) :=
  ⟨by rw [List.map_append, List.map_append, h.1]; rfl, by rw [List.map_append, List.map_append]; exact h.2.app (RpL.one rv)⟩
theorem RelK.put {k : κ} {d : D} {v : V} {kvs : List (κ × D)} {ws : List (κ × V)} (h : RelK c F kvs ws) (rv : Rp c F d v) : RelK c F (putG kvs k d) (putK ws k v) := by
  unfold putG putK
  rw [h.any]
  split
  · exact h.repl rv
  · exact h.snoc rv
theorem RelK.same {F' : Hp} {kvs : List (κ × D)} {ws : List (κ × V)} (h : RelK c F kvs ws) (s : Same F F') : RelK c F' kvs ws := ⟨h.1, rpL_same s _ _ h.2⟩
end
/-- a key -/
def kyD : D → Option Key
  | .int i => some (.inl i)
  | .str z => some (.inr z)
  | _ => none
section
variable {c : Cc} {F0 H0 F H F1 H1 : Hp} {s s1 : Sx} {e : Env} {σ : L2.St} {W : WX} {X : Cx} {pos : Pos} {a b tg iter kx vx : Expr} {m1 m2 : Mv} [hq : Dq c H0]
theorem kyD_vw {d : D} {k : Key} {v : V} (h : kyD d = some k) (r : Vw c F H d v) : v = kV k := by
  cases d with
  | int i => cases h; exact vw_int r
  | str z => cases h; exact (vw_str r).1
  | _ => cases h
theorem kyD_ra {x : A} {k : Key} {v : V} (w : Wo c s F H) (h : kyD x.v = some k) {Hb : Hp} (r : RA c H0 Hb F H x v) : v = kV k := kyD_vw h (r.vw w)
/-- {tk: tv for g in .. if tt} -/
def dcM (g : Gm) (tt : Mb) (tk tv : Mv) (e : Env) : List D → List (Key × D) → Sx → Res A
  | [], acc, s => .ok (.od (.k acc)) s
  | d :: ds, acc, s => match g d e with
    | none => .bad
    | some e1 => (nox (tt e1 s)).bind fun k s1 => if k = true then (nox (tk e1 s1)).bind fun y s2 => (nox (tv e1 s2)).bind fun z s3 => match kyD y.v, z.toD with
        | some k, some d => if acc.length < 1000000 then dcM g tt tk tv e ds (putG acc k d) s3 else .bad
        | _, _ => .bad
      else dcM g tt tk tv e ds acc s1
def mDc (mi : Mi') (g : Gm) (tt : Mb) (tk tv : Mv) (vs : List Nat) : Mv := fun e s => (mi e s).bind fun ds s1 => dcM g tt tk tv (wipeE e vs) ds [] s1
theorem dc_run {J : It} {ds : List D} {vs : List Nat} {g : TG} {mg : Gm} {tt : Mb} {tk tv : Mv} {Q : VK} {Dn : Addr}
    (h : Hold c F0 H0 e s1 σ F1 H1) (gF : Go c F H F1 H1) (wk : WalkD c F1 J ds) (hg : GM c H0 vs g mg) (p : Post c W σ F H (fun F' H' a v => RA c H0 H F' H' a v) (dcM mg tt tk tv (wipeE e vs) ds [] s1) Q) (nD : H1 Dn = none) :
    ∃ W : Nat → Nat → Hp → Prop, (∃ m, W 0 m (upd H1 Dn (.dK []))) ∧ ∀ i m H, W i m H →
      (J.stop i H ∧ Q (.ref Dn) H) ∨ (J.go i H ∧ ∃ Nx : Hp → Prop, (∀ H', Nx H' → ∃ m', m' < m ∧ W (i + 1) m' H') ∧ ∀ x H', J.yld i H x H' → g x (wipe σ vs) H' fun σ2 H2 => wipe σ2 vs = wipe σ vs ∧ rd c F0 H0 W0 (fun _ _ _ a v => a = v) tt σ2 H2 fun b H3 =>
        if b = true then rd c F0 H0 W0 (fun Hb F H a v => RA c H0 Hb F H a v) tk σ2 H3 fun y H4 => rd c F0 H0 W0 (fun Hb F H a v => RA c H0 Hb F H a v) tv σ2 H4 fun z H5 => ∃ kvs k, y = kV k ∧ H5 Dn = some (.dK kvs) ∧ kvs.length < sizeLine ∧ Nx (upd H5 Dn (.dK (putK kvs k z))) else Nx H3) := by
  have hd := h.dq Dn nD
  have hDF := gF.free nD
  have Fn := h.w.fnone nD
  refine ⟨fun i m Hc => m = ds.length - i ∧ i ≤ ds.length ∧ ∃ (Fc : Hp) (sc : Sx) (acc : List (Key × D)) (ws : List (Key × V)), Wo c sc Fc Hc ∧ Go c F1 H1 Fc Hc ∧ Fc Dn = none ∧ Hc Dn = some (.dK ws) ∧ RelK c Fc acc ws ∧ acc.length ≤ 1000000 ∧
    Post c W σ F H (fun F' H' a v => RA c H0 H F' H' a v) (dcM mg tt tk tv (wipeE e vs) (ds.drop i) acc sc) Q,
    ⟨ds.length, by simp, Nat.zero_le _, F1, s1, [], [], h.w.newM nD, .newM nD, Fn, upd_same, relK_nil, Nat.zero_le _, p⟩, ?_⟩
  rintro i m Hc ⟨rfl, hi, Fc, sc, acc, ws, wc, gc, fD, hD, rD, lD, pc⟩
  have hdq : ∀ p, Hc p = none → p ≠ c.dq := fun p n => h.dq p (gc.free n)
  by_cases hlt : i < ds.length
  · have e1 : ds.drop i = ds[i] :: ds.drop (i + 1) := List.drop_eq_getElem_cons hlt
    rw [e1] at pc
    unfold dcM at pc
    obtain ⟨jg, jy⟩ := wk.go wc hdq gc.same i ds[i] (List.getElem?_eq_getElem hlt)
    refine .inr ⟨jg, fun H' => ∃ (Fc : Hp) (sc : Sx) (acc : List (Key × D)) (ws : List (Key × V)), Wo c sc Fc H' ∧ Go c F1 H1 Fc H' ∧ Fc Dn = none ∧ H' Dn = some (.dK ws) ∧ RelK c Fc acc ws ∧ acc.length ≤ 1000000 ∧
      Post c W σ F H (fun F' H' a v => RA c H0 H F' H' a v) (dcM mg tt tk tv (wipeE e vs) (ds.drop (i + 1)) acc sc) Q, fun H' hN => ⟨ds.length - (i + 1), by omega, rfl, hlt, hN⟩, fun x H' y => ?_⟩
    obtain ⟨Fy, wy, gy, ry⟩ := jy x H' y
    have fDy : Fy Dn = none := gy.fresh Dn _ fD hD
    have hDy : H' Dn = some (.dK ws) := gy.keep Dn _ hD hd fun ps z => by cases z
    have gy1 := gc.trans gy
    cases eg : mg ds[i] (wipeE e vs) with
    | none => rw [eg] at pc; exact pc.elim
    | some e2 =>
      rw [eg] at pc
      refine hg wy ((h.n.go gy1).wipe vs) ry eg fun σ2 n2 l2 k2 => ⟨?_, ?_⟩
      · rw [wipe_congr l2 k2]
        exact wipe_wipe
      have h2 : Hold c F0 H0 e2 sc σ2 Fy H' := ⟨wy, h.g.trans gy1, n2⟩
      refine rd_mono (noxE h2 pc) fun b H3 ⟨F3, s3, b', h3, g3, rb, p3⟩ => ?_
      subst rb
      have fD3 : F3 Dn = none := g3.fresh Dn _ fDy hDy
      have hD3 : H3 Dn = some (.dK ws) := g3.keep Dn _ hDy hd fun ps z => by cases z
      have gA := gy1.trans g3
      cases b' with
      | false =>
        rw [if_neg (by simp)]
        skip
        rw [if_neg (by simp)] at p3
        exact ⟨F3, s3, acc, ws, h3.w, gA, fD3, hD3, rD.same (gy.same.trans g3.same), lD, p3⟩
      | true =>
        rw [if_pos rfl]
        skip
        rw [if_pos rfl] at p3
        refine rd_mono (noxE h3 p3) fun y H4 ⟨F4, s4, a4, h4, g4, r4, p4⟩ => ?_
        have fD4 : F4 Dn = none := g4.fresh Dn _ fD3 hD3
        have hD4 : H4 Dn = some (.dK ws) := g4.keep Dn _ hD3 hd fun ps z => by cases z
        refine rd_mono (noxE h4 p4) fun z H5 ⟨F5, s5, a5, h5, g5, r5, p5⟩ => ?_
        have fD5 : F5 Dn = none := g5.fresh Dn _ fD4 hD4
        have hD5 : H5 Dn = some (.dK ws) := g5.keep Dn _ hD4 hd fun ps z => by cases z
        cases ek : kyD a4.v with
        | none => rw [ek] at p5; exact p5.elim
        | some kk =>
          rw [ek] at p5
          cases ed : a5.toD with
          | none => rw [ed] at p5; exact p5.elim
          | some zd =>
            rw [ed] at p5
            dsimp only at p5
            split at p5
            · rename_i hacc
              obtain ⟨F6, w6, s6, g6, r6⟩ := frz1 h5.w r5 (Same.refl _) ed
              have gB := g6 F4 g5
              have fD6 : F6 Dn = none := gB.fresh Dn _ fD4 hD4
              have nt : ∀ ps, H5 Dn ≠ some (.tbl ps) := fun ps z => by rw [hD5] at z; cases z
              refine ⟨ws, kk, kyD_ra h4.w ek r4, hD5, by rw [rD.len]; exact Nat.lt_trans hacc big, F6, s5, putG acc kk zd, putK ws kk z, w6.putM fD6 (fun u z => by rw [hD5] at z; cases z; exact True.intro) hd, (gA.trans (g4.trans gB)).putM nD nt hd, fD6, upd_same, ?_, by have := putG_len acc kk zd; omega, p5⟩
              exact (rD.same (gy.same.trans (g3.same.trans (g4.same.trans gB.same)))).put r6
            · exact p5.elim
  · have e1 : i = ds.length := by omega
    subst e1
    rw [List.drop_length] at pc
    unfold dcM at pc
    exact .inl ⟨wk.stop wc gc.same _ (Nat.le_refl _), pc (.ref Dn) Fc Hc wc (gF.trans gc) ⟨Dn, rfl, hDF, fD, hd, lD, _, hD, ws, rfl, rD.1, rD.2⟩⟩
theorem me_dc {ifs : List Expr} {scope : Scope} {own : List (Str × Nat)} {mi : Mi'} {g : TG} {mg : Gm} {tt : Mb} {tk tv : Mv} (hg : GM c H0 (own.map (·.2)) g mg) (hc : X.calm = true) (hN : X.N.Nodup) (hi : MI c F0 H0 W X tg iter mi) (ok : BlkOk X.N X.env.scope scope own)
    (hpg : ∀ (s : Shared) (H : Hp) (C : Addr) (cl : List (Str × Addr)) (fp : List Addr), PG (X.blk s H scope (compEnvC scope cl C X.env) fp) tg g) (ht : ∀ (s : Shared) (H : Hp) (C : Addr) (cl : List (Str × Addr)) (fp : List Addr), MTs c F0 H0 W0 (X.blk s H scope (compEnvC scope cl C X.env) fp) ifs tt)
    (hk : ∀ (s : Shared) (H : Hp) (C : Addr) (cl : List (Str × Addr)) (fp : List Addr), ME c F0 H0 W0 (X.blk s H scope (compEnvC scope cl C X.env) fp) kx tk)
    (he : ∀ (s : Shared) (H : Hp) (C : Addr) (cl : List (Str × Addr)) (fp : List Addr), ME c F0 H0 W0 (X.blk s H scope (compEnvC scope cl C X.env) fp) vx tv) (hs : ∀ x, foldedSetIterable iter X.env x = pure x := by intro _; rfl) :
    ME c F0 H0 W X (.DictComp kx vx [⟨tg, iter, ifs, 0⟩] scope pos) (mDc mi mg tt tk tv (own.map (·.2))) := by
  refine pe_mono (pe_dc hc hN hi ok hpg ht hk he hs) fun σ H Q ⟨F, e, s, hh, p⟩ => ?_
  refine rd_mono (bindK hh p) fun J H1 ⟨F1, s1, ds, h1, g1, wk, p1⟩ => ?_
  exact fun Dn nD => dc_run h1 g1 wk hg p1 nD
/-! ### reading a dict that stands in a slot -/
def dslot (e : Env) (i : Nat) : Option DO := match e[i]? with
  | some (some (.od o)) => some o
  | some (some (.d (.dct ks vs))) => if ks.length = vs.length then some (.k (ks.zip vs)) else none
  | _ => none
def DO.get (o : DO) (d : D) : Option (Option D) := match o with
  | .k kvs => (kyD d).map fun k => getG kvs k
  | .t _ => none
theorem dslot_rel {i : Nat} {kvs : List (Key × D)} (h : Hold c F0 H0 e s σ F H) (hi : dslot e i = some (.k kvs)) : ∃ p ws, σ[i]? = some (some (.ref p)) ∧ H p = some (.dK ws) ∧ RelK c F kvs ws := by
  unfold dslot at hi
  split at hi
  · rename_i o ho
    cases hi
    obtain ⟨v, ev, p, rfl, w⟩ := h.n.at' i _ ho
    obtain ⟨u, hu, ws, rfl, r1, r2⟩ := w.ex
    exact ⟨p, ws, ev, hu, r1, r2⟩
  · rename_i ks vs ho
    split at hi
    · rename_i hl
      cases hi
      obtain ⟨v, ev, r⟩ := h.n.at' i _ ho
      obtain ⟨_, p, ws, rfl, h1, h2, h3⟩ := rp_dct.mp (show Rp c F _ v from r)
      refine ⟨p, ws, ev, h.w.sub _ _ h1, ?_, ?_⟩
      · rw [List.map_fst_zip (by omega)]
        exact h2
      · rw [List.map_snd_zip (by omega)]
        exact h3
    · cases hi
  · cases hi
/-- k in d, k not in d -/
def mDIn (neg : Bool) (i : Nat) (mk : Mv) : Mv := fun e s => match dslot e i with
  | none => .bad
  | some o => (mk e s).bind fun y s1 => match o.get y.v with
    | some r => .ok (.d (.bl (if neg = true then !r.isSome else r.isSome))) s1
    | none => .bad
/-- d[k] -/
def mDGet (i : Nat) (mk : Mv) : Mv := fun e s => match dslot e i with
  | none => .bad
  | some o => (mk e s).bind fun y s1 => match o.get y.v with
    | some (some d) => .ok (.d d) s1
    | _ => .bad
theorem rd_key {i : Nat} {mk : Mv} {Q : VK} {k : A → Sx → Res A} {F : Hp} (hh : Hold c F0 H0 e s σ F H) (p : Post c W σ F H (fun F' H' a v => RA c H0 H F' H' a v) ((mk e s).bind k) Q) {R : V → Hp → Prop}
    (q : ∀ v F1 H1 s1 x, Hold c F0 H0 e s1 σ F1 H1 → Go c F H F1 H1 → RA c H0 H F1 H1 x v → Post c W σ F1 H1 (fun F' H' a v => RA c H0 H1 F' H' a v) (k x s1) Q → R v H1) : rd c F0 H0 W (fun Hb F H a v => RA c H0 Hb F H a v) mk σ H R :=
  rd_mono (bindE (R' := fun Hb F H a v => RA c H0 Hb F H a v) hh (fun h r => r.since h) p) fun y H1 ⟨F1, s1, a1, h1, g1, r1, p1⟩ => q _ _ _ _ _ h1 g1 r1 p1
theorem dGet_of {i : Nat} {o : DO} {d : D} {r : Option D} {y : V} (h : Hold c F0 H0 e s σ F H) (hi : dslot e i = some o) (hg : o.get d = some r) (hv : ∀ k, kyD d = some k → y = kV k) :
    ∃ p ov, σ[i]? = some (some (.ref p)) ∧ DGet H p y ov ∧ (∀ d', r = some d' → ∃ v, ov = some v ∧ Rp c F d' v) ∧ ov.isSome = r.isSome := by
  cases o with
  | t kvs => cases hg
  | k kvs =>
    unfold DO.get at hg
    dsimp only at hg
    cases ek : kyD d with
    | none => rw [ek] at hg; cases hg
    | some k =>
      rw [ek] at hg
      cases hg
      obtain ⟨p, ws, hσ, hp, rel⟩ := dslot_rel h hi
      obtain ⟨g1, g2⟩ := rel.get (k := k)
      refine ⟨p, valV ws k, hσ, by rw [hv k ek]; exact DGet.k hp, fun d' e' => g1 d' e', ?_⟩
      show (valV ws k).isSome = (getG kvs k).isSome
      cases q : getG kvs k with
      | none => rw [g2 q]; rfl
      | some d' =>
        obtain ⟨v, e1, _⟩ := g1 d' q
        rw [e1]
        rfl
theorem dslot_ref {i : Nat} {o : DO} (h : Hold c F0 H0 e s σ F H) (hi : dslot e i = some o) : ∃ p, σ[i]? = some (some (V.ref p)) := by
  cases o with
  | k kvs => obtain ⟨p, ws, h1, _⟩ := dslot_rel h hi; exact ⟨p, h1⟩
  | t kvs =>
    unfold dslot at hi
    split at hi
    · rename_i o' ho
      obtain ⟨v, ev, p, rfl, w⟩ := h.n.at' i _ ho
      exact ⟨p, ev⟩
    · split at hi <;> cases hi
    · cases hi
theorem me_dgetS {i : Nat} {x : Str} {p2 : Pos} (hu : X.A.units + 1 < cLine) (ho : PE X (.Name x p2) (tVar i)) (hk : ME c F0 H0 W X b m1) (hs : NoSl b) : ME c F0 H0 W X (.Subscript (.Name x p2) b pos) (mDGet i m1) := by
  refine pe_mono (pe_dget hu ho hk hs) fun σ H Q ⟨F, e, s, hh, p⟩ => ?_
  unfold mDGet at p
  cases hi : dslot e i with
  | none => rw [hi] at p; exact p.elim
  | some o =>
    rw [hi] at p
    obtain ⟨q0, hq0⟩ := dslot_ref hh hi
    refine ⟨_, hq0, rd_key (i := i) hh p fun y F1 H1 s1 x h1 g1 r1 p1 => ?_⟩
    split at p1
    · rename_i d hg
      obtain ⟨q, ov, h2, h3, h4, h5⟩ := dGet_of h1 hi hg fun k ek => kyD_ra h1.w ek r1
      rw [hq0] at h2
      cases h2
      obtain ⟨w, rfl, rw'⟩ := h4 d rfl
      exact ⟨_, w, rfl, h3, p1 w F1 H1 h1.w .refl rw'⟩
    · exact p1.elim
theorem din_sound {neg : Bool} {i : Nat} {Q : VK} (h : rd c F0 H0 W (fun Hb F H a v => RA c H0 Hb F H a v) (mDIn neg i m1) σ H Q) :
    rd c F0 H0 W (fun Hb F H a v => RA c H0 Hb F H a v) m1 σ H fun y H1 => tVar i σ H1 fun x H2 => ∃ a o, x = .ref a ∧ DGet H2 a y o ∧ Q (.bl (if neg = true then !o.isSome else o.isSome)) H2 := by
  obtain ⟨F, e, s, hh, p⟩ := h
  unfold mDIn at p
  cases hi : dslot e i with
  | none => rw [hi] at p; exact p.elim
  | some o =>
    rw [hi] at p
    refine rd_key (i := i) hh p fun y F1 H1 s1 x h1 g1 r1 p1 => ?_
    split at p1
    · rename_i r hg
      obtain ⟨q, ov, h2, h3, h4, h5⟩ := dGet_of h1 hi hg fun k ek => kyD_ra h1.w ek r1
      refine ⟨_, h2, q, ov, rfl, h3, ?_⟩
      rw [h5]
      exact p1 _ F1 H1 h1.w .refl ra_bl
    · exact p1.elim
theorem me_dinS {i : Nat} {x : Str} {p2 : Pos} (hu : X.A.units + 1 < cLine) (ho : PE X (.Name x p2) (tVar i)) (hk : ME c F0 H0 W X a m1) (hm : behindInMarks .In (.Name x p2) = false := by rfl) : ME c F0 H0 W X (.Compare a [.In] [.Name x p2] pos) (mDIn false i m1) :=
  pe_mono (pe_cmp (pc_din hu hk ho) hm) fun σ H Q h => din_sound (neg := false) h
theorem me_dninS {i : Nat} {x : Str} {p2 : Pos} (hu : X.A.units + 1 < cLine) (ho : PE X (.Name x p2) (tVar i)) (hk : ME c F0 H0 W X a m1) (hm : behindInMarks .NotIn (.Name x p2) = false := by rfl) : ME c F0 H0 W X (.Compare a [.NotIn] [.Name x p2] pos) (mDIn true i m1) :=
  pe_mono (pe_cmp (pc_dnotin hu hk ho) hm) fun σ H Q h => din_sound (neg := true) h
theorem mt_dinS {i : Nat} {x : Str} {p2 : Pos} (hu : X.A.units + 1 < cLine) (ho : PE X (.Name x p2) (tVar i)) (hk : ME c F0 H0 W X a m1) (hm : behindInMarks .In (.Name x p2) = false := by rfl) : MT c F0 H0 W X (.Compare a [.In] [.Name x p2] pos) (mBool (mDIn false i m1)) :=
  mt_of (pt_cmp (pc_din hu hk ho) hm) fun σ H Q h => din_sound (neg := false) h
theorem mt_dninS {i : Nat} {x : Str} {p2 : Pos} (hu : X.A.units + 1 < cLine) (ho : PE X (.Name x p2) (tVar i)) (hk : ME c F0 H0 W X a m1) (hm : behindInMarks .NotIn (.Name x p2) = false := by rfl) : MT c F0 H0 W X (.Compare a [.NotIn] [.Name x p2] pos) (mBool (mDIn true i m1)) :=
  mt_of (pt_cmp (pc_dnotin hu hk ho) hm) fun σ H Q h => din_sound (neg := true) h
/-! ### {k: v, ..}[key] -/
def mPairs : List (Mv × Mv) → Env → Sx → Res (List (Key × D))
  | [], _, s => .ok [] s
  | (mk, mv) :: r, e, s => (mk e s).bind fun y s1 => (mv e s1).bind fun z s2 => match kyD y.v, z.toD with
    | some k, some d => (mPairs r e s2).bind fun ps s3 => .ok ((k, d) :: ps) s3
    | _, _ => .bad
/-- the new dict's pairs, later ones over earlier ones -/
def mergeG (kvs more : List (Key × D)) : List (Key × D) := more.foldl (fun acc kv => putG acc kv.1 kv.2) kvs
theorem RelK.merge {F : Hp} : ∀ {more : List (Key × D)} {rs : List (Key × V)} {kvs : List (Key × D)} {ws : List (Key × V)}, RelK c F more rs → RelK c F kvs ws → RelK c F (mergeG kvs more) (mergeK ws rs)
  | [], rs, kvs, ws, h, g => by
    have := h.len
    cases rs with
    | nil => exact g
    | cons _ _ => cases this
  | kv :: more, rs, kvs, ws, h, g => by
    obtain ⟨v, rs', rfl, r1, r2⟩ := relK_cons h
    show RelK c F (mergeG (putG kvs kv.1 kv.2) more) (mergeK (putK ws kv.1 v) rs')
    exact RelK.merge r2 (g.put r1)
def mDisp (ms : List (Mv × Mv)) : Mv := fun e s => (mPairs ms e s).bind fun ps s1 => if ps.length ≤ 15 then .ok (.od (.k (mergeG [] ps))) s1 else .bad
/-- the readings of a display's pairs -/
def trsOf (c : Cc) (F0 H0 : Hp) (W : WX) : List (Mv × Mv) → List (TE × TE)
  | [] => []
  | (mk, mv) :: r => (rd c F0 H0 W (fun Hb F H a v => RA c H0 Hb F H a v) mk, rd c F0 H0 W (fun Hb F H a v => RA c H0 Hb F H a v) mv) :: trsOf c F0 H0 W r
theorem mergeG_len (more : List (Key × D)) : ∀ kvs : List (Key × D), (mergeG kvs more).length ≤ kvs.length + more.length := by
  induction more with
  | nil => intro kvs; exact Nat.le_refl _
  | cons p r ih =>
    intro kvs
    have h1 := ih (putG kvs p.1 p.2)
    have h2 := putG_len kvs p.1 p.2
    show (mergeG (putG kvs p.1 p.2) r).length ≤ _
    rw [List.length_cons]
    omega
theorem pairs_sound {γ δ : Type} {R' : Hp → Hp → γ → δ → Prop} {Qo : δ → Hp → Prop} : ∀ {ms : List (Mv × Mv)} {Fo Ho F H : Hp} {s : Sx} {k : List (Key × D) → Sx → Res γ}, Hold c F0 H0 e s σ F H → Go c Fo Ho F H → Post c W σ Fo Ho R' ((mPairs ms e s).bind k) Qo →
    ∀ {Q : List (V × V) → Hp → Prop}, (∀ ps kvs ws F1 H1 s1, Hold c F0 H0 e s1 σ F1 H1 → Go c F H F1 H1 → RelK c F1 kvs ws → ps = ws.map (fun kv => (kV kv.1, kv.2)) → Post c W σ Fo Ho R' (k kvs s1) Qo → Q ps H1) → tPairs (trsOf c F0 H0 W ms) σ H Q
  | [], Fo, Ho, F, H, s, k, hh, g, p, Q, q => q [] [] [] F H s hh .refl relK_nil rfl p
  | (mk, mv) :: r, Fo, Ho, F, H, s, k, hh, g, p, Q, q => by
    have p : Post c W σ Fo Ho R' ((mk e s).bind fun y s1 => ((mv e s1).bind fun z s2 => match kyD y.v, z.toD with
      | some k, some d => (mPairs r e s2).bind fun ps s3 => .ok ((k, d) :: ps) s3
      | _, _ => .bad).bind k) Qo := by
      unfold mPairs at p
      cases q1 : mk e s with
      | ok y s1 => rw [q1] at p; exact p
      | er k1 s1 => rw [q1] at p; exact p
      | bad => rw [q1] at p; exact p
    show rd c F0 H0 W _ mk σ H _
    refine ⟨F, e, s, hh, ?_⟩
    cases q1 : mk e s with
    | er k1 s1 => rw [q1] at p; exact fun F' H' w g' => p F' H' w (g.trans g')
    | bad => rw [q1] at p; exact p
    | ok y s1 =>
      rw [q1] at p
      intro vy F1 H1 w1 g1 r1
      have h1 := hh.go g1 w1
      refine ⟨F1, e, s1, h1, ?_⟩
      have p : Post c W σ Fo Ho R' (((mv e s1).bind fun z s2 => match kyD y.v, z.toD with
        | some k, some d => (mPairs r e s2).bind fun ps s3 => .ok ((k, d) :: ps) s3
        | _, _ => .bad).bind k) Qo := p
      cases q2 : mv e s1 with
      | er k1 s1 => rw [q2] at p; exact fun F' H' w g' => p F' H' w ((g.trans g1).trans g')
      | bad => rw [q2] at p; exact p
      | ok z s2 =>
        rw [q2] at p
        intro vz F2 H2 w2 g2 r2
        have p : Post c W σ Fo Ho R' ((match kyD y.v, z.toD with
          | some k, some d => (mPairs r e s2).bind fun ps s3 => .ok ((k, d) :: ps) s3
          | _, _ => .bad : Res (List (Key × D))).bind k) Qo := p
        cases ek : kyD y.v with
        | none => rw [ek] at p; exact p.elim
        | some kk =>
          rw [ek] at p
          cases ed : z.toD with
          | none => rw [ed] at p; exact p.elim
          | some zd =>
            rw [ed] at p
            have p : Post c W σ Fo Ho R' ((mPairs r e s2).bind fun ps s3 => k ((kk, zd) :: ps) s3) Qo := by
              have p : Post c W σ Fo Ho R' (((mPairs r e s2).bind fun ps s3 => Res.ok ((kk, zd) :: ps) s3).bind k) Qo := p
              cases q3 : mPairs r e s2 with
              | ok y s1 => rw [q3] at p; exact p
              | er k1 s1 => rw [q3] at p; exact p
              | bad => rw [q3] at p; exact p
            obtain ⟨F3, w3, sm3, g3, r3⟩ := frz1 w2 r2 (Same.refl _) ed
            have gA := g3 F1 g2
            have h3 : Hold c F0 H0 e s2 σ F3 H2 := h1.go gA w3
            refine pairs_sound (ms := r) h3 ((g.trans g1).trans gA) p fun ps kvs ws F4 H4 s4 h4 g4 rel eps p4 => ?_
            refine q _ ((kk, zd) :: kvs) ((kk, vz) :: ws) F4 H4 s4 h4 ((g1.trans gA).trans g4) (relK_mk (kv := (kk, zd)) (rp_same g4.same _ _ r3) rel) ?_ p4
            rw [kyD_ra w1 ek r1, eps]
            rfl
theorem me_disp {keys : List (Option Expr)} {values : List Expr} {ms : List (Mv × Mv)} (h : PPs X pos keys values (trsOf c F0 H0 W ms)) (hall : keys.all (·.isSome) = true) (hl : keys.length = values.length) (h0 : keys ≠ []) (h15 : keys.length ≤ 15) : ME c F0 H0 W X (.Dict keys values pos) (mDisp ms) := by
  refine pe_mono (pe_disp h hall hl h0 h15) fun σ H Q ⟨F, e, s, hh, p⟩ => ?_
  intro D nD
  have hd := hh.dq D nD
  have h1 : Hold c F0 H0 e s σ F (upd H D (.dK [])) := hh.go (.newM nD) (hh.w.newM nD)
  have fD := hh.w.fnone nD
  refine pairs_sound (e := e) (Fo := F) (Ho := H) h1 (.newM nD) p fun ps kvs ws F1 H1 s1 h2 g2 rel eps p2 => ?_
  have hD1 : H1 D = some (.dK []) := g2.keep D _ upd_same hd fun ps z => by cases z
  have fD1 : F1 D = none := g2.fresh D _ fD upd_same
  have nt : ∀ ps, H1 D ≠ some (.tbl ps) := fun ps z => by rw [hD1] at z; cases z
  dsimp only at p2
  split at p2
  · rename_i hk
    refine ⟨hD1, ws, eps, by rw [rel.len]; exact hk, ?_⟩
    have gT : Go c F H F1 H1 := (Go.newM nD).trans g2
    refine p2 (.ref D) F1 _ (h2.w.putM fD1 (fun u z => by rw [hD1] at z; cases z; exact True.intro) hd) (gT.putM nD nt hd) ⟨D, rfl, nD, fD1, hd, ?_, _, upd_same, _, rfl, (rel.merge relK_nil).1, (rel.merge relK_nil).2⟩
    have := mergeG_len kvs []
    rw [List.length_nil] at this
    show (mergeG [] kvs).length ≤ _
    omega
  · exact p2.elim
theorem mpp_nil {X : Cx} {pos : Pos} : PPs X pos [] [] (trsOf c F0 H0 W []) := pps_nil
theorem mpp_cons {X : Cx} {pos : Pos} {k v : Expr} {ks : List (Option Expr)} {vs : List Expr} {mk mv : Mv} {ms : List (Mv × Mv)} (hk : ME c F0 H0 W X k mk) (hv : ME c F0 H0 W X v mv) (hr : PPs X pos ks vs (trsOf c F0 H0 W ms)) :
    PPs X pos (some k :: ks) (v :: vs) (trsOf c F0 H0 W ((mk, mv) :: ms)) := pps_cons hk hv hr
/-- {..}[key] -/
def mDGetV (md mk : Mv) : Mv := fun e s => (md e s).bind fun x s1 => (mk e s1).bind fun y s2 => match x with
  | .od o => match o.get y.v with
    | some (some d) => .ok (.d d) s2
    | _ => .bad
  | _ => .bad
theorem me_dgetV (hu : X.A.units + 1 < cLine) (ho : ME c F0 H0 W X a m1) (hk : ME c F0 H0 W X b m2) (hs : NoSl b) : ME c F0 H0 W X (.Subscript a b pos) (mDGetV m1 m2) := by
  refine pe_mono (pe_dget hu ho hk hs) fun σ H Q ⟨F, e, s, hh, p⟩ => ?_
  refine rd_key (i := 0) hh p fun x F1 H1 s1 a1 h1 g1 r1 p1 => ?_
  refine rd_key (i := 0) h1 p1 fun y F2 H2 s2 a2 h2 g2 r2 p2 => ?_
  cases a1 with
  | od o =>
    dsimp only at p2
    split at p2
    · rename_i d hg
      cases o with
      | t kvs => cases hg
      | k kvs =>
        unfold DO.get at hg
        dsimp only at hg
        cases ek : kyD a2.v with
        | none => rw [ek] at hg; cases hg
        | some kk =>
          rw [ek] at hg
          have hg : getG kvs kk = some d := Option.some.inj hg
          obtain ⟨q, rfl, ow⟩ := r1.go g2
          obtain ⟨u, hu', ws, rfl, e1, e2⟩ := ow.ex
          obtain ⟨v, e3, rv⟩ := (RelK.get (k := kk) (⟨e1, e2⟩ : RelK c F2 kvs ws)).1 d hg
          refine ⟨q, v, rfl, ?_, p2 v F2 H2 h2.w .refl rv⟩
          rw [kyD_ra h2.w ek r2, ← e3]
          exact DGet.k hu'
    · exact p2.elim
  | d t => exact p2.elim
  | own t => exact p2.elim
  | bor t => exact p2.elim
  | exc t => exact p2.elim
end
end Mi
/-! x = {k: v for ..} -/
namespace Mi
open PySem PySem.Spec PyProof.Rows L2 Kt Kj
section
variable {X : Cx}
theorem swD_true {kx vx : Expr} {gs : List Comprehension} {scope : Scope} {pos py : Pos} {y : Str} {l : Nat} {env : PySem.Env} (hk : env.scope.kind = .function) (hy : env.scope.names.lookup y = some .local) (hl : (py.line == pos.line) = true)
    (ha : (scope.names.any fun (n, k) => n == y && (k == .local || k == .cell)) = false) : swapsWith (.DictComp kx vx gs scope pos) (some (.Name y py)) l env = pure true := by
  have k1 : env.kindOf y = some .local := hy
  have k2 : env.blockKind = .function := by
    unfold Env.blockKind
    rw [hk]
    rfl
  unfold swapsWith
  simp only [k2, k1, ha, Expr.pos, hl]
  rfl
theorem ps_setDc {i : Nat} {y : Str} {py pos spos : Pos} {kx vx tg iter : Expr} {ifs : List Expr} {scope : Scope} {own : List (Str × Nat)} {wi : TI} {g : TG} {tt : TT} {tk tv : TE} (hc : X.calm = true) (hN : X.N.Nodup) (hy : X.N[i]? = some y) (hyl : X.env.scope.names.lookup y = some .local)
    (sw : swapsWith (.DictComp kx vx [⟨tg, iter, ifs, 0⟩] scope pos) (some (.Name y py)) spos.line X.env = pure true) (hi : PI X tg iter wi) (ok : BlkOk X.N X.env.scope scope own)
    (hg : ∀ (s : Shared) (H : Hp) (C : Addr) (cl : List (Str × Addr)) (fp : List Addr), PG (X.blk s H scope (compEnvC scope cl C X.env) fp) tg g) (ht : ∀ (s : Shared) (H : Hp) (C : Addr) (cl : List (Str × Addr)) (fp : List Addr), PTs (X.blk s H scope (compEnvC scope cl C X.env) fp) ifs tt)
    (hk : ∀ (s : Shared) (H : Hp) (C : Addr) (cl : List (Str × Addr)) (fp : List Addr), PE (X.blk s H scope (compEnvC scope cl C X.env) fp) kx tk)
    (he : ∀ (s : Shared) (H : Hp) (C : Addr) (cl : List (Str × Addr)) (fp : List Addr), PE (X.blk s H scope (compEnvC scope cl C X.env) fp) vx tv) (hs : ∀ x, foldedSetIterable iter X.env x = pure x := by intro _; rfl) :
    PS X (.Assign [.Name y py] (.DictComp kx vx [⟨tg, iter, ifs, 0⟩] scope pos) spos) (tAsg (tDc wi g tt tk tv (own.map (·.2))) (gName i)) := by
  refine ⟨fun pins s σ H D I h => ?_⟩
  rw [exec_Assign_Name_used _ _ _ _ sw]
  refine wpAny_bind (wpAny_standAt (wpAny_bind ?_))
  show wpAny _ X.A (do let _ ← comprehension (.DictComp kx vx [⟨tg, iter, ifs, 0⟩] scope pos) scope X.env (firstIterPos [⟨tg, iter, ifs, 0⟩] pos) newDict false (eval iter X.env) (some (assign (.Name y py) X.env))) _ _ s
  have h' : tDc wi g tt tk tv (own.map (·.2)) σ H (fun x H1 => gName i x σ H1 D.nx) := h
  refine wpAny_bind (thn (dc_core (Qf := fun _ s2 => SP X pins D .next s2) hc hN I hi ok hg ht hk he hs h' fun N0 B s2 m G I2 q hn f => ?_) fun _ s2 hq => wpAny_pure (wpAny_pure hq))
  show wpAny _ _ (assign (.Name y py) X.env (.ref N0)) _ _ _
  refine wpAny_assign_Name (store_ok2 (v := V.ref N0) I2 hN hy (.inl hyl) rfl (fun s3 I3 ⟨a, sb, ha⟩ => ?_) (.inr hyl))
  obtain ⟨f0, f1, f2, f3, f4, f5⟩ := f
  have nB : B ≠ a := by
    rcases ha with z | z
    · rw [z]
      exact f1
    · exact fun e => f4 y a z e.symm
  exact ⟨m, hn.sameBut sb nB, fun h3 sb3 => ⟨_, G, I3.turned (t' := s3.toks) (fun b o hb e => (sb3.2 b hb).trans e) f0 f1 f3 f4 f5, q⟩⟩
end
section
variable {c : Cc} {F0 H0 : Hp} {W : WX} {X : Cx} {pos : Pos} [hq : Dq c H0]
theorem dc_sound {mi : Mi'} {g : TG} {mg : Gm} {tt : Mb} {tk tv : Mv} {vs : List Nat} {σ : L2.St} {H : Hp} {Q : VK} (hg : GM c H0 vs g mg) (h : rd c F0 H0 W (fun Hb F H a v => RA c H0 Hb F H a v) (mDc mi mg tt tk tv vs) σ H Q) :
    tDc (rd c F0 H0 W (RI c) mi) g (rd c F0 H0 W0 (fun _ _ _ a v => a = v) tt) (rd c F0 H0 W0 (fun Hb F H a v => RA c H0 Hb F H a v) tk) (rd c F0 H0 W0 (fun Hb F H a v => RA c H0 Hb F H a v) tv) vs σ H Q := by
  obtain ⟨F, e, s, hh, p⟩ := h
  refine rd_mono (bindK hh p) fun J H1 ⟨F1, s1, ds, h1, g1, wk, p1⟩ => ?_
  exact fun Dn nD => dc_run h1 g1 wk hg p1 nD
theorem ms_setDc {i : Nat} {y : Str} {py spos : Pos} {kx vx tg iter : Expr} {ifs : List Expr} {scope : Scope} {own : List (Str × Nat)} {mi : Mi'} {g : TG} {mg : Gm} {tt : Mb} {tk tv : Mv} (hg : GM c H0 (own.map (·.2)) g mg) (hc : X.calm = true) (hN : X.N.Nodup) (hy : X.N[i]? = some y) (hyl : X.env.scope.names.lookup y = some .local)
    (sw : swapsWith (.DictComp kx vx [⟨tg, iter, ifs, 0⟩] scope pos) (some (.Name y py)) spos.line X.env = pure true) (hi : MI c F0 H0 W X tg iter mi) (ok : BlkOk X.N X.env.scope scope own)
    (hpg : ∀ (s : Shared) (H : Hp) (C : Addr) (cl : List (Str × Addr)) (fp : List Addr), PG (X.blk s H scope (compEnvC scope cl C X.env) fp) tg g) (ht : ∀ (s : Shared) (H : Hp) (C : Addr) (cl : List (Str × Addr)) (fp : List Addr), MTs c F0 H0 W0 (X.blk s H scope (compEnvC scope cl C X.env) fp) ifs tt)
    (hk : ∀ (s : Shared) (H : Hp) (C : Addr) (cl : List (Str × Addr)) (fp : List Addr), ME c F0 H0 W0 (X.blk s H scope (compEnvC scope cl C X.env) fp) kx tk)
    (he : ∀ (s : Shared) (H : Hp) (C : Addr) (cl : List (Str × Addr)) (fp : List Addr), ME c F0 H0 W0 (X.blk s H scope (compEnvC scope cl C X.env) fp) vx tv) (hs : ∀ x, foldedSetIterable iter X.env x = pure x := by intro _; rfl) :
    MS c F0 H0 W X (.Assign [.Name y py] (.DictComp kx vx [⟨tg, iter, ifs, 0⟩] scope pos) spos) (mSet i (mDc mi mg tt tk tv (own.map (·.2)))) := by
  refine ps_mono (ps_setDc hc hN hy hyl sw hi ok hpg ht hk he hs) fun D σ H ⟨F, e, s, hh, p⟩ => ?_
  refine dc_sound hg (rd_mono (bindS hh p) fun v H1 ⟨F1, s1, y, h1, g1, r1, p1⟩ => ?_)
  try dsimp only at p1
  split at p1
  · exact p1.elim
  · rename_i hb
    exact p1 _ F1 H1 (Same.refl _) (hh.setA g1 h1.w r1 (by simpa using hb))
end
end Mi
/-! own: sorted(xs) of any data that can be compared place by place -/
namespace Mi
open PySem PySem.Spec PyProof.Rows L2 Kt Kj
open PySem.W (alike alikeAll dataLt dataLe EachIs AllAlike Sortable)
def leD (x y : D) : Bool := !dataLt (pyD y) (pyD x)
def isTup1 : D → Bool
  | .tup (_ :: _) => true
  | _ => false
def notTN : D → Bool
  | .int _ => true
  | .str _ => true
  | .bl _ => true
  | .lst _ => true
  | _ => false
/-- they can be sorted -/
def sortOk (ds : List D) : Bool := ds.all (fun d => lay d 40) && (ds.all (fun d => ds.all fun d' => alike (pyD d) (pyD d')) && (ds.all isTup1 || ds.all notTN))
def dSortD : List D → Option A
  | [.lst ds] => if sortOk ds = true then some (.own (ds.mergeSort leD)) else none
  | [.tup ds] => if sortOk ds = true then some (.own (ds.mergeSort leD)) else none
  | _ => none
/-- its reading: the items stand for data -/
def rSortD (c : Cc) : List V → Hp → VK → Prop := fun vs H Q => ∃ (a : Addr) (xs : List V) (ds : List D) (F : Hp), vs = [V.ref a] ∧ (SqL c.K H a xs ∨ SqT c.K H a xs ∧ xs.length ≤ sizeLine) ∧ RpL c F ds xs ∧ Same F H ∧ sortOk ds = true ∧ ∀ (ys : List V) (p : Addr), RpL c F (ds.mergeSort leD) ys → H p = none → Q (.ref p) (upd H p (.lst ys))
theorem rpL_zip {c : Cc} {F : Hp} : ∀ {ds : List D} {xs : List V}, RpL c F ds xs → ∀ b ∈ xs.zip ds, Rp c F b.2 b.1
  | [], xs, h, b, hb => by rw [List.zip_nil_right] at hb; cases hb
  | d :: ds, xs, h, b, hb => by
    obtain ⟨v, r, rfl, h1, h2⟩ := rpL_cons.mp h
    rw [List.zip_cons_cons] at hb
    rcases List.mem_cons.mp hb with rfl | hb
    · exact h1
    · exact rpL_zip h2 b hb
theorem rpL_of {c : Cc} {F : Hp} : ∀ {bs : List (V × D)}, (∀ b ∈ bs, Rp c F b.2 b.1) → RpL c F (bs.map Prod.snd) (bs.map Prod.fst)
  | [], _ => rpL_nil.mpr rfl
  | b :: bs, h => rpL_cons.mpr ⟨b.1, _, rfl, h b List.mem_cons_self, rpL_of fun x hx => h x (List.mem_cons_of_mem _ hx)⟩
theorem each_zip {α : Type} {R : Value → V → Prop} : ∀ {us : List Value} {xs : List V} {ds : List D}, Paired (fun x u => R u x) xs us → xs.length = ds.length → EachIs (fun u (b : V × D) => R u b.1) us (xs.zip ds)
  | _, _, [], .nil, _ => .nil
  | _, _, d :: ds, .cons r t, h => .cons r (each_zip (α := α) t (by simpa using h))
  | _, _, [], .cons r t, h => by simp at h
  | _, _, _ :: _, .nil, h => by simp at h
theorem each_vals : ∀ {us : List Value} {bs : List (V × D)}, EachIs (fun u (b : V × D) => L2.RelV b.1 u) us bs → L2.Vals (bs.map Prod.fst) us
  | _, _, .nil => .nil
  | _, _, .cons r t => .cons r (each_vals t)
section
open PySem.Calls PySem.W PyProof.Rows
variable {prog : Program} {w : World} {A : Around} {E : Value → Shared → Prop} {s : Shared} {β : Type} {R : Value → β → Prop} {enc : β → PyData} {vs : List Value} {bs : List β}
theorem sorted_of_sortT {l : Addr} {vs : List Value} {Q : Value → Shared → Prop} (hl : IsTup s.heap l vs.toArray) (hL : vs.length ≤ sizeLine)
    (body : ∀ E' : Value → Shared → Prop, wpAny (model prog w) A.in1.in1 (Builtin.«list.sort» ⟨[.ref (s.heap.objs.size + 1)], []⟩) (fun f s' => f = .done (.ret .none) ∧ Q (.ref (s.heap.objs.size + 1)) s') E' { s with heap := copyHeap s.heap vs }) :
    wpAny (model prog w) A (call (.builtin "sorted") [.ref l]) Q E s := by
  refine call_function_entry_kw kind_sorted plain_sorted entry_sorted (args_sorted1 _) ?_
  unfold Builtin.«sorted»
  refine wpAny_bind (m := checkCount "sorted" 1 1 _) (wpAny_pure ?_)
  refine wpAny_bind (collect_tuple hl ?_ hL)
  refine wpAny_bind (wpAny_newList ?_ hL)
  have hsz : ((s.heap.push (seqObj "list" #[] 0)).update s.heap.objs.size (Obj.mapSeq (· ++ vs.toArray))).objs.size = s.heap.objs.size + 1 := by
    rw [Heap.size_update, size_push']
  show wpAny _ _ _ _ _ { s with heap := copyHeap s.heap vs }
  rw [hsz]
  refine wpAny_bind (wpAny_holding (wpAny_call_entry_kw slot_list_sort ⟨_, copyHeap_at s.heap vs, rfl⟩ entry_list_sort ?body (args_list_sort _)))
  case body =>
    show wpAny (model prog w) A.in1.in1 (Builtin.«list.sort» ⟨[.ref (s.heap.objs.size + 1)], []⟩) _ _ _
    refine wpAny_mono (body _) (fun f s' hf => ?_) fun _ _ e => e
    obtain ⟨rfl, hq⟩ := hf
    exact ⟨_, rfl, wpAny_pure ⟨_, rfl, hq⟩⟩
theorem sorted_dataT {l : Addr} {Q : Value → Shared → Prop} (hl : IsTup s.heap l vs.toArray) (e : EachIs R vs bs) (er : EachIs (fun v b => ∃ as, Reads s.heap v (enc b) as) vs bs) (hal : AllAlike (bs.map enc)) (hk : Sortable (bs.map enc)) (hL : bs.length ≤ sizeLine)
    (hu : ∀ b, b ∈ bs → A.units + 2 + (enc b).depth < cLine) (h : ∀ out, out.length = bs.length → EachIs R out (bs.mergeSort (dataLe false enc)) → Q (.ref (s.heap.objs.size + 1)) { s with heap := sortedAll s.heap vs (List.toArray out) }) :
    wpAny (model prog w) A (call (.builtin "sorted") [.ref l]) Q E s := by
  have er' : EachIs (fun v b => ∃ as, Reads (sortingHeap (copyHeap s.heap vs) (s.heap.objs.size + 1) vs) v (enc b) as) vs bs := er.mono fun _ _ ⟨as, r⟩ => ⟨as, PyProof.Rows.Reads.keeps (fun _ _ => sorting_copy_old) r⟩
  exact sorted_of_sortT hl (by rw [e.length]; exact hL) fun _ => list_sort_vals (s := { s with heap := copyHeap s.heap vs }) (copyHeap_at s.heap vs) (SortsAt.data (s := { s with heap := sortingHeap (copyHeap s.heap vs) (s.heap.objs.size + 1) vs }) (each_map (R := fun v d => ∃ as, Reads (sortingHeap (copyHeap s.heap vs) (s.heap.objs.size + 1) vs) v d as) enc er') hal hk (bound_map hu)) (by rw [e.length]; exact hL)
    ⟨rfl, h _ (by rw [sortVals_length false rfl]; exact e.length) (sortVals_data false e er' hal)⟩
end
section
variable {c : Cc} {X : Cx}
theorem each_and {P : (V × D) → Value → Prop} {pr : V × D → Prop} : ∀ {us : List Value} {bs : List (V × D)}, EachIs (fun u (b : V × D) => L2.RelV b.1 u) us bs → (∀ b ∈ bs, pr b) → (∀ b u, L2.RelV b.1 u → pr b → P b u) → EachIs (fun u b => P b u) us bs
  | _, _, .nil, _, _ => .nil
  | _, _, .cons r t, h, k => .cons (k _ _ r (h _ List.mem_cons_self)) (each_and t (fun b hb => h b (List.mem_cons_of_mem _ hb)) k)
theorem cr_sortD (hK : X.K = c.K) (hu : X.A.units + 64 < cLine) : CallR X (.builtin "sorted") (rSortD c) := by
  intro pins s σ H vs us Q I r h
  obtain ⟨a, xs, ds, F, rfl, hs, hr, sm, ok, q⟩ := h
  rw [← hK] at hs
  have hs2 : ∃ (its : List Value) (rv : L2.Vals xs its), (s.heap.IsList a its.toArray ∨ IsTup s.heap a its.toArray) ∧ xs.length ≤ sizeLine := by
    rcases hs with hs | ⟨hs, hz⟩
    · obtain ⟨its, rv, hl, hz⟩ := I.list hs
      exact ⟨its, rv, .inl hl.isList, hz⟩
    · obtain ⟨its, rv, hl, _⟩ := I.tuple hs
      exact ⟨its, rv, .inr hl, hz⟩
  obtain ⟨its, rv, hl, hz⟩ := hs2
  rw [Vals.ref1 r]
  unfold sortOk at ok
  simp only [Bool.and_eq_true, Bool.or_eq_true, List.all_eq_true] at ok
  obtain ⟨ok1, ok2, ok3⟩ := ok
  have hlen : xs.length = ds.length := hr.len
  have zs := rpL_zip hr
  have memD : ∀ b ∈ xs.zip ds, b.2 ∈ ds := fun b hb => (List.of_mem_zip (show (b.1, b.2) ∈ _ from hb)).2
  have ez : EachIs (fun u (b : V × D) => L2.RelV b.1 u) its (xs.zip ds) := each_zip (α := Nat) (R := fun u x => L2.RelV x u) rv hlen
  have er : EachIs (fun u (b : V × D) => ∃ as, Reads s.heap u (pyD b.2) as) its (xs.zip ds) := each_and (P := fun b u => ∃ as, Reads s.heap u (pyD b.2) as) ez (pr := fun b => b ∈ xs.zip ds) (fun b hb => hb) fun b u ru hb => by
    have := (rp_dp b.2 b.1 40 (ok1 _ (memD b hb)) (zs b hb)).1
    rw [← hK] at this
    exact Dp.reads I _ _ _ (dp_same sm _ _ this) ru
  have al : AllAlike ((xs.zip ds).map fun b => pyD b.2) := fun d hd d' hd' => by
    obtain ⟨b, hb, rfl⟩ := List.mem_map.mp hd
    obtain ⟨b', hb', rfl⟩ := List.mem_map.mp hd'
    exact ok2 _ (memD b hb) _ (memD b' hb')
  have so : Sortable ((xs.zip ds).map fun b => pyD b.2) := by
    rcases ok3 with o | o
    · refine .inl fun d hd => ?_
      obtain ⟨b, hb, rfl⟩ := List.mem_map.mp hd
      have := o _ (memD b hb)
      generalize b.2 = e at this
      unfold isTup1 at this
      split at this
      · rename_i x r
        exact ⟨pyD x, pyDs r, by rw [pyD.eq_def (.tup (x :: r))]; dsimp only; rw [pyDs.eq_def (x :: r)]⟩
      · cases this
    · refine .inr fun d hd => ?_
      obtain ⟨b, hb, rfl⟩ := List.mem_map.mp hd
      have := o _ (memD b hb)
      generalize b.2 = e at this
      unfold notTN at this
      split at this
      · exact ⟨(by unfold pyD; intro z; cases z), fun xs z => by unfold pyD at z; cases z⟩
      · exact ⟨(by unfold pyD; intro z; cases z), fun xs z => by unfold pyD at z; cases z⟩
      · exact ⟨(by unfold pyD; intro z; cases z), fun xs z => by unfold pyD at z; cases z⟩
      · exact ⟨(by unfold pyD; intro z; cases z), fun xs z => by unfold pyD at z; cases z⟩
      · cases this
  have zl : (xs.zip ds).length = ds.length := by rw [List.length_zip, hlen, Nat.min_self]
  have hu' : ∀ b, b ∈ xs.zip ds → X.A.units + 2 + (pyD b.2).depth < cLine := fun b hb => by
    have := (rp_dp b.2 b.1 40 (ok1 _ (memD b hb)) (zs b hb)).2.2
    omega
  have fin : ∀ out, out.length = (xs.zip ds).length → EachIs (fun u (b : V × D) => L2.RelV b.1 u) out ((xs.zip ds).mergeSort (dataLe false fun b : V × D => pyD b.2)) → (fun u s' => ∃ v H', Inv X pins σ H' s' ∧ L2.RelV v u ∧ Q v H') (.ref (s.heap.objs.size + 1)) { s with heap := PyProof.Rows.sortedAll s.heap its (List.toArray out) } := fun out ho he => by
    obtain ⟨ep, he'⟩ := PyProof.Rows.sortedAll_at s.heap its out.toArray
    have pm : ((xs.zip ds).mergeSort (dataLe false fun b : V × D => pyD b.2)).Perm (xs.zip ds) := List.mergeSort_perm _ _
    have er2 : RpL c F (ds.mergeSort leD) (((xs.zip ds).mergeSort (dataLe false fun b : V × D => pyD b.2)).map Prod.fst) := by
      have := rpL_of (c := c) (F := F) (bs := (xs.zip ds).mergeSort (dataLe false fun b : V × D => pyD b.2)) fun b hb => zs b (pm.mem_iff.mp hb)
      rw [List.map_mergeSort (r := dataLe false fun b : V × D => pyD b.2) (s := leD) (f := Prod.snd) (fun a _ b _ => rfl), List.map_snd_zip (by omega)] at this
      exact this
    have hlen2 : (((xs.zip ds).mergeSort (dataLe false fun b : V × D => pyD b.2)).map Prod.fst).length ≤ sizeLine := by
      rw [List.length_map, pm.length_eq, zl, ← hlen]
      exact hz
    exact ⟨.ref _, upd H (s.heap.objs.size + 1) (.lst _), I.laid (t' := s.toks) (fun _ _ => PyProof.Rows.sortedAll_old) (Nat.le_succ _) ⟨hlen2, out, ep, each_vals he, he'⟩, rfl, q _ _ er2 (I.hok.fresh (Nat.le_succ _))⟩
  rcases hl with hl | hl
  · exact PySem.W.sorted_data (enc := fun b : V × D => pyD b.2) hl ez er al so (by rw [zl, ← hlen]; exact hz) hu' fin
  · exact sorted_dataT (enc := fun b : V × D => pyD b.2) hl ez er al so (by rw [zl, ← hlen]; exact hz) hu' fin
theorem cs_sortD : CaS c (rSortD c) dSortD := by
  intro H0 F H s ds xs z Q w hd hx hz q
  unfold dSortD at hz
  split at hz
  · rename_i ds
    split at hz
    · rename_i ok
      cases hz
      obtain ⟨v, rfl, h⟩ := vwL1 hx
      obtain ⟨hl, p, vs, rfl, h1, r1⟩ := vw_lst h
      refine ⟨p, vs, ds, F, rfl, .inl (SqL.of h1), r1, w.sub, ok, fun ys p hp n => newL w hp ?_ n (hd p n) q⟩
      rw [(List.mergeSort_perm ds _).length_eq]
      exact hl
    · cases hz
  · rename_i ds
    split at hz
    · rename_i ok
      cases hz
      obtain ⟨v, rfl, h⟩ := vwL1 hx
      obtain ⟨hl, p, vs, rfl, h1, r1⟩ := vw_tup w h
      refine ⟨p, vs, ds, F, rfl, .inr ⟨h1, ?_⟩, r1, w.sub, ok, fun ys p hp n => newL w hp ?_ n (hd p n) q⟩
      · rw [r1.len]
        exact Nat.le_trans hl (by decide)
      · rw [(List.mergeSort_perm ds _).length_eq]
        exact hl
    · cases hz
  · cases hz
end
end Mi
namespace F52
open PySem PySem.Spec PyProof.Rows L2 Kt Kj Mi
def top (i : Nat) : Stmt := PySem.Challenge.pw_docketloom_k52_greatest_burdens.main.body.getD i (.Pass ⟨0, 0, 0, 0⟩)
abbrev s_dealt : Stmt := top 8
abbrev N_dealt : List Str := ["amount", "weights", "total", "shares", "missing", "order", "at", "rests", "weight"]
theorem sc_dealt : FnScope N_dealt ["amount", "weights"] (defScope s_dealt) := ⟨rfl, rfl, rfl, by decide +kernel, rfl, by decide +kernel, by decide +kernel⟩
theorem bi_dealt : BindH s_dealt "dealt" ["amount", "weights"] := fun _ _ _ _ _ _ us hl => match us, hl with | [_, _], _ => rfl
abbrev s_shifted : Stmt := top 11
abbrev N_shifted : List Str := ["part", "rule", "way", "share", "whole"]
theorem sc_shifted : FnScope N_shifted ["part", "rule"] (defScope s_shifted) := ⟨rfl, rfl, rfl, by decide +kernel, rfl, by decide +kernel, by decide +kernel⟩
theorem bi_shifted : BindH s_shifted "shifted" ["part", "rule"] := fun _ _ _ _ _ _ us hl => match us, hl with | [_, _], _ => rfl
abbrev s_claims : Stmt := top 12
abbrev N_claims : List Str := ["expenses", "rule", "found", "party", "amount", "heads", "head", "part", "claim"]
theorem sc_claims : FnScope N_claims ["expenses", "rule"] (defScope s_claims) := ⟨rfl, rfl, rfl, by decide +kernel, rfl, by decide +kernel, by decide +kernel⟩
theorem bi_claims : BindH s_claims "claims" ["expenses", "rule"] := fun _ _ _ _ _ _ us hl => match us, hl with | [_, _], _ => rfl
abbrev s_debts_by : Stmt := top 13
abbrev N_debts_by : List Str := ["claimed", "judgment", "head", "findings", "found", "party", "amount", "winner", "loser"]
theorem sc_debts_by : FnScope N_debts_by ["claimed", "judgment"] (defScope s_debts_by) := ⟨rfl, rfl, rfl, by decide +kernel, rfl, by decide +kernel, by decide +kernel⟩
theorem bi_debts_by : BindH s_debts_by "debts_by" ["claimed", "judgment"] := fun _ _ _ _ _ _ us hl => match us, hl with | [_, _], _ => rfl
abbrev s_net_of : Stmt := top 14
abbrev N_net_of : List Str := ["debts", "party", "owes", "debtor", "_", "amount", "creditor"]
theorem sc_net_of : FnScope N_net_of ["debts", "party"] (defScope s_net_of) := ⟨rfl, rfl, rfl, by decide +kernel, rfl, by decide +kernel, by decide +kernel⟩
theorem bi_net_of : BindH s_net_of "net_of" ["debts", "party"] := fun _ _ _ _ _ _ us hl => match us, hl with | [_, _], _ => rfl
abbrev s_burden : Stmt := top 15
abbrev N_burden : List Str := ["expenses", "judgment", "rule", "party"]
theorem sc_burden : FnScope N_burden ["expenses", "judgment", "rule", "party"] (defScope s_burden) := ⟨rfl, rfl, rfl, by decide +kernel, rfl, by decide +kernel, by decide +kernel⟩
theorem bi_burden : BindH s_burden "burden" ["expenses", "judgment", "rule", "party"] := fun _ _ _ _ _ _ us hl => match us, hl with | [_, _, _, _], _ => rfl
abbrev s_greatest_burden : Stmt := top 16
abbrev N_greatest_burden : List Str := ["expenses", "judgment", "open_heads", "rule", "party", "head", "claimed", "findings", "one", "other", "straight", "turned", "is_greater", "worst", "found_heads", "_"]
theorem sc_greatest_burden : FnScope N_greatest_burden ["expenses", "judgment", "open_heads", "rule", "party"] (defScope s_greatest_burden) := ⟨rfl, rfl, rfl, by decide +kernel, rfl, by decide +kernel, by decide +kernel⟩
theorem bi_greatest_burden : BindH s_greatest_burden "greatest_burden" ["expenses", "judgment", "open_heads", "rule", "party"] := fun _ _ _ _ _ _ us hl => match us, hl with | [_, _, _, _, _], _ => rfl
abbrev s_is_enough : Stmt := top 17
abbrev N_is_enough : List Str := ["expenses", "judgment", "open_heads", "rule", "party", "security"]
theorem sc_is_enough : FnScope N_is_enough ["expenses", "judgment", "open_heads", "rule", "party", "security"] (defScope s_is_enough) := ⟨rfl, rfl, rfl, by decide +kernel, rfl, by decide +kernel, by decide +kernel⟩
theorem bi_is_enough : BindH s_is_enough "is_enough" ["expenses", "judgment", "open_heads", "rule", "party", "security"] := fun _ _ _ _ _ _ us hl => match us, hl with | [_, _, _, _, _, _], _ => rfl
abbrev s__law_open : Stmt := top 19
abbrev N__law_open : List Str := ["script", "cells", "cell"]
theorem sc__law_open : FnScope N__law_open ["script"] (defScope s__law_open) := ⟨rfl, rfl, rfl, by decide +kernel, rfl, by decide +kernel, by decide +kernel⟩
theorem bi__law_open : BindH s__law_open "_law_open" ["script"] := fun _ _ _ _ _ _ us hl => match us, hl with | [_], _ => rfl
abbrev s__law_mixed : Stmt := top 20
abbrev N__law_mixed : List Str := ["cell", "turn", "number"]
theorem sc__law_mixed : FnScope N__law_mixed ["cell", "turn"] (defScope s__law_mixed) := ⟨rfl, rfl, rfl, by decide +kernel, rfl, by decide +kernel, by decide +kernel⟩
theorem bi__law_mixed : BindH s__law_mixed "_law_mixed" ["cell", "turn"] := fun _ _ _ _ _ _ us hl => match us, hl with | [_, _], _ => rfl
abbrev s__law_draw : Stmt := top 21
abbrev N__law_draw : List Str := ["draws", "size", "turn", "left", "cells", "cell"]
theorem sc__law_draw : FnScope N__law_draw ["draws", "size"] (defScope s__law_draw) := ⟨rfl, rfl, rfl, by decide +kernel, rfl, by decide +kernel, by decide +kernel⟩
theorem bi__law_draw : BindH s__law_draw "_law_draw" ["draws", "size"] := fun _ _ _ _ _ _ us hl => match us, hl with | [_, _], _ => rfl
abbrev s__law_told : Stmt := top 22
abbrev N__law_told : List Str := ["error", "kinds", "names", "name", "true"]
theorem sc__law_told : FnScope N__law_told ["error"] (defScope s__law_told) := ⟨rfl, rfl, rfl, by decide +kernel, rfl, by decide +kernel, by decide +kernel⟩
theorem bi__law_told : BindH s__law_told "_law_told" ["error"] := fun _ _ _ _ _ _ us hl => match us, hl with | [_], _ => rfl
abbrev s__law_parties : Stmt := top 23
abbrev N__law_parties : List Str := ["draws", "names", "k"]
theorem sc__law_parties : FnScope N__law_parties ["draws"] (defScope s__law_parties) := ⟨rfl, rfl, rfl, by decide +kernel, rfl, by decide +kernel, by decide +kernel⟩
theorem bi__law_parties : BindH s__law_parties "_law_parties" ["draws"] := fun _ _ _ _ _ _ us hl => match us, hl with | [_], _ => rfl
abbrev s__law_expenses : Stmt := top 24
abbrev N__law_expenses : List Str := ["draws", "rows", "k", "heads", "amount", "head"]
theorem sc__law_expenses : FnScope N__law_expenses ["draws"] (defScope s__law_expenses) := ⟨rfl, rfl, rfl, by decide +kernel, rfl, by decide +kernel, by decide +kernel⟩
theorem bi__law_expenses : BindH s__law_expenses "_law_expenses" ["draws"] := fun _ _ _ _ _ _ us hl => match us, hl with | [_], _ => rfl
abbrev s__law_burden : Stmt := top 25
abbrev N__law_burden : List Str := ["expenses", "findings", "rule", "party", "number", "spender", "amount", "heads", "k", "part", "head", "winner", "loser", "owed"]
theorem sc__law_burden : FnScope N__law_burden ["expenses", "findings", "rule", "party"] (defScope s__law_burden) := ⟨rfl, rfl, rfl, by decide +kernel, rfl, by decide +kernel, by decide +kernel⟩
theorem bi__law_burden : BindH s__law_burden "_law_burden" ["expenses", "findings", "rule", "party"] := fun _ _ _ _ _ _ us hl => match us, hl with | [_, _, _, _], _ => rfl
abbrev s__law_ways : Stmt := top 26
abbrev N__law_ways : List Str := ["judgment", "open_heads", "ways", "head", "one", "other", "more", "many", "found"]
theorem sc__law_ways : FnScope N__law_ways ["judgment", "open_heads"] (defScope s__law_ways) := ⟨rfl, rfl, rfl, by decide +kernel, rfl, by decide +kernel, by decide +kernel⟩
theorem bi__law_ways : BindH s__law_ways "_law_ways" ["judgment", "open_heads"] := fun _ _ _ _ _ _ us hl => match us, hl with | [_, _], _ => rfl
abbrev s__law_due : Stmt := top 27
abbrev N__law_due : List Str := ["expenses", "judgment", "open_heads", "rule", "party", "best", "many", "found", "number"]
theorem sc__law_due : FnScope N__law_due ["expenses", "judgment", "open_heads", "rule", "party"] (defScope s__law_due) := ⟨rfl, rfl, rfl, by decide +kernel, rfl, by decide +kernel, by decide +kernel⟩
theorem bi__law_due : BindH s__law_due "_law_due" ["expenses", "judgment", "open_heads", "rule", "party"] := fun _ _ _ _ _ _ us hl => match us, hl with | [_, _, _, _, _], _ => rfl
abbrev s__law_asked : Stmt := top 28
abbrev N__law_asked : List Str := ["expenses", "judgment", "open_heads", "rule", "party", "handed", "value", "number", "told", "due", "security", "enough"]
theorem sc__law_asked : FnScope N__law_asked ["expenses", "judgment", "open_heads", "rule", "party"] (defScope s__law_asked) := ⟨rfl, rfl, rfl, by decide +kernel, rfl, by decide +kernel, by decide +kernel⟩
theorem bi__law_asked : BindH s__law_asked "_law_asked" ["expenses", "judgment", "open_heads", "rule", "party"] := fun _ _ _ _ _ _ us hl => match us, hl with | [_, _, _, _, _], _ => rfl
abbrev s__law_refused : Stmt := top 29
abbrev N__law_refused : List Str := ["expenses", "judgment", "open_heads", "rule", "due", "turn", "error"]
theorem sc__law_refused : FnScope N__law_refused ["expenses", "judgment", "open_heads", "rule", "due"] (defScope s__law_refused) := ⟨rfl, rfl, rfl, by decide +kernel, rfl, by decide +kernel, by decide +kernel⟩
theorem bi__law_refused : BindH s__law_refused "_law_refused" ["expenses", "judgment", "open_heads", "rule", "due"] := fun _ _ _ _ _ _ us hl => match us, hl with | [_, _, _, _, _], _ => rfl
abbrev s_law : Stmt := top 30
abbrev N_law : List Str := ["script", "draws", "turn", "expenses", "rule", "judgment", "open_heads", "head", "kind", "one", "other", "party", "found", "rest", "wide", "least", "k", "name", "row"]
theorem sc_law : FnScope N_law ["script"] (defScope s_law) := ⟨rfl, rfl, rfl, by decide +kernel, rfl, by decide +kernel, by decide +kernel⟩
theorem bi_law : BindH s_law "law" ["script"] := fun _ _ _ _ _ _ us hl => match us, hl with | [_], _ => rfl
structure Txt (K : PySem.W.Frag) (mg : Str → Option Value) (X_OutOfRange : Addr) (X_Malformed : Addr) (X_NotThere : Addr) (X_Refused : Addr) (X_TooMuch : Addr) : Prop where
  b_sum : mg "sum" = none
  b_sorted : mg "sorted" = none
  b_range : mg "range" = none
  b_len : mg "len" = none
  b_zip : mg "zip" = none
  b_any : mg "any" = none
  b_list : mg "list" = none
  b_tuple : mg "tuple" = none
  b_abs : mg "abs" = none
  b_int : mg "int" = none
  b_isinstance : mg "isinstance" = none
  b_ValueError : mg "ValueError" = none
  b_bool : mg "bool" = none
  d_dealt : At K mg "dealt" s_dealt
  d_shifted : At K mg "shifted" s_shifted
  d_claims : At K mg "claims" s_claims
  d_debts_by : At K mg "debts_by" s_debts_by
  d_net_of : At K mg "net_of" s_net_of
  d_burden : At K mg "burden" s_burden
  d_greatest_burden : At K mg "greatest_burden" s_greatest_burden
  d_is_enough : At K mg "is_enough" s_is_enough
  d__law_open : At K mg "_law_open" s__law_open
  d__law_mixed : At K mg "_law_mixed" s__law_mixed
  d__law_draw : At K mg "_law_draw" s__law_draw
  d__law_told : At K mg "_law_told" s__law_told
  d__law_parties : At K mg "_law_parties" s__law_parties
  d__law_expenses : At K mg "_law_expenses" s__law_expenses
  d__law_burden : At K mg "_law_burden" s__law_burden
  d__law_ways : At K mg "_law_ways" s__law_ways
  d__law_due : At K mg "_law_due" s__law_due
  d__law_asked : At K mg "_law_asked" s__law_asked
  d__law_refused : At K mg "_law_refused" s__law_refused
  d_law : At K mg "law" s_law
  e_OutOfRange : ExcAt K mg "OutOfRange" X_OutOfRange
  e_Malformed : ExcAt K mg "Malformed" X_Malformed
  e_NotThere : ExcAt K mg "NotThere" X_NotThere
  e_Refused : ExcAt K mg "Refused" X_Refused
  e_TooMuch : ExcAt K mg "TooMuch" X_TooMuch
  g_DE : ∃ DE : Addr, ExcAt K mg "DocketError" DE ∧ PySem.W.subIn K (.ref X_OutOfRange) (.ref DE) = some true
  g_kit : PySem.W.kitOne K (.ref X_OutOfRange) (.ref X_Malformed) = some false ∧ PySem.W.kitOne K (.ref X_OutOfRange) (.ref X_NotThere) = some false ∧ PySem.W.kitOne K (.ref X_OutOfRange) (.ref X_Refused) = some false ∧ PySem.W.kitOne K (.ref X_OutOfRange) (.ref X_TooMuch) = some false ∧ PySem.W.kitOne K (.ref X_Malformed) (.ref X_OutOfRange) = some false ∧ PySem.W.kitOne K (.ref X_Malformed) (.ref X_NotThere) = some false ∧ PySem.W.kitOne K (.ref X_Malformed) (.ref X_Refused) = some false ∧ PySem.W.kitOne K (.ref X_Malformed) (.ref X_TooMuch) = some false ∧ PySem.W.kitOne K (.ref X_NotThere) (.ref X_OutOfRange) = some false ∧ PySem.W.kitOne K (.ref X_NotThere) (.ref X_Malformed) = some false ∧ PySem.W.kitOne K (.ref X_NotThere) (.ref X_Refused) = some false ∧ PySem.W.kitOne K (.ref X_NotThere) (.ref X_TooMuch) = some false ∧ PySem.W.kitOne K (.ref X_Refused) (.ref X_OutOfRange) = some false ∧ PySem.W.kitOne K (.ref X_Refused) (.ref X_Malformed) = some false ∧ PySem.W.kitOne K (.ref X_Refused) (.ref X_NotThere) = some false ∧ PySem.W.kitOne K (.ref X_Refused) (.ref X_TooMuch) = some false ∧ PySem.W.kitOne K (.ref X_TooMuch) (.ref X_OutOfRange) = some false ∧ PySem.W.kitOne K (.ref X_TooMuch) (.ref X_Malformed) = some false ∧ PySem.W.kitOne K (.ref X_TooMuch) (.ref X_NotThere) = some false ∧ PySem.W.kitOne K (.ref X_TooMuch) (.ref X_Refused) = some false ∧ PySem.W.kitOne K (.ref X_OutOfRange) (.type "ValueError") = some true ∧ PySem.W.kitOne K (.ref X_Malformed) (.type "ValueError") = some true ∧ PySem.W.kitOne K (.ref X_NotThere) (.type "ValueError") = some true ∧ PySem.W.kitOne K (.ref X_Refused) (.type "ValueError") = some true ∧ PySem.W.kitOne K (.ref X_TooMuch) (.type "ValueError") = some true
  g_DX : ∀ DE : Addr, mg "DocketError" = some (.ref DE) → PySem.W.subIn K (.ref X_OutOfRange) (.ref DE) = some true ∧ PySem.W.subIn K (.ref X_Malformed) (.ref DE) = some true ∧ PySem.W.subIn K (.ref X_NotThere) (.ref DE) = some true ∧ PySem.W.subIn K (.ref X_Refused) (.ref DE) = some true ∧ PySem.W.subIn K (.ref X_TooMuch) (.ref DE) = some true
  g_MOST_FINDINGS : ∃ t, mg "MOST_FINDINGS" = some (.int 12 t)
theorem same_new {H : Hp} {p : Addr} {o : HO} (h : H p = none) : Same H (upd H p o) := fun b u e => by
  rw [upd_ne (fun z => by rw [z, h] at e; cases e)]
  exact e
theorem same_put {H H' : Hp} {p : Addr} {o : HO} (s : Same H H') (h : H p = none) : Same H (upd H' p o) := fun b u e => by
  rw [upd_ne (fun z => by rw [z, h] at e; cases e)]
  exact s b u e
theorem map_get {ns : List Int} {i : Nat} {x : V} (h : (ns.map V.int)[i]? = some x) : ∃ n : Int, ns[i]? = some n ∧ x = .int n := by
  rw [List.getElem?_map] at h
  cases e : ns[i]? with
  | none =>
    rw [e] at h
    cases h
  | some n =>
    rw [e] at h
    exact ⟨n, rfl, (Option.some.inj h).symm⟩
theorem ints_add {zs : List Int} (v : Int) : zs.map V.int ++ [V.int v] = (zs ++ [v]).map V.int := by
  rw [List.map_append]
  rfl

def caX (OR MA NT RE TM : Addr) : Ek → Addr
  | .OR => OR
  | .MA => MA
  | .NT => NT
  | .RE => RE
  | .TM => TM
structure Tbs (K : PySem.W.Frag) (mg : Str → Option Value) (base : Heap) (Ts : Mi.TsT) (Z_dealt : Addr) (Z_greatest_burden : Addr) : Prop where
  b_dealt : Tbl K mg base "dealt" s_dealt Z_dealt
  h_dealt : (Z_dealt, ("dealt.<locals>.<lambda>" : Str)) ∈ Ts.ls
  u_dealt : ∀ p ∈ Ts.ls, p.1 = Z_dealt → p.2 = ("dealt.<locals>.<lambda>" : Str)
  b_greatest_burden : Tbl K mg base "greatest_burden" s_greatest_burden Z_greatest_burden
  h_greatest_burden : Z_greatest_burden ∈ Ts.gs
def c_MOST_FINDINGS : D := (.int 12)
theorem rp_MOST_FINDINGS {c : Cc} (F : Hp) : Rp c F c_MOST_FINDINGS (.int 12) := rp_int.mpr rfl
end F52
namespace F52
open PySem PySem.Spec PyProof.Rows L2 Kt Kj
local macro_rules | `(tactic| walk_at "go") => `(tactic| repeat (first
  | refine ⟨_, rfl, ?_⟩
  | refine ⟨_, _, rfl, rfl, (by show (0 : Int) < _; decide), ?_⟩
  | refine ⟨_, _, rfl, rfl, (show CDiv _ _ from ⟨by decide, by decide⟩), ?_⟩
  | refine ⟨_, _, rfl, rfl, (show CPow _ _ from ⟨by decide, by decide, by decide⟩), ?_⟩
  | refine ⟨_, _, rfl, rfl, (show CMul _ _ from .inr ⟨by decide, by decide⟩), ?_⟩
  | refine ⟨_, _, rfl, rfl, (show CMul _ _ from .inl ⟨by decide, by decide⟩), ?_⟩
  | refine ⟨_, _, rfl, rfl, (by show (0 : Int) ≤ _; decide), ?_⟩
  | refine ⟨_, _, rfl, rfl, ?_⟩
  | refine .inl ⟨_, rfl, ?_⟩
  | refine ⟨(rfl : scal _ _ = true), ?_⟩))
section
variable {P : Program} {w : World} {K : PySem.W.Frag} {mg : Str → Option Value} {base : Heap} {OR MA NT RE TM : Addr}
theorem pack {H : Hp} {L : Addr} {o : HO} (n : H L = none) : ∃ H5, upd H L o = H5 ∧ Same H H5 ∧ H5 L = some o := ⟨_, rfl, same_new n, upd_same⟩
def nmOf (bs : List (Str × Bool)) : List Str := (bs.filter (·.2)).map (·.1)
def bs5 (b1 b2 b3 b4 b5 : Bool) : List (Str × Bool) := [("OutOfRange", b1), ("Malformed", b2), ("NotThere", b3), ("Refused", b4), ("TooMuch", b5)]
def spTold (K : PySem.W.Frag) (OR MA NT RE TM : Addr) : Addr → Value → Option Addr → Sp := fun a cls d vs H Q _ => vs = [.ref a] ∧ ∃ (D : Addr) (b1 b2 b3 b4 b5 : Bool) (nm : Str), cls = .ref D ∧ d = none ∧ ExcC K D ∧
  PySem.W.kitOne K (.ref D) (.ref OR) = some b1 ∧ PySem.W.kitOne K (.ref D) (.ref MA) = some b2 ∧ PySem.W.kitOne K (.ref D) (.ref NT) = some b3 ∧ PySem.W.kitOne K (.ref D) (.ref RE) = some b4 ∧ PySem.W.kitOne K (.ref D) (.ref TM) = some b5 ∧
  PySem.W.kitOne K (.ref D) (.type "ValueError") = some true ∧ nmOf (bs5 b1 b2 b3 b4 b5) = [nm] ∧ ∀ H', Same H H' → Q (.str nm) H'
theorem ok_law_told (T : Txt K mg OR MA NT RE TM) : Kh.PromE P w K mg base 1 "_law_told" ["error"] (Kh.byP (spTold K OR MA NT RE TM)) := by
  have nd := sc__law_told.nd
  refine Kh.okE T.d__law_told sc__law_told bi__law_told (fun p vs H Q E h => ?_) (fun f cdv A outer s H vs Q E p hc hf hr h => ?_)
  · obtain ⟨rfl, _⟩ := h
    rfl
  · obtain ⟨rfl, D, b1, b2, b3, b4, b5, nm, e1, e2, C, k1, k2, k3, k4, k5, kV, hnm, q⟩ := h
    have hz : Zc (.ref D) none p.2 := ⟨e1, e2⟩
    have is : ∀ {c : Addr} {b : Bool} {H : Hp} {Q : VK}, PySem.W.kitOne K (.ref D) (.ref c) = some b → Q (.bl b) H → Kh.rIsP K p [.ref p.1, .ref c] H Q := fun k q => ⟨D, hz, hf, C, _, _, _, rfl, fun u r => r, k, q⟩
    refine ⟨_, (pss_cons (ps_set (i := 1) nd rfl (Or.inl rfl) (pe_lst (pa_cons (pe_tup (pa_cons pe_str (pa_cons (pe_callB (Kh.call_isP List.mem_cons_self) (by rfl) T.b_isinstance (by decide +kernel) (pa_cons (pv 0) (pa_cons (pe_glob (v := .ref OR) rfl T.e_OutOfRange.g rfl) pa_nil))) pa_nil))) (pa_cons (pe_tup (pa_cons pe_str (pa_cons (pe_callB (Kh.call_isP List.mem_cons_self) (by rfl) T.b_isinstance (by decide +kernel) (pa_cons (pv 0) (pa_cons (pe_glob (v := .ref MA) rfl T.e_Malformed.g rfl) pa_nil))) pa_nil))) (pa_cons (pe_tup (pa_cons pe_str (pa_cons (pe_callB (Kh.call_isP List.mem_cons_self) (by rfl) T.b_isinstance (by decide +kernel) (pa_cons (pv 0) (pa_cons (pe_glob (v := .ref NT) rfl T.e_NotThere.g rfl) pa_nil))) pa_nil))) (pa_cons (pe_tup (pa_cons pe_str (pa_cons (pe_callB (Kh.call_isP List.mem_cons_self) (by rfl) T.b_isinstance (by decide +kernel) (pa_cons (pv 0) (pa_cons (pe_glob (v := .ref RE) rfl T.e_Refused.g rfl) pa_nil))) pa_nil))) (pa_cons (pe_tup (pa_cons pe_str (pa_cons (pe_callB (Kh.call_isP List.mem_cons_self) (by rfl) T.b_isinstance (by decide +kernel) (pa_cons (pv 0) (pa_cons (pe_glob (v := .ref TM) rfl T.e_TooMuch.g rfl) pa_nil))) pa_nil))) pa_nil)))))))
    (pss_cons (Kh.ps_setLcH (i := 2) (own := [("name", 3), ("true", 4)]) (g := gTup K 2 (gCons (gName 3) (gCons (gName 4) (gNil)))) hc nd rfl rfl (sw_true rfl rfl rfl (by decide +kernel)) (Kh.pi_listH (pv 1)) (blkOk_by (own := [("name", 3), ("true", 4)]) (N := N__law_told) (sc := defScope s__law_told) (by decide +kernel)) (fun _ _ _ _ _ => (Kh.pg_tupH (show L2H.HotC _ from hc) (pgs_cons (pg_name (i := 3) nd rfl (Or.inl rfl)) (pgs_cons (pg_name (i := 4) nd rfl (Or.inl rfl)) pgs_nil)))) (fun _ _ _ _ _ => (pts_one (pt_val (pv 4)))) (fun _ _ _ _ _ => (pv 3)))
    (pss_cons (ps_if (PW.pt (pw_or (pt_cmpR op_ne (pe_callB call_len_seq (by rfl) T.b_len (by decide +kernel) (pa_cons (pv 2) pa_nil)) pe_int (nomark _)) (pw_or1 (pt_not (pt_val (pe_callB (Kh.call_isP List.mem_cons_self) (by rfl) T.b_isinstance (by decide +kernel) (pa_cons (pv 0) (pa_cons (pe_bltn (v := .ty "ValueError") (by rfl) T.b_ValueError L2.boot_ValueError rfl) pa_nil)))))))) (pss_one (ps_ret pe_str)) pss_nil)
    (pss_one (ps_ret (pe_ix ix_list (pv 2) pe_int (fun _ _ => rfl))))))), ?_⟩
    -- the five pairs
    refine ⟨_, rfl, is k1 ⟨by show 2 ≤ sizeLine; decide, fun p1 n1 => ?_⟩⟩
    refine ⟨_, rfl, is k2 ⟨by show 2 ≤ sizeLine; decide, fun p2 n2 => ?_⟩⟩
    refine ⟨_, rfl, is k3 ⟨by show 2 ≤ sizeLine; decide, fun p3 n3 => ?_⟩⟩
    refine ⟨_, rfl, is k4 ⟨by show 2 ≤ sizeLine; decide, fun p4 n4 => ?_⟩⟩
    refine ⟨_, rfl, is k5 ⟨by show 2 ≤ sizeLine; decide, fun p5 n5 => ?_⟩⟩
    refine ⟨by show 5 ≤ sizeLine; decide, fun L nL => ?_⟩
    have s1 := same_new (o := HO.tup [V.str "OutOfRange", V.bl b1]) n1
    have s2 := same_new (o := HO.tup [V.str "Malformed", V.bl b2]) n2
    have s3 := same_new (o := HO.tup [V.str "NotThere", V.bl b3]) n3
    have s4 := same_new (o := HO.tup [V.str "Refused", V.bl b4]) n4
    have s5 := same_new (o := HO.tup [V.str "TooMuch", V.bl b5]) n5
    obtain ⟨H5, hH5, s6, tL⟩ := pack (o := HO.lst [V.ref p1, V.ref p2, V.ref p3, V.ref p4, V.ref p5]) nL
    have t1 := (s2.trans (s3.trans (s4.trans (s5.trans s6)))) p1 _ upd_same
    have t2 := (s3.trans (s4.trans (s5.trans s6))) p2 _ upd_same
    have t3 := (s4.trans (s5.trans s6)) p3 _ upd_same
    have t4 := (s5.trans s6) p4 _ upd_same
    have t5 := s6 p5 _ upd_same
    have sA := s1.trans (s2.trans (s3.trans (s4.trans (s5.trans s6))))
    obtain ⟨ps, hps⟩ : ∃ ps : List (Addr × Str × Bool), ps = [(p1, ("OutOfRange" : Str), b1), (p2, ("Malformed" : Str), b2), (p3, ("NotThere" : Str), b3), (p4, ("Refused" : Str), b4), (p5, ("TooMuch" : Str), b5)] := ⟨_, rfl⟩
    have tps : H5 L = some (.lst (ps.map fun t => V.ref t.1)) := by rw [tL, hps] <;> rfl
    have hT : ∀ t ∈ ps, H5 t.1 = some (.tup [.str t.2.1, .bl t.2.2]) := by
      intro t ht
      rw [hps] at ht
      rcases List.mem_cons.mp ht with e | ht
      · subst e; exact t1
      rcases List.mem_cons.mp ht with e | ht
      · subst e; exact t2
      rcases List.mem_cons.mp ht with e | ht
      · subst e; exact t3
      rcases List.mem_cons.mp ht with e | ht
      · subst e; exact t4
      rcases List.mem_cons.mp ht with e | ht
      · subst e; exact t5
      cases ht
    have hlen : ps.length = 5 := by rw [hps] <;> rfl
    have hall : nmOf (ps.map (·.2)) = [nm] := by rw [hps]; exact hnm
    have hle : ∀ i, (nmOf ((ps.take i).map (·.2))).length < sizeLine := fun i => by
      refine Nat.lt_of_le_of_lt (m := 5) ?_ (by decide)
      unfold nmOf
      rw [List.length_map]
      refine Nat.le_trans (List.length_filter_le _ _) ?_
      rw [List.length_map, List.length_take]
      omega
    rw [hH5]
    refine ⟨_, rfl, L, rfl, ⟨_, SqL.of tL⟩, fun DL nD => lc_list (K := K) (a := L) (xs := ps.map fun t => V.ref t.1) (fun i H' => Same H5 H' ∧ H' DL = some (.lst ((nmOf ((ps.take i).map (·.2))).map V.str)))
      ⟨same_new nD, upd_same⟩ (fun i H' _ ⟨s, _⟩ => s.seq (SqL.of tps)) ?_ ?_⟩
    · rintro i x H' hi ⟨s, hD⟩
      rw [List.getElem?_map] at hi
      cases ht : ps[i]? with
      | none =>
        rw [ht] at hi
        cases hi
      | some t =>
        rw [ht] at hi
        obtain rfl := (Option.some.inj hi).symm
        have hm := hT t (List.mem_of_getElem? ht)
        have take : (ps.take (i + 1)).map (·.2) = (ps.take i).map (·.2) ++ [t.2] := by rw [List.take_succ, ht, List.map_append] <;> rfl
        refine ⟨t.1, _, rfl, SqT.of (s _ _ hm), rfl, _, _, rfl, _, _, rfl, rfl, rfl, ?_⟩
        refine ⟨_, rfl, t.2.2, rfl, ?_⟩
        cases hb : t.2.2 with
        | true =>
          refine iteT ⟨_, rfl, _, hD, by rw [List.length_map]; exact hle i, ?_⟩
          refine ⟨same_put s nD, ?_⟩
          rw [upd_same, take]
          unfold nmOf
          rw [List.filter_append, List.map_append, List.map_append]
          have e : List.filter (fun x => x.2) [t.2] = [t.2] := by rw [List.filter_cons, if_pos hb] <;> rfl
          rw [e] <;> rfl
        | false =>
          refine iteF ⟨s, ?_⟩
          rw [hD, take]
          unfold nmOf
          rw [List.filter_append]
          have e : List.filter (fun x => x.2) [t.2] = [] := by rw [List.filter_cons, if_neg (by rw [hb]; exact Bool.false_ne_true)] <;> rfl
          rw [e, List.append_nil]
    · rintro H' ⟨s, hD⟩
      rw [List.length_map, List.take_length, hall] at hD
      refine ⟨_, rfl, DL, _, rfl, .inl (SqL.of hD), rfl, _, rfl, ?_⟩
      refine iteF ⟨_, rfl, D, hz, hf, C, _, _, _, rfl, fun u r => r, kV, ?_⟩
      refine ⟨true, rfl, iteF ?_⟩
      exact ⟨_, rfl, DL, _, 0, V.str nm, rfl, rfl, SqL.of hD, rfl, q _ (sA.trans s)⟩
end
open Mi
theorem told_ok {K : PySem.W.Frag} {mg : Str → Option Value} {OR MA NT RE TM : Addr} (T : Txt K mg OR MA NT RE TM) (a : Addr) (k : Ek) (H : Hp) (Q : VK) (E : XK) (q : ∀ H', Same H H' → Q (.str (nmE k)) H') : spTold K OR MA NT RE TM a (.ref (caX OR MA NT RE TM k)) none [.ref a] H Q E := by
  obtain ⟨k0_1, k0_2, k0_3, k0_4, k1_0, k1_2, k1_3, k1_4, k2_0, k2_1, k2_3, k2_4, k3_0, k3_1, k3_2, k3_4, k4_0, k4_1, k4_2, k4_3, v0, v1, v2, v3, v4⟩ := T.g_kit
  cases k
  · exact ⟨rfl, OR, true, false, false, false, false, "OutOfRange", rfl, rfl, T.e_OutOfRange.c, kit_self _, k0_1, k0_2, k0_3, k0_4, v0, rfl, q⟩
  · exact ⟨rfl, MA, false, true, false, false, false, "Malformed", rfl, rfl, T.e_Malformed.c, k1_0, kit_self _, k1_2, k1_3, k1_4, v1, rfl, q⟩
  · exact ⟨rfl, NT, false, false, true, false, false, "NotThere", rfl, rfl, T.e_NotThere.c, k2_0, k2_1, kit_self _, k2_3, k2_4, v2, rfl, q⟩
  · exact ⟨rfl, RE, false, false, false, true, false, "Refused", rfl, rfl, T.e_Refused.c, k3_0, k3_1, k3_2, kit_self _, k3_4, v3, rfl, q⟩
  · exact ⟨rfl, TM, false, false, false, false, true, "TooMuch", rfl, rfl, T.e_TooMuch.c, k4_0, k4_1, k4_2, k4_3, kit_self _, v4, rfl, q⟩
end F52
namespace F52
open PySem PySem.Spec PyProof.Rows L2 Kt Kj Mi
theorem cut63 {ns : List Int} (h : ns.length ≤ 63) : cutV (ns.map V.int) none (some 63) = ns.map V.int := by
  unfold cutV
  have e1 : HT.sIx (ns.map V.int).length 0 none = 0 := rfl
  have e2 : HT.sIx (ns.map V.int).length (ns.map V.int).length (some 63) = ns.length := by
    have z := HT.sIx_nat (ns.map V.int).length (ns.map V.int).length 63
    have z2 : HT.sIx (ns.map V.int).length (ns.map V.int).length (some 63) = min 63 (ns.map V.int).length := z
    rw [z2, List.length_map]
    omega
  rw [e1, e2, List.drop_zero]
  exact List.take_of_length_le (by rw [List.length_map]; omega)
section
variable {P : Program} {w : World} {K : PySem.W.Frag} {mg : Str → Option Value} {base : Heap} {OR MA NT RE TM : Addr}
theorem ok_law_open (T : Txt K mg OR MA NT RE TM) : Prom P w K mg base CX0 1 "_law_open" ["script"] (spOpen K) := by
  have nd := sc__law_open.nd
  refine T.d__law_open.ok sc__law_open bi__law_open (fun vs H Q E h => ?_) (fun f cdv A outer s H vs Q E hr h => ?_)
  · obtain ⟨a, ns, rfl, _⟩ := h
    rfl
  · obtain ⟨a, ns, rfl, hS, hlen, q⟩ := h
    refine ⟨_, (pss_cons (ps_setLc (i := 1) (own := [("cell", 2)]) (g := gName 2) (by rfl) nd rfl rfl (sw_true rfl rfl rfl (by decide +kernel)) (pi_list (pe_slice sl_list (pv 0) po_none (po_some pe_int))) (blkOk_by (own := [("cell", 2)]) (N := N__law_open) (sc := defScope s__law_open) (by decide +kernel)) (fun _ _ _ _ _ => (pg_name (i := 2) nd rfl (Or.inl rfl))) (fun _ _ _ _ _ => pts_nil) (fun _ _ _ _ _ => (pe_callB call_abs (by rfl) T.b_abs (by decide +kernel) (pa_cons (pe_callTy call_int1 (by rfl) T.b_int (by decide +kernel) (pa_cons (pv 2) pa_nil)) pa_nil))))
    (pss_one (ps_ret (pe_lst (pa_cons pe_int (pa_cons pe_int (pa_cons (pe_op op_cat (pv 1) (pe_lst (pa_cons pe_int pa_nil))) pa_nil))))))), ?_⟩
    refine ⟨_, rfl, 63, rfl, a, _, rfl, hS, fun p hp => ?_⟩
    rw [cut63 hlen]
    refine ⟨p, rfl, ⟨_, SqL.of upd_same⟩, fun D nD => lc_list (K := K) (a := p) (xs := ns.map V.int) (fun i H' => Same (upd H p (.lst (ns.map V.int))) H' ∧ ∃ cs : List Int, cs.length ≤ i ∧ H' D = some (.lst (cs.map V.int)))
      ⟨same_new nD, [], Nat.le_refl _, upd_same⟩ (fun i H' _ ⟨s, _⟩ => s.seq (SqL.of upd_same)) ?_ ?_⟩
    · rintro i x H' hi ⟨s, cs, hl, hD⟩
      obtain ⟨n, hn, rfl⟩ := map_get hi
      have hi2 : i < ns.length := (List.getElem?_eq_some_iff.mp hn).1
      refine ⟨rfl, lcy ?_⟩
      refine ⟨_, rfl, .inl ⟨_, rfl, _, rfl, ?_⟩⟩
      refine ⟨_, hD, Nat.lt_of_le_of_lt (m := 63) (by rw [List.length_map]; omega) (by decide), same_put s nD, ?_⟩
      rw [ints_add]
      exact ⟨_, by rw [List.length_append]; show cs.length + 1 ≤ i + 1; omega, upd_same⟩
    · rintro H' ⟨s, cs, hl, hD⟩
      rw [List.length_map] at hl
      refine ⟨_, rfl, by show 1 ≤ sizeLine; decide, fun Z nZ => ?_⟩
      have hD1 := same_new (o := HO.lst [V.int 0]) nZ D _ hD
      refine ⟨D, Z, _, _, rfl, rfl, hD1, upd_same, Nat.le_trans (m := 64) (by rw [List.length_map]; show cs.length + 1 ≤ 64; omega) (by decide), fun p2 n2 => ?_⟩
      refine ⟨by show 3 ≤ sizeLine; decide, fun p3 n3 => ?_⟩
      have sA := (((same_new (o := HO.lst (ns.map V.int)) hp).trans s).trans (same_new nZ)).trans (same_new (o := HO.lst (cs.map V.int ++ [V.int 0])) n2)
      have ne : p2 ≠ p3 := fun e => by
        rw [e, upd_same] at n3
        cases n3
      refine q p3 _ (sA.trans (same_new n3)) ⟨p2, cs ++ [0], upd_same, ne, ?_, by rw [List.length_append]; show 0 < cs.length + 1; omega, by rw [List.length_append]; show cs.length + 1 ≤ 64; omega⟩
      rw [upd_ne ne, upd_same, List.map_append]
      rfl
end
end F52
namespace F52
open PySem PySem.Spec PyProof.Rows L2 Kt Kj Mi
section
variable {P : Program} {w : World} {K : PySem.W.Frag} {mg : Str → Option Value} {base : Heap} {OR MA NT RE TM : Addr} {Ts : Mi.TsT} {Z_dealt Z_greatest_burden : Addr}
def b_dealt : Ms := (mSeq (mSet 2 (mCall dSum [(mVar 1)]))
  (mSeq (mCond (mBool (mBin (dEq false) (mVar 2) (mC (.int 0))))
    (mRaise .RE) mNil)
  (mSeq (mSet 3 (mLc (mIt (mVar 1)) (gN 8) mYes (mBin dDiv (mBin dMulX (mVar 0) (mVar 8)) (mVar 2)) [8]))
  (mSeq (mSet 7 (mLc (mIt (mVar 1)) (gN 8) mYes (mBin dMod (mBin dMulX (mVar 0) (mVar 8)) (mVar 2)) [8]))
  (mSeq (mSet 4 (mBin dSub (mVar 0) (mCall dSum [(mVar 3)])))
  (mSeq (mSet 5 (mSortAt 7))
  (mSeq (mFor (mIt (mSl dSl (mVar 5) mNo (mPart (mVar 4)))) (gN 6)
    (mAugI 3 (fun i j => i + j) (mVar 6) (mC (.int 1))))
  (mRet (mVar 3)))))))))
def m_dealt : Sx → List D → Res D := mDef N_dealt.length b_dealt
theorem ok_dealt (T : Txt K mg OR MA NT RE TM) (B : Tbs K mg base Ts Z_dealt Z_greatest_burden) : Prom P w K mg base (L2N.CX P w) 2 "dealt" ["amount", "weights"] (spM K Ts (caX OR MA NT RE TM) 2 m_dealt) := by
  have nd := sc_dealt.nd
  unfold m_dealt
  exact okT B.b_dealt sc_dealt bi_dealt rfl fun f cd A outer s H E TB hr dq F hq => (show MSs _ _ _ _ _ _ b_dealt from by
    unfold b_dealt
    exact (mss_cons (ms_set (i := 2) nd rfl (Or.inr rfl) (me_callB (cl_sum rfl rfl) cs_sum (by rfl) T.b_sum (by decide +kernel) (ma_cons (mv 1) ma_nil)))
    (mss_cons (ms_if (mt_cmp (op_eqA rfl hr.units) os_eq (mv 2) me_int (nomark _))
      (mss_one (ms_raise (k := .RE) rfl rfl (L2N.takes_of rfl rfl rfl rfl) (L2N.pmk_own PySem.F.excBase_ValueError T.e_Refused.x T.e_Refused.g T.e_Refused.k (raises_own T.e_Refused.b T.e_Refused.t) rfl) (fun h => L2N.ps_raise rfl (L2N.takes_of rfl rfl rfl rfl) h))) mss_nil)
    (mss_cons (ms_setLc (i := 3) (own := [("weight", 8)]) (gm_name 8) rfl nd rfl rfl (sw_true rfl rfl rfl (by decide +kernel)) (mi_seq rfl (mv 1)) (blkOk_by (own := [("weight", 8)]) (N := N_dealt) (sc := defScope s_dealt) (by decide +kernel)) (fun _ _ _ _ _ => (pg_name (i := 8) nd rfl (Or.inl rfl))) (fun _ _ _ _ _ => mts_nil) (fun _ _ _ _ _ => (me_op op_fdivNW os_div (me_op op_mulX os_mulX (mv 0) (mv 8)) (mv 2))))
    (mss_cons (ms_set (i := 7) nd rfl (Or.inr rfl) (by exact (me_lc (own := [("weight", 8)]) (gm_name 8) rfl nd (mi_seq rfl (mv 1)) (blkOk_by (own := [("weight", 8)]) (N := N_dealt) (sc := defScope s_dealt) (by decide +kernel)) (fun _ _ _ _ _ => (pg_name (i := 8) nd rfl (Or.inl rfl))) (fun _ _ _ _ _ => mts_nil) (fun _ _ _ _ _ => (me_op op_modN os_mod (me_op op_mulX os_mulX (mv 0) (mv 8)) (mv 2))))))
    (mss_cons (ms_set (i := 4) nd rfl (Or.inl rfl) (me_op op_sub os_sub (mv 0) (me_callB (cl_sum rfl rfl) cs_sum (by rfl) T.b_sum (by decide +kernel) (ma_cons (mv 3) ma_nil))))
    (mss_cons (ms_set (i := 5) nd rfl (Or.inl rfl) (me_sortAt (i := 7) B.h_dealt B.u_dealt (show ("dealt.<locals>." : Str) ++ ("<lambda>" : Str) = ("dealt.<locals>.<lambda>" : Str) by decide +kernel) rfl T.b_sorted T.b_range T.b_len rfl hr TB rfl (show Kl.LamS1 (defScope s_dealt) _ _ from Kl.lamS1_by (by decide +kernel)) (by decide) rfl (Or.inr (Or.inl rfl)) rfl (by decide) (by decide) (by decide) (by decide) rfl (fun _ _ _ _ _ => rfl)))
    (mss_cons (ms_for (gm_name 6) PassesOwn.leaving rfl (mi_seq rfl (me_slice (sl_any rfl) ss_any (mv 5) mo_none (mo_some (mv 4)))) (pg_name (i := 6) nd rfl (Or.inl rfl))
      (mss_one (ms_augI rfl (pv 3) (mv 6) me_int ip_add)))
    (mss_one (ms_ret (mv 3)))))))))))
def b_shifted : Ms := (mSeq (mAsg (mVar 1) (gT 2 (gsC (gN 2) (gsC (gT 2 (gsC (gN 3) (gsC (gN 4) gsN))) gsN))))
  (mSeq (mCond (mBool (mBin (dEq false) (mVar 2) (mC (.str "own"))))
    (mRet (mC (.int 0))) mNil)
  (mRet (mIf (mBool (mBin (dEq false) (mVar 2) (mC (.str "loser")))) (mVar 0) (mBin dDiv (mBin dMulX (mVar 0) (mVar 3)) (mVar 4))))))
def m_shifted : Sx → List D → Res D := mDef N_shifted.length b_shifted
theorem ok_shifted (T : Txt K mg OR MA NT RE TM) (B : Tbs K mg base Ts Z_dealt Z_greatest_burden) : Prom P w K mg base (L2N.CX P w) 1 "shifted" ["part", "rule"] (spM K Ts (caX OR MA NT RE TM) 2 m_shifted) := by
  have nd := sc_shifted.nd
  unfold m_shifted
  exact okM T.d_shifted sc_shifted bi_shifted rfl fun f cdv A outer s H E hr dq F hq => (show MSs _ _ _ _ _ _ b_shifted from by
    unfold b_shifted
    exact (mss_cons (ms_asg (gm_tup rfl (gms_cons (gm_name 2) (gms_cons (gm_tup rfl (gms_cons (gm_name 3) (gms_cons (gm_name 4) gms_nil))) gms_nil))) (mv 1) (pg_tup rfl (pgs_cons (pg_name (i := 2) nd rfl (Or.inl rfl)) (pgs_cons (pg_tup rfl (pgs_cons (pg_name (i := 3) nd rfl (Or.inl rfl)) (pgs_cons (pg_name (i := 4) nd rfl (Or.inl rfl)) pgs_nil))) pgs_nil))))
    (mss_cons (ms_if (mt_cmp (op_eqA rfl hr.units) os_eq (mv 2) (me_str) (nomark _))
      (mss_one (ms_ret me_int)) mss_nil)
    (mss_one (ms_ret (me_ifExp (mt_cmp (op_eqA rfl hr.units) os_eq (mv 2) (me_str) (nomark _)) (mv 0) (me_op op_fdivNW os_div (me_op op_mulX os_mulX (mv 0) (mv 3)) (mv 4))))))))
def b_claims : Ms := (mSeq (mSet 2 (mLst []))
  (mSeq (mFor (mIt (mVar 0)) (gT 3 (gsC (gN 3) (gsC (gN 4) (gsC (gN 5) gsN))))
    (mFor (mItZ [(mVar 5), (mFn m_dealt [(mVar 4), (mBin dMulX (mLst [(mC (.int 1))]) (mCall dLen [(mVar 5)]))])]) (gT 2 (gsC (gN 6) (gsC (gN 7) gsN)))
    (mApp 2 (mTup [(mVar 6), (mVar 3), (mFn m_shifted [(mVar 7), (mVar 1)])]))))
  (mFrz 2 (mRet (mLc (mIt (mVar 2)) (gN 8) (mBool (mBin dGt (mBin dIx (mVar 8) (mC (.int 2))) (mC (.int 0)))) (mVar 8) [8])))))
def m_claims : Sx → List D → Res D := mDef N_claims.length b_claims
theorem ok_claims (T : Txt K mg OR MA NT RE TM) (B : Tbs K mg base Ts Z_dealt Z_greatest_burden) : Prom P w K mg base (L2N.CX P w) 3 "claims" ["expenses", "rule"] (spM K Ts (caX OR MA NT RE TM) 2 m_claims) := by
  have nd := sc_claims.nd
  have pr_dealt := ok_dealt (P := P) (w := w) (base := base) (Ts := Ts) T B
  have pr_shifted := ok_shifted (P := P) (w := w) (base := base) (Ts := Ts) T B
  unfold m_claims
  exact okM T.d_claims sc_claims bi_claims rfl fun f cdv A outer s H E hr dq F hq => (show MSs _ _ _ _ _ _ b_claims from by
    unfold b_claims
    exact (mss_cons (ms_set (i := 2) nd rfl (Or.inl rfl) (me_lst ma_nil))
    (mss_cons (ms_for (gm_tup rfl (gms_cons (gm_name 3) (gms_cons (gm_name 4) (gms_cons (gm_name 5) gms_nil)))) PassesOwn.leaving rfl (mi_seq rfl (mv 0)) (pg_tup rfl (pgs_cons (pg_name (i := 3) nd rfl (Or.inl rfl)) (pgs_cons (pg_name (i := 4) nd rfl (Or.inl rfl)) (pgs_cons (pg_name (i := 5) nd rfl (Or.inl rfl)) pgs_nil))))
      (mss_one (ms_for (gm_tup rfl (gms_cons (gm_name 6) (gms_cons (gm_name 7) gms_nil))) PassesOwn.leaving rfl (mi_zp rfl rfl T.b_zip (ma_cons (mv 5) (ma_cons (me_fn hr pr_dealt (L2N.takes_of rfl rfl rfl rfl) rfl (ma_cons (mv 4) (ma_cons (me_op op_mulX os_mulX (me_lst (ma_cons me_int ma_nil)) (me_callB (cl_len rfl) cs_len (by rfl) T.b_len (by decide +kernel) (ma_cons (mv 5) ma_nil))) ma_nil))) ma_nil))) (pg_tup rfl (pgs_cons (pg_name (i := 6) nd rfl (Or.inl rfl)) (pgs_cons (pg_name (i := 7) nd rfl (Or.inl rfl)) pgs_nil)))
      (mss_one (ms_append rfl (pv 2) (me_tup (ma_cons (mv 6) (ma_cons (mv 3) (ma_cons (me_fn hr pr_shifted (L2N.takes_of rfl rfl rfl rfl) rfl (ma_cons (mv 7) (ma_cons (mv 1) ma_nil))) ma_nil)))) (fun ho ha => pe_bm PySem.F.plainAttrs_list PySem.F.slot_list_append PySem.F.type_list_append mt_append ho ha))))))
    (mss_one (ms_frz 2 (ms_ret (me_lc (own := [("claim", 8)]) (gm_name 8) rfl nd (mi_seq rfl (mv 2)) (blkOk_by (own := [("claim", 8)]) (N := N_claims) (sc := defScope s_claims) (by decide +kernel)) (fun _ _ _ _ _ => (pg_name (i := 8) nd rfl (Or.inl rfl))) (fun _ _ _ _ _ => (mts_one (mt_cmp op_gt os_rel (me_ix (ix_seqA rfl) os_ix (mv 8) me_int (fun _ _ => rfl)) me_int (nomark _)))) (fun _ _ _ _ _ => (mv 8)))))))))
def b_debts_by : Ms := (mSeq (mSet 3 (mDc (mIt (mVar 1)) (gT 3 (gsC (gN 2) (gsC (gN 7) (gsC (gN 8) gsN)))) mYes (mVar 2) (mTup [(mVar 7), (mVar 8)]) [2, 7, 8]))
  (mSeq (mSet 4 (mLst []))
  (mSeq (mFor (mIt (mVar 0)) (gT 3 (gsC (gN 2) (gsC (gN 5) (gsC (gN 6) gsN))))
    (mCond (mAnd (mBool (mDIn false 3 (mVar 2))) (mBool (mBin (dEq false) (mBin dIx (mDGet 3 (mVar 2)) (mC (.int 0))) (mVar 5))))
    (mApp 4 (mTup [(mBin dIx (mDGet 3 (mVar 2)) (mC (.int 1))), (mVar 5), (mVar 6)])) mNil))
  (mRet (mVar 4)))))
def m_debts_by : Sx → List D → Res D := mDef N_debts_by.length b_debts_by
theorem ok_debts_by (T : Txt K mg OR MA NT RE TM) (B : Tbs K mg base Ts Z_dealt Z_greatest_burden) : Prom P w K mg base (L2N.CX P w) 1 "debts_by" ["claimed", "judgment"] (spM K Ts (caX OR MA NT RE TM) 2 m_debts_by) := by
  have nd := sc_debts_by.nd
  unfold m_debts_by
  exact okM T.d_debts_by sc_debts_by bi_debts_by rfl fun f cdv A outer s H E hr dq F hq => (show MSs _ _ _ _ _ _ b_debts_by from by
    unfold b_debts_by
    exact (mss_cons (ms_setDc (i := 3) (own := [("head", 2), ("winner", 7), ("loser", 8)]) (gm_tup rfl (gms_cons (gm_name 2) (gms_cons (gm_name 7) (gms_cons (gm_name 8) gms_nil)))) rfl nd rfl rfl (swD_true rfl rfl rfl (by decide +kernel)) (mi_seq rfl (mv 1)) (blkOk_by (own := [("head", 2), ("winner", 7), ("loser", 8)]) (N := N_debts_by) (sc := defScope s_debts_by) (by decide +kernel)) (fun _ _ _ _ _ => (pg_tup rfl (pgs_cons (pg_name (i := 2) nd rfl (Or.inl rfl)) (pgs_cons (pg_name (i := 7) nd rfl (Or.inl rfl)) (pgs_cons (pg_name (i := 8) nd rfl (Or.inl rfl)) pgs_nil))))) (fun _ _ _ _ _ => mts_nil) (fun _ _ _ _ _ => (mv 2)) (fun _ _ _ _ _ => (me_tup (ma_cons (mv 7) (ma_cons (mv 8) ma_nil)))))
    (mss_cons (ms_set (i := 4) nd rfl (Or.inl rfl) (me_lst ma_nil))
    (mss_cons (ms_for (gm_tup rfl (gms_cons (gm_name 2) (gms_cons (gm_name 5) (gms_cons (gm_name 6) gms_nil)))) PassesOwn.leaving rfl (mi_seq rfl (mv 0)) (pg_tup rfl (pgs_cons (pg_name (i := 2) nd rfl (Or.inl rfl)) (pgs_cons (pg_name (i := 5) nd rfl (Or.inl rfl)) (pgs_cons (pg_name (i := 6) nd rfl (Or.inl rfl)) pgs_nil))))
      (mss_one (ms_if (PW.pt (mw_and (mt_dinS (i := 3) (Nat.lt_of_le_of_lt (Nat.add_le_add_left (by decide) _) hr.units) (pv 3) (mv 2)) (mw_and1 (mt_cmp (op_eqA rfl hr.units) os_eq (me_ix (ix_seqA rfl) os_ix (me_dgetS (i := 3) (Nat.lt_of_le_of_lt (Nat.add_le_add_left (by decide) _) hr.units) (pv 3) (mv 2) (fun _ _ => rfl)) me_int (fun _ _ => rfl)) (mv 5) (nomark _)))))
      (mss_one (ms_append rfl (pv 4) (me_tup (ma_cons (me_ix (ix_seqA rfl) os_ix (me_dgetS (i := 3) (Nat.lt_of_le_of_lt (Nat.add_le_add_left (by decide) _) hr.units) (pv 3) (mv 2) (fun _ _ => rfl)) me_int (fun _ _ => rfl)) (ma_cons (mv 5) (ma_cons (mv 6) ma_nil)))) (fun ho ha => pe_bm PySem.F.plainAttrs_list PySem.F.slot_list_append PySem.F.type_list_append mt_append ho ha))) mss_nil)))
    (mss_one (ms_ret (mv 4)))))))
def b_net_of : Ms := (mSeq (mSet 2 (mCall dSum [(mLc (mIt (mVar 0)) (gT 3 (gsC (gN 3) (gsC (gN 4) (gsC (gN 5) gsN)))) (mBool (mBin (dEq false) (mVar 3) (mVar 1))) (mVar 5) [3, 4, 5])]))
  (mRet (mBin dSub (mVar 2) (mCall dSum [(mLc (mIt (mVar 0)) (gT 3 (gsC (gN 4) (gsC (gN 6) (gsC (gN 5) gsN)))) (mBool (mBin (dEq false) (mVar 6) (mVar 1))) (mVar 5) [4, 6, 5])]))))
def m_net_of : Sx → List D → Res D := mDef N_net_of.length b_net_of
theorem ok_net_of (T : Txt K mg OR MA NT RE TM) (B : Tbs K mg base Ts Z_dealt Z_greatest_burden) : Prom P w K mg base (L2N.CX P w) 1 "net_of" ["debts", "party"] (spM K Ts (caX OR MA NT RE TM) 2 m_net_of) := by
  have nd := sc_net_of.nd
  unfold m_net_of
  exact okM T.d_net_of sc_net_of bi_net_of rfl fun f cdv A outer s H E hr dq F hq => (show MSs _ _ _ _ _ _ b_net_of from by
    unfold b_net_of
    exact (mss_cons (ms_set (i := 2) nd rfl (Or.inl rfl) (me_callB (cl_sum rfl rfl) cs_sum (by rfl) T.b_sum (by decide +kernel) (ma_cons (me_lc (own := [("debtor", 3), ("_", 4), ("amount", 5)]) (gm_tup rfl (gms_cons (gm_name 3) (gms_cons (gm_name 4) (gms_cons (gm_name 5) gms_nil)))) rfl nd (mi_seq rfl (mv 0)) (blkOk_by (own := [("debtor", 3), ("_", 4), ("amount", 5)]) (N := N_net_of) (sc := defScope s_net_of) (by decide +kernel)) (fun _ _ _ _ _ => (pg_tup rfl (pgs_cons (pg_name (i := 3) nd rfl (Or.inl rfl)) (pgs_cons (pg_name (i := 4) nd rfl (Or.inl rfl)) (pgs_cons (pg_name (i := 5) nd rfl (Or.inl rfl)) pgs_nil))))) (fun _ _ _ _ _ => (mts_one (mt_cmp (op_eqA rfl hr.units) os_eq (mv 3) (mv 1) (nomark _)))) (fun _ _ _ _ _ => (mv 5))) ma_nil)))
    (mss_one (ms_ret (me_op op_sub os_sub (mv 2) (me_callB (cl_sum rfl rfl) cs_sum (by rfl) T.b_sum (by decide +kernel) (ma_cons (me_lc (own := [("_", 4), ("creditor", 6), ("amount", 5)]) (gm_tup rfl (gms_cons (gm_name 4) (gms_cons (gm_name 6) (gms_cons (gm_name 5) gms_nil)))) rfl nd (mi_seq rfl (mv 0)) (blkOk_by (own := [("_", 4), ("creditor", 6), ("amount", 5)]) (N := N_net_of) (sc := defScope s_net_of) (by decide +kernel)) (fun _ _ _ _ _ => (pg_tup rfl (pgs_cons (pg_name (i := 4) nd rfl (Or.inl rfl)) (pgs_cons (pg_name (i := 6) nd rfl (Or.inl rfl)) (pgs_cons (pg_name (i := 5) nd rfl (Or.inl rfl)) pgs_nil))))) (fun _ _ _ _ _ => (mts_one (mt_cmp (op_eqA rfl hr.units) os_eq (mv 6) (mv 1) (nomark _)))) (fun _ _ _ _ _ => (mv 5))) ma_nil)))))))
def b_burden : Ms := (mRet (mFn m_net_of [(mFn m_debts_by [(mFn m_claims [(mVar 0), (mVar 2)]), (mVar 1)]), (mVar 3)]))
def m_burden : Sx → List D → Res D := mDef N_burden.length b_burden
theorem ok_burden (T : Txt K mg OR MA NT RE TM) (B : Tbs K mg base Ts Z_dealt Z_greatest_burden) : Prom P w K mg base (L2N.CX P w) 4 "burden" ["expenses", "judgment", "rule", "party"] (spM K Ts (caX OR MA NT RE TM) 4 m_burden) := by
  have nd := sc_burden.nd
  have pr_net_of := ok_net_of (P := P) (w := w) (base := base) (Ts := Ts) T B
  have pr_debts_by := ok_debts_by (P := P) (w := w) (base := base) (Ts := Ts) T B
  have pr_claims := ok_claims (P := P) (w := w) (base := base) (Ts := Ts) T B
  unfold m_burden
  exact okM T.d_burden sc_burden bi_burden rfl fun f cdv A outer s H E hr dq F hq => (show MSs _ _ _ _ _ _ b_burden from by
    unfold b_burden
    exact (mss_one (ms_ret (me_fn hr pr_net_of (L2N.takes_of rfl rfl rfl rfl) rfl (ma_cons (me_fn hr pr_debts_by (L2N.takes_of rfl rfl rfl rfl) rfl (ma_cons (me_fn hr pr_claims (L2N.takes_of rfl rfl rfl rfl) rfl (ma_cons (mv 0) (ma_cons (mv 2) ma_nil))) (ma_cons (mv 1) ma_nil))) (ma_cons (mv 3) ma_nil))))))
def b_greatest_burden : Ms := (mSeq (mSet 14 (mLc (mIt (mVar 1)) (gT 3 (gsC (gN 5) (gsC (gN 15) (gsC (gN 15) gsN)))) mYes (mVar 5) [5, 15, 15]))
  (mSeq (mCond (mBool (mQ true (mIt (mVar 2)) (gT 3 (gsC (gN 0) (gsC (gN 1) (gsC (gN 1) gsN)))) (mBin (dInX false) (mVar 0) (mVar 16)) 2))
    (mRaise .RE) mNil)
  (mSeq (mCond (mBool (mBin dGt (mBin dAdd (mCall dLen [(mVar 1)]) (mCall dLen [(mVar 2)])) (mC c_MOST_FINDINGS)))
    (mRaise .TM) mNil)
  (mSeq (mSet 6 (mFn m_claims [(mVar 0), (mVar 3)]))
  (mSeq (mSet 7 (mCall dList [(mVar 1)]))
  (mSeq (mFor (mIt (mVar 2)) (gT 3 (gsC (gN 5) (gsC (gN 8) (gsC (gN 9) gsN))))
    (mSeq (mSet 10 (mTup [(mVar 5), (mVar 8), (mVar 9)]))
  (mSeq (mSet 11 (mTup [(mVar 5), (mVar 9), (mVar 8)]))
  (mSeq (mSet 12 (mBin dGt (mFn m_net_of [(mFn m_debts_by [(mVar 6), (mTup [(mVar 11)])]), (mVar 4)]) (mFn m_net_of [(mFn m_debts_by [(mVar 6), (mTup [(mVar 10)])]), (mVar 4)])))
  (mApp 7 (mIf (mBool (mVar 12)) (mVar 11) (mVar 10)))))))
  (mSeq (mSet 13 (mCall dTuple [(mCall dSortD [(mVar 7)])]))
  (mRet (mTup [(mFn m_net_of [(mFn m_debts_by [(mVar 6), (mVar 13)]), (mVar 4)]), (mVar 13)])))))))))
def m_greatest_burden : Sx → List D → Res D := mDef N_greatest_burden.length b_greatest_burden
theorem ok_greatest_burden (T : Txt K mg OR MA NT RE TM) (B : Tbs K mg base Ts Z_dealt Z_greatest_burden) : Prom P w K mg base (L2N.CX P w) 4 "greatest_burden" ["expenses", "judgment", "open_heads", "rule", "party"] (spM K Ts (caX OR MA NT RE TM) 5 m_greatest_burden) := by
  have nd := sc_greatest_burden.nd
  have pr_claims := ok_claims (P := P) (w := w) (base := base) (Ts := Ts) T B
  have pr_net_of := ok_net_of (P := P) (w := w) (base := base) (Ts := Ts) T B
  have pr_debts_by := ok_debts_by (P := P) (w := w) (base := base) (Ts := Ts) T B
  obtain ⟨t_MOST_FINDINGS, g_MOST_FINDINGS⟩ := T.g_MOST_FINDINGS
  unfold m_greatest_burden
  exact okT B.b_greatest_burden sc_greatest_burden bi_greatest_burden rfl fun f cd A outer s H E TB hr dq F hq => (show MSs _ _ _ _ _ _ b_greatest_burden from by
    unfold b_greatest_burden
    exact (mss_cons (ms_set (i := 14) nd rfl (Or.inr rfl) (by exact (me_lc (own := [("head", 5), ("_", 15), ("_", 15)]) (gm_tup rfl (gms_cons (gm_name 5) (gms_cons (gm_name 15) (gms_cons (gm_name 15) gms_nil)))) rfl nd (mi_seq rfl (mv 1)) (blkOk_by (own := [("head", 5), ("_", 15), ("_", 15)]) (N := N_greatest_burden) (sc := defScope s_greatest_burden) (by decide +kernel)) (fun _ _ _ _ _ => (pg_tup rfl (pgs_cons (pg_name (i := 5) nd rfl (Or.inl rfl)) (pgs_cons (pg_name (i := 15) nd rfl (Or.inl rfl)) (pgs_cons (pg_name (i := 15) nd rfl (Or.inl rfl)) pgs_nil))))) (fun _ _ _ _ _ => mts_nil) (fun _ _ _ _ _ => (mv 5)))))
    (mss_cons (ms_if (mt_val (me_any (xs := ["head", "_"]) (M := (["expenses", "judgment", "open_heads", "rule", "party", "?head", "claimed", "findings", "one", "other", "straight", "turned", "is_greater", "worst", "found_heads", "?_"] : List Str)) (gm_tup rfl (gms_cons (gm_name 0) (gms_cons (gm_name 1) (gms_cons (gm_name 1) gms_nil)))) (by decide) B.h_greatest_burden hr rfl rfl T.b_any (by rfl) TB rfl (show Kg.GnS (defScope s_greatest_burden) _ _ from Kg.gnS_by (by decide +kernel)) (show Kg.mkB _ N_greatest_burden _ = true by decide +kernel) (show (((".0" : Str)) :: ((["head", "_"] : List Str) ++ (["expenses", "judgment", "open_heads", "rule", "party", "?head", "claimed", "findings", "one", "other", "straight", "turned", "is_greater", "worst", "found_heads", "?_"] : List Str))).Nodup by decide +kernel) (mi_seq rfl (mv 2)) (fun _ _ _ _ _ _ _ => (pg_tup rfl (pgs_cons (pg_name (i := 0) (show (((["head", "_"] : List Str) ++ (["expenses", "judgment", "open_heads", "rule", "party", "?head", "claimed", "findings", "one", "other", "straight", "turned", "is_greater", "worst", "found_heads", "?_"] : List Str))).Nodup by decide +kernel) rfl (Or.inl rfl)) (pgs_cons (pg_name (i := 1) (show (((["head", "_"] : List Str) ++ (["expenses", "judgment", "open_heads", "rule", "party", "?head", "claimed", "findings", "one", "other", "straight", "turned", "is_greater", "worst", "found_heads", "?_"] : List Str))).Nodup by decide +kernel) rfl (Or.inl rfl)) (pgs_cons (pg_name (i := 1) (show (((["head", "_"] : List Str) ++ (["expenses", "judgment", "open_heads", "rule", "party", "?head", "claimed", "findings", "one", "other", "straight", "turned", "is_greater", "worst", "found_heads", "?_"] : List Str))).Nodup by decide +kernel) rfl (Or.inl rfl)) pgs_nil))))) (fun _ _ _ _ _ _ _ hr => (me_cmp (op_inX rfl) os_inX (mv 0) (mv 16) (by rfl))) (fun _ => rfl)))
      (mss_one (ms_raise (k := .RE) rfl rfl (L2N.takes_of rfl rfl rfl rfl) (L2N.pmk_own PySem.F.excBase_ValueError T.e_Refused.x T.e_Refused.g T.e_Refused.k (raises_own T.e_Refused.b T.e_Refused.t) rfl) (fun h => L2N.ps_raise rfl (L2N.takes_of rfl rfl rfl rfl) h))) mss_nil)
    (mss_cons (ms_if (mt_cmp op_gt os_rel (me_op (op_addA rfl) os_add (me_callB (cl_len rfl) cs_len (by rfl) T.b_len (by decide +kernel) (ma_cons (mv 1) ma_nil)) (me_callB (cl_len rfl) cs_len (by rfl) T.b_len (by decide +kernel) (ma_cons (mv 2) ma_nil))) (me_glob (v := (.int 12)) rfl g_MOST_FINDINGS ⟨_, rfl⟩ rp_MOST_FINDINGS) (nomark _))
      (mss_one (ms_raise (k := .TM) rfl rfl (L2N.takes_of rfl rfl rfl rfl) (L2N.pmk_own PySem.F.excBase_ValueError T.e_TooMuch.x T.e_TooMuch.g T.e_TooMuch.k (raises_own T.e_TooMuch.b T.e_TooMuch.t) rfl) (fun h => L2N.ps_raise rfl (L2N.takes_of rfl rfl rfl rfl) h))) mss_nil)
    (mss_cons (ms_set (i := 6) nd rfl (Or.inl rfl) (me_fn hr pr_claims (L2N.takes_of rfl rfl rfl rfl) rfl (ma_cons (mv 0) (ma_cons (mv 3) ma_nil))))
    (mss_cons (ms_set (i := 7) nd rfl (Or.inl rfl) (me_callTy (cl_list rfl) cs_list (by rfl) T.b_list (by decide +kernel) (ma_cons (mv 1) ma_nil)))
    (mss_cons (ms_for (gm_tup rfl (gms_cons (gm_name 5) (gms_cons (gm_name 8) (gms_cons (gm_name 9) gms_nil)))) PassesOwn.leaving rfl (mi_seq rfl (mv 2)) (pg_tup rfl (pgs_cons (pg_name (i := 5) nd rfl (Or.inl rfl)) (pgs_cons (pg_name (i := 8) nd rfl (Or.inl rfl)) (pgs_cons (pg_name (i := 9) nd rfl (Or.inl rfl)) pgs_nil))))
      (mss_cons (ms_set (i := 10) nd rfl (Or.inl rfl) (me_tup (ma_cons (mv 5) (ma_cons (mv 8) (ma_cons (mv 9) ma_nil)))))
    (mss_cons (ms_set (i := 11) nd rfl (Or.inl rfl) (me_tup (ma_cons (mv 5) (ma_cons (mv 9) (ma_cons (mv 8) ma_nil)))))
    (mss_cons (ms_set (i := 12) nd rfl (Or.inl rfl) (me_cmp op_gt os_rel (me_fn hr pr_net_of (L2N.takes_of rfl rfl rfl rfl) rfl (ma_cons (me_fn hr pr_debts_by (L2N.takes_of rfl rfl rfl rfl) rfl (ma_cons (mv 6) (ma_cons (me_tup (ma_cons (mv 11) ma_nil)) ma_nil))) (ma_cons (mv 4) ma_nil))) (me_fn hr pr_net_of (L2N.takes_of rfl rfl rfl rfl) rfl (ma_cons (me_fn hr pr_debts_by (L2N.takes_of rfl rfl rfl rfl) rfl (ma_cons (mv 6) (ma_cons (me_tup (ma_cons (mv 10) ma_nil)) ma_nil))) (ma_cons (mv 4) ma_nil))) (nomark _)))
    (mss_one (ms_append rfl (pv 7) (me_ifExp (mt_val (mv 12)) (mv 11) (mv 10)) (fun ho ha => pe_bm PySem.F.plainAttrs_list PySem.F.slot_list_append PySem.F.type_list_append mt_append ho ha)))))))
    (mss_cons (ms_set (i := 13) nd rfl (Or.inl rfl) (me_callTy (cl_tuple rfl) cs_tuple (by rfl) T.b_tuple (by decide +kernel) (ma_cons (me_callB (cr_sortD rfl hr.units) cs_sortD (by rfl) T.b_sorted (by decide +kernel) (ma_cons (mv 7) ma_nil)) ma_nil)))
    (mss_one (ms_ret (me_tup (ma_cons (me_fn hr pr_net_of (L2N.takes_of rfl rfl rfl rfl) rfl (ma_cons (me_fn hr pr_debts_by (L2N.takes_of rfl rfl rfl rfl) rfl (ma_cons (mv 6) (ma_cons (mv 13) ma_nil))) (ma_cons (mv 4) ma_nil))) (ma_cons (mv 13) ma_nil)))))))))))))
def b_is_enough : Ms := (mRet (mBin dGe (mVar 5) (mBin dIx (mFn m_greatest_burden [(mVar 0), (mVar 1), (mVar 2), (mVar 3), (mVar 4)]) (mC (.int 0)))))
def m_is_enough : Sx → List D → Res D := mDef N_is_enough.length b_is_enough
theorem ok_is_enough (T : Txt K mg OR MA NT RE TM) (B : Tbs K mg base Ts Z_dealt Z_greatest_burden) : Prom P w K mg base (L2N.CX P w) 5 "is_enough" ["expenses", "judgment", "open_heads", "rule", "party", "security"] (spM K Ts (caX OR MA NT RE TM) 6 m_is_enough) := by
  have nd := sc_is_enough.nd
  have pr_greatest_burden := ok_greatest_burden (P := P) (w := w) (base := base) (Ts := Ts) T B
  unfold m_is_enough
  exact okM T.d_is_enough sc_is_enough bi_is_enough rfl fun f cdv A outer s H E hr dq F hq => (show MSs _ _ _ _ _ _ b_is_enough from by
    unfold b_is_enough
    exact (mss_one (ms_ret (me_cmp op_ge os_rel (mv 5) (me_ix (ix_seqA rfl) os_ix (me_fn hr pr_greatest_burden (L2N.takes_of rfl rfl rfl rfl) rfl (ma_cons (mv 0) (ma_cons (mv 1) (ma_cons (mv 2) (ma_cons (mv 3) (ma_cons (mv 4) ma_nil)))))) me_int (fun _ _ => rfl)) (nomark _)))))
def b__law_mixed : Ms := (mSeq (mSet 2 (mBin dMod (mBin dAdd (mBin dAdd (mBin dMulX (mBin dMod (mVar 0) (mBin dSub (mBin dPow (mC (.int 2)) (mC (.int 61))) (mC (.int 1)))) (mC (.int 6364136223846793005))) (mBin dMulX (mVar 1) (mC (.int 1442695040888963407)))) (mC (.int 97))) (mBin dPow (mC (.int 2)) (mC (.int 61)))))
  (mSeq (mSet 2 (mBin dMod (mBin dMulX (mBin dXor (mVar 2) (mBin dShr (mVar 2) (mC (.int 29)))) (mC (.int 3935559000370003845))) (mBin dPow (mC (.int 2)) (mC (.int 61)))))
  (mRet (mBin dMod (mBin dMulX (mBin dXor (mVar 2) (mBin dShr (mVar 2) (mC (.int 31)))) (mC (.int 2862933555777941757))) (mBin dPow (mC (.int 2)) (mC (.int 61)))))))
def m__law_mixed : Sx → List D → Res D := mDef N__law_mixed.length b__law_mixed
theorem ok__law_mixed (T : Txt K mg OR MA NT RE TM) (B : Tbs K mg base Ts Z_dealt Z_greatest_burden) : Prom P w K mg base (L2N.CX P w) 1 "_law_mixed" ["cell", "turn"] (spM K Ts (caX OR MA NT RE TM) 2 m__law_mixed) := by
  have nd := sc__law_mixed.nd
  unfold m__law_mixed
  exact okM T.d__law_mixed sc__law_mixed bi__law_mixed rfl fun f cdv A outer s H E hr dq F hq => (show MSs _ _ _ _ _ _ b__law_mixed from by
    unfold b__law_mixed
    exact (mss_cons (ms_set (i := 2) nd rfl (Or.inl rfl) (me_op op_modN os_mod (me_op (op_addA rfl) os_add (me_op (op_addA rfl) os_add (me_op op_mulX os_mulX (me_op op_modN os_mod (mv 0) (me_op op_sub os_sub (me_op op_pow os_pow me_int me_int) me_int)) me_int) (me_op op_mulX os_mulX (mv 1) me_int)) me_int) (me_op op_pow os_pow me_int me_int)))
    (mss_cons (ms_set (i := 2) nd rfl (Or.inl rfl) (me_op op_modN os_mod (me_op op_mulX os_mulX (me_op op_xor os_xor (mv 2) (me_op op_shr os_shr (mv 2) me_int)) me_int) (me_op op_pow os_pow me_int me_int)))
    (mss_one (ms_ret (me_op op_modN os_mod (me_op op_mulX os_mulX (me_op op_xor os_xor (mv 2) (me_op op_shr os_shr (mv 2) me_int)) me_int) (me_op op_pow os_pow me_int me_int)))))))
def b__law_draw : Ms := (mSeq (mDrsGet 0 2 3 4)
  (mSeq (mCond (mBool (mBin dLtX (mVar 3) (mVar 1)))
    (mSeq (mSet 5 (mBin dIx (mVar 4) (mBin dMod (mVar 2) (mCall dLen [(mVar 4)]))))
  (mSeq (mSet 3 (mIf (mAnd (mBool (mBin dLtX (mVar 2) (mCall dLen [(mVar 4)]))) (mBool (mBin dGe (mVar 5) (mBin dPow (mC (.int 10)) (mC (.int 18)))))) (mVar 5) (mFn m__law_mixed [(mVar 5), (mVar 2)])))
  (mSet 2 (mBin dAdd (mVar 2) (mC (.int 1)))))) mNil)
  (mSeq (mDrsPut 0 false (mVar 2))
  (mSeq (mDrsPut 0 true (mBin dDiv (mVar 3) (mVar 1)))
  (mRet (mBin dMod (mVar 3) (mVar 1)))))))
def m__law_draw : Sx → List D → Res D := mDef N__law_draw.length b__law_draw
theorem ok__law_draw (T : Txt K mg OR MA NT RE TM) (B : Tbs K mg base Ts Z_dealt Z_greatest_burden) : Prom P w K mg base (L2N.CX P w) 2 "_law_draw" ["draws", "size"] (spM K Ts (caX OR MA NT RE TM) 2 m__law_draw) := by
  have nd := sc__law_draw.nd
  have pr__law_mixed := ok__law_mixed (P := P) (w := w) (base := base) (Ts := Ts) T B
  unfold m__law_draw
  exact okM T.d__law_draw sc__law_draw bi__law_draw rfl fun f cdv A outer s H E hr dq F hq => (show MSs _ _ _ _ _ _ b__law_draw from by
    unfold b__law_draw
    exact (mss_cons (ms_drsGet rfl (ps_asg (pv 0) (pg_lst rfl (pgs_cons (pg_name (i := 2) nd rfl (Or.inl rfl)) (pgs_cons (pg_name (i := 3) nd rfl (Or.inl rfl)) (pgs_cons (pg_name (i := 4) nd rfl (Or.inl rfl)) pgs_nil))))))
    (mss_cons (ms_if (mt_cmp op_ltX os_ltX (mv 3) (mv 1) (nomark _))
      (mss_cons (ms_set (i := 5) nd rfl (Or.inl rfl) (me_ix (ix_seqA rfl) os_ix (mv 4) (me_op op_modN os_mod (mv 2) (me_callB (cl_len rfl) cs_len (by rfl) T.b_len (by decide +kernel) (ma_cons (mv 4) ma_nil))) (fun _ _ => rfl)))
    (mss_cons (ms_set (i := 3) nd rfl (Or.inl rfl) (me_ifExp (PW.pt (mw_and (mt_cmp op_ltX os_ltX (mv 2) (me_callB (cl_len rfl) cs_len (by rfl) T.b_len (by decide +kernel) (ma_cons (mv 4) ma_nil)) (nomark _)) (mw_and1 (mt_cmp op_ge os_rel (mv 5) (me_op op_pow os_pow me_int me_int) (nomark _))))) (mv 5) (me_fn hr pr__law_mixed (L2N.takes_of rfl rfl rfl rfl) rfl (ma_cons (mv 5) (ma_cons (mv 2) ma_nil)))))
    (mss_one (ms_set (i := 2) nd rfl (Or.inl rfl) (me_op (op_addA rfl) os_add (mv 2) me_int))))) mss_nil)
    (mss_cons (ms_drsPut (one := false) pe_int (pv 0) (mv 2) (fun h => ps_asg h (pg_sub (pv 0) pe_int set_list)))
    (mss_cons (ms_drsPut (one := true) pe_int (pv 0) (me_op op_fdivNW os_div (mv 3) (mv 1)) (fun h => ps_asg h (pg_sub (pv 0) pe_int set_list)))
    (mss_one (ms_ret (me_op op_modN os_mod (mv 3) (mv 1)))))))))
def b__law_parties : Ms := (mSeq (mSet 1 (mLst [(mC (.str "ann")), (mC (.str "bob")), (mC (.str "cid")), (mC (.str "dan"))]))
  (mSeq (mSet 2 (mFn m__law_draw [(mVar 0), (mC (.int 4))]))
  (mRet (mTup [(mBin dIx (mVar 1) (mVar 2)), (mBin dIx (mVar 1) (mBin dMod (mBin dAdd (mBin dAdd (mVar 2) (mC (.int 1))) (mFn m__law_draw [(mVar 0), (mC (.int 3))])) (mC (.int 4))))]))))
def m__law_parties : Sx → List D → Res D := mDef N__law_parties.length b__law_parties
theorem ok__law_parties (T : Txt K mg OR MA NT RE TM) (B : Tbs K mg base Ts Z_dealt Z_greatest_burden) : Prom P w K mg base (L2N.CX P w) 3 "_law_parties" ["draws"] (spM K Ts (caX OR MA NT RE TM) 1 m__law_parties) := by
  have nd := sc__law_parties.nd
  have pr__law_draw := ok__law_draw (P := P) (w := w) (base := base) (Ts := Ts) T B
  unfold m__law_parties
  exact okM T.d__law_parties sc__law_parties bi__law_parties rfl fun f cdv A outer s H E hr dq F hq => (show MSs _ _ _ _ _ _ b__law_parties from by
    unfold b__law_parties
    exact (mss_cons (ms_set (i := 1) nd rfl (Or.inl rfl) (me_lst (ma_cons (me_str) (ma_cons (me_str) (ma_cons (me_str) (ma_cons (me_str) ma_nil))))))
    (mss_cons (ms_set (i := 2) nd rfl (Or.inl rfl) (me_fn hr pr__law_draw (L2N.takes_of rfl rfl rfl rfl) rfl (ma_cons (mv 0) (ma_cons me_int ma_nil))))
    (mss_one (ms_ret (me_tup (ma_cons (me_ix (ix_seqA rfl) os_ix (mv 1) (mv 2) (fun _ _ => rfl)) (ma_cons (me_ix (ix_seqA rfl) os_ix (mv 1) (me_op op_modN os_mod (me_op (op_addA rfl) os_add (me_op (op_addA rfl) os_add (mv 2) me_int) (me_fn hr pr__law_draw (L2N.takes_of rfl rfl rfl rfl) rfl (ma_cons (mv 0) (ma_cons me_int ma_nil)))) me_int) (fun _ _ => rfl)) ma_nil))))))))
def b__law_expenses : Ms := (mSeq (mSet 1 (mLst []))
  (mSeq (mFor (mItR1 [(mFn m__law_draw [(mVar 0), (mC (.int 13))])]) (gN 2)
    (mSeq (mSet 3 (mCall dTuple [(mSl dSl (mLc (mIt (mLst [(mC (.str "a")), (mC (.str "b")), (mC (.str "c")), (mC (.str "d")), (mC (.str "e")), (mC (.str "f")), (mC (.str "g"))])) (gN 5) (mBool (mBin (dEq false) (mFn m__law_draw [(mVar 0), (mC (.int 3))]) (mC (.int 1)))) (mVar 5) [5]) mNo (mPart (mC (.int 6))))]))
  (mSeq (mSet 4 (mBin dIx (mLst [(mFn m__law_draw [(mVar 0), (mC (.int 20))]), (mFn m__law_draw [(mVar 0), (mBin dAdd (mBin dPow (mC (.int 10)) (mC (.int 12))) (mC (.int 1)))])]) (mFn m__law_draw [(mVar 0), (mC (.int 2))])))
  (mApp 1 (mTup [(mBin dIx (mLst [(mC (.str "ann")), (mC (.str "bob")), (mC (.str "cid")), (mC (.str "dan"))]) (mFn m__law_draw [(mVar 0), (mC (.int 4))])), (mVar 4), (mIf (mBool (mBin (dEq true) (mVar 3) (mTup []))) (mVar 3) (mTup [(mC (.str "c"))]))])))))
  (mRet (mVar 1))))
def m__law_expenses : Sx → List D → Res D := mDef N__law_expenses.length b__law_expenses
theorem ok__law_expenses (T : Txt K mg OR MA NT RE TM) (B : Tbs K mg base Ts Z_dealt Z_greatest_burden) : Prom P w K mg base (L2N.CX P w) 3 "_law_expenses" ["draws"] (spM K Ts (caX OR MA NT RE TM) 1 m__law_expenses) := by
  have nd := sc__law_expenses.nd
  have pr__law_draw := ok__law_draw (P := P) (w := w) (base := base) (Ts := Ts) T B
  unfold m__law_expenses
  exact okM T.d__law_expenses sc__law_expenses bi__law_expenses rfl fun f cdv A outer s H E hr dq F hq => (show MSs _ _ _ _ _ _ b__law_expenses from by
    unfold b__law_expenses
    exact (mss_cons (ms_set (i := 1) nd rfl (Or.inl rfl) (me_lst ma_nil))
    (mss_cons (ms_for (gm_name 2) PassesOwn.leaving rfl (mi_range1 rfl T.b_range (ma_cons (me_fn hr pr__law_draw (L2N.takes_of rfl rfl rfl rfl) rfl (ma_cons (mv 0) (ma_cons me_int ma_nil))) ma_nil)) (pg_name (i := 2) nd rfl (Or.inl rfl))
      (mss_cons (ms_set (i := 3) nd rfl (Or.inl rfl) (me_callTy (cl_tuple rfl) cs_tuple (by rfl) T.b_tuple (by decide +kernel) (ma_cons (me_slice (sl_any rfl) ss_any (me_lc (own := [("head", 5)]) (gm_name 5) rfl nd (mi_seq rfl (me_lst (ma_cons (me_str) (ma_cons (me_str) (ma_cons (me_str) (ma_cons (me_str) (ma_cons (me_str) (ma_cons (me_str) (ma_cons (me_str) ma_nil))))))))) (blkOk_by (own := [("head", 5)]) (N := N__law_expenses) (sc := defScope s__law_expenses) (by decide +kernel)) (fun _ _ _ _ _ => (pg_name (i := 5) nd rfl (Or.inl rfl))) (fun _ _ _ _ _ => (mts_one (mt_cmp (op_eqA rfl hr.units) os_eq (me_fn hr pr__law_draw Kh.takesN0 rfl (ma_cons (mv 0) (ma_cons me_int ma_nil))) me_int (nomark _)))) (fun _ _ _ _ _ => (mv 5))) mo_none (mo_some me_int)) ma_nil)))
    (mss_cons (ms_set (i := 4) nd rfl (Or.inl rfl) (me_ix (ix_seqA rfl) os_ix (me_lst (ma_cons (me_fn hr pr__law_draw (L2N.takes_of rfl rfl rfl rfl) rfl (ma_cons (mv 0) (ma_cons me_int ma_nil))) (ma_cons (me_fn hr pr__law_draw (L2N.takes_of rfl rfl rfl rfl) rfl (ma_cons (mv 0) (ma_cons (me_op (op_addA rfl) os_add (me_op op_pow os_pow me_int me_int) me_int) ma_nil))) ma_nil))) (me_fn hr pr__law_draw (L2N.takes_of rfl rfl rfl rfl) rfl (ma_cons (mv 0) (ma_cons me_int ma_nil))) (fun _ _ => rfl)))
    (mss_one (ms_append rfl (pv 1) (me_tup (ma_cons (me_ix (ix_seqA rfl) os_ix (me_lst (ma_cons (me_str) (ma_cons (me_str) (ma_cons (me_str) (ma_cons (me_str) ma_nil))))) (me_fn hr pr__law_draw (L2N.takes_of rfl rfl rfl rfl) rfl (ma_cons (mv 0) (ma_cons me_int ma_nil))) (fun _ _ => rfl)) (ma_cons (mv 4) (ma_cons (me_ifExp (mt_cmp (op_neA rfl hr.units) os_ne (mv 3) (me_tup ma_nil) (nomark _)) (mv 3) (me_tup (ma_cons (me_str) ma_nil))) ma_nil)))) (fun ho ha => pe_bm PySem.F.plainAttrs_list PySem.F.slot_list_append PySem.F.type_list_append mt_append ho ha))))))
    (mss_one (ms_ret (mv 1))))))
end
end F52
namespace F52
open PySem PySem.Spec PyProof.Rows L2 Kt Kj Mi
section
variable {P : Program} {w : World} {K : PySem.W.Frag} {mg : Str → Option Value} {base : Heap} {OR MA NT RE TM : Addr} {Ts : Mi.TsT} {Z_dealt Z_greatest_burden : Addr}
def b__law_burden : Ms := (mSeq (mSet 4 (mC (.int 0)))
  (mSeq (mFor (mIt (mVar 0)) (gT 3 (gsC (gN 5) (gsC (gN 6) (gsC (gN 7) gsN))))
    (mFor (mItR1 [(mCall dLen [(mVar 7)])]) (gN 8)
    (mSeq (mSet 9 (mBin dAdd (mBin dDiv (mVar 6) (mCall dLen [(mVar 7)])) (mIf (mBool (mBin dLtX (mVar 8) (mBin dMod (mVar 6) (mCall dLen [(mVar 7)])))) (mC (.int 1)) (mC (.int 0)))))
  (mFor (mIt (mVar 1)) (gT 3 (gsC (gN 10) (gsC (gN 11) (gsC (gN 12) gsN))))
    (mCond (mAnd (mBool (mBin (dEq false) (mVar 10) (mBin dIx (mVar 7) (mVar 8)))) (mBool (mBin (dEq false) (mVar 11) (mVar 5))))
    (mSeq (mSet 13 (mDGetV (mDisp [((mC (.str "own")), (mC (.int 0))), ((mC (.str "loser")), (mVar 9)), ((mC (.str "part")), (mBin dDiv (mBin dMulX (mVar 9) (mBin dIx (mBin dIx (mVar 2) (mC (.int 1))) (mC (.int 0)))) (mBin dIx (mBin dIx (mVar 2) (mC (.int 1))) (mC (.int 1)))))]) (mBin dIx (mVar 2) (mC (.int 0)))))
  (mSet 4 (mBin dSub (mBin dAdd (mVar 4) (mIf (mBool (mBin (dEq false) (mVar 12) (mVar 3))) (mVar 13) (mC (.int 0)))) (mIf (mBool (mBin (dEq false) (mVar 11) (mVar 3))) (mVar 13) (mC (.int 0)))))) mNil)))))
  (mRet (mVar 4))))
def m__law_burden : Sx → List D → Res D := mDef N__law_burden.length b__law_burden
theorem ok__law_burden (T : Txt K mg OR MA NT RE TM) (B : Tbs K mg base Ts Z_dealt Z_greatest_burden) : Prom P w K mg base (L2N.CX P w) 1 "_law_burden" ["expenses", "findings", "rule", "party"] (spM K Ts (caX OR MA NT RE TM) 4 m__law_burden) := by
  have nd := sc__law_burden.nd
  unfold m__law_burden
  exact okM T.d__law_burden sc__law_burden bi__law_burden rfl fun f cdv A outer s H E hr dq F hq => (show MSs _ _ _ _ _ _ b__law_burden from by
    unfold b__law_burden
    exact (mss_cons (ms_set (i := 4) nd rfl (Or.inl rfl) me_int)
    (mss_cons (ms_for (gm_tup rfl (gms_cons (gm_name 5) (gms_cons (gm_name 6) (gms_cons (gm_name 7) gms_nil)))) PassesOwn.leaving rfl (mi_seq rfl (mv 0)) (pg_tup rfl (pgs_cons (pg_name (i := 5) nd rfl (Or.inl rfl)) (pgs_cons (pg_name (i := 6) nd rfl (Or.inl rfl)) (pgs_cons (pg_name (i := 7) nd rfl (Or.inl rfl)) pgs_nil))))
      (mss_one (ms_for (gm_name 8) PassesOwn.leaving rfl (mi_range1 rfl T.b_range (ma_cons (me_callB (cl_len rfl) cs_len (by rfl) T.b_len (by decide +kernel) (ma_cons (mv 7) ma_nil)) ma_nil)) (pg_name (i := 8) nd rfl (Or.inl rfl))
      (mss_cons (ms_set (i := 9) nd rfl (Or.inl rfl) (me_op (op_addA rfl) os_add (me_op op_fdivNW os_div (mv 6) (me_callB (cl_len rfl) cs_len (by rfl) T.b_len (by decide +kernel) (ma_cons (mv 7) ma_nil))) (me_ifExp (mt_cmp op_ltX os_ltX (mv 8) (me_op op_modN os_mod (mv 6) (me_callB (cl_len rfl) cs_len (by rfl) T.b_len (by decide +kernel) (ma_cons (mv 7) ma_nil))) (nomark _)) me_int me_int)))
    (mss_one (ms_for (gm_tup rfl (gms_cons (gm_name 10) (gms_cons (gm_name 11) (gms_cons (gm_name 12) gms_nil)))) PassesOwn.leaving rfl (mi_seq rfl (mv 1)) (pg_tup rfl (pgs_cons (pg_name (i := 10) nd rfl (Or.inl rfl)) (pgs_cons (pg_name (i := 11) nd rfl (Or.inl rfl)) (pgs_cons (pg_name (i := 12) nd rfl (Or.inl rfl)) pgs_nil))))
      (mss_one (ms_if (PW.pt (mw_and (mt_cmp (op_eqA rfl hr.units) os_eq (mv 10) (me_ix (ix_seqA rfl) os_ix (mv 7) (mv 8) (fun _ _ => rfl)) (nomark _)) (mw_and1 (mt_cmp (op_eqA rfl hr.units) os_eq (mv 11) (mv 5) (nomark _)))))
      (mss_cons (ms_set (i := 13) nd rfl (Or.inl rfl) (me_dgetV (Nat.lt_of_le_of_lt (Nat.add_le_add_left (by decide) _) hr.units) (me_disp (mpp_cons (me_str) me_int (mpp_cons (me_str) (mv 9) (mpp_cons (me_str) (me_op op_fdivNW os_div (me_op op_mulX os_mulX (mv 9) (me_ix (ix_seqA rfl) os_ix (me_ix (ix_seqA rfl) os_ix (mv 2) me_int (fun _ _ => rfl)) me_int (fun _ _ => rfl))) (me_ix (ix_seqA rfl) os_ix (me_ix (ix_seqA rfl) os_ix (mv 2) me_int (fun _ _ => rfl)) me_int (fun _ _ => rfl))) mpp_nil))) rfl rfl (by simp) (by simp)) (me_ix (ix_seqA rfl) os_ix (mv 2) me_int (fun _ _ => rfl)) (fun _ _ => rfl)))
    (mss_one (ms_set (i := 4) nd rfl (Or.inl rfl) (me_op op_sub os_sub (me_op (op_addA rfl) os_add (mv 4) (me_ifExp (mt_cmp (op_eqA rfl hr.units) os_eq (mv 12) (mv 3) (nomark _)) (mv 13) me_int)) (me_ifExp (mt_cmp (op_eqA rfl hr.units) os_eq (mv 11) (mv 3) (nomark _)) (mv 13) me_int))))) mss_nil))))))))
    (mss_one (ms_ret (mv 4))))))
def b__law_ways : Ms := (mSeq (mSet 2 (mLst [(mTup [(mC (.int 0)), (mCall dList [(mVar 0)])])]))
  (mSeq (mFor (mIt (mVar 1)) (gT 3 (gsC (gN 3) (gsC (gN 4) (gsC (gN 5) gsN))))
    (mSeq (mSet 6 (mLst []))
  (mSeq (mFrz 2 (mFor (mIt (mVar 2)) (gT 2 (gsC (gN 7) (gsC (gN 8) gsN)))
    (mSeq (mApp 6 (mTup [(mVar 7), (mBin dAdd (mVar 8) (mLst [(mTup [(mVar 3), (mVar 4), (mVar 5)])]))]))
  (mApp 6 (mTup [(mBin dAdd (mVar 7) (mC (.int 1))), (mBin dAdd (mVar 8) (mLst [(mTup [(mVar 3), (mVar 5), (mVar 4)])]))])))))
  (mFrz 6 (mSet 2 (mVar 6))))))
  (mRet (mVar 2))))
def m__law_ways : Sx → List D → Res D := mDef N__law_ways.length b__law_ways
theorem ok__law_ways (T : Txt K mg OR MA NT RE TM) (B : Tbs K mg base Ts Z_dealt Z_greatest_burden) : Prom P w K mg base (L2N.CX P w) 1 "_law_ways" ["judgment", "open_heads"] (spM K Ts (caX OR MA NT RE TM) 2 m__law_ways) := by
  have nd := sc__law_ways.nd
  unfold m__law_ways
  exact okM T.d__law_ways sc__law_ways bi__law_ways rfl fun f cdv A outer s H E hr dq F hq => (show MSs _ _ _ _ _ _ b__law_ways from by
    unfold b__law_ways
    exact (mss_cons (ms_set (i := 2) nd rfl (Or.inl rfl) (me_lst (ma_cons (me_tup (ma_cons me_int (ma_cons (me_callTy (cl_list rfl) cs_list (by rfl) T.b_list (by decide +kernel) (ma_cons (mv 0) ma_nil)) ma_nil))) ma_nil)))
    (mss_cons (ms_for (gm_tup rfl (gms_cons (gm_name 3) (gms_cons (gm_name 4) (gms_cons (gm_name 5) gms_nil)))) PassesOwn.leaving rfl (mi_seq rfl (mv 1)) (pg_tup rfl (pgs_cons (pg_name (i := 3) nd rfl (Or.inl rfl)) (pgs_cons (pg_name (i := 4) nd rfl (Or.inl rfl)) (pgs_cons (pg_name (i := 5) nd rfl (Or.inl rfl)) pgs_nil))))
      (mss_cons (ms_set (i := 6) nd rfl (Or.inl rfl) (me_lst ma_nil))
    (mss_cons (ms_frz 2 (ms_for (gm_tup rfl (gms_cons (gm_name 7) (gms_cons (gm_name 8) gms_nil))) PassesOwn.leaving rfl (mi_seq rfl (mv 2)) (pg_tup rfl (pgs_cons (pg_name (i := 7) nd rfl (Or.inl rfl)) (pgs_cons (pg_name (i := 8) nd rfl (Or.inl rfl)) pgs_nil)))
      (mss_cons (ms_append rfl (pv 6) (me_tup (ma_cons (mv 7) (ma_cons (me_op (op_addA rfl) os_add (mv 8) (me_lst (ma_cons (me_tup (ma_cons (mv 3) (ma_cons (mv 4) (ma_cons (mv 5) ma_nil)))) ma_nil))) ma_nil))) (fun ho ha => pe_bm PySem.F.plainAttrs_list PySem.F.slot_list_append PySem.F.type_list_append mt_append ho ha))
    (mss_one (ms_append rfl (pv 6) (me_tup (ma_cons (me_op (op_addA rfl) os_add (mv 7) me_int) (ma_cons (me_op (op_addA rfl) os_add (mv 8) (me_lst (ma_cons (me_tup (ma_cons (mv 3) (ma_cons (mv 5) (ma_cons (mv 4) ma_nil)))) ma_nil))) ma_nil))) (fun ho ha => pe_bm PySem.F.plainAttrs_list PySem.F.slot_list_append PySem.F.type_list_append mt_append ho ha))))))
    (mss_one (ms_frz 6 (ms_set (i := 2) nd rfl (Or.inl rfl) (mv 6)))))))
    (mss_one (ms_ret (mv 2))))))
def b__law_due : Ms := (mSeq (mSet 5 (mC .non))
  (mSeq (mFor (mIt (mFn m__law_ways [(mVar 1), (mVar 2)])) (gT 2 (gsC (gN 6) (gsC (gN 7) gsN)))
    (mSeq (mSet 8 (mFn m__law_burden [(mVar 0), (mVar 7), (mVar 3), (mVar 4)]))
  (mCond (mOr (mBool (mBin (dIsN false) (mVar 5) (mC .non))) (mOr (mBool (mBin dGt (mVar 8) (mBin dIx (mVar 5) (mC (.int 0))))) (mAnd (mBool (mBin (dEq false) (mVar 8) (mBin dIx (mVar 5) (mC (.int 0))))) (mBool (mBin dLtX (mVar 6) (mBin dIx (mVar 5) (mC (.int 1))))))))
    (mSet 5 (mTup [(mVar 8), (mVar 6), (mCall dTuple [(mCall dSortD [(mVar 7)])])])) mNil)))
  (mRet (mTup [(mBin dIx (mVar 5) (mC (.int 0))), (mBin dIx (mVar 5) (mC (.int 2)))]))))
def m__law_due : Sx → List D → Res D := mDef N__law_due.length b__law_due
theorem ok__law_due (T : Txt K mg OR MA NT RE TM) (B : Tbs K mg base Ts Z_dealt Z_greatest_burden) : Prom P w K mg base (L2N.CX P w) 2 "_law_due" ["expenses", "judgment", "open_heads", "rule", "party"] (spM K Ts (caX OR MA NT RE TM) 5 m__law_due) := by
  have nd := sc__law_due.nd
  have pr__law_ways := ok__law_ways (P := P) (w := w) (base := base) (Ts := Ts) T B
  have pr__law_burden := ok__law_burden (P := P) (w := w) (base := base) (Ts := Ts) T B
  unfold m__law_due
  exact okM T.d__law_due sc__law_due bi__law_due rfl fun f cdv A outer s H E hr dq F hq => (show MSs _ _ _ _ _ _ b__law_due from by
    unfold b__law_due
    exact (mss_cons (ms_set (i := 5) nd rfl (Or.inl rfl) me_non)
    (mss_cons (ms_for (gm_tup rfl (gms_cons (gm_name 6) (gms_cons (gm_name 7) gms_nil))) PassesOwn.leaving rfl (mi_seq rfl (me_fn hr pr__law_ways (L2N.takes_of rfl rfl rfl rfl) rfl (ma_cons (mv 1) (ma_cons (mv 2) ma_nil)))) (pg_tup rfl (pgs_cons (pg_name (i := 6) nd rfl (Or.inl rfl)) (pgs_cons (pg_name (i := 7) nd rfl (Or.inl rfl)) pgs_nil)))
      (mss_cons (ms_set (i := 8) nd rfl (Or.inl rfl) (me_fn hr pr__law_burden (L2N.takes_of rfl rfl rfl rfl) rfl (ma_cons (mv 0) (ma_cons (mv 7) (ma_cons (mv 3) (ma_cons (mv 4) ma_nil))))))
    (mss_one (ms_if (PW.pt (mw_or (mt_cmp op_isN os_isN (mv 5) me_non (nomark _)) (mw_or (mt_cmp op_gt os_rel (mv 8) (me_ix (ix_seqA rfl) os_ix (mv 5) me_int (fun _ _ => rfl)) (nomark _)) (mw_or1 (PW.pt (mw_and (mt_cmp (op_eqA rfl hr.units) os_eq (mv 8) (me_ix (ix_seqA rfl) os_ix (mv 5) me_int (fun _ _ => rfl)) (nomark _)) (mw_and1 (mt_cmp op_ltX os_ltX (mv 6) (me_ix (ix_seqA rfl) os_ix (mv 5) me_int (fun _ _ => rfl)) (nomark _)))))))))
      (mss_one (ms_set (i := 5) nd rfl (Or.inl rfl) (me_tup (ma_cons (mv 8) (ma_cons (mv 6) (ma_cons (me_callTy (cl_tuple rfl) cs_tuple (by rfl) T.b_tuple (by decide +kernel) (ma_cons (me_callB (cr_sortD rfl hr.units) cs_sortD (by rfl) T.b_sorted (by decide +kernel) (ma_cons (mv 7) ma_nil)) ma_nil)) ma_nil)))))) mss_nil))))
    (mss_one (ms_ret (me_tup (ma_cons (me_ix (ix_seqA rfl) os_ix (mv 5) me_int (fun _ _ => rfl)) (ma_cons (me_ix (ix_seqA rfl) os_ix (mv 5) me_int (fun _ _ => rfl)) ma_nil))))))))
def b__law_asked : Ms := (mSeq (mSet 5 (mCall dList [(mVar 0)]))
  (mSeq (mFrz 5 (mSet 6 (mFn m_greatest_burden [(mVar 5), (mVar 1), (mVar 2), (mVar 3), (mVar 4)])))
  (mSeq (mCond (mOr (mNot (mBool (mUn (dIsi "tuple") (mVar 6)))) (mOr (mBool (mBin (dEq true) (mCall dLen [(mVar 6)]) (mC (.int 2)))) (mBool (mBin (dEq true) (mVar 5) (mVar 0)))))
    (mRet (mC (.bl false))) mNil)
  (mSeq (mAsg (mVar 6) (gT 2 (gsC (gN 7) (gsC (gN 8) gsN))))
  (mSeq (mSet 9 (mFn m__law_due [(mVar 0), (mVar 1), (mVar 2), (mVar 3), (mVar 4)]))
  (mSeq (mCond (mOr (mNot (mBool (mUn (dIsi "int") (mVar 7)))) (mOr (mBool (mUn (dIsi "bool") (mVar 7))) (mOr (mBool (mBin (dEq true) (mVar 7) (mBin dIx (mVar 9) (mC (.int 0))))) (mNot (mBool (mUn (dIsi "tuple") (mVar 8)))))))
    (mRet (mC (.bl false))) mNil)
  (mSeq (mFrz 5 (mCond (mOr (mBool (mBin (dEq true) (mVar 8) (mBin dIx (mVar 9) (mC (.int 1))))) (mBool (mBin (dEq true) (mFn m_burden [(mVar 5), (mVar 8), (mVar 3), (mVar 4)]) (mVar 7))))
    (mRet (mC (.bl false))) mNil))
  (mSeq (mFor (mIt (mLst [(mC (.int 0)), (mBin dSub (mVar 7) (mC (.int 1))), (mVar 7), (mBin dAdd (mVar 7) (mC (.int 1))), (mBin dPow (mC (.int 10)) (mC (.int 12)))])) (gN 10)
    (mCond (mBool (mChain dLe dLe (mC (.int 0)) (mVar 10) (mBin dPow (mC (.int 10)) (mC (.int 12)))))
    (mSeq (mFrz 5 (mSet 11 (mFn m_is_enough [(mVar 5), (mVar 1), (mVar 2), (mVar 3), (mVar 4), (mVar 10)])))
  (mCond (mOr (mAnd (mBool (mBin dGe (mVar 10) (mVar 7))) (mBool (mBin (dIsB true) (mVar 11) (mC (.bl true))))) (mAnd (mBool (mBin dLtX (mVar 10) (mVar 7))) (mBool (mBin (dIsB true) (mVar 11) (mC (.bl false))))))
    (mRet (mC (.bl false))) mNil)) mNil))
  (mRet (mC (.bl true)))))))))))
def m__law_asked : Sx → List D → Res D := mDef N__law_asked.length b__law_asked
theorem ok__law_asked (T : Txt K mg OR MA NT RE TM) (B : Tbs K mg base Ts Z_dealt Z_greatest_burden) : Prom P w K mg base (L2N.CX P w) 6 "_law_asked" ["expenses", "judgment", "open_heads", "rule", "party"] (spM K Ts (caX OR MA NT RE TM) 5 m__law_asked) := by
  have nd := sc__law_asked.nd
  have pr_greatest_burden := ok_greatest_burden (P := P) (w := w) (base := base) (Ts := Ts) T B
  have pr__law_due := ok__law_due (P := P) (w := w) (base := base) (Ts := Ts) T B
  have pr_burden := ok_burden (P := P) (w := w) (base := base) (Ts := Ts) T B
  have pr_is_enough := ok_is_enough (P := P) (w := w) (base := base) (Ts := Ts) T B
  unfold m__law_asked
  exact okM T.d__law_asked sc__law_asked bi__law_asked rfl fun f cdv A outer s H E hr dq F hq => (show MSs _ _ _ _ _ _ b__law_asked from by
    unfold b__law_asked
    exact (mss_cons (ms_set (i := 5) nd rfl (Or.inl rfl) (me_callTy (cl_list rfl) cs_list (by rfl) T.b_list (by decide +kernel) (ma_cons (mv 0) ma_nil)))
    (mss_cons (ms_frz 5 (ms_set (i := 6) nd rfl (Or.inl rfl) (me_fn hr pr_greatest_burden (L2N.takes_of rfl rfl rfl rfl) rfl (ma_cons (mv 5) (ma_cons (mv 1) (ma_cons (mv 2) (ma_cons (mv 3) (ma_cons (mv 4) ma_nil))))))))
    (mss_cons (ms_if (PW.pt (mw_or (mt_not (mt_val (me_isi rfl rfl T.b_isinstance rfl T.b_tuple (by decide +kernel) (mv 6)))) (mw_or (mt_cmp (op_neA rfl hr.units) os_ne (me_callB (cl_len rfl) cs_len (by rfl) T.b_len (by decide +kernel) (ma_cons (mv 6) ma_nil)) me_int (nomark _)) (mw_or1 (mt_cmp (op_neA rfl hr.units) os_ne (mv 5) (mv 0) (nomark _))))))
      (mss_one (ms_ret me_bl)) mss_nil)
    (mss_cons (ms_asg (gm_tup rfl (gms_cons (gm_name 7) (gms_cons (gm_name 8) gms_nil))) (mv 6) (pg_tup rfl (pgs_cons (pg_name (i := 7) nd rfl (Or.inl rfl)) (pgs_cons (pg_name (i := 8) nd rfl (Or.inl rfl)) pgs_nil))))
    (mss_cons (ms_set (i := 9) nd rfl (Or.inl rfl) (me_fn hr pr__law_due (L2N.takes_of rfl rfl rfl rfl) rfl (ma_cons (mv 0) (ma_cons (mv 1) (ma_cons (mv 2) (ma_cons (mv 3) (ma_cons (mv 4) ma_nil)))))))
    (mss_cons (ms_if (PW.pt (mw_or (mt_not (mt_val (me_isi rfl rfl T.b_isinstance rfl T.b_int (by decide +kernel) (mv 7)))) (mw_or (mt_val (me_isi rfl rfl T.b_isinstance rfl T.b_bool (by decide +kernel) (mv 7))) (mw_or (mt_cmp (op_neA rfl hr.units) os_ne (mv 7) (me_ix (ix_seqA rfl) os_ix (mv 9) me_int (fun _ _ => rfl)) (nomark _)) (mw_or1 (mt_not (mt_val (me_isi rfl rfl T.b_isinstance rfl T.b_tuple (by decide +kernel) (mv 8)))))))))
      (mss_one (ms_ret me_bl)) mss_nil)
    (mss_cons (ms_frz 5 (ms_if (PW.pt (mw_or (mt_cmp (op_neA rfl hr.units) os_ne (mv 8) (me_ix (ix_seqA rfl) os_ix (mv 9) me_int (fun _ _ => rfl)) (nomark _)) (mw_or1 (mt_cmp (op_neA rfl hr.units) os_ne (me_fn hr pr_burden (L2N.takes_of rfl rfl rfl rfl) rfl (ma_cons (mv 5) (ma_cons (mv 8) (ma_cons (mv 3) (ma_cons (mv 4) ma_nil))))) (mv 7) (nomark _)))))
      (mss_one (ms_ret me_bl)) mss_nil))
    (mss_cons (ms_for (gm_name 10) PassesOwn.leaving rfl (mi_seq rfl (me_lst (ma_cons me_int (ma_cons (me_op op_sub os_sub (mv 7) me_int) (ma_cons (mv 7) (ma_cons (me_op (op_addA rfl) os_add (mv 7) me_int) (ma_cons (me_op op_pow os_pow me_int me_int) ma_nil))))))) (pg_name (i := 10) nd rfl (Or.inl rfl))
      (mss_one (ms_if (mt_chain op_le op_le os_rel os_rel me_int (mv 10) (me_op op_pow os_pow me_int me_int) (fun ha hb hc => pt_chain op_le op_le ha hb hc))
      (mss_cons (ms_frz 5 (ms_set (i := 11) nd rfl (Or.inl rfl) (me_fn hr pr_is_enough (L2N.takes_of rfl rfl rfl rfl) rfl (ma_cons (mv 5) (ma_cons (mv 1) (ma_cons (mv 2) (ma_cons (mv 3) (ma_cons (mv 4) (ma_cons (mv 10) ma_nil)))))))))
    (mss_one (ms_if (PW.pt (mw_or (PW.pt (mw_and (mt_cmp op_ge os_rel (mv 10) (mv 7) (nomark _)) (mw_and1 (mt_cmp op_notBl os_notB (mv 11) me_bl (nomark _))))) (mw_or1 (PW.pt (mw_and (mt_cmp op_ltX os_ltX (mv 10) (mv 7) (nomark _)) (mw_and1 (mt_cmp op_notBl os_notB (mv 11) me_bl (nomark _))))))))
      (mss_one (ms_ret me_bl)) mss_nil))) mss_nil)))
    (mss_one (ms_ret me_bl)))))))))))
def b__law_refused : Ms := (mSeq (mFor (mItR1 [(mC (.int 2))]) (gN 5)
    (mTry 6 (mSeq (mCond (mBool (mBin (dEq false) (mVar 5) (mC (.int 0))))
    (mDrop (mFn m_greatest_burden [(mVar 0), (mVar 1), (mVar 2), (mVar 3), (mC (.str "ann"))])) (mDrop (mFn m_is_enough [(mVar 0), (mVar 1), (mVar 2), (mVar 3), (mC (.str "ann")), (mC (.int 5))])))
  (mRet (mC (.bl false))))
    (mCond (mBool (mBin (dEq true) (mTold 6) (mVar 4)))
    (mRet (mC (.bl false))) mNil)))
  (mRet (mC (.bl true))))
def m__law_refused : Sx → List D → Res D := mDef N__law_refused.length b__law_refused
theorem ok__law_refused (T : Txt K mg OR MA NT RE TM) (B : Tbs K mg base Ts Z_dealt Z_greatest_burden) : Prom P w K mg base (L2N.CX P w) 6 "_law_refused" ["expenses", "judgment", "open_heads", "rule", "due"] (spM K Ts (caX OR MA NT RE TM) 5 m__law_refused) := by
  have nd := sc__law_refused.nd
  have pr_greatest_burden := ok_greatest_burden (P := P) (w := w) (base := base) (Ts := Ts) T B
  have pr_is_enough := ok_is_enough (P := P) (w := w) (base := base) (Ts := Ts) T B
  have pr__law_told := ok_law_told (P := P) (w := w) (base := base) T
  obtain ⟨DE, eDE, _⟩ := T.g_DE
  have gDE := eDE.g
  have hex : ∀ k, PySem.W.exmOne K (.ref (caX OR MA NT RE TM k)) (.ref DE) = some true := fun k => by
    obtain ⟨x1, x2, x3, x4, x5⟩ := T.g_DX DE eDE.g
    cases k
    · exact exm_up eDE x1
    · exact exm_up eDE x2
    · exact exm_up eDE x3
    · exact exm_up eDE x4
    · exact exm_up eDE x5
  have told_ok := told_ok T
  unfold m__law_refused
  exact okM T.d__law_refused sc__law_refused bi__law_refused rfl fun f cdv A outer s H E hr dq F hq => (show MSs _ _ _ _ _ _ b__law_refused from by
    unfold b__law_refused
    exact (mss_cons (ms_for (gm_name 5) PassesOwn.leaving rfl (mi_range1 rfl T.b_range (ma_cons me_int ma_nil)) (pg_name (i := 5) nd rfl (Or.inl rfl))
      (mss_one (ms_try (i := 6) rfl rfl rfl rfl nd rfl rfl ⟨rfl, by decide, .inl gDE⟩ (L2N.takes_of rfl rfl rfl rfl) hex (fun W pn xe tk hp => (mss_cons (ms_if (mt_cmp (op_eqA rfl hr.units) os_eq (mv 5) me_int (nomark _))
      (mss_one (ms_expr (me_fn hr pr_greatest_burden tk rfl (ma_cons (mv 0) (ma_cons (mv 1) (ma_cons (mv 2) (ma_cons (mv 3) (ma_cons (me_str) ma_nil)))))))) (mss_one (ms_expr (me_fn hr pr_is_enough tk rfl (ma_cons (mv 0) (ma_cons (mv 1) (ma_cons (mv 2) (ma_cons (mv 3) (ma_cons (me_str) (ma_cons me_int ma_nil))))))))))
    (mss_one (ms_ret me_bl)))) (fun k a oe pn hqh hz hf => (mss_one (ms_if (mt_cmp (op_neA rfl hr.units) os_ne (me_told hz hf hr pr__law_told told_ok (pv 6)) (mv 4) (nomark _))
      (mss_one (ms_ret me_bl)) mss_nil))))))
    (mss_one (ms_ret me_bl))))
end
end F52
namespace F52
open PySem PySem.Spec PyProof.Rows L2 Kt Kj Mi
def b_law : Ms := (mSeq (mFor (mItR1 [(mBin dAdd (mC (.int 1)) (mFn m__law_draw [(mVar 1), (mC (.int 2))]))]) (gN 2)
    (mSeq (mSet 3 (mFn m__law_expenses [(mVar 1)]))
  (mSeq (mSet 4 (mBin dIx (mLst [(mTup [(mC (.str "loser")), (mTup [(mC (.int 1)), (mC (.int 1))])]), (mTup [(mC (.str "part")), (mTup [(mC (.int 1)), (mBin dAdd (mC (.int 2)) (mFn m__law_draw [(mVar 1), (mC (.int 9))]))])]), (mTup [(mC (.str "part")), (mTup [(mC (.int 2)), (mC (.int 3))])]), (mTup [(mC (.str "own")), (mTup [(mC (.int 1)), (mC (.int 1))])])]) (mBin dMod (mFn m__law_draw [(mVar 1), (mC (.int 9))]) (mC (.int 4)))))
  (mSeq (mSet 5 (mLst []))
  (mSeq (mSet 6 (mLst []))
  (mSeq (mFor (mIt (mLst [(mC (.str "a")), (mC (.str "b")), (mC (.str "c")), (mC (.str "d")), (mC (.str "e")), (mC (.str "f")), (mC (.str "g"))])) (gN 7)
    (mSeq (mSet 8 (mFn m__law_draw [(mVar 1), (mC (.int 3))]))
  (mSeq (mAsg (mFn m__law_parties [(mVar 1)]) (gT 2 (gsC (gN 9) (gsC (gN 10) gsN))))
  (mCond (mBool (mBin (dEq false) (mVar 8) (mC (.int 0))))
    (mApp 5 (mTup [(mVar 7), (mVar 9), (mVar 10)])) (mCond (mOr (mAnd (mBool (mBin (dEq false) (mVar 8) (mC (.int 1)))) (mBool (mBin dLtX (mCall dLen [(mVar 6)]) (mC (.int 6))))) (mBool (mBin (dEq false) (mVar 7) (mC (.str "c")))))
    (mApp 6 (mTup [(mVar 7), (mVar 9), (mVar 10)])) mNil)))))
  (mSeq (mSet 11 (mBin dIx (mLst [(mC (.str "ann")), (mC (.str "bob")), (mC (.str "cid")), (mC (.str "dan")), (mC (.str "eve"))]) (mBin dMod (mFn m__law_draw [(mVar 1), (mC (.int 9))]) (mC (.int 5)))))
  (mSeq (mCond (mNot (mBool (mFn m__law_asked [(mVar 3), (mCall dTuple [(mVar 5)]), (mCall dTuple [(mSl dSl (mVar 6) mNo (mPart (mC (.int 6))))]), (mVar 4), (mVar 11)])))
    (mRet (mC (.bl false))) mNil)
  (mSeq (mAsg (mIf (mBool (mBin (dEq true) (mVar 6) (mLst []))) (mBin dIx (mVar 6) (mFn m__law_draw [(mVar 1), (mCall dLen [(mVar 6)])])) (mTup [(mC (.str "c")), (mC (.str "ann")), (mC (.str "bob"))])) (gT 3 (gsC (gN 7) (gsC (gN 9) (gsC (gN 10) gsN)))))
  (mSeq (mFrz 5 (mSet 12 (mCall dTuple [(mCall dSortD [(mBin dAdd (mLc (mIt (mVar 5)) (gN 18) (mBool (mBin (dEq true) (mBin dIx (mVar 18) (mC (.int 0))) (mVar 7))) (mVar 18) [18]) (mLst [(mTup [(mVar 7), (mVar 10), (mVar 9)])]))])])))
  (mSeq (mCond (mNot (mBool (mFn m__law_refused [(mVar 3), (mVar 12), (mTup [(mTup [(mVar 7), (mVar 9), (mVar 10)])]), (mVar 4), (mC (.str "Refused"))])))
    (mRet (mC (.bl false))) mNil)
  (mSeq (mSet 13 (mCall dTuple [(mLc (mItR1 [(mBin dSub (mC (.int 13)) (mCall dLen [(mVar 5)]))]) (gN 16) mYes (mBin dMulX (mC (.str "h")) (mBin dAdd (mVar 16) (mC (.int 1)))) [16])]))
  (mSeq (mSet 14 (mCall dTuple [(mLc (mIt (mSl dSl (mVar 13) mNo (mPart (mC (.int 12))))) (gN 17) mYes (mTup [(mVar 17), (mC (.str "ann")), (mC (.str "bob"))]) [17])]))
  (mSeq (mCond (mAnd (mBool (mBin dGt (mCall dLen [(mVar 5)]) (mC (.int 0)))) (mNot (mBool (mFn m__law_refused [(mVar 3), (mCall dTuple [(mVar 5)]), (mVar 14), (mVar 4), (mC (.str "TooMuch"))]))))
    (mRet (mC (.bl false))) mNil)
  (mSeq (mCond (mAnd (mBool (mBin dGt (mCall dLen [(mVar 5)]) (mC (.int 0)))) (mNot (mBool (mFn m__law_refused [(mVar 3), (mCall dTuple [(mVar 5)]), (mBin dAdd (mCall dTuple [(mCall dSortD [(mBin dAdd (mSl dSl (mVar 14) mNo (mPart (mC (.int 10)))) (mTup [(mTup [(mBin dIx (mBin dIx (mVar 5) (mC (.int 0))) (mC (.int 0))), (mC (.str "x")), (mC (.str "y"))])]))])]) (mTup [(mTup [(mC (.str "z")), (mC (.str "x")), (mC (.str "y"))])])), (mVar 4), (mC (.str "Refused"))]))))
    (mRet (mC (.bl false))) mNil)
  (mSeq (mSet 15 (mFn m_greatest_burden [(mVar 3), (mCall dTuple [(mVar 5)]), (mSl dSl (mVar 14) mNo (mPart (mBin dSub (mC (.int 12)) (mCall dLen [(mVar 5)])))), (mVar 4), (mVar 11)]))
  (mFrz 5 (mCond (mOr (mBool (mBin (dEq true) (mBin dIx (mVar 15) (mC (.int 0))) (mFn m__law_burden [(mVar 3), (mVar 5), (mVar 4), (mVar 11)]))) (mBool (mBin (dEq true) (mBin dIx (mVar 15) (mC (.int 1))) (mBin dAdd (mCall dTuple [(mVar 5)]) (mSl dSl (mVar 14) mNo (mPart (mBin dSub (mC (.int 12)) (mCall dLen [(mVar 5)]))))))))
    (mRet (mC (.bl false))) mNil))))))))))))))))))
  (mRet (mC (.bl true))))
section
variable {P : Program} {w : World} {K : PySem.W.Frag} {mg : Str → Option Value} {base : Heap} {OR MA NT RE TM : Addr} {Ts : Mi.TsT} {Z_dealt Z_greatest_burden : Addr}
theorem ok_law (T : Txt K mg OR MA NT RE TM) (B : Tbs K mg base Ts Z_dealt Z_greatest_burden) (hm : ∀ d : DS, 0 < d.cs.length → d.cs.length ≤ 64 → ∃ s', b_law ((List.replicate N_law.length none).set 1 (some (.d .drs))) (some d) = .rt (.bl true) s') : Prom P w K mg base CX0 7 "law" ["script"] (spLaw K Ts) := by
  have nd := sc_law.nd
  have pr__law_open := ok_law_open (P := P) (w := w) (base := base) T
  have pr__law_expenses := ok__law_expenses (P := P) (w := w) (base := base) (Ts := Ts) T B
  have pr_greatest_burden := ok_greatest_burden (P := P) (w := w) (base := base) (Ts := Ts) T B
  have pr__law_draw := ok__law_draw (P := P) (w := w) (base := base) (Ts := Ts) T B
  have pr__law_parties := ok__law_parties (P := P) (w := w) (base := base) (Ts := Ts) T B
  have pr__law_asked := ok__law_asked (P := P) (w := w) (base := base) (Ts := Ts) T B
  have pr__law_refused := ok__law_refused (P := P) (w := w) (base := base) (Ts := Ts) T B
  have pr__law_burden := ok__law_burden (P := P) (w := w) (base := base) (Ts := Ts) T B
  refine T.d_law.ok sc_law bi_law (fun vs H Q E h => ?_) (fun f cdv A outer s H vs Q E hr h => ?_)
  · obtain ⟨a, ns, rfl, _⟩ := h
    rfl
  · exact law_run (i := 1) (m := b_law) (ca := (caX OR MA NT RE TM)) h (by decide) (by decide) (ps_set (i := 1) nd rfl (Or.inl rfl) (pcall hr pr__law_open (pa_cons (pv 0) pa_nil))) (fun dq F0 H0 hq => (show MSs _ _ _ _ _ _ b_law from by
    unfold b_law
    exact (mss_cons (ms_for (gm_name 2) PassesOwn.never rfl (mi_range1 rfl T.b_range (ma_cons (me_op (op_addA rfl) os_add me_int (me_fn hr pr__law_draw Kh.takesN0 rfl (ma_cons (mv 1) (ma_cons me_int ma_nil)))) ma_nil)) (pg_name (i := 2) nd rfl (Or.inl rfl))
      (mss_cons (ms_set (i := 3) nd rfl (Or.inl rfl) (me_fn hr pr__law_expenses Kh.takesN0 rfl (ma_cons (mv 1) ma_nil)))
    (mss_cons (ms_set (i := 4) nd rfl (Or.inl rfl) (me_ix (ix_seqA rfl) os_ix (me_lst (ma_cons (me_tup (ma_cons (me_str) (ma_cons (me_tup (ma_cons me_int (ma_cons me_int ma_nil))) ma_nil))) (ma_cons (me_tup (ma_cons (me_str) (ma_cons (me_tup (ma_cons me_int (ma_cons (me_op (op_addA rfl) os_add me_int (me_fn hr pr__law_draw Kh.takesN0 rfl (ma_cons (mv 1) (ma_cons me_int ma_nil)))) ma_nil))) ma_nil))) (ma_cons (me_tup (ma_cons (me_str) (ma_cons (me_tup (ma_cons me_int (ma_cons me_int ma_nil))) ma_nil))) (ma_cons (me_tup (ma_cons (me_str) (ma_cons (me_tup (ma_cons me_int (ma_cons me_int ma_nil))) ma_nil))) ma_nil))))) (me_op op_modN os_mod (me_fn hr pr__law_draw Kh.takesN0 rfl (ma_cons (mv 1) (ma_cons me_int ma_nil))) me_int) (fun _ _ => rfl)))
    (mss_cons (ms_set (i := 5) nd rfl (Or.inl rfl) (me_lst ma_nil))
    (mss_cons (ms_set (i := 6) nd rfl (Or.inl rfl) (me_lst ma_nil))
    (mss_cons (ms_for (gm_name 7) PassesOwn.never rfl (mi_seq rfl (me_lst (ma_cons (me_str) (ma_cons (me_str) (ma_cons (me_str) (ma_cons (me_str) (ma_cons (me_str) (ma_cons (me_str) (ma_cons (me_str) ma_nil))))))))) (pg_name (i := 7) nd rfl (Or.inr rfl))
      (mss_cons (ms_set (i := 8) nd rfl (Or.inl rfl) (me_fn hr pr__law_draw Kh.takesN0 rfl (ma_cons (mv 1) (ma_cons me_int ma_nil))))
    (mss_cons (ms_asg (gm_tup rfl (gms_cons (gm_name 9) (gms_cons (gm_name 10) gms_nil))) (me_fn hr pr__law_parties Kh.takesN0 rfl (ma_cons (mv 1) ma_nil)) (pg_tup rfl (pgs_cons (pg_name (i := 9) nd rfl (Or.inl rfl)) (pgs_cons (pg_name (i := 10) nd rfl (Or.inl rfl)) pgs_nil))))
    (mss_one (ms_if (mt_cmp (op_eqA rfl hr.units) os_eq (mv 8) me_int (nomark _))
      (mss_one (ms_append rfl (pv 5) (me_tup (ma_cons (mv 7) (ma_cons (mv 9) (ma_cons (mv 10) ma_nil)))) (fun ho ha => pe_bm PySem.F.plainAttrs_list PySem.F.slot_list_append PySem.F.type_list_append mt_append ho ha))) (mss_one (ms_if (PW.pt (mw_or (PW.pt (mw_and (mt_cmp (op_eqA rfl hr.units) os_eq (mv 8) me_int (nomark _)) (mw_and1 (mt_cmp op_ltX os_ltX (me_callB (cl_len rfl) cs_len (by rfl) T.b_len (by decide +kernel) (ma_cons (mv 6) ma_nil)) me_int (nomark _))))) (mw_or1 (mt_cmp (op_eqA rfl hr.units) os_eq (mv 7) (me_str) (nomark _)))))
      (mss_one (ms_append rfl (pv 6) (me_tup (ma_cons (mv 7) (ma_cons (mv 9) (ma_cons (mv 10) ma_nil)))) (fun ho ha => pe_bm PySem.F.plainAttrs_list PySem.F.slot_list_append PySem.F.type_list_append mt_append ho ha))) mss_nil)))))))
    (mss_cons (ms_set (i := 11) nd rfl (Or.inl rfl) (me_ix (ix_seqA rfl) os_ix (me_lst (ma_cons (me_str) (ma_cons (me_str) (ma_cons (me_str) (ma_cons (me_str) (ma_cons (me_str) ma_nil)))))) (me_op op_modN os_mod (me_fn hr pr__law_draw Kh.takesN0 rfl (ma_cons (mv 1) (ma_cons me_int ma_nil))) me_int) (fun _ _ => rfl)))
    (mss_cons (ms_if (mt_not (mt_val (me_fn hr pr__law_asked Kh.takesN0 rfl (ma_cons (mv 3) (ma_cons (me_callTy (cl_tuple rfl) cs_tuple (by rfl) T.b_tuple (by decide +kernel) (ma_cons (mv 5) ma_nil)) (ma_cons (me_callTy (cl_tuple rfl) cs_tuple (by rfl) T.b_tuple (by decide +kernel) (ma_cons (me_slice (sl_any rfl) ss_any (mv 6) mo_none (mo_some me_int)) ma_nil)) (ma_cons (mv 4) (ma_cons (mv 11) ma_nil))))))))
      (mss_one (ms_ret me_bl)) mss_nil)
    (mss_cons (ms_asg (gm_tup rfl (gms_cons (gm_name 7) (gms_cons (gm_name 9) (gms_cons (gm_name 10) gms_nil)))) (me_ifExp (mt_cmp (op_neA rfl hr.units) os_ne (mv 6) (me_lst ma_nil) (nomark _)) (me_ix (ix_seqA rfl) os_ix (mv 6) (me_fn hr pr__law_draw Kh.takesN0 rfl (ma_cons (mv 1) (ma_cons (me_callB (cl_len rfl) cs_len (by rfl) T.b_len (by decide +kernel) (ma_cons (mv 6) ma_nil)) ma_nil))) (fun _ _ => rfl)) (me_tup (ma_cons (me_str) (ma_cons (me_str) (ma_cons (me_str) ma_nil))))) (pg_tup rfl (pgs_cons (pg_name (i := 7) nd rfl (Or.inr rfl)) (pgs_cons (pg_name (i := 9) nd rfl (Or.inl rfl)) (pgs_cons (pg_name (i := 10) nd rfl (Or.inl rfl)) pgs_nil)))))
    (mss_cons (ms_frz 5 (ms_set (i := 12) nd rfl (Or.inl rfl) (me_callTy (cl_tuple rfl) cs_tuple (by rfl) T.b_tuple (by decide +kernel) (ma_cons (me_callB (cr_sortD rfl hr.units) cs_sortD (by rfl) T.b_sorted (by decide +kernel) (ma_cons (me_op (op_addA rfl) os_add (me_lc (own := [("row", 18)]) (gm_name 18) rfl nd (mi_seq rfl (mv 5)) (blkOk_by (own := [("row", 18)]) (N := N_law) (sc := defScope s_law) (by decide +kernel)) (fun _ _ _ _ _ => (pg_name (i := 18) nd rfl (Or.inl rfl))) (fun _ _ _ _ _ => (mts_one (mt_cmp (op_neA rfl hr.units) os_ne (me_ix (ix_seqA rfl) os_ix (mv 18) me_int (fun _ _ => rfl)) (mv 7) (nomark _)))) (fun _ _ _ _ _ => (mv 18))) (me_lst (ma_cons (me_tup (ma_cons (mv 7) (ma_cons (mv 10) (ma_cons (mv 9) ma_nil)))) ma_nil))) ma_nil)) ma_nil))))
    (mss_cons (ms_if (mt_not (mt_val (me_fn hr pr__law_refused Kh.takesN0 rfl (ma_cons (mv 3) (ma_cons (mv 12) (ma_cons (me_tup (ma_cons (me_tup (ma_cons (mv 7) (ma_cons (mv 9) (ma_cons (mv 10) ma_nil)))) ma_nil)) (ma_cons (mv 4) (ma_cons (me_str) ma_nil))))))))
      (mss_one (ms_ret me_bl)) mss_nil)
    (mss_cons (ms_set (i := 13) nd rfl (Or.inl rfl) (me_callTy (cl_tuple rfl) cs_tuple (by rfl) T.b_tuple (by decide +kernel) (ma_cons (me_lc (own := [("k", 16)]) (gm_name 16) rfl nd (mi_range1 rfl T.b_range (ma_cons (me_op op_sub os_sub me_int (me_callB (cl_len rfl) cs_len (by rfl) T.b_len (by decide +kernel) (ma_cons (mv 5) ma_nil))) ma_nil)) (blkOk_by (own := [("k", 16)]) (N := N_law) (sc := defScope s_law) (by decide +kernel)) (fun _ _ _ _ _ => (pg_name (i := 16) nd rfl (Or.inl rfl))) (fun _ _ _ _ _ => mts_nil) (fun _ _ _ _ _ => (me_op op_mulX os_mulX (me_str) (me_op (op_addA rfl) os_add (mv 16) me_int)))) ma_nil)))
    (mss_cons (ms_set (i := 14) nd rfl (Or.inl rfl) (me_callTy (cl_tuple rfl) cs_tuple (by rfl) T.b_tuple (by decide +kernel) (ma_cons (me_lc (own := [("name", 17)]) (gm_name 17) rfl nd (mi_seq rfl (me_slice (sl_any rfl) ss_any (mv 13) mo_none (mo_some me_int))) (blkOk_by (own := [("name", 17)]) (N := N_law) (sc := defScope s_law) (by decide +kernel)) (fun _ _ _ _ _ => (pg_name (i := 17) nd rfl (Or.inl rfl))) (fun _ _ _ _ _ => mts_nil) (fun _ _ _ _ _ => (me_tup (ma_cons (mv 17) (ma_cons (me_str) (ma_cons (me_str) ma_nil)))))) ma_nil)))
    (mss_cons (ms_if (PW.pt (mw_and (mt_cmp op_gt os_rel (me_callB (cl_len rfl) cs_len (by rfl) T.b_len (by decide +kernel) (ma_cons (mv 5) ma_nil)) me_int (nomark _)) (mw_and1 (mt_not (mt_val (me_fn hr pr__law_refused Kh.takesN0 rfl (ma_cons (mv 3) (ma_cons (me_callTy (cl_tuple rfl) cs_tuple (by rfl) T.b_tuple (by decide +kernel) (ma_cons (mv 5) ma_nil)) (ma_cons (mv 14) (ma_cons (mv 4) (ma_cons (me_str) ma_nil)))))))))))
      (mss_one (ms_ret me_bl)) mss_nil)
    (mss_cons (ms_if (PW.pt (mw_and (mt_cmp op_gt os_rel (me_callB (cl_len rfl) cs_len (by rfl) T.b_len (by decide +kernel) (ma_cons (mv 5) ma_nil)) me_int (nomark _)) (mw_and1 (mt_not (mt_val (me_fn hr pr__law_refused Kh.takesN0 rfl (ma_cons (mv 3) (ma_cons (me_callTy (cl_tuple rfl) cs_tuple (by rfl) T.b_tuple (by decide +kernel) (ma_cons (mv 5) ma_nil)) (ma_cons (me_op (op_addA rfl) os_add (me_callTy (cl_tuple rfl) cs_tuple (by rfl) T.b_tuple (by decide +kernel) (ma_cons (me_callB (cr_sortD rfl hr.units) cs_sortD (by rfl) T.b_sorted (by decide +kernel) (ma_cons (me_op (op_addA rfl) os_add (me_slice (sl_any rfl) ss_any (mv 14) mo_none (mo_some me_int)) (me_tup (ma_cons (me_tup (ma_cons (me_ix (ix_seqA rfl) os_ix (me_ix (ix_seqA rfl) os_ix (mv 5) me_int (fun _ _ => rfl)) me_int (fun _ _ => rfl)) (ma_cons (me_str) (ma_cons (me_str) ma_nil)))) ma_nil))) ma_nil)) ma_nil)) (me_tup (ma_cons (me_tup (ma_cons (me_str) (ma_cons (me_str) (ma_cons (me_str) ma_nil)))) ma_nil))) (ma_cons (mv 4) (ma_cons (me_str) ma_nil)))))))))))
      (mss_one (ms_ret me_bl)) mss_nil)
    (mss_cons (ms_set (i := 15) nd rfl (Or.inl rfl) (me_fn hr pr_greatest_burden Kh.takesN0 rfl (ma_cons (mv 3) (ma_cons (me_callTy (cl_tuple rfl) cs_tuple (by rfl) T.b_tuple (by decide +kernel) (ma_cons (mv 5) ma_nil)) (ma_cons (me_slice (sl_any rfl) ss_any (mv 14) mo_none (mo_some (me_op op_sub os_sub me_int (me_callB (cl_len rfl) cs_len (by rfl) T.b_len (by decide +kernel) (ma_cons (mv 5) ma_nil))))) (ma_cons (mv 4) (ma_cons (mv 11) ma_nil)))))))
    (mss_one (ms_frz 5 (ms_if (PW.pt (mw_or (mt_cmp (op_neA rfl hr.units) os_ne (me_ix (ix_seqA rfl) os_ix (mv 15) me_int (fun _ _ => rfl)) (me_fn hr pr__law_burden Kh.takesN0 rfl (ma_cons (mv 3) (ma_cons (mv 5) (ma_cons (mv 4) (ma_cons (mv 11) ma_nil))))) (nomark _)) (mw_or1 (mt_cmp (op_neA rfl hr.units) os_ne (me_ix (ix_seqA rfl) os_ix (mv 15) me_int (fun _ _ => rfl)) (me_op (op_addA rfl) os_add (me_callTy (cl_tuple rfl) cs_tuple (by rfl) T.b_tuple (by decide +kernel) (ma_cons (mv 5) ma_nil)) (me_slice (sl_any rfl) ss_any (mv 14) mo_none (mo_some (me_op op_sub os_sub me_int (me_callB (cl_len rfl) cs_len (by rfl) T.b_len (by decide +kernel) (ma_cons (mv 5) ma_nil)))))) (nomark _)))))
      (mss_one (ms_ret me_bl)) mss_nil)))))))))))))))))))
    (mss_one (ms_ret me_bl))))) hm
end
end F52
/-! own: the mirrors' mathematics -/
namespace Mi
open PySem L2
section
variable {α β : Type}
theorem bind_ok {a : α} {s : Sx} {k : α → Sx → Res β} : (Res.ok a s).bind k = k a s := rfl
theorem bind_er {e : Ek} {s : Sx} {k : α → Sx → Res β} : (Res.er e s : Res α).bind k = .er e s := rfl
theorem bind_bad {k : α → Sx → Res β} : (Res.bad : Res α).bind k = .bad := rfl
theorem opt_some {a : α} {s : Sx} : opt (some a) s = .ok a s := rfl
theorem nox_ok {a : α} {s : Sx} : nox (Res.ok a s) = .ok a s := rfl
end
/-- all(..), any(..) -/
theorem qM_all {g : Gm} {te : Mv} {e : Env} {p : D → Bool} {s : Sx} : ∀ {ds : List D}, (∀ d ∈ ds, ∃ e1, g d e = some e1 ∧ te e1 s = .ok (.d (.bl (p d))) s) → qM false g te e ds s = .ok (.d (.bl (ds.all p))) s
  | [], _ => rfl
  | d :: ds, h => by
    obtain ⟨e1, h1, h2⟩ := h d List.mem_cons_self
    unfold qM
    rw [h1]
    simp only [h2, nox_ok, bind_ok, asB, opt_some]
    cases hp : p d with
    | false => simp [List.all_cons, hp]
    | true =>
      rw [if_neg (by simp), qM_all (fun d' hd => h d' (List.mem_cons_of_mem _ hd)), List.all_cons, hp, Bool.true_and]
theorem qM_any {g : Gm} {te : Mv} {e : Env} {p : D → Bool} {s : Sx} : ∀ {ds : List D}, (∀ d ∈ ds, ∃ e1, g d e = some e1 ∧ te e1 s = .ok (.d (.bl (p d))) s) → qM true g te e ds s = .ok (.d (.bl (ds.any p))) s
  | [], _ => rfl
  | d :: ds, h => by
    obtain ⟨e1, h1, h2⟩ := h d List.mem_cons_self
    unfold qM
    rw [h1]
    simp only [h2, nox_ok, bind_ok, asB, opt_some]
    cases hp : p d with
    | true => simp [List.any_cons, hp]
    | false =>
      rw [if_neg (by simp), qM_any (fun d' hd => h d' (List.mem_cons_of_mem _ hd)), List.any_cons, hp, Bool.false_or]
/-- [f d for d in ds if t d] -/
theorem lcM_map {g : Gm} {tt : Mb} {te : Mv} {e : Env} {t : D → Bool} {f : D → D} {s : Sx} : ∀ {ds acc : List D}, (∀ d ∈ ds, ∃ e1, g d e = some e1 ∧ tt e1 s = .ok (t d) s ∧ (t d = true → ∃ a, te e1 s = .ok a s ∧ a.toD = some (f d))) → acc.length + ds.length ≤ 1000000 →
    lcM g tt te e ds acc s = .ok (.own (acc ++ (ds.filter t).map f)) s
  | [], acc, _, _ => by
    unfold lcM
    simp
  | d :: ds, acc, h, hl => by
    obtain ⟨e1, h1, h2, h3⟩ := h d List.mem_cons_self
    rw [List.length_cons] at hl
    unfold lcM
    rw [h1]
    simp only [h2, nox_ok, bind_ok]
    cases ht : t d with
    | false =>
      rw [if_neg (by simp), lcM_map (fun d' hd => h d' (List.mem_cons_of_mem _ hd)) (by omega), List.filter_cons, if_neg (by rw [ht]; simp)]
    | true =>
      obtain ⟨a, h4, h5⟩ := h3 ht
      rw [if_pos rfl]
      simp only [h4, nox_ok, bind_ok, h5]
      rw [if_pos (by omega), lcM_map (fun d' hd => h d' (List.mem_cons_of_mem _ hd)) (by rw [List.length_append]; show acc.length + 1 + ds.length ≤ _; omega), List.filter_cons, if_pos ht, List.map_cons, List.append_assoc]
      rfl
/-- .. without a test -/
theorem lcM_all {g : Gm} {te : Mv} {e : Env} {f : D → D} {s : Sx} {ds : List D} (h : ∀ d ∈ ds, ∃ e1 a, g d e = some e1 ∧ te e1 s = .ok a s ∧ a.toD = some (f d)) (hl : ds.length ≤ 1000000) : lcM g mYes te e ds [] s = .ok (.own (ds.map f)) s := by
  have := lcM_map (g := g) (tt := mYes) (te := te) (e := e) (t := fun _ => true) (f := f) (s := s) (ds := ds) (acc := []) (fun d hd => by
    obtain ⟨e1, a, h1, h2, h3⟩ := h d hd
    exact ⟨e1, h1, rfl, fun _ => ⟨a, h2, h3⟩⟩) (by simpa using hl)
  rw [this]
  have e : ds.filter (fun _ => true) = ds := List.filter_eq_self.mpr fun _ _ => rfl
  rw [e, List.nil_append]
/-- a comprehension by an invariant: what has been taken, what has been made, the state -/
theorem lcM_inv {g : Gm} {tt : Mb} {te : Mv} {e : Env} (I : List D → List D → Sx → Prop) : ∀ {ds pre acc : List D} {s : Sx}, I pre acc s → acc.length + ds.length ≤ 1000000 →
    (∀ pre d acc s, I pre acc s → d ∈ ds → ∃ e1 b s1, g d e = some e1 ∧ tt e1 s = .ok b s1 ∧ (b = false → I (pre ++ [d]) acc s1) ∧ (b = true → ∃ a s2 y, te e1 s1 = .ok a s2 ∧ a.toD = some y ∧ I (pre ++ [d]) (acc ++ [y]) s2)) →
    ∃ acc' s', lcM g tt te e ds acc s = .ok (.own acc') s' ∧ I (pre ++ ds) acc' s'
  | [], pre, acc, s, h, _, _ => ⟨acc, s, rfl, by rw [List.append_nil]; exact h⟩
  | d :: ds, pre, acc, s, h, hl, st => by
    rw [List.length_cons] at hl
    obtain ⟨e1, b, s1, h1, h2, h3, h4⟩ := st pre d acc s h List.mem_cons_self
    have st' := fun pre d acc s h hd => st pre d acc s h (List.mem_cons_of_mem _ hd)
    unfold lcM
    rw [h1]
    simp only [h2, nox_ok, bind_ok]
    have ap : pre ++ d :: ds = (pre ++ [d]) ++ ds := by rw [List.append_assoc]; rfl
    rw [ap]
    cases b with
    | false =>
      rw [if_neg (by simp)]
      exact lcM_inv I (h3 rfl) (by omega) st'
    | true =>
      obtain ⟨a, s2, y, h5, h6, h7⟩ := h4 rfl
      rw [if_pos rfl]
      simp only [h5, nox_ok, bind_ok, h6]
      rw [if_pos (by omega)]
      exact lcM_inv I h7 (by rw [List.length_append]; show acc.length + 1 + ds.length ≤ _; omega) st'
/-- [f x for c x in xs if t x] -/
theorem lcM_mp {α : Type} {c : α → D} {g : Gm} {tt : Mb} {te : Mv} {e : Env} {t : α → Bool} {f : α → D} {s : Sx} : ∀ {xs : List α} {acc : List D}, (∀ x ∈ xs, ∃ e1, g (c x) e = some e1 ∧ tt e1 s = .ok (t x) s ∧ (t x = true → ∃ a, te e1 s = .ok a s ∧ a.toD = some (f x))) → acc.length + xs.length ≤ 1000000 →
    lcM g tt te e (xs.map c) acc s = .ok (.own (acc ++ (xs.filter t).map f)) s
  | [], acc, _, _ => by
    unfold lcM
    simp
  | d :: ds, acc, h, hl => by
    obtain ⟨e1, h1, h2, h3⟩ := h d List.mem_cons_self
    rw [List.length_cons] at hl
    rw [List.map_cons]
    unfold lcM
    rw [h1]
    simp only [h2, nox_ok, bind_ok]
    cases ht : t d with
    | false =>
      rw [if_neg (by simp), lcM_mp (fun d' hd => h d' (List.mem_cons_of_mem _ hd)) (by omega), List.filter_cons, if_neg (by rw [ht]; simp)]
    | true =>
      obtain ⟨a, h4, h5⟩ := h3 ht
      rw [if_pos rfl]
      simp only [h4, nox_ok, bind_ok, h5]
      rw [if_pos (by omega), lcM_mp (fun d' hd => h d' (List.mem_cons_of_mem _ hd)) (by rw [List.length_append]; show acc.length + 1 + ds.length ≤ _; omega), List.filter_cons, if_pos ht, List.map_cons, List.append_assoc]
      rfl
/-- [f x for c x in xs] -/
theorem lcM_ma {α : Type} {c : α → D} {g : Gm} {te : Mv} {e : Env} {f : α → D} {s : Sx} {xs : List α} (h : ∀ x ∈ xs, ∃ e1 a, g (c x) e = some e1 ∧ te e1 s = .ok a s ∧ a.toD = some (f x)) (hl : xs.length ≤ 1000000) : lcM g mYes te e (xs.map c) [] s = .ok (.own (xs.map f)) s := by
  rw [lcM_mp (t := fun _ => true) (f := f) (fun d hd => by
    obtain ⟨e1, a, h1, h2, h3⟩ := h d hd
    exact ⟨e1, h1, rfl, fun _ => ⟨a, h2, h3⟩⟩) (by simpa using hl)]
  have e : xs.filter (fun _ => true) = xs := List.filter_eq_self.mpr fun _ _ => rfl
  rw [e, List.nil_append]
theorem qM_allp {α : Type} {c : α → D} {g : Gm} {te : Mv} {e : Env} {p : α → Bool} {s : Sx} {xs : List α} (h : ∀ x ∈ xs, ∃ e1, g (c x) e = some e1 ∧ te e1 s = .ok (.d (.bl (p x))) s) : qM false g te e (xs.map c) s = .ok (.d (.bl (xs.all p))) s := by
  induction xs with
  | nil => rfl
  | cons d ds ih =>
    obtain ⟨e1, h1, h2⟩ := h d List.mem_cons_self
    rw [List.map_cons]
    unfold qM
    rw [h1]
    simp only [h2, nox_ok, bind_ok, asB, opt_some]
    cases hp : p d with
    | false => simp [List.all_cons, hp]
    | true => rw [if_neg (by simp), ih (fun d' hd => h d' (List.mem_cons_of_mem _ hd)), List.all_cons, hp, Bool.true_and]
theorem qM_anyp {α : Type} {c : α → D} {g : Gm} {te : Mv} {e : Env} {p : α → Bool} {s : Sx} {xs : List α} (h : ∀ x ∈ xs, ∃ e1, g (c x) e = some e1 ∧ te e1 s = .ok (.d (.bl (p x))) s) : qM true g te e (xs.map c) s = .ok (.d (.bl (xs.any p))) s := by
  induction xs with
  | nil => rfl
  | cons d ds ih =>
    obtain ⟨e1, h1, h2⟩ := h d List.mem_cons_self
    rw [List.map_cons]
    unfold qM
    rw [h1]
    simp only [h2, nox_ok, bind_ok, asB, opt_some]
    cases hp : p d with
    | true => simp [List.any_cons, hp]
    | false => rw [if_neg (by simp), ih (fun d' hd => h d' (List.mem_cons_of_mem _ hd)), List.any_cons, hp, Bool.false_or]
/-- a loop that ends -/
theorem forM_inv {g : Gm} {b : Ms} (I : List D → Env → Sx → Prop) : ∀ {ds pre : List D} {e : Env} {s : Sx}, I pre e s →
    (∀ pre d e s, I pre e s → d ∈ ds → ∃ e1, g d e = some e1 ∧ ∃ e2 s2, (b e1 s = .nx e2 s2 ∨ b e1 s = .ct e2 s2) ∧ I (pre ++ [d]) e2 s2) →
    ∃ e' s', forM g b ds e s = .nx e' s' ∧ I (pre ++ ds) e' s'
  | [], pre, e, s, h, _ => ⟨e, s, rfl, by rw [List.append_nil]; exact h⟩
  | d :: ds, pre, e, s, h, st => by
    obtain ⟨e1, h1, e2, s2, h2, h3⟩ := st pre d e s h List.mem_cons_self
    have st' := fun pre d e s h hd => st pre d e s h (List.mem_cons_of_mem _ hd)
    have ap : pre ++ d :: ds = (pre ++ [d]) ++ ds := by rw [List.append_assoc]; rfl
    unfold forM
    rw [h1, ap]
    rcases h2 with h2 | h2
    · simp only [h2]
      exact forM_inv I h3 st'
    · simp only [h2]
      exact forM_inv I h3 st'
end Mi
/-! own: the mirrors' equations, one step each, no continuation written out -/
namespace Mi
open PySem L2
variable {α β : Type} {e : Env} {s : Sx} {m m1 m2 m3 : Mv} {t t1 t2 : Mb} {i j k l n : Nat} {b b1 b2 : Ms} {ms : List Mv}
def rout (r : Res α) (e : Env) (k : Env → α → Sx → Out) : Out := match r with
  | .ok a s' => k e a s'
  | .er x s' => .er x e s'
  | .bad => .bad
theorem rout_ok {a : α} {k : Env → α → Sx → Out} : rout (.ok a s) e k = k e a s := rfl
theorem rout_er {x : Ek} {k : Env → α → Sx → Out} : rout (.er x s) e k = .er x e s := rfl
theorem rout_bad {k : Env → α → Sx → Out} : rout .bad e k = .bad := rfl
def oseq (o : Out) (k : Ms) : Out := match o with
  | .nx e s => k e s
  | o => o
theorem oseq_nx {k : Ms} : oseq (.nx e s) k = k e s := rfl
theorem oseq_rt {d : D} {k : Ms} : oseq (.rt d s) k = .rt d s := rfl
theorem oseq_bk {k : Ms} : oseq (.bk e s) k = .bk e s := rfl
theorem oseq_ct {k : Ms} : oseq (.ct e s) k = .ct e s := rfl
theorem oseq_er {x : Ek} {k : Ms} : oseq (.er x e s) k = .er x e s := rfl
theorem oseq_bad {k : Ms} : oseq .bad k = .bad := rfl
theorem e_seq : mSeq b1 b2 e s = oseq (b1 e s) b2 := by unfold mSeq oseq; cases b1 e s <;> rfl
theorem e_nil : mNil e s = .nx e s := rfl
theorem e_break : mBreak e s = .bk e s := rfl
theorem e_cont : mCont e s = .ct e s := rfl
theorem e_raise {x : Ek} : mRaise x e s = .er x e s := rfl
theorem e_retN : mRetN e s = .rt .non s := rfl
def kDrop (e : Env) (_ : A) (s : Sx) : Out := .nx e s
theorem e_drop : mDrop m e s = rout (m e s) e kDrop := rfl
def kRet (_ : Env) (a : A) (s : Sx) : Out := .rt a.v s
theorem e_ret : mRet m e s = rout (m e s) e kRet := rfl
def kCond (m1 m2 : Ms) (e : Env) (k : Bool) (s : Sx) : Out := if k = true then m1 e s else m2 e s
theorem e_cond : mCond t b1 b2 e s = rout (t e s) e (kCond b1 b2) := rfl
theorem kCond_t : kCond b1 b2 e true s = b1 e s := rfl
theorem kCond_f : kCond b1 b2 e false s = b2 e s := rfl
def kSet (i : Nat) (e : Env) (a : A) (s : Sx) : Out := if a.isBor = true then .bad else .nx (e.set i (some a)) s
theorem e_set : mSet i m e s = rout (m e s) e (kSet i) := rfl
theorem kSet_d {d : D} : kSet i e (.d d) s = .nx (e.set i (some (.d d))) s := rfl
theorem kSet_own {ds : List D} : kSet i e (.own ds) s = .nx (e.set i (some (.own ds))) s := rfl
def kAsg2 (o : Option Env) (s : Sx) : Out := match o with
  | none => .bad
  | some e1 => .nx e1 s
def kAsg1 (g : Gm) (o : Option D) (e : Env) (s : Sx) : Out := match o with
  | none => .bad
  | some d => kAsg2 (g d e) s
def kAsg (g : Gm) (e : Env) (a : A) (s : Sx) : Out := kAsg1 g a.toD e s
theorem e_asg {g : Gm} : mAsg m g e s = rout (m e s) e (kAsg g) := by
  unfold mAsg inE rout
  cases m e s with
  | ok a s' =>
    show (match a.toD with | none => Out.bad | some d => (match g d e with | none => Out.bad | some e1 => Out.nx e1 s')) = kAsg1 g a.toD e s'
    cases a.toD <;> rfl
  | er x s' => rfl
  | bad => rfl
theorem kAsg_d {g : Gm} {d : D} : kAsg g e (.d d) s = kAsg2 (g d e) s := rfl
theorem kAsg_own {g : Gm} {ds : List D} : kAsg g e (.own ds) s = kAsg2 (g (.lst ds) e) s := rfl
theorem kAsg2_some {e1 : Env} : kAsg2 (some e1) s = .nx e1 s := rfl
def kPar2 (i j : Nat) (o : Option (List D)) (e : Env) (s : Sx) : Out := match o with
  | some [x, y] => .nx ((e.set i (some (.d x))).set j (some (.d y))) s
  | _ => .bad
def kPar (i j : Nat) (e : Env) (as : List A) (s : Sx) : Out := kPar2 i j (toDs as) e s
theorem e_par : mPar i j ms e s = rout (mArgs ms e s) e (kPar i j) := by
  unfold mPar inE rout
  cases mArgs ms e s <;> rfl
theorem kPar_d {x y : D} : kPar i j e [.d x, .d y] s = .nx ((e.set i (some (.d x))).set j (some (.d y))) s := rfl
def kPar32 (i j l : Nat) (o : Option (List D)) (e : Env) (s : Sx) : Out := match o with
  | some [x, y, z] => .nx (((e.set i (some (.d x))).set j (some (.d y))).set l (some (.d z))) s
  | _ => .bad
def kPar3 (i j l : Nat) (e : Env) (as : List A) (s : Sx) : Out := kPar32 i j l (toDs as) e s
theorem e_par3 : mPar3 i j l ms e s = rout (mArgs ms e s) e (kPar3 i j l) := by
  unfold mPar3 inE rout
  cases mArgs ms e s <;> rfl
theorem kPar3_d {x y z : D} : kPar3 i j l e [.d x, .d y, .d z] s = .nx (((e.set i (some (.d x))).set j (some (.d y))).set l (some (.d z))) s := rfl
def kFor (g : Gm) (b : Ms) (e : Env) (ds : List D) (s : Sx) : Out := forM g b ds e s
theorem e_for {mi : Mi'} {g : Gm} : mFor mi g b e s = rout (mi e s) e (kFor g b) := rfl
/-! expressions -/
theorem e_c {d : D} : mC d e s = .ok (.d d) s := rfl
theorem e_var : mVar i e s = opt (slot e i) s := rfl
def slotO (o : Option (Option A)) : Option A := match o with
  | some (some (.own xs)) => some (.bor xs)
  | some (some (.od _)) => none
  | some (some a) => some a
  | _ => none
theorem slot_eq : slot e i = slotO e[i]? := rfl
theorem slotO_d {d : D} : slotO (some (some (.d d))) = some (.d d) := rfl
theorem slotO_own {d : List D} : slotO (some (some (.own d))) = some (.bor d) := rfl
theorem opt_none {s : Sx} : opt (none : Option α) s = .bad := rfl
def kBin2 (g : D → D → Option A) (x : A) (y : A) (s : Sx) : Res A := opt (g x.v y.v) s
def kBin (g : D → D → Option A) (m2 : Mv) (e : Env) (x : A) (s : Sx) : Res A := (m2 e s).bind (kBin2 g x)
theorem e_bin {g : D → D → Option A} : mBin g m1 m2 e s = (m1 e s).bind (kBin g m2 e) := rfl
theorem kBin_eq {g : D → D → Option A} {x : A} : kBin g m2 e x s = (m2 e s).bind (kBin2 g x) := rfl
theorem kBin2_eq {g : D → D → Option A} {x y : A} : kBin2 g x y s = opt (g x.v y.v) s := rfl
def kUn (g : D → Option A) (x : A) (s : Sx) : Res A := opt (g x.v) s
theorem e_un {g : D → Option A} : mUn g m e s = (m e s).bind (kUn g) := rfl
theorem kUn_eq {g : D → Option A} {x : A} : kUn g x s = opt (g x.v) s := rfl
def kArg2 (x : A) (xs : List A) (s : Sx) : Res (List A) := .ok (x :: xs) s
def kArg (ms : List Mv) (e : Env) (x : A) (s : Sx) : Res (List A) := (mArgs ms e s).bind (kArg2 x)
theorem e_args0 : mArgs [] e s = .ok [] s := rfl
theorem e_args : mArgs (m :: ms) e s = (m e s).bind (kArg ms e) := rfl
theorem kArg_eq {x : A} : kArg ms e x s = (mArgs ms e s).bind (kArg2 x) := rfl
theorem kArg2_eq {x : A} {xs : List A} : kArg2 x xs s = .ok (x :: xs) s := rfl
def kCall (g : List D → Option A) (as : List A) (s : Sx) : Res A := opt (g (as.map A.v)) s
theorem e_call {g : List D → Option A} : mCall g ms e s = (mArgs ms e s).bind (kCall g) := rfl
theorem kCall_eq {g : List D → Option A} {as : List A} : kCall g as s = opt (g (as.map A.v)) s := rfl
def kD (d : D) (s : Sx) : Res A := .ok (.d d) s
def kFn2 (m : Sx → List D → Res D) (ds : List D) (s : Sx) : Res A := (m s ds).bind kD
def kFn (m : Sx → List D → Res D) (as : List A) (s : Sx) : Res A := (opt (toDs as) s).bind (kFn2 m)
theorem e_fn {m : Sx → List D → Res D} : mFn m ms e s = (mArgs ms e s).bind (kFn m) := rfl
theorem kFn_eq {m : Sx → List D → Res D} {as : List A} : kFn m as s = (opt (toDs as) s).bind (kFn2 m) := rfl
theorem kFn2_eq {m : Sx → List D → Res D} {ds : List D} : kFn2 m ds s = (m s ds).bind kD := rfl
theorem kD_eq {d : D} : kD d s = .ok (.d d) s := rfl
def kFnB2 (d : D) (s : Sx) : Res A := if d.scal = true then .ok (.d d) s else .bad
def kFnB (m : Sx → List D → Res D) (as : List A) (s : Sx) : Res A := (lend s (m s (as.map A.v))).bind kFnB2
theorem e_fnB {m : Sx → List D → Res D} : mFnB m ms e s = (mArgs ms e s).bind (kFnB m) := rfl
theorem kFnB_eq {m : Sx → List D → Res D} {as : List A} : kFnB m as s = (lend s (m s (as.map A.v))).bind kFnB2 := rfl
def kBool (x : A) (s : Sx) : Res Bool := opt (asB x) s
theorem e_bool : mBool m e s = (m e s).bind kBool := rfl
theorem kBool_b {k : Bool} : kBool (.d (.bl k)) s = .ok k s := rfl
def kAnd (t2 : Mb) (e : Env) (k : Bool) (s : Sx) : Res Bool := if k = true then t2 e s else .ok false s
theorem e_and : mAnd t1 t2 e s = (t1 e s).bind (kAnd t2 e) := rfl
theorem kAnd_t : kAnd t2 e true s = t2 e s := rfl
theorem kAnd_f : kAnd t2 e false s = .ok false s := rfl
def kOr (t2 : Mb) (e : Env) (k : Bool) (s : Sx) : Res Bool := if k = true then .ok true s else t2 e s
theorem e_or : mOr t1 t2 e s = (t1 e s).bind (kOr t2 e) := rfl
theorem kOr_t : kOr t2 e true s = .ok true s := rfl
theorem kOr_f : kOr t2 e false s = t2 e s := rfl
def kNot (k : Bool) (s : Sx) : Res Bool := .ok (!k) s
theorem e_not : mNot t1 e s = (t1 e s).bind kNot := rfl
theorem kNot_eq {k : Bool} : kNot k s = .ok (!k) s := rfl
def kAndV2 (m2 : Mv) (e : Env) (k : Bool) (s : Sx) : Res A := if k = true then m2 e s else .ok (.d (.bl false)) s
def kAndV (m2 : Mv) (e : Env) (x : A) (s : Sx) : Res A := (opt (asB x) s).bind (kAndV2 m2 e)
theorem e_andV : mAndV m1 m2 e s = (m1 e s).bind (kAndV m2 e) := rfl
theorem kAndV_b {k : Bool} : kAndV m2 e (.d (.bl k)) s = kAndV2 m2 e k s := rfl
theorem kAndV_t : kAndV2 m2 e true s = m2 e s := rfl
theorem kAndV_f : kAndV2 m2 e false s = .ok (.d (.bl false)) s := rfl
def kOrV2 (m2 : Mv) (e : Env) (k : Bool) (s : Sx) : Res A := if k = true then .ok (.d (.bl true)) s else m2 e s
def kOrV (m2 : Mv) (e : Env) (x : A) (s : Sx) : Res A := (opt (asB x) s).bind (kOrV2 m2 e)
theorem e_orV : mOrV m1 m2 e s = (m1 e s).bind (kOrV m2 e) := rfl
theorem kOrV_b {k : Bool} : kOrV m2 e (.d (.bl k)) s = kOrV2 m2 e k s := rfl
theorem kOrV_t : kOrV2 m2 e true s = .ok (.d (.bl true)) s := rfl
theorem kOrV_f : kOrV2 m2 e false s = m2 e s := rfl
def kNotV (x : A) (s : Sx) : Res A := (opt (asB x) s).bind fun k s2 => .ok (.d (.bl (!k))) s2
theorem e_notV : mNotV m1 e s = (m1 e s).bind kNotV := rfl
theorem kNotV_b {k : Bool} : kNotV (.d (.bl k)) s = .ok (.d (.bl (!k))) s := rfl
def kIf (m1 m2 : Mv) (e : Env) (k : Bool) (s : Sx) : Res A := if k = true then m1 e s else m2 e s
theorem e_if : mIf t m1 m2 e s = (t e s).bind (kIf m1 m2 e) := rfl
theorem kIf_t : kIf m1 m2 e true s = m1 e s := rfl
theorem kIf_f : kIf m1 m2 e false s = m2 e s := rfl
def kTup2 (ds : List D) (s : Sx) : Res A := if ds.length ≤ 1000000 then .ok (.d (.tup ds)) s else .bad
def kTup (as : List A) (s : Sx) : Res A := (opt (toDs as) s).bind kTup2
theorem e_tup : mTup ms e s = (mArgs ms e s).bind kTup := rfl
theorem kTup_eq {as : List A} : kTup as s = (opt (toDs as) s).bind kTup2 := rfl
theorem kTup2_eq {ds : List D} : kTup2 ds s = if ds.length ≤ 1000000 then .ok (.d (.tup ds)) s else .bad := rfl
def kLst2 (ds : List D) (s : Sx) : Res A := if ds.length ≤ 1000000 then .ok (.own ds) s else .bad
def kLst (as : List A) (s : Sx) : Res A := (opt (toDs as) s).bind kLst2
theorem e_lst : mLst ms e s = (mArgs ms e s).bind kLst := rfl
theorem kLst_eq {as : List A} : kLst as s = (opt (toDs as) s).bind kLst2 := rfl
theorem kLst2_eq {ds : List D} : kLst2 ds s = if ds.length ≤ 1000000 then .ok (.own ds) s else .bad := rfl
def kIt (x : A) (s : Sx) : Res (List D) := opt (asX x) s
theorem e_it : mIt m e s = (m e s).bind kIt := rfl
theorem kIt_eq {x : A} : kIt x s = opt (asX x) s := rfl
def kR1 (as : List A) (s : Sx) : Res (List D) := opt (asR1 as) s
theorem e_r1 : mItR1 ms e s = (mArgs ms e s).bind kR1 := rfl
theorem kR1_eq {as : List A} : kR1 as s = opt (asR1 as) s := rfl
def kR2 (as : List A) (s : Sx) : Res (List D) := opt (asR2 as) s
theorem e_r2 : mItR2 ms e s = (mArgs ms e s).bind kR2 := rfl
theorem kR2_eq {as : List A} : kR2 as s = opt (asR2 as) s := rfl
def kQ (bf : Bool) (g : Gm) (te : Mv) (n : Nat) (e : Env) (ds : List D) (s : Sx) : Res A := qM bf g te (blankE n e) ds s
theorem e_q {bf : Bool} {mi : Mi'} {g : Gm} {te : Mv} : mQ bf mi g te n e s = (mi e s).bind (kQ bf g te n e) := rfl
theorem kQ_eq {bf : Bool} {g : Gm} {te : Mv} {ds : List D} : kQ bf g te n e ds s = qM bf g te (blankE n e) ds s := rfl
def kLc (g : Gm) (tt : Mb) (te : Mv) (vs : List Nat) (e : Env) (ds : List D) (s : Sx) : Res A := lcM g tt te (wipeE e vs) ds [] s
theorem e_lc {mi : Mi'} {g : Gm} {tt : Mb} {te : Mv} {vs : List Nat} : mLc mi g tt te vs e s = (mi e s).bind (kLc g tt te vs e) := rfl
theorem kLc_eq {g : Gm} {tt : Mb} {te : Mv} {vs : List Nat} {ds : List D} : kLc g tt te vs e ds s = lcM g tt te (wipeE e vs) ds [] s := rfl
theorem e_no : mNo e s = .ok none s := rfl
def kPart2 (o : Option Int) (s : Sx) : Res (Option Int) := match o with
  | some i => .ok (some i) s
  | none => .bad
def kPart (x : A) (s : Sx) : Res (Option Int) := kPart2 (asI x) s
theorem e_part : mPart m e s = (m e s).bind kPart := rfl
theorem kPart_i {i : Int} : kPart (.d (.int i)) s = .ok (some i) s := rfl
def kSl3 (g : D → Option Int → Option Int → Option A) (x : A) (l : Option Int) (h : Option Int) (s : Sx) : Res A := opt (g x.v l h) s
def kSl2 (g : D → Option Int → Option Int → Option A) (o2 : Mo) (e : Env) (x : A) (l : Option Int) (s : Sx) : Res A := (o2 e s).bind (kSl3 g x l)
def kSl (g : D → Option Int → Option Int → Option A) (o1 o2 : Mo) (e : Env) (x : A) (s : Sx) : Res A := (o1 e s).bind (kSl2 g o2 e x)
theorem e_sl {g : D → Option Int → Option Int → Option A} {o1 o2 : Mo} : mSl g m o1 o2 e s = (m e s).bind (kSl g o1 o2 e) := rfl
theorem kSl_eq {g : D → Option Int → Option Int → Option A} {o1 o2 : Mo} {x : A} : kSl g o1 o2 e x s = (o1 e s).bind (kSl2 g o2 e x) := rfl
theorem kSl2_eq {g : D → Option Int → Option Int → Option A} {o2 : Mo} {x : A} {l : Option Int} : kSl2 g o2 e x l s = (o2 e s).bind (kSl3 g x l) := rfl
theorem kSl3_eq {g : D → Option Int → Option Int → Option A} {x : A} {l h : Option Int} : kSl3 g x l h s = opt (g x.v l h) s := rfl
def kCh5 (g' : D → D → Option A) (y z : A) (s : Sx) : Res A := opt (g' y.v z.v) s
def kCh4 (g' : D → D → Option A) (m3 : Mv) (e : Env) (y : A) (k : Bool) (s : Sx) : Res A := if k = true then (m3 e s).bind (kCh5 g' y) else .ok (.d (.bl false)) s
def kCh3 (g' : D → D → Option A) (m3 : Mv) (e : Env) (y : A) (k : A) (s : Sx) : Res A := (opt (asB k) s).bind (kCh4 g' m3 e y)
def kCh2 (g g' : D → D → Option A) (m3 : Mv) (e : Env) (x : A) (y : A) (s : Sx) : Res A := (opt (g x.v y.v) s).bind (kCh3 g' m3 e y)
def kCh (g g' : D → D → Option A) (m2 m3 : Mv) (e : Env) (x : A) (s : Sx) : Res A := (m2 e s).bind (kCh2 g g' m3 e x)
theorem e_chain {g g' : D → D → Option A} : mChain g g' m1 m2 m3 e s = (m1 e s).bind (kCh g g' m2 m3 e) := rfl
theorem kCh_eq {g g' : D → D → Option A} {x : A} : kCh g g' m2 m3 e x s = (m2 e s).bind (kCh2 g g' m3 e x) := rfl
theorem kCh2_eq {g g' : D → D → Option A} {x y : A} : kCh2 g g' m3 e x y s = (opt (g x.v y.v) s).bind (kCh3 g' m3 e y) := rfl
theorem kCh3_b {g' : D → D → Option A} {y : A} {k : Bool} : kCh3 g' m3 e y (.d (.bl k)) s = kCh4 g' m3 e y k s := rfl
theorem kCh4_t {g' : D → D → Option A} {y : A} : kCh4 g' m3 e y true s = (m3 e s).bind (kCh5 g' y) := rfl
theorem kCh4_f {g' : D → D → Option A} {y : A} : kCh4 g' m3 e y false s = .ok (.d (.bl false)) s := rfl
theorem kCh5_eq {g' : D → D → Option A} {y z : A} : kCh5 g' y z s = opt (g' y.v z.v) s := rfl
/-! lists of one's own -/
def kApp2 (i : Nat) (xs : List D) (o : Option D) (e : Env) (s : Sx) : Out := match o with
  | none => .bad
  | some d => if xs.length < 1000000 then .nx (e.set i (some (.own (xs ++ [d])))) s else .bad
def kApp (i : Nat) (xs : List D) (e : Env) (a : A) (s : Sx) : Out := kApp2 i xs a.toD e s
def kApp0 (i : Nat) (m : Mv) (o : Option (Option A)) (e : Env) (s : Sx) : Out := match o with
  | some (some (.own xs)) => rout (m e s) e (kApp i xs)
  | _ => .bad
theorem app_aux (i : Nat) (m : Mv) (e : Env) (s : Sx) (xs : List D) : (inE m (fun e a s1 => match a.toD with
    | none => .bad
    | some d => if xs.length < 1000000 then .nx (e.set i (some (.own (xs ++ [d])))) s1 else .bad) e s) = rout (m e s) e (kApp i xs) := by
  unfold inE rout
  cases m e s with
  | ok a s' =>
    show _ = kApp2 i xs a.toD e s'
    cases h : a.toD <;> simp only [h] <;> rfl
  | er x s' => rfl
  | bad => rfl
theorem e_app : mApp i m e s = kApp0 i m e[i]? e s := by
  unfold mApp
  cases h : e[i]? with
  | none => rfl
  | some o =>
    cases o with
    | none => rfl
    | some a =>
      cases a with
      | own xs => exact app_aux i m e s xs
      | _ => rfl
theorem kApp0_own {xs : List D} : kApp0 i m (some (some (.own xs))) e s = rout (m e s) e (kApp i xs) := rfl
theorem kApp_d {xs : List D} {d : D} : kApp i xs e (.d d) s = if xs.length < 1000000 then .nx (e.set i (some (.own (xs ++ [d])))) s else .bad := rfl
theorem kApp_own {xs ds : List D} : kApp i xs e (.own ds) s = if xs.length < 1000000 then .nx (e.set i (some (.own (xs ++ [.lst ds])))) s else .bad := rfl
def kFrz (i : Nat) (b : Ms) (o : Option (Option A)) (e : Env) (s : Sx) : Out := match o with
  | some (some (.own xs)) => b (e.set i (some (.d (.lst xs)))) s
  | some (some (.od (.k kvs))) => b (e.set i (some (.d (.dct (kvs.map Prod.fst) (kvs.map Prod.snd))))) s
  | _ => b e s
theorem e_frz : mFrz i b e s = kFrz i b e[i]? e s := rfl
theorem kFrz_own {xs : List D} : kFrz i b (some (some (.own xs))) e s = b (e.set i (some (.d (.lst xs)))) s := rfl
theorem kFrz_d {d : D} : kFrz i b (some (some (.d d))) e s = b e s := rfl
def kAug (i : Nat) (f : Int → Int → Int) (x : Int) (e : Env) (a : A) (s : Sx) : Out := match a with
  | .d (.int y) => .nx (e.set i (some (.d (.int (f x y))))) s
  | _ => .bad
def kAug0 (i : Nat) (f : Int → Int → Int) (m : Mv) (o : Option (Option A)) (e : Env) (s : Sx) : Out := match o with
  | some (some (.d (.int x))) => rout (m e s) e (kAug i f x)
  | _ => .bad
theorem e_aug {f : Int → Int → Int} : mAug i f m e s = kAug0 i f m e[i]? e s := rfl
theorem kAug0_d {f : Int → Int → Int} {x : Int} : kAug0 i f m (some (some (.d (.int x)))) e s = rout (m e s) e (kAug i f x) := rfl
theorem kAug_d {f : Int → Int → Int} {x y : Int} : kAug i f x e (.d (.int y)) s = .nx (e.set i (some (.d (.int (f x y))))) s := rfl
/-! defs -/
def dout (o : Out) : Res D := match o with
  | .nx _ s' => .ok .non s'
  | .rt d s' => .ok d s'
  | .er k _ s' => .er k s'
  | _ => .bad
theorem e_def {ds : List D} : mDef n b s ds = dout (b (ds.map (fun d => some (.d d)) ++ List.replicate (n - ds.length) none) s) := by
  unfold mDef dout
  cases b (ds.map (fun d => some (A.d d)) ++ List.replicate (n - ds.length) none) s <;> rfl
theorem dout_nx : dout (.nx e s) = .ok .non s := rfl
theorem dout_rt {d : D} : dout (.rt d s) = .ok d s := rfl
theorem dout_er {k : Ek} : dout (.er k e s) = .er k s := rfl
def tOut (i : Nat) (o : Out) : Out := match o with
  | .nx e2 s2 => .nx (clean i e2) s2
  | .bk e2 s2 => .bk (clean i e2) s2
  | .ct e2 s2 => .ct (clean i e2) s2
  | .rt d s2 => .rt d s2
  | _ => .bad
def tTry (i : Nat) (su : Ms) (o : Out) : Out := match o with
  | .er k e1 s1 => tOut i (su (e1.set i (some (.exc k))) s1)
  | o => o
theorem e_try {su : Ms} : mTry i b su e s = tTry i su (b e s) := by
  unfold mTry tTry
  cases b e s with
  | er k e1 s1 =>
    dsimp only
    cases su (e1.set i (some (.exc k))) s1 <;> rfl
  | _ => rfl
theorem tTry_nx {su : Ms} : tTry i su (.nx e s) = .nx e s := rfl
theorem tTry_rt {su : Ms} {d : D} : tTry i su (.rt d s) = .rt d s := rfl
theorem tTry_er {su : Ms} {k : Ek} : tTry i su (.er k e s) = tOut i (su (e.set i (some (.exc k))) s) := rfl
theorem tOut_rt {d : D} : tOut i (.rt d s) = .rt d s := rfl
theorem tOut_nx : tOut i (.nx e s) = .nx (clean i e) s := rfl
theorem tOut_ct : tOut i (.ct e s) = .ct (clean i e) s := rfl
def kTold (o : Option (Option A)) (s : Sx) : Res A := match o with
  | some (some (.exc k)) => .ok (.d (.str (nmE k))) s
  | _ => .bad
theorem e_told : mTold i e s = kTold e[i]? s := rfl
theorem kTold_e {k : Ek} : kTold (some (some (.exc k))) s = .ok (.d (.str (nmE k))) s := rfl
theorem fmd_pos {i j : Int} (h : 0 ≤ j) : fmd i j = i % j := by unfold fmd; rw [if_pos h]
theorem fdv_pos {i j : Int} (h : 0 ≤ j) : fdv i j = i / j := by unfold fdv; rw [if_pos h]
end Mi
/-! own: equality of data, layers -/
namespace Mi
open PySem L2
def eqLD (xs ys : List D) : Bool := PyData.eqvAll (pyDs xs) (pyDs ys)
theorem eqD_int {i j : Int} : eqD (.int i) (.int j) = (i == j) := by unfold eqD pyD PyData.eqv; rfl
theorem eqD_str {i j : Str} : eqD (.str i) (.str j) = (i == j) := by unfold eqD pyD PyData.eqv; rfl
theorem eqD_bl {i j : Bool} : eqD (.bl i) (.bl j) = (i == j) := by unfold eqD pyD PyData.eqv; rfl
theorem eqD_non : eqD .non .non = true := by unfold eqD pyD PyData.eqv; rfl
theorem eqD_tup {xs ys : List D} : eqD (.tup xs) (.tup ys) = eqLD xs ys := by unfold eqD eqLD pyD; rw [PyData.eqv.eq_def]
theorem eqD_lst {xs ys : List D} : eqD (.lst xs) (.lst ys) = eqLD xs ys := by unfold eqD eqLD pyD; rw [PyData.eqv.eq_def]
theorem eqLD_nil : eqLD [] [] = true := by unfold eqLD pyDs PyData.eqvAll; rfl
theorem eqLD_cons {x y : D} {xs ys : List D} : eqLD (x :: xs) (y :: ys) = (eqD x y && eqLD xs ys) := by
  unfold eqLD eqD
  rw [pyDs.eq_def, pyDs.eq_def (y :: ys)]
  exact PyData.eqvAll.eq_def _ _
theorem eqLD_cn {x : D} {xs : List D} : eqLD (x :: xs) [] = false := by
  unfold eqLD
  rw [pyDs.eq_def, pyDs.eq_def []]
  exact PyData.eqvAll.eq_def _ _
theorem eqLD_nc {x : D} {xs : List D} : eqLD [] (x :: xs) = false := by
  unfold eqLD
  rw [pyDs.eq_def, pyDs.eq_def (x :: xs)]
  exact PyData.eqvAll.eq_def _ _
theorem str_beq (s : Str) : (s == s) = true := by simp
mutual
theorem eqD_refl : ∀ d : D, eqD d d = true
  | .non => eqD_non
  | .bl b => by rw [eqD_bl]; simp
  | .int b => by rw [eqD_int]; simp
  | .str b => by rw [eqD_str]; exact str_beq b
  | .tup ds => by rw [eqD_tup]; exact eqLD_refl ds
  | .lst ds => by rw [eqD_lst]; exact eqLD_refl ds
  | .dct _ _ => by unfold eqD pyD PyData.eqv; rfl
  | .drs => by unfold eqD pyD PyData.eqv; rfl
  | .bot => by unfold eqD pyD PyData.eqv; rfl
theorem eqLD_refl : ∀ ds : List D, eqLD ds ds = true
  | [] => eqLD_nil
  | d :: ds => by rw [eqLD_cons, eqD_refl d, eqLD_refl ds]; rfl
end
theorem lay_tup {ds : List D} {n : Nat} : lay (.tup ds) (n + 1) = layL ds n := by unfold lay; rfl
theorem lay_lst {ds : List D} {n : Nat} : lay (.lst ds) (n + 1) = layL ds n := by unfold lay; rfl
theorem lay_int {i : Int} {n : Nat} : lay (.int i) n = true := by unfold lay; rfl
theorem lay_str {i : Str} {n : Nat} : lay (.str i) n = true := by unfold lay; rfl
theorem lay_bl {i : Bool} {n : Nat} : lay (.bl i) n = true := by unfold lay; rfl
theorem lay_non {n : Nat} : lay .non n = true := by unfold lay; rfl
theorem layL_nil {n : Nat} : layL [] n = true := by unfold layL; rfl
theorem layL_cons {d : D} {ds : List D} {n : Nat} : layL (d :: ds) n = (lay d n && layL ds n) := by rw [layL.eq_def]
theorem layL_all {n : Nat} : ∀ {ds : List D}, (∀ d ∈ ds, lay d n = true) → layL ds n = true
  | [], _ => layL_nil
  | d :: ds, h => by rw [layL_cons, h d List.mem_cons_self, layL_all fun d' hd => h d' (List.mem_cons_of_mem _ hd)]; rfl
mutual
theorem lay_mono : ∀ {d : D} {n m : Nat}, n ≤ m → lay d n = true → lay d m = true
  | .non, _, _, _, _ => lay_non
  | .bl _, _, _, _, _ => lay_bl
  | .int _, _, _, _, _ => lay_int
  | .str _, _, _, _, _ => lay_str
  | .tup ds, 0, _, _, h => by unfold lay at h; cases h
  | .lst ds, 0, _, _, h => by unfold lay at h; cases h
  | .tup ds, n + 1, 0, l, h => by omega
  | .lst ds, n + 1, 0, l, h => by omega
  | .tup ds, n + 1, m + 1, l, h => by rw [lay_tup] at h ⊢; exact layL_mono (by omega) h
  | .lst ds, n + 1, m + 1, l, h => by rw [lay_lst] at h ⊢; exact layL_mono (by omega) h
  | .dct _ _, _, _, _, h => by unfold lay at h; cases h
  | .drs, _, _, _, h => by unfold lay at h; cases h
  | .bot, _, _, _, h => by unfold lay at h; cases h
theorem layL_mono : ∀ {ds : List D} {n m : Nat}, n ≤ m → layL ds n = true → layL ds m = true
  | [], _, _, _, _ => layL_nil
  | d :: ds, n, m, l, h => by
    rw [layL_cons, Bool.and_eq_true] at h
    rw [layL_cons, lay_mono l h.1, layL_mono l h.2]
    rfl
end
theorem dEq_ok {b : Bool} {x y : D} (hx : lay x 40 = true) (hy : lay y 40 = true) : dEq b x y = some (.d (.bl (if b = true then !eqD x y else eqD x y))) := by
  unfold dEq
  rw [hx, hy]
  rfl
theorem flat_lay {d : D} {n : Nat} (h : flatD d = true) : lay d n = true := by
  cases d <;> first | exact absurd h Bool.false_ne_true | exact lay_non | exact lay_bl | exact lay_int | exact lay_str
theorem flat_layL {ds : List D} {n : Nat} (h : ds.all flatD = true) : layL ds n = true := layL_all fun d hd => flat_lay (List.all_eq_true.mp h d hd)
theorem str_eq {x y : Str} (h : x ≠ y) : (x == y) = false := by simp [h]
theorem forM_find {α : Type} {c : α → D} {p : α → Bool} {r : α → D} {g : Gm} {b : Ms} {s : Sx} (J : Env → Prop) : ∀ {xs : List α} {e : Env}, J e →
    (∀ x ∈ xs, ∀ e, J e → ∃ e1, g (c x) e = some e1 ∧ (p x = true → b e1 s = .rt (r x) s) ∧ (p x = false → ∃ e2, J e2 ∧ (b e1 s = .nx e2 s ∨ b e1 s = .ct e2 s))) →
    (∀ x, xs.find? p = some x → forM g b (xs.map c) e s = .rt (r x) s) ∧ (xs.find? p = none → ∃ e', J e' ∧ forM g b (xs.map c) e s = .nx e' s)
  | [], e, h, _ => ⟨fun x q => (nomatch q), fun _ => ⟨e, h, rfl⟩⟩
  | x :: xs, e, h, st => by
    obtain ⟨e1, h1, h2, h3⟩ := st x List.mem_cons_self e h
    rw [List.map_cons, List.find?_cons]
    unfold forM
    rw [h1]
    cases hp : p x with
    | true =>
      refine ⟨fun y q => ?_, fun q => (nomatch q)⟩
      cases q
      simp only [h2 hp]
    | false =>
      obtain ⟨e2, j2, h4⟩ := h3 hp
      have ih := forM_find J (xs := xs) j2 fun y hy => st y (List.mem_cons_of_mem _ hy)
      rcases h4 with h4 | h4
      · simp only [h4]
        exact ih
      · simp only [h4]
        exact ih
/-- a loop that goes on to its end and keeps the state -/
theorem forM_go {α : Type} {c : α → D} {g : Gm} {b : Ms} {s : Sx} (J : Env → Prop) {xs : List α} {e : Env} (h : J e)
    (st : ∀ x ∈ xs, ∀ e, J e → ∃ e1, g (c x) e = some e1 ∧ ∃ e2, J e2 ∧ (b e1 s = .nx e2 s ∨ b e1 s = .ct e2 s)) : ∃ e', J e' ∧ forM g b (xs.map c) e s = .nx e' s := by
  refine (forM_find (p := fun _ => false) (r := fun _ => .non) J h fun x hx e he => ?_).2 (List.find?_eq_none.mpr fun _ _ => by simp)
  obtain ⟨e1, h1, h2⟩ := st x hx e he
  exact ⟨e1, h1, (fun q => nomatch q), fun _ => h2⟩
theorem forM_goD {g : Gm} {b : Ms} {s : Sx} (J : Env → Prop) {xs : List D} {e : Env} (h : J e)
    (st : ∀ x ∈ xs, ∀ e, J e → ∃ e1, g x e = some e1 ∧ ∃ e2, J e2 ∧ (b e1 s = .nx e2 s ∨ b e1 s = .ct e2 s)) : ∃ e', J e' ∧ forM g b xs e s = .nx e' s := by
  have := forM_go (c := id) J (xs := xs) h st
  rwa [List.map_id] at this
theorem isi_int_tup {ds : List D} : dIsi "int" (.tup ds) = some (.d (.bl false)) := rfl
theorem isi_int_lst {ds : List D} : dIsi "int" (.lst ds) = some (.d (.bl false)) := rfl
theorem isi_int_int {i : Int} : dIsi "int" (.int i) = some (.d (.bl true)) := rfl
theorem isi_int_str {i : Str} : dIsi "int" (.str i) = some (.d (.bl false)) := rfl
theorem isi_int_bl {i : Bool} : dIsi "int" (.bl i) = some (.d (.bl true)) := rfl
theorem isi_int_non  : dIsi "int" (.non) = some (.d (.bl false)) := rfl
theorem isi_bool_tup {ds : List D} : dIsi "bool" (.tup ds) = some (.d (.bl false)) := rfl
theorem isi_bool_lst {ds : List D} : dIsi "bool" (.lst ds) = some (.d (.bl false)) := rfl
theorem isi_bool_int {i : Int} : dIsi "bool" (.int i) = some (.d (.bl false)) := rfl
theorem isi_bool_str {i : Str} : dIsi "bool" (.str i) = some (.d (.bl false)) := rfl
theorem isi_bool_bl {i : Bool} : dIsi "bool" (.bl i) = some (.d (.bl true)) := rfl
theorem isi_bool_non  : dIsi "bool" (.non) = some (.d (.bl false)) := rfl
theorem isi_str_tup {ds : List D} : dIsi "str" (.tup ds) = some (.d (.bl false)) := rfl
theorem isi_str_lst {ds : List D} : dIsi "str" (.lst ds) = some (.d (.bl false)) := rfl
theorem isi_str_int {i : Int} : dIsi "str" (.int i) = some (.d (.bl false)) := rfl
theorem isi_str_str {i : Str} : dIsi "str" (.str i) = some (.d (.bl true)) := rfl
theorem isi_str_bl {i : Bool} : dIsi "str" (.bl i) = some (.d (.bl false)) := rfl
theorem isi_str_non  : dIsi "str" (.non) = some (.d (.bl false)) := rfl
theorem isi_tuple_tup {ds : List D} : dIsi "tuple" (.tup ds) = some (.d (.bl true)) := rfl
theorem isi_tuple_lst {ds : List D} : dIsi "tuple" (.lst ds) = some (.d (.bl false)) := rfl
theorem isi_tuple_int {i : Int} : dIsi "tuple" (.int i) = some (.d (.bl false)) := rfl
theorem isi_tuple_str {i : Str} : dIsi "tuple" (.str i) = some (.d (.bl false)) := rfl
theorem isi_tuple_bl {i : Bool} : dIsi "tuple" (.bl i) = some (.d (.bl false)) := rfl
theorem isi_tuple_non  : dIsi "tuple" (.non) = some (.d (.bl false)) := rfl
theorem isi_list_tup {ds : List D} : dIsi "list" (.tup ds) = some (.d (.bl false)) := rfl
theorem isi_list_lst {ds : List D} : dIsi "list" (.lst ds) = some (.d (.bl true)) := rfl
theorem isi_list_int {i : Int} : dIsi "list" (.int i) = some (.d (.bl false)) := rfl
theorem isi_list_str {i : Str} : dIsi "list" (.str i) = some (.d (.bl false)) := rfl
theorem isi_list_bl {i : Bool} : dIsi "list" (.bl i) = some (.d (.bl false)) := rfl
theorem isi_list_non  : dIsi "list" (.non) = some (.d (.bl false)) := rfl
theorem eq_int2 {a b : Int} : eqD (.int a) (.int b) = decide (a = b) := by
  rw [eqD_int]
  rfl
theorem eq_str2 {a b : Str} : eqD (.str a) (.str b) = decide (a = b) := by
  rw [eqD_str]
  by_cases h : a = b
  · rw [h, decide_eq_true rfl]
    exact str_beq b
  · rw [decide_eq_false h]
    exact str_eq h
theorem dEq_int {k : Bool} {a b : Int} : dEq k (.int a) (.int b) = some (.d (.bl (if k = true then !decide (a = b) else decide (a = b)))) := by
  rw [dEq_ok lay_int lay_int, eq_int2]
theorem dEq_str {k : Bool} {a b : Str} : dEq k (.str a) (.str b) = some (.d (.bl (if k = true then !decide (a = b) else decide (a = b)))) := by
  rw [dEq_ok lay_str lay_str, eq_str2]
theorem dEq_self {k : Bool} {d : D} (h : lay d 40 = true) : dEq k d d = some (.d (.bl (!k))) := by
  rw [dEq_ok h h, eqD_refl]
  cases k <;> rfl
/-- goes on, in a state that fits -/
def Goes (I : Env → Sx → Prop) (o : Out) : Prop := ∃ e s, (o = .nx e s ∨ o = .ct e s) ∧ I e s
theorem goes_nx {I : Env → Sx → Prop} {e : Env} {s : Sx} (h : I e s) : Goes I (.nx e s) := ⟨e, s, .inl rfl, h⟩
theorem goes_ct {I : Env → Sx → Prop} {e : Env} {s : Sx} (h : I e s) : Goes I (.ct e s) := ⟨e, s, .inr rfl, h⟩
theorem foD {g : Gm} {b : Ms} (P : Out → Prop) (I : List D → Env → Sx → Prop) {ds : List D} {e : Env} {s : Sx} (h : I [] e s)
    (st : ∀ pre d e s, I pre e s → d ∈ ds → ∃ e1, g d e = some e1 ∧ Goes (I (pre ++ [d])) (b e1 s)) (k : ∀ e s, I ds e s → P (.nx e s)) : P (forM g b ds e s) := by
  obtain ⟨e', s', q, r⟩ := forM_inv I (ds := ds) h fun pre d e s hi hd => by
    obtain ⟨e1, h1, e2, s2, h2, h3⟩ := st pre d e s hi hd
    exact ⟨e1, h1, e2, s2, h2, h3⟩
  rw [q]
  exact k e' s' r
theorem foM {α : Type} {c : α → D} {g : Gm} {b : Ms} (P : Out → Prop) (I : List α → Env → Sx → Prop) : ∀ {xs pre : List α} {e : Env} {s : Sx}, I pre e s →
    (∀ pre x e s, I pre e s → x ∈ xs → ∃ e1, g (c x) e = some e1 ∧ Goes (I (pre ++ [x])) (b e1 s)) → (∀ e s, I (pre ++ xs) e s → P (.nx e s)) → P (forM g b (xs.map c) e s)
  | [], pre, e, s, h, _, k => k e s (by rw [List.append_nil]; exact h)
  | x :: xs, pre, e, s, h, st, k => by
    obtain ⟨e1, h1, e2, s2, h2, h3⟩ := st pre x e s h List.mem_cons_self
    have st' := fun pre d e s h hd => st pre d e s h (List.mem_cons_of_mem _ hd)
    have k' : ∀ e s, I ((pre ++ [x]) ++ xs) e s → P (.nx e s) := fun e s hi => k e s (by rw [List.append_assoc] at hi; exact hi)
    rw [List.map_cons]
    unfold forM
    rw [h1]
    rcases h2 with h2 | h2
    · simp only [h2]
      exact foM P I h3 st' k'
    · simp only [h2]
      exact foM P I h3 st' k'
/-- .. the state stays -/
theorem foS {α : Type} {c : α → D} {g : Gm} {b : Ms} (P : Out → Prop) (J : Env → Prop) {xs : List α} {e : Env} {s : Sx} (h : J e)
    (st : ∀ x e, J e → x ∈ xs → ∃ e1, g (c x) e = some e1 ∧ Goes (fun e s' => s' = s ∧ J e) (b e1 s)) (k : ∀ e, J e → P (.nx e s)) : P (forM g b (xs.map c) e s) :=
  foM P (fun _ e s' => s' = s ∧ J e) (pre := []) ⟨rfl, h⟩ (fun pre x e s' ⟨hs, hj⟩ hx => by subst hs; exact st x e hj hx) (fun e s' ⟨hs, hj⟩ => by subst hs; exact k e hj)
theorem foSD {g : Gm} {b : Ms} (P : Out → Prop) (J : Env → Prop) {xs : List D} {e : Env} {s : Sx} (h : J e)
    (st : ∀ x e, J e → x ∈ xs → ∃ e1, g x e = some e1 ∧ Goes (fun e s' => s' = s ∧ J e) (b e1 s)) (k : ∀ e, J e → P (.nx e s)) : P (forM g b xs e s) :=
  foD P (fun _ e s' => s' = s ∧ J e) ⟨rfl, h⟩ (fun pre x e s' ⟨hs, hj⟩ hx => by subst hs; exact st x e hj hx) (fun e s' ⟨hs, hj⟩ => by subst hs; exact k e hj)
theorem bb_tt : (true == true) = true := rfl
theorem bb_tf : (true == false) = false := rfl
theorem bb_ft : (false == true) = false := rfl
theorem bb_ff : (false == false) = true := rfl
theorem nm_OR : nmE .OR = Str.ofString "OutOfRange" := rfl
theorem nm_MA : nmE .MA = Str.ofString "Malformed" := rfl
theorem nm_NT : nmE .NT = Str.ofString "NotThere" := rfl
theorem nm_RE : nmE .RE = Str.ofString "Refused" := rfl
theorem nm_TM : nmE .TM = Str.ofString "TooMuch" := rfl
/-- .. with what is left -/
theorem foDq {g : Gm} {b : Ms} (P : Out → Prop) (I : List D → Env → Sx → Prop) {all : List D} : ∀ {ds pre : List D} {e : Env} {s : Sx}, pre ++ ds = all → I pre e s →
    (∀ pre d post e s, pre ++ d :: post = all → I pre e s → ∃ e1, g d e = some e1 ∧ Goes (I (pre ++ [d])) (b e1 s)) → (∀ e s, I all e s → P (.nx e s)) → P (forM g b ds e s)
  | [], pre, e, s, hp, h, _, k => k e s (by rw [← hp, List.append_nil]; exact h)
  | x :: xs, pre, e, s, hp, h, st, k => by
    obtain ⟨e1, h1, e2, s2, h2, h3⟩ := st pre x xs e s hp h
    have hp' : (pre ++ [x]) ++ xs = all := by rw [List.append_assoc]; exact hp
    unfold forM
    rw [h1]
    rcases h2 with h2 | h2
    · simp only [h2]
      exact foDq P I hp' h3 st k
    · simp only [h2]
      exact foDq P I hp' h3 st k
theorem foDp {g : Gm} {b : Ms} (P : Out → Prop) (I : List D → Env → Sx → Prop) {ds : List D} {e : Env} {s : Sx} (h : I [] e s)
    (st : ∀ pre d post e s, pre ++ d :: post = ds → I pre e s → ∃ e1, g d e = some e1 ∧ Goes (I (pre ++ [d])) (b e1 s)) (k : ∀ e s, I ds e s → P (.nx e s)) : P (forM g b ds e s) :=
  foDq P I (pre := []) rfl h st k
theorem pos_lt {α : Type} {pre post : List α} {d : α} {ds : List α} (h : pre ++ d :: post = ds) : pre.length < ds.length := by
  rw [← h, List.length_append, List.length_cons]
  omega
theorem pos_mem {α : Type} {pre post : List α} {d : α} {ds : List α} (h : pre ++ d :: post = ds) : d ∈ ds := by
  rw [← h]
  exact List.mem_append_right _ List.mem_cons_self
/-- goes on, or ends the def -/
def GoR (I : Env → Sx → Prop) (P : Out → Prop) (o : Out) : Prop := Goes I o ∨ ∃ r s', o = .rt r s' ∧ P (.rt r s')
theorem goR_nx {I : Env → Sx → Prop} {P : Out → Prop} {e : Env} {s : Sx} (h : I e s) : GoR I P (.nx e s) := .inl (goes_nx h)
theorem goR_rt {I : Env → Sx → Prop} {P : Out → Prop} {r : D} {s : Sx} (h : P (.rt r s)) : GoR I P (.rt r s) := .inr ⟨r, s, rfl, h⟩
/-- a loop that may end the def -/
theorem foRq {g : Gm} {b : Ms} (P : Out → Prop) (I : List D → Env → Sx → Prop) {all : List D} : ∀ {ds pre : List D} {e : Env} {s : Sx}, pre ++ ds = all → I pre e s →
    (∀ pre d post e s, pre ++ d :: post = all → I pre e s → ∃ e1, g d e = some e1 ∧ GoR (I (pre ++ [d])) P (b e1 s)) → (∀ e s, I all e s → P (.nx e s)) → P (forM g b ds e s)
  | [], pre, e, s, hp, h, _, k => k e s (by rw [← hp, List.append_nil]; exact h)
  | x :: xs, pre, e, s, hp, h, st, k => by
    obtain ⟨e1, h1, h2⟩ := st pre x xs e s hp h
    have hp' : (pre ++ [x]) ++ xs = all := by rw [List.append_assoc]; exact hp
    unfold forM
    rw [h1]
    rcases h2 with ⟨e2, s2, h2, h3⟩ | ⟨r, s', h2, h3⟩
    · rcases h2 with h2 | h2
      · simp only [h2]
        exact foRq P I hp' h3 st k
      · simp only [h2]
        exact foRq P I hp' h3 st k
    · simp only [h2]
      exact h3
theorem foR {g : Gm} {b : Ms} (P : Out → Prop) (I : List D → Env → Sx → Prop) {ds : List D} {e : Env} {s : Sx} (h : I [] e s)
    (st : ∀ pre d post e s, pre ++ d :: post = ds → I pre e s → ∃ e1, g d e = some e1 ∧ GoR (I (pre ++ [d])) P (b e1 s)) (k : ∀ e s, I ds e s → P (.nx e s)) : P (forM g b ds e s) :=
  foRq P I (pre := []) rfl h st k
/-- goes on, or breaks -/
def GoB (I : Env → Sx → Prop) (P : Out → Prop) (o : Out) : Prop := Goes I o ∨ ∃ e s, o = .bk e s ∧ P (.nx e s)
theorem goB_nx {I : Env → Sx → Prop} {P : Out → Prop} {e : Env} {s : Sx} (h : I e s) : GoB I P (.nx e s) := .inl (goes_nx h)
theorem goB_bk {I : Env → Sx → Prop} {P : Out → Prop} {e : Env} {s : Sx} (h : P (.nx e s)) : GoB I P (.bk e s) := .inr ⟨e, s, rfl, h⟩
theorem foBq {g : Gm} {b : Ms} (P : Out → Prop) (I : List D → Env → Sx → Prop) {all : List D} : ∀ {ds pre : List D} {e : Env} {s : Sx}, pre ++ ds = all → I pre e s →
    (∀ pre d post e s, pre ++ d :: post = all → I pre e s → ∃ e1, g d e = some e1 ∧ GoB (I (pre ++ [d])) P (b e1 s)) → (∀ e s, I all e s → P (.nx e s)) → P (forM g b ds e s)
  | [], pre, e, s, hp, h, _, k => k e s (by rw [← hp, List.append_nil]; exact h)
  | x :: xs, pre, e, s, hp, h, st, k => by
    obtain ⟨e1, h1, h2⟩ := st pre x xs e s hp h
    have hp' : (pre ++ [x]) ++ xs = all := by rw [List.append_assoc]; exact hp
    unfold forM
    rw [h1]
    rcases h2 with ⟨e2, s2, h2, h3⟩ | ⟨r, s', h2, h3⟩
    · rcases h2 with h2 | h2
      · simp only [h2]
        exact foBq P I hp' h3 st k
      · simp only [h2]
        exact foBq P I hp' h3 st k
    · simp only [h2]
      exact h3
theorem foB {g : Gm} {b : Ms} (P : Out → Prop) (I : List D → Env → Sx → Prop) {ds : List D} {e : Env} {s : Sx} (h : I [] e s)
    (st : ∀ pre d post e s, pre ++ d :: post = ds → I pre e s → ∃ e1, g d e = some e1 ∧ GoB (I (pre ++ [d])) P (b e1 s)) (k : ∀ e s, I ds e s → P (.nx e s)) : P (forM g b ds e s) :=
  foBq P I (pre := []) rfl h st k
theorem foMq {α : Type} {c : α → D} {g : Gm} {b : Ms} (P : Out → Prop) (I : List α → Env → Sx → Prop) {all : List α} : ∀ {xs pre : List α} {e : Env} {s : Sx}, pre ++ xs = all → I pre e s →
    (∀ pre x post e s, pre ++ x :: post = all → I pre e s → ∃ e1, g (c x) e = some e1 ∧ Goes (I (pre ++ [x])) (b e1 s)) → (∀ e s, I all e s → P (.nx e s)) → P (forM g b (xs.map c) e s)
  | [], pre, e, s, hp, h, _, k => k e s (by rw [← hp, List.append_nil]; exact h)
  | x :: xs, pre, e, s, hp, h, st, k => by
    obtain ⟨e1, h1, e2, s2, h2, h3⟩ := st pre x xs e s hp h
    have hp' : (pre ++ [x]) ++ xs = all := by rw [List.append_assoc]; exact hp
    rw [List.map_cons]
    unfold forM
    rw [h1]
    rcases h2 with h2 | h2
    · simp only [h2]
      exact foMq P I hp' h3 st k
    · simp only [h2]
      exact foMq P I hp' h3 st k
theorem foMp {α : Type} {c : α → D} {g : Gm} {b : Ms} (P : Out → Prop) (I : List α → Env → Sx → Prop) {xs : List α} {e : Env} {s : Sx} (h : I [] e s)
    (st : ∀ pre x post e s, pre ++ x :: post = xs → I pre e s → ∃ e1, g (c x) e = some e1 ∧ Goes (I (pre ++ [x])) (b e1 s)) (k : ∀ e s, I xs e s → P (.nx e s)) : P (forM g b (xs.map c) e s) :=
  foMq P I (pre := []) rfl h st k
end Mi
/-! own: data, tests of data -/
namespace Mi
open PySem L2
theorem asR1_i {j : Int} (h : -1000000000 ≤ j ∧ j ≤ 1000000000) : asR1 [.d (.int j)] = some (rngD 0 j.toNat) := by
  exact if_pos (by omega)
theorem asR2_i {i j : Int} (h : -1000000000 ≤ i ∧ i ≤ 1000000000 ∧ -1000000000 ≤ j ∧ j ≤ 1000000000) : asR2 [.d (.int i), .d (.int j)] = some (rngD i (j - i).toNat) := by
  exact if_pos (by omega)
theorem at0 {x : D} {xs : List D} : atI (x :: xs) 0 = some x := atI_nat (xs := x :: xs) (j := 0) rfl
theorem at1 {x y : D} {xs : List D} : atI (x :: y :: xs) 1 = some y := atI_nat (xs := x :: y :: xs) (j := 1) rfl
theorem at2 {x y z : D} {xs : List D} : atI (x :: y :: z :: xs) 2 = some z := atI_nat (xs := x :: y :: z :: xs) (j := 2) rfl
theorem at3 {x y z u : D} {xs : List D} : atI (x :: y :: z :: u :: xs) 3 = some u := atI_nat (xs := x :: y :: z :: u :: xs) (j := 3) rfl
local macro_rules | `(tactic| walk_at "ev") => `(tactic| simp -implicitDefEqProofs only [rout_ok, rout_er, oseq_nx, oseq_rt, oseq_bk, oseq_ct, oseq_er, e_seq, e_nil, e_break, e_cont, e_raise, e_retN, kDrop, e_drop, kRet, e_ret, e_cond, kCond_t, kCond_f, e_set, kSet_d, kSet_own, e_asg, kAsg_d, kAsg_own, kAsg2_some, e_par, kPar_d, e_par3, kPar3_d, e_for, kFor, e_c, e_var, slot_eq, slotO_d, slotO_own, opt_none, opt_some, e_bin, kBin_eq, kBin2_eq, e_un, kUn_eq, e_args0, e_args, kArg_eq, kArg2_eq, e_call, kCall_eq, e_fn, kFn_eq, kFn2_eq, kD_eq, e_fnB, kFnB_eq, e_bool, kBool_b, e_and, kAnd_t, kAnd_f, e_or, kOr_t, kOr_f, e_not, kNot_eq, e_andV, kAndV_b, kAndV_t, kAndV_f, e_orV, kOrV_b, kOrV_t, kOrV_f, e_notV, kNotV_b, e_if, kIf_t, kIf_f, e_tup, kTup_eq, kTup2_eq, e_lst, kLst_eq, kLst2_eq, e_it, kIt_eq, e_r1, kR1_eq, e_r2, kR2_eq, e_q, kQ_eq, e_lc, kLc_eq, e_no, e_part, kPart_i, e_sl, kSl_eq, kSl2_eq, kSl3_eq, e_chain, kCh_eq, kCh2_eq, kCh3_b, kCh4_t, kCh4_f, kCh5_eq, e_app, kApp0_own, kApp_d, kApp_own, e_frz, kFrz_own, kFrz_d, e_aug, kAug0_d, kAug_d, e_def, dout_nx, dout_rt, dout_er, e_try, tTry_nx, tTry_rt, tTry_er, tOut_rt, tOut_nx, tOut_ct, e_told, kTold_e, bind_ok, bind_er, bind_bad, nox_ok, A.v, A.toD, toDs, asX, asR1_i, asR2_i, dTy, D.ty, dRel, dLe, dLt, dGt, dGe, dLtX, dLen, dAdd, dSub, dMod, dDiv, dMulX, dIx, dSl, dTuple, dList, dIsi, D.ty', dIsB, dIsN, D.isNon, dNeg, dMax2, dMin2, dAbs, gN, gT, gsC, gsN, wipeE, blankE, lend, D.scal, List.map_cons, List.map_nil, List.length_cons, List.length_nil, List.cons_append, List.nil_append, List.getElem?_cons_zero, List.getElem?_cons_succ, List.set_cons_zero, List.set_cons_succ, List.replicate, Nat.reduceAdd, Nat.reduceSub, if_true, if_false, Bool.false_eq_true, reduceIte, decide_true, decide_false, String.reduceEq, reduceCtorEq, Int.reduceLE, Int.reduceLT, Int.reduceAdd, Int.reduceSub, Int.reduceMul, Int.reduceNeg, Int.reduceToNat, Nat.reduceLeDiff, Nat.reduceLT, Bool.not_true, Bool.not_false, Int.cast_ofNat_Int, Bool.and_true, Bool.true_and, Bool.and_false, Bool.false_and, and_self, and_true, true_and, at0, at1, at2, at3, Option.map_some])
mutual
def pl : D → Bool
  | .drs => false
  | .bot => false
  | .dct _ _ => false
  | .tup ds => plL ds
  | .lst ds => plL ds
  | _ => true
def plL : List D → Bool
  | [] => true
  | d :: ds => pl d && plL ds
end
theorem plL_mem : ∀ {ds : List D}, plL ds = true → ∀ d ∈ ds, pl d = true
  | [], _, _, h => nomatch h
  | d :: ds, h, d', hd => by
    unfold plL at h
    rw [Bool.and_eq_true] at h
    rcases List.mem_cons.mp hd with z | z
    · rw [z]; exact h.1
    · exact plL_mem h.2 d' z
def isNum : D → Int → Int → Bool
  | .int v, a, b => decide (a ≤ v) && decide (v ≤ b)
  | _, _, _ => false
def isTup : D → Int → Int → Bool
  | .tup ds, a, b => decide (a ≤ (ds.length : Int)) && decide ((ds.length : Int) ≤ b)
  | _, _, _ => false
def letD : D → Bool
  | .str x => inS x "abcdefghijklmnopqrstuvwxyz"
  | _ => false
def nmD : D → Bool
  | .str z => decide (1 ≤ (z.length : Int)) && (decide ((z.length : Int) ≤ 16) && (chD z).all letD)
  | _ => false
/-- neighbours -/
def adj (p : D → D → Bool) : List D → Bool
  | x :: y :: r => p x y && adj p (y :: r)
  | _ => true
theorem adj_rng {p : D → D → Bool} : ∀ {ds : List D}, (List.range (ds.length - 1)).all (fun i => match ds[i]?, ds[i + 1]? with | some x, some y => p x y | _, _ => false) = adj p ds
  | [] => rfl
  | [x] => rfl
  | x :: y :: r => by
    have ih := adj_rng (p := p) (ds := y :: r)
    show (List.range ((y :: r).length)).all _ = (p x y && adj p (y :: r))
    rw [← ih, List.length_cons, List.range_succ_eq_map, List.all_cons, List.all_map]
    rfl
theorem adj_run {p : D → D → Bool} {te : Mv} {e : Mi.Env} {o : Option A} {ds : List D} {s : Sx} (h : ∀ i x y, ds[i]? = some x → ds[i + 1]? = some y → te (some (.d (.int (((i + 1 : Nat) : Int)))) :: e) s = .ok (.d (.bl (p x y))) s) :
    qM false (gN 0) te (o :: e) (rngD 1 ((ds.length : Int) - 1).toNat) s = .ok (.d (.bl (adj p ds))) s := by
  have en : (rngD 1 ((ds.length : Int) - 1).toNat).all (fun d => match d with
      | .int i => (match ds[i.toNat - 1]?, ds[i.toNat]? with | some x, some y => p x y | _, _ => false)
      | _ => false) = adj p ds := by
    rw [← adj_rng]
    unfold rngD
    rw [List.all_map]
    have : ((ds.length : Int) - 1).toNat = ds.length - 1 := by omega
    rw [this]
    congr 1
    funext i
    show (match ds[((1 : Int) + (i : Nat)).toNat - 1]?, ds[((1 : Int) + (i : Nat)).toNat]? with | some x, some y => p x y | _, _ => false) = _
    have e1 : ((1 : Int) + (i : Nat)).toNat - 1 = i := by omega
    have e2 : ((1 : Int) + (i : Nat)).toNat = i + 1 := by omega
    rw [e1, e2]
  rw [← en]
  refine qM_all fun d hd => ?_
  unfold rngD at hd
  obtain ⟨i, hi, rfl⟩ := List.mem_map.mp hd
  rw [List.mem_range] at hi
  refine ⟨_, rfl, ?_⟩
  have h1 : i < ds.length := by omega
  have h2 : i + 1 < ds.length := by omega
  have e1 : ((1 : Int) + (i : Nat)).toNat - 1 = i := by omega
  have e2 : ((1 : Int) + (i : Nat)).toNat = i + 1 := by omega
  have e3 : ((1 : Int) + (i : Nat)) = ((i + 1 : Nat) : Int) := by omega
  have := h i _ _ (List.getElem?_eq_getElem h1) (List.getElem?_eq_getElem h2)
  show te (some (.d (.int (1 + (i : Nat)))) :: e) s = _
  rw [e3, this]
  show _ = Res.ok (A.d (.bl (match ds[((((i + 1 : Nat) : Int))).toNat - 1]?, ds[((((i + 1 : Nat) : Int))).toNat]? with | some x, some y => p x y | _, _ => false))) s
  rw [← e3, e1, e2, List.getElem?_eq_getElem h1, List.getElem?_eq_getElem h2]
theorem atI_nat' {ds : List D} {i : Nat} : atI ds (i : Int) = ds[i]? := by
  by_cases h : i < ds.length
  · rw [atI_nat (List.getElem?_eq_getElem h), List.getElem?_eq_getElem h]
  · rw [List.getElem?_eq_none (by omega)]
    unfold atI ixN
    rw [if_pos (by omega), if_neg (by omega)]
    rfl
theorem atI_pred {ds : List D} {i : Nat} : atI ds (((i + 1 : Nat) : Int) - 1) = ds[i]? := by
  rw [show (((i + 1 : Nat) : Int) - 1) = ((i : Nat) : Int) by omega, atI_nat']
/-- ascending -/
def ltD : D → D → Bool
  | .int i, .int j => decide (i < j)
  | .str i, .str j => decide (i.cps.toList < j.cps.toList)
  | _, _ => false
def isI : D → Bool
  | .int _ => true
  | _ => false
def isS : D → Bool
  | .str _ => true
  | _ => false
def ascD (ds : List D) : Bool := adj ltD ds
theorem ltD_ok {x y : D} (h : (isI x = true ∧ isI y = true) ∨ (isS x = true ∧ isS y = true)) : dLtX x y = some (.d (.bl (ltD x y))) := by
  rcases h with ⟨a, b⟩ | ⟨a, b⟩
  · cases x <;> first | exact absurd a Bool.false_ne_true | (cases y <;> first | exact absurd b Bool.false_ne_true | rfl)
  · cases x <;> first | exact absurd a Bool.false_ne_true | (cases y <;> first | exact absurd b Bool.false_ne_true | rfl)
theorem all_at {p : D → Bool} {ds : List D} {i : Nat} {x : D} (h : ds.all p = true) (e : ds[i]? = some x) : p x = true := List.all_eq_true.mp h x (List.mem_of_getElem? e)
theorem isTup2 {d : D} {a b : Int} (h : isTup d a b = true) : ∃ ds, d = .tup ds ∧ a ≤ (ds.length : Int) ∧ (ds.length : Int) ≤ b := by
  cases d <;> first | exact absurd h Bool.false_ne_true | skip
  rename_i ds
  unfold isTup at h
  rw [Bool.and_eq_true, decide_eq_true_eq, decide_eq_true_eq] at h
  exact ⟨ds, rfl, h.1, h.2⟩
theorem isNum2 {d : D} {a b : Int} (h : isNum d a b = true) : ∃ v, d = .int v ∧ a ≤ v ∧ v ≤ b := by
  cases d <;> first | exact absurd h Bool.false_ne_true | skip
  rename_i v
  unfold isNum at h
  rw [Bool.and_eq_true, decide_eq_true_eq, decide_eq_true_eq] at h
  exact ⟨v, rfl, h.1, h.2⟩
theorem isNumI {d : D} {a b : Int} (h : isNum d a b = true) : isI d = true := by
  obtain ⟨v, rfl, _⟩ := isNum2 h
  rfl
theorem nmDS {d : D} (h : nmD d = true) : isS d = true := by
  cases d <;> first | exact absurd h Bool.false_ne_true | rfl
theorem all_imp {p q : D → Bool} {ds : List D} (h : ds.all p = true) (i : ∀ d, p d = true → q d = true) : ds.all q = true :=
  List.all_eq_true.mpr fun x hx => i x (List.all_eq_true.mp h x hx)
theorem pl_tup {ds : List D} (h : pl (.tup ds) = true) : plL ds = true := by unfold pl at h; exact h
def namesD (d : D) (a b : Int) : Bool := isTup d a b && (match d with
  | .tup ds => ds.all nmD && ascD ds
  | _ => false)
def toI : D → Int
  | .int v => v
  | _ => 0
def fst : D → D
  | .tup (x :: _) => x
  | _ => .non
def snd : D → D
  | .tup (_ :: y :: _) => y
  | _ => .non
theorem isTup_f {ds : List D} {b : Int} (h : isTup (.tup ds) 0 b = false) : ¬ (ds.length : Int) ≤ b := by
  unfold isTup at h
  rw [Bool.and_eq_false_iff, decide_eq_false_iff_not, decide_eq_false_iff_not] at h
  omega
theorem isNum_int {v a b : Int} : isNum (.int v) a b = (decide (a ≤ v) && decide (v ≤ b)) := rfl
theorem flat_nums {ws : List D} {a b : Int} (h : ws.all (fun d => isNum d a b) = true) : ws.all flatD = true := all_imp h fun d hd => by
  obtain ⟨v, rfl, _⟩ := isNum2 hd
  rfl
theorem rng_map {n : Nat} : rngD 0 n = (List.range n).map fun i => .int (i : Nat) := by
  unfold rngD
  congr 1
  funext i
  rw [Int.zero_add]
theorem names_flat {rs : List D} {a b : Int} (h : namesD (.tup rs) a b = true) : rs.all flatD = true := by
  unfold namesD at h
  rw [Bool.and_eq_true] at h
  have : (rs.all nmD && ascD rs) = true := h.2
  rw [Bool.and_eq_true] at this
  exact all_imp this.1 fun d hd => by
    cases d <;> first | exact absurd hd Bool.false_ne_true | rfl
theorem names_len {rs : List D} {a b : Int} (h : namesD (.tup rs) a b = true) : (rs.length : Int) ≤ b := by
  unfold namesD at h
  rw [Bool.and_eq_true] at h
  obtain ⟨ds, e, _, h⟩ := isTup2 h.1
  cases e
  exact h
theorem pl_t {ds : List D} : pl (.tup ds) = plL ds := by rw [pl.eq_def]
theorem pl_l {ds : List D} : pl (.lst ds) = plL ds := by rw [pl.eq_def]
theorem pl_i {i : Int} : pl (.int i) = true := by rw [pl.eq_def]
theorem pl_b {i : Bool} : pl (.bl i) = true := by rw [pl.eq_def]
theorem pl_s {i : Str} : pl (.str i) = true := by rw [pl.eq_def]
theorem pl_n : pl .non = true := by rw [pl.eq_def]
theorem plL_n : plL [] = true := by rw [plL.eq_def]
theorem plL_c {d : D} {ds : List D} : plL (d :: ds) = (pl d && plL ds) := by rw [plL.eq_def]
theorem plL_all : ∀ {ds : List D}, (∀ d ∈ ds, pl d = true) → plL ds = true
  | [], _ => plL_n
  | d :: ds, h => by rw [plL_c, h d List.mem_cons_self, plL_all fun d' hd => h d' (List.mem_cons_of_mem _ hd)]; rfl
abbrev zS (x : String) : D := .str (Str.ofString x)
theorem adj_last {p : D → D → Bool} (hp : ∀ d, p d d = false) : ∀ {ds : List D} {x : D}, adj p (ds ++ [x, x]) = false
  | [], x => by
    show (p x x && true) = false
    rw [hp]
    rfl
  | [y], x => by
    show (p y x && (p x x && true)) = false
    rw [hp, Bool.false_and, Bool.and_false]
  | y :: z :: r, x => by
    show (p y z && adj p ((z :: r) ++ [x, x])) = false
    rw [adj_last hp, Bool.and_false]
theorem ltD_irr (d : D) : ltD d d = false := by
  cases d with
  | int i => exact decide_eq_false (Int.lt_irrefl i)
  | str s => exact decide_eq_false (List.lt_irrefl _)
  | _ => rfl
theorem cut_last {ds : List D} {x : D} : cutD (ds ++ [x]) (some (-1)) none = [x] := by
  unfold cutD
  have e1 : HT.sIx (ds ++ [x]).length 0 (some (-1)) = ds.length := by
    show (if (-1 : Int) < 0 then ((-1 : Int) + ((ds ++ [x]).length : Int)).toNat else min (-1 : Int).toNat (ds ++ [x]).length) = ds.length
    rw [if_pos (by decide), List.length_append]
    show (-1 + ((ds.length + 1 : Nat) : Int)).toNat = ds.length
    omega
  rw [e1, show HT.sIx (ds ++ [x]).length (ds ++ [x]).length none = (ds ++ [x]).length from rfl, List.drop_append_of_le_length (Nat.le_refl _), List.drop_length, List.length_append, List.nil_append]
  show List.take (ds.length + 1 - ds.length) [x] = [x]
  rw [Nat.add_sub_cancel_left]
  rfl
theorem all_not {p : D → Bool} {d : D} {ds : List D} (h : p d = false) : (d :: ds).all p = false := by
  rw [List.all_cons, h]
  rfl
theorem mulOk_r {i j : Int} (h : j.natAbs < 18446744073709551616) : mulOk i j = true := by
  unfold mulOk
  rw [show decide (j.natAbs < 2 ^ 64) = true from decide_eq_true h, Bool.or_true, Bool.true_or]
theorem dMul_r {i j : Int} (h : j.natAbs < 18446744073709551616) : dMulX (.int i) (.int j) = some (.d (.int (i * j))) := by
  show (if mulOk i j = true then _ else _) = _
  rw [mulOk_r h, if_pos rfl]
theorem fmd_nn {i j : Int} (h : 0 < j) : 0 ≤ fmd i j ∧ fmd i j < j := by
  unfold fmd
  rw [if_pos (by omega)]
  exact ⟨Int.emod_nonneg _ (by omega), Int.emod_lt_of_pos _ h⟩
def Sok (s : Sx) : Prop := ∃ d, s = some d ∧ 0 < d.cs.length ∧ d.cs.length ≤ 64
theorem adj_pw {p : D → D → Bool} : ∀ {ds : List D}, ds.Pairwise (fun a b => p a b = true) → adj p ds = true
  | [], _ => rfl
  | [_], _ => rfl
  | x :: y :: r, h => by
    show (p x y && adj p (y :: r)) = true
    rw [List.pairwise_cons] at h
    rw [h.1 y List.mem_cons_self, adj_pw h.2]
    rfl
theorem adj_snoc {p : D → D → Bool} {x : D} : ∀ {ds : List D}, adj p ds = true → (∀ y ∈ ds, p y x = true) → adj p (ds ++ [x]) = true
  | [], _, _ => rfl
  | [y], _, h => by
    show (p y x && true) = true
    rw [h y List.mem_cons_self]
    rfl
  | y :: z :: r, h, g => by
    have h : (p y z && adj p (z :: r)) = true := h
    rw [Bool.and_eq_true] at h
    show (p y z && adj p ((z :: r) ++ [x])) = true
    rw [h.1, adj_snoc h.2 fun w hw => g w (List.mem_cons_of_mem _ hw)]
    rfl
/-- [x for x in ds if a draw says so] -/
theorem lcM_sub {g : Gm} {tt : Mb} {te : Mv} {e : Mi.Env} {S : Sx → Prop} {ds : List D} {s : Sx} (hs : S s) (hl : ds.length ≤ 1000000)
    (st : ∀ d ∈ ds, ∀ s, S s → ∃ e1 b s1, g d e = some e1 ∧ tt e1 s = .ok b s1 ∧ S s1 ∧ (b = true → te e1 s1 = .ok (.d d) s1)) : ∃ acc s', lcM g tt te e ds [] s = .ok (.own acc) s' ∧ S s' ∧ acc.Sublist ds := by
  obtain ⟨acc, s', e, h⟩ := lcM_inv (I := fun pre acc s => S s ∧ acc.Sublist pre) (g := g) (tt := tt) (te := te) (e := e) (ds := ds) (pre := []) (acc := []) (s := s) ⟨hs, List.Sublist.refl _⟩ (by simpa using hl) fun pre d acc s ⟨h1, h2⟩ hd => by
    obtain ⟨e1, b, s1, k1, k2, k3, k4⟩ := st d hd s h1
    refine ⟨e1, b, s1, k1, k2, fun _ => ⟨k3, h2.trans (List.sublist_append_left _ _)⟩, fun hb => ⟨_, s1, d, k4 hb, rfl, k3, List.Sublist.append h2 (List.Sublist.refl _)⟩⟩
  exact ⟨acc, s', e, h.1, by rw [List.nil_append] at h; exact h.2⟩
theorem pick2 {a b : D} {i : Int} (h0 : 0 ≤ i) (h1 : i < 2) : ∃ v, atI [a, b] i = some v ∧ (v = a ∨ v = b) := by
  have : i = 0 ∨ i = 1 := by omega
  rcases this with rfl | rfl
  · exact ⟨a, at0, .inl rfl⟩
  · exact ⟨b, at1, .inr rfl⟩
theorem pick3 {a b c : D} {i : Int} (h0 : 0 ≤ i) (h1 : i < 3) : ∃ v, atI [a, b, c] i = some v ∧ (v = a ∨ v = b ∨ v = c) := by
  have : i = 0 ∨ i = 1 ∨ i = 2 := by omega
  rcases this with rfl | rfl | rfl
  · exact ⟨a, at0, .inl rfl⟩
  · exact ⟨b, at1, .inr (.inl rfl)⟩
  · exact ⟨c, at2, .inr (.inr rfl)⟩
theorem take_ok {ds : List D} {v : Int} (h : 0 ≤ v) : cutD ds none (some v) = ds.take v.toNat := by
  unfold cutD
  have e : HT.sIx ds.length ds.length (some v) = min v.toNat ds.length := by
    show (if v < 0 then _ else min v.toNat ds.length) = _
    rw [if_neg (by omega)]
  rw [e, show HT.sIx ds.length 0 none = 0 from rfl, List.drop_zero, Nat.sub_zero]
  rcases Nat.le_total v.toNat ds.length with h | h
  · rw [Nat.min_eq_left h]
  · rw [Nat.min_eq_right h, List.take_of_length_le (Nat.le_refl _), List.take_of_length_le h]
theorem drop_ok {ds : List D} {v : Int} (h : 0 ≤ v) : cutD ds (some v) none = ds.drop v.toNat := by
  unfold cutD
  have e : HT.sIx ds.length 0 (some v) = min v.toNat ds.length := by
    show (if v < 0 then _ else min v.toNat ds.length) = _
    rw [if_neg (by omega)]
  rw [e, show HT.sIx ds.length ds.length none = ds.length from rfl]
  rcases Nat.le_total v.toNat ds.length with h | h
  · rw [Nat.min_eq_left h]
    exact List.take_of_length_le (by rw [List.length_drop]; exact Nat.le_refl _)
  · rw [Nat.min_eq_right h, List.drop_length, List.drop_of_length_le h, List.take_nil]
theorem rng_at {lo : Int} {n : Nat} {pre post : List D} {d : D} (h : pre ++ d :: post = rngD lo n) : d = .int (lo + (pre.length : Nat)) ∧ pre.length < n := by
  have hl := pos_lt h
  unfold rngD at h hl
  rw [List.length_map, List.length_range] at hl
  have e : (pre ++ d :: post)[pre.length]? = some d := by
    rw [List.getElem?_append_right (Nat.le_refl _), Nat.sub_self]
    rfl
  rw [h, List.getElem?_map, List.getElem?_range hl] at e
  exact ⟨(Option.some.inj e).symm, hl⟩
theorem minI_head {n : Int} {ns : List Int} (h : ∀ m ∈ ns, n ≤ m) : minI n ns = n := by
  have a := minI_le ns n n List.mem_cons_self
  rcases List.mem_cons.mp (minI_mem ns n) with e | e
  · exact e
  · exact Int.le_antisymm a (h _ e)
theorem dints_of : ∀ {ns : List Int}, dints (ns.map .int) = some ns
  | [] => rfl
  | n :: ns => by
    rw [List.map_cons]
    unfold dints
    rw [dints_of]
theorem dMinL_map {α : Type} {x : α} {xs : List α} {g : α → Int} : dMinL [.lst (.int (g x) :: xs.map fun t => .int (g t))] = some (.d (.int (minI (g x) (xs.map g)))) := by
  have e : (D.int (g x) :: xs.map fun t => D.int (g t)) = ((g x :: xs.map g).map D.int) := by
    rw [List.map_cons, List.map_map]
    rfl
  show (match dints (D.int (g x) :: xs.map fun t => D.int (g t)) with
    | some (n :: ns) => some (A.d (D.int (minI n ns)))
    | _ => none) = _
  rw [e, dints_of]
theorem split_idx {α : Type} : ∀ {xs : List α} {i : Nat} {t : α}, xs[i]? = some t → xs = xs.take i ++ t :: xs.drop (i + 1)
  | [], _, _, h => by simp at h
  | x :: xs, 0, t, h => by cases h; rfl
  | x :: xs, i + 1, t, h => by
    rw [List.take_succ_cons, List.drop_succ_cons, List.cons_append, ← split_idx (xs := xs) (i := i) h]
theorem drop_idx {α : Type} : ∀ {xs : List α} {i : Nat} {t : α}, xs[i]? = some t → xs.drop i = t :: xs.drop (i + 1)
  | [], _, _, h => by simp at h
  | x :: xs, 0, t, h => by cases h; rfl
  | x :: xs, i + 1, t, h => by
    rw [List.drop_succ_cons, List.drop_succ_cons]
    exact drop_idx (xs := xs) h
theorem cut_init {ds : List D} {x : D} : cutD (ds ++ [x]) none (some (-1)) = ds := by
  unfold cutD
  have e1 : HT.sIx (ds ++ [x]).length (ds ++ [x]).length (some (-1)) = ds.length := by
    show (if (-1 : Int) < 0 then ((-1 : Int) + ((ds ++ [x]).length : Int)).toNat else min (-1 : Int).toNat (ds ++ [x]).length) = ds.length
    rw [if_pos (by decide), List.length_append]
    show ((-1 : Int) + ((ds.length + 1 : Nat) : Int)).toNat = ds.length
    omega
  rw [e1, show HT.sIx (ds ++ [x]).length 0 none = 0 from rfl, List.drop_zero, Nat.sub_zero, List.take_append_of_le_length (Nat.le_refl _), List.take_length]
theorem plL_app : ∀ {ds es : List D}, plL (ds ++ es) = (plL ds && plL es)
  | [], es => by rw [plL_n]; rfl
  | d :: ds, es => by rw [List.cons_append, plL_c, plL_c, plL_app, Bool.and_assoc]
theorem dSorted_of {ns : List Int} : dSorted [.lst (ns.map .int)] = some (.own ((ns.mergeSort fun x y => decide (x ≤ y)).map .int)) := by
  show (dints (ns.map .int)).map _ = _
  rw [dints_of]
  rfl
end Mi
/-! own: fractions as Rat; Euclid -/
namespace Rq
/-- Euclid's pairs: a bound that falls -/
def Eu (B x y i a b : Nat) : Prop := Nat.gcd a b = Nat.gcd x y ∧ (b = 0 ∨ (i = 0 ∧ b < 2 ^ B) ∨ (1 ≤ i ∧ b < a ∧ a * b * 2 ^ (i - 1) < 2 ^ (B + B)))
theorem eu_0 {B x y : Nat} (hy : y < 2 ^ B) : Eu B x y 0 x y := ⟨rfl, .inr (.inl ⟨rfl, hy⟩)⟩
theorem eu_step {B x y i a b : Nat} (h : Eu B x y i a b) (hb : b ≠ 0) : Eu B x y (i + 1) b (a % b) := by
  obtain ⟨hg, h⟩ := h
  have hr : a % b < b := Nat.mod_lt _ (Nat.pos_of_ne_zero hb)
  refine ⟨?_, .inr (.inr ⟨by omega, hr, ?_⟩)⟩
  · rw [← hg, Nat.gcd_comm b (a % b), ← Nat.gcd_rec, Nat.gcd_comm]
  · rw [Nat.add_sub_cancel]
    rcases h with h | ⟨hi, h⟩ | ⟨hi, hlt, h⟩
    · exact absurd h hb
    · subst hi
      rw [Nat.pow_zero, Nat.mul_one, Nat.pow_add]
      exact Nat.mul_lt_mul'' h (Nat.lt_trans hr h)
    · refine Nat.lt_of_le_of_lt ?_ h
      have h2 : 2 * (a % b) ≤ a := by
        have e := Nat.mod_add_div a b
        have d : 1 ≤ a / b := Nat.div_pos (Nat.le_of_lt hlt) (Nat.pos_of_ne_zero hb)
        have m : b ≤ b * (a / b) := Nat.le_mul_of_pos_right b d
        omega
      have e : i = (i - 1) + 1 := by omega
      rw [e, Nat.pow_succ, Nat.add_sub_cancel]
      have e2 : b * (a % b) * (2 ^ (i - 1) * 2) = 2 * (a % b) * b * 2 ^ (i - 1) := by
        rw [Nat.mul_comm (2 ^ (i - 1)) 2, ← Nat.mul_assoc, Nat.mul_comm (b * (a % b)) 2, ← Nat.mul_assoc, Nat.mul_right_comm 2 b (a % b)]
      rw [e2]
      exact Nat.mul_le_mul_right _ (Nat.mul_le_mul_right _ h2)
theorem eu_end {B x y N a b : Nat} (h : Eu B x y N a b) (hN : B + B + 1 ≤ N) : b = 0 := by
  obtain ⟨hg, h⟩ := h
  rcases h with h | ⟨hi, h⟩ | ⟨hi, hlt, h⟩
  · exact h
  · omega
  · by_cases hb : b = 0
    · exact hb
    · exfalso
      have p : 1 ≤ a * b := Nat.mul_pos (by omega) (Nat.pos_of_ne_zero hb)
      have q : 2 ^ (N - 1) ≤ a * b * 2 ^ (N - 1) := Nat.le_mul_of_pos_left _ p
      have r : (2 : Nat) ^ (B + B) ≤ 2 ^ (N - 1) := Nat.pow_le_pow_right (by decide) (by omega)
      omega
theorem eu_out {B x y i a : Nat} (h : Eu B x y i a 0) : a = Nat.gcd x y := by
  rw [← h.1, Nat.gcd_zero_right]
/-! fractions -/
theorem num_div {p w : Int} (hw : 0 < w) : ((p : Rat) / (w : Rat)).num = p / ((Nat.gcd p.natAbs w.natAbs : Nat) : Int) := by
  rw [← Rat.divInt_eq_div, Rat.num_divInt, Int.sign_eq_one_of_pos hw, Int.one_mul, Int.gcd_comm]
  rfl
theorem den_div {p w : Int} (hw : 0 < w) : (((p : Rat) / (w : Rat)).den : Int) = w / ((Nat.gcd p.natAbs w.natAbs : Nat) : Int) := by
  rw [← Rat.divInt_eq_div, Rat.den_divInt, if_neg (by omega), Int.gcd_comm]
  show ((w.natAbs / Nat.gcd p.natAbs w.natAbs : Nat) : Int) = _
  rw [Int.natCast_ediv]
  congr 1
  omega
theorem ne_of {w : Int} (h : 0 < w) : (w : Rat) ≠ 0 := fun e => by
  rw [Rat.intCast_eq_zero_iff] at e
  omega
theorem self_div (v : Rat) : (v.num : Rat) / ((v.den : Int) : Rat) = v := by
  rw [← Rat.divInt_eq_div]
  exact Rat.num_divInt_den v
theorem den_pos (v : Rat) : 0 < (v.den : Int) := by have := v.den_pos; omega
theorem ab (p : Int) : p.natAbs < 2 ^ 0 ↔ p = 0 := by constructor <;> intro h <;> simp at * <;> omega
/-- a quotient's parts are no greater -/
theorem num_le {p w : Int} (hw : 0 < w) : ((p : Rat) / (w : Rat)).num.natAbs ≤ p.natAbs := by
  rw [num_div hw, Int.natAbs_ediv_of_dvd (Int.ofNat_dvd_left.mpr (Nat.gcd_dvd_left _ _))]
  exact Nat.div_le_self _ _
theorem den_le {p w : Int} (hw : 0 < w) : ((p : Rat) / (w : Rat)).den ≤ w.natAbs := by
  have h := den_div (p := p) hw
  have h2 : w / ((Nat.gcd p.natAbs w.natAbs : Nat) : Int) ≤ w := Int.ediv_le_self _ (by omega)
  omega
theorem plus_q {u v : Rat} : ((u.num * v.den + v.num * u.den : Int) : Rat) / ((u.den * v.den : Int) : Rat) = u + v := by
  have hu := self_div u
  have hv := self_div v
  have du : ((u.den : Int) : Rat) ≠ 0 := ne_of (den_pos u)
  have dv : ((v.den : Int) : Rat) ≠ 0 := ne_of (den_pos v)
  rw [Rat.intCast_add, Rat.intCast_mul, Rat.intCast_mul, Rat.intCast_mul]
  generalize ((u.den : Int) : Rat) = a at *
  generalize ((v.den : Int) : Rat) = b at *
  generalize (u.num : Rat) = c at *
  generalize (v.num : Rat) = d at *
  subst hu
  subst hv
  grind
theorem minus_q {u v : Rat} : ((u.num * v.den - v.num * u.den : Int) : Rat) / ((u.den * v.den : Int) : Rat) = u - v := by
  have hu := self_div u
  have hv := self_div v
  have du : ((u.den : Int) : Rat) ≠ 0 := ne_of (den_pos u)
  have dv : ((v.den : Int) : Rat) ≠ 0 := ne_of (den_pos v)
  rw [Rat.intCast_sub, Rat.intCast_mul, Rat.intCast_mul, Rat.intCast_mul]
  generalize ((u.den : Int) : Rat) = a at *
  generalize ((v.den : Int) : Rat) = b at *
  generalize (u.num : Rat) = c at *
  generalize (v.num : Rat) = d at *
  subst hu
  subst hv
  grind
theorem times_q {u v : Rat} : ((u.num * v.num : Int) : Rat) / ((u.den * v.den : Int) : Rat) = u * v := by
  have hu := self_div u
  have hv := self_div v
  have du : ((u.den : Int) : Rat) ≠ 0 := ne_of (den_pos u)
  have dv : ((v.den : Int) : Rat) ≠ 0 := ne_of (den_pos v)
  rw [Rat.intCast_mul, Rat.intCast_mul]
  generalize ((u.den : Int) : Rat) = a at *
  generalize ((v.den : Int) : Rat) = b at *
  generalize (u.num : Rat) = c at *
  generalize (v.num : Rat) = d at *
  subst hu
  subst hv
  grind
/-- small: v = S / W, W ≤ N, |S| ≤ W * M -/
def Sm (N M : Nat) (v : Rat) : Prop := ∃ S W : Int, v = (S : Rat) / (W : Rat) ∧ 0 < W ∧ W.natAbs ≤ N ∧ S.natAbs ≤ W.natAbs * M
theorem Sm.den {N M : Nat} {v : Rat} (h : Sm N M v) : v.den ≤ N := by
  obtain ⟨S, W, rfl, h0, h1, h2⟩ := h
  exact Nat.le_trans (den_le h0) h1
theorem Sm.num {N M : Nat} {v : Rat} (h : Sm N M v) : v.num.natAbs ≤ N * M := by
  obtain ⟨S, W, rfl, h0, h1, h2⟩ := h
  exact Nat.le_trans (num_le h0) (Nat.le_trans h2 (Nat.mul_le_mul_right _ h1))
theorem Sm.add {N M N' M' : Nat} {u v : Rat} (h : Sm N M u) (g : Sm N' M' v) : Sm (N * N') (M + M') (u + v) := by
  obtain ⟨S, W, rfl, h0, h1, h2⟩ := h
  obtain ⟨S', W', rfl, h0', h1', h2'⟩ := g
  refine ⟨S * W' + S' * W, W * W', ?_, Int.mul_pos h0 h0', ?_, ?_⟩
  · rw [Rat.intCast_add, Rat.intCast_mul, Rat.intCast_mul, Rat.intCast_mul]
    have du := ne_of h0
    have dv := ne_of h0'
    generalize (W : Rat) = a at *
    generalize (W' : Rat) = b at *
    grind
  · rw [Int.natAbs_mul]
    exact Nat.mul_le_mul h1 h1'
  · refine Nat.le_trans (Int.natAbs_add_le _ _) ?_
    rw [Int.natAbs_mul, Int.natAbs_mul, Int.natAbs_mul]
    have a := Nat.mul_le_mul_right W'.natAbs h2
    have b := Nat.mul_le_mul_right W.natAbs h2'
    have e : W.natAbs * W'.natAbs * (M + M') = W.natAbs * M * W'.natAbs + W'.natAbs * M' * W.natAbs := by grind
    omega
theorem Sm.mul {N M N' M' : Nat} {u v : Rat} (h : Sm N M u) (g : Sm N' M' v) : Sm (N * N') (M * M') (u * v) := by
  obtain ⟨S, W, rfl, h0, h1, h2⟩ := h
  obtain ⟨S', W', rfl, h0', h1', h2'⟩ := g
  refine ⟨S * S', W * W', ?_, Int.mul_pos h0 h0', ?_, ?_⟩
  · rw [Rat.intCast_mul, Rat.intCast_mul]
    have du := ne_of h0
    have dv := ne_of h0'
    generalize (W : Rat) = a at *
    generalize (W' : Rat) = b at *
    grind
  · rw [Int.natAbs_mul]
    exact Nat.mul_le_mul h1 h1'
  · rw [Int.natAbs_mul, Int.natAbs_mul]
    refine Nat.le_trans (Nat.mul_le_mul h2 h2') ?_
    have e : W.natAbs * W'.natAbs * (M * M') = W.natAbs * M * (W'.natAbs * M') := by grind
    omega
theorem Sm.mono {N M N' M' : Nat} {v : Rat} (h : Sm N M v) (a : N ≤ N') (b : M ≤ M') : Sm N' M' v := by
  obtain ⟨S, W, rfl, h0, h1, h2⟩ := h
  exact ⟨S, W, rfl, h0, by omega, Nat.le_trans h2 (Nat.mul_le_mul_left _ b)⟩
theorem Sm.int {M : Nat} {n : Int} (h : n.natAbs ≤ M) : Sm 1 M (n : Rat) := ⟨n, 1, by
  rw [Rat.intCast_one]
  grind, by decide, by decide, by simpa using h⟩
theorem Sm.zero {M : Nat} : Sm 1 M 0 := Sm.int (n := 0) (by simp)
theorem Sm.self {v : Rat} {N M : Nat} (h1 : v.den ≤ N) (h2 : v.num.natAbs ≤ v.den * M) : Sm N M v := ⟨v.num, v.den, (self_div v).symm, den_pos v, by simpa using h1, by simpa using h2⟩
end Rq
/-! own: loops in one form; numbers that are small -/
namespace Mi
open PySem L2
def kItE (as : List A) (s : Sx) : Res (List D) := opt (asN as) s
theorem e_itE {ms : List Mv} {e : Env} {s : Sx} : mItE ms e s = (mArgs ms e s).bind kItE := rfl
theorem kItE_eq {as : List A} {s : Sx} : kItE as s = opt (asN as) s := rfl
def kItZ (as : List A) (s : Sx) : Res (List D) := opt (asP as) s
theorem e_itZ {ms : List Mv} {e : Env} {s : Sx} : mItZ ms e s = (mArgs ms e s).bind kItZ := rfl
theorem kItZ_eq {as : List A} {s : Sx} : kItZ as s = opt (asP as) s := rfl
theorem asN_t {ds : List D} : asN [.d (.tup ds)] = some (enD 0 ds) := rfl
theorem asN_l {ds : List D} : asN [.d (.lst ds)] = some (enD 0 ds) := rfl
theorem asP_tt {ds es : List D} : asP [.d (.tup ds), .d (.tup es)] = some (zpD ds es) := rfl
theorem asP_tl {ds es : List D} : asP [.d (.tup ds), .d (.lst es)] = some (zpD ds es) := rfl
theorem asP_lt {ds es : List D} : asP [.d (.lst ds), .d (.tup es)] = some (zpD ds es) := rfl
theorem asP_ll {ds es : List D} : asP [.d (.lst ds), .d (.lst es)] = some (zpD ds es) := rfl
def kLc2 (g : Gm) (tt : Mb) (mi1 : Mi') (g1 : Gm) (tt1 : Mb) (te : Mv) (vs vs1 : List Nat) (e : Env) (ds : List D) (s : Sx) : Res A := lcM2 g tt mi1 g1 tt1 te vs1 (wipeE e vs) ds [] s
theorem e_lc2 {mi : Mi'} {g : Gm} {tt : Mb} {mi1 : Mi'} {g1 : Gm} {tt1 : Mb} {te : Mv} {vs vs1 : List Nat} {e : Env} {s : Sx} : mLc2 mi g tt mi1 g1 tt1 te vs vs1 e s = (mi e s).bind (kLc2 g tt mi1 g1 tt1 te vs vs1 e) := rfl
theorem kLc2_eq {g : Gm} {tt : Mb} {mi1 : Mi'} {g1 : Gm} {tt1 : Mb} {te : Mv} {vs vs1 : List Nat} {e : Env} {ds : List D} {s : Sx} : kLc2 g tt mi1 g1 tt1 te vs vs1 e ds s = lcM2 g tt mi1 g1 tt1 te vs1 (wipeE e vs) ds [] s := rfl
theorem lcM2_nil {g : Gm} {tt : Mb} {mi1 : Mi'} {g1 : Gm} {tt1 : Mb} {te : Mv} {vs1 : List Nat} {e : Env} {acc : List D} {s : Sx} : lcM2 g tt mi1 g1 tt1 te vs1 e [] acc s = .ok (.own acc) s := rfl
theorem lcM2_cons {g : Gm} {tt : Mb} {mi1 : Mi'} {g1 : Gm} {tt1 : Mb} {te : Mv} {vs1 : List Nat} {e e1 : Env} {d : D} {ds acc acc1 ds1 : List D} {s s1 s2 s3 : Sx} (h1 : g d e = some e1) (h2 : tt e1 s = .ok true s1) (h3 : mi1 e1 s1 = .ok ds1 s2) (h4 : lcM g1 tt1 te (wipeE e1 vs1) ds1 acc s2 = .ok (.own acc1) s3) :
    lcM2 g tt mi1 g1 tt1 te vs1 e (d :: ds) acc s = lcM2 g tt mi1 g1 tt1 te vs1 e ds acc1 s3 := by
  rw [lcM2.eq_def]
  simp only [h1, h2, nox_ok, bind_ok, if_true, h3, h4]
/-- data made of a row and of its place -/
def mf {α : Type} (c : Nat → α → D) : Nat → List α → List D
  | _, [] => []
  | k, x :: xs => c k x :: mf c (k + 1) xs
section
variable {α : Type}
theorem mf_map {f : α → D} : ∀ {k : Nat} {xs : List α}, xs.map f = mf (fun _ x => f x) k xs
  | _, [] => rfl
  | k, x :: xs => by
    rw [List.map_cons, mf_map (k := k + 1)]
    rfl
theorem rng_cons {lo : Int} {n : Nat} : rngD lo (n + 1) = .int lo :: rngD (lo + 1) n := by
  unfold rngD
  rw [List.range_succ_eq_map, List.map_cons, List.map_map, show lo + ((0 : Nat) : Int) = lo by omega]
  congr 1
  refine List.map_congr_left fun i _ => ?_
  show D.int (lo + ((i + 1 : Nat) : Int)) = D.int (lo + 1 + (i : Nat))
  congr 1
  omega
theorem mf_rng {lo : Int} : ∀ {k : Nat} {xs : List α}, rngD (lo + (k : Nat)) xs.length = mf (fun i _ => .int (lo + (i : Nat))) k xs
  | _, [] => rfl
  | k, x :: xs => by
    rw [List.length_cons, rng_cons, show lo + (k : Nat) + 1 = lo + ((k + 1 : Nat) : Int) by omega, mf_rng (k := k + 1)]
    rfl
theorem mf_rng0 {xs : List α} : rngD 0 xs.length = mf (fun i _ => .int (i : Nat)) 0 xs := by
  have := mf_rng (lo := 0) (k := 0) (xs := xs)
  rw [show (0 : Int) + ((0 : Nat) : Int) = 0 by omega] at this
  rw [this]
  congr 1
  funext i _
  congr 1
  omega
theorem mf_rngR {lo : Int} {n : Nat} : rngD lo n = mf (fun i (_ : Nat) => .int (lo + (i : Nat))) 0 (List.range n) := by
  have := mf_rng (lo := lo) (k := 0) (xs := List.range n)
  rw [List.length_range, show lo + ((0 : Nat) : Int) = lo by omega] at this
  exact this
theorem mf_en {f : α → D} : ∀ {k : Nat} {xs : List α}, enD (k : Nat) (xs.map f) = mf (fun i x => .tup [.int (i : Nat), f x]) k xs
  | _, [] => rfl
  | k, x :: xs => by
    have ih := mf_en (f := f) (k := k + 1) (xs := xs)
    unfold enD at ih ⊢
    rw [List.map_cons, List.mapIdx_cons]
    show _ :: _ = D.tup [.int (k : Nat), f x] :: mf _ (k + 1) xs
    rw [← ih, show (k : Int) + ((0 : Nat) : Int) = (k : Nat) by omega]
    congr 1
    congr 1
    funext i d
    congr 2
    congr 1
    omega
theorem mf_en0 {f : α → D} {xs : List α} : enD 0 (xs.map f) = mf (fun i x => .tup [.int (i : Nat), f x]) 0 xs := mf_en (k := 0)
end
/-- how a loop's body may end -/
def GoA (I : Env → Sx → Prop) (P : Out → Prop) (o : Out) : Prop :=
  (∃ e s, (o = .nx e s ∨ o = .ct e s) ∧ I e s) ∨ (∃ e s, o = .bk e s ∧ P (.nx e s)) ∨ (∃ r s, o = .rt r s ∧ P (.rt r s)) ∨ ∃ k e s, o = .er k e s ∧ P (.er k e s)
section
variable {I : Env → Sx → Prop} {P : Out → Prop} {e : Env} {s : Sx}
theorem goA_nx (h : I e s) : GoA I P (.nx e s) := .inl ⟨e, s, .inl rfl, h⟩
theorem goA_ct (h : I e s) : GoA I P (.ct e s) := .inl ⟨e, s, .inr rfl, h⟩
theorem goA_bk (h : P (.nx e s)) : GoA I P (.bk e s) := .inr (.inl ⟨e, s, rfl, h⟩)
theorem goA_rt {r : D} (h : P (.rt r s)) : GoA I P (.rt r s) := .inr (.inr (.inl ⟨r, s, rfl, h⟩))
theorem goA_er {k : Ek} (h : P (.er k e s)) : GoA I P (.er k e s) := .inr (.inr (.inr ⟨k, e, s, rfl, h⟩))
end
theorem foAq {α : Type} {c : Nat → α → D} {g : Gm} {b : Ms} (P : Out → Prop) (I : List α → Env → Sx → Prop) {all : List α} : ∀ {xs pre : List α} {e : Env} {s : Sx}, pre ++ xs = all → I pre e s →
    (∀ pre x post e s, pre ++ x :: post = all → I pre e s → ∃ e1, g (c pre.length x) e = some e1 ∧ GoA (I (pre ++ [x])) P (b e1 s)) → (∀ e s, I all e s → P (.nx e s)) → P (forM g b (mf c pre.length xs) e s)
  | [], pre, e, s, hp, h, _, k => k e s (by rw [← hp, List.append_nil]; exact h)
  | x :: xs, pre, e, s, hp, h, st, k => by
    obtain ⟨e1, h1, h2⟩ := st pre x xs e s hp h
    have hp' : (pre ++ [x]) ++ xs = all := by rw [List.append_assoc]; exact hp
    have ih := fun e s hi => foAq (c := c) (g := g) (b := b) P I (xs := xs) (pre := pre ++ [x]) (e := e) (s := s) hp' hi st k
    rw [List.length_append] at ih
    show P (forM g b (c pre.length x :: mf c (pre.length + 1) xs) e s)
    unfold forM
    rw [h1]
    rcases h2 with ⟨e2, s2, h2, h3⟩ | ⟨e2, s2, h2, h3⟩ | ⟨r, s2, h2, h3⟩ | ⟨k, e2, s2, h2, h3⟩
    · rcases h2 with h2 | h2
      · simp only [h2]
        exact ih _ _ h3
      · simp only [h2]
        exact ih _ _ h3
    · simp only [h2]
      exact h3
    · simp only [h2]
      exact h3
    · simp only [h2]
      exact h3
/-- a loop over rows, by places -/
theorem foA {α : Type} {c : Nat → α → D} {g : Gm} {b : Ms} (P : Out → Prop) (I : List α → Env → Sx → Prop) {xs : List α} {e : Env} {s : Sx} (h : I [] e s)
    (st : ∀ pre x post e s, pre ++ x :: post = xs → I pre e s → ∃ e1, g (c pre.length x) e = some e1 ∧ GoA (I (pre ++ [x])) P (b e1 s)) (k : ∀ e s, I xs e s → P (.nx e s)) : P (forM g b (mf c 0 xs) e s) :=
  foAq P I (pre := []) rfl h st k
/-- for i in range(n), by the number of turns -/
theorem foN {lo : Int} {n : Nat} {g : Gm} {b : Ms} (P : Out → Prop) (I : Nat → Env → Sx → Prop) {e : Env} {s : Sx} (h : I 0 e s)
    (st : ∀ i e s, i < n → I i e s → ∃ e1, g (.int (lo + (i : Nat))) e = some e1 ∧ GoA (I (i + 1)) P (b e1 s)) (k : ∀ e s, I n e s → P (.nx e s)) : P (forM g b (rngD lo n) e s) := by
  rw [mf_rngR]
  refine foA P (fun pre e s => I pre.length e s) h (fun pre x post e s hp hi => ?_) (fun e s hi => k e s (by rw [List.length_range] at hi; exact hi))
  have hl := pos_lt hp
  rw [List.length_range] at hl
  obtain ⟨e1, h1, h2⟩ := st pre.length e s hl hi
  refine ⟨e1, h1, ?_⟩
  rw [List.length_append]
  exact h2
theorem foN0 {n : Nat} {g : Gm} {b : Ms} (P : Out → Prop) (I : Nat → Env → Sx → Prop) {e : Env} {s : Sx} (h : I 0 e s)
    (st : ∀ i e s, i < n → I i e s → ∃ e1, g (.int (i : Nat)) e = some e1 ∧ GoA (I (i + 1)) P (b e1 s)) (k : ∀ e s, I n e s → P (.nx e s)) : P (forM g b (rngD 0 n) e s) :=
  foN P I h (fun i e s hi h => by rw [Int.zero_add]; exact st i e s hi h) k
theorem sp_at {α : Type} {pre post : List α} {x : α} {xs : List α} {f : α → D} (h : pre ++ x :: post = xs) : atI (xs.map f) (pre.length : Nat) = some (f x) := by
  rw [atI_nat', ← h, List.getElem?_map, List.getElem?_append_right (Nat.le_refl _), Nat.sub_self]
  rfl
theorem sp_at1 {α : Type} {pre post : List α} {x y : α} {xs : List α} {f : α → D} (h : pre ++ x :: y :: post = xs) : atI (xs.map f) ((pre.length : Nat) + 1) = some (f y) := by
  have := sp_at (pre := pre ++ [x]) (post := post) (x := y) (xs := xs) (f := f) (by rw [← h, List.append_assoc]; rfl)
  rw [List.length_append] at this
  exact this
theorem sp_len {α : Type} {pre post : List α} {x : α} {xs : List α} (h : pre ++ x :: post = xs) : xs.length = pre.length + 1 + post.length := by
  rw [← h, List.length_append, List.length_cons]
  omega
theorem pick_at {α : Type} {xs : List α} {r : Int} (h0 : 0 ≤ r) (h1 : r < (xs.length : Nat)) : ∃ pre x post, pre ++ x :: post = xs ∧ r = (pre.length : Nat) := by
  have hl : r.toNat < xs.length := by omega
  refine ⟨xs.take r.toNat, xs[r.toNat], xs.drop (r.toNat + 1), ?_, by rw [List.length_take]; omega⟩
  exact (split_idx (List.getElem?_eq_getElem hl)).symm
theorem memD_int {v : Int} {L : List Int} : memD (.int v) (L.map .int) = true ↔ v ∈ L := by
  unfold memD
  rw [List.any_map, List.any_eq_true]
  constructor
  · rintro ⟨x, hx, h⟩
    have h : eqV (.int x) (.int v) = true := h
    have e : x = v := by simpa [eqV] using h
    rw [← e]
    exact hx
  · intro h
    exact ⟨v, h, show eqV (.int v) (.int v) = true by simp [eqV]⟩
theorem flat_ints {v : Int} {L : List Int} : (flatD (.int v) && (L.map D.int).all flatD) = true := by
  rw [List.all_map]
  exact List.all_eq_true.mpr fun _ _ => rfl
theorem sorted_lows {L : List Int} (nd : L.Nodup) (h0 : 0 ∈ L) (hp : ∀ v ∈ L, 0 ≤ v) : ∃ r, L.mergeSort (fun x y => decide (x ≤ y)) = 0 :: r ∧ (0 :: r).Pairwise (fun a b => a < b) ∧ (∀ v ∈ (0 :: r), v ∈ L) ∧ (0 :: r).length = L.length := by
  have p := List.mergeSort_perm L (fun x y => decide (x ≤ y))
  have s := List.pairwise_mergeSort (le := fun x y : Int => decide (x ≤ y)) (fun a b c h1 h2 => by
    rw [decide_eq_true_eq] at *
    omega) (fun a b => by
    rw [Bool.or_eq_true, decide_eq_true_eq, decide_eq_true_eq]
    omega) L
  have nd2 : (L.mergeSort fun x y => decide (x ≤ y)).Nodup := p.nodup_iff.mpr nd
  have pw : (L.mergeSort fun x y => decide (x ≤ y)).Pairwise (fun a b => a < b) := by
    refine (List.Pairwise.and s nd2).imp fun {a b} h => ?_
    have := of_decide_eq_true h.1
    have := h.2
    omega
  have hm : (0 : Int) ∈ L.mergeSort fun x y => decide (x ≤ y) := p.mem_iff.mpr h0
  cases e : L.mergeSort fun x y => decide (x ≤ y) with
  | nil => rw [e] at hm; cases hm
  | cons x r =>
    rw [e] at hm pw p
    have x0 : x = 0 := by
      have hx := hp x (p.mem_iff.mp List.mem_cons_self)
      rcases List.mem_cons.mp hm with h | h
      · exact h.symm
      · have := (List.pairwise_cons.mp pw).1 0 h
        omega
    subst x0
    exact ⟨r, rfl, pw, fun v hv => p.mem_iff.mp hv, p.length_eq⟩
theorem sorted3 {a b c : Int} : ∃ x y z, dSorted [.lst [.int a, .int b, .int c]] = some (.own [.int x, .int y, .int z]) ∧ x ≤ y ∧ y ≤ z ∧ (∀ v ∈ [x, y, z], v = a ∨ v = b ∨ v = c) := by
  have p := List.mergeSort_perm [a, b, c] (fun x y => decide (x ≤ y))
  have s := List.pairwise_mergeSort (le := fun x y : Int => decide (x ≤ y)) (fun a b c h1 h2 => by
    rw [decide_eq_true_eq] at *
    omega) (fun a b => by
    rw [Bool.or_eq_true, decide_eq_true_eq, decide_eq_true_eq]
    omega) [a, b, c]
  have e := dSorted_of (ns := [a, b, c])
  generalize hL : [a, b, c].mergeSort (fun x y => decide (x ≤ y)) = L at *
  have hl := p.length_eq
  match L, hl with
  | [x, y, z], _ =>
    refine ⟨x, y, z, e, ?_, ?_, fun v hv => by simpa using p.mem_iff.mp hv⟩
    · simpa using (List.pairwise_cons.mp s).1 y (by simp)
    · simpa using (List.pairwise_cons.mp (List.pairwise_cons.mp s).2).1 z (by simp)
/-! small numbers -/
theorem sm_n {i : Int} (h : i.natAbs < 2 ^ 8000) : sm i = true := decide_eq_true h
theorem mulOk_s {i j : Int} (h : i.natAbs < 2 ^ 8000) (g : j.natAbs < 2 ^ 8000) : mulOk i j = true := by
  unfold mulOk
  rw [sm_n h, sm_n g, Bool.and_self, Bool.or_true]
theorem mulOk_l {i j : Int} (h : i.natAbs < 18446744073709551616) : mulOk i j = true := by
  unfold mulOk
  rw [show decide (i.natAbs < 2 ^ 64) = true from decide_eq_true h, Bool.true_or, Bool.true_or]
theorem divq {n q : Int} (h0 : 0 < q) (h : q.natAbs < 2 ^ 8000) : (if (q != 0 && sm q) = true then some (A.d (D.int (fdv n q))) else none) = some (A.d (D.int (n / q))) := by
  rw [sm_n h, Bool.and_true, if_pos (by rw [bne_iff_ne]; omega), fdv_pos (by omega)]
theorem modq {n q : Int} (h0 : 0 < q) : (if (q != 0) = true then some (A.d (D.int (fmd n q))) else none) = some (A.d (D.int (n % q))) := by
  rw [if_pos (by rw [bne_iff_ne]; omega), fmd_pos (by omega)]
theorem gcd_pos {p w : Int} (h : 0 < w) : 0 < gcdI p w := by
  unfold gcdI
  have z : 0 < Nat.gcd p.natAbs w.natAbs := Nat.gcd_pos_of_pos_right _ (by omega)
  omega
theorem gcd_le {p w : Int} (h : 0 < w) : gcdI p w ≤ w := by
  unfold gcdI
  have z : Nat.gcd p.natAbs w.natAbs ≤ w.natAbs := Nat.le_of_dvd (by omega) (Nat.gcd_dvd_right _ _)
  omega
/-- a fraction as data -/
def fq (v : Rat) : D := .tup [.int v.num, .int (v.den : Int)]
theorem fq_div {p w : Int} (h : 0 < w) : D.tup [.int (p / gcdI p w), .int (w / gcdI p w)] = fq ((p : Rat) / (w : Rat)) := by
  unfold fq gcdI
  rw [Rq.num_div h, Rq.den_div h]
theorem lay_fq {v : Rat} {n : Nat} : lay (fq v) (n + 1) = true := by
  unfold fq
  rw [lay_tup, layL_cons, layL_cons, layL_nil, lay_int, lay_int]
  rfl
theorem pl_fq {v : Rat} : pl (fq v) = true := by
  unfold fq
  rw [pl_t, plL_c, plL_c, plL_n, pl_i, pl_i]
  rfl
/-- small fractions -/
structure Bd (v : Rat) : Prop where
  n : v.num.natAbs < 2 ^ 3900
  d : v.den < 2 ^ 3900
theorem p2_mul {a b : Nat} (h : a < 2 ^ 3900) (g : b < 2 ^ 3900) : a * b < 2 ^ 7800 := by
  have := Nat.mul_lt_mul'' h g
  rwa [← Nat.pow_add] at this
theorem p2_78 {a : Nat} (h : a < 2 ^ 7800) : a < 2 ^ 8000 := Nat.lt_trans h (Nat.pow_lt_pow_right (by decide) (by decide))
theorem p2_39 {a : Nat} (h : a < 2 ^ 3900) : a < 2 ^ 8000 := Nat.lt_trans h (Nat.pow_lt_pow_right (by decide) (by decide))
theorem bd_sm {N M : Nat} {v : Rat} (h : Rq.Sm N M v) (hN : N < 2 ^ 3900) (hM : N * M < 2 ^ 3900) : Bd v := ⟨Nat.lt_of_le_of_lt h.num hM, Nat.lt_of_le_of_lt h.den hN⟩
end Mi
/-! own: one-step equations, further -/
namespace Mi
open PySem L2
variable {α β : Type} {e : Env} {s : Sx} {m m1 m2 m3 : Mv} {t t1 t2 : Mb} {i j k l n a b d : Nat} {ms : List Mv} {bs b1 b2 : Ms}
def oseqO (o : Out) (k : Env → Sx → OutO) : OutO := match o with
  | .nx e s => k e s
  | .er x e s => .er x e s
  | _ => .bad
theorem e_seqO {b2 : Env → Sx → OutO} : mSeqO bs b2 e s = oseqO (bs e s) b2 := by unfold mSeqO oseqO; cases bs e s <;> rfl
theorem oseqO_nx {k : Env → Sx → OutO} : oseqO (.nx e s) k = k e s := rfl
theorem oseqO_er {x : Ek} {k : Env → Sx → OutO} : oseqO (.er x e s) k = .er x e s := rfl
def kRetO (a b : Nat) (x y z : Option (Option A)) (s : Sx) : OutO := match x, y, z with
  | some (some (.own xs)), some (some (.own ys)), some (some (.d z)) => if a = b then .bad else .rt xs ys z s
  | _, _, _ => .bad
theorem e_retO : mRetO a b d e s = kRetO a b e[a]? e[b]? e[d]? s := rfl
theorem kRetO_eq {xs ys : List D} {z : D} : kRetO a b (some (some (.own xs))) (some (some (.own ys))) (some (some (.d z))) s = if a = b then .bad else .rt xs ys z s := rfl
def doutO (o : OutO) : ResO := match o with
  | .rt xs ys z s' => .ok xs ys z s'
  | .er k _ s' => .er k s'
  | .bad => .bad
theorem e_defO {m : Env → Sx → OutO} {ds : List D} : mDefO n m s ds = doutO (m (ds.map (fun d => some (.d d)) ++ List.replicate (n - ds.length) none) s) := rfl
theorem doutO_rt {xs ys : List D} {z : D} : doutO (.rt xs ys z s) = .ok xs ys z s := rfl
theorem doutO_er {x : Ek} : doutO (.er x e s) = .er x s := rfl
def kAsgO2 (i j l : Nat) (e : Env) (r : ResO) : Out := match r with
  | .ok xs ys z s2 => .nx (((e.set i (some (.own xs))).set j (some (.d (.lst ys)))).set l (some (.d z))) s2
  | .er k s2 => .er k e s2
  | .bad => .bad
def kAsgO1 (m : Sx → List D → ResO) (i j l : Nat) (e : Env) (o : Option (List D)) (s : Sx) : Out := match o with
  | some ds => kAsgO2 i j l e (m s ds)
  | none => .bad
def kAsgO (m : Sx → List D → ResO) (i j l : Nat) (e : Env) (as : List A) (s : Sx) : Out := kAsgO1 m i j l e (toDs as) s
theorem e_asgO {m : Sx → List D → ResO} : mAsgO m ms i j l e s = rout (mArgs ms e s) e (kAsgO m i j l) := by
  unfold mAsgO rout
  cases mArgs ms e s with
  | ok as s1 =>
    show (match toDs as with | some ds => (match m s1 ds with | .ok xs ys z s2 => Out.nx (((e.set i (some (.own xs))).set j (some (.d (.lst ys)))).set l (some (.d z))) s2 | .er k s2 => .er k e s2 | .bad => .bad) | none => .bad) = kAsgO1 m i j l e (toDs as) s1
    cases toDs as with
    | none => rfl
    | some ds =>
      show _ = kAsgO2 i j l e (m s1 ds)
      dsimp only
      cases m s1 ds <;> rfl
  | er k s1 => rfl
  | bad => rfl
theorem kAsgO_eq {m : Sx → List D → ResO} {as : List A} : kAsgO m i j l e as s = kAsgO1 m i j l e (toDs as) s := rfl
theorem kAsgO1_eq {m : Sx → List D → ResO} {ds : List D} : kAsgO1 m i j l e (some ds) s = kAsgO2 i j l e (m s ds) := rfl
theorem kAsgO2_ok {xs ys : List D} {z : D} : kAsgO2 i j l e (.ok xs ys z s) = .nx (((e.set i (some (.own xs))).set j (some (.d (.lst ys)))).set l (some (.d z))) s := rfl
theorem kAsgO2_er {x : Ek} : kAsgO2 i j l e (.er x s) = .er x e s := rfl
def kFnN2 (m : Sx → List D → Res D) (ds : List D) (s : Sx) : Res A := (nox (m s ds)).bind kD
def kFnN (m : Sx → List D → Res D) (as : List A) (s : Sx) : Res A := (opt (toDs as) s).bind (kFnN2 m)
theorem e_fnN {m : Sx → List D → Res D} : mFnN m ms e s = (mArgs ms e s).bind (kFnN m) := rfl
theorem kFnN_eq {m : Sx → List D → Res D} {as : List A} : kFnN m as s = (opt (toDs as) s).bind (kFnN2 m) := rfl
theorem kFnN2_eq {m : Sx → List D → Res D} {ds : List D} : kFnN2 m ds s = (nox (m s ds)).bind kD := rfl
def kIt2 (x : A) (s : Sx) : Res (List D) := opt (asX2 x) s
theorem e_it2 : mIt2 m e s = (m e s).bind kIt2 := rfl
theorem kIt2_eq {x : A} : kIt2 x s = opt (asX2 x) s := rfl
theorem e_noS : noS bs e s = noO (bs e s) := rfl
theorem noO_nx : noO (.nx e s) = .nx e s := rfl
theorem noO_rt {d : D} : noO (.rt d s) = .rt d s := rfl
/-! x[k] = v -/
def kPut4 (i : Nat) (xs : List D) (d : D) (o : Option Nat) (e : Env) (s : Sx) : Out := match o with
  | some j => .nx (e.set i (some (.own (xs.set j d)))) s
  | none => .bad
def kPut3 (i : Nat) (xs : List D) (d : D) (e : Env) (k : A) (s : Sx) : Out := match asI k with
  | some k => kPut4 i xs d (ixN xs.length k) e s
  | none => .bad
def kPut2 (i : Nat) (mk : Mv) (d : D) (o : Option (Option A)) (e : Env) (s : Sx) : Out := match o with
  | some (some (.own xs)) => rout (mk e s) e (kPut3 i xs d)
  | _ => .bad
def kPut1 (i : Nat) (mk : Mv) (e : Env) (o : Option D) (s : Sx) : Out := match o with
  | none => .bad
  | some d => kPut2 i mk d e[i]? e s
def kPut (i : Nat) (mk : Mv) (e : Env) (a : A) (s : Sx) : Out := kPut1 i mk e a.toD s
theorem kPut_eq' {mk : Mv} {a : A} : kPut i mk e a s = (match a.toD with
  | none => .bad
  | some d => match e[i]? with
    | some (some (.own xs)) => inE mk (fun e k s2 => match asI k with
      | some k => match ixN xs.length k with
        | some j => .nx (e.set i (some (.own (xs.set j d)))) s2
        | none => .bad
      | none => .bad) e s
    | _ => .bad) := by
  show kPut1 i mk e a.toD s = _
  cases a.toD with
  | none => rfl
  | some d =>
    show kPut2 i mk d e[i]? e s = _
    cases e[i]? with
    | none => rfl
    | some o =>
      cases o with
      | none => rfl
      | some a =>
        cases a with
        | own xs =>
          show rout (mk e s) e (kPut3 i xs d) = _
          unfold inE rout
          cases mk e s with
          | ok k s2 =>
            show kPut3 i xs d e k s2 = (match asI k with
              | some k => (match ixN xs.length k with
                | some j => .nx (e.set i (some (.own (xs.set j d)))) s2
                | none => .bad)
              | none => .bad)
            unfold kPut3
            cases asI k with
            | none => rfl
            | some k =>
              show kPut4 i xs d (ixN xs.length k) e s2 = (match ixN xs.length k with
                | some j => .nx (e.set i (some (.own (xs.set j d)))) s2
                | none => .bad)
              unfold kPut4
              cases ixN xs.length k <;> rfl
          | er x s2 => rfl
          | bad => rfl
        | _ => rfl
theorem e_put {mk : Mv} : mPut i mk m e s = rout (m e s) e (kPut i mk) := by
  unfold mPut inE rout
  cases m e s with
  | ok a s' => exact kPut_eq'.symm
  | er x s' => rfl
  | bad => rfl
theorem kPut_d {mk : Mv} {v : D} : kPut i mk e (.d v) s = kPut2 i mk v e[i]? e s := rfl
theorem kPut2_own {mk : Mv} {v : D} {xs : List D} : kPut2 i mk v (some (some (.own xs))) e s = rout (mk e s) e (kPut3 i xs v) := rfl
theorem kPut3_i {xs : List D} {v : D} {k : Int} : kPut3 i xs v e (.d (.int k)) s = kPut4 i xs v (ixN xs.length k) e s := rfl
theorem kPut4_eq {xs : List D} {v : D} : kPut4 i xs v (some j) e s = .nx (e.set i (some (.own (xs.set j v)))) s := rfl
/-! while -/
theorem wh_step {t : Mb} {b : Ms} {n : Nat} {e : Mi.Env} {s s1 : Sx} (h : t e s = .ok false s1) : whM t b (n + 1) e s = .nx e s1 := by
  unfold whM inE
  rw [h]
  rfl
theorem wh_go {t : Mb} {b : Ms} {n : Nat} {e e2 : Mi.Env} {s s1 s2 : Sx} (h : t e s = .ok true s1) (h2 : b e s1 = .nx e2 s2) : whM t b (n + 1) e s = whM t b n e2 s2 := by
  simp only [whM, inE, h, h2, if_true]
end Mi
/-! own: evaluation of dicts by data, and of sorted rows -/
namespace Mi
open PySem L2
section
variable {κ β : Type} [DecidableEq κ]
theorem getG_nil {k : κ} : getG ([] : List (κ × β)) k = none := rfl
theorem getG_cons {kv : κ × β} {kvs : List (κ × β)} {k : κ} : getG (kv :: kvs) k = if kv.1 = k then some kv.2 else getG kvs k := by
  unfold getG
  rw [List.find?_cons]
  by_cases h : kv.1 = k
  · rw [if_pos h, decide_eq_true h]; rfl
  · rw [if_neg h, decide_eq_false h]
theorem getG_app {kvs more : List (κ × β)} {k : κ} : getG (kvs ++ more) k = (getG kvs k).or (getG more k) := by
  induction kvs with
  | nil => rfl
  | cons x xs ih =>
    rw [List.cons_append, getG_cons, getG_cons, ih]
    split <;> rfl
theorem getG_repl {kvs : List (κ × β)} {k k' : κ} {v : β} : getG (kvs.map fun kv => if kv.1 = k then (kv.1, v) else kv) k' = if k = k' then (getG kvs k').map (fun _ => v) else getG kvs k' := by
  induction kvs with
  | nil => rw [List.map_nil, getG_nil]; split <;> rfl
  | cons x xs ih =>
    rw [List.map_cons, getG_cons, getG_cons, ih]
    by_cases h : x.1 = k
    · rw [if_pos h]
      dsimp only
      by_cases h2 : x.1 = k'
      · rw [if_pos h2, if_pos h2, if_pos (h.symm.trans h2)]; rfl
      · rw [if_neg h2, if_neg h2]
    · rw [if_neg h]
      by_cases h2 : x.1 = k'
      · rw [if_pos h2, if_pos h2, if_neg (fun z => h (h2.trans z.symm))]
      · rw [if_neg h2, if_neg h2]
theorem getG_any {kvs : List (κ × β)} {k : κ} : (kvs.any fun kv => decide (kv.1 = k)) = (getG kvs k).isSome := by
  induction kvs with
  | nil => rfl
  | cons x xs ih =>
    rw [List.any_cons, getG_cons, ih]
    by_cases h : x.1 = k
    · rw [if_pos h, decide_eq_true h]; rfl
    · rw [if_neg h, decide_eq_false h]; rfl
theorem getG_put {kvs : List (κ × β)} {k k' : κ} {v : β} : getG (putG kvs k v) k' = if k = k' then some v else getG kvs k' := by
  unfold putG
  rw [getG_any]
  cases h : getG kvs k with
  | none =>
    rw [if_neg (by simp), getG_app, getG_cons, getG_nil]
    by_cases h2 : k = k'
    · subst h2
      rw [h, if_pos rfl]
      simp
    · rw [if_neg h2, if_neg h2]
      cases getG kvs k' <;> rfl
  | some d =>
    rw [if_pos (by simp), getG_repl]
    by_cases h2 : k = k'
    · subst h2
      rw [if_pos rfl, if_pos rfl, h]
      rfl
    · rw [if_neg h2, if_neg h2]
/-- rows with keys of their own, laid one after another -/
theorem getG_foldl {α : Type} {kf : α → κ} {vf : α → β} {k : κ} : ∀ {xs : List α} {acc : List (κ × β)}, xs.Pairwise (fun a b => kf a ≠ kf b) → getG (xs.foldl (fun acc x => putG acc (kf x) (vf x)) acc) k = match xs.find? (fun x => decide (kf x = k)) with
    | some x => some (vf x)
    | none => getG acc k
  | [], acc, _ => rfl
  | x :: xs, acc, h => by
    rw [List.pairwise_cons] at h
    rw [List.foldl_cons, getG_foldl h.2, List.find?_cons]
    by_cases e : kf x = k
    · rw [decide_eq_true e]
      have : xs.find? (fun x => decide (kf x = k)) = none := List.find?_eq_none.mpr fun y hy => by
        rw [decide_eq_true_eq]
        exact fun z => h.1 y hy (e.trans z.symm)
      rw [this]
      dsimp only
      rw [getG_put, if_pos e]
    · rw [decide_eq_false e]
      dsimp only
      cases q : List.find? (fun x => decide (kf x = k)) xs with
      | some y => rfl
      | none =>
        dsimp only
        rw [getG_put, if_neg e]
end
section
variable {e : Env} {s s1 s2 : Sx} {i : Nat} {o : DO} {mk md m : Mv} {y x : A}
theorem dslot_od (h : e[i]? = some (some (.od o))) : dslot e i = some o := by
  unfold dslot
  rw [h]
theorem e_dIn {neg : Bool} {r : Option D} (h : dslot e i = some o) (h2 : mk e s = .ok y s1) (h3 : o.get y.v = some r) : mDIn neg i mk e s = .ok (.d (.bl (if neg = true then !r.isSome else r.isSome))) s1 := by
  unfold mDIn
  rw [h]
  dsimp only
  rw [h2, bind_ok, h3]
theorem e_dGet {d : D} (h : dslot e i = some o) (h2 : mk e s = .ok y s1) (h3 : o.get y.v = some (some d)) : mDGet i mk e s = .ok (.d d) s1 := by
  unfold mDGet
  rw [h]
  dsimp only
  rw [h2, bind_ok, h3]
theorem e_dGetV {d : D} (h : md e s = .ok (.od o) s1) (h2 : mk e s1 = .ok y s2) (h3 : o.get y.v = some (some d)) : mDGetV md mk e s = .ok (.d d) s2 := by
  unfold mDGetV
  rw [h, bind_ok, h2, bind_ok]
  dsimp only
  rw [h3]
theorem e_disp {ms : List (Mv × Mv)} {ps : List (Key × D)} (h : mPairs ms e s = .ok ps s1) (hl : ps.length ≤ 15) : mDisp ms e s = .ok (.od (.k (mergeG [] ps))) s1 := by
  unfold mDisp
  rw [h, bind_ok, if_pos hl]
theorem e_pairs0 : mPairs [] e s = .ok [] s := rfl
theorem e_pairs {mv : Mv} {ms : List (Mv × Mv)} {k : Key} {d : D} {z : A} {ps : List (Key × D)} {s3 : Sx} (h : mk e s = .ok y s1) (hk : kyD y.v = some k) (h2 : mv e s1 = .ok z s2) (hd : z.toD = some d) (h3 : mPairs ms e s2 = .ok ps s3) :
    mPairs ((mk, mv) :: ms) e s = .ok ((k, d) :: ps) s3 := by
  unfold mPairs
  rw [h, bind_ok, h2, bind_ok, hk, hd]
  dsimp only
  rw [h3]
  rfl
theorem dcM_ma {α : Type} {c : α → D} {g : Gm} {tk tv : Mv} {kf : α → Key} {vf : α → D} : ∀ {xs : List α} {acc : List (Key × D)}, (∀ x ∈ xs, ∃ e1 a b, g (c x) e = some e1 ∧ tk e1 s = .ok a s ∧ kyD a.v = some (kf x) ∧ tv e1 s = .ok b s ∧ b.toD = some (vf x)) → acc.length + xs.length ≤ 1000000 →
    dcM g mYes tk tv e (xs.map c) acc s = .ok (.od (.k (xs.foldl (fun acc x => putG acc (kf x) (vf x)) acc))) s
  | [], acc, _, _ => rfl
  | x :: xs, acc, h, hl => by
    obtain ⟨e1, a, b, h1, h2, h3, h4, h5⟩ := h x List.mem_cons_self
    rw [List.length_cons] at hl
    rw [List.map_cons, dcM, h1]
    dsimp only
    show ((nox (Res.ok true s)).bind fun k s1 => _) = _
    rw [nox_ok, bind_ok, if_pos rfl, h2, nox_ok, bind_ok, h4, nox_ok, bind_ok, h3, h5]
    dsimp only
    rw [if_pos (by omega), List.foldl_cons]
    refine dcM_ma (fun y hy => h y (List.mem_cons_of_mem _ hy)) ?_
    have := putG_len acc (kf x) (vf x)
    omega
theorem e_dc {mi : Mi'} {g : Gm} {tt : Mb} {tk tv : Mv} {vs : List Nat} : mDc mi g tt tk tv vs e s = (mi e s).bind fun ds s1 => dcM g tt tk tv (wipeE e vs) ds [] s1 := rfl
theorem kSet_od : kSet i e (.od o) s = .nx (e.set i (some (.od o))) s := rfl
end
end Mi
namespace F52
open PySem L2 Mi
local macro_rules | `(tactic| walk_at "ev") => `(tactic| simp -implicitDefEqProofs only [rout_ok, rout_er, oseq_nx, oseq_rt, oseq_bk, oseq_ct, oseq_er, e_seq, e_nil, e_break, e_cont, e_raise, e_retN, kDrop, e_drop, kRet, e_ret, e_cond, kCond_t, kCond_f, e_set, kSet_d, kSet_own, e_asg, kAsg_d, kAsg_own, kAsg2_some, e_par, kPar_d, e_par3, kPar3_d, e_for, kFor, e_c, e_var, slot_eq, slotO_d, slotO_own, opt_none, opt_some, e_bin, kBin_eq, kBin2_eq, e_un, kUn_eq, e_args0, e_args, kArg_eq, kArg2_eq, e_call, kCall_eq, e_fn, kFn_eq, kFn2_eq, kD_eq, e_fnB, kFnB_eq, e_bool, kBool_b, e_and, kAnd_t, kAnd_f, e_or, kOr_t, kOr_f, e_not, kNot_eq, e_andV, kAndV_b, kAndV_t, kAndV_f, e_orV, kOrV_b, kOrV_t, kOrV_f, e_notV, kNotV_b, e_if, kIf_t, kIf_f, e_tup, kTup_eq, kTup2_eq, e_lst, kLst_eq, kLst2_eq, e_it, kIt_eq, e_r1, kR1_eq, e_r2, kR2_eq, e_q, kQ_eq, e_lc, kLc_eq, e_no, e_part, kPart_i, e_sl, kSl_eq, kSl2_eq, kSl3_eq, e_chain, kCh_eq, kCh2_eq, kCh3_b, kCh4_t, kCh4_f, kCh5_eq, e_app, kApp0_own, kApp_d, kApp_own, e_frz, kFrz_own, kFrz_d, e_aug, kAug0_d, kAug_d, e_def, dout_nx, dout_rt, dout_er, e_try, tTry_nx, tTry_rt, tTry_er, tOut_rt, tOut_nx, tOut_ct, e_told, kTold_e, bind_ok, bind_er, bind_bad, nox_ok, A.v, A.toD, toDs, asX, asR1_i, asR2_i, dTy, D.ty, dRel, dLe, dLt, dGt, dGe, dLtX, dLen, dAdd, dSub, dMod, dDiv, dMulX, dIx, dSl, dTuple, dList, isi_int_tup, isi_int_lst, isi_int_int, isi_int_str, isi_int_bl, isi_int_non, isi_bool_tup, isi_bool_lst, isi_bool_int, isi_bool_str, isi_bool_bl, isi_bool_non, isi_str_tup, isi_str_lst, isi_str_int, isi_str_str, isi_str_bl, isi_str_non, isi_tuple_tup, isi_tuple_lst, isi_tuple_int, isi_tuple_str, isi_tuple_bl, isi_tuple_non, isi_list_tup, isi_list_lst, isi_list_int, isi_list_str, isi_list_bl, isi_list_non, dIsB, dIsN, D.isNon, dNeg, dMax2, dMin2, dAbs, gN, gT, gsC, gsN, wipeE, blankE, lend, D.scal, List.map_cons, List.map_nil, List.length_cons, List.length_nil, List.cons_append, List.nil_append, List.getElem?_cons_zero, List.getElem?_cons_succ, List.set_cons_zero, List.set_cons_succ, List.replicate, Nat.reduceAdd, Nat.reduceSub, if_true, if_false, Bool.false_eq_true, reduceIte, decide_true, decide_false, String.reduceEq, reduceCtorEq, Int.reduceLE, Int.reduceLT, Int.reduceAdd, Int.reduceSub, Int.reduceMul, Int.reduceNeg, Int.reduceToNat, Int.reduceBNe, Int.reduceBEq, dInX, dIn, Nat.reduceLeDiff, Nat.reduceLT, Bool.not_true, Bool.not_false, Int.cast_ofNat_Int, Bool.and_true, Bool.true_and, Bool.and_false, Bool.false_and, and_self, and_true, true_and, lay_tup, lay_lst, lay_int, lay_str, lay_bl, lay_non, layL_nil, layL_cons, dEq_int, dEq_str, List.length_map, List.length_range, Int.reduceEq, bb_tt, bb_tf, bb_ft, bb_ff, nm_OR, nm_MA, nm_NT, nm_RE, nm_TM, eq_self, at0, at1, at2, at3, Option.map_some])
theorem ev_mixed {c t : Int} {s : Sx} : ∃ r, m__law_mixed s [.int c, .int t] = .ok (.int r) s := by
  unfold m__law_mixed b__law_mixed
  have p61 : dPow (D.int 2) (D.int 61) = some (.d (.int 2305843009213693952)) := rfl
  repeat (first | rw [if_pos (mulOk_r (by decide))] | simp -implicitDefEqProofs only [p61, dXor, dShr] | walk_at "ev")
  exact ⟨_, rfl⟩
theorem ev_draw {d : DS} {b : Int} (hl : 0 < d.cs.length) (h64 : d.cs.length ≤ 64) (h0 : 0 < b) (hb : b ≤ 1000000000000000000000000) : ∃ r d', m__law_draw (some d) [.drs, .int b] = .ok (.int r) (some d') ∧ 0 ≤ r ∧ r < b ∧ d'.cs = d.cs := by
  have sb : sm b = true := by
    unfold sm
    rw [decide_eq_true_eq]
    exact Nat.lt_of_le_of_lt (show b.natAbs ≤ 1000000000000000000000000 by omega) (by decide +kernel)
  have jb : (b != 0) = true := by
    rw [bne_iff_ne]
    omega
  have lb : ((((d.cs.length : Nat) : Int)) != 0) = true := by
    rw [bne_iff_ne]
    omega
  have p18 : dPow (D.int 10) (D.int 18) = some (.d (.int 1000000000000000000)) := rfl
  have g : mDrsGet 0 2 3 4 [some (.d .drs), some (.d (.int b)), none, none, none, none] (some d) = .nx [some (.d .drs), some (.d (.int b)), some (.d (.int d.t)), some (.d (.int d.l)), some (.d (.lst (d.cs.map .int))), none] (some d) := by
    show (if d.cs.length ≤ 1000000 then _ else _) = _
    rw [if_pos (by omega)]
    rfl
  have cc : ∃ c, atI (List.map D.int d.cs) (fmd d.t d.cs.length) = some (.int c) := by
    obtain ⟨f0, f1⟩ := fmd_nn (i := d.t) (j := (d.cs.length : Int)) (by omega)
    have e : fmd d.t d.cs.length = ((fmd d.t d.cs.length).toNat : Int) := by omega
    rw [e, atI_nat', List.getElem?_map, List.getElem?_eq_getElem (by omega)]
    exact ⟨_, rfl⟩
  have fin : ∀ (t l : Int) (o : Option A), ∃ r d', dout (oseq (mDrsPut 0 false (mVar 2) [some (.d .drs), some (.d (.int b)), some (.d (.int t)), some (.d (.int l)), some (.d (.lst (d.cs.map .int))), o] (some d)) (mSeq (mDrsPut 0 true (mBin dDiv (mVar 3) (mVar 1))) (mRet (mBin dMod (mVar 3) (mVar 1))))) = .ok (.int r) (some d') ∧ 0 ≤ r ∧ r < b ∧ d'.cs = d.cs := fun t l o => by
    refine ⟨fmd l b, ⟨t, fdv l b, d.cs⟩, ?_, (fmd_nn h0).1, (fmd_nn h0).2, rfl⟩
    have q1 : mDrsPut 0 false (mVar 2) [some (.d .drs), some (.d (.int b)), some (.d (.int t)), some (.d (.int l)), some (.d (.lst (d.cs.map .int))), o] (some d) = .nx [some (.d .drs), some (.d (.int b)), some (.d (.int t)), some (.d (.int l)), some (.d (.lst (d.cs.map .int))), o] (some ⟨t, d.l, d.cs⟩) := rfl
    have q2 : mDrsPut 0 true (mBin dDiv (mVar 3) (mVar 1)) [some (.d .drs), some (.d (.int b)), some (.d (.int t)), some (.d (.int l)), some (.d (.lst (d.cs.map .int))), o] (some ⟨t, d.l, d.cs⟩) = .nx [some (.d .drs), some (.d (.int b)), some (.d (.int t)), some (.d (.int l)), some (.d (.lst (d.cs.map .int))), o] (some ⟨t, fdv l b, d.cs⟩) := by
      unfold mDrsPut inE
      walk_at "ev"
      rw [jb, sb]
      rfl
    rw [q1, oseq_nx, e_seq, q2]
    walk_at "ev"
    rw [jb]
    walk_at "ev"
  unfold m__law_draw b__law_draw
  rw [e_def, e_seq]
  rw [show List.map (fun d => some (A.d d)) [.drs, .int b] ++ List.replicate (N__law_draw.length - [D.drs, .int b].length) none = [some (A.d .drs), some (A.d (.int b)), none, none, none, none] from rfl, g]
  rw [oseq_nx, e_seq]
  walk_at "ev"
  cases h1 : decide (d.l < b) with
  | false =>
    walk_at "ev"
    exact fin _ _ _
  | true =>
    obtain ⟨c, hc⟩ := cc
    walk_at "ev"
    rw [lb]
    walk_at "ev"
    rw [hc]
    walk_at "ev"
    obtain ⟨m, hm⟩ := ev_mixed (c := c) (t := d.t) (s := some d)
    cases h2 : decide (d.t < (d.cs.length : Int)) with
    | false =>
      walk_at "ev"
      rw [hm]
      walk_at "ev"
      exact fin _ _ _
    | true =>
      walk_at "ev"
      rw [p18]
      walk_at "ev"
      cases h3 : decide ((1000000000000000000 : Int) ≤ c) with
      | true =>
        walk_at "ev"
        exact fin _ _ _
      | false =>
        walk_at "ev"
        rw [hm]
        walk_at "ev"
        exact fin _ _ _
theorem draw {s : Sx} (h : Sok s) {b : Int} (h0 : 0 < b) (hb : b ≤ 1000000000000000000000000) : ∃ r s', m__law_draw s [.drs, .int b] = .ok (.int r) s' ∧ 0 ≤ r ∧ r < b ∧ Sok s' := by
  obtain ⟨d, rfl, h1, h2⟩ := h
  obtain ⟨r, d', e, r0, r1, ec⟩ := ev_draw h1 h2 h0 hb
  exact ⟨r, _, e, r0, r1, d', rfl, by rw [ec]; exact h1, by rw [ec]; exact h2⟩
end F52
namespace F52
open PySem L2 Mi
local macro_rules | `(tactic| walk_at "ev") => `(tactic| simp -implicitDefEqProofs only [rout_ok, rout_er, oseq_nx, oseq_rt, oseq_bk, oseq_ct, oseq_er, e_seq, e_nil, e_break, e_cont, e_raise, e_retN, kDrop, e_drop, kRet, e_ret, e_cond, kCond_t, kCond_f, e_set, kSet_d, kSet_own, e_asg, kAsg_d, kAsg_own, kAsg2_some, e_par, kPar_d, e_par3, kPar3_d, e_for, kFor, e_c, e_var, slot_eq, slotO_d, slotO_own, opt_none, opt_some, e_bin, kBin_eq, kBin2_eq, e_un, kUn_eq, e_args0, e_args, kArg_eq, kArg2_eq, e_call, kCall_eq, e_fn, kFn_eq, kFn2_eq, kD_eq, e_fnB, kFnB_eq, e_bool, kBool_b, e_and, kAnd_t, kAnd_f, e_or, kOr_t, kOr_f, e_not, kNot_eq, e_andV, kAndV_b, kAndV_t, kAndV_f, e_orV, kOrV_b, kOrV_t, kOrV_f, e_notV, kNotV_b, e_if, kIf_t, kIf_f, e_tup, kTup_eq, kTup2_eq, e_lst, kLst_eq, kLst2_eq, e_it, kIt_eq, e_r1, kR1_eq, e_r2, kR2_eq, e_q, kQ_eq, e_lc, kLc_eq, e_no, e_part, kPart_i, e_sl, kSl_eq, kSl2_eq, kSl3_eq, e_chain, kCh_eq, kCh2_eq, kCh3_b, kCh4_t, kCh4_f, kCh5_eq, e_app, kApp0_own, kApp_d, kApp_own, e_frz, kFrz_own, kFrz_d, e_aug, kAug0_d, kAug_d, e_def, dout_nx, dout_rt, dout_er, e_try, tTry_nx, tTry_rt, tTry_er, tOut_rt, tOut_nx, tOut_ct, e_told, kTold_e, bind_ok, bind_er, bind_bad, nox_ok, A.v, A.toD, toDs, asX, asR1_i, asR2_i, dTy, D.ty, dRel, dLe, dLt, dGt, dGe, dLtX, dLen, dAdd, dSub, dMod, dDiv, dMulX, dIx, dSl, dTuple, dList, isi_int_tup, isi_int_lst, isi_int_int, isi_int_str, isi_int_bl, isi_int_non, isi_bool_tup, isi_bool_lst, isi_bool_int, isi_bool_str, isi_bool_bl, isi_bool_non, isi_str_tup, isi_str_lst, isi_str_int, isi_str_str, isi_str_bl, isi_str_non, isi_tuple_tup, isi_tuple_lst, isi_tuple_int, isi_tuple_str, isi_tuple_bl, isi_tuple_non, isi_list_tup, isi_list_lst, isi_list_int, isi_list_str, isi_list_bl, isi_list_non, dIsB, dIsN, D.isNon, dNeg, dMax2, dMin2, dAbs, gN, gT, gsC, gsN, wipeE, blankE, lend, D.scal, List.map_cons, List.map_nil, List.length_cons, List.length_nil, List.cons_append, List.nil_append, List.getElem?_cons_zero, List.getElem?_cons_succ, List.set_cons_zero, List.set_cons_succ, List.replicate, Nat.reduceAdd, Nat.reduceSub, if_true, if_false, Bool.false_eq_true, reduceIte, decide_true, decide_false, String.reduceEq, reduceCtorEq, Int.reduceLE, Int.reduceLT, Int.reduceAdd, Int.reduceSub, Int.reduceMul, Int.reduceNeg, Int.reduceToNat, Int.reduceBNe, Int.reduceBEq, dInX, dIn, Nat.reduceLeDiff, Nat.reduceLT, Bool.not_true, Bool.not_false, Int.cast_ofNat_Int, Bool.and_true, Bool.true_and, Bool.and_false, Bool.false_and, and_self, and_true, true_and, lay_tup, lay_lst, lay_int, lay_str, lay_bl, lay_non, layL_nil, layL_cons, dEq_int, dEq_str, List.length_map, List.length_range, Int.reduceEq, bb_tt, bb_tf, bb_ft, bb_ff, nm_OR, nm_MA, nm_NT, nm_RE, nm_TM, eq_self, at0, at1, at2, at3, Option.map_some])
/-! the mathematics of burdens -/
abbrev Fnd := Str × Str × Str
abbrev Clm := Str × Str × Int
def fD (f : Fnd) : D := .tup [.str f.1, .str f.2.1, .str f.2.2]
def cD (c : Clm) : D := .tup [.str c.1, .str c.2.1, .int c.2.2]
/-- what a finding adds to the burden by a claim -/
def v (p : Str) (c : Clm) (f : Fnd) : Int := if f.1 = c.1 ∧ f.2.1 = c.2.1 then (if f.2.2 = p then c.2.2 else 0) - (if f.2.1 = p then c.2.2 else 0) else 0
theorem v_pos {p : Str} {c : Clm} {f : Fnd} (h : f.1 = c.1 ∧ f.2.1 = c.2.1) : v p c f = (if f.2.2 = p then c.2.2 else 0) - (if c.2.1 = p then c.2.2 else 0) := by
  unfold v
  rw [if_pos h, h.2]
theorem v_neg {p : Str} {c : Clm} {f : Fnd} (h : ¬ (f.1 = c.1 ∧ f.2.1 = c.2.1)) : v p c f = 0 := if_neg h
def row (p : Str) (J : List Fnd) (c : Clm) : Int := (J.map (v p c)).sum
def W (p : Str) (C : List Clm) (J : List Fnd) : Int := (C.map (row p J)).sum
def t (p : Str) (C : List Clm) (f : Fnd) : Int := (C.map fun c => v p c f).sum
theorem sum_add {α : Type} {f g : α → Int} : ∀ {xs : List α}, (xs.map fun x => f x + g x).sum = (xs.map f).sum + (xs.map g).sum
  | [] => rfl
  | x :: xs => by
    rw [List.map_cons, List.map_cons, List.map_cons, List.sum_cons, List.sum_cons, List.sum_cons, sum_add]
    omega
theorem sum_zero {α : Type} {f : α → Int} : ∀ {xs : List α}, (∀ x ∈ xs, f x = 0) → (xs.map f).sum = 0
  | [], _ => rfl
  | x :: xs, h => by
    rw [List.map_cons, List.sum_cons, h x List.mem_cons_self, sum_zero fun y hy => h y (List.mem_cons_of_mem _ hy)]
    rfl
theorem W_t {p : Str} {J : List Fnd} : ∀ {C : List Clm}, W p C J = (J.map (t p C)).sum
  | [] => (sum_zero (f := t p []) fun _ _ => rfl).symm
  | c :: C => by
    unfold W
    rw [List.map_cons, List.sum_cons, show (C.map (row p J)).sum = W p C J from rfl, W_t]
    unfold row
    rw [← sum_add]
    rfl
theorem W_app {p : Str} {C D : List Clm} {J : List Fnd} : W p (C ++ D) J = W p C J + W p D J := by
  unfold W
  rw [List.map_append, List.sum_append]
theorem perm_sum {α : Type} {f : α → Int} {xs ys : List α} (h : xs.Perm ys) : (xs.map f).sum = (ys.map f).sum := by
  induction h with
  | nil => rfl
  | cons x _ ih => rw [List.map_cons, List.map_cons, List.sum_cons, List.sum_cons, ih]
  | swap x y l => simp only [List.map_cons, List.sum_cons]; omega
  | trans _ _ h1 h2 => rw [h1, h2]
theorem W_perm {p : Str} {C : List Clm} {J K : List Fnd} (h : J.Perm K) : W p C J = W p C K := by
  rw [W_t, W_t]
  exact perm_sum h
/-- heads stand once -/
def Once (J : List Fnd) : Prop := J.Pairwise fun a b => a.1 ≠ b.1
theorem row_find {p : Str} {c : Clm} : ∀ {J : List Fnd}, Once J → row p J c = match J.find? (fun f => decide (f.1 = c.1)) with
    | some f => v p c f
    | none => 0
  | [], _ => rfl
  | f :: J, h => by
    have h := List.pairwise_cons.mp h
    rw [List.find?_cons]
    unfold row
    rw [List.map_cons, List.sum_cons]
    by_cases e : f.1 = c.1
    · rw [decide_eq_true e]
      dsimp only
      rw [sum_zero (f := v p c) fun g hg => by
        unfold v
        rw [if_neg]
        exact fun z => h.1 g hg (e.trans z.1.symm)]
      omega
    · rw [decide_eq_false e]
      dsimp only
      rw [show (J.map (v p c)).sum = row p J c from rfl, row_find h.2, show v p c f = 0 by unfold v; rw [if_neg (fun z => e z.1)]]
      omega
/-- debts by a judgment -/
def dbt (J : List Fnd) (c : Clm) : Option Clm := match J.find? (fun f => decide (f.1 = c.1)) with
  | some f => if f.2.1 = c.2.1 then some (f.2.2, c.2.1, c.2.2) else none
  | none => none
def net (p : Str) (ds : List Clm) : Int := ((ds.filter fun d => decide (d.1 = p)).map (·.2.2)).sum - ((ds.filter fun d => decide (d.2.1 = p)).map (·.2.2)).sum
theorem net_cons {p : Str} {d : Clm} {ds : List Clm} : net p (d :: ds) = (if d.1 = p then d.2.2 else 0) - (if d.2.1 = p then d.2.2 else 0) + net p ds := by
  unfold net
  rw [List.filter_cons, List.filter_cons]
  by_cases h1 : d.1 = p <;> by_cases h2 : d.2.1 = p
  · rw [decide_eq_true h1, decide_eq_true h2, if_pos rfl, if_pos rfl, if_pos h1, if_pos h2, List.map_cons, List.map_cons, List.sum_cons, List.sum_cons]
    omega
  · rw [decide_eq_true h1, decide_eq_false h2, if_pos rfl, if_neg (by simp), if_pos h1, if_neg h2, List.map_cons, List.sum_cons]
    omega
  · rw [decide_eq_false h1, decide_eq_true h2, if_neg (by simp), if_pos rfl, if_neg h1, if_pos h2, List.map_cons, List.sum_cons]
    omega
  · rw [decide_eq_false h1, decide_eq_false h2, if_neg (by simp), if_neg (by simp), if_neg h1, if_neg h2]
    omega
theorem net_debts {p : Str} {J : List Fnd} (h : Once J) : ∀ {C : List Clm}, net p (C.filterMap (dbt J)) = W p C J
  | [] => rfl
  | c :: C => by
    have ih := net_debts (p := p) h (C := C)
    rw [List.filterMap_cons]
    unfold W
    rw [List.map_cons, List.sum_cons, show (C.map (row p J)).sum = W p C J from rfl, ← ih, row_find h]
    rw [show dbt J c = match J.find? (fun f => decide (f.1 = c.1)) with
      | some f => if f.2.1 = c.2.1 then some (f.2.2, c.2.1, c.2.2) else none
      | none => none from rfl]
    cases q : J.find? (fun f => decide (f.1 = c.1)) with
    | none =>
      dsimp only
      omega
    | some f =>
      have e : f.1 = c.1 := by have := List.find?_some q; simpa using this
      dsimp only
      by_cases e2 : f.2.1 = c.2.1
      · rw [if_pos e2]
        dsimp only
        rw [net_cons]
        rw [v_pos ⟨e, e2⟩]
      · rw [if_neg e2]
        dsimp only
        rw [v_neg (fun z => e2 z.2)]
        omega
theorem W_pos {p : Str} {J : List Fnd} : ∀ {C : List Clm}, (∀ c ∈ C, 0 ≤ c.2.2) → W p (C.filter fun c => decide (0 < c.2.2)) J = W p C J
  | [], _ => rfl
  | c :: C, h => by
    have ih := W_pos (p := p) (J := J) (C := C) fun x hx => h x (List.mem_cons_of_mem _ hx)
    rw [List.filter_cons]
    by_cases e : 0 < c.2.2
    · rw [decide_eq_true e, if_pos rfl]
      unfold W at ih ⊢
      rw [List.map_cons, List.map_cons, List.sum_cons, List.sum_cons, ih]
    · rw [decide_eq_false e, if_neg (by simp), ih]
      have z := h c List.mem_cons_self
      unfold W
      rw [List.map_cons, List.sum_cons, show row p J c = 0 from sum_zero fun f _ => by
        unfold v
        rw [show c.2.2 = 0 by omega]
        simp]
      omega
/-! the greatest -/
def tu (f : Fnd) : Fnd := (f.1, f.2.2, f.2.1)
def pick (p : Str) (C : List Clm) (f : Fnd) : Fnd := if t p C (tu f) > t p C f then tu f else f
def cnt (p : Str) (C : List Clm) (O : List Fnd) : Nat := O.countP fun f => decide (t p C (tu f) > t p C f)
def step (ws : List (Nat × List Fnd)) (f : Fnd) : List (Nat × List Fnd) := ws.flatMap fun w => [(w.1, w.2 ++ [f]), (w.1 + 1, w.2 ++ [tu f])]
theorem W_one {p : Str} {C : List Clm} {J : List Fnd} {f : Fnd} : W p C (J ++ [f]) = W p C J + t p C f := by
  rw [W_t, W_t, List.map_append, List.sum_append]
  simp
/-- of all ways the greedy one is the best, and the one with the fewest turns among the best -/
theorem ways_best {p : Str} {C : List Clm} : ∀ {O : List Fnd} {ws : List (Nat × List Fnd)} {g : Nat × List Fnd}, g ∈ ws → (∀ w ∈ ws, W p C w.2 < W p C g.2 ∨ W p C w.2 = W p C g.2 ∧ (g.1 < w.1 ∨ w = g)) →
    (g.1 + cnt p C O, g.2 ++ O.map (pick p C)) ∈ O.foldl step ws ∧ ∀ w ∈ O.foldl step ws, W p C w.2 < W p C (g.2 ++ O.map (pick p C)) ∨ W p C w.2 = W p C (g.2 ++ O.map (pick p C)) ∧ (g.1 + cnt p C O < w.1 ∨ w = (g.1 + cnt p C O, g.2 ++ O.map (pick p C)))
  | [], ws, g, hg, h => by
    simp only [List.foldl_nil, List.map_nil, List.append_nil, cnt, List.countP_nil, Nat.add_zero]
    exact ⟨hg, h⟩
  | f :: O, ws, g, hg, h => by
    have key : (g.1 + cnt p C [f], g.2 ++ [pick p C f]) ∈ step ws f ∧ ∀ w ∈ step ws f, W p C w.2 < W p C (g.2 ++ [pick p C f]) ∨ W p C w.2 = W p C (g.2 ++ [pick p C f]) ∧ (g.1 + cnt p C [f] < w.1 ∨ w = (g.1 + cnt p C [f], g.2 ++ [pick p C f])) := by
      unfold pick cnt
      by_cases c : t p C (tu f) > t p C f
      · rw [if_pos c, List.countP_singleton, decide_eq_true c, if_pos rfl]
        refine ⟨List.mem_flatMap.mpr ⟨g, hg, by simp⟩, fun w hw => ?_⟩
        obtain ⟨u, hu, hw⟩ := List.mem_flatMap.mp hw
        have hu := h u hu
        simp only [List.mem_cons, List.not_mem_nil, or_false] at hw
        rcases hw with rfl | rfl
        · dsimp only
          rw [W_one, W_one]
          left
          omega
        · dsimp only
          rw [W_one, W_one]
          rcases hu with hu | ⟨h1, h2 | rfl⟩
          · left; omega
          · right; exact ⟨by omega, .inl (by omega)⟩
          · right; exact ⟨rfl, .inr rfl⟩
      · rw [if_neg c, List.countP_singleton, decide_eq_false c, if_neg (by simp), Nat.add_zero]
        refine ⟨List.mem_flatMap.mpr ⟨g, hg, by simp⟩, fun w hw => ?_⟩
        obtain ⟨u, hu, hw⟩ := List.mem_flatMap.mp hw
        have hu := h u hu
        simp only [List.mem_cons, List.not_mem_nil, or_false] at hw
        rcases hw with rfl | rfl
        · dsimp only
          rw [W_one, W_one]
          rcases hu with hu | ⟨h1, h2 | rfl⟩
          · left; omega
          · right; exact ⟨by omega, .inl (by omega)⟩
          · right; exact ⟨rfl, .inr rfl⟩
        · dsimp only
          rw [W_one, W_one]
          rcases hu with hu | ⟨h1, h2 | rfl⟩
          · left; omega
          · by_cases c2 : t p C (tu f) = t p C f
            · right; exact ⟨by omega, .inl (by omega)⟩
            · left; omega
          · by_cases c2 : t p C (tu f) = t p C f
            · right; exact ⟨by omega, .inl (by omega)⟩
            · left; omega
    have ih := ways_best (O := O) key.1 key.2
    rw [List.foldl_cons, List.map_cons]
    have e1 : g.1 + cnt p C (f :: O) = g.1 + cnt p C [f] + cnt p C O := by
      unfold cnt
      rw [List.countP_cons, List.countP_singleton]
      omega
    have e2 : g.2 ++ pick p C f :: O.map (pick p C) = (g.2 ++ [pick p C f]) ++ O.map (pick p C) := by simp
    rw [e1, e2]
    exact ih
end F52
namespace F52
open PySem L2 Mi
local macro_rules | `(tactic| walk_at "ev") => `(tactic| simp -implicitDefEqProofs only [rout_ok, rout_er, oseq_nx, oseq_rt, oseq_bk, oseq_ct, oseq_er, e_seq, e_nil, e_break, e_cont, e_raise, e_retN, kDrop, e_drop, kRet, e_ret, e_cond, kCond_t, kCond_f, e_set, kSet_d, kSet_own, e_asg, kAsg_d, kAsg_own, kAsg2_some, e_par, kPar_d, e_par3, kPar3_d, e_for, kFor, e_c, e_var, slot_eq, slotO_d, slotO_own, opt_none, opt_some, e_bin, kBin_eq, kBin2_eq, e_un, kUn_eq, e_args0, e_args, kArg_eq, kArg2_eq, e_call, kCall_eq, e_fn, kFn_eq, kFn2_eq, kD_eq, e_fnB, kFnB_eq, e_bool, kBool_b, e_and, kAnd_t, kAnd_f, e_or, kOr_t, kOr_f, e_not, kNot_eq, e_andV, kAndV_b, kAndV_t, kAndV_f, e_orV, kOrV_b, kOrV_t, kOrV_f, e_notV, kNotV_b, e_if, kIf_t, kIf_f, e_tup, kTup_eq, kTup2_eq, e_lst, kLst_eq, kLst2_eq, e_it, kIt_eq, e_r1, kR1_eq, e_r2, kR2_eq, e_q, kQ_eq, e_lc, kLc_eq, e_no, e_part, kPart_i, e_sl, kSl_eq, kSl2_eq, kSl3_eq, e_chain, kCh_eq, kCh2_eq, kCh3_b, kCh4_t, kCh4_f, kCh5_eq, e_app, kApp0_own, kApp_d, kApp_own, e_frz, kFrz_own, kFrz_d, e_aug, kAug0_d, kAug_d, e_def, dout_nx, dout_rt, dout_er, e_try, tTry_nx, tTry_rt, tTry_er, tOut_rt, tOut_nx, tOut_ct, e_told, kTold_e, bind_ok, bind_er, bind_bad, nox_ok, A.v, A.toD, toDs, asX, asR1_i, asR2_i, dTy, D.ty, dRel, dLe, dLt, dGt, dGe, dLtX, dLen, dAdd, dSub, dMod, dDiv, dMulX, dIx, dSl, dTuple, dList, isi_int_tup, isi_int_lst, isi_int_int, isi_int_str, isi_int_bl, isi_int_non, isi_bool_tup, isi_bool_lst, isi_bool_int, isi_bool_str, isi_bool_bl, isi_bool_non, isi_str_tup, isi_str_lst, isi_str_int, isi_str_str, isi_str_bl, isi_str_non, isi_tuple_tup, isi_tuple_lst, isi_tuple_int, isi_tuple_str, isi_tuple_bl, isi_tuple_non, isi_list_tup, isi_list_lst, isi_list_int, isi_list_str, isi_list_bl, isi_list_non, dIsB, dIsN, D.isNon, dNeg, dMax2, dMin2, dAbs, gN, gT, gsC, gsN, wipeE, blankE, lend, D.scal, List.map_cons, List.map_nil, List.length_cons, List.length_nil, List.cons_append, List.nil_append, List.getElem?_cons_zero, List.getElem?_cons_succ, List.set_cons_zero, List.set_cons_succ, List.replicate, Nat.reduceAdd, Nat.reduceSub, if_true, if_false, Bool.false_eq_true, reduceIte, decide_true, decide_false, String.reduceEq, reduceCtorEq, Int.reduceLE, Int.reduceLT, Int.reduceAdd, Int.reduceSub, Int.reduceMul, Int.reduceNeg, Int.reduceToNat, Int.reduceBNe, Int.reduceBEq, dInX, dIn, Nat.reduceLeDiff, Nat.reduceLT, Bool.not_true, Bool.not_false, Int.cast_ofNat_Int, Bool.and_true, Bool.true_and, Bool.and_false, Bool.false_and, and_self, and_true, true_and, lay_tup, lay_lst, lay_int, lay_str, lay_bl, lay_non, layL_nil, layL_cons, dEq_int, dEq_str, List.length_map, List.length_range, Int.reduceEq, bb_tt, bb_tf, bb_ft, bb_ff, nm_OR, nm_MA, nm_NT, nm_RE, nm_TM, eq_self, at0, at1, at2, at3, Option.map_some])
/-! the mathematics of dealing -/
open Kl (ordOf ordOf_perm ordOf_pw)
open SrtO (lexB lexB_iff lexB_no)
theorem e_sortAt {i : Nat} {e : Mi.Env} {ns : List Int} {s : Sx} (h : slot e i = some (.bor (ns.map .int))) (hl : ns.length ≤ 1000000) : mSortAt i e s = .ok (.own ((ranks ns).map fun (j : Nat) => .int (j : Nat))) s := by
  unfold mSortAt
  simp only [h]
  show (match dints (ns.map .int) with
    | some ns => if ns.length ≤ 1000000 then Res.ok (A.own ((ranks ns).map fun (j : Nat) => D.int (j : Nat))) s else .bad
    | none => .bad) = _
  rw [map_ints]
  dsimp only
  rw [if_pos hl]
theorem e_augI {i j : Nat} {f : Int → Int → Int} {mk m : Mv} {e : Mi.Env} {xs : List D} {k x y : Int} {s : Sx} (h1 : e[i]? = some (some (.own xs))) (h2 : mk e s = .ok (.d (.int k)) s) (h3 : ixN xs.length k = some j) (h4 : xs[j]? = some (.int x)) (h5 : m e s = .ok (.d (.int y)) s) :
    mAugI i f mk m e s = .nx (e.set i (some (.own (xs.set j (.int (f x y)))))) s := by
  unfold mAugI
  simp only [h1]
  unfold inE
  rw [h2]
  dsimp only [asI]
  rw [h3]
  dsimp only
  rw [h4]
  dsimp only
  rw [h5]
/-- those that stand ahead of k -/
def ahead (ns : List Int) (k : Nat) : Nat := (List.range ns.length).countP fun j => lexB (keyAt ns j) (keyAt ns k)
theorem lex_irr (p : Int × Int) : lexB p p = false := lexB_no.mpr (by omega)
theorem pos_ahead {ns : List Int} {pre post : List Nat} {k : Nat} (h : pre ++ k :: post = ranks ns) : ahead ns k = pre.length := by
  have hp := ordOf_pw (keyAt ns) ns.length
  have hm := ordOf_perm (keyAt ns) ns.length
  rw [show ordOf (keyAt ns) ns.length = ranks ns from rfl, ← h] at hp hm
  have nd : (pre ++ k :: post).Nodup := hm.nodup_iff.mpr List.nodup_range
  unfold ahead
  rw [← hm.countP_eq, List.countP_append, List.countP_cons]
  rw [List.pairwise_append, List.pairwise_cons] at hp
  rw [List.nodup_append, List.nodup_cons] at nd
  have e1 : pre.countP (fun j => lexB (keyAt ns j) (keyAt ns k)) = pre.length := List.countP_eq_length.mpr fun j hj => by
    have h1 := hp.2.2 j hj k List.mem_cons_self
    have h2 := lexB_no.mp h1
    have ne : j ≠ k := nd.2.2 j hj k List.mem_cons_self
    refine lexB_iff.mpr ?_
    have : (keyAt ns j).2 ≠ (keyAt ns k).2 := fun z => ne (by
      have z : (j : Int) = (k : Int) := z
      omega)
    omega
  have e2 : post.countP (fun j => lexB (keyAt ns j) (keyAt ns k)) = 0 := List.countP_eq_zero.mpr fun j hj => by
    rw [hp.2.1.1 j hj]
    exact Bool.false_ne_true
  rw [e1, e2, lex_irr]
  simp
theorem mem_take {ns : List Int} {k m : Nat} (hk : k < ns.length) : k ∈ (ranks ns).take m ↔ ahead ns k < m := by
  have hm : k ∈ ranks ns := (ordOf_perm (keyAt ns) ns.length).mem_iff.mpr (List.mem_range.mpr hk)
  obtain ⟨pre, post, e⟩ := List.append_of_mem hm
  rw [pos_ahead e.symm]
  have nd : (ranks ns).Nodup := (ordOf_perm (keyAt ns) ns.length).nodup_iff.mpr List.nodup_range
  rw [e] at nd ⊢
  have n1 : k ∉ pre := fun z => (List.nodup_append.mp nd).2.2 k z k List.mem_cons_self rfl
  constructor
  · intro h
    refine Classical.byContradiction fun c => n1 ?_
    rw [List.take_append_of_le_length (by omega)] at h
    exact List.mem_of_mem_take h
  · intro h
    rw [List.take_append, List.take_of_length_le (by omega)]
    refine List.mem_append_right _ ?_
    obtain ⟨d, hd⟩ : ∃ d, m - pre.length = d + 1 := ⟨m - pre.length - 1, by omega⟩
    rw [hd, List.take_succ_cons]
    exact List.mem_cons_self
theorem sum_div {a t : Int} (ht : 0 < t) : ∀ ws : List Int, (ws.map fun w => a * w / t).sum * t + (ws.map fun w => a * w % t).sum = a * ws.sum
  | [] => by simp
  | w :: ws => by
    have ih := sum_div (a := a) ht ws
    rw [List.map_cons, List.map_cons, List.sum_cons, List.sum_cons, List.sum_cons, Int.add_mul, Int.mul_add, ← ih]
    have := Int.mul_ediv_add_emod (a * w) t
    rw [Int.mul_comm t] at this
    omega
theorem sum_nn : ∀ {ws : List Int}, (∀ w ∈ ws, 0 ≤ w) → 0 ≤ ws.sum
  | [], _ => by simp
  | w :: ws, h => by
    rw [List.sum_cons]
    have := h w List.mem_cons_self
    have := sum_nn fun x hx => h x (List.mem_cons_of_mem _ hx)
    omega
theorem sum_le {b : Int} : ∀ {ws : List Int}, (∀ w ∈ ws, w ≤ b) → ws.sum ≤ b * (ws.length : Nat)
  | [], _ => by simp
  | w :: ws, h => by
    rw [List.sum_cons, List.length_cons]
    have := h w List.mem_cons_self
    have := sum_le fun x hx => h x (List.mem_cons_of_mem _ hx)
    rw [Int.natCast_add, Int.mul_add]
    omega
structure Wk (a : Int) (ws : List Int) : Prop where
  a0 : 0 ≤ a
  a1 : a ≤ 1000000000000000000
  w0 : ∀ w ∈ ws, 0 ≤ w
  w1 : ∀ w ∈ ws, w ≤ 1000000000000000000
  l : ws.length ≤ 200
def rs (a : Int) (ws : List Int) : List Int := ws.map fun w => a * w % ws.sum
def fs (a : Int) (ws : List Int) : List Int := ws.map fun w => a * w / ws.sum
def miss (a : Int) (ws : List Int) : Int := a - (fs a ws).sum
theorem miss_nn {a : Int} {ws : List Int} (ht : 0 < ws.sum) : 0 ≤ miss a ws := by
  have h := sum_div (a := a) ht ws
  have h2 : 0 ≤ (ws.map fun w => a * w % ws.sum).sum := sum_nn fun r hr => by
    obtain ⟨w, _, rfl⟩ := List.mem_map.mp hr
    exact Int.emod_nonneg _ (by omega)
  have h3 : miss a ws * ws.sum = (ws.map fun w => a * w % ws.sum).sum := by
    unfold miss fs
    rw [Int.sub_mul]
    omega
  refine Classical.byContradiction fun c => ?_
  have := Int.mul_le_mul_of_nonneg_right (show miss a ws ≤ -1 by omega) (Int.le_of_lt ht)
  omega
theorem Wk.sum0 {a : Int} {ws : List Int} (k : Wk a ws) : 0 ≤ ws.sum := sum_nn k.w0
theorem Wk.sum1 {a : Int} {ws : List Int} (k : Wk a ws) : ws.sum ≤ 200000000000000000000 := by
  have h := sum_le k.w1
  have := k.l
  omega
theorem Wk.sm {a : Int} {ws : List Int} (k : Wk a ws) : ws.sum.natAbs < 2 ^ 8000 := by
  have h0 := k.sum0
  have h1 := k.sum1
  exact Nat.lt_of_le_of_lt (show ws.sum.natAbs ≤ 200000000000000000000 by omega) (by decide +kernel)
theorem Wk.ab {a w : Int} {ws : List Int} (k : Wk a ws) (h : w ∈ ws) : w.natAbs < 18446744073709551616 := by
  have h0 := k.w0 w h
  have h1 := k.w1 w h
  omega
/-- the share of the k-th -/
def one (a : Int) (ws : List Int) (k : Nat) : Int := (fs a ws).getD k 0 + if ((ahead (rs a ws) k : Nat) : Int) < miss a ws then 1 else 0
def due (a : Int) (ws : List Int) : List D := (List.range ws.length).map fun k => .int (one a ws k)
theorem sum_ok {ns : List Int} : dSum [.lst (ns.map .int)] = some (.d (.int ns.sum)) := by
  show (dints (ns.map .int)).map _ = _
  rw [map_ints]
  rfl
theorem len_ranks {ns : List Int} : (ranks ns).length = ns.length := by
  have := (ordOf_perm (keyAt ns) ns.length).length_eq
  rw [List.length_range] at this
  exact this
theorem mem_ranks {ns : List Int} {j : Nat} (h : j ∈ ranks ns) : j < ns.length := List.mem_range.mp ((ordOf_perm (keyAt ns) ns.length).mem_iff.mp h)
theorem nd_ranks {ns : List Int} : (ranks ns).Nodup := (ordOf_perm (keyAt ns) ns.length).nodup_iff.mpr List.nodup_range
theorem getD_map {ns : List Int} : ns.map D.int = (List.range ns.length).map fun k => D.int (ns.getD k 0) := by
  refine List.ext_getElem? fun i => ?_
  rw [List.getElem?_map, List.getElem?_map]
  by_cases c : i < ns.length
  · rw [List.getElem?_range c, List.getElem?_eq_getElem c, Option.map_some, Option.map_some, List.getD_eq_getElem?_getD, List.getElem?_eq_getElem c]
    rfl
  · rw [List.getElem?_eq_none (by omega), List.getElem?_eq_none (by rw [List.length_range]; omega)]
    rfl
theorem ixN_nat {n j : Nat} (h : j < n) : ixN n (j : Int) = some j := by
  unfold ixN
  rw [if_pos (by omega), if_pos (by omega), Int.toNat_natCast]
theorem if_cg {α : Type} {p q : Prop} [Decidable p] [Decidable q] {a b : α} (h : p ↔ q) : (if p then a else b) = if q then a else b := by
  by_cases c : p
  · rw [if_pos c, if_pos (h.mp c)]
  · rw [if_neg c, if_neg (fun z => c (h.mpr z))]
end F52
namespace F52
open PySem L2 Mi
local macro_rules | `(tactic| walk_at "ev") => `(tactic| simp -implicitDefEqProofs only [rout_ok, rout_er, oseq_nx, oseq_rt, oseq_bk, oseq_ct, oseq_er, e_seq, e_nil, e_break, e_cont, e_raise, e_retN, kDrop, e_drop, kRet, e_ret, e_cond, kCond_t, kCond_f, e_set, kSet_d, kSet_own, e_asg, kAsg_d, kAsg_own, kAsg2_some, e_par, kPar_d, e_par3, kPar3_d, e_for, kFor, e_c, e_var, slot_eq, slotO_d, slotO_own, opt_none, opt_some, e_bin, kBin_eq, kBin2_eq, e_un, kUn_eq, e_args0, e_args, kArg_eq, kArg2_eq, e_call, kCall_eq, e_fn, kFn_eq, kFn2_eq, kD_eq, e_fnB, kFnB_eq, e_bool, kBool_b, e_and, kAnd_t, kAnd_f, e_or, kOr_t, kOr_f, e_not, kNot_eq, e_andV, kAndV_b, kAndV_t, kAndV_f, e_orV, kOrV_b, kOrV_t, kOrV_f, e_notV, kNotV_b, e_if, kIf_t, kIf_f, e_tup, kTup_eq, kTup2_eq, e_lst, kLst_eq, kLst2_eq, e_it, kIt_eq, e_r1, kR1_eq, e_r2, kR2_eq, e_q, kQ_eq, e_lc, kLc_eq, e_no, e_part, kPart_i, e_sl, kSl_eq, kSl2_eq, kSl3_eq, e_chain, kCh_eq, kCh2_eq, kCh3_b, kCh4_t, kCh4_f, kCh5_eq, e_app, kApp0_own, kApp_d, kApp_own, e_frz, kFrz_own, kFrz_d, e_aug, kAug0_d, kAug_d, e_def, dout_nx, dout_rt, dout_er, e_try, tTry_nx, tTry_rt, tTry_er, tOut_rt, tOut_nx, tOut_ct, e_told, kTold_e, bind_ok, bind_er, bind_bad, nox_ok, A.v, A.toD, toDs, asX, asR1_i, asR2_i, dTy, D.ty, dRel, dLe, dLt, dGt, dGe, dLtX, dLen, dAdd, dSub, dMod, dDiv, dMulX, dIx, dSl, dTuple, dList, isi_int_tup, isi_int_lst, isi_int_int, isi_int_str, isi_int_bl, isi_int_non, isi_bool_tup, isi_bool_lst, isi_bool_int, isi_bool_str, isi_bool_bl, isi_bool_non, isi_str_tup, isi_str_lst, isi_str_int, isi_str_str, isi_str_bl, isi_str_non, isi_tuple_tup, isi_tuple_lst, isi_tuple_int, isi_tuple_str, isi_tuple_bl, isi_tuple_non, isi_list_tup, isi_list_lst, isi_list_int, isi_list_str, isi_list_bl, isi_list_non, dIsB, dIsN, D.isNon, dNeg, dMax2, dMin2, dAbs, gN, gT, gsC, gsN, wipeE, blankE, lend, D.scal, List.map_cons, List.map_nil, List.length_cons, List.length_nil, List.cons_append, List.nil_append, List.getElem?_cons_zero, List.getElem?_cons_succ, List.set_cons_zero, List.set_cons_succ, List.replicate, Nat.reduceAdd, Nat.reduceSub, if_true, if_false, Bool.false_eq_true, reduceIte, decide_true, decide_false, String.reduceEq, reduceCtorEq, Int.reduceLE, Int.reduceLT, Int.reduceAdd, Int.reduceSub, Int.reduceMul, Int.reduceNeg, Int.reduceToNat, Int.reduceBNe, Int.reduceBEq, dInX, dIn, Nat.reduceLeDiff, Nat.reduceLT, Bool.not_true, Bool.not_false, Int.cast_ofNat_Int, Bool.and_true, Bool.true_and, Bool.and_false, Bool.false_and, and_self, and_true, true_and, lay_tup, lay_lst, lay_int, lay_str, lay_bl, lay_non, layL_nil, layL_cons, dEq_int, dEq_str, List.length_map, List.length_range, Int.reduceEq, bb_tt, bb_tf, bb_ft, bb_ff, nm_OR, nm_MA, nm_NT, nm_RE, nm_TM, eq_self, at0, at1, at2, at3, Option.map_some])
/-! dealt, as it is read -/
theorem ev_dealt {a : Int} {ws : List Int} (k : Wk a ws) {s : Sx} : m_dealt s [.int a, .lst (ws.map .int)] = if ws.sum = 0 then .er .RE s else .ok (.lst (due a ws)) s := by
  unfold m_dealt b_dealt
  have hl := k.l
  walk_at "ev"
  rw [sum_ok]
  walk_at "ev"
  by_cases c : ws.sum = 0
  · rw [decide_eq_true c, if_pos c]
    walk_at "ev"
  · rw [decide_eq_false c, if_neg c]
    have ht : 0 < ws.sum := by
      have := k.sum0
      omega
    walk_at "ev"
    rw [lcM_ma (c := D.int) (f := fun w => .int (a * w / ws.sum)) (fun w hw => ⟨_, .d (.int (a * w / ws.sum)), rfl, by
      walk_at "ev"
      rw [if_pos (mulOk_r (k.ab hw))]
      walk_at "ev"
      rw [divq ht k.sm]
      walk_at "ev", rfl⟩) (by omega)]
    walk_at "ev"
    rw [lcM_ma (c := D.int) (f := fun w => .int (a * w % ws.sum)) (fun w hw => ⟨_, .d (.int (a * w % ws.sum)), rfl, by
      walk_at "ev"
      rw [if_pos (mulOk_r (k.ab hw))]
      walk_at "ev"
      rw [modq ht]
      walk_at "ev", rfl⟩) (by omega)]
    walk_at "ev"
    have ef : ws.map (fun w => D.int (a * w / ws.sum)) = (fs a ws).map .int := by unfold fs; rw [List.map_map]; rfl
    have er : ws.map (fun w => D.int (a * w % ws.sum)) = (rs a ws).map .int := by unfold rs; rw [List.map_map]; rfl
    have lr : (rs a ws).length = ws.length := by unfold rs; rw [List.length_map]
    have lf : (fs a ws).length = ws.length := by unfold fs; rw [List.length_map]
    rw [ef, er]
    rw [sum_ok]
    walk_at "ev"
    rw [e_sortAt (ns := rs a ws) rfl (by omega)]
    walk_at "ev"
    rw [show a - (fs a ws).sum = miss a ws from rfl, take_ok (miss_nn ht), ← List.map_take]
    have L : ∀ S : List Nat, ((List.range ws.length).map fun k => D.int ((fs a ws).getD k 0 + if k ∈ S then 1 else 0)).length = ws.length := fun S => by rw [List.length_map, List.length_range]
    rw [show (fs a ws).map D.int = (List.range ws.length).map (fun k => D.int ((fs a ws).getD k 0 + if k ∈ ([] : List Nat) then 1 else 0)) by
      rw [getD_map, lf]
      refine List.map_congr_left fun k _ => ?_
      rw [if_neg (by simp), Int.add_zero]]
    refine foMq (c := fun (j : Nat) => D.int (j : Nat)) (fun o => dout (oseq o (mRet (mVar 3))) = .ok (.lst (due a ws)) s)
      (fun pre e s' => s' = s ∧ ∃ o, e = [some (A.d (D.int a)), some (A.d (D.lst (List.map D.int ws))), some (A.d (D.int ws.sum)), some (.own ((List.range ws.length).map fun k => .int ((fs a ws).getD k 0 + if k ∈ pre then 1 else 0))), some (A.d (D.int (miss a ws))),
        some (A.own (List.map (fun j => D.int ((j : Nat) : Int)) (ranks (rs a ws)))), o, some (A.own (List.map D.int (rs a ws))), none]) (pre := []) (all := List.take (miss a ws).toNat (ranks (rs a ws))) rfl ⟨rfl, none, rfl⟩ ?_ ?_
    · rintro pre x post e s' hp ⟨rfl, o, rfl⟩
      have hx : x ∈ ranks (rs a ws) := List.mem_of_mem_take (by rw [← hp]; simp)
      have hxl : x < ws.length := by
        have := mem_ranks hx
        omega
      have nd : (pre ++ x :: post).Nodup := by
        rw [hp]
        exact nd_ranks.sublist (List.take_sublist _ _)
      have nx : x ∉ pre := fun z => (List.nodup_append.mp nd).2.2 x z x List.mem_cons_self rfl
      refine ⟨_, rfl, ?_⟩
      rw [e_augI (j := x) (k := x) (x := (fs a ws).getD x 0) (y := 1) rfl (by walk_at "ev") (by rw [L]; exact ixN_nat hxl) (by
        rw [List.getElem?_map, List.getElem?_range hxl, Option.map_some, if_neg nx, Int.add_zero]) (by walk_at "ev")]
      refine goes_nx ⟨rfl, some (.d (.int x)), ?_⟩
      walk_at "ev"
      congr 4
      congr 1
      congr 1
      refine List.ext_getElem? fun i => ?_
      rw [List.getElem?_set, L, List.getElem?_map]
      by_cases c1 : x = i
      · subst c1
        rw [if_pos rfl, if_pos hxl, List.getElem?_map, List.getElem?_range hxl, Option.map_some, if_pos (by simp)]
      · rw [if_neg c1, List.getElem?_map]
        by_cases c2 : i < ws.length
        · rw [List.getElem?_range c2, Option.map_some, Option.map_some]
          have : (i ∈ pre) ↔ (i ∈ pre ++ [x]) := by
            rw [List.mem_append, List.mem_singleton]
            exact ⟨.inl, fun z => z.resolve_right (Ne.symm c1)⟩
          rw [if_cg this]
        · rw [List.getElem?_eq_none (by rw [List.length_range]; omega)]
          rfl
    · rintro e s' ⟨rfl, o, rfl⟩
      walk_at "ev"
      congr 2
      unfold due
      refine List.map_congr_left fun k hk => ?_
      rw [List.mem_range] at hk
      unfold one
      have : (k ∈ (ranks (rs a ws)).take (miss a ws).toNat) ↔ (((ahead (rs a ws) k : Nat) : Int) < miss a ws) := by
        rw [mem_take (by omega)]
        have := miss_nn (a := a) ht
        omega
      rw [if_cg this]
end F52
namespace F52
open PySem L2 Mi
local macro_rules | `(tactic| walk_at "ev") => `(tactic| simp -implicitDefEqProofs only [rout_ok, rout_er, oseq_nx, oseq_rt, oseq_bk, oseq_ct, oseq_er, e_seq, e_nil, e_break, e_cont, e_raise, e_retN, kDrop, e_drop, kRet, e_ret, e_cond, kCond_t, kCond_f, e_set, kSet_d, kSet_own, e_asg, kAsg_d, kAsg_own, kAsg2_some, e_par, kPar_d, e_par3, kPar3_d, e_for, kFor, e_c, e_var, slot_eq, slotO_d, slotO_own, opt_none, opt_some, e_bin, kBin_eq, kBin2_eq, e_un, kUn_eq, e_args0, e_args, kArg_eq, kArg2_eq, e_call, kCall_eq, e_fn, kFn_eq, kFn2_eq, kD_eq, e_fnB, kFnB_eq, e_bool, kBool_b, e_and, kAnd_t, kAnd_f, e_or, kOr_t, kOr_f, e_not, kNot_eq, e_andV, kAndV_b, kAndV_t, kAndV_f, e_orV, kOrV_b, kOrV_t, kOrV_f, e_notV, kNotV_b, e_if, kIf_t, kIf_f, e_tup, kTup_eq, kTup2_eq, e_lst, kLst_eq, kLst2_eq, e_it, kIt_eq, e_r1, kR1_eq, e_r2, kR2_eq, e_q, kQ_eq, e_lc, kLc_eq, e_no, e_part, kPart_i, e_sl, kSl_eq, kSl2_eq, kSl3_eq, e_chain, kCh_eq, kCh2_eq, kCh3_b, kCh4_t, kCh4_f, kCh5_eq, e_app, kApp0_own, kApp_d, kApp_own, e_frz, kFrz_own, kFrz_d, e_aug, kAug0_d, kAug_d, e_def, dout_nx, dout_rt, dout_er, e_try, tTry_nx, tTry_rt, tTry_er, tOut_rt, tOut_nx, tOut_ct, e_told, kTold_e, bind_ok, bind_er, bind_bad, nox_ok, A.v, A.toD, toDs, asX, asR1_i, asR2_i, dTy, D.ty, dRel, dLe, dLt, dGt, dGe, dLtX, dLen, dAdd, dSub, dMod, dDiv, dMulX, dIx, dSl, dTuple, dList, isi_int_tup, isi_int_lst, isi_int_int, isi_int_str, isi_int_bl, isi_int_non, isi_bool_tup, isi_bool_lst, isi_bool_int, isi_bool_str, isi_bool_bl, isi_bool_non, isi_str_tup, isi_str_lst, isi_str_int, isi_str_str, isi_str_bl, isi_str_non, isi_tuple_tup, isi_tuple_lst, isi_tuple_int, isi_tuple_str, isi_tuple_bl, isi_tuple_non, isi_list_tup, isi_list_lst, isi_list_int, isi_list_str, isi_list_bl, isi_list_non, dIsB, dIsN, D.isNon, dNeg, dMax2, dMin2, dAbs, gN, gT, gsC, gsN, wipeE, blankE, lend, D.scal, List.map_cons, List.map_nil, List.length_cons, List.length_nil, List.cons_append, List.nil_append, List.getElem?_cons_zero, List.getElem?_cons_succ, List.set_cons_zero, List.set_cons_succ, List.replicate, Nat.reduceAdd, Nat.reduceSub, if_true, if_false, Bool.false_eq_true, reduceIte, decide_true, decide_false, String.reduceEq, reduceCtorEq, Int.reduceLE, Int.reduceLT, Int.reduceAdd, Int.reduceSub, Int.reduceMul, Int.reduceNeg, Int.reduceToNat, Int.reduceBNe, Int.reduceBEq, dInX, dIn, Nat.reduceLeDiff, Nat.reduceLT, Bool.not_true, Bool.not_false, Int.cast_ofNat_Int, Bool.and_true, Bool.true_and, Bool.and_false, Bool.false_and, and_self, and_true, true_and, lay_tup, lay_lst, lay_int, lay_str, lay_bl, lay_non, layL_nil, layL_cons, dEq_int, dEq_str, List.length_map, List.length_range, Int.reduceEq, bb_tt, bb_tf, bb_ft, bb_ff, nm_OR, nm_MA, nm_NT, nm_RE, nm_TM, eq_self, at0, at1, at2, at3, Option.map_some])
/-! equal weights; claims -/
open Kl (ordOf ordOf_perm ordOf_pw)
open SrtO (lexB lexB_iff lexB_no)
def share (a : Int) (n k : Nat) : Int := a / n + if (k : Int) < a % n then 1 else 0
theorem sum_rep {n : Nat} : (List.replicate n (1 : Int)).sum = n := by
  induction n with
  | zero => rfl
  | succ n ih => rw [List.replicate_succ, List.sum_cons, ih]; omega
theorem sum_repx {n : Nat} {x : Int} : (List.replicate n x).sum = n * x := by
  induction n with
  | zero => simp
  | succ n ih =>
    rw [List.replicate_succ, List.sum_cons, ih, show ((n + 1 : Nat) : Int) = (n : Int) + 1 by omega, Int.add_mul]
    omega
theorem ahead_rep {n k : Nat} {x : Int} (h : k < n) : ahead (List.replicate n x) k = k := by
  unfold ahead
  rw [List.length_replicate]
  have g : ∀ j, j < n → (List.replicate n x).getD j 0 = x := fun j hj => by
    rw [List.getD_eq_getElem?_getD, List.getElem?_replicate, if_pos hj]
    exact rfl
  have e : (List.range n).countP (fun j => lexB (keyAt (List.replicate n x) j) (keyAt (List.replicate n x) k)) = (List.range n).countP (fun j => decide (j < k)) := by
    refine List.countP_congr fun j hj => ?_
    rw [List.mem_range] at hj
    rw [decide_eq_true_eq, lexB_iff]
    unfold keyAt
    dsimp only
    rw [g j hj, g k h]
    omega
  rw [e]
  have : ∀ m, m ≤ n → (List.range m).countP (fun j => decide (j < k)) = min m k := fun m => by
    induction m with
    | zero => intro _; simp
    | succ m ih =>
      intro hm
      rw [List.range_succ, List.countP_append, List.countP_singleton, ih (by omega)]
      by_cases c : m < k
      · rw [decide_eq_true c, if_pos rfl]; omega
      · rw [decide_eq_false c, if_neg (by simp)]; omega
  rw [this n (Nat.le_refl n)]
  omega
theorem one_eq {a : Int} {n k : Nat} (h : k < n) : one a (List.replicate n 1) k = share a n k := by
  unfold one share
  have e1 : fs a (List.replicate n 1) = List.replicate n (a / n) := by
    unfold fs
    rw [List.map_replicate, sum_rep, Int.mul_one]
  have e2 : rs a (List.replicate n 1) = List.replicate n (a % n) := by
    unfold rs
    rw [List.map_replicate, sum_rep, Int.mul_one]
  have e3 : miss a (List.replicate n 1) = a % n := by
    unfold miss
    rw [e1, sum_repx]
    have := Int.mul_ediv_add_emod a n
    omega
  rw [e1, e2, e3, ahead_rep h, List.getD_eq_getElem?_getD, List.getElem?_replicate, if_pos h]
  rfl
theorem wk_one {a : Int} {n : Nat} (h0 : 0 ≤ a) (h1 : a ≤ 1000000000000000000) (hn : n ≤ 200) : Wk a (List.replicate n 1) :=
  ⟨h0, h1, fun w hw => by rw [(List.mem_replicate.mp hw).2]; decide, fun w hw => by rw [(List.mem_replicate.mp hw).2]; decide, by rw [List.length_replicate]; exact hn⟩
theorem ev_even {a : Int} {n : Nat} (h0 : 0 ≤ a) (h1 : a ≤ 1000000000000000000) (hn : n ≤ 200) (hp : 0 < n) {s : Sx} : m_dealt s [.int a, .lst ((List.replicate n (1 : Int)).map .int)] = .ok (.lst ((List.range n).map fun k => .int (share a n k))) s := by
  rw [ev_dealt (wk_one h0 h1 hn), if_neg (by rw [sum_rep]; omega)]
  unfold due
  rw [List.length_replicate]
  congr 2
  exact List.map_congr_left fun k hk => by rw [one_eq (List.mem_range.mp hk)]
/-! the rule -/
abbrev Rul := Str × Int × Int
def rD (r : Rul) : D := .tup [.str r.1, .tup [.int r.2.1, .int r.2.2]]
structure Rok (r : Rul) : Prop where
  way : r.1 = "own" ∨ r.1 = "loser" ∨ r.1 = "part"
  p0 : 0 ≤ r.2.1
  p1 : r.2.1 ≤ 100
  q0 : 0 < r.2.2
  q1 : r.2.2 ≤ 100
def sh (r : Rul) (a : Int) : Int := if r.1 = "own" then 0 else if r.1 = "loser" then a else a * r.2.1 / r.2.2
theorem sh_nn {r : Rul} (h : Rok r) {a : Int} (ha : 0 ≤ a) : 0 ≤ sh r a := by
  unfold sh
  split
  · exact Int.le_refl _
  · split
    · exact ha
    · exact Int.ediv_nonneg (Int.mul_nonneg ha h.p0) (Int.le_of_lt h.q0)
theorem ev_shifted {r : Rul} (h : Rok r) {a : Int} {s : Sx} : m_shifted s [.int a, rD r] = .ok (.int (sh r a)) s := by
  obtain ⟨w, p, q⟩ := r
  have sq : q.natAbs < 2 ^ 8000 := by
    have := h.q0
    have := h.q1
    dsimp only at *
    exact Nat.lt_of_le_of_lt (show q.natAbs ≤ 100 by omega) (by decide +kernel)
  have ap : p.natAbs < 18446744073709551616 := by
    have := h.p0
    have := h.p1
    dsimp only at *
    omega
  unfold m_shifted b_shifted rD
  walk_at "ev"
  rcases h.way with e | e | e <;> dsimp only at e <;> subst e
  · walk_at "ev"
    exact rfl
  · rw [show decide (("loser" : Str) = "own") = false by decide +kernel]
    walk_at "ev"
    exact rfl
  · rw [show decide (("part" : Str) = "own") = false by decide +kernel]
    walk_at "ev"
    rw [show decide (("part" : Str) = "loser") = false by decide +kernel]
    walk_at "ev"
    rw [if_pos (mulOk_r ap)]
    walk_at "ev"
    rw [divq h.q0 sq]
    walk_at "ev"
    exact rfl
end F52
namespace F52
open PySem L2 Mi
local macro_rules | `(tactic| walk_at "ev") => `(tactic| simp -implicitDefEqProofs only [rout_ok, rout_er, oseq_nx, oseq_rt, oseq_bk, oseq_ct, oseq_er, e_seq, e_nil, e_break, e_cont, e_raise, e_retN, kDrop, e_drop, kRet, e_ret, e_cond, kCond_t, kCond_f, e_set, kSet_d, kSet_own, e_asg, kAsg_d, kAsg_own, kAsg2_some, e_par, kPar_d, e_par3, kPar3_d, e_for, kFor, e_c, e_var, slot_eq, slotO_d, slotO_own, opt_none, opt_some, e_bin, kBin_eq, kBin2_eq, e_un, kUn_eq, e_args0, e_args, kArg_eq, kArg2_eq, e_call, kCall_eq, e_fn, kFn_eq, kFn2_eq, kD_eq, e_fnB, kFnB_eq, e_bool, kBool_b, e_and, kAnd_t, kAnd_f, e_or, kOr_t, kOr_f, e_not, kNot_eq, e_andV, kAndV_b, kAndV_t, kAndV_f, e_orV, kOrV_b, kOrV_t, kOrV_f, e_notV, kNotV_b, e_if, kIf_t, kIf_f, e_tup, kTup_eq, kTup2_eq, e_lst, kLst_eq, kLst2_eq, e_it, kIt_eq, e_r1, kR1_eq, e_r2, kR2_eq, e_q, kQ_eq, e_lc, kLc_eq, e_no, e_part, kPart_i, e_sl, kSl_eq, kSl2_eq, kSl3_eq, e_chain, kCh_eq, kCh2_eq, kCh3_b, kCh4_t, kCh4_f, kCh5_eq, e_app, kApp0_own, kApp_d, kApp_own, e_frz, kFrz_own, kFrz_d, e_aug, kAug0_d, kAug_d, e_def, dout_nx, dout_rt, dout_er, e_try, tTry_nx, tTry_rt, tTry_er, tOut_rt, tOut_nx, tOut_ct, e_told, kTold_e, bind_ok, bind_er, bind_bad, nox_ok, A.v, A.toD, toDs, asX, asR1_i, asR2_i, dTy, D.ty, dRel, dLe, dLt, dGt, dGe, dLtX, dLen, dAdd, dSub, dMod, dDiv, dMulX, dIx, dSl, dTuple, dList, isi_int_tup, isi_int_lst, isi_int_int, isi_int_str, isi_int_bl, isi_int_non, isi_bool_tup, isi_bool_lst, isi_bool_int, isi_bool_str, isi_bool_bl, isi_bool_non, isi_str_tup, isi_str_lst, isi_str_int, isi_str_str, isi_str_bl, isi_str_non, isi_tuple_tup, isi_tuple_lst, isi_tuple_int, isi_tuple_str, isi_tuple_bl, isi_tuple_non, isi_list_tup, isi_list_lst, isi_list_int, isi_list_str, isi_list_bl, isi_list_non, dIsB, dIsN, D.isNon, dNeg, dMax2, dMin2, dAbs, gN, gT, gsC, gsN, wipeE, blankE, lend, D.scal, List.map_cons, List.map_nil, List.length_cons, List.length_nil, List.cons_append, List.nil_append, List.getElem?_cons_zero, List.getElem?_cons_succ, List.set_cons_zero, List.set_cons_succ, List.replicate, Nat.reduceAdd, Nat.reduceSub, if_true, if_false, Bool.false_eq_true, reduceIte, decide_true, decide_false, String.reduceEq, reduceCtorEq, Int.reduceLE, Int.reduceLT, Int.reduceAdd, Int.reduceSub, Int.reduceMul, Int.reduceNeg, Int.reduceToNat, Int.reduceBNe, Int.reduceBEq, dInX, dIn, Nat.reduceLeDiff, Nat.reduceLT, Bool.not_true, Bool.not_false, Int.cast_ofNat_Int, Bool.and_true, Bool.true_and, Bool.and_false, Bool.false_and, and_self, and_true, true_and, lay_tup, lay_lst, lay_int, lay_str, lay_bl, lay_non, layL_nil, layL_cons, dEq_int, dEq_str, List.length_map, List.length_range, Int.reduceEq, bb_tt, bb_tf, bb_ft, bb_ff, nm_OR, nm_MA, nm_NT, nm_RE, nm_TM, eq_self, at0, at1, at2, at3, Option.map_some])
/-! claims, debts, net -/
abbrev Exp := Str × Int × List Str
def xD (x : Exp) : D := .tup [.str x.1, .int x.2.1, .tup (x.2.2.map .str)]
structure Xok (x : Exp) : Prop where
  a0 : 0 ≤ x.2.1
  a1 : x.2.1 ≤ 1000000000000
  h0 : 0 < x.2.2.length
  h1 : x.2.2.length ≤ 7
def one1 (r : Rul) (x : Exp) (k : Nat) : Clm := (x.2.2.getD k "", x.1, sh r (share x.2.1 x.2.2.length k))
def raw (r : Rul) (x : Exp) : List Clm := (List.range x.2.2.length).map (one1 r x)
def Cs (r : Rul) (E : List Exp) : List Clm := E.flatMap (raw r)
theorem share_nn {a : Int} {n k : Nat} (h : 0 ≤ a) : 0 ≤ share a n k := by
  unfold share
  have : 0 ≤ a / (n : Int) := Int.ediv_nonneg h (by omega)
  split <;> omega
theorem cs_nn {r : Rul} (hr : Rok r) {E : List Exp} (h : ∀ x ∈ E, Xok x) : ∀ c ∈ Cs r E, 0 ≤ c.2.2 := fun c hc => by
  obtain ⟨x, hx, hc⟩ := List.mem_flatMap.mp hc
  obtain ⟨k, _, rfl⟩ := List.mem_map.mp hc
  exact sh_nn hr (share_nn (h x hx).a0)
theorem zp_map {α : Type} {f g : α → D} : ∀ {xs : List α}, zpD (xs.map f) (xs.map g) = xs.map fun x => .tup [f x, g x]
  | [] => rfl
  | x :: xs => by
    rw [List.map_cons, List.map_cons, List.map_cons, ← zp_map]
    rfl
theorem str_map {hs : List Str} : hs.map D.str = (List.range hs.length).map fun k => D.str (hs.getD k "") := by
  refine List.ext_getElem? fun i => ?_
  rw [List.getElem?_map, List.getElem?_map]
  by_cases c : i < hs.length
  · rw [List.getElem?_range c, List.getElem?_eq_getElem c, Option.map_some, Option.map_some, List.getD_eq_getElem?_getD, List.getElem?_eq_getElem c]
    rfl
  · rw [List.getElem?_eq_none (by omega), List.getElem?_eq_none (by rw [List.length_range]; omega)]
    rfl
theorem rep_flat {n : Nat} : (List.replicate n [D.int 1]).flatten = (List.replicate n (1 : Int)).map .int := by
  induction n with
  | zero => rfl
  | succ n ih => rw [List.replicate_succ, List.flatten_cons, ih]; rfl
theorem raw_len {r : Rul} {x : Exp} : (raw r x).length = x.2.2.length := by unfold raw; rw [List.length_map, List.length_range]
theorem cs_len {r : Rul} : ∀ {E : List Exp}, (∀ x ∈ E, Xok x) → (Cs r E).length ≤ 7 * E.length
  | [], _ => Nat.le_refl _
  | x :: E, h => by
    unfold Cs
    rw [List.flatMap_cons, List.length_append, raw_len, List.length_cons]
    have := (h x List.mem_cons_self).h1
    have := cs_len (r := r) fun y hy => h y (List.mem_cons_of_mem _ hy)
    unfold Cs at this
    omega
theorem ev_claims {r : Rul} (hr : Rok r) {E : List Exp} (h : ∀ x ∈ E, Xok x) (hl : E.length ≤ 12) {s : Sx} : m_claims s [.lst (E.map xD), rD r] = .ok (.lst (((Cs r E).filter fun c => decide (0 < c.2.2)).map cD)) s := by
  unfold m_claims b_claims
  walk_at "ev"
  refine foMq (c := xD) (fun o => dout (oseq o _) = _)
    (fun pre e s' => s' = s ∧ ∃ o3 o4 o5 o6 o7, e = [some (A.d (.lst (E.map xD))), some (A.d (rD r)), some (.own ((Cs r pre).map cD)), o3, o4, o5, o6, o7, none]) (pre := []) (all := E) rfl ⟨rfl, none, none, none, none, none, rfl⟩ ?_ ?_
  · rintro pre x post e s' hp ⟨rfl, o3, o4, o5, o6, o7, rfl⟩
    have hx : x ∈ E := by rw [← hp]; simp
    have kx := h x hx
    have hpre : ∀ y ∈ pre, Xok y := fun y hy => h y (by rw [← hp]; simp [hy])
    have lp : pre.length ≤ 12 := by
      have := congrArg List.length hp
      rw [List.length_append, List.length_cons] at this
      omega
    obtain ⟨sp, am, hs⟩ := x
    dsimp only [xD]
    refine ⟨_, rfl, ?_⟩
    walk_at "ev"
    have n0 := kx.h0
    have n1 := kx.h1
    dsimp only at n0 n1
    rw [e_itZ]
    walk_at "ev"
    rw [if_pos (by rw [Int.toNat_natCast]; omega), Int.toNat_natCast, rep_flat]
    walk_at "ev"
    rw [ev_even kx.a0 (by have := kx.a1; dsimp only at this ⊢; omega) (by omega) n0]
    walk_at "ev"
    rw [kItZ_eq, asP_tl, str_map, zp_map]
    walk_at "ev"
    refine foMq (c := fun k => D.tup [.str (hs.getD k ""), .int (share am hs.length k)]) (fun o => Goes _ o)
      (fun q e s3 => s3 = s' ∧ ∃ o6 o7, e = [some (A.d (.lst (E.map xD))), some (A.d (rD r)), some (.own ((Cs r pre ++ q.map (one1 r (sp, am, hs))).map cD)), some (.d (.str sp)), some (.d (.int am)), some (.d (.tup ((List.range hs.length).map fun k => D.str (hs.getD k "")))), o6, o7, none]) (pre := []) (all := List.range hs.length) rfl ⟨rfl, o6, o7, by rw [List.map_nil, List.append_nil]⟩ ?_ ?_
    · rintro q k post' e s3 hq ⟨rfl, o6, o7, rfl⟩
      refine ⟨_, rfl, ?_⟩
      have lq : q.length ≤ 7 := by
        have := congrArg List.length hq
        rw [List.length_append, List.length_cons, List.length_range] at this
        omega
      have lc := cs_len (r := r) hpre
      walk_at "ev"
      rw [ev_shifted hr]
      walk_at "ev"
      rw [if_pos (by rw [List.length_append, List.length_map]; omega)]
      refine goes_nx ⟨rfl, some (.d (.str (hs.getD k ""))), some (.d (.int (share am hs.length k))), ?_⟩
      rw [show List.map cD (Cs r pre ++ List.map (one1 r (sp, am, hs)) q) ++ [D.tup [D.str (hs.getD k (Str.ofString "")), D.str sp, D.int (sh r (share am hs.length k))]] = List.map cD (Cs r pre ++ List.map (one1 r (sp, am, hs)) (q ++ [k])) by
        rw [List.map_append, List.map_append, List.map_append, List.map_append, List.append_assoc]
        rfl]
    · rintro e s3 ⟨rfl, o6, o7, rfl⟩
      refine goes_nx ⟨rfl, some (.d (.str sp)), some (.d (.int am)), some (.d (.tup ((List.range hs.length).map fun k => D.str (hs.getD k "")))), o6, o7, ?_⟩
      rw [show Cs r (pre ++ [(sp, am, hs)]) = Cs r pre ++ (List.range hs.length).map (one1 r (sp, am, hs)) by
        unfold Cs
        rw [List.flatMap_append, List.flatMap_cons, List.flatMap_nil, List.append_nil]
        rfl]
  · rintro e s' ⟨rfl, o3, o4, o5, o6, o7, rfl⟩
    have lc := cs_len (r := r) h
    walk_at "ev"
    rw [lcM_mp (c := cD) (t := fun c => decide (0 < c.2.2)) (f := cD) (fun c _ => ⟨_, rfl, by
      unfold cD
      walk_at "ev", fun _ => ⟨_, by walk_at "ev"; rfl, rfl⟩⟩) (by simp only [List.length_nil]; omega)]
    walk_at "ev"
end F52
namespace F52
open PySem L2 Mi
local macro_rules | `(tactic| walk_at "ev") => `(tactic| simp -implicitDefEqProofs only [rout_ok, rout_er, oseq_nx, oseq_rt, oseq_bk, oseq_ct, oseq_er, e_seq, e_nil, e_break, e_cont, e_raise, e_retN, kDrop, e_drop, kRet, e_ret, e_cond, kCond_t, kCond_f, e_set, kSet_d, kSet_own, e_asg, kAsg_d, kAsg_own, kAsg2_some, e_par, kPar_d, e_par3, kPar3_d, e_for, kFor, e_c, e_var, slot_eq, slotO_d, slotO_own, opt_none, opt_some, e_bin, kBin_eq, kBin2_eq, e_un, kUn_eq, e_args0, e_args, kArg_eq, kArg2_eq, e_call, kCall_eq, e_fn, kFn_eq, kFn2_eq, kD_eq, e_fnB, kFnB_eq, e_bool, kBool_b, e_and, kAnd_t, kAnd_f, e_or, kOr_t, kOr_f, e_not, kNot_eq, e_andV, kAndV_b, kAndV_t, kAndV_f, e_orV, kOrV_b, kOrV_t, kOrV_f, e_notV, kNotV_b, e_if, kIf_t, kIf_f, e_tup, kTup_eq, kTup2_eq, e_lst, kLst_eq, kLst2_eq, e_it, kIt_eq, e_r1, kR1_eq, e_r2, kR2_eq, e_q, kQ_eq, e_lc, kLc_eq, e_no, e_part, kPart_i, e_sl, kSl_eq, kSl2_eq, kSl3_eq, e_chain, kCh_eq, kCh2_eq, kCh3_b, kCh4_t, kCh4_f, kCh5_eq, e_app, kApp0_own, kApp_d, kApp_own, e_frz, kFrz_own, kFrz_d, e_aug, kAug0_d, kAug_d, e_def, dout_nx, dout_rt, dout_er, e_try, tTry_nx, tTry_rt, tTry_er, tOut_rt, tOut_nx, tOut_ct, e_told, kTold_e, bind_ok, bind_er, bind_bad, nox_ok, A.v, A.toD, toDs, asX, asR1_i, asR2_i, dTy, D.ty, dRel, dLe, dLt, dGt, dGe, dLtX, dLen, dAdd, dSub, dMod, dDiv, dMulX, dIx, dSl, dTuple, dList, isi_int_tup, isi_int_lst, isi_int_int, isi_int_str, isi_int_bl, isi_int_non, isi_bool_tup, isi_bool_lst, isi_bool_int, isi_bool_str, isi_bool_bl, isi_bool_non, isi_str_tup, isi_str_lst, isi_str_int, isi_str_str, isi_str_bl, isi_str_non, isi_tuple_tup, isi_tuple_lst, isi_tuple_int, isi_tuple_str, isi_tuple_bl, isi_tuple_non, isi_list_tup, isi_list_lst, isi_list_int, isi_list_str, isi_list_bl, isi_list_non, dIsB, dIsN, D.isNon, dNeg, dMax2, dMin2, dAbs, gN, gT, gsC, gsN, wipeE, blankE, lend, D.scal, List.map_cons, List.map_nil, List.length_cons, List.length_nil, List.cons_append, List.nil_append, List.getElem?_cons_zero, List.getElem?_cons_succ, List.set_cons_zero, List.set_cons_succ, List.replicate, Nat.reduceAdd, Nat.reduceSub, if_true, if_false, Bool.false_eq_true, reduceIte, decide_true, decide_false, String.reduceEq, reduceCtorEq, Int.reduceLE, Int.reduceLT, Int.reduceAdd, Int.reduceSub, Int.reduceMul, Int.reduceNeg, Int.reduceToNat, Int.reduceBNe, Int.reduceBEq, dInX, dIn, Nat.reduceLeDiff, Nat.reduceLT, Bool.not_true, Bool.not_false, Int.cast_ofNat_Int, Bool.and_true, Bool.true_and, Bool.and_false, Bool.false_and, and_self, and_true, true_and, lay_tup, lay_lst, lay_int, lay_str, lay_bl, lay_non, layL_nil, layL_cons, dEq_int, dEq_str, List.length_map, List.length_range, Int.reduceEq, bb_tt, bb_tf, bb_ft, bb_ff, nm_OR, nm_MA, nm_NT, nm_RE, nm_TM, eq_self, at0, at1, at2, at3, Option.map_some])
/-! debts, net -/
def dct (J : List Fnd) : List (Key × D) := J.foldl (fun acc f => putG acc (Sum.inr f.1 : Key) (.tup [.str f.2.1, .str f.2.2])) []
theorem dct_get {J : List Fnd} (h : Once J) {k : Str} : (DO.k (dct J)).get (.str k) = some ((J.find? fun f => decide (f.1 = k)).map fun f => .tup [.str f.2.1, .str f.2.2]) := by
  show some (getG (dct J) (Sum.inr k : Key)) = _
  unfold dct
  rw [getG_foldl (kf := fun f : Fnd => (Sum.inr f.1 : Key)) (vf := fun f : Fnd => D.tup [.str f.2.1, .str f.2.2]) (h.imp fun h z => h (Sum.inr.inj z))]
  have e : J.find? (fun f => decide ((Sum.inr f.1 : Key) = Sum.inr k)) = J.find? (fun f => decide (f.1 = k)) := by
    congr 1
    funext f
    by_cases c : f.1 = k
    · rw [decide_eq_true c, decide_eq_true (by rw [c])]
    · rw [decide_eq_false c, decide_eq_false (fun z => c (Sum.inr.inj z))]
  rw [e]
  cases J.find? (fun f => decide (f.1 = k)) <;> rfl
theorem ev_debts {C : List Clm} {J : List Fnd} (h : Once J) (hl : C.length ≤ 1000) (hj : J.length ≤ 1000) {s : Sx} : m_debts_by s [.lst (C.map cD), .tup (J.map fD)] = .ok (.lst ((C.filterMap (dbt J)).map cD)) s := by
  unfold m_debts_by b_debts_by
  walk_at "ev"
  rw [e_dc]
  walk_at "ev"
  rw [dcM_ma (kf := fun f : Fnd => (Sum.inr f.1 : Key)) (vf := fun f : Fnd => D.tup [.str f.2.1, .str f.2.2]) (c := fD) (fun f _ => ⟨_, .d (.str f.1), .d (.tup [.str f.2.1, .str f.2.2]), rfl, by
    unfold fD
    walk_at "ev", rfl, by walk_at "ev", rfl⟩) (by simp only [List.length_nil]; omega)]
  rw [show J.foldl (fun acc f => putG acc (Sum.inr f.1 : Key) (.tup [.str f.2.1, .str f.2.2])) [] = dct J from rfl]
  rw [rout_ok, kSet_od]
  walk_at "ev"
  refine foMq (c := cD) (fun o => dout (oseq o _) = _)
    (fun pre e s' => s' = s ∧ ∃ o2 o5 o6, e = [some (A.d (.lst (C.map cD))), some (A.d (.tup (J.map fD))), o2, some (.od (.k (dct J))), some (.own ((pre.filterMap (dbt J)).map cD)), o5, o6, none, none]) (pre := []) (all := C) rfl ⟨rfl, none, none, none, rfl⟩ ?_ ?_
  · rintro pre x post e s' hp ⟨rfl, o2, o5, o6, rfl⟩
    have lp : pre.length ≤ 1000 := by
      have := congrArg List.length hp
      rw [List.length_append, List.length_cons] at this
      omega
    have lf : (pre.filterMap (dbt J)).length ≤ 1000 := Nat.le_trans (List.length_filterMap_le _ _) lp
    obtain ⟨hd, pa, am⟩ := x
    refine ⟨_, rfl, ?_⟩
    dsimp only
    walk_at "ev"
    rw [e_dIn (y := .d (.str hd)) (s1 := s') (dslot_od rfl) (by walk_at "ev") (dct_get h)]
    have fin : (pre ++ [(hd, pa, am)]).filterMap (dbt J) = pre.filterMap (dbt J) ++ (dbt J (hd, pa, am)).toList := by
      rw [List.filterMap_append, List.filterMap_cons]
      cases dbt J (hd, pa, am) <;> rfl
    have q0 : dbt J (hd, pa, am) = match J.find? (fun f => decide (f.1 = hd)) with
      | some f => if f.2.1 = pa then some (f.2.2, pa, am) else none
      | none => none := rfl
    cases q : J.find? (fun f => decide (f.1 = hd)) with
    | none =>
      walk_at "ev"
      simp only [Option.map_none, Option.isSome_none]
      walk_at "ev"
      refine goes_nx ⟨rfl, some (.d (.str hd)), some (.d (.str pa)), some (.d (.int am)), ?_⟩
      rw [fin, q0, q]
      dsimp only
      rw [show (none : Option Clm).toList = [] from rfl, List.append_nil]
    | some f =>
      simp only [Option.map_some, Option.isSome_some]
      walk_at "ev"
      rw [e_dGet (y := .d (.str hd)) (s1 := s') (dslot_od rfl) (by walk_at "ev") ((dct_get h).trans (by rw [q]; rfl))]
      walk_at "ev"
      by_cases c : f.2.1 = pa
      · rw [decide_eq_true c]
        walk_at "ev"
        rw [e_dGet (y := .d (.str hd)) (s1 := s') (dslot_od rfl) (by walk_at "ev") ((dct_get h).trans (by rw [q]; rfl))]
        walk_at "ev"
        rw [if_pos (by omega)]
        refine goes_nx ⟨rfl, some (.d (.str hd)), some (.d (.str pa)), some (.d (.int am)), ?_⟩
        rw [fin, q0, q]
        dsimp only
        rw [if_pos c, List.map_append]
        rfl
      · rw [decide_eq_false c]
        walk_at "ev"
        refine goes_nx ⟨rfl, some (.d (.str hd)), some (.d (.str pa)), some (.d (.int am)), ?_⟩
        rw [fin, q0, q]
        dsimp only
        rw [if_neg c, show (none : Option Clm).toList = [] from rfl, List.append_nil]
  · rintro e s' ⟨rfl, o2, o5, o6, rfl⟩
    walk_at "ev"
theorem ev_net {ds : List Clm} (hl : ds.length ≤ 1000) {p : Str} {s : Sx} : m_net_of s [.lst (ds.map cD), .str p] = .ok (.int (net p ds)) s := by
  unfold m_net_of b_net_of
  walk_at "ev"
  rw [lcM_mp (c := cD) (t := fun d => decide (d.1 = p)) (f := fun d => .int d.2.2) (fun d _ => ⟨_, rfl, by
    unfold cD
    walk_at "ev", fun _ => ⟨_, by walk_at "ev"; rfl, rfl⟩⟩) (by simp only [List.length_nil]; omega)]
  walk_at "ev"
  rw [show (ds.filter fun d => decide (d.1 = p)).map (fun d => D.int d.2.2) = ((ds.filter fun d => decide (d.1 = p)).map (·.2.2)).map D.int by rw [List.map_map]; rfl, sum_ok]
  walk_at "ev"
  rw [lcM_mp (c := cD) (t := fun d => decide (d.2.1 = p)) (f := fun d => .int d.2.2) (fun d _ => ⟨_, rfl, by
    unfold cD
    walk_at "ev", fun _ => ⟨_, by walk_at "ev"; rfl, rfl⟩⟩) (by simp only [List.length_nil]; omega)]
  walk_at "ev"
  rw [show (ds.filter fun d => decide (d.2.1 = p)).map (fun d => D.int d.2.2) = ((ds.filter fun d => decide (d.2.1 = p)).map (·.2.2)).map D.int by rw [List.map_map]; rfl, sum_ok]
  walk_at "ev"
  rfl
end F52
namespace F52
open PySem L2 Mi
local macro_rules | `(tactic| walk_at "ev") => `(tactic| simp -implicitDefEqProofs only [rout_ok, rout_er, oseq_nx, oseq_rt, oseq_bk, oseq_ct, oseq_er, e_seq, e_nil, e_break, e_cont, e_raise, e_retN, kDrop, e_drop, kRet, e_ret, e_cond, kCond_t, kCond_f, e_set, kSet_d, kSet_own, e_asg, kAsg_d, kAsg_own, kAsg2_some, e_par, kPar_d, e_par3, kPar3_d, e_for, kFor, e_c, e_var, slot_eq, slotO_d, slotO_own, opt_none, opt_some, e_bin, kBin_eq, kBin2_eq, e_un, kUn_eq, e_args0, e_args, kArg_eq, kArg2_eq, e_call, kCall_eq, e_fn, kFn_eq, kFn2_eq, kD_eq, e_fnB, kFnB_eq, e_bool, kBool_b, e_and, kAnd_t, kAnd_f, e_or, kOr_t, kOr_f, e_not, kNot_eq, e_andV, kAndV_b, kAndV_t, kAndV_f, e_orV, kOrV_b, kOrV_t, kOrV_f, e_notV, kNotV_b, e_if, kIf_t, kIf_f, e_tup, kTup_eq, kTup2_eq, e_lst, kLst_eq, kLst2_eq, e_it, kIt_eq, e_r1, kR1_eq, e_r2, kR2_eq, e_q, kQ_eq, e_lc, kLc_eq, e_no, e_part, kPart_i, e_sl, kSl_eq, kSl2_eq, kSl3_eq, e_chain, kCh_eq, kCh2_eq, kCh3_b, kCh4_t, kCh4_f, kCh5_eq, e_app, kApp0_own, kApp_d, kApp_own, e_frz, kFrz_own, kFrz_d, e_aug, kAug0_d, kAug_d, e_def, dout_nx, dout_rt, dout_er, e_try, tTry_nx, tTry_rt, tTry_er, tOut_rt, tOut_nx, tOut_ct, e_told, kTold_e, bind_ok, bind_er, bind_bad, nox_ok, A.v, A.toD, toDs, asX, asR1_i, asR2_i, dTy, D.ty, dRel, dLe, dLt, dGt, dGe, dLtX, dLen, dAdd, dSub, dMod, dDiv, dMulX, dIx, dSl, dTuple, dList, isi_int_tup, isi_int_lst, isi_int_int, isi_int_str, isi_int_bl, isi_int_non, isi_bool_tup, isi_bool_lst, isi_bool_int, isi_bool_str, isi_bool_bl, isi_bool_non, isi_str_tup, isi_str_lst, isi_str_int, isi_str_str, isi_str_bl, isi_str_non, isi_tuple_tup, isi_tuple_lst, isi_tuple_int, isi_tuple_str, isi_tuple_bl, isi_tuple_non, isi_list_tup, isi_list_lst, isi_list_int, isi_list_str, isi_list_bl, isi_list_non, dIsB, dIsN, D.isNon, dNeg, dMax2, dMin2, dAbs, gN, gT, gsC, gsN, wipeE, blankE, lend, D.scal, List.map_cons, List.map_nil, List.length_cons, List.length_nil, List.cons_append, List.nil_append, List.getElem?_cons_zero, List.getElem?_cons_succ, List.set_cons_zero, List.set_cons_succ, List.replicate, Nat.reduceAdd, Nat.reduceSub, if_true, if_false, Bool.false_eq_true, reduceIte, decide_true, decide_false, String.reduceEq, reduceCtorEq, Int.reduceLE, Int.reduceLT, Int.reduceAdd, Int.reduceSub, Int.reduceMul, Int.reduceNeg, Int.reduceToNat, Int.reduceBNe, Int.reduceBEq, dInX, dIn, Nat.reduceLeDiff, Nat.reduceLT, Bool.not_true, Bool.not_false, Int.cast_ofNat_Int, Bool.and_true, Bool.true_and, Bool.and_false, Bool.false_and, and_self, and_true, true_and, lay_tup, lay_lst, lay_int, lay_str, lay_bl, lay_non, layL_nil, layL_cons, dEq_int, dEq_str, List.length_map, List.length_range, Int.reduceEq, bb_tt, bb_tf, bb_ft, bb_ff, nm_OR, nm_MA, nm_NT, nm_RE, nm_TM, eq_self, at0, at1, at2, at3, Option.map_some])
/-! the greatest burden, as it is read -/
def cl (r : Rul) (E : List Exp) : List Clm := (Cs r E).filter fun c => decide (0 < c.2.2)
structure Eok (r : Rul) (E : List Exp) : Prop where
  r : Rok r
  x : ∀ x ∈ E, Xok x
  l : E.length ≤ 12
theorem cl_len {r : Rul} {E : List Exp} (k : Eok r E) : (cl r E).length ≤ 84 := by
  have h1 := cs_len (r := r) k.x
  have h2 := k.l
  have h3 : (cl r E).length ≤ (Cs r E).length := List.length_filter_le _ _
  omega
theorem net_cl {r : Rul} {E : List Exp} (k : Eok r E) {p : Str} {J : List Fnd} (h : Once J) : net p ((cl r E).filterMap (dbt J)) = W p (Cs r E) J := by
  rw [net_debts h]
  exact W_pos (cs_nn k.r k.x)
theorem fm_len {r : Rul} {E : List Exp} (k : Eok r E) {J : List Fnd} : ((cl r E).filterMap (dbt J)).length ≤ 1000 := by
  have := cl_len k
  have := List.length_filterMap_le (dbt J) (cl r E)
  omega
theorem ev_cl {r : Rul} {E : List Exp} (k : Eok r E) {s : Sx} : m_claims s [.lst (E.map xD), rD r] = .ok (.lst ((cl r E).map cD)) s := ev_claims k.r k.x k.l
theorem ev_debts1 {C : List Clm} {a b c : Str} (hl : C.length ≤ 1000) {s : Sx} : m_debts_by s [.lst (C.map cD), .tup [.tup [.str a, .str b, .str c]]] = .ok (.lst ((C.filterMap (dbt [(a, b, c)])).map cD)) s :=
  ev_debts (J := [(a, b, c)]) (List.pairwise_singleton _ _) hl (by simp)
theorem W_single {p : Str} {C : List Clm} {f : Fnd} : W p C [f] = t p C f := by
  rw [W_t]
  simp
theorem net_one {r : Rul} {E : List Exp} (k : Eok r E) {p : Str} {f : Fnd} : net p ((cl r E).filterMap (dbt [f])) = t p (Cs r E) f := by
  rw [net_cl k (List.pairwise_singleton _ _), W_single]
theorem ev_burden {r : Rul} {E : List Exp} (k : Eok r E) {J : List Fnd} (h : Once J) (hj : J.length ≤ 1000) {p : Str} {s : Sx} : m_burden s [.lst (E.map xD), .tup (J.map fD), rD r, .str p] = .ok (.int (W p (Cs r E) J)) s := by
  unfold m_burden b_burden
  have := cl_len k
  walk_at "ev"
  rw [ev_cl k]
  walk_at "ev"
  rw [ev_debts h (by omega) hj]
  walk_at "ev"
  rw [ev_net (fm_len k)]
  walk_at "ev"
  rw [net_cl k h]
def leF (a b : Fnd) : Bool := leD (fD a) (fD b)
/-- sorted -/
def srt (L : List Fnd) : List Fnd := L.mergeSort leF
theorem srt_perm (L : List Fnd) : (srt L).Perm L := List.mergeSort_perm L leF
theorem lay_fD {f : Fnd} {n : Nat} : lay (fD f) (n + 1) = true := by
  unfold fD
  simp only [lay_tup, layL_cons, layL_nil, lay_str, Bool.and_true]
theorem sort_ok {L : List Fnd} : sortOk (L.map fD) = true := by
  unfold sortOk
  simp only [Bool.and_eq_true, Bool.or_eq_true, List.all_eq_true, List.mem_map]
  refine ⟨?_, ?_, .inl ?_⟩
  · rintro d ⟨f, _, rfl⟩
    exact lay_fD
  · rintro d ⟨f, _, rfl⟩ d' ⟨g, _, rfl⟩
    unfold fD
    simp [pyD, pyDs, PySem.W.alike, PySem.W.alikeAll]
  · rintro d ⟨f, _, rfl⟩
    rfl
theorem srt_map {L : List Fnd} : (L.map fD).mergeSort leD = (srt L).map fD := by
  unfold srt
  exact (List.map_mergeSort (r := leF) (s := leD) (f := fD) (l := L) fun a _ b _ => rfl).symm
theorem sort_l {L : List Fnd} : dSortD [.lst (L.map fD)] = some (.own ((srt L).map fD)) := by
  unfold dSortD
  dsimp only
  rw [if_pos sort_ok, srt_map]
theorem sort_t {L : List Fnd} : dSortD [.tup (L.map fD)] = some (.own ((srt L).map fD)) := by
  unfold dSortD
  dsimp only
  rw [if_pos sort_ok, srt_map]
/-- the worst judgment -/
def worst (p : Str) (C : List Clm) (J O : List Fnd) : List Fnd := srt (J ++ O.map (pick p C))
def clash (J O : List Fnd) : Bool := O.any fun o => J.any fun f => decide (f.1 = o.1)
theorem once_perm {J K : List Fnd} (h : J.Perm K) (o : Once J) : Once K := (h.pairwise_iff fun {a b} z y => z y.symm).mp o
theorem once_worst {p : Str} {C : List Clm} {J O : List Fnd} (h : Once (J ++ O)) : Once (worst p C J O) := by
  refine once_perm (srt_perm _).symm ?_
  have e : ∀ f, (pick p C f).1 = f.1 := fun f => by
    unfold pick
    split <;> rfl
  unfold Once at h ⊢
  rw [List.pairwise_append] at h ⊢
  refine ⟨h.1, List.pairwise_map.mpr (h.2.1.imp fun {a b} z => by rw [e, e]; exact z), fun a ha b hb => ?_⟩
  obtain ⟨f, hf, rfl⟩ := List.mem_map.mp hb
  rw [e]
  exact h.2.2 a ha f hf
end F52
namespace F52
open PySem L2 Mi
local macro_rules | `(tactic| walk_at "ev") => `(tactic| simp -implicitDefEqProofs only [rout_ok, rout_er, oseq_nx, oseq_rt, oseq_bk, oseq_ct, oseq_er, e_seq, e_nil, e_break, e_cont, e_raise, e_retN, kDrop, e_drop, kRet, e_ret, e_cond, kCond_t, kCond_f, e_set, kSet_d, kSet_own, e_asg, kAsg_d, kAsg_own, kAsg2_some, e_par, kPar_d, e_par3, kPar3_d, e_for, kFor, e_c, e_var, slot_eq, slotO_d, slotO_own, opt_none, opt_some, e_bin, kBin_eq, kBin2_eq, e_un, kUn_eq, e_args0, e_args, kArg_eq, kArg2_eq, e_call, kCall_eq, e_fn, kFn_eq, kFn2_eq, kD_eq, e_fnB, kFnB_eq, e_bool, kBool_b, e_and, kAnd_t, kAnd_f, e_or, kOr_t, kOr_f, e_not, kNot_eq, e_andV, kAndV_b, kAndV_t, kAndV_f, e_orV, kOrV_b, kOrV_t, kOrV_f, e_notV, kNotV_b, e_if, kIf_t, kIf_f, e_tup, kTup_eq, kTup2_eq, e_lst, kLst_eq, kLst2_eq, e_it, kIt_eq, e_r1, kR1_eq, e_r2, kR2_eq, e_q, kQ_eq, e_lc, kLc_eq, e_no, e_part, kPart_i, e_sl, kSl_eq, kSl2_eq, kSl3_eq, e_chain, kCh_eq, kCh2_eq, kCh3_b, kCh4_t, kCh4_f, kCh5_eq, e_app, kApp0_own, kApp_d, kApp_own, e_frz, kFrz_own, kFrz_d, e_aug, kAug0_d, kAug_d, e_def, dout_nx, dout_rt, dout_er, e_try, tTry_nx, tTry_rt, tTry_er, tOut_rt, tOut_nx, tOut_ct, e_told, kTold_e, bind_ok, bind_er, bind_bad, nox_ok, A.v, A.toD, toDs, asX, asR1_i, asR2_i, dTy, D.ty, dRel, dLe, dLt, dGt, dGe, dLtX, dLen, dAdd, dSub, dMod, dDiv, dMulX, dIx, dSl, dTuple, dList, isi_int_tup, isi_int_lst, isi_int_int, isi_int_str, isi_int_bl, isi_int_non, isi_bool_tup, isi_bool_lst, isi_bool_int, isi_bool_str, isi_bool_bl, isi_bool_non, isi_str_tup, isi_str_lst, isi_str_int, isi_str_str, isi_str_bl, isi_str_non, isi_tuple_tup, isi_tuple_lst, isi_tuple_int, isi_tuple_str, isi_tuple_bl, isi_tuple_non, isi_list_tup, isi_list_lst, isi_list_int, isi_list_str, isi_list_bl, isi_list_non, dIsB, dIsN, D.isNon, dNeg, dMax2, dMin2, dAbs, gN, gT, gsC, gsN, wipeE, blankE, lend, D.scal, List.map_cons, List.map_nil, List.length_cons, List.length_nil, List.cons_append, List.nil_append, List.getElem?_cons_zero, List.getElem?_cons_succ, List.set_cons_zero, List.set_cons_succ, List.replicate, Nat.reduceAdd, Nat.reduceSub, if_true, if_false, Bool.false_eq_true, reduceIte, decide_true, decide_false, String.reduceEq, reduceCtorEq, Int.reduceLE, Int.reduceLT, Int.reduceAdd, Int.reduceSub, Int.reduceMul, Int.reduceNeg, Int.reduceToNat, Int.reduceBNe, Int.reduceBEq, dInX, dIn, Nat.reduceLeDiff, Nat.reduceLT, Bool.not_true, Bool.not_false, Int.cast_ofNat_Int, Bool.and_true, Bool.true_and, Bool.and_false, Bool.false_and, and_self, and_true, true_and, lay_tup, lay_lst, lay_int, lay_str, lay_bl, lay_non, layL_nil, layL_cons, dEq_int, dEq_str, List.length_map, List.length_range, Int.reduceEq, bb_tt, bb_tf, bb_ft, bb_ff, nm_OR, nm_MA, nm_NT, nm_RE, nm_TM, eq_self, at0, at1, at2, at3, Option.map_some])
theorem any_in {J O : List Fnd} : (O.any fun o => decide (o.1 ∈ J.map (·.1))) = clash J O := by
  unfold clash
  congr 1
  funext o
  rw [Bool.eq_iff_iff, decide_eq_true_eq, List.any_eq_true, List.mem_map]
  constructor
  · rintro ⟨f, hf, e⟩
    exact ⟨f, hf, decide_eq_true e⟩
  · rintro ⟨f, hf, e⟩
    exact ⟨f, hf, of_decide_eq_true e⟩
theorem memD_strs {v : Str} {J : List Fnd} : (flatD (.str v) && (J.map fun f => D.str f.1).all flatD) = true ∧ memD (.str v) (J.map fun f => D.str f.1) = decide (v ∈ J.map (·.1)) := by
  constructor
  · rw [List.all_map]
    exact List.all_eq_true.mpr fun _ _ => rfl
  · unfold memD
    rw [Bool.eq_iff_iff, decide_eq_true_eq, List.any_map, List.any_eq_true, List.mem_map]
    constructor
    · rintro ⟨x, hx, h⟩
      have h : eqV (.str x.1) (.str v) = true := h
      exact ⟨x, hx, by simpa [eqV] using h⟩
    · rintro ⟨x, hx, h⟩
      exact ⟨x, hx, show eqV (.str x.1) (.str v) = true by simp [eqV, h]⟩
theorem ev_great {r : Rul} {E : List Exp} (k : Eok r E) {J O : List Fnd} (h : Once (J ++ O) ∨ clash J O = true ∨ 12 < J.length + O.length) (hj : J.length ≤ 100) (ho : O.length ≤ 100) {p : Str} {s : Sx} :
    m_greatest_burden s [.lst (E.map xD), .tup (J.map fD), .tup (O.map fD), rD r, .str p] = if clash J O = true then .er .RE s else if 12 < J.length + O.length then .er .TM s else .ok (.tup [.int (W p (Cs r E) (worst p (Cs r E) J O)), .tup ((worst p (Cs r E) J O).map fD)]) s := by
  unfold m_greatest_burden b_greatest_burden
  have lc := cl_len k
  walk_at "ev"
  rw [lcM_ma (c := fD) (f := fun f => .str f.1) (fun f _ => ⟨_, .d (.str f.1), rfl, by
    unfold fD
    walk_at "ev", rfl⟩) (by omega)]
  walk_at "ev"
  rw [qM_anyp (c := fD) (p := fun o => decide (o.1 ∈ J.map (·.1))) (fun o _ => ⟨_, rfl, by
    unfold fD
    walk_at "ev"
    rw [if_pos memD_strs.1, memD_strs.2, opt_some]⟩), any_in]
  cases hc : clash J O with
  | true =>
    walk_at "ev"
  | false =>
    walk_at "ev"
    rw [show c_MOST_FINDINGS = D.int 12 from rfl]
    walk_at "ev"
    by_cases hn : 12 < J.length + O.length
    · rw [if_pos hn, decide_eq_true (by omega)]
      walk_at "ev"
    · rw [if_neg hn, decide_eq_false (by omega)]
      walk_at "ev"
      rw [ev_cl k]
      walk_at "ev"
      have ho1 : Once (J ++ O) := h.resolve_right (by rw [hc]; intro z; rcases z with z | z; cases z; exact hn z)
      refine foMq (c := fD) (fun o => dout (oseq o _) = _)
        (fun pre e s' => s' = s ∧ ∃ o5 o8 o9 o10 o11 o12, e = [some (A.d (.lst (E.map xD))), some (A.d (.tup (J.map fD))), some (A.d (.tup (O.map fD))), some (A.d (rD r)), some (A.d (.str p)), o5, some (A.d (.lst ((cl r E).map cD))), some (.own ((J ++ pre.map (pick p (Cs r E))).map fD)), o8, o9, o10, o11, o12, none, some (.own (J.map fun f => .str f.1)), none]) (pre := []) (all := O) rfl ⟨rfl, none, none, none, none, none, none, by rw [List.map_nil, List.append_nil]⟩ ?_ ?_
      · rintro pre x post e s' hp ⟨rfl, o5, o8, o9, o10, o11, o12, rfl⟩
        have lp : pre.length ≤ 100 := by
          have := congrArg List.length hp
          rw [List.length_append, List.length_cons] at this
          omega
        obtain ⟨a, b, c⟩ := x
        refine ⟨_, rfl, ?_⟩
        dsimp only
        walk_at "ev"
        rw [ev_debts1 (by omega)]
        walk_at "ev"
        rw [ev_net (fm_len k), net_one k]
        walk_at "ev"
        rw [ev_debts1 (by omega)]
        walk_at "ev"
        rw [ev_net (fm_len k), net_one k]
        walk_at "ev"
        have fin : ∀ f : Fnd, List.map fD (J ++ List.map (pick p (Cs r E)) (pre ++ [f])) = List.map fD (J ++ List.map (pick p (Cs r E)) pre) ++ [fD (pick p (Cs r E) f)] := fun f => by
          rw [List.map_append, List.map_append, List.map_append, List.map_append, List.append_assoc]
          rfl
        by_cases hc : t p (Cs r E) (a, b, c) < t p (Cs r E) (a, c, b)
        · rw [decide_eq_true hc]
          walk_at "ev"
          rw [List.length_append, List.length_map, if_pos (by omega)]
          refine goes_nx ⟨rfl, some (.d (.str a)), some (.d (.str b)), some (.d (.str c)), some (A.d (D.tup [D.str a, D.str b, D.str c])), some (A.d (D.tup [D.str a, D.str c, D.str b])), some (A.d (D.bl true)), ?_⟩
          rw [fin, show pick p (Cs r E) (a, b, c) = (a, c, b) from if_pos hc]
          rfl
        · rw [decide_eq_false hc]
          walk_at "ev"
          rw [List.length_append, List.length_map, if_pos (by omega)]
          refine goes_nx ⟨rfl, some (.d (.str a)), some (.d (.str b)), some (.d (.str c)), some (A.d (D.tup [D.str a, D.str b, D.str c])), some (A.d (D.tup [D.str a, D.str c, D.str b])), some (A.d (D.bl false)), ?_⟩
          rw [fin, show pick p (Cs r E) (a, b, c) = (a, b, c) from if_neg hc]
          rfl
      · rintro e s' ⟨rfl, o5, o8, o9, o10, o11, o12, rfl⟩
        walk_at "ev"
        rw [sort_l]
        walk_at "ev"
        rw [show srt (J ++ O.map (pick p (Cs r E))) = worst p (Cs r E) J O from rfl]
        rw [ev_debts (once_worst ho1) (by omega) (by
          have := (srt_perm (J ++ O.map (pick p (Cs r E)))).length_eq
          unfold worst
          rw [this, List.length_append, List.length_map]
          omega)]
        walk_at "ev"
        rw [ev_net (fm_len k), net_cl k (once_worst ho1)]
        walk_at "ev"

theorem ev_enough {r : Rul} {E : List Exp} (k : Eok r E) {J O : List Fnd} (h : Once (J ++ O) ∨ clash J O = true ∨ 12 < J.length + O.length) (hj : J.length ≤ 100) (ho : O.length ≤ 100) {p : Str} {n : Int} {s : Sx} :
    m_is_enough s [.lst (E.map xD), .tup (J.map fD), .tup (O.map fD), rD r, .str p, .int n] = if clash J O = true then .er .RE s else if 12 < J.length + O.length then .er .TM s else .ok (.bl (decide (W p (Cs r E) (worst p (Cs r E) J O) ≤ n))) s := by
  unfold m_is_enough b_is_enough
  walk_at "ev"
  rw [ev_great k h hj ho]
  cases hc : clash J O with
  | true => walk_at "ev"
  | false =>
    walk_at "ev"
    by_cases hn : 12 < J.length + O.length
    · rw [if_pos hn, if_pos hn]
      walk_at "ev"
    · rw [if_neg hn, if_neg hn]
      walk_at "ev"
end F52
namespace F52
open PySem L2 Mi
local macro_rules | `(tactic| walk_at "ev") => `(tactic| simp -implicitDefEqProofs only [rout_ok, rout_er, oseq_nx, oseq_rt, oseq_bk, oseq_ct, oseq_er, e_seq, e_nil, e_break, e_cont, e_raise, e_retN, kDrop, e_drop, kRet, e_ret, e_cond, kCond_t, kCond_f, e_set, kSet_d, kSet_own, e_asg, kAsg_d, kAsg_own, kAsg2_some, e_par, kPar_d, e_par3, kPar3_d, e_for, kFor, e_c, e_var, slot_eq, slotO_d, slotO_own, opt_none, opt_some, e_bin, kBin_eq, kBin2_eq, e_un, kUn_eq, e_args0, e_args, kArg_eq, kArg2_eq, e_call, kCall_eq, e_fn, kFn_eq, kFn2_eq, kD_eq, e_fnB, kFnB_eq, e_bool, kBool_b, e_and, kAnd_t, kAnd_f, e_or, kOr_t, kOr_f, e_not, kNot_eq, e_andV, kAndV_b, kAndV_t, kAndV_f, e_orV, kOrV_b, kOrV_t, kOrV_f, e_notV, kNotV_b, e_if, kIf_t, kIf_f, e_tup, kTup_eq, kTup2_eq, e_lst, kLst_eq, kLst2_eq, e_it, kIt_eq, e_r1, kR1_eq, e_r2, kR2_eq, e_q, kQ_eq, e_lc, kLc_eq, e_no, e_part, kPart_i, e_sl, kSl_eq, kSl2_eq, kSl3_eq, e_chain, kCh_eq, kCh2_eq, kCh3_b, kCh4_t, kCh4_f, kCh5_eq, e_app, kApp0_own, kApp_d, kApp_own, e_frz, kFrz_own, kFrz_d, e_aug, kAug0_d, kAug_d, e_def, dout_nx, dout_rt, dout_er, e_try, tTry_nx, tTry_rt, tTry_er, tOut_rt, tOut_nx, tOut_ct, e_told, kTold_e, bind_ok, bind_er, bind_bad, nox_ok, A.v, A.toD, toDs, asX, asR1_i, asR2_i, dTy, D.ty, dRel, dLe, dLt, dGt, dGe, dLtX, dLen, dAdd, dSub, dMod, dDiv, dMulX, dIx, dSl, dTuple, dList, isi_int_tup, isi_int_lst, isi_int_int, isi_int_str, isi_int_bl, isi_int_non, isi_bool_tup, isi_bool_lst, isi_bool_int, isi_bool_str, isi_bool_bl, isi_bool_non, isi_str_tup, isi_str_lst, isi_str_int, isi_str_str, isi_str_bl, isi_str_non, isi_tuple_tup, isi_tuple_lst, isi_tuple_int, isi_tuple_str, isi_tuple_bl, isi_tuple_non, isi_list_tup, isi_list_lst, isi_list_int, isi_list_str, isi_list_bl, isi_list_non, dIsB, dIsN, D.isNon, dNeg, dMax2, dMin2, dAbs, gN, gT, gsC, gsN, wipeE, blankE, lend, D.scal, List.map_cons, List.map_nil, List.length_cons, List.length_nil, List.cons_append, List.nil_append, List.getElem?_cons_zero, List.getElem?_cons_succ, List.set_cons_zero, List.set_cons_succ, List.replicate, Nat.reduceAdd, Nat.reduceSub, if_true, if_false, Bool.false_eq_true, reduceIte, decide_true, decide_false, String.reduceEq, reduceCtorEq, Int.reduceLE, Int.reduceLT, Int.reduceAdd, Int.reduceSub, Int.reduceMul, Int.reduceNeg, Int.reduceToNat, Int.reduceBNe, Int.reduceBEq, dInX, dIn, Nat.reduceLeDiff, Nat.reduceLT, Bool.not_true, Bool.not_false, Int.cast_ofNat_Int, Bool.and_true, Bool.true_and, Bool.and_false, Bool.false_and, and_self, and_true, true_and, lay_tup, lay_lst, lay_int, lay_str, lay_bl, lay_non, layL_nil, layL_cons, dEq_int, dEq_str, List.length_map, List.length_range, Int.reduceEq, bb_tt, bb_tf, bb_ft, bb_ff, nm_OR, nm_MA, nm_NT, nm_RE, nm_TM, eq_self, at0, at1, at2, at3, Option.map_some])
/-! the law's burden -/
def dsp (r : Rul) (a : Int) : List (Key × D) := mergeG [] [((Sum.inr ("own" : Str) : Key), D.int 0), (Sum.inr ("loser" : Str), .int a), (Sum.inr ("part" : Str), .int (a * r.2.1 / r.2.2))]
theorem dsp_get {r : Rul} (h : Rok r) {a : Int} : (DO.k (dsp r a)).get (.str r.1) = some (some (.int (sh r a))) := by
  show some (getG (dsp r a) (Sum.inr r.1 : Key)) = _
  unfold dsp mergeG
  rw [List.foldl_cons, List.foldl_cons, List.foldl_cons, List.foldl_nil, getG_put, getG_put, getG_put]
  have k1 : ((Sum.inr ("part" : Str) : Key) = Sum.inr ("own" : Str)) = False := by simp only [Sum.inr.injEq]; exact eq_false (by decide +kernel)
  have k2 : ((Sum.inr ("loser" : Str) : Key) = Sum.inr ("own" : Str)) = False := by simp only [Sum.inr.injEq]; exact eq_false (by decide +kernel)
  have k3 : ((Sum.inr ("part" : Str) : Key) = Sum.inr ("loser" : Str)) = False := by simp only [Sum.inr.injEq]; exact eq_false (by decide +kernel)
  have j1 : ("loser" : Str) ≠ "own" := by decide +kernel
  have j2 : ("part" : Str) ≠ "own" := by decide +kernel
  have j3 : ("part" : Str) ≠ "loser" := by decide +kernel
  obtain ⟨w, p, q⟩ := r
  unfold sh
  rcases h.way with e | e | e <;> dsimp only at e <;> subst e <;> dsimp only
  · rw [if_pos rfl, if_neg (by rw [k1]; exact id), if_neg (by rw [k2]; exact id), if_pos rfl]
  · rw [if_neg j1, if_pos rfl, if_neg (by rw [k3]; exact id), if_pos rfl]
  · rw [if_neg j2, if_neg j3, if_pos rfl]
theorem ev_owed {r : Rul} (h : Rok r) {a : Int} {e : Mi.Env} {s : Sx} (h9 : e[9]? = some (some (.d (.int a)))) (h2 : e[2]? = some (some (.d (rD r)))) :
    mDGetV (mDisp [((mC (.str "own")), (mC (.int 0))), ((mC (.str "loser")), (mVar 9)), ((mC (.str "part")), (mBin dDiv (mBin dMulX (mVar 9) (mBin dIx (mBin dIx (mVar 2) (mC (.int 1))) (mC (.int 0)))) (mBin dIx (mBin dIx (mVar 2) (mC (.int 1))) (mC (.int 1)))))]) (mBin dIx (mVar 2) (mC (.int 0))) e s = .ok (.d (.int (sh r a))) s := by
  have sq : r.2.2.natAbs < 2 ^ 8000 := by
    have := h.q0
    have := h.q1
    exact Nat.lt_of_le_of_lt (show r.2.2.natAbs ≤ 100 by omega) (by decide +kernel)
  have ap : r.2.1.natAbs < 18446744073709551616 := by
    have := h.p0
    have := h.p1
    omega
  refine e_dGetV (o := .k (dsp r a)) (y := .d (.str r.1)) (s1 := s) (e_disp (ps := [((Sum.inr ("own" : Str) : Key), D.int 0), (Sum.inr ("loser" : Str), .int a), (Sum.inr ("part" : Str), .int (a * r.2.1 / r.2.2))]) ?_ (by simp only [List.length_cons, List.length_nil]; omega)) ?_ (dsp_get h)
  · refine e_pairs (s1 := s) (s2 := s) (y := .d (.str "own")) (z := .d (.int 0)) rfl rfl rfl rfl (e_pairs (s1 := s) (s2 := s) (y := .d (.str "loser")) (z := .d (.int a)) rfl rfl ?_ rfl (e_pairs (s1 := s) (s2 := s) (y := .d (.str "part")) (z := .d (.int (a * r.2.1 / r.2.2))) rfl rfl ?_ rfl e_pairs0))
    · rw [e_var, slot_eq, h9]
      walk_at "ev"
    · repeat (first | rw [h2] | rw [h9] | simp only [rD] | walk_at "ev")
      rw [if_pos (mulOk_r ap)]
      walk_at "ev"
      repeat (first | rw [h2] | rw [h9] | simp only [rD] | walk_at "ev")
      rw [divq h.q0 sq]
      walk_at "ev"
  · simp only [e_bin, kBin_eq, kBin2_eq, e_var, slot_eq, h2, rD]
    walk_at "ev"
theorem raw_take {r : Rul} {x : Exp} {i : Nat} (h : i < x.2.2.length) : (raw r x).take (i + 1) = (raw r x).take i ++ [one1 r x i] := by
  unfold raw
  rw [← List.map_take, ← List.map_take, List.take_range, List.take_range, show min (i + 1) x.2.2.length = i + 1 by omega, show min i x.2.2.length = i by omega, List.range_succ, List.map_append]
  rfl
theorem row_snoc {p : Str} {c : Clm} {q : List Fnd} {f : Fnd} : row p (q ++ [f]) c = row p q c + v p c f := by
  unfold row
  rw [List.map_append, List.sum_append]
  simp
theorem W_one1 {p : Str} {J : List Fnd} {c : Clm} : W p [c] J = row p J c := by
  unfold W
  simp
theorem at_str {hs : List Str} {j : Nat} (h : j < hs.length) : atI (hs.map D.str) (j : Nat) = some (.str (hs.getD j "")) := by
  rw [atI_nat', List.getElem?_map, List.getElem?_eq_getElem h, List.getD_eq_getElem?_getD, List.getElem?_eq_getElem h]
  rfl
theorem ev_part {hs : List D} {a : Int} {i : Nat} {e : Mi.Env} {s : Sx} (h0 : 0 < hs.length) (h1 : hs.length ≤ 7) (h6 : e[6]? = some (some (.d (.int a)))) (h7 : e[7]? = some (some (.d (.tup hs)))) (h8 : e[8]? = some (some (.d (.int (i : Nat))))) :
    mBin dAdd (mBin dDiv (mVar 6) (mCall dLen [(mVar 7)])) (mIf (mBool (mBin dLtX (mVar 8) (mBin dMod (mVar 6) (mCall dLen [(mVar 7)])))) (mC (.int 1)) (mC (.int 0))) e s = .ok (.d (.int (share a hs.length i))) s := by
  have sn : ((hs.length : Nat) : Int).natAbs < 2 ^ 8000 := Nat.lt_of_le_of_lt (show ((hs.length : Nat) : Int).natAbs ≤ 7 by omega) (by decide +kernel)
  repeat (first | rw [h6] | rw [h7] | rw [h8] | walk_at "ev")
  rw [divq (by omega) sn]
  repeat (first | rw [h6] | rw [h7] | rw [h8] | walk_at "ev")
  rw [modq (by omega)]
  walk_at "ev"
  unfold share
  by_cases c : (i : Int) < a % (hs.length : Nat)
  · rw [decide_eq_true c, if_pos c]
    walk_at "ev"
  · rw [decide_eq_false c, if_neg c]
    walk_at "ev"
theorem ev_lburden {r : Rul} {E : List Exp} (k : Eok r E) {J : List Fnd} {p : Str} {s : Sx} : m__law_burden s [.lst (E.map xD), .lst (J.map fD), rD r, .str p] = .ok (.int (W p (Cs r E) J)) s := by
  unfold m__law_burden b__law_burden
  walk_at "ev"
  refine foMq (c := xD) (fun o => dout (oseq o _) = _)
    (fun pre e s' => s' = s ∧ ∃ o5 o6 o7 o8 o9 o10 o11 o12 o13, e = [some (A.d (.lst (E.map xD))), some (A.d (.lst (J.map fD))), some (A.d (rD r)), some (A.d (.str p)), some (.d (.int (W p (Cs r pre) J))), o5, o6, o7, o8, o9, o10, o11, o12, o13]) (pre := []) (all := E) rfl ⟨rfl, none, none, none, none, none, none, none, none, none, rfl⟩ ?_ ?_
  · rintro pre x post e s' hp ⟨rfl, o5, o6, o7, o8, o9, o10, o11, o12, o13, rfl⟩
    have hx : x ∈ E := by rw [← hp]; simp
    have kx := k.x x hx
    refine ⟨_, rfl, ?_⟩
    have n0 := kx.h0
    have n1 := kx.h1
    have sn : ((x.2.2.length : Nat) : Int).natAbs < 2 ^ 8000 := Nat.lt_of_le_of_lt (show ((x.2.2.length : Nat) : Int).natAbs ≤ 7 by omega) (by decide +kernel)
    walk_at "ev"
    rw [asR1_i (by omega), Int.toNat_natCast]
    walk_at "ev"
    refine foN0 (fun o => Goes _ o)
      (fun i e s2 => s2 = s' ∧ ∃ o8 o9 o10 o11 o12 o13, e = [some (A.d (.lst (E.map xD))), some (A.d (.lst (J.map fD))), some (A.d (rD r)), some (A.d (.str p)), some (.d (.int (W p (Cs r pre ++ (raw r x).take i) J))), some (.d (.str x.1)), some (.d (.int x.2.1)), some (.d (.tup (x.2.2.map .str))), o8, o9, o10, o11, o12, o13]) ⟨rfl, o8, o9, o10, o11, o12, o13, by rw [List.take_zero, List.append_nil]⟩ ?_ ?_
    · rintro i e s2 hi ⟨rfl, o8, o9, o10, o11, o12, o13, rfl⟩
      refine ⟨_, rfl, ?_⟩
      rw [e_seq, e_set, ev_part (hs := x.2.2.map .str) (a := x.2.1) (i := i) (by rw [List.length_map]; omega) (by rw [List.length_map]; omega) rfl rfl rfl, List.length_map]
      walk_at "ev"
      refine foMq (c := fD) (fun o => GoA _ _ o)
        (fun q e s3 => s3 = s2 ∧ ∃ o10 o11 o12 o13, e = [some (A.d (.lst (E.map xD))), some (A.d (.lst (J.map fD))), some (A.d (rD r)), some (A.d (.str p)), some (.d (.int (W p (Cs r pre ++ (raw r x).take i) J + row p q (one1 r x i)))), some (.d (.str x.1)), some (.d (.int x.2.1)), some (.d (.tup (x.2.2.map .str))), some (.d (.int (i : Nat))), some (.d (.int (share x.2.1 x.2.2.length i))), o10, o11, o12, o13]) (pre := []) (all := J) rfl ⟨rfl, o10, o11, o12, o13, by
          rw [show row p [] (one1 r x i) = 0 from rfl, Int.add_zero]⟩ ?_ ?_
      · rintro q f post' e s3 hq ⟨rfl, o10, o11, o12, o13, rfl⟩
        obtain ⟨h, w, l⟩ := f
        refine ⟨_, rfl, ?_⟩
        have ow := fun (e : Mi.Env) (h9 : e[9]? = some (some (.d (.int (share x.2.1 x.2.2.length i))))) (h2 : e[2]? = some (some (.d (rD r)))) => ev_owed k.r (s := s3) h9 h2
        walk_at "ev"
        rw [at_str hi]
        walk_at "ev"
        have hh : (one1 r x i).1 = x.2.2.getD i "" := rfl
        have hc : (one1 r x i).2.1 = x.1 := rfl
        have ha : (one1 r x i).2.2 = sh r (share x.2.1 x.2.2.length i) := rfl
        by_cases c1 : h = x.2.2.getD i ""
        · rw [decide_eq_true c1]
          walk_at "ev"
          by_cases c2 : w = x.1
          · rw [decide_eq_true c2]
            walk_at "ev"
            rw [ow _ rfl rfl]
            walk_at "ev"
            have vp := v_pos (p := p) (c := one1 r x i) (f := (h, w, l)) ⟨c1, c2⟩
            rw [hc, ha] at vp
            dsimp only at vp
            by_cases c3 : l = p
            · rw [decide_eq_true c3]
              walk_at "ev"
              by_cases c4 : w = p
              · rw [decide_eq_true c4]
                walk_at "ev"
                refine goes_nx ⟨rfl, some (.d (.str h)), some (.d (.str w)), some (.d (.str l)), some (.d (.int (sh r (share x.2.1 x.2.2.length i)))), ?_⟩
                rw [row_snoc, vp, if_pos c3, if_pos (c2 ▸ c4)]
                simp only [List.cons.injEq, true_and, and_true, Option.some.injEq, A.d.injEq, D.int.injEq]
                omega
              · rw [decide_eq_false c4]
                walk_at "ev"
                refine goes_nx ⟨rfl, some (.d (.str h)), some (.d (.str w)), some (.d (.str l)), some (.d (.int (sh r (share x.2.1 x.2.2.length i)))), ?_⟩
                rw [row_snoc, vp, if_pos c3, if_neg (c2 ▸ c4)]
                simp only [List.cons.injEq, true_and, and_true, Option.some.injEq, A.d.injEq, D.int.injEq]
                omega
            · rw [decide_eq_false c3]
              walk_at "ev"
              by_cases c4 : w = p
              · rw [decide_eq_true c4]
                walk_at "ev"
                refine goes_nx ⟨rfl, some (.d (.str h)), some (.d (.str w)), some (.d (.str l)), some (.d (.int (sh r (share x.2.1 x.2.2.length i)))), ?_⟩
                rw [row_snoc, vp, if_neg c3, if_pos (c2 ▸ c4)]
                simp only [List.cons.injEq, true_and, and_true, Option.some.injEq, A.d.injEq, D.int.injEq]
                omega
              · rw [decide_eq_false c4]
                walk_at "ev"
                refine goes_nx ⟨rfl, some (.d (.str h)), some (.d (.str w)), some (.d (.str l)), some (.d (.int (sh r (share x.2.1 x.2.2.length i)))), ?_⟩
                rw [row_snoc, vp, if_neg c3, if_neg (c2 ▸ c4)]
                simp only [List.cons.injEq, true_and, and_true, Option.some.injEq, A.d.injEq, D.int.injEq]
                omega
          · rw [decide_eq_false c2]
            walk_at "ev"
            refine goes_nx ⟨rfl, some (.d (.str h)), some (.d (.str w)), some (.d (.str l)), o13, ?_⟩
            rw [row_snoc, v_neg (fun z => c2 z.2), Int.add_zero]
        · rw [decide_eq_false c1]
          walk_at "ev"
          refine goes_nx ⟨rfl, some (.d (.str h)), some (.d (.str w)), some (.d (.str l)), o13, ?_⟩
          rw [row_snoc, v_neg (fun z => c1 z.1), Int.add_zero]
      · rintro e s3 ⟨rfl, o10, o11, o12, o13, rfl⟩
        refine goA_nx ⟨rfl, some (.d (.int (i : Nat))), some (.d (.int (share x.2.1 x.2.2.length i))), o10, o11, o12, o13, ?_⟩
        rw [raw_take hi, ← List.append_assoc, W_app (C := Cs r pre ++ (raw r x).take i) (D := [one1 r x i]), W_one1]
    · rintro e s2 ⟨rfl, o8, o9, o10, o11, o12, o13, rfl⟩
      refine goes_nx ⟨rfl, some (.d (.str x.1)), some (.d (.int x.2.1)), some (.d (.tup (x.2.2.map .str))), o8, o9, o10, o11, o12, o13, ?_⟩
      rw [show Cs r (pre ++ [x]) = Cs r pre ++ (raw r x).take x.2.2.length by
        unfold Cs
        rw [List.flatMap_append, List.flatMap_cons, List.flatMap_nil, List.append_nil, List.take_of_length_le (by rw [raw_len]; exact Nat.le_refl _)]]
  · rintro e s' ⟨rfl, o5, o6, o7, o8, o9, o10, o11, o12, o13, rfl⟩
    walk_at "ev"
end F52
namespace F52
open PySem L2 Mi
local macro_rules | `(tactic| walk_at "ev") => `(tactic| simp -implicitDefEqProofs only [rout_ok, rout_er, oseq_nx, oseq_rt, oseq_bk, oseq_ct, oseq_er, e_seq, e_nil, e_break, e_cont, e_raise, e_retN, kDrop, e_drop, kRet, e_ret, e_cond, kCond_t, kCond_f, e_set, kSet_d, kSet_own, e_asg, kAsg_d, kAsg_own, kAsg2_some, e_par, kPar_d, e_par3, kPar3_d, e_for, kFor, e_c, e_var, slot_eq, slotO_d, slotO_own, opt_none, opt_some, e_bin, kBin_eq, kBin2_eq, e_un, kUn_eq, e_args0, e_args, kArg_eq, kArg2_eq, e_call, kCall_eq, e_fn, kFn_eq, kFn2_eq, kD_eq, e_fnB, kFnB_eq, e_bool, kBool_b, e_and, kAnd_t, kAnd_f, e_or, kOr_t, kOr_f, e_not, kNot_eq, e_andV, kAndV_b, kAndV_t, kAndV_f, e_orV, kOrV_b, kOrV_t, kOrV_f, e_notV, kNotV_b, e_if, kIf_t, kIf_f, e_tup, kTup_eq, kTup2_eq, e_lst, kLst_eq, kLst2_eq, e_it, kIt_eq, e_r1, kR1_eq, e_r2, kR2_eq, e_q, kQ_eq, e_lc, kLc_eq, e_no, e_part, kPart_i, e_sl, kSl_eq, kSl2_eq, kSl3_eq, e_chain, kCh_eq, kCh2_eq, kCh3_b, kCh4_t, kCh4_f, kCh5_eq, e_app, kApp0_own, kApp_d, kApp_own, e_frz, kFrz_own, kFrz_d, e_aug, kAug0_d, kAug_d, e_def, dout_nx, dout_rt, dout_er, e_try, tTry_nx, tTry_rt, tTry_er, tOut_rt, tOut_nx, tOut_ct, e_told, kTold_e, bind_ok, bind_er, bind_bad, nox_ok, A.v, A.toD, toDs, asX, asR1_i, asR2_i, dTy, D.ty, dRel, dLe, dLt, dGt, dGe, dLtX, dLen, dAdd, dSub, dMod, dDiv, dMulX, dIx, dSl, dTuple, dList, isi_int_tup, isi_int_lst, isi_int_int, isi_int_str, isi_int_bl, isi_int_non, isi_bool_tup, isi_bool_lst, isi_bool_int, isi_bool_str, isi_bool_bl, isi_bool_non, isi_str_tup, isi_str_lst, isi_str_int, isi_str_str, isi_str_bl, isi_str_non, isi_tuple_tup, isi_tuple_lst, isi_tuple_int, isi_tuple_str, isi_tuple_bl, isi_tuple_non, isi_list_tup, isi_list_lst, isi_list_int, isi_list_str, isi_list_bl, isi_list_non, dIsB, dIsN, D.isNon, dNeg, dMax2, dMin2, dAbs, gN, gT, gsC, gsN, wipeE, blankE, lend, D.scal, List.map_cons, List.map_nil, List.length_cons, List.length_nil, List.cons_append, List.nil_append, List.getElem?_cons_zero, List.getElem?_cons_succ, List.set_cons_zero, List.set_cons_succ, List.replicate, Nat.reduceAdd, Nat.reduceSub, if_true, if_false, Bool.false_eq_true, reduceIte, decide_true, decide_false, String.reduceEq, reduceCtorEq, Int.reduceLE, Int.reduceLT, Int.reduceAdd, Int.reduceSub, Int.reduceMul, Int.reduceNeg, Int.reduceToNat, Int.reduceBNe, Int.reduceBEq, dInX, dIn, Nat.reduceLeDiff, Nat.reduceLT, Bool.not_true, Bool.not_false, Int.cast_ofNat_Int, Bool.and_true, Bool.true_and, Bool.and_false, Bool.false_and, and_self, and_true, true_and, lay_tup, lay_lst, lay_int, lay_str, lay_bl, lay_non, layL_nil, layL_cons, dEq_int, dEq_str, List.length_map, List.length_range, Int.reduceEq, bb_tt, bb_tf, bb_ft, bb_ff, nm_OR, nm_MA, nm_NT, nm_RE, nm_TM, eq_self, at0, at1, at2, at3, Option.map_some])
/-! all ways -/
def wD (w : Nat × List Fnd) : D := .tup [.int (w.1 : Nat), .lst (w.2.map fD)]
def both (f : Fnd) (w : Nat × List Fnd) : List (Nat × List Fnd) := [(w.1, w.2 ++ [f]), (w.1 + 1, w.2 ++ [tu f])]
theorem both_len {f : Fnd} : ∀ {ws : List (Nat × List Fnd)}, (ws.flatMap (both f)).length = 2 * ws.length
  | [] => rfl
  | w :: ws => by
    rw [List.flatMap_cons, List.length_append, both_len, List.length_cons]
    show 2 + _ = _
    omega
theorem step_len {f : Fnd} {ws : List (Nat × List Fnd)} : (step ws f).length = 2 * ws.length := both_len
theorem fold_len : ∀ {O : List Fnd} {ws : List (Nat × List Fnd)}, (O.foldl step ws).length = 2 ^ O.length * ws.length
  | [], ws => by simp
  | f :: O, ws => by
    rw [List.foldl_cons, fold_len, step_len, List.length_cons, Nat.pow_succ, Nat.mul_assoc]
theorem fold_each {n : Nat} : ∀ {O : List Fnd} {ws : List (Nat × List Fnd)}, (∀ w ∈ ws, w.2.length ≤ n) → ∀ w ∈ O.foldl step ws, w.2.length ≤ n + O.length
  | [], ws, h, w, hw => h w hw
  | f :: O, ws, h, w, hw => by
    have h1 := fold_each (n := n + 1) (O := O) (ws := step ws f) (fun u hu => by
      obtain ⟨z, hz, hu⟩ := List.mem_flatMap.mp hu
      have := h z hz
      simp only [List.mem_cons, List.not_mem_nil, or_false] at hu
      rcases hu with rfl | rfl <;> simp only [List.length_append, List.length_cons, List.length_nil] <;> omega) w hw
    rw [List.length_cons]
    omega
theorem ev_ways {J O : List Fnd} (hj : J.length ≤ 100) (ho : O.length ≤ 7) {s : Sx} : m__law_ways s [.tup (J.map fD), .tup (O.map fD)] = .ok (.lst ((O.foldl step [(0, J)]).map wD)) s := by
  unfold m__law_ways b__law_ways
  walk_at "ev"
  refine foMq (c := fD) (fun o => dout (oseq o _) = _)
    (fun pre e s' => s' = s ∧ ∃ o2 o3 o4 o5 o6 o7 o8, (o2 = some (.own ((pre.foldl step [(0, J)]).map wD)) ∨ o2 = some (.d (.lst ((pre.foldl step [(0, J)]).map wD)))) ∧ e = [some (A.d (.tup (J.map fD))), some (A.d (.tup (O.map fD))), o2, o3, o4, o5, o6, o7, o8]) (pre := []) (all := O) rfl ⟨rfl, _, none, none, none, none, none, none, .inl rfl, rfl⟩ ?_ ?_
  · rintro pre f post e s' hp ⟨rfl, o2, o3, o4, o5, o6, o7, o8, hh, rfl⟩
    have lp : pre.length < 7 := by
      have := congrArg List.length hp
      rw [List.length_append, List.length_cons] at this
      omega
    obtain ⟨a, b, c⟩ := f
    generalize hws : pre.foldl step [(0, J)] = ws at hh
    have lw : ws.length ≤ 64 := by
      rw [← hws, fold_len, List.length_singleton, Nat.mul_one]
      exact Nat.pow_le_pow_right (n := 2) (by decide) (show pre.length ≤ 6 by omega)
    have le : ∀ w ∈ ws, w.2.length ≤ 107 := fun w hw => by
      rw [← hws] at hw
      have := fold_each (n := J.length) (O := pre) (ws := [(0, J)]) (fun u hu => by rw [List.mem_singleton.mp hu]; exact Nat.le_refl _) w hw
      omega
    have hstep : (pre ++ [(a, b, c)]).foldl step [(0, J)] = ws.flatMap (both (a, b, c)) := by
      rw [List.foldl_append, hws]
      rfl
    rw [hstep]
    refine ⟨_, rfl, ?_⟩
    have main : ∀ I : Mi.Env → Sx → Prop, (∀ o3 o4 o5 o6 o7 o8, I [some (A.d (.tup (J.map fD))), some (A.d (.tup (O.map fD))), some (.d (.lst ((ws.flatMap (both (a, b, c))).map wD))), o3, o4, o5, o6, o7, o8] s') → Mi.Goes I (oseq (mFor (mIt (mVar 2)) (gT 2 (gsC (gN 7) (gsC (gN 8) gsN)))
        (mSeq (mApp 6 (mTup [(mVar 7), (mBin dAdd (mVar 8) (mLst [(mTup [(mVar 3), (mVar 4), (mVar 5)])]))]))
        (mApp 6 (mTup [(mBin dAdd (mVar 7) (mC (.int 1))), (mBin dAdd (mVar 8) (mLst [(mTup [(mVar 3), (mVar 5), (mVar 4)])]))])))
        [some (A.d (.tup (J.map fD))), some (A.d (.tup (O.map fD))), some (.d (.lst (ws.map wD))), some (.d (.str a)), some (.d (.str b)), some (.d (.str c)), some (.own []), o7, o8] s') (mFrz 6 (mSet 2 (mVar 6)))) := fun I hI => by
      walk_at "ev"
      refine foMq (c := wD) (fun o => Mi.Goes I (oseq o _))
        (fun q e s3 => s3 = s' ∧ ∃ o7 o8, e = [some (A.d (.tup (J.map fD))), some (A.d (.tup (O.map fD))), some (.d (.lst (ws.map wD))), some (.d (.str a)), some (.d (.str b)), some (.d (.str c)), some (.own ((q.flatMap (both (a, b, c))).map wD)), o7, o8]) (pre := []) (all := ws) rfl ⟨rfl, o7, o8, rfl⟩ ?_ ?_
      · rintro q w post' e s3 hq ⟨rfl, o7, o8, rfl⟩
        have lq : q.length ≤ 64 := by
          have := congrArg List.length hq
          rw [List.length_append, List.length_cons] at this
          omega
        have hw := le w (by rw [← hq]; simp)
        have lb := both_len (f := (a, b, c)) (ws := q)
        refine ⟨_, rfl, ?_⟩
        walk_at "ev"
        rw [if_pos (by omega)]
        walk_at "ev"
        rw [if_pos (by omega)]
        walk_at "ev"
        rw [if_pos (by omega)]
        walk_at "ev"
        rw [List.length_append, List.length_map, if_pos (by simp only [List.length_cons, List.length_nil]; omega)]
        refine goes_nx ⟨rfl, some (.d (.int (w.1 : Nat))), some (.d (.lst (w.2.map fD))), ?_⟩
        rw [List.flatMap_append, List.flatMap_cons, List.flatMap_nil, List.append_nil, List.map_append, List.append_assoc]
        unfold both
        rw [List.map_cons, List.map_cons, List.map_nil]
        unfold wD
        rw [List.map_append, List.map_append]
        rfl
      · rintro e s3 ⟨rfl, o7, o8, rfl⟩
        walk_at "ev"
        exact goes_nx (hI _ _ _ _ _ _)
    rcases hh with rfl | rfl
    · walk_at "ev"
      exact main _ fun o3 o4 o5 o6 o7 o8 => ⟨rfl, _, o3, o4, o5, o6, o7, o8, .inr rfl, rfl⟩
    · walk_at "ev"
      exact main _ fun o3 o4 o5 o6 o7 o8 => ⟨rfl, _, o3, o4, o5, o6, o7, o8, .inr rfl, rfl⟩
  · rintro e s' ⟨rfl, o2, o3, o4, o5, o6, o7, o8, rfl | rfl, rfl⟩
    · walk_at "ev"
    · walk_at "ev"
end F52
namespace F52
open PySem L2 Mi
local macro_rules | `(tactic| walk_at "ev") => `(tactic| simp -implicitDefEqProofs only [rout_ok, rout_er, oseq_nx, oseq_rt, oseq_bk, oseq_ct, oseq_er, e_seq, e_nil, e_break, e_cont, e_raise, e_retN, kDrop, e_drop, kRet, e_ret, e_cond, kCond_t, kCond_f, e_set, kSet_d, kSet_own, e_asg, kAsg_d, kAsg_own, kAsg2_some, e_par, kPar_d, e_par3, kPar3_d, e_for, kFor, e_c, e_var, slot_eq, slotO_d, slotO_own, opt_none, opt_some, e_bin, kBin_eq, kBin2_eq, e_un, kUn_eq, e_args0, e_args, kArg_eq, kArg2_eq, e_call, kCall_eq, e_fn, kFn_eq, kFn2_eq, kD_eq, e_fnB, kFnB_eq, e_bool, kBool_b, e_and, kAnd_t, kAnd_f, e_or, kOr_t, kOr_f, e_not, kNot_eq, e_andV, kAndV_b, kAndV_t, kAndV_f, e_orV, kOrV_b, kOrV_t, kOrV_f, e_notV, kNotV_b, e_if, kIf_t, kIf_f, e_tup, kTup_eq, kTup2_eq, e_lst, kLst_eq, kLst2_eq, e_it, kIt_eq, e_r1, kR1_eq, e_r2, kR2_eq, e_q, kQ_eq, e_lc, kLc_eq, e_no, e_part, kPart_i, e_sl, kSl_eq, kSl2_eq, kSl3_eq, e_chain, kCh_eq, kCh2_eq, kCh3_b, kCh4_t, kCh4_f, kCh5_eq, e_app, kApp0_own, kApp_d, kApp_own, e_frz, kFrz_own, kFrz_d, e_aug, kAug0_d, kAug_d, e_def, dout_nx, dout_rt, dout_er, e_try, tTry_nx, tTry_rt, tTry_er, tOut_rt, tOut_nx, tOut_ct, e_told, kTold_e, bind_ok, bind_er, bind_bad, nox_ok, A.v, A.toD, toDs, asX, asR1_i, asR2_i, dTy, D.ty, dRel, dLe, dLt, dGt, dGe, dLtX, dLen, dAdd, dSub, dMod, dDiv, dMulX, dIx, dSl, dTuple, dList, isi_int_tup, isi_int_lst, isi_int_int, isi_int_str, isi_int_bl, isi_int_non, isi_bool_tup, isi_bool_lst, isi_bool_int, isi_bool_str, isi_bool_bl, isi_bool_non, isi_str_tup, isi_str_lst, isi_str_int, isi_str_str, isi_str_bl, isi_str_non, isi_tuple_tup, isi_tuple_lst, isi_tuple_int, isi_tuple_str, isi_tuple_bl, isi_tuple_non, isi_list_tup, isi_list_lst, isi_list_int, isi_list_str, isi_list_bl, isi_list_non, dIsB, dIsN, D.isNon, dNeg, dMax2, dMin2, dAbs, gN, gT, gsC, gsN, wipeE, blankE, lend, D.scal, List.map_cons, List.map_nil, List.length_cons, List.length_nil, List.cons_append, List.nil_append, List.getElem?_cons_zero, List.getElem?_cons_succ, List.set_cons_zero, List.set_cons_succ, List.replicate, Nat.reduceAdd, Nat.reduceSub, if_true, if_false, Bool.false_eq_true, reduceIte, decide_true, decide_false, String.reduceEq, reduceCtorEq, Int.reduceLE, Int.reduceLT, Int.reduceAdd, Int.reduceSub, Int.reduceMul, Int.reduceNeg, Int.reduceToNat, Int.reduceBNe, Int.reduceBEq, dInX, dIn, Nat.reduceLeDiff, Nat.reduceLT, Bool.not_true, Bool.not_false, Int.cast_ofNat_Int, Bool.and_true, Bool.true_and, Bool.and_false, Bool.false_and, and_self, and_true, true_and, lay_tup, lay_lst, lay_int, lay_str, lay_bl, lay_non, layL_nil, layL_cons, dEq_int, dEq_str, List.length_map, List.length_range, Int.reduceEq, bb_tt, bb_tf, bb_ft, bb_ff, nm_OR, nm_MA, nm_NT, nm_RE, nm_TM, eq_self, at0, at1, at2, at3, Option.map_some])
/-! what is due -/
def bD (p : Str) (C : List Clm) (w : Nat × List Fnd) : D := .tup [.int (W p C w.2), .int (w.1 : Nat), .tup ((srt w.2).map fD)]
theorem ev_due2 {r : Rul} {E : List Exp} (k : Eok r E) {J O : List Fnd} (hj : J.length ≤ 100) (ho : O.length ≤ 7) {p : Str} {s : Sx} :
    m__law_due s [.lst (E.map xD), .tup (J.map fD), .tup (O.map fD), rD r, .str p] = .ok (.tup [.int (W p (Cs r E) (worst p (Cs r E) J O)), .tup ((worst p (Cs r E) J O).map fD)]) s := by
  obtain ⟨hg, hb⟩ := ways_best (p := p) (C := Cs r E) (O := O) (ws := [(0, J)]) (g := (0, J)) (by simp) (fun w hw => .inr ⟨by rw [List.mem_singleton.mp hw], .inr (List.mem_singleton.mp hw)⟩)
  dsimp only at hg hb
  generalize hgg : ((0 : Nat) + cnt p (Cs r E) O, J ++ O.map (pick p (Cs r E))) = g at hg
  have hb : ∀ w ∈ O.foldl step [(0, J)], W p (Cs r E) w.2 < W p (Cs r E) g.2 ∨ W p (Cs r E) w.2 = W p (Cs r E) g.2 ∧ (g.1 < w.1 ∨ w = g) := by
    rw [← hgg]
    exact hb
  have hres : W p (Cs r E) (worst p (Cs r E) J O) = W p (Cs r E) g.2 ∧ worst p (Cs r E) J O = srt g.2 := by
    rw [← hgg]
    exact ⟨W_perm (srt_perm _), rfl⟩
  rw [hres.1, hres.2]
  clear hres hgg
  unfold m__law_due b__law_due
  walk_at "ev"
  rw [ev_ways hj ho]
  walk_at "ev"
  generalize O.foldl step [(0, J)] = ws at hg hb
  refine foMq (c := wD) (fun o => dout (oseq o _) = _)
    (fun pre e s' => s' = s ∧ ∃ best o6 o7 o8, (best = .non ∧ pre = [] ∨ ∃ w ∈ pre, best = bD p (Cs r E) w ∧ (g ∈ pre → w = g)) ∧ e = [some (A.d (.lst (E.map xD))), some (A.d (.tup (J.map fD))), some (A.d (.tup (O.map fD))), some (A.d (rD r)), some (A.d (.str p)), some (.d best), o6, o7, o8]) (pre := []) (all := ws) rfl ⟨rfl, _, none, none, none, .inl ⟨rfl, rfl⟩, rfl⟩ ?_ ?_
  · rintro pre x post e s' hp ⟨rfl, best, o6, o7, o8, hh, rfl⟩
    have hx : x ∈ ws := by rw [← hp]; simp
    refine ⟨_, rfl, ?_⟩
    walk_at "ev"
    rw [ev_lburden k]
    walk_at "ev"
    rcases hh with ⟨rfl, rfl⟩ | ⟨w, hw, rfl, hgw⟩
    · walk_at "ev"
      rw [sort_l]
      walk_at "ev"
      refine goes_nx ⟨rfl, bD p (Cs r E) x, some (.d (.int (x.1 : Nat))), some (.d (.lst (x.2.map fD))), some (.d (.int (W p (Cs r E) x.2))), .inr ⟨x, by simp, rfl, fun z => ?_⟩, rfl⟩
      simp only [List.nil_append, List.mem_singleton] at z
      exact z.symm
    · have hwx : w ∈ ws := by rw [← hp]; simp [hw]
      have up : (W p (Cs r E) w.2 < W p (Cs r E) x.2 ∨ W p (Cs r E) x.2 = W p (Cs r E) w.2 ∧ x.1 < w.1) → g ∈ pre ++ [x] → x = g := fun c z => by
        rcases List.mem_append.mp z with z | z
        · have e := hgw z
          subst e
          rcases hb x hx with h1 | ⟨h1, h2 | h2⟩
          · omega
          · omega
          · exact h2
        · exact (List.mem_singleton.mp z).symm
      have stay : ¬ (W p (Cs r E) w.2 < W p (Cs r E) x.2 ∨ W p (Cs r E) x.2 = W p (Cs r E) w.2 ∧ x.1 < w.1) → g ∈ pre ++ [x] → w = g := fun c z => by
        rcases List.mem_append.mp z with z | z
        · exact hgw z
        · have e := List.mem_singleton.mp z
          subst e
          rcases hb w hwx with h1 | ⟨h1, h2 | h2⟩
          · exact absurd (.inl h1) c
          · exact absurd (.inr ⟨h1.symm, h2⟩) c
          · exact h2
      have fin : ∀ (u : Nat × List Fnd), (u = x ∨ u = w) → (g ∈ pre ++ [x] → u = g) → ∃ best o6 o7 o8, (best = D.non ∧ pre ++ [x] = [] ∨ ∃ w ∈ pre ++ [x], best = bD p (Cs r E) w ∧ (g ∈ pre ++ [x] → w = g)) ∧ [some (A.d (.lst (E.map xD))), some (A.d (.tup (J.map fD))), some (A.d (.tup (O.map fD))), some (A.d (rD r)), some (A.d (.str p)), some (.d (bD p (Cs r E) u)), some (.d (.int (x.1 : Nat))), some (.d (.lst (x.2.map fD))), some (.d (.int (W p (Cs r E) x.2)))] = [some (A.d (.lst (E.map xD))), some (A.d (.tup (J.map fD))), some (A.d (.tup (O.map fD))), some (A.d (rD r)), some (A.d (.str p)), some (.d best), o6, o7, o8] := fun u hu z =>
        ⟨_, _, _, _, .inr ⟨u, by rcases hu with rfl | rfl <;> simp [hw], rfl, z⟩, rfl⟩
      unfold bD
      walk_at "ev"
      by_cases c1 : W p (Cs r E) w.2 < W p (Cs r E) x.2
      · rw [decide_eq_true c1]
        walk_at "ev"
        rw [sort_l]
        walk_at "ev"
        exact goes_nx ⟨rfl, fin x (.inl rfl) (up (.inl c1))⟩
      · rw [decide_eq_false c1]
        walk_at "ev"
        by_cases c2 : W p (Cs r E) x.2 = W p (Cs r E) w.2
        · rw [decide_eq_true c2]
          walk_at "ev"
          by_cases c3 : x.1 < w.1
          · rw [decide_eq_true (show (x.1 : Int) < (w.1 : Int) by omega)]
            walk_at "ev"
            rw [sort_l]
            walk_at "ev"
            exact goes_nx ⟨rfl, fin x (.inl rfl) (up (.inr ⟨c2, c3⟩))⟩
          · rw [decide_eq_false (show ¬ (x.1 : Int) < (w.1 : Int) by omega)]
            walk_at "ev"
            exact goes_nx ⟨rfl, fin w (.inr rfl) (stay fun z => by rcases z with z | z; exact c1 z; exact c3 z.2)⟩
        · rw [decide_eq_false c2]
          walk_at "ev"
          exact goes_nx ⟨rfl, fin w (.inr rfl) (stay fun z => by rcases z with z | z; exact c1 z; exact c2 z.1)⟩
  · rintro e s' ⟨rfl, best, o6, o7, o8, hh, rfl⟩
    rcases hh with ⟨rfl, e⟩ | ⟨w, hw, rfl, hgw⟩
    · rw [e] at hg
      cases hg
    · rw [hgw hg]
      unfold bD
      walk_at "ev"
end F52
namespace F52
open PySem L2 Mi
local macro_rules | `(tactic| walk_at "ev") => `(tactic| simp -implicitDefEqProofs only [rout_ok, rout_er, oseq_nx, oseq_rt, oseq_bk, oseq_ct, oseq_er, e_seq, e_nil, e_break, e_cont, e_raise, e_retN, kDrop, e_drop, kRet, e_ret, e_cond, kCond_t, kCond_f, e_set, kSet_d, kSet_own, e_asg, kAsg_d, kAsg_own, kAsg2_some, e_par, kPar_d, e_par3, kPar3_d, e_for, kFor, e_c, e_var, slot_eq, slotO_d, slotO_own, opt_none, opt_some, e_bin, kBin_eq, kBin2_eq, e_un, kUn_eq, e_args0, e_args, kArg_eq, kArg2_eq, e_call, kCall_eq, e_fn, kFn_eq, kFn2_eq, kD_eq, e_fnB, kFnB_eq, e_bool, kBool_b, e_and, kAnd_t, kAnd_f, e_or, kOr_t, kOr_f, e_not, kNot_eq, e_andV, kAndV_b, kAndV_t, kAndV_f, e_orV, kOrV_b, kOrV_t, kOrV_f, e_notV, kNotV_b, e_if, kIf_t, kIf_f, e_tup, kTup_eq, kTup2_eq, e_lst, kLst_eq, kLst2_eq, e_it, kIt_eq, e_r1, kR1_eq, e_r2, kR2_eq, e_q, kQ_eq, e_lc, kLc_eq, e_no, e_part, kPart_i, e_sl, kSl_eq, kSl2_eq, kSl3_eq, e_chain, kCh_eq, kCh2_eq, kCh3_b, kCh4_t, kCh4_f, kCh5_eq, e_app, kApp0_own, kApp_d, kApp_own, e_frz, kFrz_own, kFrz_d, e_aug, kAug0_d, kAug_d, e_def, dout_nx, dout_rt, dout_er, e_try, tTry_nx, tTry_rt, tTry_er, tOut_rt, tOut_nx, tOut_ct, e_told, kTold_e, bind_ok, bind_er, bind_bad, nox_ok, A.v, A.toD, toDs, asX, asR1_i, asR2_i, dTy, D.ty, dRel, dLe, dLt, dGt, dGe, dLtX, dLen, dAdd, dSub, dMod, dDiv, dMulX, dIx, dSl, dTuple, dList, isi_int_tup, isi_int_lst, isi_int_int, isi_int_str, isi_int_bl, isi_int_non, isi_bool_tup, isi_bool_lst, isi_bool_int, isi_bool_str, isi_bool_bl, isi_bool_non, isi_str_tup, isi_str_lst, isi_str_int, isi_str_str, isi_str_bl, isi_str_non, isi_tuple_tup, isi_tuple_lst, isi_tuple_int, isi_tuple_str, isi_tuple_bl, isi_tuple_non, isi_list_tup, isi_list_lst, isi_list_int, isi_list_str, isi_list_bl, isi_list_non, dIsB, dIsN, D.isNon, dNeg, dMax2, dMin2, dAbs, gN, gT, gsC, gsN, wipeE, blankE, lend, D.scal, List.map_cons, List.map_nil, List.length_cons, List.length_nil, List.cons_append, List.nil_append, List.getElem?_cons_zero, List.getElem?_cons_succ, List.set_cons_zero, List.set_cons_succ, List.replicate, Nat.reduceAdd, Nat.reduceSub, if_true, if_false, Bool.false_eq_true, reduceIte, decide_true, decide_false, String.reduceEq, reduceCtorEq, Int.reduceLE, Int.reduceLT, Int.reduceAdd, Int.reduceSub, Int.reduceMul, Int.reduceNeg, Int.reduceToNat, Int.reduceBNe, Int.reduceBEq, dInX, dIn, Nat.reduceLeDiff, Nat.reduceLT, Bool.not_true, Bool.not_false, Int.cast_ofNat_Int, Bool.and_true, Bool.true_and, Bool.and_false, Bool.false_and, and_self, and_true, true_and, lay_tup, lay_lst, lay_int, lay_str, lay_bl, lay_non, layL_nil, layL_cons, dEq_int, dEq_str, List.length_map, List.length_range, Int.reduceEq, bb_tt, bb_tf, bb_ft, bb_ff, nm_OR, nm_MA, nm_NT, nm_RE, nm_TM, eq_self, at0, at1, at2, at3, Option.map_some])
/-! asked, refused -/
theorem lay_xD {x : Exp} {n : Nat} : lay (xD x) (n + 2) = true := by
  unfold xD
  simp only [lay_tup, layL_cons, layL_nil, lay_str, lay_int, Bool.and_true, Bool.true_and]
  exact layL_all fun d hd => by
    obtain ⟨y, _, rfl⟩ := List.mem_map.mp hd
    exact lay_str
theorem lay_E {E : List Exp} : lay (.lst (E.map xD)) 40 = true := by
  rw [lay_lst]
  exact layL_all fun d hd => by
    obtain ⟨y, _, rfl⟩ := List.mem_map.mp hd
    exact lay_xD
theorem lay_F {J : List Fnd} : lay (.tup (J.map fD)) 40 = true := by
  rw [lay_tup]
  exact layL_all fun d hd => by
    obtain ⟨y, _, rfl⟩ := List.mem_map.mp hd
    exact lay_fD
theorem no_clash {J O : List Fnd} (h : Once (J ++ O)) : clash J O = false := by
  unfold clash
  rw [List.any_eq_false]
  intro o ho z
  obtain ⟨f, hf, e⟩ := List.any_eq_true.mp z
  exact (List.pairwise_append.mp h).2.2 f hf o ho (of_decide_eq_true e)
theorem ev_asked {r : Rul} {E : List Exp} (k : Eok r E) {J O : List Fnd} (h : Once (J ++ O)) (hl : J.length + O.length ≤ 12) (ho : O.length ≤ 7) {p : Str} {s : Sx} :
    m__law_asked s [.lst (E.map xD), .tup (J.map fD), .tup (O.map fD), rD r, .str p] = .ok (.bl true) s := by
  have p12 : dPow (D.int 10) (D.int 12) = some (.d (.int 1000000000000)) := rfl
  have gr : m_greatest_burden s [.lst (E.map xD), .tup (J.map fD), .tup (O.map fD), rD r, .str p] = .ok (.tup [.int (W p (Cs r E) (worst p (Cs r E) J O)), .tup ((worst p (Cs r E) J O).map fD)]) s := by
    rw [ev_great k (.inl h) (by omega) (by omega), no_clash h, if_neg (by simp), if_neg (by omega)]
  have en : ∀ n : Int, m_is_enough s [.lst (E.map xD), .tup (J.map fD), .tup (O.map fD), rD r, .str p, .int n] = .ok (.bl (decide (W p (Cs r E) (worst p (Cs r E) J O) ≤ n))) s := fun n => by
    rw [ev_enough k (.inl h) (by omega) (by omega), no_clash h, if_neg (by simp), if_neg (by omega)]
  have wl : (worst p (Cs r E) J O).length ≤ 1000 := by
    have := (srt_perm (J ++ O.map (pick p (Cs r E)))).length_eq
    unfold worst
    rw [this, List.length_append, List.length_map]
    omega
  have bu := ev_burden k (s := s) (p := p) (once_worst (p := p) (C := Cs r E) h) wl
  have du := ev_due2 k (J := J) (O := O) (p := p) (s := s) (by omega) ho
  generalize hN : W p (Cs r E) (worst p (Cs r E) J O) = N at gr en bu du
  generalize hV : worst p (Cs r E) J O = V at gr en bu du
  unfold m__law_asked b__law_asked
  walk_at "ev"
  rw [gr]
  walk_at "ev"
  rw [dEq_self lay_E]
  walk_at "ev"
  rw [du]
  walk_at "ev"
  rw [dEq_self lay_F]
  walk_at "ev"
  rw [bu]
  walk_at "ev"
  rw [p12]
  walk_at "ev"
  rw [show [D.int 0, D.int (N - 1), D.int N, D.int (N + 1), D.int 1000000000000] = [0, N - 1, N, N + 1, 1000000000000].map D.int from rfl]
  refine foMq (c := D.int) (fun o => dout (oseq o _) = _)
    (fun pre e s' => s' = s ∧ ∃ o10 o11, e = [some (A.d (.lst (E.map xD))), some (A.d (.tup (J.map fD))), some (A.d (.tup (O.map fD))), some (A.d (rD r)), some (A.d (.str p)), some (.d (.lst (E.map xD))), some (.d (.tup [.int N, .tup (V.map fD)])), some (.d (.int N)), some (.d (.tup (V.map fD))), some (.d (.tup [.int N, .tup (V.map fD)])), o10, o11]) (pre := []) rfl ⟨rfl, none, none, rfl⟩ ?_ ?_
  · rintro pre x post e s' hp ⟨rfl, o10, o11, rfl⟩
    refine ⟨_, rfl, ?_⟩
    walk_at "ev"
    by_cases c0 : 0 ≤ x
    · rw [decide_eq_true c0]
      walk_at "ev"
      rw [p12]
      walk_at "ev"
      by_cases c1 : x ≤ 1000000000000
      · rw [decide_eq_true c1]
        walk_at "ev"
        rw [en]
        walk_at "ev"
        by_cases c2 : N ≤ x
        · rw [decide_eq_true c2]
          walk_at "ev"
          rw [decide_eq_false (show ¬ x < N by omega)]
          walk_at "ev"
          exact goes_nx ⟨rfl, some (.d (.int x)), some (.d (.bl true)), rfl⟩
        · rw [decide_eq_false c2]
          walk_at "ev"
          rw [decide_eq_true (show x < N by omega)]
          walk_at "ev"
          exact goes_nx ⟨rfl, some (.d (.int x)), some (.d (.bl false)), rfl⟩
      · rw [decide_eq_false c1]
        walk_at "ev"
        exact goes_nx ⟨rfl, some (.d (.int x)), o11, rfl⟩
    · rw [decide_eq_false c0]
      walk_at "ev"
      exact goes_nx ⟨rfl, some (.d (.int x)), o11, rfl⟩
  · rintro e s' ⟨rfl, o10, o11, rfl⟩
    walk_at "ev"
theorem ev_refused {r : Rul} {E : List Exp} (k : Eok r E) {J O : List Fnd} {due : Str} (h : clash J O = true ∧ due = nmE .RE ∨ clash J O = false ∧ 12 < J.length + O.length ∧ due = nmE .TM) (hj : J.length ≤ 100) (ho : O.length ≤ 100) {s : Sx} :
    m__law_refused s [.lst (E.map xD), .tup (J.map fD), .tup (O.map fD), rD r, .str due] = .ok (.bl true) s := by
  have hk : ∃ q : Ek, due = nmE q ∧ (∀ p, m_greatest_burden s [.lst (E.map xD), .tup (J.map fD), .tup (O.map fD), rD r, .str p] = .er q s) ∧ ∀ p (n : Int), m_is_enough s [.lst (E.map xD), .tup (J.map fD), .tup (O.map fD), rD r, .str p, .int n] = .er q s := by
    rcases h with ⟨h1, h2⟩ | ⟨h1, h2, h3⟩
    · exact ⟨.RE, h2, fun p => by rw [ev_great k (.inr (.inl h1)) hj ho, if_pos h1], fun p n => by rw [ev_enough k (.inr (.inl h1)) hj ho, if_pos h1]⟩
    · exact ⟨.TM, h3, fun p => by rw [ev_great k (.inr (.inr h2)) hj ho, h1, if_neg (by simp), if_pos h2], fun p n => by rw [ev_enough k (.inr (.inr h2)) hj ho, h1, if_neg (by simp), if_pos h2]⟩
  obtain ⟨q, rfl, hg, he⟩ := hk
  unfold m__law_refused b__law_refused
  walk_at "ev"
  refine foN0 (fun o => dout (oseq o _) = _)
    (fun i e s' => s' = s ∧ ∃ o5, e = [some (A.d (.lst (E.map xD))), some (A.d (.tup (J.map fD))), some (A.d (.tup (O.map fD))), some (A.d (rD r)), some (A.d (.str (nmE q))), o5, none]) ⟨rfl, none, rfl⟩ ?_ ?_
  · rintro i e s' hi ⟨rfl, o5, rfl⟩
    refine ⟨_, rfl, ?_⟩
    walk_at "ev"
    by_cases c : (i : Int) = 0
    · rw [decide_eq_true c]
      walk_at "ev"
      rw [hg]
      walk_at "ev"
      exact goA_nx ⟨rfl, some (.d (.int (i : Nat))), rfl⟩
    · rw [decide_eq_false c]
      walk_at "ev"
      rw [he]
      walk_at "ev"
      exact goA_nx ⟨rfl, some (.d (.int (i : Nat))), rfl⟩
  · rintro e s' ⟨rfl, o5, rfl⟩
    walk_at "ev"
end F52
namespace F52
open PySem L2 Mi
local macro_rules | `(tactic| walk_at "ev") => `(tactic| simp -implicitDefEqProofs only [rout_ok, rout_er, oseq_nx, oseq_rt, oseq_bk, oseq_ct, oseq_er, e_seq, e_nil, e_break, e_cont, e_raise, e_retN, kDrop, e_drop, kRet, e_ret, e_cond, kCond_t, kCond_f, e_set, kSet_d, kSet_own, e_asg, kAsg_d, kAsg_own, kAsg2_some, e_par, kPar_d, e_par3, kPar3_d, e_for, kFor, e_c, e_var, slot_eq, slotO_d, slotO_own, opt_none, opt_some, e_bin, kBin_eq, kBin2_eq, e_un, kUn_eq, e_args0, e_args, kArg_eq, kArg2_eq, e_call, kCall_eq, e_fn, kFn_eq, kFn2_eq, kD_eq, e_fnB, kFnB_eq, e_bool, kBool_b, e_and, kAnd_t, kAnd_f, e_or, kOr_t, kOr_f, e_not, kNot_eq, e_andV, kAndV_b, kAndV_t, kAndV_f, e_orV, kOrV_b, kOrV_t, kOrV_f, e_notV, kNotV_b, e_if, kIf_t, kIf_f, e_tup, kTup_eq, kTup2_eq, e_lst, kLst_eq, kLst2_eq, e_it, kIt_eq, e_r1, kR1_eq, e_r2, kR2_eq, e_q, kQ_eq, e_lc, kLc_eq, e_no, e_part, kPart_i, e_sl, kSl_eq, kSl2_eq, kSl3_eq, e_chain, kCh_eq, kCh2_eq, kCh3_b, kCh4_t, kCh4_f, kCh5_eq, e_app, kApp0_own, kApp_d, kApp_own, e_frz, kFrz_own, kFrz_d, e_aug, kAug0_d, kAug_d, e_def, dout_nx, dout_rt, dout_er, e_try, tTry_nx, tTry_rt, tTry_er, tOut_rt, tOut_nx, tOut_ct, e_told, kTold_e, bind_ok, bind_er, bind_bad, nox_ok, A.v, A.toD, toDs, asX, asR1_i, asR2_i, dTy, D.ty, dRel, dLe, dLt, dGt, dGe, dLtX, dLen, dAdd, dSub, dMod, dDiv, dMulX, dIx, dSl, dTuple, dList, isi_int_tup, isi_int_lst, isi_int_int, isi_int_str, isi_int_bl, isi_int_non, isi_bool_tup, isi_bool_lst, isi_bool_int, isi_bool_str, isi_bool_bl, isi_bool_non, isi_str_tup, isi_str_lst, isi_str_int, isi_str_str, isi_str_bl, isi_str_non, isi_tuple_tup, isi_tuple_lst, isi_tuple_int, isi_tuple_str, isi_tuple_bl, isi_tuple_non, isi_list_tup, isi_list_lst, isi_list_int, isi_list_str, isi_list_bl, isi_list_non, dIsB, dIsN, D.isNon, dNeg, dMax2, dMin2, dAbs, gN, gT, gsC, gsN, wipeE, blankE, lend, D.scal, List.map_cons, List.map_nil, List.length_cons, List.length_nil, List.cons_append, List.nil_append, List.getElem?_cons_zero, List.getElem?_cons_succ, List.set_cons_zero, List.set_cons_succ, List.replicate, Nat.reduceAdd, Nat.reduceSub, if_true, if_false, Bool.false_eq_true, reduceIte, decide_true, decide_false, String.reduceEq, reduceCtorEq, Int.reduceLE, Int.reduceLT, Int.reduceAdd, Int.reduceSub, Int.reduceMul, Int.reduceNeg, Int.reduceToNat, Int.reduceBNe, Int.reduceBEq, dInX, dIn, Nat.reduceLeDiff, Nat.reduceLT, Bool.not_true, Bool.not_false, Int.cast_ofNat_Int, Bool.and_true, Bool.true_and, Bool.and_false, Bool.false_and, and_self, and_true, true_and, lay_tup, lay_lst, lay_int, lay_str, lay_bl, lay_non, layL_nil, layL_cons, dEq_int, dEq_str, List.length_map, List.length_range, Int.reduceEq, bb_tt, bb_tf, bb_ft, bb_ff, nm_OR, nm_MA, nm_NT, nm_RE, nm_TM, eq_self, at0, at1, at2, at3, Option.map_some])
/-! what is drawn -/
theorem pickS {L : List Str} {i : Int} (h0 : 0 ≤ i) (h1 : i < (L.length : Nat)) : ∃ z, atI (L.map D.str) i = some (.str z) := by
  rw [show i = ((i.toNat : Nat) : Int) by omega]
  exact ⟨_, at_str (by omega)⟩
theorem ev_parties {s : Sx} (hs : Sok s) : ∃ a b s', m__law_parties s [.drs] = .ok (.tup [.str a, .str b]) s' ∧ Sok s' := by
  obtain ⟨k, s1, e1, k0, k1, hs1⟩ := draw hs (b := 4) (by decide) (by decide)
  obtain ⟨j, s2, e2, j0, j1, hs2⟩ := draw hs1 (b := 3) (by decide) (by decide)
  obtain ⟨a, ea⟩ := pickS (L := ["ann", "bob", "cid", "dan"]) (i := k) k0 k1
  obtain ⟨b, eb⟩ := pickS (L := ["ann", "bob", "cid", "dan"]) (i := fmd (k + 1 + j) 4) (fmd_nn (by decide)).1 (fmd_nn (by decide)).2
  refine ⟨a, b, s2, ?_, hs2⟩
  unfold m__law_parties b__law_parties
  walk_at "ev"
  rw [e1]
  walk_at "ev"
  rw [show atI [D.str "ann", D.str "bob", D.str "cid", D.str "dan"] k = some (.str a) from ea]
  walk_at "ev"
  rw [e2]
  walk_at "ev"
  rw [show atI [D.str "ann", D.str "bob", D.str "cid", D.str "dan"] (fmd (k + 1 + j) 4) = some (.str b) from eb]
  walk_at "ev"
abbrev HD : List Str := ["a", "b", "c", "d", "e", "f", "g"]
structure Xin (x : Exp) : Prop where
  ok : Xok x
  hs : ∀ h ∈ x.2.2, h ∈ HD
theorem ev_expenses {s : Sx} (hs : Sok s) : ∃ (E : List Exp) (s' : Sx), m__law_expenses s [.drs] = .ok (.lst (E.map xD)) s' ∧ Sok s' ∧ (∀ x ∈ E, Xin x) ∧ E.length ≤ 12 := by
  have p12 : dPow (D.int 10) (D.int 12) = some (.d (.int 1000000000000)) := rfl
  obtain ⟨n, s1, e1, n0, n1, hs1⟩ := draw hs (b := 13) (by decide) (by decide)
  unfold m__law_expenses b__law_expenses
  walk_at "ev"
  rw [e1]
  walk_at "ev"
  rw [asR1_i (by omega)]
  walk_at "ev"
  refine foN0 (fun o => ∃ (E : List Exp) (s' : Sx), dout (oseq o (mRet (mVar 1))) = .ok (.lst (E.map xD)) s' ∧ Sok s' ∧ (∀ x ∈ E, Xin x) ∧ E.length ≤ 12)
    (fun i e s' => Sok s' ∧ ∃ (E : List Exp) (o2 o3 o4 : Option A), (∀ x ∈ E, Xin x) ∧ E.length = i ∧ e = [some (A.d .drs), some (.own (E.map xD)), o2, o3, o4, none]) ⟨hs1, [], none, none, none, fun x hx => (nomatch hx), rfl, rfl⟩ ?_ ?_
  · rintro i e s2 hi ⟨hs2, E, o2, o3, o4, hE, lE, rfl⟩
    refine ⟨_, rfl, ?_⟩
    walk_at "ev"
    obtain ⟨acc, s3, e3, hs3, sub⟩ := lcM_sub (g := gN 5) (tt := mBool (mBin (dEq false) (mFn m__law_draw [mVar 0, mC (D.int 3)]) (mC (D.int 1)))) (te := mVar 5) (e := [some (A.d .drs), some (A.own (E.map xD)), some (A.d (.int (i : Nat))), o3, o4, none]) (S := Sok) (ds := HD.map D.str) hs2 (by decide) (fun d hd s hs => by
      obtain ⟨r, s', e, r0, r1, h'⟩ := draw hs (b := 3) (by decide) (by decide)
      refine ⟨_, decide (r = 1), s', rfl, ?_, h', fun _ => ?_⟩
      · walk_at "ev"
        rw [e]
        walk_at "ev"
      · walk_at "ev")
    simp only [HD, List.map_cons, List.map_nil] at e3
    obtain ⟨hs, sub', rfl⟩ := List.sublist_map_iff.mp (show acc.Sublist (HD.map D.str) from sub)
    rw [e3]
    walk_at "ev"
    rw [take_ok (by decide), ← List.map_take]
    walk_at "ev"
    obtain ⟨x4, s4, e4, x40, x41, hs4⟩ := draw hs3 (b := 20) (by decide) (by decide)
    rw [e4]
    walk_at "ev"
    rw [p12]
    walk_at "ev"
    obtain ⟨x5, s5, e5, x50, x51, hs5⟩ := draw hs4 (b := 1000000000001) (by decide) (by decide)
    rw [e5]
    walk_at "ev"
    obtain ⟨x6, s6, e6, x60, x61, hs6⟩ := draw hs5 (b := 2) (by decide) (by decide)
    rw [e6]
    walk_at "ev"
    obtain ⟨v, ev, hv⟩ := pick2 (a := D.int x4) (b := D.int x5) x60 x61
    rw [ev]
    have hv : ∃ a : Int, v = .int a ∧ 0 ≤ a ∧ a ≤ 1000000000000 := by
      rcases hv with rfl | rfl
      · exact ⟨x4, rfl, x40, by omega⟩
      · exact ⟨x5, rfl, x50, by omega⟩
    obtain ⟨am, rfl, am0, am1⟩ := hv
    walk_at "ev"
    obtain ⟨x7, s7, e7, x70, x71, hs7⟩ := draw hs6 (b := 4) (by decide) (by decide)
    rw [e7]
    walk_at "ev"
    obtain ⟨sp, esp⟩ := pickS (L := ["ann", "bob", "cid", "dan"]) (i := x7) x70 x71
    rw [show atI [D.str "ann", D.str "bob", D.str "cid", D.str "dan"] x7 = some (.str sp) from esp]
    walk_at "ev"
    generalize hq : hs.take 6 = q
    have ql : q.length ≤ 6 := by rw [← hq, List.length_take]; omega
    have qm : ∀ h ∈ q, h ∈ HD := fun h hh => sub'.subset (List.mem_of_mem_take (hq ▸ hh))
    have fin : ∀ (y : List Str) (o2 o3 o4 : Option A), 0 < y.length → y.length ≤ 7 → (∀ h ∈ y, h ∈ HD) → GoA (fun e s' => Sok s' ∧ ∃ (E : List Exp) (o2 o3 o4 : Option A), (∀ (x : Exp), x ∈ E → Xin x) ∧ E.length = i + 1 ∧ e = [some (A.d D.drs), some (A.own (List.map xD E)), o2, o3, o4, none])
      (fun o => ∃ (E : List Exp) (s' : Sx), dout (oseq o (mRet (mVar 1))) = Res.ok (D.lst (List.map xD E)) s' ∧ Sok s' ∧ (∀ (x : Exp), x ∈ E → Xin x) ∧ E.length ≤ 12)
      (.nx [some (A.d D.drs), some (A.own (List.map xD E ++ [.tup [.str sp, .int am, .tup (y.map .str)]])), o2, o3, o4, none] s7) := fun y o2 o3 o4 y0 y1 ym => goA_nx ⟨hs7, E ++ [(sp, am, y)], o2, o3, o4, fun x hx => by
        rcases List.mem_append.mp hx with hx | hx
        · exact hE x hx
        · rw [List.mem_singleton.mp hx]
          exact ⟨⟨am0, am1, y0, y1⟩, ym⟩, by rw [List.length_append, lE]; rfl, by rw [List.map_append]; rfl⟩
    cases q with
    | nil =>
      rw [show dEq true (D.tup (([] : List Str).map D.str)) (D.tup []) = some (.d (.bl false)) from dEq_self rfl]
      walk_at "ev"
      rw [if_pos (by omega)]
      exact fin ["c"] _ _ _ (by decide) (by decide) (by decide +kernel)
    | cons z q =>
      rw [dEq_ok (by rw [lay_tup]; exact layL_all fun d hd => by obtain ⟨y, _, rfl⟩ := List.mem_map.mp hd; exact lay_str) rfl, eqD_tup, List.map_cons, eqLD_cn]
      walk_at "ev"
      rw [if_pos (by omega)]
      exact fin (z :: q) _ _ _ (by simp) (by omega) qm
  · rintro e s2 ⟨hs2, E, o2, o3, o4, hE, lE, rfl⟩
    walk_at "ev"
    exact ⟨E, s2, rfl, hs2, hE, by omega⟩
end F52
namespace F52
open PySem L2 Mi
local macro_rules | `(tactic| walk_at "ev") => `(tactic| simp -implicitDefEqProofs only [rout_ok, rout_er, oseq_nx, oseq_rt, oseq_bk, oseq_ct, oseq_er, e_seq, e_nil, e_break, e_cont, e_raise, e_retN, kDrop, e_drop, kRet, e_ret, e_cond, kCond_t, kCond_f, e_set, kSet_d, kSet_own, e_asg, kAsg_d, kAsg_own, kAsg2_some, e_par, kPar_d, e_par3, kPar3_d, e_for, kFor, e_c, e_var, slot_eq, slotO_d, slotO_own, opt_none, opt_some, e_bin, kBin_eq, kBin2_eq, e_un, kUn_eq, e_args0, e_args, kArg_eq, kArg2_eq, e_call, kCall_eq, e_fn, kFn_eq, kFn2_eq, kD_eq, e_fnB, kFnB_eq, e_bool, kBool_b, e_and, kAnd_t, kAnd_f, e_or, kOr_t, kOr_f, e_not, kNot_eq, e_andV, kAndV_b, kAndV_t, kAndV_f, e_orV, kOrV_b, kOrV_t, kOrV_f, e_notV, kNotV_b, e_if, kIf_t, kIf_f, e_tup, kTup_eq, kTup2_eq, e_lst, kLst_eq, kLst2_eq, e_it, kIt_eq, e_r1, kR1_eq, e_r2, kR2_eq, e_q, kQ_eq, e_lc, kLc_eq, e_no, e_part, kPart_i, e_sl, kSl_eq, kSl2_eq, kSl3_eq, e_chain, kCh_eq, kCh2_eq, kCh3_b, kCh4_t, kCh4_f, kCh5_eq, e_app, kApp0_own, kApp_d, kApp_own, e_frz, kFrz_own, kFrz_d, e_aug, kAug0_d, kAug_d, e_def, dout_nx, dout_rt, dout_er, e_try, tTry_nx, tTry_rt, tTry_er, tOut_rt, tOut_nx, tOut_ct, e_told, kTold_e, bind_ok, bind_er, bind_bad, nox_ok, A.v, A.toD, toDs, asX, asR1_i, asR2_i, dTy, D.ty, dRel, dLe, dLt, dGt, dGe, dLtX, dLen, dAdd, dSub, dMod, dDiv, dMulX, dIx, dSl, dTuple, dList, isi_int_tup, isi_int_lst, isi_int_int, isi_int_str, isi_int_bl, isi_int_non, isi_bool_tup, isi_bool_lst, isi_bool_int, isi_bool_str, isi_bool_bl, isi_bool_non, isi_str_tup, isi_str_lst, isi_str_int, isi_str_str, isi_str_bl, isi_str_non, isi_tuple_tup, isi_tuple_lst, isi_tuple_int, isi_tuple_str, isi_tuple_bl, isi_tuple_non, isi_list_tup, isi_list_lst, isi_list_int, isi_list_str, isi_list_bl, isi_list_non, dIsB, dIsN, D.isNon, dNeg, dMax2, dMin2, dAbs, gN, gT, gsC, gsN, wipeE, blankE, lend, D.scal, List.map_cons, List.map_nil, List.length_cons, List.length_nil, List.cons_append, List.nil_append, List.getElem?_cons_zero, List.getElem?_cons_succ, List.set_cons_zero, List.set_cons_succ, List.replicate, Nat.reduceAdd, Nat.reduceSub, if_true, if_false, Bool.false_eq_true, reduceIte, decide_true, decide_false, String.reduceEq, reduceCtorEq, Int.reduceLE, Int.reduceLT, Int.reduceAdd, Int.reduceSub, Int.reduceMul, Int.reduceNeg, Int.reduceToNat, Int.reduceBNe, Int.reduceBEq, dInX, dIn, Nat.reduceLeDiff, Nat.reduceLT, Bool.not_true, Bool.not_false, Int.cast_ofNat_Int, Bool.and_true, Bool.true_and, Bool.and_false, Bool.false_and, and_self, and_true, true_and, lay_tup, lay_lst, lay_int, lay_str, lay_bl, lay_non, layL_nil, layL_cons, dEq_int, dEq_str, List.length_map, List.length_range, Int.reduceEq, bb_tt, bb_tf, bb_ft, bb_ff, nm_OR, nm_MA, nm_NT, nm_RE, nm_TM, eq_self, at0, at1, at2, at3, Option.map_some])
/-! heads that no expense has; rows that are sorted already -/
def hk (k : Nat) : Str := repS "h" ((k : Int) + 1)
def ALL : List Str := HD ++ (List.range 13).map hk
theorem all_pw : ALL.Pairwise fun a b => a ≠ b ∧ ¬ b.cps.toList < a.cps.toList := by decide +kernel
theorem hk_out : ∀ k, k < 13 → hk k ∉ HD := by decide +kernel
theorem leF_of {a b : Fnd} (h1 : a.1 ≠ b.1) (h2 : ¬ b.1.cps.toList < a.1.cps.toList) : leF a b = true := by
  unfold leF leD fD
  rw [show pyD (.tup [.str b.1, .str b.2.1, .str b.2.2]) = .tuple [.str b.1, .str b.2.1, .str b.2.2] from by simp [pyD, pyDs], show pyD (.tup [.str a.1, .str a.2.1, .str a.2.2]) = .tuple [.str a.1, .str a.2.1, .str a.2.2] from by simp [pyD, pyDs], PySem.W.dataLt_tuple,
    PySem.W.dataLt_all_no (by simp [PySem.W.alike]) (by unfold PyData.eqv; simpa using fun z => h1 z.symm), PySem.W.dataLt_str, decide_eq_false h2]
  rfl
theorem once_of {L : List Fnd} (h : (L.map (·.1)).Sublist ALL) : Once L ∧ srt L = L := by
  have p := all_pw.sublist h
  rw [List.pairwise_map] at p
  refine ⟨p.imp fun z => z.1, ?_⟩
  unfold srt
  exact List.mergeSort_of_pairwise (p.imp fun {a b} z => leF_of z.1 z.2)
structure Ein (r : Rul) (E : List Exp) : Prop where
  ok : Eok r E
  hs : ∀ x ∈ E, Xin x
theorem head_in {r : Rul} {E : List Exp} (k : Ein r E) : ∀ c ∈ Cs r E, c.1 ∈ HD := fun c hc => by
  obtain ⟨x, hx, hc⟩ := List.mem_flatMap.mp hc
  obtain ⟨j, hj, rfl⟩ := List.mem_map.mp hc
  have hj := List.mem_range.mp hj
  refine (k.hs x hx).hs _ ?_
  show x.2.2.getD j "" ∈ x.2.2
  rw [List.getD_eq_getElem?_getD, List.getElem?_eq_getElem hj]
  exact List.getElem_mem hj
theorem t_out {r : Rul} {E : List Exp} (k : Ein r E) {p : Str} {f : Fnd} (h : f.1 ∉ HD) : t p (Cs r E) f = 0 := sum_zero fun c hc => v_neg fun z => h (by rw [z.1]; exact head_in k c hc)
theorem pick_out {r : Rul} {E : List Exp} (k : Ein r E) {p : Str} {f : Fnd} (h : f.1 ∉ HD) : pick p (Cs r E) f = f := by
  unfold pick
  rw [t_out k h, t_out k (f := tu f) h, if_neg (by omega)]
def wd (k : Nat) : Fnd := (hk k, "ann", "bob")
/-- names beyond all heads -/
def wide (n : Nat) : List Fnd := (List.range n).map wd
theorem wide_len {n : Nat} : (wide n).length = n := by unfold wide; rw [List.length_map, List.length_range]
theorem wide_out {n : Nat} (h : n ≤ 13) : ∀ f ∈ wide n, f.1 ∉ HD := fun f hf => by
  obtain ⟨j, hj, rfl⟩ := List.mem_map.mp hf
  exact hk_out j (by have := List.mem_range.mp hj; omega)
theorem wide_take {n m : Nat} : (wide n).take m = wide (min m n) := by
  unfold wide
  rw [← List.map_take, List.take_range]
theorem sub_all {J : List Fnd} (hJ : (J.map (·.1)).Sublist HD) {n : Nat} (h : n ≤ 13) : ((J ++ wide n).map (·.1)).Sublist ALL := by
  rw [List.map_append]
  refine List.Sublist.append hJ ?_
  unfold wide
  rw [List.map_map]
  exact (List.range_sublist.mpr h).map hk
theorem W_wide {r : Rul} {E : List Exp} (k : Ein r E) {p : Str} {J : List Fnd} {n : Nat} (h : n ≤ 13) : W p (Cs r E) (J ++ wide n) = W p (Cs r E) J := by
  rw [W_t, W_t, List.map_append, List.sum_append, sum_zero (f := t p (Cs r E)) (xs := wide n) fun f hf => t_out k (wide_out h f hf), Int.add_zero]
theorem worst_wide {r : Rul} {E : List Exp} (k : Ein r E) {p : Str} {J : List Fnd} (hJ : (J.map (·.1)).Sublist HD) {n : Nat} (h : n ≤ 13) : worst p (Cs r E) J (wide n) = J ++ wide n := by
  unfold worst
  rw [show (wide n).map (pick p (Cs r E)) = wide n by
    exact (List.map_congr_left (f := pick p (Cs r E)) (g := id) fun f hf => pick_out k (wide_out h f hf)).trans (List.map_id _)]
  exact (once_of (sub_all hJ h)).2
theorem clash_wide {J : List Fnd} (hJ : (J.map (·.1)).Sublist HD) {n : Nat} (h : n ≤ 13) : clash J (wide n) = false := no_clash (once_of (sub_all hJ h)).1
theorem clash_yes {J O : List Fnd} {f o : Fnd} (hf : f ∈ J) (ho : o ∈ O) (e : f.1 = o.1) : clash J O = true := List.any_eq_true.mpr ⟨o, ho, List.any_eq_true.mpr ⟨f, hf, decide_eq_true e⟩⟩
theorem ev_least {r : Rul} {E : List Exp} (k : Ein r E) {p : Str} {J : List Fnd} (hJ : (J.map (·.1)).Sublist HD) {n : Nat} (h : J.length + n ≤ 12) {s : Sx} :
    m_greatest_burden s [.lst (E.map xD), .tup (J.map fD), .tup ((wide n).map fD), rD r, .str p] = .ok (.tup [.int (W p (Cs r E) J), .tup ((J ++ wide n).map fD)]) s := by
  have o := (once_of (sub_all hJ (n := n) (by omega))).1
  rw [ev_great k.ok (.inl o) (by omega) (by rw [wide_len]; omega), clash_wide hJ (by omega), if_neg (by simp), wide_len, if_neg (by omega), worst_wide k hJ (by omega), W_wide k (by omega)]
end F52
namespace F52
open PySem L2 Mi
local macro_rules | `(tactic| walk_at "ev") => `(tactic| simp -implicitDefEqProofs only [rout_ok, rout_er, oseq_nx, oseq_rt, oseq_bk, oseq_ct, oseq_er, e_seq, e_nil, e_break, e_cont, e_raise, e_retN, kDrop, e_drop, kRet, e_ret, e_cond, kCond_t, kCond_f, e_set, kSet_d, kSet_own, e_asg, kAsg_d, kAsg_own, kAsg2_some, e_par, kPar_d, e_par3, kPar3_d, e_for, kFor, e_c, e_var, slot_eq, slotO_d, slotO_own, opt_none, opt_some, e_bin, kBin_eq, kBin2_eq, e_un, kUn_eq, e_args0, e_args, kArg_eq, kArg2_eq, e_call, kCall_eq, e_fn, kFn_eq, kFn2_eq, kD_eq, e_fnB, kFnB_eq, e_bool, kBool_b, e_and, kAnd_t, kAnd_f, e_or, kOr_t, kOr_f, e_not, kNot_eq, e_andV, kAndV_b, kAndV_t, kAndV_f, e_orV, kOrV_b, kOrV_t, kOrV_f, e_notV, kNotV_b, e_if, kIf_t, kIf_f, e_tup, kTup_eq, kTup2_eq, e_lst, kLst_eq, kLst2_eq, e_it, kIt_eq, e_r1, kR1_eq, e_r2, kR2_eq, e_q, kQ_eq, e_lc, kLc_eq, e_no, e_part, kPart_i, e_sl, kSl_eq, kSl2_eq, kSl3_eq, e_chain, kCh_eq, kCh2_eq, kCh3_b, kCh4_t, kCh4_f, kCh5_eq, e_app, kApp0_own, kApp_d, kApp_own, e_frz, kFrz_own, kFrz_d, e_aug, kAug0_d, kAug_d, e_def, dout_nx, dout_rt, dout_er, e_try, tTry_nx, tTry_rt, tTry_er, tOut_rt, tOut_nx, tOut_ct, e_told, kTold_e, bind_ok, bind_er, bind_bad, nox_ok, A.v, A.toD, toDs, asX, asR1_i, asR2_i, dTy, D.ty, dRel, dLe, dLt, dGt, dGe, dLtX, dLen, dAdd, dSub, dMod, dDiv, dMulX, dIx, dSl, dTuple, dList, isi_int_tup, isi_int_lst, isi_int_int, isi_int_str, isi_int_bl, isi_int_non, isi_bool_tup, isi_bool_lst, isi_bool_int, isi_bool_str, isi_bool_bl, isi_bool_non, isi_str_tup, isi_str_lst, isi_str_int, isi_str_str, isi_str_bl, isi_str_non, isi_tuple_tup, isi_tuple_lst, isi_tuple_int, isi_tuple_str, isi_tuple_bl, isi_tuple_non, isi_list_tup, isi_list_lst, isi_list_int, isi_list_str, isi_list_bl, isi_list_non, dIsB, dIsN, D.isNon, dNeg, dMax2, dMin2, dAbs, gN, gT, gsC, gsN, wipeE, blankE, lend, D.scal, List.map_cons, List.map_nil, List.length_cons, List.length_nil, List.cons_append, List.nil_append, List.getElem?_cons_zero, List.getElem?_cons_succ, List.set_cons_zero, List.set_cons_succ, List.replicate, Nat.reduceAdd, Nat.reduceSub, if_true, if_false, Bool.false_eq_true, reduceIte, decide_true, decide_false, String.reduceEq, reduceCtorEq, Int.reduceLE, Int.reduceLT, Int.reduceAdd, Int.reduceSub, Int.reduceMul, Int.reduceNeg, Int.reduceToNat, Int.reduceBNe, Int.reduceBEq, dInX, dIn, Nat.reduceLeDiff, Nat.reduceLT, Bool.not_true, Bool.not_false, Int.cast_ofNat_Int, Bool.and_true, Bool.true_and, Bool.and_false, Bool.false_and, and_self, and_true, true_and, lay_tup, lay_lst, lay_int, lay_str, lay_bl, lay_non, layL_nil, layL_cons, dEq_int, dEq_str, List.length_map, List.length_range, Int.reduceEq, bb_tt, bb_tf, bb_ft, bb_ff, nm_OR, nm_MA, nm_NT, nm_RE, nm_TM, eq_self, at0, at1, at2, at3, Option.map_some])
/-! the law -/
structure Jok (pre : List Str) (J O : List Fnd) : Prop where
  j : (J.map (·.1)).Sublist pre
  o : (O.map (·.1)).Sublist pre
  l : J.length + O.length ≤ pre.length
  d : ∀ f ∈ J, ∀ g ∈ O, f.1 ≠ g.1
theorem Jok.once {J O : List Fnd} (k : Jok HD J O) : Once (J ++ O) := by
  have nd : HD.Nodup := by decide +kernel
  have one : ∀ {L : List Fnd}, (L.map (·.1)).Sublist HD → Once L := fun {L} h => by
    have := nd.sublist h
    unfold List.Nodup at this
    rw [List.pairwise_map] at this
    exact this
  exact List.pairwise_append.mpr ⟨one k.j, one k.o, k.d⟩
theorem sub_snoc {L : List Fnd} {pre : List Str} {f : Fnd} (h : (L.map (·.1)).Sublist pre) : ((L ++ [f]).map (·.1)).Sublist (pre ++ [f.1]) := by
  rw [List.map_append]
  exact List.Sublist.append h (List.Sublist.refl _)
theorem sub_more {L : List Fnd} {pre : List Str} {d : Str} (h : (L.map (·.1)).Sublist pre) : (L.map (·.1)).Sublist (pre ++ [d]) := h.trans (List.sublist_append_left _ _)
theorem Jok.jud {pre : List Str} {J O : List Fnd} {d a b : Str} (k : Jok pre J O) (n : d ∉ pre) : Jok (pre ++ [d]) (J ++ [(d, a, b)]) O :=
  ⟨sub_snoc k.j, sub_more k.o, by rw [List.length_append, List.length_append, List.length_singleton, List.length_singleton]; have := k.l; omega, fun f hf g hg => by
    rcases List.mem_append.mp hf with hf | hf
    · exact k.d f hf g hg
    · rw [List.mem_singleton.mp hf]
      exact fun z => n (by
        rw [show d = g.1 from z]
        exact k.o.subset (List.mem_map.mpr ⟨g, hg, rfl⟩))⟩
theorem Jok.opn {pre : List Str} {J O : List Fnd} {d a b : Str} (k : Jok pre J O) (n : d ∉ pre) : Jok (pre ++ [d]) J (O ++ [(d, a, b)]) :=
  ⟨sub_more k.j, sub_snoc k.o, by rw [List.length_append, List.length_append, List.length_singleton, List.length_singleton]; have := k.l; omega, fun f hf g hg => by
    rcases List.mem_append.mp hg with hg | hg
    · exact k.d f hf g hg
    · rw [List.mem_singleton.mp hg]
      exact fun z => n (by
        rw [show d = f.1 from z.symm]
        exact k.j.subset (List.mem_map.mpr ⟨f, hf, rfl⟩))⟩
theorem Jok.non {pre : List Str} {J O : List Fnd} {d : Str} (k : Jok pre J O) : Jok (pre ++ [d]) J O :=
  ⟨sub_more k.j, sub_more k.o, by rw [List.length_append, List.length_singleton]; have := k.l; omega, k.d⟩
theorem pick4 {a b c d : D} {i : Int} (h0 : 0 ≤ i) (h1 : i < 4) : ∃ v, atI [a, b, c, d] i = some v ∧ (v = a ∨ v = b ∨ v = c ∨ v = d) := by
  have : i = 0 ∨ i = 1 ∨ i = 2 ∨ i = 3 := by omega
  rcases this with rfl | rfl | rfl | rfl
  · exact ⟨a, at0, .inl rfl⟩
  · exact ⟨b, at1, .inr (.inl rfl)⟩
  · exact ⟨c, at2, .inr (.inr (.inl rfl))⟩
  · exact ⟨d, at3, .inr (.inr (.inr rfl))⟩
theorem ev_open {O : List Fnd} (hO : O.length ≤ 100) {e : Mi.Env} {s : Sx} (h6 : e[6]? = some (some (.own (O.map fD)))) (h1 : e[1]? = some (some (.d .drs))) (hs : Sok s) :
    ∃ (f : Fnd) (s' : Sx), mIf (mBool (mBin (dEq true) (mVar 6) (mLst []))) (mBin dIx (mVar 6) (mFn m__law_draw [(mVar 1), (mCall dLen [(mVar 6)])])) (mTup [(mC (.str "c")), (mC (.str "ann")), (mC (.str "bob"))]) e s = .ok (.d (fD f)) s' ∧ Sok s' := by
  cases O with
  | nil =>
    refine ⟨("c", "ann", "bob"), s, ?_, hs⟩
    repeat (first | rw [h6] | rw [h1] | walk_at "ev")
    rw [dEq_self rfl]
    walk_at "ev"
    rfl
  | cons o O =>
    obtain ⟨r, s1, e1, r0, r1, hs1⟩ := draw hs (b := ((O.length + 1 : Nat) : Int)) (by omega) (by simp only [List.length_cons] at hO; omega)
    obtain ⟨pre, f, post, e2, e3⟩ := pick_at (xs := o :: O) r0 r1
    refine ⟨f, s1, ?_, hs1⟩
    repeat (first | rw [h6] | rw [h1] | walk_at "ev")
    rw [dEq_ok (lay_lst.trans (layL_all fun d hd => by obtain ⟨y, _, rfl⟩ := List.mem_map.mp (show d ∈ (o :: O).map fD from hd); exact lay_fD)) rfl, eqD_lst, eqLD_cn]
    repeat (first | rw [h6] | rw [h1] | walk_at "ev")
    rw [e1]
    repeat (first | rw [h6] | rw [h1] | walk_at "ev")
    rw [show atI (fD o :: O.map fD) r = some (fD f) from by rw [e3]; exact sp_at (f := fD) e2]
    walk_at "ev"
theorem hm (d : DS) (h0 : 0 < d.cs.length) (h1 : d.cs.length ≤ 64) : ∃ s', b_law ((List.replicate N_law.length none).set 1 (some (.d .drs))) (some d) = .rt (.bl true) s' := by
  have hs : Sok (some d) := ⟨d, rfl, h0, h1⟩
  obtain ⟨n, s1, e1, n0, n1, hs1⟩ := draw hs (b := 2) (by decide) (by decide)
  unfold b_law
  walk_at "ev"
  rw [e1]
  walk_at "ev"
  rw [asR1_i (by omega)]
  walk_at "ev"
  refine foN0 (fun o => ∃ s', oseq o _ = .rt (.bl true) s')
    (fun i e s' => Sok s' ∧ ∃ o3 o4 o5 o6 o7 o8 o9 o10 o11 o12 o13 o14 o15 o2, e = [none, some (.d .drs), o2, o3, o4, o5, o6, o7, o8, o9, o10, o11, o12, o13, o14, o15, none, none, none]) ⟨hs1, none, none, none, none, none, none, none, none, none, none, none, none, none, none, rfl⟩ ?_ ?_
  · rintro i e s2 hi ⟨hs2, o3, o4, o5, o6, o7, o8, o9, o10, o11, o12, o13, o14, o15, o2, rfl⟩
    refine ⟨_, rfl, ?_⟩
    obtain ⟨E, s3, e3, hs3, hE, lE⟩ := ev_expenses hs2
    walk_at "ev"
    rw [e3]
    walk_at "ev"
    obtain ⟨q, s4, e4, q0, q1, hs4⟩ := draw hs3 (b := 9) (by decide) (by decide)
    rw [e4]
    walk_at "ev"
    obtain ⟨w, s5, e5, w0, w1, hs5⟩ := draw hs4 (b := 9) (by decide) (by decide)
    rw [e5]
    walk_at "ev"
    obtain ⟨v, ev, hv⟩ := pick4 (a := rD ("loser", 1, 1)) (b := rD ("part", 1, 2 + q)) (c := rD ("part", 2, 3)) (d := rD ("own", 1, 1)) (i := fmd w 4) (fmd_nn (by decide)).1 (fmd_nn (by decide)).2
    obtain ⟨r, er, hr⟩ : ∃ r : Rul, atI [D.tup [D.str "loser", D.tup [D.int 1, D.int 1]], D.tup [D.str "part", D.tup [D.int 1, D.int (2 + q)]], D.tup [D.str "part", D.tup [D.int 2, D.int 3]], D.tup [D.str "own", D.tup [D.int 1, D.int 1]]] (fmd w 4) = some (rD r) ∧ Rok r := by
      rcases hv with rfl | rfl | rfl | rfl
      · exact ⟨_, ev, .inr (.inl rfl), by decide, by decide, by decide, by decide⟩
      · exact ⟨_, ev, .inr (.inr rfl), by dsimp only; omega, by dsimp only; omega, by dsimp only; omega, by dsimp only; omega⟩
      · exact ⟨_, ev, .inr (.inr rfl), by decide, by decide, by decide, by decide⟩
      · exact ⟨_, ev, .inl rfl, by decide, by decide, by decide, by decide⟩
    have kE : Ein r E := ⟨⟨hr, fun x hx => (hE x hx).ok, lE⟩, hE⟩
    rw [er]
    generalize hopen : mAsg (mIf (mBool (mBin (dEq true) (mVar 6) (mLst []))) (mBin dIx (mVar 6) (mFn m__law_draw [(mVar 1), (mCall dLen [(mVar 6)])])) (mTup [(mC (.str "c")), (mC (.str "ann")), (mC (.str "bob"))])) (gT 3 (gsC (gN 7) (gsC (gN 9) (gsC (gN 10) gsN)))) = MA
    walk_at "ev"
    rw [show [D.str "a", D.str "b", D.str "c", D.str "d", D.str "e", D.str "f", D.str "g"] = HD.map D.str from rfl]
    refine foMq (c := D.str) (fun o => GoA _ _ (oseq o _))
      (fun pre e s' => Sok s' ∧ ∃ J O o7 o8 o9 o10, Jok pre J O ∧ e = [none, some (.d .drs), some (A.d (.int (i : Nat))), some (A.d (.lst (E.map xD))), some (.d (rD r)), some (.own (J.map fD)), some (.own (O.map fD)), o7, o8, o9, o10, o11, o12, o13, o14, o15, none, none, none]) (pre := []) (all := HD) rfl ⟨hs5, [], [], o7, o8, o9, o10, ⟨List.Sublist.refl _, List.Sublist.refl _, Nat.le_refl _, fun _ h => nomatch h⟩, rfl⟩ ?_ ?_
    · rintro pre h post e s6 hp ⟨hs6, J, O, o7, o8, o9, o10, kJ, rfl⟩
      have nh : h ∉ pre := by
        have nd : HD.Nodup := by decide +kernel
        rw [← hp] at nd
        exact fun z => (List.nodup_append.mp nd).2.2 h z h List.mem_cons_self rfl
      have lp : pre.length ≤ 7 := by
        have := congrArg List.length hp
        rw [List.length_append, List.length_cons, show HD.length = 7 from rfl] at this
        omega
      have lJ := kJ.l
      refine ⟨_, rfl, ?_⟩
      obtain ⟨k, s7, e7, k0, k1, hs7⟩ := draw hs6 (b := 3) (by decide) (by decide)
      obtain ⟨a, b, s8, e8, hs8⟩ := ev_parties hs7
      walk_at "ev"
      rw [e7]
      walk_at "ev"
      rw [e8]
      walk_at "ev"
      have opn : ∃ (J' O' : List Fnd) (o7' o8' o9' o10' : Option A), Jok (pre ++ [h]) J' O' ∧ [none, some (.d .drs), some (A.d (.int (i : Nat))), some (A.d (.lst (E.map xD))), some (.d (rD r)), some (.own (J.map fD)), some (.own (O.map fD ++ [D.tup [.str h, .str a, .str b]])), some (.d (.str h)), some (.d (.int k)), some (.d (.str a)), some (.d (.str b)), o11, o12, o13, o14, o15, none, none, none] = [none, some (.d .drs), some (A.d (.int (i : Nat))), some (A.d (.lst (E.map xD))), some (.d (rD r)), some (.own (J'.map fD)), some (.own (O'.map fD)), o7', o8', o9', o10', o11, o12, o13, o14, o15, none, none, none] :=
        ⟨J, O ++ [(h, a, b)], _, _, _, _, kJ.opn nh, by rw [List.map_append]; rfl⟩
      by_cases c0 : k = 0
      · rw [decide_eq_true c0]
        walk_at "ev"
        rw [if_pos (by omega)]
        exact goes_nx ⟨hs8, J ++ [(h, a, b)], O, _, _, _, _, kJ.jud nh, by rw [List.map_append]; rfl⟩
      · rw [decide_eq_false c0]
        walk_at "ev"
        by_cases c1 : k = 1
        · rw [decide_eq_true c1]
          walk_at "ev"
          by_cases c2 : (O.length : Int) < 6
          · rw [decide_eq_true c2]
            walk_at "ev"
            rw [if_pos (by omega)]
            exact goes_nx ⟨hs8, opn⟩
          · rw [decide_eq_false c2]
            walk_at "ev"
            cases c3 : decide (h = "c") with
            | true =>
              walk_at "ev"
              rw [if_pos (by omega)]
              exact goes_nx ⟨hs8, opn⟩
            | false =>
              walk_at "ev"
              exact goes_nx ⟨hs8, J, O, _, _, _, _, kJ.non, rfl⟩
        · rw [decide_eq_false c1]
          walk_at "ev"
          cases c3 : decide (h = "c") with
          | true =>
            walk_at "ev"
            rw [if_pos (by omega)]
            exact goes_nx ⟨hs8, opn⟩
          | false =>
            walk_at "ev"
            exact goes_nx ⟨hs8, J, O, _, _, _, _, kJ.non, rfl⟩
    · rintro e s6 ⟨hs6, J, O, o7, o8, o9, o10, kJ, rfl⟩
      have lJ := kJ.l
      rw [show HD.length = 7 from rfl] at lJ
      walk_at "ev"
      obtain ⟨x7, s7, e7, x70, x71, hs7⟩ := draw hs6 (b := 9) (by decide) (by decide)
      rw [e7]
      walk_at "ev"
      obtain ⟨p, ep⟩ := pickS (L := ["ann", "bob", "cid", "dan", "eve"]) (i := fmd x7 5) (fmd_nn (by decide)).1 (fmd_nn (by decide)).2
      rw [show atI [D.str "ann", D.str "bob", D.str "cid", D.str "dan", D.str "eve"] (fmd x7 5) = some (.str p) from ep]
      walk_at "ev"
      rw [take_ok (by decide), ← List.map_take]
      walk_at "ev"
      have oT : Once (J ++ O.take 6) := List.Pairwise.sublist (List.Sublist.append (List.Sublist.refl _) (List.take_sublist _ _)) kJ.once
      have lT : (O.take 6).length ≤ 6 ∧ (O.take 6).length ≤ O.length := by rw [List.length_take]; exact ⟨Nat.min_le_left _ _, Nat.min_le_right _ _⟩
      rw [ev_asked kE.ok oT (by omega) (by omega)]
      walk_at "ev"
      rw [← hopen, e_asg]
      obtain ⟨⟨h, a, b⟩, s8, e8, hs8⟩ := ev_open (O := O) (by omega) (e := [none, some (.d .drs), some (A.d (.int (i : Nat))), some (A.d (.lst (E.map xD))), some (.d (rD r)), some (.own (J.map fD)), some (.own (O.map fD)), o7, o8, o9, o10, some (.d (.str p)), o12, o13, o14, o15, none, none, none]) rfl rfl hs7
      rw [e8]
      clear e8 hopen
      unfold fD
      walk_at "ev"
      rw [show (fun f : Fnd => D.tup [.str f.1, .str f.2.1, .str f.2.2]) = fD from rfl]
      rw [lcM_mp (c := fD) (t := fun f => !decide (f.1 = h)) (f := fD) (fun f _ => ⟨_, rfl, by
        unfold fD
        walk_at "ev", fun _ => ⟨_, by walk_at "ev"; rfl, rfl⟩⟩) (by simp only [List.length_nil]; omega)]
      walk_at "ev"
      have lF : (J.filter fun f => !decide (f.1 = h)).length ≤ J.length := List.length_filter_le _ _
      rw [if_pos (by omega)]
      walk_at "ev"
      rw [show List.map fD (J.filter fun f => !decide (f.1 = h)) ++ [D.tup [D.str h, D.str b, D.str a]] = ((J.filter fun f => !decide (f.1 = h)) ++ [(h, b, a)]).map fD by rw [List.map_append]; rfl, sort_l]
      walk_at "ev"
      have lS := (srt_perm ((J.filter fun f => !decide (f.1 = h)) ++ [(h, b, a)])).length_eq
      rw [List.length_append, List.length_singleton] at lS
      have mS : (h, b, a) ∈ srt ((J.filter fun f => !decide (f.1 = h)) ++ [(h, b, a)]) := (srt_perm _).mem_iff.mpr (by simp)
      generalize srt ((J.filter fun f => !decide (f.1 = h)) ++ [(h, b, a)]) = V at lS mS
      have ref1 : m__law_refused s8 [.lst (E.map xD), .tup (V.map fD), .tup [.tup [.str h, .str a, .str b]], rD r, .str "Refused"] = .ok (.bl true) s8 :=
        ev_refused kE.ok (O := [(h, a, b)]) (.inl ⟨clash_yes mS List.mem_cons_self rfl, rfl⟩) (by omega) (by simp)
      rw [ref1]
      walk_at "ev"
      rw [asR1_i (by omega), rng_map, show ((13 : Int) - (J.length : Nat)).toNat = 13 - J.length by omega]
      walk_at "ev"
      rw [lcM_ma (c := fun k : Nat => D.int (k : Nat)) (f := fun k => .str (hk k)) (fun k hk' => ⟨_, .d (.str (hk k)), rfl, by
        have hk' := List.mem_range.mp hk'
        walk_at "ev"
        rw [if_pos ⟨by omega, by omega, by decide +kernel⟩]
        rfl, rfl⟩) (by rw [List.length_range]; omega)]
      walk_at "ev"
      rw [take_ok (by decide), ← List.map_take, List.take_range, show min ((12 : Int).toNat) (13 - J.length) = min 12 (13 - J.length) from rfl]
      rw [lcM_ma (c := fun k : Nat => D.str (hk k)) (f := fun k => fD (wd k)) (fun k _ => ⟨_, .d (fD (wd k)), rfl, by
        walk_at "ev"
        rfl, rfl⟩) (by rw [List.length_range]; omega)]
      rw [show (List.range (min 12 (13 - J.length))).map (fun k => fD (wd k)) = (wide (min 12 (13 - J.length))).map fD by unfold wide; rw [List.map_map]; rfl]
      generalize hm : min 12 (13 - J.length) = m
      walk_at "ev"
      have cut : cutD ((wide m).map fD) none (some (12 - (J.length : Nat))) = (wide (12 - J.length)).map fD := by
        rw [take_ok (by omega), ← List.map_take, wide_take, show min ((12 : Int) - (J.length : Nat)).toNat m = 12 - J.length by omega]
      have least : m_greatest_burden s8 [.lst (E.map xD), .tup (J.map fD), .tup ((wide (12 - J.length)).map fD), rD r, .str p] = .ok (.tup [.int (W p (Cs r E) J), .tup ((J ++ wide (12 - J.length)).map fD)]) s8 := ev_least kE kJ.j (by omega)
      by_cases cJ : (0 : Int) < (J.length : Nat)
      · rw [decide_eq_true cJ]
        walk_at "ev"
        have ref2 : m__law_refused s8 [.lst (E.map xD), .tup (J.map fD), .tup ((wide m).map fD), rD r, .str "TooMuch"] = .ok (.bl true) s8 :=
          ev_refused kE.ok (.inr ⟨clash_wide kJ.j (by omega), by rw [wide_len]; omega, rfl⟩) (by omega) (by rw [wide_len]; omega)
        rw [ref2]
        walk_at "ev"
        rw [decide_eq_true cJ]
        walk_at "ev"
        obtain ⟨j0, hj0, mj0⟩ : ∃ j0, atI (J.map fD) 0 = some (fD j0) ∧ j0 ∈ J := by
          cases hJ : J with
          | nil => rw [hJ] at cJ; exact absurd cJ (by simp)
          | cons j0 J' => exact ⟨j0, sp_at (f := fD) (pre := []) (post := J') (x := j0) rfl, List.mem_cons_self⟩
        rw [hj0]
        unfold fD
        walk_at "ev"
        rw [show (fun f : Fnd => D.tup [.str f.1, .str f.2.1, .str f.2.2]) = fD from rfl]
        have cut10 : cutD ((wide m).map fD) none (some 10) = (wide (min 10 m)).map fD := by
          rw [take_ok (by decide), ← List.map_take, wide_take]
          rfl
        rw [cut10, List.length_map, wide_len, if_pos (by omega)]
        walk_at "ev"
        rw [show (wide (min 10 m)).map fD ++ [D.tup [D.str j0.1, D.str "x", D.str "y"]] = (wide (min 10 m) ++ [(j0.1, ("x" : Str), ("y" : Str))]).map fD by rw [List.map_append]; rfl, sort_t]
        walk_at "ev"
        have lZ := (srt_perm (wide (min 10 m) ++ [(j0.1, ("x" : Str), ("y" : Str))])).length_eq
        rw [List.length_append, List.length_singleton, wide_len] at lZ
        have mZ : (j0.1, ("x" : Str), ("y" : Str)) ∈ srt (wide (min 10 m) ++ [(j0.1, ("x" : Str), ("y" : Str))]) := (srt_perm _).mem_iff.mpr (by simp)
        generalize srt (wide (min 10 m) ++ [(j0.1, ("x" : Str), ("y" : Str))]) = Z at lZ mZ
        rw [if_pos (by omega)]
        walk_at "ev"
        rw [show Z.map fD ++ [D.tup [D.str "z", D.str "x", D.str "y"]] = (Z ++ [(("z" : Str), ("x" : Str), ("y" : Str))]).map fD by rw [List.map_append]; rfl]
        have ref3 : m__law_refused s8 [.lst (E.map xD), .tup (J.map fD), .tup ((Z ++ [(("z" : Str), ("x" : Str), ("y" : Str))]).map fD), rD r, .str "Refused"] = .ok (.bl true) s8 :=
          ev_refused kE.ok (.inl ⟨clash_yes mj0 (List.mem_append_left _ mZ) rfl, rfl⟩) (by omega) (by rw [List.length_append, List.length_singleton]; omega)
        rw [ref3]
        walk_at "ev"
        rw [cut, least]
        walk_at "ev"
        rw [ev_lburden kE.ok]
        walk_at "ev"
        rw [cut]
        walk_at "ev"
        rw [if_pos (by rw [wide_len]; omega), ← List.map_append]
        walk_at "ev"
        rw [dEq_self lay_F]
        walk_at "ev"
        exact goA_nx ⟨hs8, _, _, _, _, _, _, _, _, _, _, _, _, _, _, rfl⟩
      · rw [decide_eq_false cJ]
        walk_at "ev"
        rw [decide_eq_false cJ]
        walk_at "ev"
        rw [cut, least]
        walk_at "ev"
        rw [ev_lburden kE.ok]
        walk_at "ev"
        rw [cut]
        walk_at "ev"
        rw [if_pos (by rw [wide_len]; omega), ← List.map_append]
        walk_at "ev"
        rw [dEq_self lay_F]
        walk_at "ev"
        exact goA_nx ⟨hs8, _, _, _, _, _, _, _, _, _, _, _, _, _, _, rfl⟩
  · rintro e s2 ⟨hs2, o3, o4, o5, o6, o7, o8, o9, o10, o11, o12, o13, o14, o15, o2, rfl⟩
    walk_at "ev"
    exact ⟨_, rfl⟩
end F52
namespace F52
open PySem L2 Kt
theorem walk {l : PySem.W.OpenLaw} {q : Program} {loose : List Str} {XP : (Str → Option Value) → Heap → Prop} {YP : World → Heap → Prop} {d : DefRec} {K : Params → PySem.W.Frag} (hn : l.most = some 63) (hdf : d.params.defaults = [])
    (hY : ∀ (w : World) (h : Heap), YP w h → (K w.params).In h)
    (F : ∀ (w : World) (mg : Str → Option Value) (fa : Addr) (h : Heap), (K w.params).In h → h.Ns mainGlobals mg → mg d.name = some (.ref fa) →
      (∀ (y : Str), ((PyProof.Rows.recsOf q).any fun e => e.name == y) = true → ∀ f, mg y = some (.ref f) → LamX.OwnTab (K w.params) f h) → LamX.LawAtS l w (K w.params) CX0 7 63 "script" mg fa h) :
    PySem.W.WalkO q loose XP YP l.row.toRowW d [] (fun f vs => PySem.call f vs) :=
  Kj.walk_ofTabs (n := 63) (k := 7) (x := "script") (CX := fun _ => CX0) hn (by decide) hdf ⟨rfl, by decide, by decide⟩ hY F fun _ _ _ _ _ z => z
end F52
open PySem PySem.W PyProof.Rows
set_option maxRecDepth 100000 in
set_option maxHeartbeats 0 in
theorem PySem.Challenge.cw_docketloom_k52_greatest_burdens_holds : PySem.Challenge.rw_docketloom_k52_greatest_burdens.Holds := by
  w_on; o_law; k_head; (case hw => w_witness2)
  k_fill
  refine F52.walk (l := PySem.Challenge.rw_docketloom_k52_greatest_burdens) rfl rfl (fun w h Y => PySem.W.km_in_of Y) ?F
  case F =>
    intro w mg fa h KX G hmg hO
    have A_dealt : Kt.At (Kt.kOf KX) mg "dealt" F52.s_dealt := by
      unfold Kt.kOf
      refine' Kt.at_mk KX G ?a ?l ?c ?k
      (case a => k_is); (case l => k_is); (case c => k_is); (case k => k_is)
    have A_shifted : Kt.At (Kt.kOf KX) mg "shifted" F52.s_shifted := by
      unfold Kt.kOf
      refine' Kt.at_mk KX G ?a ?l ?c ?k
      (case a => k_is); (case l => k_is); (case c => k_is); (case k => k_is)
    have A_claims : Kt.At (Kt.kOf KX) mg "claims" F52.s_claims := by
      unfold Kt.kOf
      refine' Kt.at_mk KX G ?a ?l ?c ?k
      (case a => k_is); (case l => k_is); (case c => k_is); (case k => k_is)
    have A_debts_by : Kt.At (Kt.kOf KX) mg "debts_by" F52.s_debts_by := by
      unfold Kt.kOf
      refine' Kt.at_mk KX G ?a ?l ?c ?k
      (case a => k_is); (case l => k_is); (case c => k_is); (case k => k_is)
    have A_net_of : Kt.At (Kt.kOf KX) mg "net_of" F52.s_net_of := by
      unfold Kt.kOf
      refine' Kt.at_mk KX G ?a ?l ?c ?k
      (case a => k_is); (case l => k_is); (case c => k_is); (case k => k_is)
    have A_burden : Kt.At (Kt.kOf KX) mg "burden" F52.s_burden := by
      unfold Kt.kOf
      refine' Kt.at_mk KX G ?a ?l ?c ?k
      (case a => k_is); (case l => k_is); (case c => k_is); (case k => k_is)
    have A_greatest_burden : Kt.At (Kt.kOf KX) mg "greatest_burden" F52.s_greatest_burden := by
      unfold Kt.kOf
      refine' Kt.at_mk KX G ?a ?l ?c ?k
      (case a => k_is); (case l => k_is); (case c => k_is); (case k => k_is)
    have A_is_enough : Kt.At (Kt.kOf KX) mg "is_enough" F52.s_is_enough := by
      unfold Kt.kOf
      refine' Kt.at_mk KX G ?a ?l ?c ?k
      (case a => k_is); (case l => k_is); (case c => k_is); (case k => k_is)
    have A__law_open : Kt.At (Kt.kOf KX) mg "_law_open" F52.s__law_open := by
      unfold Kt.kOf
      refine' Kt.at_mk KX G ?a ?l ?c ?k
      (case a => k_is); (case l => k_is); (case c => k_is); (case k => k_is)
    have A__law_mixed : Kt.At (Kt.kOf KX) mg "_law_mixed" F52.s__law_mixed := by
      unfold Kt.kOf
      refine' Kt.at_mk KX G ?a ?l ?c ?k
      (case a => k_is); (case l => k_is); (case c => k_is); (case k => k_is)
    have A__law_draw : Kt.At (Kt.kOf KX) mg "_law_draw" F52.s__law_draw := by
      unfold Kt.kOf
      refine' Kt.at_mk KX G ?a ?l ?c ?k
      (case a => k_is); (case l => k_is); (case c => k_is); (case k => k_is)
    have A__law_told : Kt.At (Kt.kOf KX) mg "_law_told" F52.s__law_told := by
      unfold Kt.kOf
      refine' Kt.at_mk KX G ?a ?l ?c ?k
      (case a => k_is); (case l => k_is); (case c => k_is); (case k => k_is)
    have A__law_parties : Kt.At (Kt.kOf KX) mg "_law_parties" F52.s__law_parties := by
      unfold Kt.kOf
      refine' Kt.at_mk KX G ?a ?l ?c ?k
      (case a => k_is); (case l => k_is); (case c => k_is); (case k => k_is)
    have A__law_expenses : Kt.At (Kt.kOf KX) mg "_law_expenses" F52.s__law_expenses := by
      unfold Kt.kOf
      refine' Kt.at_mk KX G ?a ?l ?c ?k
      (case a => k_is); (case l => k_is); (case c => k_is); (case k => k_is)
    have A__law_burden : Kt.At (Kt.kOf KX) mg "_law_burden" F52.s__law_burden := by
      unfold Kt.kOf
      refine' Kt.at_mk KX G ?a ?l ?c ?k
      (case a => k_is); (case l => k_is); (case c => k_is); (case k => k_is)
    have A__law_ways : Kt.At (Kt.kOf KX) mg "_law_ways" F52.s__law_ways := by
      unfold Kt.kOf
      refine' Kt.at_mk KX G ?a ?l ?c ?k
      (case a => k_is); (case l => k_is); (case c => k_is); (case k => k_is)
    have A__law_due : Kt.At (Kt.kOf KX) mg "_law_due" F52.s__law_due := by
      unfold Kt.kOf
      refine' Kt.at_mk KX G ?a ?l ?c ?k
      (case a => k_is); (case l => k_is); (case c => k_is); (case k => k_is)
    have A__law_asked : Kt.At (Kt.kOf KX) mg "_law_asked" F52.s__law_asked := by
      unfold Kt.kOf
      refine' Kt.at_mk KX G ?a ?l ?c ?k
      (case a => k_is); (case l => k_is); (case c => k_is); (case k => k_is)
    have A__law_refused : Kt.At (Kt.kOf KX) mg "_law_refused" F52.s__law_refused := by
      unfold Kt.kOf
      refine' Kt.at_mk KX G ?a ?l ?c ?k
      (case a => k_is); (case l => k_is); (case c => k_is); (case k => k_is)
    have A_law : Kt.At (Kt.kOf KX) mg "law" F52.s_law := by
      unfold Kt.kOf
      refine' Kt.at_mk KX G ?a ?l ?c ?k
      (case a => k_is); (case l => k_is); (case c => k_is); (case k => k_is)
    have eE : ∃ OR, Kt.ExcAt (Kt.kOf KX) mg "OutOfRange" OR ∧ ∃ MA, Kt.ExcAt (Kt.kOf KX) mg "Malformed" MA ∧ ∃ NT, Kt.ExcAt (Kt.kOf KX) mg "NotThere" NT ∧ ∃ RE, Kt.ExcAt (Kt.kOf KX) mg "Refused" RE ∧ ∃ TM, Kt.ExcAt (Kt.kOf KX) mg "TooMuch" TM ∧ ∃ DE, Kt.ExcAt (Kt.kOf KX) mg "DocketError" DE ∧ PySem.W.subIn (Kt.kOf KX) (.ref OR) (.ref DE) = some true ∧ PySem.W.subIn (Kt.kOf KX) (.ref MA) (.ref DE) = some true ∧ PySem.W.subIn (Kt.kOf KX) (.ref NT) (.ref DE) = some true ∧ PySem.W.subIn (Kt.kOf KX) (.ref RE) (.ref DE) = some true ∧ PySem.W.subIn (Kt.kOf KX) (.ref TM) (.ref DE) = some true ∧ PySem.W.kitOne (Kt.kOf KX) (.ref OR) (.ref MA) = some false ∧ PySem.W.kitOne (Kt.kOf KX) (.ref OR) (.ref NT) = some false ∧ PySem.W.kitOne (Kt.kOf KX) (.ref OR) (.ref RE) = some false ∧ PySem.W.kitOne (Kt.kOf KX) (.ref OR) (.ref TM) = some false ∧ PySem.W.kitOne (Kt.kOf KX) (.ref MA) (.ref OR) = some false ∧ PySem.W.kitOne (Kt.kOf KX) (.ref MA) (.ref NT) = some false ∧ PySem.W.kitOne (Kt.kOf KX) (.ref MA) (.ref RE) = some false ∧ PySem.W.kitOne (Kt.kOf KX) (.ref MA) (.ref TM) = some false ∧ PySem.W.kitOne (Kt.kOf KX) (.ref NT) (.ref OR) = some false ∧ PySem.W.kitOne (Kt.kOf KX) (.ref NT) (.ref MA) = some false ∧ PySem.W.kitOne (Kt.kOf KX) (.ref NT) (.ref RE) = some false ∧ PySem.W.kitOne (Kt.kOf KX) (.ref NT) (.ref TM) = some false ∧ PySem.W.kitOne (Kt.kOf KX) (.ref RE) (.ref OR) = some false ∧ PySem.W.kitOne (Kt.kOf KX) (.ref RE) (.ref MA) = some false ∧ PySem.W.kitOne (Kt.kOf KX) (.ref RE) (.ref NT) = some false ∧ PySem.W.kitOne (Kt.kOf KX) (.ref RE) (.ref TM) = some false ∧ PySem.W.kitOne (Kt.kOf KX) (.ref TM) (.ref OR) = some false ∧ PySem.W.kitOne (Kt.kOf KX) (.ref TM) (.ref MA) = some false ∧ PySem.W.kitOne (Kt.kOf KX) (.ref TM) (.ref NT) = some false ∧ PySem.W.kitOne (Kt.kOf KX) (.ref TM) (.ref RE) = some false ∧ PySem.W.kitOne (Kt.kOf KX) (.ref OR) (.type "ValueError") = some true ∧ PySem.W.kitOne (Kt.kOf KX) (.ref MA) (.type "ValueError") = some true ∧ PySem.W.kitOne (Kt.kOf KX) (.ref NT) (.type "ValueError") = some true ∧ PySem.W.kitOne (Kt.kOf KX) (.ref RE) (.type "ValueError") = some true ∧ PySem.W.kitOne (Kt.kOf KX) (.ref TM) (.type "ValueError") = some true := by
      unfold Kt.kOf
      refine' Kt.ex_mk ⟨Kt.exc_mk KX G ?a0 ?q0 ?k0 ?b0 ?t0 ?g0_0 ?g0_1 ?g0_2 ?g0_3 ?g0_4 ?g0_5 ?g0_6, Kt.ex_mk ⟨Kt.exc_mk KX G ?a1 ?q1 ?k1 ?b1 ?t1 ?g1_0 ?g1_1 ?g1_2 ?g1_3 ?g1_4 ?g1_5 ?g1_6, Kt.ex_mk ⟨Kt.exc_mk KX G ?a2 ?q2 ?k2 ?b2 ?t2 ?g2_0 ?g2_1 ?g2_2 ?g2_3 ?g2_4 ?g2_5 ?g2_6, Kt.ex_mk ⟨Kt.exc_mk KX G ?a3 ?q3 ?k3 ?b3 ?t3 ?g3_0 ?g3_1 ?g3_2 ?g3_3 ?g3_4 ?g3_5 ?g3_6, Kt.ex_mk ⟨Kt.exc_mk KX G ?a4 ?q4 ?k4 ?b4 ?t4 ?g4_0 ?g4_1 ?g4_2 ?g4_3 ?g4_4 ?g4_5 ?g4_6, Kt.ex_mk ⟨Kt.exc_mk KX G ?a5 ?q5 ?k5 ?b5 ?t5 ?g5_0 ?g5_1 ?g5_2 ?g5_3 ?g5_4 ?g5_5 ?g5_6, ⟨?up0, ?up1, ?up2, ?up3, ?up4, ?kt0, ?kt1, ?kt2, ?kt3, ?kt4, ?kt5, ?kt6, ?kt7, ?kt8, ?kt9, ?kt10, ?kt11, ?kt12, ?kt13, ?kt14, ?kt15, ?kt16, ?kt17, ?kt18, ?kt19, ?kt20, ?kt21, ?kt22, ?kt23, ?kt24⟩⟩⟩⟩⟩⟩⟩
      (case a0 => k_is); (case a1 => k_is); (case a2 => k_is); (case a3 => k_is); (case a4 => k_is); (case a5 => k_is)
      (case q0 => k_exc); (case k0 => k_is); (case b0 => k_is); (case t0 => k_is); (case g0_0 => k_is); (case g0_1 => k_is); (case g0_2 => k_is); (case g0_3 => k_is); (case g0_4 => k_is); (case g0_5 => k_is); (case g0_6 => k_is)
      (case q1 => k_exc); (case k1 => k_is); (case b1 => k_is); (case t1 => k_is); (case g1_0 => k_is); (case g1_1 => k_is); (case g1_2 => k_is); (case g1_3 => k_is); (case g1_4 => k_is); (case g1_5 => k_is); (case g1_6 => k_is)
      (case q2 => k_exc); (case k2 => k_is); (case b2 => k_is); (case t2 => k_is); (case g2_0 => k_is); (case g2_1 => k_is); (case g2_2 => k_is); (case g2_3 => k_is); (case g2_4 => k_is); (case g2_5 => k_is); (case g2_6 => k_is)
      (case q3 => k_exc); (case k3 => k_is); (case b3 => k_is); (case t3 => k_is); (case g3_0 => k_is); (case g3_1 => k_is); (case g3_2 => k_is); (case g3_3 => k_is); (case g3_4 => k_is); (case g3_5 => k_is); (case g3_6 => k_is)
      (case q4 => k_exc); (case k4 => k_is); (case b4 => k_is); (case t4 => k_is); (case g4_0 => k_is); (case g4_1 => k_is); (case g4_2 => k_is); (case g4_3 => k_is); (case g4_4 => k_is); (case g4_5 => k_is); (case g4_6 => k_is)
      (case q5 => k_exc); (case k5 => k_is); (case b5 => k_is); (case t5 => k_is); (case g5_0 => k_is); (case g5_1 => k_is); (case g5_2 => k_is); (case g5_3 => k_is); (case g5_4 => k_is); (case g5_5 => k_is); (case g5_6 => k_is)
      (case up0 => k_is)
      (case up1 => k_is)
      (case up2 => k_is)
      (case up3 => k_is)
      (case up4 => k_is)
      (case kt0 => first | kit_is | k_is)
      (case kt1 => first | kit_is | k_is)
      (case kt2 => first | kit_is | k_is)
      (case kt3 => first | kit_is | k_is)
      (case kt4 => first | kit_is | k_is)
      (case kt5 => first | kit_is | k_is)
      (case kt6 => first | kit_is | k_is)
      (case kt7 => first | kit_is | k_is)
      (case kt8 => first | kit_is | k_is)
      (case kt9 => first | kit_is | k_is)
      (case kt10 => first | kit_is | k_is)
      (case kt11 => first | kit_is | k_is)
      (case kt12 => first | kit_is | k_is)
      (case kt13 => first | kit_is | k_is)
      (case kt14 => first | kit_is | k_is)
      (case kt15 => first | kit_is | k_is)
      (case kt16 => first | kit_is | k_is)
      (case kt17 => first | kit_is | k_is)
      (case kt18 => first | kit_is | k_is)
      (case kt19 => first | kit_is | k_is)
      (case kt20 => first | kit_is | k_is)
      (case kt21 => first | kit_is | k_is)
      (case kt22 => first | kit_is | k_is)
      (case kt23 => first | kit_is | k_is)
      (case kt24 => first | kit_is | k_is)
    obtain ⟨OR, eOR, MA, eMA, NT, eNT, RE, eRE, TM, eTM, DE, eD, up, up1, up2, up3, up4, kit⟩ := eE
    have dx : ∀ D : Addr, mg "DocketError" = some (.ref D) → PySem.W.subIn (Kt.kOf KX) (.ref OR) (.ref D) = some true ∧ PySem.W.subIn (Kt.kOf KX) (.ref MA) (.ref D) = some true ∧ PySem.W.subIn (Kt.kOf KX) (.ref NT) (.ref D) = some true ∧ PySem.W.subIn (Kt.kOf KX) (.ref RE) (.ref D) = some true ∧ PySem.W.subIn (Kt.kOf KX) (.ref TM) (.ref D) = some true := fun D h => by
      rw [eD.g] at h
      cases h
      exact ⟨up, up1, up2, up3, up4⟩
    have g_MOST_FINDINGS : ∃ t, mg "MOST_FINDINGS" = some (.int 12 t) := by
      refine' Kt.int_mk KX G ?a
      (case a => k_is)
    have b_sum : mg "sum" = none := by
      refine' PySem.W.mg_none_of KX G ?a
      (case a => k_is)
    have b_sorted : mg "sorted" = none := by
      refine' PySem.W.mg_none_of KX G ?a
      (case a => k_is)
    have b_range : mg "range" = none := by
      refine' PySem.W.mg_none_of KX G ?a
      (case a => k_is)
    have b_len : mg "len" = none := by
      refine' PySem.W.mg_none_of KX G ?a
      (case a => k_is)
    have b_zip : mg "zip" = none := by
      refine' PySem.W.mg_none_of KX G ?a
      (case a => k_is)
    have b_any : mg "any" = none := by
      refine' PySem.W.mg_none_of KX G ?a
      (case a => k_is)
    have b_list : mg "list" = none := by
      refine' PySem.W.mg_none_of KX G ?a
      (case a => k_is)
    have b_tuple : mg "tuple" = none := by
      refine' PySem.W.mg_none_of KX G ?a
      (case a => k_is)
    have b_abs : mg "abs" = none := by
      refine' PySem.W.mg_none_of KX G ?a
      (case a => k_is)
    have b_int : mg "int" = none := by
      refine' PySem.W.mg_none_of KX G ?a
      (case a => k_is)
    have b_isinstance : mg "isinstance" = none := by
      refine' PySem.W.mg_none_of KX G ?a
      (case a => k_is)
    have b_ValueError : mg "ValueError" = none := by
      refine' PySem.W.mg_none_of KX G ?a
      (case a => k_is)
    have b_bool : mg "bool" = none := by
      refine' PySem.W.mg_none_of KX G ?a
      (case a => k_is)
    have T : F52.Txt (Kt.kOf KX) mg OR MA NT RE TM := by
      exact ⟨b_sum, b_sorted, b_range, b_len, b_zip, b_any, b_list, b_tuple, b_abs, b_int, b_isinstance, b_ValueError, b_bool, A_dealt, A_shifted, A_claims, A_debts_by, A_net_of, A_burden, A_greatest_burden, A_is_enough, A__law_open, A__law_mixed, A__law_draw, A__law_told, A__law_parties, A__law_expenses, A__law_burden, A__law_ways, A__law_due, A__law_asked, A__law_refused, A_law, eOR, eMA, eNT, eRE, eTM, ⟨DE, eD, up⟩, kit, dx, g_MOST_FINDINGS⟩
    have B_dealt : Kj.TblF (Kt.kOf KX) mg "dealt" F52.s_dealt 91 89 := by
      unfold Kt.kOf
      refine' Kj.tblF_mk KX G ?a ?l ?e ?k
      (case a => k_is); (case l => k_is); (case e => k_is); (case k => k_is)
    have B_greatest_burden : Kj.TblF (Kt.kOf KX) mg "greatest_burden" F52.s_greatest_burden 125 123 := by
      unfold Kt.kOf
      refine' Kj.tblF_mk KX G ?a ?l ?e ?k
      (case a => k_is); (case l => k_is); (case e => k_is); (case k => k_is)
    have hT : ∀ q ∈ ([(91, 89), (125, 123)] : List (PySem.Addr × PySem.Addr)), h.get? q.2 = some { cls := .none, data := .fields #[] } := (List.forall_mem_cons.mpr ⟨Kj.TblF.tab B_dealt (hO _ (by decide +kernel)) (by kernel_rfl), (List.forall_mem_cons.mpr ⟨Kj.TblF.tab B_greatest_burden (hO _ (by decide +kernel)) (by kernel_rfl), (fun _ h => nomatch h)⟩)⟩)
    have nT : ∀ q ∈ ([(91, 89), (125, 123)] : List (PySem.Addr × PySem.Addr)), List.lookup q.2 (Kt.kOf KX) = none := by
      unfold Kt.kOf
      exact (List.forall_mem_cons.mpr ⟨by kernel_rfl, (List.forall_mem_cons.mpr ⟨by kernel_rfl, (fun _ h => nomatch h)⟩)⟩)
    have C : ∀ q ∈ ([(91, 89), (125, 123)] : List (PySem.Addr × PySem.Addr)), PySem.W.CodeHd h q.1 q.2 := (List.forall_mem_cons.mpr ⟨PySem.W.codeHd_of_K (c := 91) (P := 89) KX (by kernel_rfl), (List.forall_mem_cons.mpr ⟨PySem.W.codeHd_of_K (c := 125) (P := 123) KX (by kernel_rfl), (fun _ h => nomatch h)⟩)⟩)
    refine Kj.law_endT (cs := [(91, 89), (125, 123)]) (sp := Mi.spLaw (Kt.kOf KX) (⟨[123], [(89, "dealt.<locals>.<lambda>")]⟩ : Mi.TsT)) rfl T.d_law F52.bi_law hmg hT nT C (fun H a ns hl hb ht hS => ?_) (fun base TB => ?_)
    · exact ⟨a, ns, rfl, hS, hl, ⟨(List.forall_mem_cons.mpr ⟨⟨#[], ht (125, 123) (by simp), trivial⟩, (fun _ h => nomatch h)⟩), (List.forall_mem_cons.mpr ⟨LamX.TabS.nil (ht (91, 89) (by simp)), (fun _ h => nomatch h)⟩), by decide⟩, fun _ => rfl⟩
    · exact F52.ok_law (base := base) (Ts := (⟨[123], [(89, "dealt.<locals>.<lambda>")]⟩ : Mi.TsT)) T ⟨⟨⟨91, B_dealt, TB (91, 89) (by simp)⟩⟩, by simp, by simp, ⟨⟨125, B_greatest_burden, TB (125, 123) (by simp)⟩⟩, by simp⟩ F52.hm
